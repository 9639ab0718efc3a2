/- A part of the proof. -/
import Derived.Test.YtpmijenaggkpdaaGreatPa6
set_option linter.all false
namespace Go.Tidy
open Go Go.Proofs Tab
variable {tp:TProg}
structure Tw (P:Program) (t:TypeId) (n:Nat) (z:List Value):Prop where
 i:∃ i,P.info? t = some i ∧ i.size = n ∧ ∃ zv,zeroP i = some zv ∧ zv.cells.toList = z
 n:z.length = n
theorem tw_of {P:Program} {t:TypeId} {n:Nat} {z:List Value} (h1:(P.info? t).map (fun i => (i.size,(zeroP i).map (fun v => v.cells.toList))) = some (n,some z)) (h3:z.length = n):Tw P t n z:=by
 rw [Option.map_eq_some_iff] at h1
 obtain ⟨i,q1,q2⟩:=h1
 simp only [Prod.mk.injEq,Option.map_eq_some_iff] at q2
 exact ⟨⟨i,q1,q2.1,q2.2⟩,h3⟩
section
variable {P:Program} {h:TH} {K:Regs → TH → Prop} {rest:List TOper} {d:Option Tmp} {ty:TypeId} {i:Nat} {x y:Operand} {t:TypeId} {L:Rg} {n:Nat} {zl:List Value} {v:Value}
theorem WOL.alW (he:Tw P t n zl) (w:∀ h',New h h' (.cells zl true true t) → ∀ a,Kn (putL L d (.pointer (some ⟨h.next,0,none⟩))) a → WO P tp rest a h' K):∀ a,Kn L a → WO P tp (⟨d,.alloc t,ty,none,[],i⟩ :: rest) a h K:=fun a k =>
 WO.op (h1:=h.new (.cells zl true true t)) rfl rfl (fun call => by
  obtain ⟨inf,q1,q2,zv,q4,q5⟩:=he.i
  simp [stepOp,heapFirst,heapOp,zeroOf,q1,q4,q5,allocV]) (w _ (New.mk' _ _) _ (k.put d _))
theorem WOL.stW {b off m:Nat} {c vs:List Value} {fix:Bool} {el:TypeId} (hx:getL L x = some (.pointer (some ⟨b,off,none⟩))) (hy:getL L y = some v) (he:Tw P t n zl) (hg:At h b (.cells c fix true el)) (hv:v.cells.toList = vs) (hn:vs.length = n) (ho:off + n ≤ c.length) (h1:vs.all oneCell = true) (f:Free0 m h) (hb:m ≤ b)
  (w:∀ h',Put h h' b (.cells (splice c off vs) fix true el) → ∀ a,Kn (putL L d undef) a → WO P tp rest a h' K):∀ a,Kn L a → WO P tp (⟨d,.store t x y,ty,none,[],i⟩ :: rest) a h K:=by
 refine WOL.st hx hy (h1:=h.upd b (.cells (splice c off vs) fix true el)) ?_ (w _ (Put.mk' hg _))
 obtain ⟨inf,q1,q2,_⟩:=he.i
 have e1:Nat.beq v.cells.size inf.size = true:=by
  rw [q2,← hn,← hv]; simp
 have hb2:Nat.ble (off + vs.length) c.length = true:=by rw [Nat.ble_eq,hn]; exact ho
 have hp:h.put b (.cells (splice c off vs) fix true el) = some (h.upd b (.cells (splice c off vs) fix true el)):=f.put hb hg.lt
 simp only [storeT,q1,e1,Bool.cond_true,putCells,hg.get,hv,hb2,h1,Bool.and_self,hp]
end
def row0:List Value:=[.string ⟨#[]⟩,zi 0,.slice none 0 0,.slice none 0 0]
theorem tw86:Tw Tryz.prog 35 12 (row0 ++ row0 ++ row0):=tw_of (by kernel_rfl) rfl
theorem w86:(Tryz.prog.info? 35).map (fun i => i.size) = some 12:=by kernel_rfl
theorem d86:(Tryz.prog.underlying 35).map isRow = some true:=by kernel_rfl
theorem iw86 {c k:Nat} (hk:k < 3):indexAddrT Tryz.prog 35 (.pointer (some ⟨c,0,none⟩)) (zi (k:Nat)) = some (.pointer (some ⟨c,4 * k,none⟩)):=by
 have e0:indexAddrT Tryz.prog 35 (.pointer (some ⟨c,0,none⟩)) (zi 0) = some (.pointer (some ⟨c,0,none⟩)):=by kernel_rfl
 have e1:indexAddrT Tryz.prog 35 (.pointer (some ⟨c,0,none⟩)) (zi 1) = some (.pointer (some ⟨c,4,none⟩)):=by kernel_rfl
 have e2:indexAddrT Tryz.prog 35 (.pointer (some ⟨c,0,none⟩)) (zi 2) = some (.pointer (some ⟨c,8,none⟩)):=by kernel_rfl
 obtain rfl | rfl | rfl:k = 0 ∨ k = 1 ∨ k = 2:=by omega
 ·exact e0
 ·exact e1
 ·exact e2
def rowAt (s:Nat → ByteArray) (n:Int) (x y:Nat → Value) (k j:Nat):List Value:=cond (Nat.blt j k) [.string (s j),zi n,x j,y j] row0
def row12 (s:Nat → ByteArray) (n:Int) (x y:Nat → Value) (k:Nat):List Value:=rowAt s n x y k 0 ++ rowAt s n x y k 1 ++ rowAt s n x y k 2
def updV (x:Nat → Value) (k:Nat) (v:Value) (j:Nat):Value:=cond (Nat.beq j k) v (x j)
theorem updV_at {x:Nat → Value} {k:Nat} {v:Value}:updV x k v k = v:=by unfold updV; rw [Nat.beq_refl]; rfl
theorem updV_ne {x:Nat → Value} {k j:Nat} {v:Value} (h:j ≠ k):updV x k v j = x j:=by unfold updV; rw [beq_no h]; rfl
theorem row12_next {s:Nat → ByteArray} {n:Int} {x y:Nat → Value} {k:Nat} {a b:Value} (hk:k < 3):splice (row12 s n x y k) (4 * k) [.string (s k),zi n,a,b] = row12 s n (updV x k a) (updV y k b) (k + 1):=by
 obtain rfl | rfl | rfl:k = 0 ∨ k = 1 ∨ k = 2:=by omega
 ·rfl
 ·rfl
 ·rfl
theorem row12_len {s:Nat → ByteArray} {n:Int} {x y:Nat → Value} {k:Nat}:(row12 s n x y k).length = 12:=by
 have:∀ j,(rowAt s n x y k j).length = 4:=fun j => by unfold rowAt; cases Nat.blt j k <;> rfl
 unfold row12
 simp [this]
def OutC (B:Nat) (s:ByteArray) (n:Int) (C:List (Int × Bool)) (h:TH) (v:Value) (h':TH):Prop :=
 ∃ bo1 l1 k1 bo2 l2 k2,v = .tuple #[runV s n (.slice bo1 l1 k1) (.slice bo2 l2 k2),.int .i64 0] ∧ HX h h' ∧ RunC s n h' (.slice bo1 l1 k1) (.slice bo2 l2 k2) C ∧ Above B (.slice bo1 l1 k1) ∧ Above B (.slice bo2 l2 k2)
theorem NewC.out {B:Nat} {s:ByteArray} {n:Int} {C:List (Int × Bool)} {h h':TH} {v:Value} (q:NewC s n C h v h') (hB:B ≤ h.next):OutC B s n C h v h':=by
 obtain ⟨b1,l1,k1,b2,l2,k2,e,x,r,a1,a2⟩:=q
 exact ⟨b1,l1,k1,b2,l2,k2,e,x,r,a1.le hB,a2.le hB⟩
section
variable {s:ByteArray} {n:Int} {h:TH} {v1 v2:Value} {C:List (Int × Bool)}
theorem k1003 (H:Has tp) {B:Nat} (r:RunC s n h v1 v2 C) (a1:Above B v1) (a2:Above B v2) (f:Free0 h.next h):CallW Tryz.prog tp (.func (.func 10) #[] #[]) #[runV s n v1 v2] h fun v h' => OutC B s n C h v h':=by
 refine CallW.fnL (H.fn 10 f1003 rfl rfl) ?_
 obtain ⟨b1,l1,k1,b2,l2,k2,rfl,rfl⟩:=r.forms
 refine WL.sr <| WOL.box rfl fun h1 N1 => WOL.al tp52 fun h2 N2 => WOL.as rfl <| WOL.nil <| keep [(1,_),(2,_)] ⟨rfl,rfl,trivial⟩ ?_
 have A1:=N1.at_.hx N2.hx
 have X2:=N1.hx.trans N2.hx
 refine WL.sr <| WOL.ld rfl (load_row tp52 A1 rfl (Nat.le_of_ble_eq_true rfl)) ?_
 refine WOL.sto rfl rfl tp52 N2.at_ rfl rfl (Nat.le_of_ble_eq_true rfl) rfl (f.hx X2) N1.hx.next fun h3 P3 => ?_
 have X3:=P3.hx _ X2 N1.hx.next
 refine WOL.as rfl <| WOL.nil ?_
 exact WL.ret (WL.endC1 rfl rfl (load_row tp52 P3.at_ rfl (Nat.le_of_ble_eq_true rfl)) ⟨b1,l1,k1,b2,l2,k2,rfl,X3,r.hx X3,a1,a2⟩)
theorem k1004 (H:Has tp) (X:HasX tp) {z c:Nat} (hz:1 ≤ z) (hz2:z ≤ 64) (hd:n % (z:Int) = 0) (A:At h c (.cells [zi (z:Nat)] true true 3)) (r:RunC s n h v1 v2 C) (f:Free0 h.next h):CallW Tryz.prog tp (.func (.func 15) #[] #[ptr c]) #[runV s n v1 v2] h fun v h' => NewC s (n / (z:Int)) (thin z C) h v h':=by
 refine CallW.fnC (H.fn 15 f1004 rfl rfl) ?_
 obtain ⟨b1,l1,k1,b2,l2,k2,rfl,rfl⟩:=r.forms
 refine WL.sr <| WOL.box rfl fun h1 N1 => WOL.al tp52 fun h2 N2 => WOL.as rfl <| WOL.nil <| keep [(1,_),(2,_),(3,_)] ⟨rfl,rfl,rfl,trivial⟩ ?_
 have A1:=N1.at_.hx N2.hx
 have X2:=N1.hx.trans N2.hx
 refine WL.sr <| WOL.ld rfl (load_row tp52 A1 rfl (Nat.le_of_ble_eq_true rfl)) <| WOL.ld rfl (load_one tp3 (A.hx X2) rfl) ?_
 refine WOL.cl2 rfl rfl rfl ((c44 H X hz hz2 hd (r.hx X2) (f.on X2)).mono ?_)
 rintro v h3 ⟨b1,l1,k1,b2,l2,k2,rfl,X3,R,a1,a2⟩
 have n1:=N1.next
 have n2:=N2.next
 have x3:=X3.next
 have Y3:=X2.trans X3
 refine WOL.ex rfl rfl <| WOL.ex rfl rfl ?_
 refine WOL.sto rfl rfl tp52 (N2.at_.hx X3) rfl rfl (Nat.le_of_ble_eq_true rfl) rfl (f.hx Y3) N1.hx.next fun h4 P4 => ?_
 have Y4:=P4.hx _ Y3 N1.hx.next
 refine WOL.as rfl <| WOL.nil ?_
 exact WL.ret (WL.endC1 rfl rfl (load_row tp52 P4.at_ rfl (Nat.le_of_ble_eq_true rfl)) ⟨b1,l1,k1,b2,l2,k2,rfl,Y4,R.away a1 a2 P4 (by omega),a1.le (by omega),a2.le (by omega)⟩)
theorem k1005 (H:Has tp) (X:HasX tp) {lo hi c c':Nat} (h1:lo < hi) (h2:hi ≤ C.length) (A:At h c (.cells [zi (lo:Nat)] true true 3)) (A':At h c' (.cells [zi (hi:Nat)] true true 3)) (r:RunC s n h v1 v2 C) (f:Free0 h.next h):CallW Tryz.prog tp (.func (.func 17) #[] #[ptr c,ptr c']) #[runV s n v1 v2] h fun v h' => NewC s (n + lo) (partC C lo hi) h v h':=by
 refine CallW.fnC (H.fn 17 f1005 rfl rfl) ?_
 obtain ⟨s1,s2,s3,_⟩:=r.small
 obtain ⟨b1,l1,k1,b2,l2,k2,rfl,rfl⟩:=r.forms
 refine WL.sr <| WOL.box rfl fun h1 N1 => WOL.al tp52 fun h2 N2 => WOL.as rfl <| WOL.nil <| keep [(1,_),(2,_),(3,_),(4,_)] ⟨rfl,rfl,rfl,rfl,trivial⟩ ?_
 have A1:=N1.at_.hx N2.hx
 have X2:=N1.hx.trans N2.hx
 refine WL.sr <| WOL.ld rfl (load_row tp52 A1 rfl (Nat.le_of_ble_eq_true rfl)) ?_
 refine WOL.fa rfl (fa_of fo52_1) <| WOL.ld rfl (load_one tp3 A1 rfl) <| WOL.ld rfl (load_one tp3 (A.hx X2) rfl) ?_
 refine WOL.bi (v:=zi (n + lo)) rfl rfl (by show some (Value.int .i64 (fwrap .i64 (n + (lo:Int)))) = _; rw [fwrap_i64 (by omega) (by omega)]) ?_
 refine WOL.fa rfl (fa_of fo52_1) <| WOL.ld rfl (load_one tp3 A1 rfl) <| WOL.ld rfl (load_one tp3 (A'.hx X2) rfl) ?_
 refine WOL.bi (v:=zi (n + hi)) rfl rfl (by show some (Value.int .i64 (fwrap .i64 (n + (hi:Int)))) = _; rw [fwrap_i64 (by omega) (by omega)]) ?_
 refine WOL.bd rfl bd48 ?_
 refine WOL.cl2 rfl rfl rfl ((c27 H X ‹lo < hi› ‹hi ≤ C.length› (r.hx X2) (f.on X2)).mono ?_)
 rintro v h3 ⟨b1,l1,k1,b2,l2,k2,rfl,X3,R,a1,a2⟩
 have n1:=N1.next
 have n2:=N2.next
 have x3:=X3.next
 have Y3:=X2.trans X3
 refine WOL.ex rfl rfl <| WOL.ex rfl rfl ?_
 refine WOL.sto rfl rfl tp52 (N2.at_.hx X3) rfl rfl (Nat.le_of_ble_eq_true rfl) rfl (f.hx Y3) N1.hx.next fun h4 P4 => ?_
 have Y4:=P4.hx _ Y3 N1.hx.next
 refine WOL.as rfl <| WOL.nil ?_
 exact WL.ret (WL.endC1 rfl rfl (load_row tp52 P4.at_ rfl (Nat.le_of_ble_eq_true rfl)) ⟨b1,l1,k1,b2,l2,k2,rfl,Y4,R.away a1 a2 P4 (by omega),a1.le (by omega),a2.le (by omega)⟩)
end
section
variable {s:Nat → ByteArray} {n n':Int} {h:TH} {v1 v2:Nat → Value} {C D:Nat → List (Int × Bool)} {c3:Nat} {fv:Value}
set_option maxHeartbeats 4000000 in
set_option maxRecDepth 10000 in
theorem k1002 (H:Has tp) (f:Free0 h.next h) (A3:At h c3 (.cells (cells12 s (fun _ => n) v1 v2) true true 26)) (r:∀ k,RunC (s k) n h (v1 k) (v2 k) (C k))
    (cb:∀ k,k < 3 → ∀ B g w1 w2,HX h g → B ≤ g.next → RunC (s k) n g w1 w2 (C k) → Above B w1 → Above B w2 → CallW Tryz.prog tp fv #[runV (s k) n w1 w2] g fun v g' => OutC B (s k) n' (D k) g v g') :
    CallW Tryz.prog tp (.func (.func 8) #[] #[ptr c3]) #[fv] h fun v h' => ∃ x y,v = .tuple #[runs3 s (fun _ => n') x y,.bool true] ∧ HX h h' ∧ ∀ k,k < 3 → RunC (s k) n' h' (x k) (y k) (D k) ∧ Above h.next (x k) ∧ Above h.next (y k):=by
  refine CallW.fnC (H.fn 8 f1002 rfl rfl) ?_
  refine WL.sr <| WOL.alW tw86 fun h1 N1 => WOL.as rfl <| WOL.nil <| keep [(0,_),(1,_),(3,_)] ⟨rfl,rfl,rfl,trivial⟩ ?_
  refine WL.sr <| WOL.alW tw86 fun h2 N2 => WOL.nil <| keep [(0,_),(1,_),(3,_),(5,_)] ⟨rfl,rfl,rfl,rfl,trivial⟩ ?_
  have n1:=N1.next
  have n2:=N2.next
  have X2:=N1.hx.trans N2.hx
  have A1:=N1.at_.hx N2.hx
  have A5:=N2.at_
  refine WL.seq <| WL.sr ?_
  refine WOL.ld rfl (load_wide w82 d82 (A3.hx X2) rfl (Nat.le_of_ble_eq_true rfl)) <| WOL.mv rfl <| WOL.nil <| keep [(0,_),(3,_),(5,_),(10,_),(11,_)] ⟨rfl,rfl,rfl,rfl,rfl,trivial⟩ ?_
  refine WL.block ?_
  refine WL.loop (fun q a g => ∃ (k:Nat) (x y:Nat → Value),k ≤ 3 ∧ q = 3 - k ∧ HX h g ∧ h2.next ≤ g.next ∧ At g h.next (.cells (row0 ++ row0 ++ row0) true true 35) ∧ At g h1.next (.cells (row12 s n' x y k) true true 35) ∧ (∀ j,j < k → RunC (s j) n' g (x j) (y j) (D j) ∧ Above h2.next (x j) ∧ Above h2.next (y j)) ∧ Kn [(0,fv),(3,ptr h.next),(5,ptr h1.next),(10,.agg (cells12 s (fun _ => n) v1 v2).toArray),(11,zi (k:Nat))] a) 3 (fun a q => ⟨0,fun _ => undef,fun _ => undef,by omega,by omega,X2,Nat.le_refl _,A1,A5,fun j hj => absurd hj (by omega),q.sub ⟨rfl,rfl,rfl,rfl,rfl,trivial⟩⟩) ?_
  rintro q a g ⟨k,x,y,hk,rfl,X3,hn,B3,B5,hR,q⟩
  refine q.go ?_
  refine WL.sr <| WOL.bi (v:=.bool (decide ((k:Int) < 3))) rfl rfl rfl <| WOL.nil <| keep [(0,_),(3,_),(5,_),(10,_),(11,_),(12,_)] ⟨rfl,rfl,rfl,rfl,rfl,rfl,trivial⟩ ?_
  refine WL.seq ?_
  by_cases hk3:k < 3
  · rw [show decide ((k:Int) < 3) = true from decide_eq_true (by omega)]
    refine WL.yes rfl <| WL.skip ?_
    refine WL.seq <| WL.block ?_
    obtain ⟨bo1,ln1,kk1,bo2,ln2,kk2,e1,e2⟩:=(r k).forms
    refine WL.sr <| WOL.mv rfl <| WOL.idx rfl rfl (idx82 hk3) ?_
    refine WOL.al tp46 fun h3 N3 => WOL.as rfl ?_
    have Y3:=X3.trans N3.hx
    have n3:=N3.next
    rw [e1,e2]
    refine WOL.sto rfl rfl tp46 N3.at_ rfl rfl (Nat.le_of_ble_eq_true rfl) rfl (f.hx Y3) X3.next fun h4 P4 => ?_
    have Y4:=P4.hx _ Y3 X3.next
    have Z4:=P4.hx _ N3.hx (Nat.le_refl _)
    have A7:=P4.at_
    rw [← e1,← e2] at A7
    have p4:=P4.next
    refine WOL.nil <| keep [(0,_),(3,_),(5,_),(6,_),(7,_),(10,_),(11,_)] ⟨rfl,rfl,rfl,rfl,rfl,rfl,rfl,trivial⟩ ?_
    refine WL.sr <| WOL.mv rfl <| WOL.ld rfl (load_row tp46 A7 rfl (Nat.le_of_ble_eq_true rfl)) ?_
    refine WOL.cl1 rfl rfl ((c87 H ((r k).hx Y4) (f.on Y4)).mono ?_)
    rintro v h5 ⟨w1,w2,rfl,X5,R5,o1,o2⟩
    have x5:=X5.next
    have Y5:=Y4.trans X5
    refine WOL.cl1 rfl rfl ((cb k hk3 h2.next h5 w1 w2 Y5 (by omega) R5 (o1.le (by omega)) (o2.le (by omega))).mono ?_)
    rintro v h6 ⟨b1,l1,k1,b2,l2,k2,rfl,X6,R6,a1,a2⟩
    have x6:=X6.next
    have Y6:=Y5.trans X6
    have Z6:=(Z4.trans X5).trans X6
    refine WOL.mv rfl <| WOL.ex rfl rfl <| WOL.ex rfl rfl ?_
    refine WOL.al tp52 fun h7 N7 => ?_
    have n7:=N7.next
    have Y7:=Y6.trans N7.hx
    refine WOL.sto rfl rfl tp52 N7.at_ rfl rfl (Nat.le_of_ble_eq_true rfl) rfl (f.hx Y7) (by omega) fun h8 P8 => ?_
    have Y8:=P8.hx _ Y7 (by omega)
    have V8:=P8.hx _ N7.hx (Nat.le_refl _)
    have Z8:=Z6.trans V8
    have p8:=P8.next
    refine WOL.as rfl <| WOL.nil <| keep [(0,_),(3,_),(5,_),(6,_),(8,_),(9,_),(10,_),(11,_)] ⟨rfl,rfl,rfl,rfl,rfl,rfl,rfl,rfl,trivial⟩ ?_
    refine WL.seq <| WL.sr <| WOL.mv rfl <| WOL.bi (v:=.bool false) rfl rfl rfl <| WOL.nil <| keep [(0,_),(3,_),(5,_),(6,_),(8,_),(10,_),(11,_),(23,_)] ⟨rfl,rfl,rfl,rfl,rfl,rfl,rfl,rfl,trivial⟩ ?_
    refine WL.no rfl <| WL.skip ?_
    refine WL.reg ?_
    refine WOL.mv rfl <| WOL.ld rfl (load_row tp52 P8.at_ rfl (Nat.le_of_ble_eq_true rfl)) <| WOL.ix rfl rfl (iw86 hk3) ?_
    refine WOL.sto rfl rfl tp52 (B5.hx Z8) rfl rfl (by rw [row12_len]; omega) rfl (f.hx Y8) (by omega) fun h9 P9 => ?_
    have Y9:=P9.hx _ Y8 (by omega)
    have p9:=P9.next
    have B9:At h9 h1.next (.cells (splice (row12 s n' x y k) (4 * k) [.string (s k),zi n',.slice b1 l1 k1,.slice b2 l2 k2]) true true 35):=P9.at_
    rw [row12_next hk3] at B9
    have B3':=P9.oth h.next _ (by omega) (B3.hx Z8)
    have R9:=(R6.hx V8).away a1 a2 P9 (by omega)
    have hR9:∀ j,j < k → RunC (s j) n' h9 (x j) (y j) (D j) ∧ Above h2.next (x j) ∧ Above h2.next (y j):=fun j hj => by
      obtain ⟨q1,q2,q3⟩:=hR j hj
      exact ⟨(q1.hx Z8).away q2 q3 P9 (by omega),q2,q3⟩
    refine WOL.nil ?_
    refine keep [(0,_),(3,_),(5,_),(10,_),(11,_)] ⟨rfl,rfl,rfl,rfl,rfl,trivial⟩ ?_
    refine WL.reg ?_
    refine WOL.bi (v:=zi ((k + 1:Nat):Int)) rfl rfl (by show some (Value.int .i64 (fwrap .i64 ((k:Int) + 1))) = _; rw [fwrap_i64 (by omega) (by omega)]; rfl) ?_
    refine WOL.mv rfl <| WOL.nil ?_
    exact fun a q => ⟨3 - (k + 1),by omega,k + 1,updV x k (.slice b1 l1 k1),updV y k (.slice b2 l2 k2),by omega,rfl,Y9,by omega,B3',B9,fun j hj => by
      by_cases hjk:j = k
      · subst hjk
        rw [updV_at,updV_at]
        exact ⟨R9,a1,a2⟩
      · rw [updV_ne hjk,updV_ne hjk]
        exact hR9 j (by omega),q.sub ⟨rfl,rfl,rfl,rfl,rfl,trivial⟩⟩
  · rw [show decide ((k:Int) < 3) = false from decide_eq_false (by omega)]
    obtain rfl:k = 3:=by omega
    refine WL.no rfl <| WL.exit ?_
    obtain ⟨bo0,ln0,kk0,bp0,lp0,kp0,e01,e02⟩:=(hR 0 (by omega)).1.forms
    obtain ⟨bo1,ln1,kk1,bp1,lp1,kp1,e11,e12⟩:=(hR 1 (by omega)).1.forms
    obtain ⟨bo2,ln2,kk2,bp2,lp2,kp2,e21,e22⟩:=(hR 2 (by omega)).1.forms
    refine WL.sr <| WOL.ld rfl (load_wide w86 d86 B5 rfl (by rw [row12_len]; omega)) ?_
    refine WOL.stW (vs:=cells12 s (fun _ => n') x y) rfl rfl tw86 B3 rfl rfl (Nat.le_of_ble_eq_true rfl) (by unfold cells12; rw [e01,e02,e11,e12,e21,e22]; rfl) (f.hx X3) (Nat.le_refl _) fun h9 P9 => ?_
    have Y9:=P9.hx _ X3 (Nat.le_refl _)
    refine WOL.as rfl <| WOL.nil ?_
    exact WL.ret (WL.endC1 rfl rfl (load_wide w86 d86 P9.at_ rfl (Nat.le_of_ble_eq_true rfl)) ⟨x,y,rfl,Y9,fun j hj => by
      obtain ⟨q1,q2,q3⟩:=hR j hj
      exact ⟨q1.away q2 q3 P9 (by omega),q2.le (by omega),q3.le (by omega)⟩⟩)
end
end Go.Tidy
namespace Go.Tidy
open Go Go.Proofs Tab
variable {tp:TProg}
theorem three_A {m:Int} {D:Nat → List (Int × Bool)}:voteA m (three (D 0) (D 1) (D 2)) = voteA m D:=funext fun _ => rfl
theorem three_votes {m:Int} {D:Nat → List (Int × Bool)} {N:Nat}:votesC m (three (D 0) (D 1) (D 2)) N = votesC m D N:=by unfold votesC; rw [three_A]
theorem three_wr {m:Int} {D:Nat → List (Int × Bool)} {N:Nat}:cel3 (wrN m (three (D 0) (D 1) (D 2)) N) = cel3 (wrN m D N):=by
 unfold cel3
 rw [wrN_eq (k:=0) (j:=0) three_A (fun _ => rfl) N,wrN_eq (k:=1) (j:=1) three_A (fun _ => rfl) N,wrN_eq (k:=2) (j:=2) three_A (fun _ => rfl) N]
theorem thin_lenI {C:List (Int × Bool)} {z N:Nat} (h:C.length = N):(thin z C).length = (thinI z N).length:=by
 have e:=cells_range (C:=fun _ => C) (k:=0) h
 exact (congrArg (fun l => (thin z l).length) e).trans (by rw [thin_range,List.length_map])
theorem part_lenI {C:List (Int × Bool)} {lo hi N:Nat} (h:C.length = N):(partC C lo hi).length = (partI N lo hi).length:=by
 have e:=cells_range (C:=fun _ => C) (k:=0) h
 exact (congrArg (fun l => (partC l lo hi).length) e).trans (by rw [part_range,List.length_map])
section
variable {s:Nat → ByteArray} {n n':Int} {h g:TH} {v1 v2 x y:Nat → Value} {C D:Nat → List (Int × Bool)} {N N' lb:Nat} {m:Int}
theorem c53D (H:Has tp) (X:HasX tp) (r:∀ k,k < 3 → RunC (s k) n h (x k) (y k) (D k)) (hN:∀ k,k < 3 → (D k).length = N) (sm:Samp lb m) (h0:lt0 lb = false) (f:Free0 h.next h) :
  CallW Tryz.prog tp (.func (.func 11) #[] #[]) #[.agg (cells12 s (fun _ => n) x y).toArray,.float .f32 lb] h fun v h' => HX h h' ∧ ∃ w1 w2,v = .tuple #[runV (s 0) n w1 w2,.agg (cel3 (wrN m D N)).toArray,zi 0] ∧ RunC (s 0) n h' w1 w2 (votesC m D N) ∧ Above h.next w1 ∧ Above h.next w2:=by
 refine (c53 H X (r 0 (by decide)) (r 1 (by decide)) (r 2 (by decide)) (hN 0 (by decide)) (hN 1 (by decide)) (hN 2 (by decide)) sm h0 f).mono ?_
 rintro v h' ⟨q1,w1,w2,rfl,q2,q3,q4⟩
 rw [three_votes] at q2
 rw [three_wr]
 exact ⟨q1,w1,w2,rfl,q2,q3,q4⟩
theorem cells_one (r:∀ k,k < 3 → RunC (s k) n h (x k) (y k) (D k)):(cells12 s (fun _ => n) x y).all oneCell = true:=by
 obtain ⟨bo0,ln0,kk0,bp0,lp0,kp0,e01,e02⟩:=(r 0 (by omega)).forms
 obtain ⟨bo1,ln1,kk1,bp1,lp1,kp1,e11,e12⟩:=(r 1 (by omega)).forms
 obtain ⟨bo2,ln2,kk2,bp2,lp2,kp2,e21,e22⟩:=(r 2 (by omega)).forms
 unfold cells12
 rw [e01,e02,e11,e12,e21,e22]
 rfl
end
section
variable {s:Nat → ByteArray} {n:Int} {g:TH} {v1 v2:Nat → Value} {w1 w2:Value} {C:Nat → List (Int × Bool)} {N lb c3 c5 c12 c13:Nat} {m:Int} {rest:TCode} {Q:Exit → Regs → TH → Prop} {p9 p12:Value}
set_option maxHeartbeats 4000000 in
set_option maxRecDepth 10000 in
theorem k1000b (H:Has tp) (X:HasX tp) (l:∀ k,RunC (s k) n g (v1 k) (v2 k) (C k)) (hN:∀ k,(C k).length = N) (sm:Samp lb m) (h00:lt0 lb = false) (f:Free0 g.next g) (A3:At g c3 (.cells (cells12 s (fun _ => n) v1 v2) true true 26)) (A12:At g c12 (.cells (runV (s 0) n w1 w2).cells.toList true true 34)) (A13:At g c13 (.cells (cel3 (wrN m C N)) true true 41)) (RV:RunC (s 0) n g w1 w2 (votesC m C N))
  (K:∀ g',HX g g' → ∀ a,Kn [(1,.float .f32 lb),(3,ptr c3),(5,ptr c5),(9,.func (.func 8) #[] #[ptr c3]),(12,ptr c12),(13,ptr c13)] a → W Tryz.prog tp false rest a g' Q) :
  ∀ a,Kn [(1,.float .f32 lb),(3,ptr c3),(5,ptr c5),(9,.func (.func 8) #[] #[ptr c3]),(12,ptr c12),(13,ptr c13)] a → W Tryz.prog tp false (.seq (.reg r1000_14) (.seq (.seq (.reg r1000_15) (.cond (.tmp 107) (.seq (.reg r1000_16) .ret) .skip)) (.seq (.reg r1000_17) (.seq (.reg r1000_18) (.seq (.seq (.reg r1000_19) (.cond (.tmp 137) (.seq (.reg r1000_20) .ret) .skip)) rest))))) a g Q:=by
 refine WL.sr <| WOL.mv rfl ?_
 refine WOL.cl1 rfl rfl ((k1002 H f A3 l (n':=n) (D:=fun k => (C k).reverse) (fun k hk B g1 y1 y2 X1 hB R o1 o2 => (c28 H X R (f.on X1)).mono fun v g2 q => q.out hB)).mono ?_)
 rintro v h1 ⟨x,y,rfl,X1,R1⟩
 refine WOL.mv rfl <| WOL.ex rfl rfl <| WOL.ex rfl rfl ?_
 refine WOL.alW tw86 fun h2 N2 => ?_
 have x1:=X1.next
 have n2:=N2.next
 refine WOL.stW (vs:=cells12 s (fun _ => n) x y) rfl rfl tw86 N2.at_ rfl rfl (Nat.le_of_ble_eq_true rfl) (cells_one fun k hk => (R1 k hk).1) (f.hx (X1.trans N2.hx)) X1.next fun h3 P3 => ?_
 have X3:=P3.hx _ (X1.trans N2.hx) X1.next
 have Z3:=P3.hx _ N2.hx (Nat.le_refl _)
 have p3:=P3.next
 have R3:∀ k,k < 3 → RunC (s k) (n) h3 (x k) (y k) ((C k).reverse):=fun k hk => (R1 k hk).1.hx Z3
 refine WOL.as rfl <| WOL.nil <| keep [(1,_),(3,_),(5,_),(9,_),(12,_),(13,_),(15,_),(16,_)] ⟨rfl,rfl,rfl,rfl,rfl,rfl,rfl,rfl,trivial⟩ ?_
 refine WL.seq <| WL.sr <| WOL.mv rfl <| WOL.nt rfl <| WOL.nil <| keep [(1,_),(3,_),(5,_),(9,_),(12,_),(13,_),(15,_),(107,_)] ⟨rfl,rfl,rfl,rfl,rfl,rfl,rfl,rfl,trivial⟩ ?_
 refine WL.no rfl <| WL.skip ?_
 refine WL.sr <| WOL.ld rfl (load_wide w86 d86 P3.at_ rfl (Nat.le_of_ble_eq_true rfl)) <| WOL.mv rfl ?_
 refine WOL.cl2 rfl rfl rfl ((c53D H X (D:=fun k => (C k).reverse) R3 (fun k _ => by rw [List.length_reverse]; exact hN k) sm h00 (f.on X3)).mono ?_)
 rintro v h4 ⟨X4,y1,y2,rfl,R4,o1,o2⟩
 rw [votes_rev (C:=C) (D:=fun k => (C k).reverse) (fun k _ => hN k) (fun _ _ => rfl)] at R4
 obtain ⟨b1,l1,k1,b2,l2,k2,rfl,rfl⟩:=R4.forms
 have x4:=X4.next
 have Y4:=X3.trans X4
 refine WOL.mv rfl <| WOL.ex rfl rfl <| WOL.ex rfl rfl <| WOL.ex rfl rfl ?_
 refine WOL.al tp52 fun h5 N5 => WOL.al tp83 fun h6 N6 => ?_
 have n5:=N5.next
 have n6:=N6.next
 have Z6:=N5.hx.trans N6.hx
 have Y6:=Y4.trans Z6
 refine WOL.sto rfl rfl tp52 (N5.at_.hx N6.hx) rfl rfl (Nat.le_of_ble_eq_true rfl) rfl (f.hx Y6) Y4.next fun h7 P7 => ?_
 have Y7:=P7.hx _ Y6 Y4.next
 have Z7:=P7.hx _ Z6 (Nat.le_refl _)
 refine WOL.sto rfl rfl tp83 (P7.oth h5.next _ (by omega) N6.at_) rfl rfl (Nat.le_of_ble_eq_true rfl) rfl (f.hx Y7) (by omega) fun h8 P8 => ?_
 have Y8:=P8.hx _ Y7 (by omega)
 have Z8:=P8.hx _ Z7 (by omega)
 have A17:=P8.oth h4.next _ (by omega) P7.at_
 have A18:=P8.at_
 have R8:=R4.hx Z8
 refine WOL.as rfl <| WOL.nil <| keep [(1,_),(3,_),(5,_),(9,_),(12,_),(13,_),(17,_),(18,_),(19,_)] ⟨rfl,rfl,rfl,rfl,rfl,rfl,rfl,rfl,rfl,trivial⟩ ?_
 refine WL.sr <| WOL.ld rfl (load_row tp52 (A12.hx Y8) rfl (Nat.le_of_ble_eq_true rfl)) ?_
 refine WOL.cl1 rfl rfl ((c87 H (RV.hx Y8) (f.on Y8)).mono ?_)
 rintro v h9 ⟨u1,u2,rfl,X9,R9,_,_⟩
 have Y9:=Y8.trans X9
 have x9:=X9.next
 refine WOL.cl1 rfl rfl ((c28 H X R9 (f.on Y9)).mono ?_)
 rintro v h10 ⟨b1',l1',k1',b2',l2',k2',rfl,X10,R10,o1',o2'⟩
 have Y10:=Y9.trans X10
 have Z10:=X9.trans X10
 refine WOL.mv rfl <| WOL.ex rfl rfl <| WOL.ex rfl rfl ?_
 refine WOL.al tp52 fun h11 N11 => ?_
 have n11:=N11.next
 have Y11:=Y10.trans N11.hx
 refine WOL.sto rfl rfl tp52 N11.at_ rfl rfl (Nat.le_of_ble_eq_true rfl) rfl (f.hx Y11) Y10.next fun h12 P12 => ?_
 have Y12:=P12.hx _ Y11 Y10.next
 have V12:=P12.hx _ N11.hx (Nat.le_refl _)
 have Z12:=Z10.trans V12
 have R12:=R10.hx V12
 refine WOL.as rfl <| WOL.nil <| keep [(1,_),(3,_),(5,_),(9,_),(12,_),(13,_),(17,_),(18,_),(19,_),(20,_),(21,_)] ⟨rfl,rfl,rfl,rfl,rfl,rfl,rfl,rfl,rfl,rfl,rfl,trivial⟩ ?_
 have hw:∀ k,k < 3 → wrN m (fun k => (C k).reverse) N k = wrN m C N k:=fun k hk => wr_rev hk (fun k _ => hN k) (fun _ _ => rfl)
 have e18:cel3 (wrN m (fun k => (C k).reverse) N) = cel3 (wrN m C N):=by unfold cel3; rw [hw 0 (by decide),hw 1 (by decide),hw 2 (by decide)]
 have B18:At h12 h5.next (.cells (cel3 (wrN m C N)) true true 41):=by rw [← e18]; exact A18.hx Z12
 refine WL.seq <| WL.sr ?_
 refine WOL.mv rfl <| WOL.bi (v:=.bool false) rfl rfl rfl <| WOL.mv rfl <| WOL.now (b:=false) rfl rfl <| WOL.mv rfl <| WOL.now (b:=false) rfl rfl <| WOL.bi (v:=.bool false) rfl rfl rfl <| WOL.pkf rfl rfl <| WOL.mv rfl <| WOL.now (b:=false) rfl rfl ?_
 refine WOL.ld rfl (load_row tp83 B18 rfl (Nat.le_of_ble_eq_true rfl)) <| WOL.now (b:=false) rfl rfl ?_
 refine WOL.ld rfl (load_row tp83 (A13.hx Y12) rfl (Nat.le_of_ble_eq_true rfl)) <| WOL.now (b:=false) rfl rfl ?_
 refine WOL.ne83 (a:=wrN m C N 0) (b:=wrN m C N 1) (c:=wrN m C N 2) rfl rfl <| WOL.pkf rfl rfl <| WOL.mv rfl <| WOL.now (b:=false) rfl rfl ?_
 refine WOL.ld rfl (load_row tp52 (A17.hx Z12) rfl (Nat.le_of_ble_eq_true rfl)) <| WOL.now (b:=false) rfl rfl ?_
 refine WOL.ld rfl (load_row tp52 P12.at_ rfl (Nat.le_of_ble_eq_true rfl)) <| WOL.now (b:=false) rfl rfl ?_
 refine WOL.cl2 rfl rfl rfl ((c57 H (R8.hx Z12) R12).mono ?_)
 rintro v h13 ⟨rfl,X13⟩
 have Y13:=Y12.trans X13
 refine WOL.now (b:=false) rfl rfl <| WOL.nt rfl <| WOL.pkf rfl rfl <| WOL.nil ?_
 refine WL.no rfl <| WL.skip ?_
 exact kto (K h13 Y13) ⟨rfl,rfl,rfl,rfl,rfl,rfl,trivial⟩
set_option maxHeartbeats 4000000 in
set_option maxRecDepth 10000 in
theorem k1000c {z c22:Nat} (H:Has tp) (X:HasX tp) (l:∀ k,RunC (s k) n g (v1 k) (v2 k) (C k)) (hN:∀ k,(C k).length = N) (sm:Samp lb m) (h00:lt0 lb = false) (f:Free0 g.next g) (A3:At g c3 (.cells (cells12 s (fun _ => n) v1 v2) true true 26)) (A12:At g c12 (.cells (runV (s 0) n w1 w2).cells.toList true true 34)) (A13:At g c13 (.cells (cel3 (wrN m C N)) true true 41)) (RV:RunC (s 0) n g w1 w2 (votesC m C N)) (hz:1 ≤ z) (hz2:z ≤ 64) (hd:n % (z:Int) = 0) (A22:At g c22 (.cells [zi (z:Nat)] true true 3))
  (K:∀ g',HX g g' → ∀ a,Kn [(1,.float .f32 lb),(3,ptr c3),(5,ptr c5),(9,.func (.func 8) #[] #[ptr c3]),(12,ptr c12),(13,ptr c13)] a → Q .normal a g') :
  ∀ a,Kn [(1,.float .f32 lb),(3,ptr c3),(5,ptr c5),(9,.func (.func 8) #[] #[ptr c3]),(12,ptr c12),(13,ptr c13),(23,.func (.func 15) #[] #[ptr c22])] a → W Tryz.prog tp false (.seq (.reg r1000_24) (.seq (.reg r1000_25) (.seq (.reg r1000_26) (.seq (.reg r1000_27) (.cond (.tmp 185) (.seq (.reg r1000_28) .ret) .skip))))) a g Q:=by
 refine WL.sr <| WOL.mv rfl <| WOL.mv rfl ?_
 refine WOL.cl1 rfl rfl ((k1002 H f A3 l (n':=n / (z:Int)) (D:=fun k => thin z (C k)) (fun k hk B g1 y1 y2 X1 hB R o1 o2 => (k1004 H X hz hz2 hd (A22.hx X1) R (f.on X1)).mono fun v g2 q => q.out hB)).mono ?_)
 rintro v h1 ⟨x,y,rfl,X1,R1⟩
 refine WOL.mv rfl <| WOL.ex rfl rfl <| WOL.ex rfl rfl ?_
 refine WOL.alW tw86 fun h2 N2 => ?_
 have x1:=X1.next
 have n2:=N2.next
 refine WOL.stW (vs:=cells12 s (fun _ => n / (z:Int)) x y) rfl rfl tw86 N2.at_ rfl rfl (Nat.le_of_ble_eq_true rfl) (cells_one fun k hk => (R1 k hk).1) (f.hx (X1.trans N2.hx)) X1.next fun h3 P3 => ?_
 have X3:=P3.hx _ (X1.trans N2.hx) X1.next
 have Z3:=P3.hx _ N2.hx (Nat.le_refl _)
 have p3:=P3.next
 have R3:∀ k,k < 3 → RunC (s k) (n / (z:Int)) h3 (x k) (y k) (thin z (C k)):=fun k hk => (R1 k hk).1.hx Z3
 refine WOL.as rfl <| WOL.nil <| keep [(1,_),(3,_),(5,_),(9,_),(12,_),(13,_),(23,_),(24,_),(25,_)] ⟨rfl,rfl,rfl,rfl,rfl,rfl,rfl,rfl,rfl,trivial⟩ ?_
 refine WL.sr <| WOL.ld rfl (load_wide w86 d86 P3.at_ rfl (Nat.le_of_ble_eq_true rfl)) <| WOL.mv rfl ?_
 refine WOL.cl2 rfl rfl rfl ((c53D H X (D:=fun k => thin z (C k)) R3 (fun k _ => thin_lenI (hN k)) sm h00 (f.on X3)).mono ?_)
 rintro v h4 ⟨X4,y1,y2,rfl,R4,o1,o2⟩
 rw [votes_thin (C:=C) (D:=fun k => thin z (C k)) (fun k _ => hN k) (fun _ _ => rfl)] at R4
 obtain ⟨b1,l1,k1,b2,l2,k2,rfl,rfl⟩:=R4.forms
 have x4:=X4.next
 have Y4:=X3.trans X4
 refine WOL.mv rfl <| WOL.ex rfl rfl <| WOL.ex rfl rfl <| WOL.ex rfl rfl ?_
 refine WOL.al tp52 fun h5 N5 => WOL.al tp83 fun h6 N6 => ?_
 have n5:=N5.next
 have n6:=N6.next
 have Z6:=N5.hx.trans N6.hx
 have Y6:=Y4.trans Z6
 refine WOL.sto rfl rfl tp52 (N5.at_.hx N6.hx) rfl rfl (Nat.le_of_ble_eq_true rfl) rfl (f.hx Y6) Y4.next fun h7 P7 => ?_
 have Y7:=P7.hx _ Y6 Y4.next
 have Z7:=P7.hx _ Z6 (Nat.le_refl _)
 refine WOL.sto rfl rfl tp83 (P7.oth h5.next _ (by omega) N6.at_) rfl rfl (Nat.le_of_ble_eq_true rfl) rfl (f.hx Y7) (by omega) fun h8 P8 => ?_
 have Y8:=P8.hx _ Y7 (by omega)
 have Z8:=P8.hx _ Z7 (by omega)
 have A17:=P8.oth h4.next _ (by omega) P7.at_
 have A18:=P8.at_
 have R8:=R4.hx Z8
 refine WOL.as rfl <| WOL.nil <| keep [(1,_),(3,_),(5,_),(9,_),(12,_),(13,_),(23,_),(25,_),(26,_),(27,_),(28,_)] ⟨rfl,rfl,rfl,rfl,rfl,rfl,rfl,rfl,rfl,rfl,rfl,trivial⟩ ?_
 refine WL.sr <| WOL.mv rfl <| WOL.ld rfl (load_row tp52 (A12.hx Y8) rfl (Nat.le_of_ble_eq_true rfl)) ?_
 refine WOL.cl1 rfl rfl ((c87 H (RV.hx Y8) (f.on Y8)).mono ?_)
 rintro v h9 ⟨u1,u2,rfl,X9,R9,_,_⟩
 have Y9:=Y8.trans X9
 have x9:=X9.next
 refine WOL.cl1 rfl rfl ((k1004 H X hz hz2 hd (A22.hx Y9) R9 (f.on Y9)).mono ?_)
 rintro v h10 ⟨b1',l1',k1',b2',l2',k2',rfl,X10,R10,o1',o2'⟩
 have Y10:=Y9.trans X10
 have Z10:=X9.trans X10
 refine WOL.mv rfl <| WOL.ex rfl rfl <| WOL.ex rfl rfl ?_
 refine WOL.al tp52 fun h11 N11 => ?_
 have n11:=N11.next
 have Y11:=Y10.trans N11.hx
 refine WOL.sto rfl rfl tp52 N11.at_ rfl rfl (Nat.le_of_ble_eq_true rfl) rfl (f.hx Y11) Y10.next fun h12 P12 => ?_
 have Y12:=P12.hx _ Y11 Y10.next
 have V12:=P12.hx _ N11.hx (Nat.le_refl _)
 have Z12:=Z10.trans V12
 have R12:=R10.hx V12
 refine WOL.as rfl <| WOL.nil <| keep [(1,_),(3,_),(5,_),(9,_),(12,_),(13,_),(23,_),(25,_),(26,_),(27,_),(28,_),(29,_),(30,_)] ⟨rfl,rfl,rfl,rfl,rfl,rfl,rfl,rfl,rfl,rfl,rfl,rfl,rfl,trivial⟩ ?_
 refine WL.sr ?_
 refine WOL.mv rfl <| WOL.nt rfl <| WOL.mv rfl <| WOL.now (b:=false) rfl rfl <| WOL.mv rfl <| WOL.now (b:=false) rfl rfl <| WOL.bi (v:=.bool false) rfl rfl rfl <| WOL.pkf rfl rfl <| WOL.mv rfl <| WOL.now (b:=false) rfl rfl <| WOL.mv rfl <| WOL.now (b:=false) rfl rfl <| WOL.bi (v:=.bool false) rfl rfl rfl <| WOL.pkf rfl rfl <| WOL.mv rfl <| WOL.now (b:=false) rfl rfl ?_
 refine WOL.ld rfl (load_row tp52 (A17.hx Z12) rfl (Nat.le_of_ble_eq_true rfl)) <| WOL.now (b:=false) rfl rfl ?_
 refine WOL.ld rfl (load_row tp52 P12.at_ rfl (Nat.le_of_ble_eq_true rfl)) <| WOL.now (b:=false) rfl rfl ?_
 refine WOL.cl2 rfl rfl rfl ((c57 H (R8.hx Z12) R12).mono ?_)
 rintro v h13 ⟨rfl,X13⟩
 have Y13:=Y12.trans X13
 refine WOL.now (b:=false) rfl rfl <| WOL.nt rfl <| WOL.pkf rfl rfl <| WOL.nil ?_
 refine WL.no rfl <| WL.skip ?_
 exact kto (K h13 Y13) ⟨rfl,rfl,rfl,rfl,rfl,rfl,trivial⟩
set_option maxHeartbeats 4000000 in
set_option maxRecDepth 10000 in
theorem k1000d {lo hi c32 c33:Nat} (H:Has tp) (X:HasX tp) (l:∀ k,RunC (s k) n g (v1 k) (v2 k) (C k)) (hN:∀ k,(C k).length = N) (sm:Samp lb m) (h00:lt0 lb = false) (f:Free0 g.next g) (A3:At g c3 (.cells (cells12 s (fun _ => n) v1 v2) true true 26)) (A12:At g c12 (.cells (runV (s 0) n w1 w2).cells.toList true true 34)) (A13:At g c13 (.cells (cel3 (wrN m C N)) true true 41)) (RV:RunC (s 0) n g w1 w2 (votesC m C N)) (h1':lo < hi) (h2':hi ≤ N) (A32:At g c32 (.cells [zi (lo:Nat)] true true 3)) (A33:At g c33 (.cells [zi (hi:Nat)] true true 3))
  (K:∀ g',HX g g' → ∀ a,Kn [(1,.float .f32 lb),(3,ptr c3),(5,ptr c5),(9,.func (.func 8) #[] #[ptr c3]),(12,ptr c12),(13,ptr c13)] a → Q .normal a g') :
  ∀ a,Kn [(1,.float .f32 lb),(3,ptr c3),(5,ptr c5),(9,.func (.func 8) #[] #[ptr c3]),(12,ptr c12),(13,ptr c13),(34,.func (.func 17) #[] #[ptr c32,ptr c33])] a → W Tryz.prog tp false (.seq (.reg r1000_34) (.seq (.reg r1000_35) (.seq (.reg r1000_36) (.seq (.reg r1000_37) (.cond (.tmp 243) (.seq (.reg r1000_38) .ret) .skip))))) a g Q:=by
 refine WL.sr <| WOL.mv rfl <| WOL.mv rfl ?_
 refine WOL.cl1 rfl rfl ((k1002 H f A3 l (n':=n + (lo:Int)) (D:=fun k => partC (C k) lo hi) (fun k hk B g1 y1 y2 X1 hB R o1 o2 => (k1005 H X h1' (by rw [hN k]; exact h2') (A32.hx X1) (A33.hx X1) R (f.on X1)).mono fun v g2 q => q.out hB)).mono ?_)
 rintro v h1 ⟨x,y,rfl,X1,R1⟩
 refine WOL.mv rfl <| WOL.ex rfl rfl <| WOL.ex rfl rfl ?_
 refine WOL.alW tw86 fun h2 N2 => ?_
 have x1:=X1.next
 have n2:=N2.next
 refine WOL.stW (vs:=cells12 s (fun _ => n + (lo:Int)) x y) rfl rfl tw86 N2.at_ rfl rfl (Nat.le_of_ble_eq_true rfl) (cells_one fun k hk => (R1 k hk).1) (f.hx (X1.trans N2.hx)) X1.next fun h3 P3 => ?_
 have X3:=P3.hx _ (X1.trans N2.hx) X1.next
 have Z3:=P3.hx _ N2.hx (Nat.le_refl _)
 have p3:=P3.next
 have R3:∀ k,k < 3 → RunC (s k) (n + (lo:Int)) h3 (x k) (y k) (partC (C k) lo hi):=fun k hk => (R1 k hk).1.hx Z3
 refine WOL.as rfl <| WOL.nil <| keep [(1,_),(3,_),(5,_),(9,_),(12,_),(13,_),(34,_),(35,_),(36,_)] ⟨rfl,rfl,rfl,rfl,rfl,rfl,rfl,rfl,rfl,trivial⟩ ?_
 refine WL.sr <| WOL.ld rfl (load_wide w86 d86 P3.at_ rfl (Nat.le_of_ble_eq_true rfl)) <| WOL.mv rfl ?_
 refine WOL.cl2 rfl rfl rfl ((c53D H X (D:=fun k => partC (C k) lo hi) R3 (fun k _ => part_lenI (hN k)) sm h00 (f.on X3)).mono ?_)
 rintro v h4 ⟨X4,y1,y2,rfl,R4,o1,o2⟩
 rw [votes_part (C:=C) (D:=fun k => partC (C k) lo hi) (fun k _ => hN k) (fun _ _ => rfl)] at R4
 obtain ⟨b1,l1,k1,b2,l2,k2,rfl,rfl⟩:=R4.forms
 have x4:=X4.next
 have Y4:=X3.trans X4
 refine WOL.mv rfl <| WOL.ex rfl rfl <| WOL.ex rfl rfl <| WOL.ex rfl rfl ?_
 refine WOL.al tp52 fun h5 N5 => WOL.al tp83 fun h6 N6 => ?_
 have n5:=N5.next
 have n6:=N6.next
 have Z6:=N5.hx.trans N6.hx
 have Y6:=Y4.trans Z6
 refine WOL.sto rfl rfl tp52 (N5.at_.hx N6.hx) rfl rfl (Nat.le_of_ble_eq_true rfl) rfl (f.hx Y6) Y4.next fun h7 P7 => ?_
 have Y7:=P7.hx _ Y6 Y4.next
 have Z7:=P7.hx _ Z6 (Nat.le_refl _)
 refine WOL.sto rfl rfl tp83 (P7.oth h5.next _ (by omega) N6.at_) rfl rfl (Nat.le_of_ble_eq_true rfl) rfl (f.hx Y7) (by omega) fun h8 P8 => ?_
 have Y8:=P8.hx _ Y7 (by omega)
 have Z8:=P8.hx _ Z7 (by omega)
 have A17:=P8.oth h4.next _ (by omega) P7.at_
 have A18:=P8.at_
 have R8:=R4.hx Z8
 refine WOL.as rfl <| WOL.nil <| keep [(1,_),(3,_),(5,_),(9,_),(12,_),(13,_),(34,_),(36,_),(37,_),(38,_),(39,_)] ⟨rfl,rfl,rfl,rfl,rfl,rfl,rfl,rfl,rfl,rfl,rfl,trivial⟩ ?_
 refine WL.sr <| WOL.mv rfl <| WOL.ld rfl (load_row tp52 (A12.hx Y8) rfl (Nat.le_of_ble_eq_true rfl)) ?_
 refine WOL.cl1 rfl rfl ((c87 H (RV.hx Y8) (f.on Y8)).mono ?_)
 rintro v h9 ⟨u1,u2,rfl,X9,R9,_,_⟩
 have Y9:=Y8.trans X9
 have x9:=X9.next
 refine WOL.cl1 rfl rfl ((k1005 H X h1' (by rw [votesC_len]; exact h2') (A32.hx Y9) (A33.hx Y9) R9 (f.on Y9)).mono ?_)
 rintro v h10 ⟨b1',l1',k1',b2',l2',k2',rfl,X10,R10,o1',o2'⟩
 have Y10:=Y9.trans X10
 have Z10:=X9.trans X10
 refine WOL.mv rfl <| WOL.ex rfl rfl <| WOL.ex rfl rfl ?_
 refine WOL.al tp52 fun h11 N11 => ?_
 have n11:=N11.next
 have Y11:=Y10.trans N11.hx
 refine WOL.sto rfl rfl tp52 N11.at_ rfl rfl (Nat.le_of_ble_eq_true rfl) rfl (f.hx Y11) Y10.next fun h12 P12 => ?_
 have Y12:=P12.hx _ Y11 Y10.next
 have V12:=P12.hx _ N11.hx (Nat.le_refl _)
 have Z12:=Z10.trans V12
 have R12:=R10.hx V12
 refine WOL.as rfl <| WOL.nil <| keep [(1,_),(3,_),(5,_),(9,_),(12,_),(13,_),(34,_),(36,_),(37,_),(38,_),(39,_),(40,_),(41,_)] ⟨rfl,rfl,rfl,rfl,rfl,rfl,rfl,rfl,rfl,rfl,rfl,rfl,rfl,trivial⟩ ?_
 refine WL.sr ?_
 refine WOL.mv rfl <| WOL.nt rfl <| WOL.mv rfl <| WOL.now (b:=false) rfl rfl <| WOL.mv rfl <| WOL.now (b:=false) rfl rfl <| WOL.bi (v:=.bool false) rfl rfl rfl <| WOL.pkf rfl rfl <| WOL.mv rfl <| WOL.now (b:=false) rfl rfl <| WOL.mv rfl <| WOL.now (b:=false) rfl rfl <| WOL.bi (v:=.bool false) rfl rfl rfl <| WOL.pkf rfl rfl <| WOL.mv rfl <| WOL.now (b:=false) rfl rfl ?_
 refine WOL.ld rfl (load_row tp52 (A17.hx Z12) rfl (Nat.le_of_ble_eq_true rfl)) <| WOL.now (b:=false) rfl rfl ?_
 refine WOL.ld rfl (load_row tp52 P12.at_ rfl (Nat.le_of_ble_eq_true rfl)) <| WOL.now (b:=false) rfl rfl ?_
 refine WOL.cl2 rfl rfl rfl ((c57 H (R8.hx Z12) R12).mono ?_)
 rintro v h13 ⟨rfl,X13⟩
 have Y13:=Y12.trans X13
 refine WOL.now (b:=false) rfl rfl <| WOL.nt rfl <| WOL.pkf rfl rfl <| WOL.nil ?_
 refine WL.no rfl <| WL.skip ?_
 exact kto (K h13 Y13) ⟨rfl,rfl,rfl,rfl,rfl,rfl,trivial⟩
end
end Go.Tidy
namespace Go.Tidy
open Go Go.Proofs Tab
variable {tp:TProg}
section
variable {s:Nat → ByteArray} {n:Int} {g:TH} {v1 v2:Nat → Value} {w1 w2:Value} {C:Nat → List (Int × Bool)} {N lb c3 c5 c12 c13:Nat} {m:Int} {rest:TCode} {Q:Exit → Regs → TH → Prop}
set_option maxHeartbeats 4000000 in
set_option maxRecDepth 10000 in
theorem k1000a (H:Has tp) (X:HasX tp) (l:∀ k,RunC (s k) n g (v1 k) (v2 k) (C k)) (hN:∀ k,(C k).length = N) (sm:Samp lb m) (h00:lt0 lb = false) (f:Free0 g.next g) (A3:At g c3 (.cells (cells12 s (fun _ => n) v1 v2) true true 26))
  (K:∀ g' c12 c13 w1 w2,HX g g' → At g' c12 (.cells (runV (s 0) n w1 w2).cells.toList true true 34) → At g' c13 (.cells (cel3 (wrN m C N)) true true 41) → RunC (s 0) n g' w1 w2 (votesC m C N) → ∀ a,Kn [(1,.float .f32 lb),(3,ptr c3),(5,ptr c5),(9,.func (.func 8) #[] #[ptr c3]),(12,ptr c12),(13,ptr c13)] a → W Tryz.prog tp false rest a g' Q) :
  ∀ a,Kn [(1,.float .f32 lb),(3,ptr c3),(5,ptr c5)] a → W Tryz.prog tp false (.seq (.reg r1000_9) (.seq (.reg r1000_10) (.seq (.reg r1000_11) (.seq (.seq (.reg r1000_12) (.cond (.tmp 100) (.seq (.reg r1000_13) .ret) .skip)) rest)))) a g Q:=by
 refine WL.sr <| WOL.mf rfl <| WOL.as rfl <| WOL.nil <| keep [(1,_),(3,_),(5,_),(9,_)] ⟨rfl,rfl,rfl,rfl,trivial⟩ ?_
 refine WL.sr <| WOL.mv rfl ?_
 refine WOL.cl1 rfl rfl ((k1002 H f A3 l (n':=n) (D:=C) (fv:=.func (.func 10) #[] #[]) (fun k hk B g1 y1 y2 X1 hB R o1 o2 => k1003 H R o1 o2 (f.on X1))).mono ?_)
 rintro v h1 ⟨x,y,rfl,X1,R1⟩
 refine WOL.mv rfl <| WOL.ex rfl rfl <| WOL.ex rfl rfl ?_
 refine WOL.alW tw86 fun h2 N2 => ?_
 have x1:=X1.next
 have n2:=N2.next
 refine WOL.stW (vs:=cells12 s (fun _ => n) x y) rfl rfl tw86 N2.at_ rfl rfl (Nat.le_of_ble_eq_true rfl) (cells_one fun k hk => (R1 k hk).1) (f.hx (X1.trans N2.hx)) X1.next fun h3 P3 => ?_
 have X3:=P3.hx _ (X1.trans N2.hx) X1.next
 have Z3:=P3.hx _ N2.hx (Nat.le_refl _)
 have p3:=P3.next
 have R3:∀ k,k < 3 → RunC (s k) (n) h3 (x k) (y k) (C k):=fun k hk => (R1 k hk).1.hx Z3
 refine WOL.as rfl <| WOL.nil <| keep [(1,_),(3,_),(5,_),(9,_),(10,_),(11,_)] ⟨rfl,rfl,rfl,rfl,rfl,rfl,trivial⟩ ?_
 refine WL.sr <| WOL.ld rfl (load_wide w86 d86 P3.at_ rfl (Nat.le_of_ble_eq_true rfl)) <| WOL.mv rfl ?_
 refine WOL.cl2 rfl rfl rfl ((c53D H X (D:=fun k => C k) R3 (fun k _ => hN k) sm h00 (f.on X3)).mono ?_)
 rintro v h4 ⟨X4,y1,y2,rfl,R4,o1,o2⟩
 obtain ⟨b1,l1,k1,b2,l2,k2,rfl,rfl⟩:=R4.forms
 have x4:=X4.next
 have Y4:=X3.trans X4
 refine WOL.mv rfl <| WOL.ex rfl rfl <| WOL.ex rfl rfl <| WOL.ex rfl rfl ?_
 refine WOL.al tp52 fun h5 N5 => WOL.al tp83 fun h6 N6 => ?_
 have n5:=N5.next
 have n6:=N6.next
 have Z6:=N5.hx.trans N6.hx
 have Y6:=Y4.trans Z6
 refine WOL.sto rfl rfl tp52 (N5.at_.hx N6.hx) rfl rfl (Nat.le_of_ble_eq_true rfl) rfl (f.hx Y6) Y4.next fun h7 P7 => ?_
 have Y7:=P7.hx _ Y6 Y4.next
 have Z7:=P7.hx _ Z6 (Nat.le_refl _)
 refine WOL.sto rfl rfl tp83 (P7.oth h5.next _ (by omega) N6.at_) rfl rfl (Nat.le_of_ble_eq_true rfl) rfl (f.hx Y7) (by omega) fun h8 P8 => ?_
 have Y8:=P8.hx _ Y7 (by omega)
 have Z8:=P8.hx _ Z7 (by omega)
 have A17:=P8.oth h4.next _ (by omega) P7.at_
 have A18:=P8.at_
 have R8:=R4.hx Z8
 refine WOL.as rfl <| WOL.nil <| keep [(1,_),(3,_),(5,_),(9,_),(12,_),(13,_),(14,_)] ⟨rfl,rfl,rfl,rfl,rfl,rfl,rfl,trivial⟩ ?_
 refine WL.seq <| WL.sr ?_
 obtain ⟨G,hG,sG⟩:=(l 0).lens
 obtain ⟨FV,hFV,sFV⟩:=R8.lens
 have hFV:FV.length = (votesC m C N).length:=hFV
 have hVl:=votesC_len (m:=m) (C:=C) (N:=N)
 obtain ⟨bo1,ln1,kk1,bo2,ln2,kk2,e1,e2⟩:=(l 0).forms
 have hN0:=hN 0
 refine WOL.mv rfl <| WOL.bi (v:=.bool false) rfl rfl rfl <| WOL.mv rfl <| WOL.now (b:=false) rfl rfl ?_
 refine WOL.ld rfl (load_row tp52 A17 rfl (Nat.le_of_ble_eq_true rfl)) <| WOL.now (b:=false) rfl rfl ?_
 refine WOL.cl1 rfl rfl ((c31 H R8).mono ?_)
 rintro v h9 ⟨rfl,X9⟩
 have Y9:=Y8.trans X9
 refine WOL.now (b:=false) rfl rfl <| WOL.bi (v:=.bool false) rfl rfl rfl <| WOL.pkf rfl rfl <| WOL.mv rfl <| WOL.now (b:=false) rfl rfl ?_
 refine WOL.fa rfl (fa_of fo52_2) <| WOL.now (b:=false) rfl rfl ?_
 refine WOL.ld rfl (load_one tp43 (A17.hx X9) rfl) <| WOL.now (b:=false) rfl rfl ?_
 refine WOL.len rfl (SlL.hx sFV X9) u43 <| WOL.now (b:=false) rfl rfl ?_
 refine WOL.ix rfl rfl (ix82 (k:=0) (by decide)) <| WOL.now (b:=false) rfl rfl <| WOL.fa rfl (fa_of fo46_2) <| WOL.now (b:=false) rfl rfl ?_
 refine WOL.ld rfl (load_one tp43 (A3.hx Y9) rfl) <| WOL.now (b:=false) rfl rfl ?_
 refine WOL.len rfl (SlL.hx sG Y9) u43 <| WOL.now (b:=false) rfl rfl ?_
 rw [show FV.length = N by omega,show G.length = N by omega]
 refine WOL.bi rfl rfl (ne_same _) <| WOL.pkf rfl rfl <| WOL.nil ?_
 refine WL.no rfl <| WL.skip ?_
 exact kto (K h9 _ _ _ _ Y9 (A17.hx X9) (A18.hx X9) (R8.hx X9)) ⟨rfl,rfl,rfl,rfl,rfl,rfl,trivial⟩
set_option maxHeartbeats 4000000 in
set_option maxRecDepth 10000 in
theorem k1000e {a0 a1 a2:Int} (H:Has tp) (X:HasX tp) (l:∀ k,RunC (s k) n g (v1 k) (v2 k) (C k)) (hN:∀ k,(C k).length = N) (sm:Samp lb m) (h00:lt0 lb = false) (f:Free0 g.next g) (A3:At g c3 (.cells (cells12 s (fun _ => n) v1 v2) true true 26)) (A12:At g c12 (.cells (runV (s 0) n w1 w2).cells.toList true true 34)) (A13:At g c13 (.cells (cel3 (wrN m C N)) true true 41)) (RV:RunC (s 0) n g w1 w2 (votesC m C N)) (h0:0 ≤ a0 ∧ a0 ≤ 255) (A5:At g c5 (.cells [.int .u8 a0,.int .u8 a1,.int .u8 a2] true true 28))
  (K:∀ g',HX g g' → ∀ a,Kn [(1,.float .f32 lb),(3,ptr c3),(5,ptr c5),(9,.func (.func 8) #[] #[ptr c3]),(12,ptr c12),(13,ptr c13)] a → W Tryz.prog tp false rest a g' Q) :
  ∀ a,Kn [(1,.float .f32 lb),(3,ptr c3),(5,ptr c5),(9,.func (.func 8) #[] #[ptr c3]),(12,ptr c12),(13,ptr c13)] a → W Tryz.prog tp false (.seq (.seq (.reg r1000_21) (.seq (.reg r1000_22) (.cond (.tmp 148) (.seq (.reg r1000_23) (.seq (.reg r1000_24) (.seq (.reg r1000_25) (.seq (.reg r1000_26) (.seq (.reg r1000_27) (.cond (.tmp 185) (.seq (.reg r1000_28) .ret) .skip)))))) .skip))) rest) a g Q:=by
 obtain ⟨q1,q2,q3,_⟩:=(l 0).small
 obtain ⟨bo1,ln1,kk1,bo2,ln2,kk2,e1,e2⟩:=(l 0).forms
 refine WL.seq <| WL.sr ?_
 refine WOL.ix rfl rfl ixC0 ?_
 refine WOL.ld rfl (load_one tp5 A5 rfl) ?_
 refine WOL.convU u5 u3 rfl h0.1 h0.2 ?_
 refine WOL.rem rfl rfl h0.1 (by omega) ?_
 have m1:0 ≤ a0 % 4:=Int.emod_nonneg _ (by omega)
 have m2:a0 % 4 < 4:=Int.emod_lt_of_pos _ (by omega)
 generalize a0 % 4 = t at *
 refine WOL.add rfl rfl (by omega) (by omega) ?_
 obtain ⟨z,hz⟩:∃ z:Nat,1 + t = (z:Int):=⟨(1 + t).toNat,by omega⟩
 rw [hz]
 refine WOL.al tp3 fun h1 N1 => ?_
 refine WOL.sto rfl rfl tp3 N1.at_ rfl rfl (Nat.le_of_ble_eq_true rfl) rfl (f.hx N1.hx) (Nat.le_refl _) fun h2 P2 => ?_
 have X2:=P2.hx _ N1.hx (Nat.le_refl _)
 have A22:At h2 g.next (.cells [zi (z:Nat)] true true 3):=P2.at_
 refine WOL.nil <| keep [(1,_),(3,_),(5,_),(9,_),(12,_),(13,_),(22,_)] ⟨rfl,rfl,rfl,rfl,rfl,rfl,rfl,trivial⟩ ?_
 refine WL.sr ?_
 refine WOL.ix rfl rfl (ix82 (k:=0) (by decide)) <| WOL.fa rfl (fa_of fo46_1) ?_
 refine WOL.ld rfl (load_one tp3 (A3.hx X2) rfl) <| WOL.ld rfl (load_one tp3 A22 rfl) ?_
 refine WOL.rem rfl rfl q2 (by omega) <| WOL.bi rfl rfl ezero <| WOL.nil <| keep [(1,_),(3,_),(5,_),(9,_),(12,_),(13,_),(22,_),(148,_)] ⟨rfl,rfl,rfl,rfl,rfl,rfl,rfl,rfl,trivial⟩ ?_
 cases hd:(n % (z:Int) == 0) with
 | false =>
  refine WL.no rfl <| WL.skip ?_
  exact kto (K h2 X2) ⟨rfl,rfl,rfl,rfl,rfl,rfl,trivial⟩
 | true =>
  refine WL.yes rfl ?_
  refine WL.sr <| WOL.mf rfl <| WOL.as rfl <| WOL.nil <| keep [(1,_),(3,_),(5,_),(9,_),(12,_),(13,_),(23,_)] ⟨rfl,rfl,rfl,rfl,rfl,rfl,rfl,trivial⟩ ?_
  refine k1000c H X (fun k => (l k).hx X2) hN sm h00 (f.on X2) (A3.hx X2) (A12.hx X2) (A13.hx X2) (RV.hx X2) (by omega) (by omega) (by simpa using hd) A22 fun g' X' => ?_
  exact K g' (X2.trans X')
set_option maxHeartbeats 4000000 in
set_option maxRecDepth 10000 in
theorem k1000f {a0 a1 a2:Int} (H:Has tp) (X:HasX tp) (l:∀ k,RunC (s k) n g (v1 k) (v2 k) (C k)) (hN:∀ k,(C k).length = N) (sm:Samp lb m) (h00:lt0 lb = false) (f:Free0 g.next g) (A3:At g c3 (.cells (cells12 s (fun _ => n) v1 v2) true true 26)) (A12:At g c12 (.cells (runV (s 0) n w1 w2).cells.toList true true 34)) (A13:At g c13 (.cells (cel3 (wrN m C N)) true true 41)) (RV:RunC (s 0) n g w1 w2 (votesC m C N)) (h1:0 ≤ a1 ∧ a1 ≤ 255) (h2:0 ≤ a2 ∧ a2 ≤ 255) (A5:At g c5 (.cells [.int .u8 a0,.int .u8 a1,.int .u8 a2] true true 28))
  (K:∀ g',HX g g' → ∀ a,Kn [(1,.float .f32 lb),(3,ptr c3),(5,ptr c5),(9,.func (.func 8) #[] #[ptr c3]),(12,ptr c12),(13,ptr c13)] a → W Tryz.prog tp false rest a g' Q) :
  ∀ a,Kn [(1,.float .f32 lb),(3,ptr c3),(5,ptr c5),(9,.func (.func 8) #[] #[ptr c3]),(12,ptr c12),(13,ptr c13)] a → W Tryz.prog tp false (.seq (.seq (.reg r1000_29) (.seq (.reg r1000_30) (.cond (.tmp 191) (.seq (.reg r1000_31) (.seq (.reg r1000_32) (.seq (.reg r1000_33) (.seq (.reg r1000_34) (.seq (.reg r1000_35) (.seq (.reg r1000_36) (.seq (.reg r1000_37) (.cond (.tmp 243) (.seq (.reg r1000_38) .ret) .skip)))))))) .skip))) rest) a g Q:=by
 obtain ⟨q1,q2,q3,_⟩:=(l 0).small
 have hN0:=hN 0
 obtain ⟨G,hG,sG⟩:=(l 0).lens
 obtain ⟨bo1,ln1,kk1,bo2,ln2,kk2,e1,e2⟩:=(l 0).forms
 refine WL.seq <| WL.sr ?_
 refine WOL.ix rfl rfl (ix82 (k:=0) (by decide)) <| WOL.fa rfl (fa_of fo46_2) ?_
 refine WOL.ld rfl (load_one tp43 A3 rfl) <| WOL.len rfl sG u43 ?_
 rw [show G.length = N by omega]
 refine WOL.as rfl <| WOL.nil <| keep [(1,_),(3,_),(5,_),(9,_),(12,_),(13,_),(31,_)] ⟨rfl,rfl,rfl,rfl,rfl,rfl,rfl,trivial⟩ ?_
 refine WL.sr <| WOL.mv rfl <| WOL.bi (v:=.bool (decide ((N:Int) > 0))) rfl rfl rfl <| WOL.nil <| keep [(1,_),(3,_),(5,_),(9,_),(12,_),(13,_),(31,_),(191,_)] ⟨rfl,rfl,rfl,rfl,rfl,rfl,rfl,rfl,trivial⟩ ?_
 by_cases hp:0 < N
 ·rw [show decide ((N:Int) > 0) = true from decide_eq_true (by omega)]
  refine WL.yes rfl ?_
  refine WL.sr ?_
  refine WOL.ix rfl rfl ixC1 ?_
  refine WOL.ld rfl (load_one tp5 A5 rfl) ?_
  refine WOL.convU u5 u3 rfl h1.1 h1.2 ?_
  refine WOL.mv rfl <| WOL.rem rfl rfl h1.1 (by omega) ?_
  have m1:0 ≤ a1 % (N:Int):=Int.emod_nonneg _ (by omega)
  have m2:a1 % (N:Int) < N:=Int.emod_lt_of_pos _ (by omega)
  generalize a1 % (N:Int) = t at *
  obtain ⟨lo,hlo⟩:∃ lo:Nat,t = (lo:Int):=⟨t.toNat,by omega⟩
  subst hlo
  refine WOL.al tp3 fun g1 N1 => ?_
  refine WOL.sto rfl rfl tp3 N1.at_ rfl rfl (Nat.le_of_ble_eq_true rfl) rfl (f.hx N1.hx) (Nat.le_refl _) fun g2 P2 => ?_
  have X2:=P2.hx _ N1.hx (Nat.le_refl _)
  have A32:At g2 g.next (.cells [zi (lo:Nat)] true true 3):=P2.at_
  have x2:=X2.next
  refine WOL.nil <| keep [(1,_),(3,_),(5,_),(9,_),(12,_),(13,_),(31,_),(32,_)] ⟨rfl,rfl,rfl,rfl,rfl,rfl,rfl,rfl,trivial⟩ ?_
  refine WL.sr <| WOL.ld rfl (load_one tp3 A32 rfl) <| WOL.add rfl rfl (by omega) (by omega) ?_
  refine WOL.ix rfl rfl ixC2 ?_
  refine WOL.ld rfl (load_one tp5 (A5.hx X2) rfl) ?_
  refine WOL.convU u5 u3 rfl h2.1 h2.2 ?_
  refine WOL.mv rfl <| WOL.ld rfl (load_one tp3 A32 rfl) <| WOL.sub rfl rfl (by omega) (by omega) ?_
  refine WOL.rem rfl rfl h2.1 (by omega) ?_
  have m3:0 ≤ a2 % ((N:Int) - lo):=Int.emod_nonneg _ (by omega)
  have m4:a2 % ((N:Int) - lo) < (N:Int) - lo:=Int.emod_lt_of_pos _ (by omega)
  generalize a2 % ((N:Int) - lo) = t2 at *
  refine WOL.add rfl rfl (by omega) (by omega) ?_
  obtain ⟨hi,hhi⟩:∃ hi:Nat,(lo:Int) + 1 + t2 = (hi:Int):=⟨((lo:Int) + 1 + t2).toNat,by omega⟩
  rw [hhi]
  refine WOL.al tp3 fun g3 N3 => ?_
  have X3:=X2.trans N3.hx
  refine WOL.sto rfl rfl tp3 N3.at_ rfl rfl (Nat.le_of_ble_eq_true rfl) rfl (f.hx X3) x2 fun g4 P4 => ?_
  have X4:=P4.hx _ X3 x2
  have A33:At g4 g2.next (.cells [zi (hi:Nat)] true true 3):=P4.at_
  have A32':=P4.oth g.next _ (by have:=A32.lt; omega) (A32.hx N3.hx)
  refine WOL.nil <| keep [(1,_),(3,_),(5,_),(9,_),(12,_),(13,_),(32,_),(33,_)] ⟨rfl,rfl,rfl,rfl,rfl,rfl,rfl,rfl,trivial⟩ ?_
  refine WL.sr <| WOL.mf rfl <| WOL.as rfl <| WOL.nil <| keep [(1,_),(3,_),(5,_),(9,_),(12,_),(13,_),(34,_)] ⟨rfl,rfl,rfl,rfl,rfl,rfl,rfl,trivial⟩ ?_
  refine k1000d H X (fun k => (l k).hx X4) hN sm h00 (f.on X4) (A3.hx X4) (A12.hx X4) (A13.hx X4) (RV.hx X4) (by omega) (by omega) A32' A33 fun g' X' => ?_
  exact K g' (X4.trans X')
 ·rw [show decide ((N:Int) > 0) = false from decide_eq_false (by omega)]
  refine WL.no rfl <| WL.skip ?_
  exact kto (K g (HX.refl _)) ⟨rfl,rfl,rfl,rfl,rfl,rfl,trivial⟩
end
end Go.Tidy
namespace Go.Tidy
open Go Go.Proofs Tab
variable {tp:TProg}
section
variable {P:Program} {h:TH} {K:Regs → TH → Prop} {rest:List TOper} {d:Option Tmp} {ty:TypeId} {i:Nat} {x y:Operand} {t u:TypeId} {L:Rg}
theorem WOL.fmaxX {b c:Nat} {m n:Int} (s:Sx b m) (s':Sx c n) (hx:getL L x = some (.float .f32 b)) (hy:getL L y = some (.float .f32 c)) (w:∀ r,Sx r (max m n) → ∀ a,Kn (putL L d (.float .f32 r)) a → WO P tp rest a h K):∀ a,Kn L a → WO P tp (⟨d,.call ⟨.builtin .max,#[x,y],#[t,u]⟩,ty,none,[],i⟩ :: rest) a h K:=by
  intro a k
  have ex:=getO_eval (k.o hx)
  have ey:=getO_eval (k.o hy)
  obtain ⟨r,hr,q⟩:∃ r,Sx r (max m n) ∧ pv P (Builtin.max_ #[t,u] ty #[.float .f32 b,.float .f32 c]) = some (.float .f32 r):=by
    have ho:FloatKind.f32.format.order b c = some (compare m n):=s.order s'
    cases hc:compare m n with
    | lt =>
      have hl:m < n:=by
        have:=cmp_lt (n:=m) (m:=n); rw [hc] at this; simpa using this.symm
      refine ⟨c,by rw [Int.max_eq_right (by omega)]; exact s',?_⟩
      simp [Builtin.max_,Builtin.max2,ho,hc,pv_pure]
    | gt =>
      have hl:n < m:=by
        have:=cmp_gt (n:=m) (m:=n); rw [hc] at this; simpa using this.symm
      refine ⟨b,by rw [Int.max_eq_left (by omega)]; exact s,?_⟩
      simp [Builtin.max_,Builtin.max2,ho,hc,pv_pure]
    | eq =>
      have hl:m = n:=(cmp_iff m n).1 hc
      subst hl
      refine ⟨if (FloatKind.f32.decode b).neg then c else b,by rw [Int.max_self]; split; exact s'; exact s,?_⟩
      simp [Builtin.max_,Builtin.max2,ho,hc,pv_pure]
  refine WO.plainly rfl rfl rfl rfl rfl (plainOp_of rfl (fun p hp => ?_) ?_ (plain_float hr.nan)) (w r hr _ (k.put d _))
  · simp only [Op.operands,Call.operands] at hp
    simp at hp
    rcases hp with rfl | rfl
    · rw [ex]; exact plain_float s.nan
    · rw [ey]; exact plain_float s'.nan
  · simp [toOper,execOp,resolve,invoke,builtin,pv_map,ex,ey,q]
end
theorem wrong_eq {m:Int} {c v:Int × Bool}:wrongB m c v = (v.2 && c.2 && decide (m < max (v.1 - c.1) (c.1 - v.1))):=by
 unfold wrongB
 rw [Int.max_comm,Bool.and_comm c.2 v.2]
section
variable {s:Nat → ByteArray} {n:Int} {g:TH} {v1 v2:Nat → Value} {w1 w2:Value} {C:Nat → List (Int × Bool)} {N lb c3 c5 c12 c13:Nat} {m:Int} {rest:TCode} {Q:Exit → Regs → TH → Prop} {p42 p244 p245:Value}
set_option maxHeartbeats 4000000 in
set_option maxRecDepth 10000 in
theorem k1000g (H:Has tp) {k c43:Nat} (R:RunC (s k) n g (v1 k) (v2 k) (C k)) (hN:(C k).length = N) (sm:Samp lb m) (A43:At g c43 (.cells (runV (s k) n (v1 k) (v2 k)).cells.toList true true 25)) (A12:At g c12 (.cells (runV (s 0) n w1 w2).cells.toList true true 34)) (RV:RunC (s 0) n g w1 w2 (votesC m C N)) (lim:∀ k c,c ∈ C k → c.1.natAbs ≤ 16384)
    (K:∀ g',HX g g' → ∀ a,Kn [(1,.float .f32 lb),(3,ptr c3),(12,ptr c12),(13,ptr c13),(42,p42),(50,zi (wrN m C N k)),(244,p244),(245,p245)] a → W Tryz.prog tp false rest a g' Q) :
    ∀ a,Kn [(1,.float .f32 lb),(3,ptr c3),(12,ptr c12),(13,ptr c13),(42,p42),(43,ptr c43),(244,p244),(245,p245)] a → W Tryz.prog tp false (.seq (.reg r1000_49) (.seq (.seq (.reg r1000_50) (.block 4 (.loop (.seq (.reg r1000_51) (.seq (.cond (.tmp 292) .skip (.exit 4)) (.seq (.block 5 (.seq (.reg r1000_52) (.seq (.reg r1000_53) (.cond (.tmp 322) (.reg r1000_54) .skip)))) (.reg r1000_55))))))) rest)) a g Q:=by
  have hVl:=votesC_len (m:=m) (C:=C) (N:=N)
  obtain ⟨b1,n1,q1,b2,n2,q2,rfl,rfl⟩:=RV.forms
  obtain ⟨bo1,ln1,kk1,bo2,ln2,kk2,e1,e2⟩:=R.forms
  obtain ⟨F,hF,sF,sp⟩:=RV.samp
  obtain ⟨G,hG,sG,sp0⟩:=R.samp
  obtain ⟨hsm,_⟩:=RV.small
  refine WL.sr <| WOL.as rfl <| WOL.nil ?_
  refine WL.seq <| WL.sr <| WOL.fa rfl (fa_of fo52_2) ?_
  refine WOL.ld rfl (load_one tp43 A12 rfl) <| WOL.len rfl sF u43 ?_
  rw [show F.length = N by omega]
  refine WOL.mv rfl <| WOL.nil <| keep [(1,_),(3,_),(12,_),(13,_),(42,_),(43,_),(50,_),(244,_),(245,_),(289,_),(290,_),(291,_)] ⟨rfl,rfl,rfl,rfl,rfl,rfl,rfl,rfl,rfl,rfl,rfl,rfl,trivial⟩ ?_
  refine WL.block ?_
  refine WL.loop (fun q a g' => ∃ i:Nat,i ≤ N ∧ q = N - i ∧ HX g g' ∧ Kn [(1,.float .f32 lb),(3,ptr c3),(12,ptr c12),(13,ptr c13),(42,p42),(43,ptr c43),(50,zi (wrN m C i k)),(244,p244),(245,p245),(289,.slice b1 n1 q1),(290,zi (N:Nat)),(291,zi (i:Nat))] a) N (fun a q => ⟨0,by omega,by omega,HX.refl _,q.sub ⟨rfl,rfl,rfl,rfl,rfl,rfl,rfl,rfl,rfl,rfl,rfl,rfl,trivial⟩⟩) ?_
  rintro q a g1 ⟨i,hi,rfl,X1,q⟩
  refine q.go ?_
  refine WL.sr <| WOL.bi (v:=.bool (decide ((i:Int) < (N:Int)))) rfl rfl rfl <| WOL.nil <| keep [(1,_),(3,_),(12,_),(13,_),(42,_),(43,_),(50,_),(244,_),(245,_),(289,_),(290,_),(291,_),(292,_)] ⟨rfl,rfl,rfl,rfl,rfl,rfl,rfl,rfl,rfl,rfl,rfl,rfl,rfl,trivial⟩ ?_
  refine WL.seq ?_
  by_cases hlt:i < N
  · rw [show decide ((i:Int) < (N:Int)) = true from decide_eq_true (by omega)]
    have hV:(votesC m C N)[i]? = some (voteA m C i):=votesC_get hlt
    have hc:(C k)[i]? = some (cellD C k i):=cellD_get (by omega)
    have hfb:F[i]? = some F[i]:=List.getElem?_eq_getElem (by omega)
    have hgb:G[i]? = some G[i]:=List.getElem?_eq_getElem (by omega)
    have sb:=sp i _ _ hfb hV
    have sc:=sp0 i _ _ hgb hc
    have lv:=voteA_lim (m:=m) lim i
    have lc:=cellD_lim lim k i
    have wl:=wrN_le (m:=m) (C:=C) i k
    obtain ⟨p,ip,lp⟩:=elemF (SlL.hx sF X1) hfb
    generalize F[i] = fx at *
    generalize G[i] = gx at *
    have nx:∀ {Q':Exit → Regs → TH → Prop} g' ,HX g g' → ∀ a,Kn [(1,.float .f32 lb),(3,ptr c3),(12,ptr c12),(13,ptr c13),(42,p42),(43,ptr c43),(50,zi (wrN m C (i + 1) k)),(244,p244),(245,p245),(289,.slice b1 n1 q1),(290,zi (N:Nat)),(291,zi (i:Nat))] a → W Tryz.prog tp false (.reg r1000_55) a g' (andThen (fun a g' => ∃ q',q' < N - i ∧ ∃ i:Nat,i ≤ N ∧ q' = N - i ∧ HX g g' ∧ Kn [(1,.float .f32 lb),(3,ptr c3),(12,ptr c12),(13,ptr c13),(42,p42),(43,ptr c43),(50,zi (wrN m C i k)),(244,p244),(245,p245),(289,.slice b1 n1 q1),(290,zi (N:Nat)),(291,zi (i:Nat))] a) Q'):=by
      intro Q' g' Y'
      refine WL.reg ?_
      refine WOL.bi (v:=zi ((i + 1:Nat):Int)) rfl rfl (by show some (Value.int .i64 (fwrap .i64 ((i:Int) + 1))) = _; rw [fwrap_i64 (by omega) (by omega)]; rfl) ?_
      refine WOL.mv rfl <| WOL.nil ?_
      exact fun a q => ⟨N - (i + 1),by omega,i + 1,by omega,rfl,Y',q.sub ⟨rfl,rfl,rfl,rfl,rfl,rfl,rfl,rfl,rfl,rfl,rfl,rfl,trivial⟩⟩
    -- what the comparison leaves
    have fin:∀ {Q':Exit → Regs → TH → Prop} g' (b:Bool),HX g g' → b = wrongB m (cellD C k i) (voteA m C i) → ∀ a,Kn [(1,.float .f32 lb),(3,ptr c3),(12,ptr c12),(13,ptr c13),(42,p42),(43,ptr c43),(50,zi (wrN m C i k)),(244,p244),(245,p245),(289,.slice b1 n1 q1),(290,zi (N:Nat)),(291,zi (i:Nat)),(322,.bool b)] a → W Tryz.prog tp false (.cond (.tmp 322) (.reg r1000_54) .skip) a g' (leaves 5 (andThen (fun a h => W Tryz.prog tp false (.reg r1000_55) a h (andThen (fun a g' => ∃ q',q' < N - i ∧ ∃ i:Nat,i ≤ N ∧ q' = N - i ∧ HX g g' ∧ Kn [(1,.float .f32 lb),(3,ptr c3),(12,ptr c12),(13,ptr c13),(42,p42),(43,ptr c43),(50,zi (wrN m C i k)),(244,p244),(245,p245),(289,.slice b1 n1 q1),(290,zi (N:Nat)),(291,zi (i:Nat))] a) Q')) (andThen (fun a g' => ∃ q',q' < N - i ∧ ∃ i:Nat,i ≤ N ∧ q' = N - i ∧ HX g g' ∧ Kn [(1,.float .f32 lb),(3,ptr c3),(12,ptr c12),(13,ptr c13),(42,p42),(43,ptr c43),(50,zi (wrN m C i k)),(244,p244),(245,p245),(289,.slice b1 n1 q1),(290,zi (N:Nat)),(291,zi (i:Nat))] a) Q'))):=by
      intro Q' g' b Y' hb
      have hw:wrN m C (i + 1) k = wrN m C i k + cond b 1 0:=by rw [hb]; rfl
      cases b with
      | false =>
        rw [cond_false,Int.add_zero] at hw
        refine WL.no rfl <| WL.skip ?_
        rw [← hw]
        exact kto (nx g' Y') ⟨rfl,rfl,rfl,rfl,rfl,rfl,rfl,rfl,rfl,rfl,rfl,rfl,trivial⟩
      | true =>
        rw [cond_true] at hw
        refine WL.yes rfl <| WL.reg ?_
        refine WOL.mv rfl ?_
        refine WOL.bi (v:=zi (wrN m C i k + 1)) rfl rfl (by show some (Value.int .i64 (fwrap .i64 (wrN m C i k + 1))) = _; rw [fwrap_i64 (by omega) (by omega)]) ?_
        rw [← hw]
        refine WOL.as rfl <| WOL.nil ?_
        exact kto (nx g' Y') ⟨rfl,rfl,rfl,rfl,rfl,rfl,rfl,rfl,rfl,rfl,rfl,rfl,trivial⟩
    refine WL.yes rfl <| WL.skip ?_
    refine WL.seq <| WL.block ?_
    refine WL.sr <| WOL.mv rfl <| WOL.ix rfl rfl ip <| WOL.ld rfl lp <| WOL.as rfl <| WOL.as rfl <| WOL.nil <| keep [(1,_),(3,_),(12,_),(13,_),(42,_),(43,_),(50,_),(51,_),(52,_),(244,_),(245,_),(289,_),(290,_),(291,_)] ⟨rfl,rfl,rfl,rfl,rfl,rfl,rfl,rfl,rfl,rfl,rfl,rfl,rfl,rfl,trivial⟩ ?_
    refine WL.sr ?_
    refine WOL.ld rfl (load_row tp52 (A12.hx X1) rfl (Nat.le_of_ble_eq_true rfl)) <| WOL.mv rfl ?_
    refine WOL.cl2 rfl rfl rfl ((c39 H (i:Int) (RV.hx X1)).mono ?_)
    rintro v g3 ⟨rfl,X3⟩
    have Y3:=X1.trans X3
    rw [knownC_get hV]
    cases hk:(voteA m C i).2 with
    | false =>
      repeat' (first
    | refine WOL.now (b:=true) rfl rfl ?_ | refine WOL.now (b:=false) rfl rfl ?_
    | refine WOL.skp (b:=true) rfl rfl ?_ | refine WOL.skp (b:=false) rfl rfl ?_ | refine WOL.gu rfl rfl ?_
    | refine WOL.mv rfl ?_ | refine WOL.as rfl ?_
    | refine WOL.bi rfl rfl rfl ?_ | refine WOL.nt rfl ?_
    | refine WOL.pkt rfl rfl ?_ | refine WOL.pkf rfl rfl ?_)
      refine WOL.nil ?_
      exact kto (fin g3 false Y3 (by rw [wrong_eq,hk]; rfl)) ⟨rfl,rfl,rfl,rfl,rfl,rfl,rfl,rfl,rfl,rfl,rfl,rfl,rfl,trivial⟩
    | true =>
      refine WOL.mv rfl <| WOL.now (b:=true) rfl rfl ?_
      refine WOL.ld rfl (load_row tp46 (A43.hx Y3) rfl (Nat.le_of_ble_eq_true rfl)) <| WOL.now (b:=true) rfl rfl <| WOL.mv rfl <| WOL.now (b:=true) rfl rfl ?_
      refine WOL.cl2 rfl rfl rfl ((c39 H (i:Int) (R.hx Y3)).mono ?_)
      rintro v g4 ⟨rfl,X4⟩
      have Y4:=Y3.trans X4
      rw [knownC_get hc]
      obtain ⟨p',ip',lp'⟩:=elemF (SlL.hx sG Y4) hgb
      have L43:=load_one (off:=2) tp43 (A43.hx Y4) rfl
      refine WOL.pkt rfl rfl ?_
      cases hk2:(cellD C k i).2 with
      | false =>
        repeat' (first
    | refine WOL.now (b:=true) rfl rfl ?_ | refine WOL.now (b:=false) rfl rfl ?_
    | refine WOL.skp (b:=true) rfl rfl ?_ | refine WOL.skp (b:=false) rfl rfl ?_ | refine WOL.gu rfl rfl ?_
    | refine WOL.mv rfl ?_ | refine WOL.as rfl ?_
    | refine WOL.bi rfl rfl rfl ?_ | refine WOL.nt rfl ?_
    | refine WOL.pkt rfl rfl ?_ | refine WOL.pkf rfl rfl ?_)
        refine WOL.nil ?_
        exact kto (fin g4 false Y4 (by rw [wrong_eq,hk,hk2]; rfl)) ⟨rfl,rfl,rfl,rfl,rfl,rfl,rfl,rfl,rfl,rfl,rfl,rfl,rfl,trivial⟩
      | true =>
        repeat' (first
    | (refine WOL.fa rfl (fa_of fo46_2) ?_)
    | (refine WOL.ld rfl L43 ?_)
    | (refine WOL.ix rfl rfl ip' ?_)
    | (refine WOL.ld rfl lp' ?_)
    | (refine WOL.fsub sb.x sc.x (by omega) (by omega) rfl rfl fun r1 z1 => ?_)
    | (refine WOL.fsub sc.x sb.x (by omega) (by omega) rfl rfl fun r2 z2 => ?_)
    | (refine WOL.fmaxX z1 z2 rfl rfl fun r3 z3 => ?_)
    | (refine WOL.fgx z3 sm.x rfl rfl ?_)
    | refine WOL.now (b:=true) rfl rfl ?_ | refine WOL.now (b:=false) rfl rfl ?_
    | refine WOL.skp (b:=true) rfl rfl ?_ | refine WOL.skp (b:=false) rfl rfl ?_ | refine WOL.gu rfl rfl ?_
    | refine WOL.mv rfl ?_ | refine WOL.as rfl ?_
    | refine WOL.bi rfl rfl rfl ?_ | refine WOL.nt rfl ?_
    | refine WOL.pkt rfl rfl ?_ | refine WOL.pkf rfl rfl ?_)
        refine WOL.nil ?_
        exact kto (fin g4 _ Y4 (by rw [wrong_eq,hk,hk2]; rfl)) ⟨rfl,rfl,rfl,rfl,rfl,rfl,rfl,rfl,rfl,rfl,rfl,rfl,rfl,trivial⟩
  · rw [show decide ((i:Int) < (N:Int)) = false from decide_eq_false (by omega)]
    obtain rfl:i = N:=by omega
    refine WL.no rfl <| WL.exit ?_
    exact kto (K g1 X1) ⟨rfl,rfl,rfl,rfl,rfl,rfl,rfl,rfl,trivial⟩
set_option maxHeartbeats 4000000 in
set_option maxRecDepth 10000 in
theorem k1000h (H:Has tp) (X:HasX tp) (l:∀ k,RunC (s k) n g (v1 k) (v2 k) (C k)) (hN:∀ k,(C k).length = N) (sm:Samp lb m) (f:Free0 g.next g) (A3:At g c3 (.cells (cells12 s (fun _ => n) v1 v2) true true 26)) (A12:At g c12 (.cells (runV (s 0) n w1 w2).cells.toList true true 34)) (A13:At g c13 (.cells (cel3 (wrN m C N)) true true 41)) (RV:RunC (s 0) n g w1 w2 (votesC m C N))
  (K:∀ g',HX g g' → ∀ a,Kn [] a → W Tryz.prog tp false rest a g' Q) :
  ∀ a,Kn [(1,.float .f32 lb),(3,ptr c3),(12,ptr c12),(13,ptr c13)] a → W Tryz.prog tp false (.seq (.seq (.reg r1000_39) (.block 2 (.loop (.seq (.reg r1000_40) (.seq (.cond (.tmp 246) .skip (.exit 2)) (.seq (.block 3 (.seq (.reg r1000_41) (.seq (.reg r1000_42) (.seq (.seq (.reg r1000_43) (.cond (.tmp 256) (.seq (.reg r1000_44) .ret) .skip)) (.seq (.reg r1000_45) (.seq (.reg r1000_46) (.seq (.seq (.reg r1000_47) (.cond (.tmp 287) (.seq (.reg r1000_48) .ret) .skip)) (.seq (.reg r1000_49) (.seq (.seq (.reg r1000_50) (.block 4 (.loop (.seq (.reg r1000_51) (.seq (.cond (.tmp 292) .skip (.exit 4)) (.seq (.block 5 (.seq (.reg r1000_52) (.seq (.reg r1000_53) (.cond (.tmp 322) (.reg r1000_54) .skip)))) (.reg r1000_55))))))) (.seq (.reg r1000_56) (.cond (.tmp 330) (.seq (.reg r1000_57) .ret) .skip))))))))))) (.reg r1000_58))))))) rest) a g Q:=by
 have lim:∀ k c,c ∈ C k → c.1.natAbs ≤ 16384:=fun k => (l k).small.2.2.2.2
 refine WL.seq <| WL.sr ?_
 refine WOL.ld rfl (load_wide w82 d82 A3 rfl (Nat.le_of_ble_eq_true rfl)) <| WOL.mv rfl <| WOL.nil <| keep [(1,_),(3,_),(12,_),(13,_),(244,_),(245,_)] ⟨rfl,rfl,rfl,rfl,rfl,rfl,trivial⟩ ?_
 refine WL.block ?_
 refine WL.loop (fun q a g' => ∃ k:Nat,k ≤ 3 ∧ q = 3 - k ∧ HX g g' ∧ Kn [(1,.float .f32 lb),(3,ptr c3),(12,ptr c12),(13,ptr c13),(244,.agg (cells12 s (fun _ => n) v1 v2).toArray),(245,zi (k:Nat))] a) 3 (fun a q => ⟨0,by omega,by omega,HX.refl _,q.sub ⟨rfl,rfl,rfl,rfl,rfl,rfl,trivial⟩⟩) ?_
 rintro q a g1 ⟨k,hk,rfl,X1,q⟩
 refine q.go ?_
 refine WL.sr <| WOL.bi (v:=.bool (decide ((k:Int) < 3))) rfl rfl rfl <| WOL.nil <| keep [(1,_),(3,_),(12,_),(13,_),(244,_),(245,_),(246,_)] ⟨rfl,rfl,rfl,rfl,rfl,rfl,rfl,trivial⟩ ?_
 refine WL.seq ?_
 by_cases hk3:k < 3
 ·rw [show decide ((k:Int) < 3) = true from decide_eq_true (by omega)]
  refine WL.yes rfl <| WL.skip ?_
  refine WL.seq <| WL.block ?_
  obtain ⟨bo1,ln1,kk1,bo2,ln2,kk2,e1,e2⟩:=(l k).forms
  refine WL.sr <| WOL.mv rfl <| WOL.idx rfl rfl (idx82 hk3) ?_
  refine WOL.al tp46 fun h3 N3 => WOL.as rfl ?_
  have Y3:=X1.trans N3.hx
  have n3:=N3.next
  rw [e1,e2]
  refine WOL.sto rfl rfl tp46 N3.at_ rfl rfl (Nat.le_of_ble_eq_true rfl) rfl (f.hx Y3) X1.next fun h4 P4 => ?_
  have Y4:=P4.hx _ Y3 X1.next
  have p4:=P4.next
  have A43:=P4.at_
  rw [← e1,← e2] at A43
  have A43l:=A43.lt
  refine WOL.nil <| keep [(1,_),(3,_),(12,_),(13,_),(42,_),(43,_),(244,_),(245,_)] ⟨rfl,rfl,rfl,rfl,rfl,rfl,rfl,rfl,trivial⟩ ?_
  refine WL.sr <| WOL.ld rfl (load_row tp46 A43 rfl (Nat.le_of_ble_eq_true rfl)) ?_
  refine WOL.cl1 rfl rfl ((c87 H ((l k).hx Y4) (f.on Y4)).mono ?_)
  rintro v h5 ⟨u1,u2,rfl,X5,R5,_,_⟩
  have Y5:=Y4.trans X5
  refine WOL.cl3 rfl rfl rfl rfl ((c43 H X (m:=-1) (d:=1) (by decide) (by decide) R5 (f.on Y5)).mono ?_)
  rintro v h6 (⟨hf,_⟩ | ⟨_,b1,l1,k1,b2,l2,k2,rfl,X6,R6,a1,a2⟩)
  ·rw [neg_ok (lim k)] at hf; cases hf
  have Y6:=Y5.trans X6
  have Z6:=X5.trans X6
  refine WOL.mv rfl <| WOL.ex rfl rfl <| WOL.ex rfl rfl ?_
  refine WOL.al tp52 fun h7 N7 => ?_
  have n7:=N7.next
  have Y7:=Y6.trans N7.hx
  refine WOL.sto rfl rfl tp52 N7.at_ rfl rfl (Nat.le_of_ble_eq_true rfl) rfl (f.hx Y7) Y6.next fun h8 P8 => ?_
  have Y8:=P8.hx _ Y7 Y6.next
  have V8:=P8.hx _ N7.hx (Nat.le_refl _)
  have A44:=P8.at_
  have R8:=R6.hx V8
  have Z8:=Z6.trans V8
  have p8:=P8.next
  have x6:=Y6.next
  have z8:=Z8.next
  refine WOL.as rfl <| WOL.nil <| keep [(1,_),(3,_),(12,_),(13,_),(42,_),(43,_),(44,_),(45,_),(244,_),(245,_)] ⟨rfl,rfl,rfl,rfl,rfl,rfl,rfl,rfl,rfl,rfl,trivial⟩ ?_
  refine WL.seq <| WL.sr <| WOL.mv rfl <| WOL.bi (v:=.bool false) rfl rfl rfl <| WOL.nil <| keep [(1,_),(3,_),(12,_),(13,_),(42,_),(43,_),(44,_),(244,_),(245,_),(256,_)] ⟨rfl,rfl,rfl,rfl,rfl,rfl,rfl,rfl,rfl,rfl,trivial⟩ ?_
  refine WL.no rfl <| WL.skip ?_
  refine WL.sr ?_
  refine WOL.ld rfl (load_row tp46 (A43.hx Z8) rfl (Nat.le_of_ble_eq_true rfl)) <| WOL.ld rfl (load_row tp52 A44 rfl (Nat.le_of_ble_eq_true rfl)) ?_
  refine WOL.al tp52 fun h9 N9 => ?_
  have n9:=N9.next
  have Y9:=Y8.trans N9.hx
  refine WOL.lq1 [h8.next,h6.next] rfl rfl rfl fun M hM => ((c87 H ((l k).hx' Y9 M) ((f.on Y9).held hM (fun b hb => by simp at hb; omega))).mono ?_)
  rintro v h10 ⟨x1,x2,rfl,X10,R10,_,_⟩
  replace X10:=X10.relock
  replace R10:=R10.relock h9.lock
  generalize h10.withLock h9.lock = h10 at *
  have Y10:=Y9.trans X10
  have x10:=X10.next
  refine WOL.lq1 [h8.next] rfl rfl rfl fun M hM => ((c87 H (R8.hx' (N9.hx.trans X10) M) ((f.on Y10).held hM (fun b hb => by simp at hb; omega))).mono ?_)
  rintro v h11 ⟨y1,y2,rfl,X11,R11,_,_⟩
  replace X11:=X11.relock
  replace R11:=R11.relock h10.lock
  generalize h11.withLock h10.lock = h11 at *
  have Y11:=Y10.trans X11
  have x11:=X11.next
  refine WOL.lq2 [h8.next] rfl rfl rfl rfl fun M hM => ((c50 H X ((R10.hx X11).relock M) (R11.relock M) (by rw [scC_ok]) (by rw [sum_neg]; exact zero_ok) ((f.on Y11).held hM (fun b hb => by simp at hb; omega))).mono ?_)
  rintro v h12 ⟨b3,l3,k3,b4,l4,k4,rfl,X12,R12,o3,o4⟩
  replace X12:=X12.relock
  replace R12:=R12.relock h11.lock
  replace o3:Above h11.next (.slice b3 l3 k3):=o3
  replace o4:Above h11.next (.slice b4 l4 k4):=o4
  generalize h12.withLock h11.lock = h12 at *
  have Y12:=Y11.trans X12
  have x12:=X12.next
  rw [sum_neg] at R12
  refine WOL.mv rfl <| WOL.ex rfl rfl <| WOL.ex rfl rfl ?_
  have B9:=((N9.at_.hx X10).hx X11).hx X12
  have V12:=((N9.hx.trans X10).trans X11).trans X12
  refine WOL.sto rfl rfl tp52 B9 rfl rfl (Nat.le_of_ble_eq_true rfl) rfl (f.hx Y12) (by omega) fun h13 P13 => ?_
  have Y13:=P13.hx _ Y12 (by omega)
  have Z13:=P13.hx _ V12 (Nat.le_refl _)
  have R13:=R12.away o3 o4 P13 (by omega)
  refine WOL.as rfl <| WOL.nil <| keep [(1,_),(3,_),(12,_),(13,_),(42,_),(43,_),(46,_),(47,_),(244,_),(245,_)] ⟨rfl,rfl,rfl,rfl,rfl,rfl,rfl,rfl,rfl,rfl,trivial⟩ ?_
  refine WL.sr <| WOL.ld rfl (load_row tp52 P13.at_ rfl (Nat.le_of_ble_eq_true rfl)) ?_
  refine WOL.cl1 rfl rfl ((c29 H X R13 (f.on Y13)).mono ?_)
  rintro v h14 ⟨rfl,X14⟩
  rw [zero_sq]
  have Y14:=Y13.trans X14
  refine WOL.mv rfl <| WOL.ex rfl rfl <| WOL.ex rfl rfl <| WOL.as rfl <| WOL.as rfl <| WOL.nil <| keep [(1,_),(3,_),(12,_),(13,_),(42,_),(43,_),(46,_),(47,_),(48,_),(49,_),(244,_),(245,_)] ⟨rfl,rfl,rfl,rfl,rfl,rfl,rfl,rfl,rfl,rfl,rfl,rfl,trivial⟩ ?_
  refine WL.seq <| WL.sr ?_
  have Z14:=(Z8.trans Z13).trans X14
  obtain ⟨F9,e9,r9,q9⟩:=R13
  obtain ⟨F0,e0,r0,q0⟩:=l k
  have qm:=q0.holes
  have qn:=q0.m
  have s9:SlL encS 2 h13 (.slice b4 l4 k4) (holesOf ((C k).map fun c => c.2)):=by
   have:=r9.s
   rw [List.map_map] at this
   exact this
  refine WOL.mv rfl <| WOL.bi (v:=.bool false) rfl rfl rfl <| WOL.mv rfl <| WOL.now (b:=false) rfl rfl <| WOL.mv rfl <| WOL.now (b:=false) rfl rfl <| WOL.bi (v:=.bool false) rfl rfl rfl <| WOL.pkf rfl rfl <| WOL.mv rfl <| WOL.now (b:=false) rfl rfl <| WOL.mv rfl <| WOL.now (b:=false) rfl rfl <| WOL.bi (v:=.bool false) rfl rfl rfl <| WOL.pkf rfl rfl <| WOL.mv rfl <| WOL.now (b:=false) rfl rfl ?_
  refine WOL.fa rfl (fa_of fo52_3) <| WOL.now (b:=false) rfl rfl ?_
  refine WOL.ld rfl (load_one tp44 (P13.at_.hx X14) rfl) <| WOL.now (b:=false) rfl rfl <| WOL.fa rfl (fa_of fo46_3) <| WOL.now (b:=false) rfl rfl ?_
  refine WOL.ld rfl (load_one tp44 (A43.hx Z14) rfl) <| WOL.now (b:=false) rfl rfl ?_
  refine WOL.cl2 rfl rfl rfl ((k59 H (s9.hx X14) (r0.s.hx Y14) (by omega)).mono ?_)
  rintro v h15 ⟨rfl,rfl⟩
  refine WOL.now (b:=false) rfl rfl <| WOL.nt rfl <| WOL.pkf rfl rfl <| WOL.nil <| keep [(1,_),(3,_),(12,_),(13,_),(42,_),(43,_),(244,_),(245,_),(287,_)] ⟨rfl,rfl,rfl,rfl,rfl,rfl,rfl,rfl,rfl,trivial⟩ ?_
  refine WL.no rfl <| WL.skip ?_
  refine kto (k1000g H ((l k).hx Y14) (hN k) sm (A43.hx Z14) (A12.hx Y14) (RV.hx Y14) lim fun h16 X16 => ?_) ⟨rfl,rfl,rfl,rfl,rfl,rfl,rfl,rfl,trivial⟩
  have Y16:=Y14.trans X16
  refine WL.sr <| WOL.mv rfl <| WOL.mv rfl <| WOL.ix rfl rfl (ix83 hk3) ?_
  refine WOL.ld rfl (load_one tp3 (A13.hx Y16) (cells3_get hk3)) <| WOL.bi rfl rfl (ne_same _) <| WOL.nil ?_
  refine WL.no rfl <| WL.skip ?_
  refine WL.reg ?_
  refine WOL.bi (v:=zi ((k + 1:Nat):Int)) rfl rfl (by show some (Value.int .i64 (fwrap .i64 ((k:Int) + 1))) = _; rw [fwrap_i64 (by omega) (by omega)]; rfl) ?_
  refine WOL.mv rfl <| WOL.nil ?_
  exact fun a q => ⟨3 - (k + 1),by omega,k + 1,by omega,rfl,Y16,q.sub ⟨rfl,rfl,rfl,rfl,rfl,rfl,trivial⟩⟩
 ·rw [show decide ((k:Int) < 3) = false from decide_eq_false (by omega)]
  refine WL.no rfl <| WL.exit ?_
  exact kto (K g1 X1) trivial
end
end Go.Tidy
namespace Go.Tidy
open Go Go.Proofs Tab
variable {tp:TProg}
def r1000m:TCode:=(.seq (.seq (.reg r1000_7) (.cond (.tmp 69) (.seq (.reg r1000_8) .ret) .skip)) (.seq (.reg r1000_9) (.seq (.reg r1000_10) (.seq (.reg r1000_11) (.seq (.seq (.reg r1000_12) (.cond (.tmp 100) (.seq (.reg r1000_13) .ret) .skip)) (.seq (.reg r1000_14) (.seq (.seq (.reg r1000_15) (.cond (.tmp 107) (.seq (.reg r1000_16) .ret) .skip)) (.seq (.reg r1000_17) (.seq (.reg r1000_18) (.seq (.seq (.reg r1000_19) (.cond (.tmp 137) (.seq (.reg r1000_20) .ret) .skip)) (.seq (.seq (.reg r1000_21) (.seq (.reg r1000_22) (.cond (.tmp 148) (.seq (.reg r1000_23) (.seq (.reg r1000_24) (.seq (.reg r1000_25) (.seq (.reg r1000_26) (.seq (.reg r1000_27) (.cond (.tmp 185) (.seq (.reg r1000_28) .ret) .skip)))))) .skip))) (.seq (.seq (.reg r1000_29) (.seq (.reg r1000_30) (.cond (.tmp 191) (.seq (.reg r1000_31) (.seq (.reg r1000_32) (.seq (.reg r1000_33) (.seq (.reg r1000_34) (.seq (.reg r1000_35) (.seq (.reg r1000_36) (.seq (.reg r1000_37) (.cond (.tmp 243) (.seq (.reg r1000_38) .ret) .skip)))))))) .skip))) (.seq (.seq (.reg r1000_39) (.block 2 (.loop (.seq (.reg r1000_40) (.seq (.cond (.tmp 246) .skip (.exit 2)) (.seq (.block 3 (.seq (.reg r1000_41) (.seq (.reg r1000_42) (.seq (.seq (.reg r1000_43) (.cond (.tmp 256) (.seq (.reg r1000_44) .ret) .skip)) (.seq (.reg r1000_45) (.seq (.reg r1000_46) (.seq (.seq (.reg r1000_47) (.cond (.tmp 287) (.seq (.reg r1000_48) .ret) .skip)) (.seq (.reg r1000_49) (.seq (.seq (.reg r1000_50) (.block 4 (.loop (.seq (.reg r1000_51) (.seq (.cond (.tmp 292) .skip (.exit 4)) (.seq (.block 5 (.seq (.reg r1000_52) (.seq (.reg r1000_53) (.cond (.tmp 322) (.reg r1000_54) .skip)))) (.reg r1000_55))))))) (.seq (.reg r1000_56) (.cond (.tmp 330) (.seq (.reg r1000_57) .ret) .skip))))))))))) (.reg r1000_58))))))) (.seq (.reg r1000_59) .ret))))))))))))))
theorem c1000_eq:c1000 = .seq (.reg r1000_0) (.seq (.seq (.reg r1000_1) (.block 0 (.loop (.seq (.reg r1000_2) (.seq (.cond (.tmp 55) .skip (.exit 0)) (.seq (.block 1 (.seq (.reg r1000_3) (.seq (.reg r1000_4) (.cond (.tmp 59) (.seq (.reg r1000_5) .ret) .skip)))) (.reg r1000_6))))))) r1000m):=rfl
section
variable {s:Nat → ByteArray} {n:Nat → Int} {v1 v2:Nat → Value} {F:Nat → List Nat} {S:Nat → List (Int × Int)} {es L:Nat → List Int} {h:TH} {lb:Nat} {el:Int}
set_option maxHeartbeats 4000000 in
set_option maxRecDepth 100000 in
theorem k1000m (H:Has tp) (X:HasX tp) (A:Awk tp) (t:Tail3 s n F S es L) (r:∀ k,RunH h (v1 k) (v2 k) (F k) (S k)) (hE:∀ k,SErr (F k) (es k)) (hL:∀ k,firstNZ (es k) = 0 → Lev (F k) (L k)) (hF:∀ k,(F k).length ≤ 900000) (hS:∀ k,(S k).length ≤ 900000) (eL:SampleE lb el) {g:TH} {c3 c5:Nat} {a0 a1 a2:Int} (i0:0 ≤ a0 ∧ a0 ≤ 255) (i1:0 ≤ a1 ∧ a1 ≤ 255) (i2:0 ≤ a2 ∧ a2 ≤ 255) (f:Free0 h.next h) (Y:HX h g) (A2:At g c3 (.cells (cells12 s n v1 v2) true true 26)) (A5:At g c5 (.cells [.int .u8 a0,.int .u8 a1,.int .u8 a2] true true 28)) :
    ∀ a,Kn [(1,.float .f32 lb),(3,ptr c3),(5,ptr c5)] a → W Tryz.prog tp false r1000m a g (Fin Tryz.prog [.tmp 6] fun v _ => v = .bool true):=by
  have exit:∀ g,∀ a,Kn [] a → W Tryz.prog tp false (.seq (.reg r1000_8) .ret) a g (andThen (fun a h => W Tryz.prog tp false (.seq (.reg r1000_9) (.seq (.reg r1000_10) (.seq (.reg r1000_11) (.seq (.seq (.reg r1000_12) (.cond (.tmp 100) (.seq (.reg r1000_13) .ret) .skip)) (.seq (.reg r1000_14) (.seq (.seq (.reg r1000_15) (.cond (.tmp 107) (.seq (.reg r1000_16) .ret) .skip)) (.seq (.reg r1000_17) (.seq (.reg r1000_18) (.seq (.seq (.reg r1000_19) (.cond (.tmp 137) (.seq (.reg r1000_20) .ret) .skip)) (.seq (.seq (.reg r1000_21) (.seq (.reg r1000_22) (.cond (.tmp 148) (.seq (.reg r1000_23) (.seq (.reg r1000_24) (.seq (.reg r1000_25) (.seq (.reg r1000_26) (.seq (.reg r1000_27) (.cond (.tmp 185) (.seq (.reg r1000_28) .ret) .skip)))))) .skip))) (.seq (.seq (.reg r1000_29) (.seq (.reg r1000_30) (.cond (.tmp 191) (.seq (.reg r1000_31) (.seq (.reg r1000_32) (.seq (.reg r1000_33) (.seq (.reg r1000_34) (.seq (.reg r1000_35) (.seq (.reg r1000_36) (.seq (.reg r1000_37) (.cond (.tmp 243) (.seq (.reg r1000_38) .ret) .skip)))))))) .skip))) (.seq (.seq (.reg r1000_39) (.block 2 (.loop (.seq (.reg r1000_40) (.seq (.cond (.tmp 246) .skip (.exit 2)) (.seq (.block 3 (.seq (.reg r1000_41) (.seq (.reg r1000_42) (.seq (.seq (.reg r1000_43) (.cond (.tmp 256) (.seq (.reg r1000_44) .ret) .skip)) (.seq (.reg r1000_45) (.seq (.reg r1000_46) (.seq (.seq (.reg r1000_47) (.cond (.tmp 287) (.seq (.reg r1000_48) .ret) .skip)) (.seq (.reg r1000_49) (.seq (.seq (.reg r1000_50) (.block 4 (.loop (.seq (.reg r1000_51) (.seq (.cond (.tmp 292) .skip (.exit 4)) (.seq (.block 5 (.seq (.reg r1000_52) (.seq (.reg r1000_53) (.cond (.tmp 322) (.reg r1000_54) .skip)))) (.reg r1000_55))))))) (.seq (.reg r1000_56) (.cond (.tmp 330) (.seq (.reg r1000_57) .ret) .skip))))))))))) (.reg r1000_58))))))) (.seq (.reg r1000_59) .ret))))))))))))) a h (Fin Tryz.prog [.tmp 6] fun v _ => v = .bool true)) (Fin Tryz.prog [.tmp 6] fun v _ => v = .bool true)):=by
    intro g
    refine WL.sr <| WOL.cl0 rfl ((k11 A g).mono ?_)
    rintro v h4 ⟨rfl,rfl⟩
    refine WOL.as rfl <| WOL.nil ?_
    exact WL.ret (WL.end_ rfl rfl)
  unfold r1000m
  refine WL.seq <| WL.sr ?_
  refine WOL.ld rfl (load_wide w82 d82 A2 rfl (Nat.le_of_ble_eq_true rfl)) ?_
  refine WOL.cl1 rfl rfl ((k54 H (s:=s) (n:=n) (v1:=v1) (v2:=v2) (fun k => (r k).hx Y) hE hL hF hS).mono ?_)
  rintro v h1 ⟨rfl,X1⟩
  refine WOL.bi rfl rfl nzero <| WOL.mv rfl ?_
  have Y1:=Y.trans X1
  rcases nz_cases (firstNZ [runE (s 0) (n 0) (F 0).length (S 0) (es 0) (L 0),runE (s 1) (n 1) (F 1).length (S 1) (es 1) (L 1),runE (s 2) (n 2) (F 2).length (S 2) (es 2) (L 2),cond (!shapeB (n 0) (F 0).length (n 1) (F 1).length || !shapeB (n 0) (F 0).length (n 2) (F 2).length) 2 0]) with h0 | h0
  · rw [h0]
    refine WOL.now (b:=false) rfl rfl <| WOL.mv rfl <| WOL.now (b:=false) rfl rfl ?_
    refine WOL.cl1 rfl rfl ((k55 H eL).mono ?_)
    rintro v h2 ⟨rfl,X2⟩
    have Y2:=Y1.trans X2
    refine WOL.now (b:=false) rfl rfl <| WOL.bi rfl rfl nzero ?_
    rcases nz_cases (firstNZ [el,cond (lt0 lb) 3 0]) with h3 | h3
    · rw [h3]
      refine WOL.pkf rfl rfl <| WOL.nil <| keep [(1,_),(3,_),(5,_),(69,_)] ⟨rfl,rfl,rfl,rfl,trivial⟩ ?_
      refine WL.no rfl <| WL.skip ?_
      have hEE:voteE (fun k => runE (s k) (n k) (F k).length (S k) (es k) (L k)) n (fun k => (F k).length) el lb = 0:=by
        have:=firstNZ_join [runE (s 0) (n 0) (F 0).length (S 0) (es 0) (L 0),runE (s 1) (n 1) (F 1).length (S 1) (es 1) (L 1),runE (s 2) (n 2) (F 2).length (S 2) (es 2) (L 2),cond (!shapeB (n 0) (F 0).length (n 1) (F 1).length || !shapeB (n 0) (F 0).length (n 2) (F 2).length) 2 0] [el,cond (lt0 lb) 3 0]
        rw [h0,h3] at this
        exact this.symm
      have z:=firstNZ_zero hEE
      have e0:=z _ (List.mem_cons_self ..)
      have e1:=z _ (List.mem_cons_of_mem _ (List.mem_cons_self ..))
      have e2:=z _ (List.mem_cons_of_mem _ (List.mem_cons_of_mem _ (List.mem_cons_self ..)))
      have e3:=z _ (List.mem_cons_of_mem _ (List.mem_cons_of_mem _ (List.mem_cons_of_mem _ (List.mem_cons_self ..))))
      have e4:el = 0:=z _ (List.mem_cons_of_mem _ (List.mem_cons_of_mem _ (List.mem_cons_of_mem _ (List.mem_cons_of_mem _ (List.mem_cons_self ..)))))
      have e5:=z _ (List.mem_cons_of_mem _ (List.mem_cons_of_mem _ (List.mem_cons_of_mem _ (List.mem_cons_of_mem _ (List.mem_cons_of_mem _ (List.mem_cons_self ..))))))
      obtain ⟨V,sh⟩:=three_valid t hL hEE
      have h00:lt0 lb = false:=by
        cases hb:lt0 lb with
        | false => rfl
        | true => rw [hb] at e5; cases e5
      subst e4
      obtain ⟨m,sm⟩:=samp_of eL
      have hm:=lt0_pos sm h00
      have e3:cond (!shapeB (n 0) (F 0).length (n 1) (F 1).length || !shapeB (n 0) (F 0).length (n 2) (F 2).length) (2:Int) 0 = 0:=e3
      have hn:n 1 = n 0 ∧ n 2 = n 0:=by
        cases g1:shapeB (n 0) (F 0).length (n 1) (F 1).length with
        | false => rw [g1] at e3; cases e3
        | true =>
          cases g2:shapeB (n 0) (F 0).length (n 2) (F 2).length with
          | false => rw [g1,g2] at e3; cases e3
          | true => exact ⟨(shapeB_n g1).1.symm,(shapeB_n g2).1.symm⟩
      have ek:∀ k,runE (s k) (n k) (F k).length (S k) (es k) (L k) = 0 ∧ n k = n 0:=by
        intro k
        obtain ⟨j,hj,q1,q2,q3,q4,q5,q6⟩:=t.some k
        rw [q1,q2,q3,q4,q5,q6]
        obtain rfl | rfl | rfl:j = 0 ∨ j = 1 ∨ j = 2:=by omega
        · exact ⟨e0,rfl⟩
        · exact ⟨e1,hn.1⟩
        · exact ⟨e2,hn.2⟩
      have hC:∀ k,RunC (s k) (n 0) h (v1 k) (v2 k) (cellsL (L k) (S k)) ∧ (cellsL (L k) (S k)).length = (F 0).length:=by
        intro k
        have V':=V k
        have q:=(ek k).1
        rw [(ek k).2] at V' q
        obtain ⟨_,b2⟩:=V'.back
        have c:=Cel.of V' (hE k) q
        exact ⟨⟨F k,es k,by rw [b2]; exact r k,c⟩,by rw [← c.len]; exact sh k⟩
      have h3':(fun k => cellsL (L k) (S k)) = three (cellsL (L 0) (S 0)) (cellsL (L 1) (S 1)) (cellsL (L 2) (S 2)):=by
        funext k
        refine three_all (p:=fun k => cellsL (L k) (S k) = three (cellsL (L 0) (S 0)) (cellsL (L 1) (S 1)) (cellsL (L 2) (S 2)) k) rfl rfl (fun k => ?_) k
        obtain ⟨_,_,_,q4,_,q6⟩:=t (k + 2) (by omega)
        show cellsL (L (k + 2)) (S (k + 2)) = cellsL (L 2) (S 2)
        rw [q4,q6]
      have lane0:∀ {g':TH},HX h g' → lane s (n 0) g' v1 v2 (three (cellsL (L 0) (S 0)) (cellsL (L 1) (S 1)) (cellsL (L 2) (S 2))) (F 0).length:=by
        intro g' Z
        rw [← h3']
        exact fun k => ⟨(hC k).1.hx Z,(hC k).2⟩
      have A2':At h2 c3 (.cells (cells12 s (fun _ => n 0) v1 v2) true true 26):=by
        have:cells12 s n v1 v2 = cells12 s (fun _ => n 0) v1 v2:=by unfold cells12; rw [hn.1,hn.2]
        rw [← this]
        exact (A2.hx X1).hx X2
      have rr:∀ {g':TH} (k:Nat),HX h g' → RunC (s k) (n 0) g' (v1 k) (v2 k) (cellsL (L k) (S k)):=fun k Z => (hC k).1.hx Z
      have ll:∀ k,(cellsL (L k) (S k)).length = (F 0).length:=fun k => (hC k).2
      have tt:∀ k,(three (cellsL (L 0) (S 0)) (cellsL (L 1) (S 1)) (cellsL (L 2) (S 2))) k = cellsL (L k) (S k):=fun k => (congrFun h3' k).symm
      have ln:∀ {g':TH},HX h g' → ∀ k,RunC (s k) (n 0) g' (v1 k) (v2 k) (cellsL (L k) (S k)):=fun Z k => rr k Z
      have A5':=(A5.hx X1).hx X2
      refine kto (k1000a H X (C:=fun k => cellsL (L k) (S k)) (ln Y2) ll sm h00 (f.on Y2) A2' fun h4 c12 c13 w1 w2 X4 B12 B13 RV => ?_) ⟨rfl,rfl,rfl,trivial⟩
      have Y4:=Y2.trans X4
      refine k1000b H X (ln Y4) ll sm h00 (f.on Y4) (A2'.hx X4) B12 B13 RV fun h5 X5 => ?_
      have Y5:=Y4.trans X5
      have Z5:=X4.trans X5
      refine k1000e H X (ln Y5) ll sm h00 (f.on Y5) (A2'.hx Z5) (B12.hx X5) (B13.hx X5) (RV.hx X5) i0 (A5'.hx Z5) fun h6 X6 => ?_
      have Y6:=Y5.trans X6
      have Z6:=Z5.trans X6
      have U6:=X5.trans X6
      refine k1000f H X (ln Y6) ll sm h00 (f.on Y6) (A2'.hx Z6) (B12.hx U6) (B13.hx U6) (RV.hx U6) i1 i2 (A5'.hx Z6) fun h7 X7 => ?_
      have Y7:=Y6.trans X7
      have Z7:=Z6.trans X7
      have U7:=U6.trans X7
      refine kto (k1000h H X (ln Y7) ll sm (f.on Y7) (A2'.hx Z7) (B12.hx U7) (B13.hx U7) (RV.hx U7) fun h9 X9 => ?_) ⟨rfl,rfl,rfl,rfl,trivial⟩
      refine WL.sr <| WOL.cl0 rfl ((k11 A h9).mono ?_)
      rintro v h10 ⟨rfl,rfl⟩
      refine WOL.as rfl <| WOL.nil ?_
      exact WL.done rfl rfl
    · rw [h3]
      refine WOL.pkf rfl rfl <| WOL.nil ?_
      exact WL.yes rfl <| kto (exit h2) trivial
  · rw [h0]
    repeat' (first
    | refine WOL.now (b:=true) rfl rfl ?_ | refine WOL.now (b:=false) rfl rfl ?_
    | refine WOL.skp (b:=true) rfl rfl ?_ | refine WOL.skp (b:=false) rfl rfl ?_ | refine WOL.gu rfl rfl ?_
    | refine WOL.mv rfl ?_ | refine WOL.as rfl ?_
    | refine WOL.bi rfl rfl rfl ?_ | refine WOL.nt rfl ?_
    | refine WOL.pkt rfl rfl ?_ | refine WOL.pkf rfl rfl ?_)
    refine WOL.nil ?_
    exact WL.yes rfl <| kto (exit h1) trivial
set_option maxHeartbeats 4000000 in
set_option maxRecDepth 100000 in
theorem k1000all (H:Has tp) (X:HasX tp) (A:Awk tp) (t:Tail3 s n F S es L) (r:∀ k,RunH h (v1 k) (v2 k) (F k) (S k)) (hE:∀ k,SErr (F k) (es k)) (hL:∀ k,firstNZ (es k) = 0 → Lev (F k) (L k)) (eL:SampleE lb el) {a0 a1 a2:Int} (i0:0 ≤ a0 ∧ a0 ≤ 255) (i1:0 ≤ a1 ∧ a1 ≤ 255) (i2:0 ≤ a2 ∧ a2 ≤ 255) (f:Free0 h.next h) :
    CallW Tryz.prog tp (.func (.func 3) #[] #[]) #[.agg (cells12 s n v1 v2).toArray,.float .f32 lb,.agg #[.int .u8 a0,.int .u8 a1,.int .u8 a2]] h fun v _ => v = .bool true:=by
  refine CallW.fnL (H.fn 3 f1000 rfl rfl) ?_
  show ∀ a,Kn _ a → W Tryz.prog tp false c1000 a h _
  rw [c1000_eq]
  refine WL.sr <| WOL.box rfl fun h0 N0 => WOL.box rfl fun h1 N1' => WOL.as rfl <| WOL.nil <| keep [(1,_),(3,_),(5,_)] ⟨rfl,rfl,rfl,trivial⟩ ?_
  have A2:At h1 h.next (.cells (cells12 s n v1 v2) true true 26):=N0.at_.hx N1'.hx
  have A5:At h1 h0.next (.cells [.int .u8 a0,.int .u8 a1,.int .u8 a2] true true 28):=N1'.at_
  have N1:=N0.hx.trans N1'.hx
  refine WL.seq <| WL.sr ?_
  refine WOL.ld rfl (load_wide w82 d82 A2 rfl (Nat.le_of_ble_eq_true rfl)) <| WOL.mv rfl <| WOL.nil ?_
  refine WL.block ?_
  refine WL.loop (fun q a g => ∃ k:Nat,k ≤ 3 ∧ q = 3 - k ∧ HX h1 g ∧ (∀ j,j < k → shortB (s j) (F j).length (S j).length = true) ∧ Kn [(1,.float .f32 lb),(3,ptr h.next),(5,ptr h0.next),(53,.agg (cells12 s n v1 v2).toArray),(54,zi (k:Nat))] a) 3 (fun a q => ⟨0,by omega,by omega,HX.refl _,fun j hj => absurd hj (by omega),q.sub ⟨rfl,rfl,rfl,rfl,rfl,trivial⟩⟩) ?_
  rintro q a g ⟨k,hk,rfl,X1,hs,q⟩
  refine q.go ?_
  refine WL.sr <| WOL.bi (v:=.bool (decide ((k:Int) < 3))) rfl rfl rfl <| WOL.nil <| keep [(1,_),(3,_),(5,_),(53,_),(54,_),(55,_)] ⟨rfl,rfl,rfl,rfl,rfl,rfl,trivial⟩ ?_
  refine WL.seq ?_
  by_cases hk3:k < 3
  · rw [show decide ((k:Int) < 3) = true from decide_eq_true (by omega)]
    have Y1:=N1.trans X1
    refine WL.yes rfl <| WL.skip ?_
    refine WL.seq <| WL.block ?_
    obtain ⟨bv1,kv1,ev1⟩:=(r k).f.form
    obtain ⟨bv2,kv2,ev2⟩:=(r k).s.form
    refine WL.sr <| WOL.idx rfl rfl (idx82 hk3) ?_
    refine WOL.al tp46 fun h3 N3 => ?_
    have Y3:=Y1.trans N3.hx
    rw [ev1,ev2]
    refine WOL.sto rfl rfl tp46 N3.at_ rfl rfl (Nat.le_of_ble_eq_true rfl) rfl (f.hx Y3) (by have:=Y1.next; omega) fun h4 P4 => ?_
    have Y4:=P4.hx _ Y3 (by have:=Y1.next; omega)
    have Z4:=P4.hx _ (X1.trans N3.hx) (by have:=X1.next; omega)
    refine WOL.nil <| keep [(1,_),(3,_),(5,_),(8,_),(53,_),(54,_)] ⟨rfl,rfl,rfl,rfl,rfl,rfl,trivial⟩ ?_
    refine WL.sr ?_
    refine WOL.ld rfl (load_row tp46 P4.at_ rfl (Nat.le_of_ble_eq_true rfl)) ?_
    refine WOL.cl1 rfl rfl ((k23 H (s:=s k) (n:=n k) (by rw [← ev1]; exact (r k).f.hx Y4) (by rw [← ev2]; exact (r k).s.hx Y4)).mono ?_)
    rintro v h5 ⟨rfl,X5⟩
    refine WOL.nt rfl <| WOL.nil <| keep [(1,_),(3,_),(5,_),(53,_),(54,_),(59,_)] ⟨rfl,rfl,rfl,rfl,rfl,rfl,trivial⟩ ?_
    cases hb:shortB (s k) (F k).length (S k).length with
    | false =>
      refine WL.yes rfl <| WL.sr <| WOL.cl0 rfl ((k11 A h5).mono ?_)
      rintro v h6 ⟨rfl,rfl⟩
      refine WOL.as rfl <| WOL.nil ?_
      exact WL.ret (WL.end_ rfl rfl)
    | true =>
      refine WL.no rfl <| WL.skip ?_
      refine WL.reg ?_
      refine WOL.bi (v:=zi ((k + 1:Nat):Int)) rfl rfl (by show some (Value.int .i64 (fwrap .i64 ((k:Int) + 1))) = _; rw [fwrap_i64 (by omega) (by omega)]; rfl) ?_
      refine WOL.mv rfl <| WOL.nil ?_
      exact fun a q => ⟨3 - (k + 1),by omega,k + 1,by omega,rfl,Z4.trans X5,fun j hj => by
        by_cases hjk:j = k
        · subst hjk; exact hb
        · exact hs j (by omega),q.sub ⟨rfl,rfl,rfl,rfl,rfl,trivial⟩⟩
  · rw [show decide ((k:Int) < 3) = false from decide_eq_false (by omega)]
    obtain rfl:k = 3:=by omega
    have small:∀ k,(F k).length ≤ 900000 ∧ (S k).length ≤ 900000:=by
      intro k
      obtain ⟨j,hj,q1,q2,q3,q4,_⟩:=t.some k
      rw [q3,q4]
      have:=short_small (hs j hj)
      omega
    refine WL.no rfl <| WL.exit ?_
    exact kto (k1000m H X A t r hE hL (fun k => (small k).1) (fun k => (small k).2) eL i0 i1 i2 f (N1.trans X1) (A2.hx X1) (A5.hx X1)) ⟨rfl,rfl,rfl,trivial⟩
end
attribute [local irreducible] Ty valOf
theorem law1000:Law tpE 3 5 [26,27,28]:=by
 intro h us f ha
 match us,ha with
 | [x0,x1,x2],⟨⟨p0,y0,e0⟩,⟨p1,y1,e1⟩,⟨p2,y2,e2⟩,_⟩ =>
  obtain ⟨s,z,v1,v2,F,S,es,L,rfl,t,r,hE,hL⟩:=ty_runs3 y0
  obtain ⟨b,rfl,_⟩:=ty_float y1
  rw [val_agg (.inr ⟨_,_,u82⟩)] at e0
  rw [val_float] at e1
  obtain ⟨a,b',c,rfl,ha,hb,hc⟩:=ty_threeU y2
  rw [val_agg (.inr ⟨_,_,u94⟩)] at e2
  subst e0 e1 e2
  obtain ⟨e,eL⟩:=sampleE_ex b
  exact k1000all hasE hasXE awkE t r hE hL eL ha hb hc f
end Go.Tidy
