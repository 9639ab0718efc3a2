/- A part of the proof. -/
import Derived.Test.YtpmijenaggkpdaaGreatDoorPa6
import Derived.Test.YtpmijenaggkpdaaGreatDoorPa2
import Derived.Test.YtpmijenaggkpdaaGreatDoorPa5
set_option linter.all false
namespace Go.Tidy
open Go Go.Proofs Tab
variable {tp:TProg}
section rules
variable {P:Program} {tp:TProg} {h:TH} {K:Regs → TH → Prop} {rest:List TOper} {d:Option Tmp} {ty:TypeId} {i:Nat} {x y:Operand} {t u:TypeId} {L:Rg}
theorem WOL.add {m n:Int} (hx:getL L x = some (.int .i64 m)) (hy:getL L y = some (.int .i64 n)) (h1:-9223372036854775808 ≤ m + n) (h2:m + n ≤ 9223372036854775807) (w:∀ a,Kn (putL L d (.int .i64 (m + n))) a → WO P tp rest a h K):∀ a,Kn L a → WO P tp (⟨d,.binOp .add t x y u,ty,none,[],i⟩ :: rest) a h K :=
  WOL.bi hx hy (by show some (Value.int .i64 (fwrap .i64 (m + n))) = _; rw [fwrap_i64 h1 h2]) w
theorem WOL.sub {m n:Int} (hx:getL L x = some (.int .i64 m)) (hy:getL L y = some (.int .i64 n)) (h1:-9223372036854775808 ≤ m - n) (h2:m - n ≤ 9223372036854775807) (w:∀ a,Kn (putL L d (.int .i64 (m - n))) a → WO P tp rest a h K):∀ a,Kn L a → WO P tp (⟨d,.binOp .sub t x y u,ty,none,[],i⟩ :: rest) a h K :=
  WOL.bi hx hy (by show some (Value.int .i64 (fwrap .i64 (m - n))) = _; rw [fwrap_i64 h1 h2]) w
theorem WOL.mul {m n:Int} (hx:getL L x = some (.int .i64 m)) (hy:getL L y = some (.int .i64 n)) (h1:-9223372036854775808 ≤ m * n) (h2:m * n ≤ 9223372036854775807) (w:∀ a,Kn (putL L d (.int .i64 (m * n))) a → WO P tp rest a h K):∀ a,Kn L a → WO P tp (⟨d,.binOp .mul t x y u,ty,none,[],i⟩ :: rest) a h K :=
  WOL.bi hx hy (by show some (Value.int .i64 (fwrap .i64 (m * n))) = _; rw [fwrap_i64 h1 h2]) w
theorem WOL.quo {m n:Int} (hx:getL L x = some (.int .i64 m)) (hy:getL L y = some (.int .i64 n)) (hm:0 ≤ m) (hn:0 < n) (h2:m ≤ 9223372036854775807) (w:∀ a,Kn (putL L d (.int .i64 (m / n))) a → WO P tp rest a h K):∀ a,Kn L a → WO P tp (⟨d,.binOp .quo t x y u,ty,none,[],i⟩ :: rest) a h K:=fun a k => by
  refine WO.quoI (k.o hx) (k.o hy) (by omega) ?_
  have h3:m / n ≤ m:=Int.ediv_le_self n hm
  have h4:0 ≤ m / n:=Int.ediv_nonneg hm (by omega)
  rw [Int.tdiv_eq_ediv_of_nonneg hm,fwrap_i64 (by omega) (by omega)]
  exact w _ (k.put d _)
theorem WOL.neg {m:Int} (hx:getL L x = some (.int .i64 m)) (h1:-9223372036854775808 ≤ -m) (h2:-m ≤ 9223372036854775807) (w:∀ a,Kn (putL L d (.int .i64 (-m))) a → WO P tp rest a h K):∀ a,Kn L a → WO P tp (⟨d,.unOp .neg t x,ty,none,[],i⟩ :: rest) a h K:=fun a k => by
  refine WO.neg (k.o hx) ?_
  rw [show IntKind.i64.wrap (-m) = -m from IntWalk.i64_in _ (by omega)]
  exact w _ (k.put d _)
end rules
def rnd (a b:Int):Int:=(2 * a + b) / (2 * b)
theorem floor_neg {x y:Int} (hy:0 < y):x / y = -((y - 1 - x) / y):=by
  have h1:=Int.emod_add_mul_ediv (y - 1 - x) y
  have h2:=Int.emod_nonneg (y - 1 - x) (by omega:y ≠ 0)
  have h3:=Int.emod_lt_of_pos (y - 1 - x) hy
  generalize (y - 1 - x) / y = q at *
  generalize (y - 1 - x) % y = r at *
  have:(y - 1 - r) + y * (-q) = x:=by rw [Int.mul_neg]; omega
  exact ((Int.ediv_emod_unique hy).2 ⟨this,by omega,by omega⟩).1
theorem k103 (H:Has tp) {a b:Int} {h:TH} (ha:a.natAbs ≤ 4000000000) (hb:0 < b) (hb2:b ≤ 4000000000):CallW Tryz.prog tp (.func (.func 103) #[] #[]) #[.int .i64 a,.int .i64 b] h fun v h' => v = .int .i64 (rnd a b) ∧ h' = h:=by
  refine CallW.fnL (H.fn 103 f103 rfl rfl) ?_
  refine WL.sr <| WOL.as rfl <| WOL.nil <| keep [(0,_),(1,_)] ⟨rfl,rfl,trivial⟩ ?_
  refine WL.sr <| WOL.mv rfl <| WOL.mul rfl rfl (by omega) (by omega) <| WOL.mv rfl <| WOL.add rfl rfl (by omega) (by omega) <| WOL.mv rfl <| WOL.mul rfl rfl (by omega) (by omega) <| WOL.as rfl <| WOL.as rfl <| WOL.nil <| keep [(0,_),(1,_)] ⟨rfl,rfl,trivial⟩ ?_
  refine WL.seq <| WL.sr <| WOL.mv rfl <| WOL.bi (v:=.bool (decide (2 * a + b < 0))) rfl rfl rfl <| WOL.nil <| keep [(0,_),(1,_),(12,_)] ⟨rfl,rfl,rfl,trivial⟩ ?_
  by_cases hn:2 * a + b < 0
  · rw [decide_eq_true hn]
    refine WL.yes rfl <| WL.sr <| WOL.mv rfl <| WOL.sub rfl rfl (by omega) (by omega) <| WOL.mv rfl <| WOL.sub rfl rfl (by omega) (by omega) <| WOL.mv rfl <| WOL.quo rfl rfl (by omega) (by omega) (by omega) ?_
    have h1:(2 * b - 1 - (2 * a + b)) / (2 * b) ≤ 2 * b - 1 - (2 * a + b):=Int.ediv_le_self _ (by omega)
    have h2:0 ≤ (2 * b - 1 - (2 * a + b)) / (2 * b):=Int.ediv_nonneg (by omega) (by omega)
    refine WOL.neg rfl (by omega) (by omega) <| WOL.as rfl <| WOL.nil <| keep [(4,_)] ⟨rfl,trivial⟩ ?_
    exact WL.ret (WL.end_ rfl ⟨congrArg (Value.int .i64) (by show -((2 * b - 1 - (2 * a + b)) / (2 * b)) = (2 * a + b) / (2 * b); exact (floor_neg (by omega)).symm),rfl⟩)
  · rw [decide_eq_false hn]
    refine WL.no rfl <| WL.skip ?_
    refine WL.sr <| WOL.mv rfl <| WOL.mv rfl <| WOL.quo rfl rfl (by omega) (by omega) (by omega) <| WOL.as rfl <| WOL.nil <| keep [(4,_)] ⟨rfl,trivial⟩ ?_
    exact WL.ret (WL.end_ rfl ⟨rfl,rfl⟩)
theorem tdiv_floor {x y:Int} (hy:0 < y):x / y = cond (decide (x.tdiv y * y > x)) (x.tdiv y - 1) (x.tdiv y):=by
  by_cases hx:0 ≤ x
  · have h1:=Int.emod_add_mul_ediv x y
    have h2:=Int.emod_nonneg x (by omega:y ≠ 0)
    rw [Int.tdiv_eq_ediv_of_nonneg hx,decide_eq_false (by rw [Int.mul_comm]; omega)]
    rfl
  · obtain ⟨z,rfl⟩:∃ z,x = -z:=⟨-x,by omega⟩
    rw [Int.neg_tdiv,Int.tdiv_eq_ediv_of_nonneg (by omega)]
    have h1:=Int.emod_add_mul_ediv z y
    have h2:=Int.emod_nonneg z (by omega:y ≠ 0)
    have h3:=Int.emod_lt_of_pos z hy
    generalize z / y = q at *
    generalize z % y = r at *
    have e:-q * y = -(y * q):=by rw [Int.neg_mul,Int.mul_comm]
    by_cases hr:r = 0
    · rw [decide_eq_false (by rw [e]; omega)]
      have:(0:Int) + y * (-q) = -z:=by rw [Int.mul_neg]; omega
      exact ((Int.ediv_emod_unique hy).2 ⟨this,by omega,by omega⟩).1
    · rw [decide_eq_true (by rw [e]; omega)]
      have:(y - r) + y * (-q - 1) = -z:=by rw [Int.mul_sub,Int.mul_neg,Int.mul_one]; omega
      exact ((Int.ediv_emod_unique hy).2 ⟨this,by omega,by omega⟩).1
theorem k148 (H:Has tp) {x y:Int} {h:TH} (hx:x.natAbs ≤ 40000000000) (hy:0 < y) (hy2:y ≤ 40000000000):CallW Tryz.prog tp (.func (.func 148) #[] #[]) #[.int .i64 x,.int .i64 y] h fun v h' => v = .int .i64 (x / y) ∧ h' = h:=by
  have hq:(x.tdiv y).natAbs ≤ x.natAbs:=by rw [Int.natAbs_tdiv]; exact Nat.div_le_self _ _
  have hm:(x.tdiv y * y).natAbs ≤ x.natAbs:=by
    rw [Int.natAbs_mul,Int.natAbs_tdiv]
    exact Nat.div_mul_le_self _ _
  have hf:=tdiv_floor (x:=x) hy
  refine CallW.fnL (H.fn 148 f148 rfl rfl) ?_
  refine WL.sr <| WOL.as rfl <| WOL.nil <| keep [(0,_),(1,_)] ⟨rfl,rfl,trivial⟩ ?_
  refine WL.sr <| WOL.mv rfl <| WOL.mv rfl ?_
  refine fun a q => WO.quoI (q.o rfl) (q.o rfl) (by omega) (q.nx ?_)
  rw [fwrap_i64 (by omega) (by omega)]
  generalize x.tdiv y = z at *
  refine WOL.as rfl <| WOL.nil <| keep [(0,_),(1,_),(5,_)] ⟨rfl,rfl,rfl,trivial⟩ ?_
  refine WL.seq <| WL.sr <| WOL.mv rfl <| WOL.mv rfl <| WOL.mul rfl rfl (by omega) (by omega) <| WOL.mv rfl <| WOL.bi (v:=.bool (decide (z * y > x))) rfl rfl rfl <| WOL.nil <| keep [(5,_),(13,_)] ⟨rfl,rfl,trivial⟩ ?_
  rw [hf]
  cases decide (z * y > x) with
  | true =>
    refine WL.yes rfl <| WL.sr <| WOL.mv rfl <| WOL.sub rfl rfl (by omega) (by omega) <| WOL.as rfl <| WOL.nil <| keep [(4,_)] ⟨rfl,trivial⟩ ?_
    exact WL.ret (WL.end_ rfl ⟨rfl,rfl⟩)
  | false =>
    refine WL.no rfl <| WL.skip <| WL.sr <| WOL.mv rfl <| WOL.as rfl <| WOL.nil <| keep [(4,_)] ⟨rfl,trivial⟩ ?_
    exact WL.ret (WL.end_ rfl ⟨rfl,rfl⟩)
theorem k106 (H:Has tp) {a b:Int} {h:TH} (ha:a.natAbs ≤ 4000000000) (hb:0 < b) (hb2:b ≤ 4000000000):CallW Tryz.prog tp (.func (.func 106) #[] #[]) #[.int .i64 a,.int .i64 b] h fun v h' => v = .int .i64 (rnd a b) ∧ h' = h:=by
  refine CallW.fnL (H.fn 106 f106 rfl rfl) ?_
  refine WL.sr <| WOL.as rfl <| WOL.nil <| keep [(0,_),(1,_)] ⟨rfl,rfl,trivial⟩ ?_
  refine WL.sr <| WOL.mv rfl <| WOL.mul rfl rfl (by omega) (by omega) <| WOL.mv rfl <| WOL.add rfl rfl (by omega) (by omega) <| WOL.mv rfl <| WOL.mul rfl rfl (by omega) (by omega) ?_
  refine WOL.cl2 rfl rfl rfl ((k148 H (by omega) (by omega) (by omega)).mono ?_)
  rintro v h' ⟨rfl,rfl⟩
  refine WOL.as rfl <| WOL.nil <| keep [(4,_)] ⟨rfl,trivial⟩ ?_
  exact WL.ret (WL.end_ rfl ⟨rfl,rfl⟩)
end Go.Tidy
namespace Go.Tidy
open Go Go.Proofs Tab
variable {tp:TProg}
set_option maxHeartbeats 1000000 in
theorem k87 (H:Has tp) {s:ByteArray} {n:Int} {v1 v2:Value} {F:List Nat} {S:List (Int × Int)} {h:TH} (r:RunH h v1 v2 F S) (hF:F.length ≤ 1000000) (hS:S.length ≤ 1000000) (f:Free0 h.next h) :
    CallW Tryz.prog tp (.func (.func 87) #[] #[]) #[runV s n v1 v2] h fun v h' => ∃ w1 w2,v = runV s n w1 w2 ∧ HX h h' ∧ RunO h.next h' w1 w2 F S:=by
  refine CallW.full (H.fn 87 f87 rfl rfl) rfl ?_
  refine W.seq (W.reg (WO.boxA rfl fun h1 N1 => WO.alA tp46 fun h2 N2 => WO.nil ?_))
  have A1:=N1.at_.hx N2.hx
  have X2:=N1.hx.trans N2.hx
  refine W.seq (W.reg ?_)
  refine WO.fa rfl (fa_of fo46_0) (WO.ld rfl (load_one tp9 A1 rfl) (WO.fa rfl (fa_of fo46_1) (WO.ld rfl (load_one tp3 A1 rfl) ?_)))
  refine WO.bs0A u43 tp25 (by decide) (by decide) fun h3 N3 => ?_
  have A3:=A1.hx N3.hx
  have X3:=X2.trans N3.hx
  refine WO.fa rfl (fa_of fo46_2) (WO.ld rfl (load_one tp43 A3 rfl) ?_)
  refine WO.bs0A u44 tp48 (by decide) (by decide) fun h4 N4 => ?_
  have A4:=A3.hx N4.hx
  have X4:=X3.trans N4.hx
  refine WO.fa rfl (fa_of fo46_3) (WO.ld rfl (load_one tp44 A4 rfl) ?_)
  refine WO.apO rfl rfl u43 tp25 (N3.at_.hx N4.hx) (r.f.hx X4) (by omega) (eF.all F) fun h5 b5 X5 l5 s5 g5 => ?_
  refine WO.apO rfl rfl u44 tp48 (N4.at_.hx X5) ((r.s.hx X4).hx X5) (by omega) (eS.all S) fun h6 b6 X6 l6 s6 g6 => ?_
  have A6:=(((N2.at_.hx N3.hx).hx N4.hx).hx X5).hx X6
  have X7:=(X4.trans X5).trans X6
  refine WO.bd rfl bd46 ?_
  refine WO.stA rfl rfl tp46 A6 rfl rfl (by decide) rfl (f.hx X7) (by have:=N1.next; omega) fun h7 P7 => WO.nil (W.ret ?_)
  have q1:=N1.next
  have q2:=N2.next
  have q3:=N3.next
  have X8:=P7.hx _ X7 (by omega)
  exact ⟨.inr rfl,_,res_cell rfl (load_row tp46 P7.at_ rfl (Nat.le_of_ble_eq_true rfl)),_,_,rfl,X8,⟨(s5.hx X6).put P7 (by omega),s6.put P7 (by omega),(g5.hx X6).away P7 (Above.slice (Nat.le_refl b5)) (by omega)⟩,Above.slice (by omega),Above.slice (by omega)⟩
theorem k25 (H:Has tp) {s:ByteArray} {n:Int} {v1 v2:Value} {F:List Nat} {S:List (Int × Int)} {h:TH} (r:RunH h v1 v2 F S) (hF:F.length ≤ 1000000) (hS:S.length ≤ 1000000) (f:Free0 h.next h) :
    CallW Tryz.prog tp (.func (.func 25) #[] #[]) #[runV s n v1 v2] h fun v h' => ∃ w1 w2,v = runV s n w1 w2 ∧ HX h h' ∧ RunO h.next h' w1 w2 F S:=by
  refine CallW.full (H.fn 25 f25 rfl rfl) rfl ?_
  refine W.seq (W.reg (WO.boxA rfl fun h1 N1 => WO.alA tp52 fun h2 N2 => WO.nil ?_))
  have A1:=N1.at_.hx N2.hx
  have X2:=N1.hx.trans N2.hx
  have q1:=N1.next
  have q2:=N2.next
  refine W.seq (W.reg (WO.ld rfl (load_row tp46 A1 rfl (Nat.le_of_ble_eq_true rfl)) (WO.cl1 rfl rfl ((k87 H (s:=s) (n:=n) (r.hx X2) hF hS (f.next X2 (by omega))).mono ?_))))
  rintro v h3 ⟨w1,w2,rfl,X3,r3⟩
  obtain ⟨bo1,c1,rfl⟩:=r3.r.f.form
  obtain ⟨bo2,c2,rfl⟩:=r3.r.s.form
  refine WO.stA rfl rfl tp52 (N2.at_.hx X3) rfl rfl (by decide) rfl (f.hx (X2.trans X3)) (by omega) fun h4 P4 => WO.nil (W.ret ?_)
  refine ⟨.inr rfl,_,res_cell rfl (load_row tp52 P4.at_ rfl (Nat.le_of_ble_eq_true rfl)),_,_,rfl,P4.hx _ (X2.trans X3) (by omega),(r3.away P4 (by omega)).le (by omega)⟩
end Go.Tidy
namespace Go.Tidy
open Go Go.Proofs Tab
theorem lev_smp {C:List (Int × Bool)} (h:∀ c,c ∈ C → c.1.natAbs ≤ 16384):Lev (C.map fun c => smp c.1) (C.map fun c => c.1):=by
  refine ⟨by simp,fun i b n hb hn => ?_⟩
  rw [List.getElem?_map] at hb hn
  cases hc:C[i]? with
  | none => rw [hc] at hb; simp at hb
  | some c =>
    rw [hc] at hb hn
    simp only [Option.map_some,Option.some.injEq] at hb hn
    subst hb; subst hn
    exact (smp_ok (h c (List.mem_of_getElem? hc))).2.2
section
variable {s:ByteArray} {n:Int} {F:List Nat} {S:List (Int × Int)} {L:List Int}
theorem Valid.cells (V:Valid s n F S L):cellsL L S = cellsK L (knownL S F.length):=cells_eq V.lev V.in_
theorem Valid.lim (V:Valid s n F S L):∀ c,c ∈ cellsL L S → c.1.natAbs ≤ 16384:=cells_lim V.lev S
theorem Valid.kl (V:Valid s n F S L):(knownL S F.length).length = L.length:=by rw [knownL_len,V.lev.1]
theorem Valid.sum (V:Valid s n F S L):sumL (knownV (cellsL L S)) = sumL L:=by rw [V.cells,dark_sum V.dark]
theorem Valid.at_ (V:Valid s n F S L) {i b:Nat} (hb:F[i]? = some b):∃ x,L[i]? = some x ∧ Samp b x ∧ (cellsL L S)[i]? = some (x,knownB S i):=by
  obtain ⟨x,hx,sx⟩:=V.lev.get hb
  have hi:i < F.length:=(List.getElem?_eq_some_iff.1 hb).1
  have hk:(knownL S F.length)[i]? = some (knownB S (i:Int)):=by
    unfold knownL
    rw [List.getElem?_map,List.getElem?_range hi]; rfl
  refine ⟨x,hx,sx,?_⟩
  rw [V.cells]
  unfold cellsK
  rw [List.getElem?_zipWith,hx,hk]
  cases hq:knownB S (i:Int)
  · have:=V.dark.2 i x hx (by rw [hk,hq])
    subst this
    rfl
  · rfl
end
end Go.Tidy
namespace Go.Tidy
open Go Go.Proofs Tab
variable {tp:TProg}
abbrev ptr (c:Nat):Value:=.pointer (some ⟨c,0,none⟩)
abbrev zi (z:Int):Value:=.int .i64 z
end Go.Tidy
namespace Go.Tidy
open Go Go.Proofs Tab
variable {tp:TProg}
def RX (n0:Nat) (h:TH) (sx:ByteArray) (nx:Int) (x1 x2:Value) (s:ByteArray) (n:Int) (C:List (Int × Bool)) (e:Int):Prop :=
  (e ≠ 0 ∧ sx = ⟨#[]⟩ ∧ nx = 0 ∧ x1 = .slice none 0 0 ∧ x2 = .slice none 0 0) ∨ (e = 0 ∧ sx = s ∧ nx = n ∧ RunO n0 h x1 x2 (C.map fun c => smp c.1) (holesOf (C.map fun c => c.2)))
theorem RunO.relock' {n0:Nat} {h:TH} {v1 v2:Value} {F:List Nat} {S:List (Int × Int)} (r:RunO n0 h v1 v2 F S) (L:List Nat):RunO n0 (h.withLock L) v1 v2 F S:=⟨⟨r.r.f.relock L,r.r.s.relock L,r.r.g.relock L⟩,r.o1,r.o2⟩
theorem RunH.relock' {h:TH} {v1 v2:Value} {F:List Nat} {S:List (Int × Int)} (r:RunH h v1 v2 F S) (L:List Nat):RunH (h.withLock L) v1 v2 F S:=⟨r.f.relock L,r.s.relock L,r.g.relock L⟩
section
variable {n0 c:Nat} {h h':TH} {sx:ByteArray} {nx:Int} {x1 x2:Value} {s:ByteArray} {n:Int} {C:List (Int × Bool)} {e:Int}
theorem RX.hx (r:RX n0 h sx nx x1 x2 s n C e) (x:HX h h'):RX n0 h' sx nx x1 x2 s n C e:=by
  rcases r with r | ⟨a,b,d,r⟩
  · exact .inl r
  · exact .inr ⟨a,b,d,r.hx x⟩
theorem RX.away (r:RX n0 h sx nx x1 x2 s n C e) {x:TB} (p:Put h h' c x) (hc:c < n0):RX n0 h' sx nx x1 x2 s n C e:=by
  rcases r with r | ⟨a,b,d,r⟩
  · exact .inl r
  · exact .inr ⟨a,b,d,r.away p hc⟩
theorem RX.relock (r:RX n0 h sx nx x1 x2 s n C e) (L:List Nat):RX n0 (h.withLock L) sx nx x1 x2 s n C e:=by
  rcases r with r | ⟨a,b,d,r⟩
  · exact .inl r
  · exact .inr ⟨a,b,d,r.relock' L⟩
end
end Go.Tidy
namespace Go.Tidy
open Go Go.Proofs Tab
variable {tp:TProg}
theorem Free0.on {h h':TH} (f:Free0 h.next h) (x:HX h h'):Free0 h'.next h':=f.next x x.next
structure Val (s:ByteArray) (n:Int) (v1 v2:Value) (F:List Nat) (S:List (Int × Int)) (es L:List Int) (p1 p2:Int) (h hm g:TH) (c3 c5 c12 c14 c18 c28 c29 c30:Nat) (sx:ByteArray) (nx:Int) (x1 x2:Value) (sy:ByteArray) (ny:Int) (y1 y2:Value) (ec ma mb:Int) (n1:Nat) (w1 w2:Value):Prop where
  r:RunH h v1 v2 F S
  V:Valid s n F S L
  E0:runE s n F.length S es L = 0
  f:Free0 h.next h
  x0:HX h hm
  x1_:HX hm g
  a3:At h c3 (.cells (runV s n v1 v2).cells.toList true true 46)
  a5:At h c5 (.cells (Value.agg #[.int .i64 p1,.int .i64 p2]).cells.toList true true 48)
  b12:At hm c12 (.cells (runV sx nx x1 x2).cells.toList true true 52)
  r12:RX h.next hm sx nx x1 x2 s p1 (((cellsL L S).drop (p1 - n).toNat).take ((p2 - n).toNat - (p1 - n).toNat)) ec
  e12:ec = cond (offB n F.length (p1,p2)) 14 0
  b14:At hm c14 (.cells (runV sy ny y1 y2).cells.toList true true 52)
  r14:RX h.next hm sy ny y1 y2 s n (cellsL L S).reverse 0
  b18:At hm c18 (.cells [.int .i64 ma,.int .i64 mb] true true 24)
  b28:At g c28 (.cells [.string ⟨#[]⟩,.int .i64 0,.slice none 0 0,.slice none 0 0] true true 46)
  b29:At g c29 (.cells (runV s n w1 w2).cells.toList true true 46)
  ro:RunO n1 g w1 w2 (madeF L.reverse (knownL S F.length).reverse) (holesOf (knownL S F.length).reverse)
  b30:At g c30 (.cells [.int .i64 ma,.int .i64 mb] true true 24)
  o4:hm.next ≤ c28
  o5:c28 < c29
  o6:c29 < c30
  o7:c30 < n1
end Go.Tidy
namespace Go.Tidy
open Go Go.Proofs Tab
variable {tp:TProg}
theorem bd134z:buildT Tryz.prog 134 [] = some (.agg #[.int .i64 0,.bool false]):=by kernel_rfl
end Go.Tidy
namespace Go.Tidy
open Go Go.Proofs Tab
variable {tp:TProg}
theorem nzero {z:Int}:fastBin .neq (.int .i64 z) (.int .i64 0) = some (.bool (z != 0)):=rfl
end Go.Tidy
namespace Go.Tidy
open Go Go.Proofs Tab
variable {tp:TProg}
section
variable {α:Type} {enc:α → List Value} {n0:Nat} {h h':TH} {v:Value} {e:TypeId} {l:List α}
theorem own_of {b m:Nat} (hm:l.length = m) (hn:n0 ≤ b) (a:At h b (.cells (cat enc l) false true e)) (hl:0 < m):OwnL enc n0 h (.slice (some ⟨b,0,none⟩) m m) e l:=by
  subst hm
  exact .inr ⟨fun h => by rw [h] at hl; simp at hl,b,rfl,hn,a⟩
theorem own_put {c:Nat} {x:TB} (o:OwnL enc n0 h v e l) (p:Put h h' c x) (hc:bl v ≠ some c):OwnL enc n0 h' v e l:=o.keep fun d y hd ha => p.oth _ _ (fun q => hc (by rw [hd,q])) ha
end
theorem own_ne {α β:Type} {enc:α → List Value} {enc':β → List Value} {n0 n1:Nat} {h:TH} {v w:Value} {e e':TypeId} {l:List α} {m:List β} (o:OwnL enc n0 h v e l) (p:OwnL enc' n1 h w e' m) (he:e ≠ e'):∀ c,bl v = some c → bl w ≠ some c:=by
  intro c h1 h2
  rcases o with ⟨rfl,_⟩ | ⟨_,b,rfl,_,a⟩
  · cases h1
  · rcases p with ⟨rfl,_⟩ | ⟨_,b',rfl,_,a'⟩
    · cases h2
    · cases h1; cases h2
      have:=a'.get.symm.trans a.get
      obtain ⟨_,_,_,q⟩:=TB.cells.inj (Option.some.inj this)
      exact he q.symm
theorem splice1 {α:Type} {enc:α → List Value} (E:Enc enc 1) {l:List α} {i:Nat} (h:i < l.length) (a:α):splice (cat enc l) (0 + i * 1) (enc a) = cat enc (l.set i a):=by
  rw [Nat.zero_add]; exact E.set h a
end Go.Tidy
namespace Go.Tidy
open Go Go.Proofs Tab
variable {tp:TProg}
theorem cellsK_get {L:List Int} {K:List Bool} {i:Nat} {x:Int} {p:Bool} (hx:L[i]? = some x) (hp:K[i]? = some p):(cellsK L K)[i]? = some (if p = true then (x,true) else (0,false)):=by
  unfold cellsK; rw [List.getElem?_zipWith,hx,hp]
theorem cellsK_ln {L:List Int} {K:List Bool} (h:K.length = L.length):(cellsK L K).length = L.length:=by simp [cellsK,h]
end Go.Tidy
namespace Go.Tidy
open Go Go.Proofs Tab
variable {tp:TProg}
theorem cellsL_flat:∀ m:Nat,(List.replicate m [Value.int .i64 0,.bool false]).flatten = cat encC (List.replicate m ((0:Int),false))
  | 0 => rfl
  | m + 1 => by rw [List.replicate_succ,List.replicate_succ,List.flatten_cons,cat_cons,cellsL_flat m]; rfl
theorem tp135:Tp Tryz.prog 135 1 [.slice none 0 0] false:=tp_of (by kernel_rfl) (by kernel_rfl) rfl
structure Rows3 (h:TH) (b:Nat) (Xs:List Value) (Cs:List (List (Int × Bool))):Prop where
  at_:At h b (.cells Xs true true 135)
  len:Xs.length = Cs.length
  sl:∀ (i:Nat) (x:Value) (C:List (Int × Bool)),Xs[i]? = some x → Cs[i]? = some C → SlL encC 2 h x C
theorem Rows3.hx {h h':TH} {b:Nat} {Xs:List Value} {Cs:List (List (Int × Bool))} (r:Rows3 h b Xs Cs) (x:HX h h'):Rows3 h' b Xs Cs:=⟨r.at_.hx x,r.len,fun i y C h1 h2 => (r.sl i y C h1 h2).hx x⟩
end Go.Tidy
namespace Go.Tidy
open Go Go.Proofs Tab
variable {tp:TProg}
theorem Rows3.relock {h:TH} {b:Nat} {Xs:List Value} {Cs:List (List (Int × Bool))} (r:Rows3 h b Xs Cs) (M:List Nat):Rows3 (h.withLock M) b Xs Cs:=⟨r.at_.relock M,r.len,fun i y C h1 h2 => (r.sl i y C h1 h2).relock M⟩
end Go.Tidy
namespace Go.Tidy
open Go Go.Proofs Tab
variable {tp:TProg}
section
variable {P:Program} {α:Type} {enc:α → List Value} {n n0:Nat} {h:TH} {v:Value} {e:TypeId} {l:List α} {z:List Value} {row:Bool}
theorem HX.locked {h h':TH} (x:HX h h') (M:List Nat):HX (h.withLock M) (h'.withLock M):=⟨x.next,x.floor,rfl,x.old⟩
theorem HX.unlock {h h' g:TH} {M:List Nat} (x:HX (h.withLock M) g) (hl:h'.lock = h.lock):HX h (g.withLock h'.lock):=by rw [hl]; exact x.relock
end
end Go.Tidy
namespace Go.Tidy
open Go Go.Proofs Tab
variable {tp:TProg}
section
variable {α:Type} {k:Nat} {l:List α}
end
theorem WO.remI {P:Program} {tp:TProg} {a:Regs} {h:TH} {K:Regs → TH → Prop} {rest:List TOper} {d:Option Tmp} {ty:TypeId} {i:Nat} {x y:Operand} {t u:TypeId} {m n:Int} (hx:getO a x = some (.int .i64 m)) (hy:getO a y = some (.int .i64 n)) (hn:n ≠ 0)
    (w:WO P tp rest (a.put d (.int .i64 (m.tmod n))) h K):WO P tp (⟨d,.binOp .rem t x y u,ty,none,[],i⟩ :: rest) a h K:=by
  refine WO.bi hx hy ?_ w
  have hk:Nat.beq (kindNo .i64) (kindNo .i64) = true:=Nat.beq_refl _
  have hb:(n == 0) = false:=by simpa using hn
  simp only [fastBin,hk,fastInt,hb,Bool.cond_true,Bool.cond_false]
theorem WOL.rem {P:Program} {tp:TProg} {h:TH} {K:Regs → TH → Prop} {rest:List TOper} {d:Option Tmp} {ty:TypeId} {i:Nat} {x y:Operand} {t u:TypeId} {L:Rg} {m n:Int} (hx:getL L x = some (.int .i64 m)) (hy:getL L y = some (.int .i64 n)) (hm:0 ≤ m) (hn:0 < n) (w:∀ a,Kn (putL L d (.int .i64 (m % n))) a → WO P tp rest a h K):∀ a,Kn L a → WO P tp (⟨d,.binOp .rem t x y u,ty,none,[],i⟩ :: rest) a h K:=fun a k => by
  refine WO.remI (k.o hx) (k.o hy) (by omega) ?_
  rw [Int.tmod_eq_emod_of_nonneg hm]
  exact w _ (k.put d _)
end Go.Tidy
namespace Go.Tidy
open Go Go.Proofs Tab
variable {tp:TProg}
section
variable {P:Program} {h:TH} {v:Value} {t e:TypeId} {n:Nat} {z:List Value} {row:Bool} {K:Regs → TH → Prop} {rest:List TOper} {d:Option Tmp} {ty:TypeId} {i:Nat} {x y lo hi:Operand} {L:Rg}
theorem WOL.sl {q:Addr} {m cap:Nat} {vlo vhi:Value} (hx:getL L x = some (.slice (some q) m cap)) (hl:getL L lo = some vlo) (hh:getL L hi = some vhi) (hv:sliceT P t (.slice (some q) m cap) (some vlo) (some vhi) none h = some v) (w:∀ a,Kn (putL L d v) a → WO P tp rest a h K):∀ a,Kn L a → WO P tp (⟨d,.slice t x (some lo) (some hi) none,ty,none,[],i⟩ :: rest) a h K :=
  fun a k => WO.sl (k.o hx) (k.o hl) (k.o hh) hv (k.nx w)
end
def setN {α:Type} (l:List α) (p:Nat) (g:Nat → α):Nat → List α
  | 0 => l
  | i + 1 => (setN l p g i).set (p + i) (g i)
section
variable {α:Type} {l:List α} {p:Nat} {g:Nat → α}
theorem setN_len:∀ i,(setN l p g i).length = l.length
  | 0 => rfl
  | i + 1 => by show ((setN l p g i).set _ _).length = _; rw [List.length_set,setN_len i]
theorem setN_mem {x:α}:∀ i,x ∈ setN l p g i → x ∈ l ∨ ∃ j,j < i ∧ x = g j
  | 0,h => .inl h
  | i + 1,h => by
    rcases List.mem_or_eq_of_mem_set h with h | h
    · rcases setN_mem i h with h | ⟨j,h1,h2⟩
      · exact .inl h
      · exact .inr ⟨j,by omega,h2⟩
    · exact .inr ⟨i,by omega,h⟩
end
theorem Free0.of {n:Nat} {hb h h':TH} (f:Free0 n h) (x:HX hb h) (y:HX hb h'):Free0 n h':=⟨by rw [y.floor,← x.floor]; exact f.floor,by rw [y.lock,← x.lock]; exact f.lock⟩
end Go.Tidy
namespace Go.Tidy
open Go Go.Proofs Tab
variable {tp:TProg}
theorem Valid.cell {s:ByteArray} {n:Int} {F:List Nat} {S:List (Int × Int)} {L:List Int} (V:Valid s n F S L) {i:Nat} (hi:i < F.length):∃ k,(cellsL L S)[i]? = some (L.getD i 0,k):=by
  have kl:=V.kl
  have ll:=V.lev.1
  have hx:L[i]? = some L[i]:=List.getElem?_eq_getElem (by omega)
  have hp:(knownL S F.length)[i]? = some (knownL S F.length)[i]:=List.getElem?_eq_getElem (by omega)
  have hd:=V.dark.2 i _ hx
  have hg:L.getD i 0 = L[i]:=by rw [List.getD_eq_getElem?_getD,hx]; rfl
  rw [V.cells,cellsK_get hx hp,hg]
  generalize (knownL S F.length)[i] = k at *
  cases k with
  | true => exact ⟨true,rfl⟩
  | false => exact ⟨false,by rw [hd hp]; rfl⟩
end Go.Tidy
namespace Go.Tidy
open Go Go.Proofs Tab
variable {tp:TProg}
theorem holeE_after {m:Nat}:∀ {S:List (Int × Int)} {prev:Int},holeE m prev S = 0 → ∀ p,p ∈ S → prev < p.1
  | [],_,_ => fun p hp => by cases hp
  | x :: r,prev,h => by
    have hlt:=holeE_lt h x (List.mem_cons_self ..)
    rw [holeE_cons] at h
    cases hb:badS m x with
    | true => rw [hb] at h; cases h
    | false =>
      rw [hb] at h
      by_cases hc:x.1 ≤ prev
      · rw [decide_eq_true hc] at h; cases h
      · rw [decide_eq_false hc] at h
        intro p hp
        rcases List.mem_cons.1 hp with rfl | hp
        · omega
        · have:=holeE_after (S:=r) (prev:=x.2) h p hp
          omega
end Go.Tidy
namespace Go.Tidy
open Go Go.Proofs Tab
theorem Samp.e0 {b:Nat} {n:Int} (s:Samp b n):SampleE b 0:=by
  obtain ⟨neg,q,h,h2,_⟩:=s.ok
  obtain ⟨m,k,hr,hq,hk⟩:=h
  obtain ⟨D,hD⟩:∃ D:Nat,2 ^ 149 = D:=⟨_,rfl⟩
  have hDp:0 < D:=by rw [← hD]; exact two_pow_pos 149
  have e1:=h2 D hD
  have hl:=s.lim
  have hU:m * 2 ^ (k + 4) = n.natAbs * D:=by rw [Nat.pow_add,← Nat.mul_assoc,← e1,hq]
  have ok:okU (m * 2 ^ (k + 4)) = true:=by
    rw [okU_eq hD]
    unfold okD
    rw [hU,decide_eq_true (Nat.mul_le_mul_right D hl),Nat.mul_div_cancel _ hDp]
    simp
  rcases single_cases b with h | ⟨s',h⟩ | ⟨neg',m',k',N⟩
  · rw [s.nan] at h; cases h
  · rw [hr] at h; cases h
  · have e:=hr.symm.trans N.read
    injection e with e1 e2 e3
    obtain rfl:k = k':=by omega
    subst e2
    have:=SampleE.num neg' m k N
    rw [ok] at this
    exact this
theorem serr_zero {F:List Nat} {L:List Int} (h:Lev F L):∃ es,SErr F es ∧ firstNZ es = 0:=by
  refine ⟨List.replicate F.length 0,⟨by simp,fun i b e hb he => ?_⟩,?_⟩
  · have hi:i < F.length:=(List.getElem?_eq_some_iff.1 hb).1
    have hiL:i < L.length:=by rw [← h.1]; exact hi
    have hx:L[i]? = some L[i]:=List.getElem?_eq_getElem hiL
    rw [List.getElem?_replicate,if_pos hi] at he
    cases he
    exact (h.2 i b _ hb hx).e0
  · have:∀ k,firstNZ (List.replicate k 0) = 0:=by
      intro k
      induction k with
      | zero => rfl
      | succ k ih => rw [List.replicate_succ]; show cond ((0:Int) != 0) 0 _ = 0; exact ih
    exact this _
def endOf (prev:Int):List (Int × Int) → Int
  | [] => prev
  | p :: r => endOf p.2 r
theorem endOf_le {i:Int}:∀ (S:List (Int × Int)) (prev:Int),prev ≤ i → (∀ p,p ∈ S → p.2 ≤ i) → endOf prev S ≤ i
  | [],_,h,_ => h
  | x :: r,prev,_,h => endOf_le r x.2 (h x (List.mem_cons_self ..)) fun p hp => h p (List.mem_cons_of_mem _ hp)
theorem holeE_snoc {m:Nat} (p:Int × Int):∀ (S:List (Int × Int)) (prev:Int),holeE m prev (S ++ [p]) = 0 ↔ holeE m prev S = 0 ∧ badS m p = false ∧ endOf prev S < p.1
  | [], prev => by
    show holeE m prev [p] = 0 ↔ _
    rw [holeE_cons]
    cases hb:badS m p with
    | true => simp
    | false =>
      by_cases hc:p.1 ≤ prev
      · rw [decide_eq_true hc]
        simp only [Bool.cond_false,Bool.cond_true,endOf]
        constructor
        · intro h; cases h
        · rintro ⟨_,_,h⟩; omega
      · rw [decide_eq_false hc]
        simp only [Bool.cond_false,endOf]
        exact ⟨fun _ => ⟨by trivial,by trivial,by omega⟩,fun _ => by trivial⟩
  | x :: r,prev => by
    show holeE m prev (x :: (r ++ [p])) = 0 ↔ _
    rw [holeE_cons,holeE_cons]
    cases hb:badS m x with
    | true => simp
    | false =>
      by_cases hc:x.1 ≤ prev
      · rw [decide_eq_true hc]; simp
      · rw [decide_eq_false hc]
        exact holeE_snoc p r x.2
theorem badS_no {m:Nat} {p:Int × Int}:badS m p = false ↔ 0 ≤ p.1 ∧ p.1 < p.2 ∧ p.2 ≤ m:=by
  unfold badS
  simp only [Bool.or_eq_false_iff,decide_eq_false_iff_not]
  omega
structure HoleI (B:List Bool) (i:Nat) (S:List (Int × Int)):Prop where
  h0:holeE B.length (-1) S = 0
  hi:∀ p,p ∈ S → p.2 ≤ (i:Int)
  hk:∀ x:Nat,x < i → S.any (inS x) = !B.getD x false
  ho:0 < i ∧ B.getD (i - 1) false = false → ∃ T a,S = T ++ [((a:Int),(i:Int))]
  hc:¬ (0 < i ∧ B.getD (i - 1) false = false) → endOf (-1) S < (i:Int)
theorem inS_past {S:List (Int × Int)} {i:Nat} (h:∀ p,p ∈ S → p.2 ≤ (i:Int)):S.any (inS i) = false:=by
  rw [List.any_eq_false]
  intro p hp
  have:=h p hp
  unfold inS
  rw [decide_eq_false (by omega:¬ (i:Int) < p.2),Bool.and_false]
  decide
theorem holeI (B:List Bool):∀ i,i ≤ B.length → HoleI B i (holesN B i)
  | 0,_ => ⟨rfl,fun p hp => (by cases hp),fun x hx => by omega,fun h => by omega,fun _ => (by show (-1:Int) < 0; decide)⟩
  | i + 1,hle => by
    obtain ⟨h0,hi,hk,ho,hc⟩:=holeI B i (by omega)
    show HoleI B (i + 1) (hstep B (holesN B i) i)
    generalize holesN B i = S at *
    have sub1:i + 1 - 1 = i:=by omega
    unfold hstep
    by_cases hb:B.getD i false = true
    · rw [if_pos hb]
      refine ⟨h0,fun p hp => by have:=hi p hp; omega,fun x hx => ?_,fun h => ?_,fun _ => ?_⟩
      · by_cases hxi:x < i
        · exact hk x hxi
        · obtain rfl:x = i:=by omega
          rw [inS_past hi,hb]; rfl
      · rw [sub1,hb] at h; cases h.2
      · have:=endOf_le S (-1) (show (-1:Int) ≤ (i:Int) by omega) hi
        omega
    · have hb':B.getD i false = false:=by simpa using hb
      rw [if_neg hb]
      by_cases hp:0 < i ∧ B.getD (i - 1) false = false
      · rw [if_pos hp]
        obtain ⟨T,a,rfl⟩:=ho hp
        obtain ⟨t0,t1,t2⟩:=(holeE_snoc _ T (-1)).1 h0
        have t1':=badS_no.1 t1
        have hS:(T ++ [(a,(i:Int))]).set ((T ++ [(a,(i:Int))]).length - 1) (((T ++ [(a,(i:Int))]).getD ((T ++ [(a,(i:Int))]).length - 1) (0,0)).1,(i:Int) + 1) = T ++ [(a,((i + 1:Nat):Int))]:=by
          simp
        rw [hS]
        refine ⟨(holeE_snoc _ T (-1)).2 ⟨t0,badS_no.2 ⟨t1'.1,?_,?_⟩,t2⟩,fun p hp => ?_,fun x hx => ?_,fun _ => ⟨T,a,rfl⟩,fun h => ?_⟩
        · have:a < (i:Int):=t1'.2.1
          show a < ((i + 1:Nat):Int)
          omega
        · show ((i + 1:Nat):Int) ≤ _
          omega
        · rcases List.mem_append.1 hp with hp | hp
          · have:=hi p (List.mem_append_left _ hp); omega
          · simp at hp; subst hp; exact Int.le_refl _
        · have ha:a < (i:Int):=t1'.2.1
          by_cases hxi:x < i
          · rw [← hk x hxi,List.any_append,List.any_append]
            congr 1
            simp only [List.any_cons,List.any_nil,Bool.or_false,inS]
            congr 1
            rw [decide_eq_true (by omega:(x:Int) < ((i + 1:Nat):Int)),decide_eq_true (by omega:(x:Int) < (i:Int))]
          · obtain rfl:x = i:=by omega
            rw [hb',List.any_append]
            simp only [List.any_cons,List.any_nil,Bool.or_false,inS]
            rw [decide_eq_true (by omega:(x:Int) ≥ a),decide_eq_true (by omega:(x:Int) < ((x + 1:Nat):Int))]
            simp
        · rw [sub1] at h
          exact absurd ⟨by omega,hb'⟩ h
      · rw [if_neg hp]
        have hc':=hc hp
        refine ⟨(holeE_snoc _ S (-1)).2 ⟨h0,badS_no.2 ⟨by show (0:Int) ≤ (i:Int); omega,by show (i:Int) < (i:Int) + 1; omega,by show (i:Int) + 1 ≤ _; omega⟩,hc'⟩,fun p hp => ?_,fun x hx => ?_,fun _ => ⟨S,(i:Int),rfl⟩,fun h => ?_⟩
        · rcases List.mem_append.1 hp with hp | hp
          · have:=hi p hp; omega
          · simp at hp; subst hp; show (i:Int) + 1 ≤ _; omega
        · rw [List.any_append]
          by_cases hxi:x < i
          · rw [← hk x hxi]
            simp only [List.any_cons,List.any_nil,Bool.or_false,inS]
            rw [decide_eq_false (by omega:¬ (x:Int) ≥ (i:Int))]
            simp
          · obtain rfl:x = i:=by omega
            rw [hb']
            simp only [List.any_cons,List.any_nil,Bool.or_false,inS]
            rw [decide_eq_true (by omega:(x:Int) ≥ (x:Int)),decide_eq_true (by omega:(x:Int) < (x:Int) + 1)]
            simp
        · rw [sub1] at h
          exact absurd ⟨by omega,hb'⟩ h
theorem known_holes (B:List Bool):knownL (holesOf B) B.length = B:=by
  have H:=holeI B B.length (Nat.le_refl _)
  apply List.ext_getElem?
  intro x
  by_cases hx:x < B.length
  · unfold knownL
    rw [List.getElem?_map,List.getElem?_range hx]
    show some (knownB (holesOf B) x) = _
    unfold knownB
    rw [show (holesOf B).any (inS x) = !B.getD x false from H.hk x hx,Bool.not_not,List.getD_eq_getElem?_getD,List.getElem?_eq_getElem hx]
    rfl
  · rw [List.getElem?_eq_none (by rw [knownL_len]; omega),List.getElem?_eq_none (by omega)]
theorem holes_ok (B:List Bool):holeE B.length (-1) (holesOf B) = 0:=(holeI B B.length (Nat.le_refl _)).h0
def DarkC (C:List (Int × Bool)):Prop:=∀ c,c ∈ C → c.2 = false → c.1 = 0
theorem made_run {s:ByteArray} {n:Int} {C:List (Int × Bool)} (hd:headE s n C.length = 0) (hn:n + C.length ≤ 100000000) (lim:∀ c,c ∈ C → c.1.natAbs ≤ 16384) (dk:DarkC C) :
    ∃ es,SErr (C.map fun c => smp c.1) es ∧ Lev (C.map fun c => smp c.1) (C.map fun c => c.1) ∧ runE s n (C.map fun c => smp c.1).length (holesOf (C.map fun c => c.2)) es (C.map fun c => c.1) = 0 ∧ Valid s n (C.map fun c => smp c.1) (holesOf (C.map fun c => c.2)) (C.map fun c => c.1) ∧ cellsL (C.map fun c => c.1) (holesOf (C.map fun c => c.2)) = C:=by
  have hL:=lev_smp lim
  obtain ⟨es,hE,h0⟩:=serr_zero hL
  have hlen:(C.map fun c => smp c.1).length = C.length:=by simp
  have hlen2:(C.map fun c => c.2).length = C.length:=by simp
  have ho:holeE C.length (-1) (holesOf (C.map fun c => c.2)) = 0:=by have:=holes_ok (C.map fun c => c.2); rwa [hlen2] at this
  have hK:knownL (holesOf (C.map fun c => c.2)) C.length = C.map fun c => c.2:=by have:=known_holes (C.map fun c => c.2); rwa [hlen2] at this
  have hin:=holeE_in ho
  have hform:(holesOf (C.map fun c => c.2)).any (anyIn (C.map fun c => c.1)) = false:=by
    cases hb:(holesOf (C.map fun c => c.2)).any (anyIn (C.map fun c => c.1)) with
    | false => rfl
    | true =>
      obtain ⟨j,x,hj,hx,hk⟩:=(form_iff hin).1 hb
      rw [List.getElem?_map] at hj
      cases hc:C[j]? with
      | none => rw [hc] at hj; cases hj
      | some c =>
        have hjl:j < C.length:=(List.getElem?_eq_some_iff.1 hc).1
        have hkj:(knownL (holesOf (C.map fun c => c.2)) C.length)[j]? = some (knownB (holesOf (C.map fun c => c.2)) j):=by
          unfold knownL
          rw [List.getElem?_map,List.getElem?_range hjl]; rfl
        rw [hK,List.getElem?_map,hc,hk] at hkj
        rw [hc] at hj
        exact absurd ((Option.some.inj hj).symm.trans (dk c (List.mem_of_getElem? hc) (Option.some.inj hkj))) hx
  obtain ⟨_,n0,n1,hm⟩:=headE_zero hd
  have hr:runE s n (C.map fun c => smp c.1).length (holesOf (C.map fun c => c.2)) es (C.map fun c => c.1) = 0:=by
    unfold runE tailE formE
    rw [hlen,hd,h0,ho,hform,decide_eq_false (by omega)]
    rfl
  refine ⟨es,hE,hL,hr,valid_of (fun _ => hL) hr,?_⟩
  rw [cells_eq hL (by rw [hlen]; exact hin),hlen,hK]
  apply List.ext_getElem?
  intro i
  cases hc:C[i]? with
  | none =>
    have:C.length ≤ i:=List.getElem?_eq_none_iff.1 hc
    rw [List.getElem?_eq_none (by rw [cellsK_ln (by simp)]; simp; omega)]
  | some c =>
    rw [cellsK_get (x:=c.1) (p:=c.2) (by rw [List.getElem?_map,hc]; rfl) (by rw [List.getElem?_map,hc]; rfl)]
    obtain ⟨x,k⟩:=c
    cases k with
    | true => rfl
    | false =>
      have h1:x = 0:=dk _ (List.mem_of_getElem? hc) rfl
      subst h1; rfl
theorem Valid.darkC {s:ByteArray} {n:Int} {F:List Nat} {S:List (Int × Int)} {L:List Int} (V:Valid s n F S L):DarkC (cellsL L S):=by
  rw [V.cells]
  intro c hc hk
  obtain ⟨i,hi,e⟩:=List.getElem_of_mem hc
  have kl:=V.kl
  rw [cellsK_ln kl] at hi
  have hx:L[i]? = some L[i]:=List.getElem?_eq_getElem hi
  have hp:(knownL S F.length)[i]? = some (knownL S F.length)[i]:=List.getElem?_eq_getElem (by omega)
  have hg:=cellsK_get hx hp
  rw [List.getElem?_eq_getElem (by rw [cellsK_ln kl]; exact hi),e] at hg
  have:=Option.some.inj hg
  cases hb:(knownL S F.length)[i] with
  | true => rw [hb] at this; rw [this] at hk; cases hk
  | false => rw [hb] at this; rw [this]; rfl
end Go.Tidy
namespace Go.Tidy
open Go Go.Proofs Tab
theorem known_no {S:List (Int × Int)} {x:Int}:knownB S x = false ↔ ∃ p,p ∈ S ∧ p.1 ≤ x ∧ x < p.2:=by
  unfold knownB
  rw [Bool.not_eq_false',List.any_eq_true]
  constructor
  · rintro ⟨p,hp,h⟩
    unfold inS at h
    simp only [Bool.and_eq_true,decide_eq_true_eq] at h
    exact ⟨p,hp,h.1,h.2⟩
  · rintro ⟨p,hp,h1,h2⟩
    refine ⟨p,hp,?_⟩
    unfold inS
    rw [decide_eq_true h1,decide_eq_true h2]; rfl
theorem holeE_tail {m:Nat} {prev:Int} {p:Int × Int} {r:List (Int × Int)} (h:holeE m prev (p :: r) = 0):badS m p = false ∧ prev < p.1 ∧ holeE m p.2 r = 0:=by
  rw [holeE_cons] at h
  cases hb:badS m p with
  | true => rw [hb] at h; cases h
  | false =>
    rw [hb] at h
    by_cases hc:p.1 ≤ prev
    · rw [decide_eq_true hc] at h; cases h
    · rw [decide_eq_false hc] at h
      exact ⟨rfl,by omega,h⟩
theorem known_tail {p:Int × Int} {r:List (Int × Int)} {x:Int} (hx:p.2 ≤ x):knownB (p :: r) x = knownB r x:=by
  unfold knownB
  rw [List.any_cons]
  unfold inS
  rw [decide_eq_false (by omega:¬ x < p.2),Bool.and_false,Bool.false_or]
theorem holes_first {m:Nat} {prev:Int} {p:Int × Int} {r:List (Int × Int)} (h:holeE m prev (p :: r) = 0) {x:Int} (hx:knownB (p :: r) x = false):p.1 ≤ x:=by
  obtain ⟨q,hq,h1,_⟩:=known_no.1 hx
  obtain ⟨b,_,t⟩:=holeE_tail h
  have:=badS_no.1 b
  rcases List.mem_cons.1 hq with rfl | hq
  · exact h1
  · have:=holeE_after t q hq
    omega
theorem holes_end {m:Nat} {prev:Int} {p:Int × Int} {r:List (Int × Int)} (h:holeE m prev (p :: r) = 0):knownB (p :: r) p.2 = true:=by
  cases hb:knownB (p :: r) p.2 with
  | true => rfl
  | false =>
    rw [known_tail (Int.le_refl _)] at hb
    obtain ⟨q,hq,h1,_⟩:=known_no.1 hb
    have:=holeE_after (holeE_tail h).2.2 q hq
    omega
theorem holes_uniq {m:Nat}:∀ {S T:List (Int × Int)} {prev:Int},-1 ≤ prev → holeE m prev S = 0 → holeE m prev T = 0 → (∀ x:Nat,prev < (x:Int) → knownB S x = knownB T x) → S = T
  | [],[],_,_,_,_,_ => rfl
  | [],q :: t,prev,h0,_,hT,h => by
    obtain ⟨b,a,_⟩:=holeE_tail hT
    have b':=badS_no.1 b
    obtain ⟨x,hx⟩:=Int.eq_ofNat_of_zero_le b'.1
    have h1:=h x (by omega)
    rw [show knownB (q :: t) (x:Int) = false from known_no.2 ⟨q,List.mem_cons_self ..,by omega,by omega⟩] at h1
    cases h1
  | p :: r,[],prev,h0,hS,_,h => by
    obtain ⟨b,a,_⟩:=holeE_tail hS
    have b':=badS_no.1 b
    obtain ⟨x,hx⟩:=Int.eq_ofNat_of_zero_le b'.1
    have h1:=h x (by omega)
    rw [show knownB (p :: r) (x:Int) = false from known_no.2 ⟨p,List.mem_cons_self ..,by omega,by omega⟩] at h1
    cases h1
  | p :: r,q :: t,prev,h0,hS,hT,h => by
    obtain ⟨b,a,tS⟩:=holeE_tail hS
    obtain ⟨c,d,tT⟩:=holeE_tail hT
    have b':=badS_no.1 b
    have c':=badS_no.1 c
    obtain ⟨p1,p2⟩:=p
    obtain ⟨q1,q2⟩:=q
    simp only at b' c' a d
    obtain ⟨x,rfl⟩:=Int.eq_ofNat_of_zero_le b'.1
    obtain ⟨y,rfl⟩:=Int.eq_ofNat_of_zero_le c'.1
    obtain ⟨u,rfl⟩:=Int.eq_ofNat_of_zero_le (show 0 ≤ p2 by omega)
    obtain ⟨v,rfl⟩:=Int.eq_ofNat_of_zero_le (show 0 ≤ q2 by omega)
    have e1:(y:Int) ≤ x:=holes_first hT (x:=(x:Int)) (by rw [← h x a]; exact known_no.2 ⟨_,List.mem_cons_self ..,Int.le_refl _,b'.2.1⟩)
    have e2:(x:Int) ≤ y:=holes_first hS (x:=(y:Int)) (by rw [h y d]; exact known_no.2 ⟨_,List.mem_cons_self ..,Int.le_refl _,c'.2.1⟩)
    obtain rfl:x = y:=by omega
    have f1:¬ (u:Int) < v:=fun hl => by
      have:=h u (by omega)
      rw [show knownB (((x:Int),(u:Int)) :: r) (u:Int) = true from holes_end hS,show knownB (((x:Int),(v:Int)) :: t) (u:Int) = false from known_no.2 ⟨_,List.mem_cons_self ..,by show (x:Int) ≤ u; omega,hl⟩] at this
      cases this
    have f2:¬ (v:Int) < u:=fun hl => by
      have:=h v (by omega)
      rw [show knownB (((x:Int),(v:Int)) :: t) (v:Int) = true from holes_end hT,show knownB (((x:Int),(u:Int)) :: r) (v:Int) = false from known_no.2 ⟨_,List.mem_cons_self ..,by show (x:Int) ≤ v; omega,hl⟩] at this
      cases this
    obtain rfl:u = v:=by omega
    congr 1
    refine holes_uniq (prev:=(u:Int)) (by omega) tS tT fun z hz => ?_
    have:=h z (by omega)
    rwa [known_tail (by show (u:Int) ≤ z; omega),known_tail (by show (u:Int) ≤ z; omega)] at this
theorem known_past {m:Nat} {S:List (Int × Int)} (hin:In m S) {x:Int} (hx:(m:Int) ≤ x):knownB S x = true:=by
  cases hb:knownB S x with
  | true => rfl
  | false =>
    obtain ⟨p,hp,h1,h2⟩:=known_no.1 hb
    have:=(hin p hp).2.2
    omega
theorem knownL_get {S:List (Int × Int)} {m i:Nat} (hi:i < m):(knownL S m)[i]? = some (knownB S i):=by
  unfold knownL
  rw [List.getElem?_map,List.getElem?_range hi]; rfl
theorem holesOf_get {K:List Bool} {i:Nat} (hi:i < K.length):K[i]? = some (knownB (holesOf K) i):=by
  have:=knownL_get (S:=holesOf K) hi
  rwa [known_holes] at this
theorem holes_back {m:Nat} {S:List (Int × Int)} (h:holeE m (-1) S = 0):holesOf (knownL S m) = S:=by
  have hl:=knownL_len S m
  have h2:=holes_ok (knownL S m)
  rw [hl] at h2
  refine holes_uniq (Int.le_refl _) h2 h fun x _ => ?_
  by_cases hx:x < m
  · have e1:=holesOf_get (K:=knownL S m) (i:=x) (by omega)
    rw [knownL_get hx] at e1
    exact (Option.some.inj e1).symm
  · rw [known_past (holeE_in h2) (by omega),known_past (holeE_in h) (by omega)]
theorem setN_in {α:Type} {l:List α} {p:Nat} {g:Nat → α} {q:Nat} (h1:p ≤ q) (h3:q < l.length):∀ w,q < p + w → (setN l p g w)[q]? = some (g (q - p))
  | 0,h => by omega
  | w + 1,h => by
    show ((setN l p g w).set _ _)[q]? = _
    by_cases hq:q = p + w
    · subst hq
      rw [List.getElem?_set_self (by rw [setN_len]; exact h3)]
      congr 2; omega
    · rw [List.getElem?_set_ne (by omega),setN_in h1 h3 w (by omega)]
end Go.Tidy
namespace Go.Tidy
open Go Go.Proofs Tab
variable {tp:TProg}
theorem Val.hx {s:ByteArray} {n:Int} {v1 v2:Value} {F:List Nat} {S:List (Int × Int)} {es L:List Int} {p1 p2:Int} {h hm g g':TH} {c3 c5 c12 c14 c18 c28 c29 c30:Nat} {sx:ByteArray} {nx:Int} {x1 x2:Value} {sy:ByteArray} {ny:Int} {y1 y2:Value} {ec ma mb:Int} {n1:Nat} {w1 w2:Value}
    (M:Val s n v1 v2 F S es L p1 p2 h hm g c3 c5 c12 c14 c18 c28 c29 c30 sx nx x1 x2 sy ny y1 y2 ec ma mb n1 w1 w2) (x:HX g g'):Val s n v1 v2 F S es L p1 p2 h hm g' c3 c5 c12 c14 c18 c28 c29 c30 sx nx x1 x2 sy ny y1 y2 ec ma mb n1 w1 w2 :=
  { M with x1_:=M.x1_.trans x,b28:=M.b28.hx x,b29:=M.b29.hx x,ro:=M.ro.hx x,b30:=M.b30.hx x }
end Go.Tidy
namespace Go.Tidy
open Go Go.Proofs Tab
variable {tp:TProg}
theorem short_small {s:ByteArray} {m k:Nat} (h:shortB s m k = true):m ≤ 4097 ∧ k ≤ 12:=by
  simp only [shortB,Bool.and_eq_true,Bool.or_eq_true,decide_eq_true_eq,beq_iff_eq] at h
  omega
end Go.Tidy
namespace Go.Tidy
open Go Go.Proofs Tab
variable {tp:TProg}
structure Cel (s:ByteArray) (n:Int) (F:List Nat) (es:List Int) (C:List (Int × Bool)):Prop where
  len:F.length = C.length
  e:SErr F es
  lev:Lev F (C.map fun c => c.1)
  r:runE s n F.length (holesOf (C.map fun c => c.2)) es (C.map fun c => c.1) = 0
  v:Valid s n F (holesOf (C.map fun c => c.2)) (C.map fun c => c.1)
  c:cellsL (C.map fun c => c.1) (holesOf (C.map fun c => c.2)) = C
def RunC (s:ByteArray) (n:Int) (h:TH) (v1 v2:Value) (C:List (Int × Bool)):Prop:=∃ F es,RunH h v1 v2 F (holesOf (C.map fun c => c.2)) ∧ Cel s n F es C
theorem RunC.hx {s:ByteArray} {n:Int} {h h':TH} {v1 v2:Value} {C:List (Int × Bool)} (r:RunC s n h v1 v2 C) (x:HX h h'):RunC s n h' v1 v2 C:=by
  obtain ⟨F,es,r,c⟩:=r
  exact ⟨F,es,r.hx x,c⟩
section
variable {s:ByteArray} {n:Int} {F:List Nat} {es L:List Int} {S:List (Int × Int)} {C:List (Int × Bool)}
theorem Cel.m (c:Cel s n F es C):C.length ≤ 4096:=by have:=c.v.m; rw [c.len] at this; exact this
theorem Cel.lim (c:Cel s n F es C):∀ x,x ∈ C → x.1.natAbs ≤ 16384:=by have:=c.v.lim; rwa [c.c] at this
theorem Cel.dk (c:Cel s n F es C):DarkC C:=by have:=c.v.darkC; rwa [c.c] at this
theorem Cel.holes (_:Cel s n F es C):(holesOf (C.map fun c => c.2)).length ≤ C.length:=by
  have:=holesN_len (C.map fun c => c.2) (C.map fun c => c.2).length
  show (holesN _ _).length ≤ _
  rwa [List.length_map] at this ⊢
theorem Cel.head (c:Cel s n F es C):headE s n C.length = 0:=by
  have:=c.r
  unfold runE at this
  rw [c.len] at this
  rcases nz_cases (headE s n C.length) with h | h
  · exact h
  · rw [h] at this; rw [show headE s n C.length = 0 from this] at h; cases h
theorem Cel.top (c:Cel s n F es C):n + C.length ≤ 100000000:=by have:=c.v.n1; rw [c.len] at this; exact this
theorem Valid.back (V:Valid s n F S L):((cellsL L S).map fun c => c.1) = L ∧ holesOf ((cellsL L S).map fun c => c.2) = S:=by
  have kl:=V.kl
  have ll:=V.lev.1
  constructor
  · apply List.ext_getElem?
    intro i
    rw [List.getElem?_map]
    by_cases hi:i < F.length
    · obtain ⟨k,hk⟩:=V.cell hi
      rw [hk,List.getElem?_eq_getElem (by omega:i < L.length)]
      simp [List.getD_eq_getElem?_getD,List.getElem?_eq_getElem (by omega:i < L.length)]
    · rw [List.getElem?_eq_none (by rw [cells_len V.lev V.in_]; omega),List.getElem?_eq_none (by omega)]
      rfl
  · rw [V.cells,cellsK_snd kl,holes_back V.hole]
theorem Cel.of (V:Valid s n F S L) (hE:SErr F es) (h0:runE s n F.length S es L = 0):Cel s n F es (cellsL L S):=by
  obtain ⟨b1,b2⟩:=V.back
  refine ⟨(cells_len V.lev V.in_).symm,hE,by rw [b1]; exact V.lev,by rw [b1,b2]; exact h0,by rw [b1,b2]; exact V,by rw [b1,b2]⟩
theorem Cel.made (hd:headE s n C.length = 0) (hn:n + C.length ≤ 100000000) (lim:∀ c,c ∈ C → c.1.natAbs ≤ 16384) (dk:DarkC C):∃ es,Cel s n (C.map fun c => smp c.1) es C:=by
  obtain ⟨es,e1,e2,e3,e4,e5⟩:=made_run hd hn lim dk
  exact ⟨es,by simp,e1,e2,e3,e4,e5⟩
theorem RunO.cel {B:Nat} {h:TH} {w1 w2:Value} (o:RunO B h w1 w2 (C.map fun c => smp c.1) (holesOf (C.map fun c => c.2))) (hd:headE s n C.length = 0) (hn:n + C.length ≤ 100000000) (lim:∀ c,c ∈ C → c.1.natAbs ≤ 16384) (dk:DarkC C):RunC s n h w1 w2 C:=by
  obtain ⟨es,c⟩:=Cel.made hd hn lim dk
  exact ⟨_,es,o.r,c⟩
end
section
variable {s:ByteArray} {n:Int} {h:TH} {v1 v2 w1 w2:Value} {C D:List (Int × Bool)}
def NewC (s:ByteArray) (n:Int) (C:List (Int × Bool)) (h:TH) (v:Value) (h':TH):Prop :=
  ∃ bo1 l1 k1 bo2 l2 k2,v = .tuple #[runV s n (.slice bo1 l1 k1) (.slice bo2 l2 k2),.int .i64 0] ∧ HX h h' ∧ RunC s n h' (.slice bo1 l1 k1) (.slice bo2 l2 k2) C ∧ Above h.next (.slice bo1 l1 k1) ∧ Above h.next (.slice bo2 l2 k2)
theorem RunR.new {h':TH} {v:Value} (r:RunR h h' v s n C 0) (hd:headE s n C.length = 0) (hn:n + C.length ≤ 100000000) (lim:∀ c,c ∈ C → c.1.natAbs ≤ 16384) (dk:DarkC C):NewC s n C h v h':=by
  obtain ⟨X,⟨he,_⟩ | ⟨_,w1,w2,rfl,O⟩⟩:=r
  · exact absurd rfl he
  · obtain ⟨bo1,k1,rfl⟩:=O.r.f.form
    obtain ⟨bo2,k2,rfl⟩:=O.r.s.form
    exact ⟨_,_,_,_,_,_,rfl,X,O.cel hd hn lim dk,O.o1,O.o2⟩
theorem c28 (H:Has tp) (X:HasX tp) (r:RunC s n h v1 v2 C) (f:Free0 h.next h):CallW Tryz.prog tp (.func (.func 28) #[] #[]) #[runV s n v1 v2] h fun v h' => NewC s n C.reverse h v h':=by
  obtain ⟨F,es,r,c⟩:=r
  have m:=c.m
  have l:=c.len
  have q:=c.holes
  refine (k28 H X r c.e (fun _ => c.lev) (by omega) (by omega) f).mono ?_
  intro v h' R
  rw [c.r,c.c] at R
  exact R.new (by rw [List.length_reverse]; exact c.head) (by rw [List.length_reverse]; exact c.top) (fun x hx => c.lim x (List.mem_reverse.1 hx)) (fun x hx => c.dk x (List.mem_reverse.1 hx))
theorem c29 (H:Has tp) (X:HasX tp) (r:RunC s n h v1 v2 C) (f:Free0 h.next h):CallW Tryz.prog tp (.func (.func 29) #[] #[]) #[runV s n v1 v2] h fun v h' => v = .tuple #[.int .i64 (sqL (knownV C)),.int .i64 0] ∧ HX h h':=by
  obtain ⟨F,es,r,c⟩:=r
  have m:=c.m
  have l:=c.len
  have q:=c.holes
  refine (k29 H X r c.e (fun _ => c.lev) (by omega) (by omega) f).mono ?_
  rintro v h' ⟨rfl,x⟩
  rw [c.r,c.c]
  exact ⟨rfl,x⟩
def meanT (sum:Int) (k:Nat):Value:=cond (k == 0) (.tuple #[ratio0,.int .i64 7]) (.tuple #[meanR sum k,.int .i64 0])
theorem c30 (H:Has tp) (X:HasX tp) (r:RunC s n h v1 v2 C) (f:Free0 h.next h):CallW Tryz.prog tp (.func (.func 30) #[] #[]) #[runV s n v1 v2] h fun v h' => v = meanT (sumL (knownV C)) (knownV C).length ∧ HX h h':=by
  obtain ⟨F,es,r,c⟩:=r
  have m:=c.m
  have l:=c.len
  have q:=c.holes
  refine (k30 H X r c.e (fun _ => c.lev) (by omega) (by omega) f).mono ?_
  rintro v h' ⟨rfl,x⟩
  rw [c.r,c.c]
  exact ⟨rfl,x⟩
end
end Go.Tidy
namespace Go.Tidy
open Go Go.Proofs Tab
variable {tp:TProg}
section
variable {s s':ByteArray} {n n':Int} {h:TH} {v1 v2 w1 w2:Value} {C D:List (Int × Bool)}
def knownC (C:List (Int × Bool)) (x:Int):Bool:=knownB (holesOf (C.map fun c => c.2)) x
theorem knownC_get {i:Nat} {c:Int × Bool} (hc:C[i]? = some c):knownC C i = c.2:=by
  have hi:i < (C.map fun c => c.2).length:=by rw [List.length_map]; exact (List.getElem?_eq_some_iff.1 hc).1
  have:=holesOf_get hi
  rw [List.getElem?_map,hc] at this
  exact (Option.some.inj this).symm
end
end Go.Tidy
namespace Go.Tidy
open Go Go.Proofs Tab
variable {tp:TProg}
theorem lev_some (F:List Nat):∃ es L,SErr F es ∧ (firstNZ es = 0 → Lev F L):=by
  obtain ⟨es,hE⟩:=serr_ex F
  by_cases h0:firstNZ es = 0
  · obtain ⟨L,hL⟩:=lev_ex F es hE (firstNZ_zero h0)
    exact ⟨es,L,hE,fun _ => hL⟩
  · exact ⟨es,[],hE,fun h => absurd h h0⟩
attribute [local irreducible] Ty valOf
end Go.Tidy
namespace Go.Tidy
open Go Go.Proofs Tab
variable {tp:TProg}
section
variable {P:Program} {h:TH} {K:Regs → TH → Prop} {rest:List TOper} {d:Option Tmp} {ty:TypeId} {i:Nat} {x y:Operand} {t u:TypeId} {L:Rg}
theorem WOL.fne {b c:Nat} {m n:Int} (s:Samp b m) (s':Samp c n) (hx:getL L x = some (.float .f32 b)) (hy:getL L y = some (.float .f32 c)) (w:∀ a,Kn (putL L d (.bool (!decide (m = n)))) a → WO P tp rest a h K):∀ a,Kn L a → WO P tp (⟨d,.binOp .neq t x y u,ty,none,[],i⟩ :: rest) a h K:=fun a k => WO.fcmp (k.o hx) (k.o hy) s.nan s'.nan (s.cmp s').2 (w _ (k.put d _))
end
section
variable {s:ByteArray} {n:Int} {g:TH} {v1 v2 p1 p2:Value} {C:List (Int × Bool)} {c2 c3 c5':Nat}
end
end Go.Tidy
namespace Go.Tidy
open Go Go.Proofs Tab
variable {tp:TProg}
theorem ne_same (z:Int):fastBin .neq (.int .i64 z) (.int .i64 z) = some (.bool false):=by
  show some (Value.bool (z != z)) = _
  simp
section
variable {s:ByteArray} {n:Int} {g:TH} {v1 v2 p1 p2:Value} {C D:List (Int × Bool)} {c2 c3 c5':Nat}
end
end Go.Tidy
namespace Go.Tidy
open Go Go.Proofs Tab
variable {tp:TProg}
section
variable {s:ByteArray} {n:Int} {g:TH} {v1 v2 p1 p2:Value} {C:List (Int × Bool)} {c2 c3 c5':Nat}
theorem RunC.relock (r:RunC s n g v1 v2 C) (M:List Nat):RunC s n (g.withLock M) v1 v2 C:=by
  obtain ⟨F,es,r,c⟩:=r
  exact ⟨F,es,r.relock' M,c⟩
end
attribute [local irreducible] Ty valOf
end Go.Tidy
namespace Go.Tidy
open Go Go.Proofs Tab
variable {tp:TProg}
theorem RunC.away {s:ByteArray} {n:Int} {h h':TH} {v1 v2:Value} {C:List (Int × Bool)} {n0 c:Nat} {x:TB} (r:RunC s n h v1 v2 C) (a1:Above n0 v1) (a2:Above n0 v2) (p:Put h h' c x) (hc:c < n0):RunC s n h' v1 v2 C:=by
  obtain ⟨F,es,r,q⟩:=r
  exact ⟨F,es,(RunO.away (n0:=n0) ⟨r,a1,a2⟩ p hc).r,q⟩
theorem u5:Tryz.prog.underlying 5 = some (.int .u8):=by kernel_rfl
theorem WOL.convU {P:Program} {tp:TProg} {h:TH} {K:Regs → TH → Prop} {rest:List TOper} {d:Option Tmp} {ty:TypeId} {i:Nat} {x:Operand} {L:Rg} {s t:TypeId} {ds:TypeDesc} {k:IntKind} {n:Int} (hs:P.underlying s = some ds) (ht:P.underlying t = some (.int .i64)) (hx:getL L x = some (.int k n)) (h1:0 ≤ n) (h2:n ≤ 255) (w:∀ a,Kn (putL L d (.int .i64 n)) a → WO P tp rest a h K):∀ a,Kn L a → WO P tp (⟨d,.convert s t x,ty,none,[],i⟩ :: rest) a h K:=fun a q => by
  refine WO.conv (q.o hx) rfl (conv_i2i hs ht) rfl ?_
  rw [show IntKind.i64.wrap n = n from IntWalk.i64_in _ (by omega)]
  exact w _ (q.put d _)
section
variable {s:ByteArray} {n:Int} {g:TH} {v1 v2:Value} {C:List (Int × Bool)} {c2 c3:Nat}
end
end Go.Tidy
namespace Go.Tidy
open Go Go.Proofs Tab
variable {tp:TProg}
theorem Samp.order {b c:Nat} {n m:Int} (s:Samp b n) (t:Samp c m):Ieee.single.order b c = some (compare n m):=by
  obtain ⟨neg,q,h1,h2,h3⟩:=s.ok
  obtain ⟨neg',q',g1,g2,g3⟩:=t.ok
  obtain ⟨D,hD⟩:∃ D:Nat,2 ^ 149 = D:=⟨_,rfl⟩
  have hDp:0 < D:=by rw [← hD]; exact two_pow_pos 149
  have e1:=h2 D hD
  have e2:=g2 D hD
  have a1:sg neg q * (16:Nat) = n * (D:Nat):=by rw [← sg_mul,e1,sg_mul,h3]
  have a2:sg neg' q' * (16:Nat) = m * (D:Nat):=by rw [← sg_mul,e2,sg_mul,g3]
  rw [h1.order g1]
  generalize sg neg q = x at *
  generalize sg neg' q' = y at *
  have hDi:(0:Int) < (D:Int):=by omega
  have hlt:x < y ↔ n < m:=by
    constructor
    · intro hq
      have:n * (D:Int) < m * (D:Int):=by rw [← a1,← a2]; omega
      exact Int.lt_of_mul_lt_mul_right this (by omega)
    · intro hq
      have:n * (D:Int) < m * (D:Int):=Int.mul_lt_mul_of_pos_right hq hDi
      rw [← a1,← a2] at this
      omega
  have heq:x = y ↔ n = m:=by
    constructor
    · intro hq
      rw [hq,a2] at a1
      exact (Int.eq_of_mul_eq_mul_right (by omega) a1).symm
    · intro hq
      rw [hq,← a2] at a1
      omega
  congr 1
  show compareOfLessAndEq _ _ = compareOfLessAndEq _ _
  unfold compareOfLessAndEq
  simp only [hlt,heq]
section
variable {P:Program} {h:TH} {K:Regs → TH → Prop} {rest:List TOper} {d:Option Tmp} {ty:TypeId} {i:Nat} {x y:Operand} {t u:TypeId} {L:Rg}
end
end Go.Tidy
namespace Go.Tidy
open Go Go.Proofs Tab
variable {tp:TProg}
def down:List Int → Nat → List Int
  | l,0 => l
  | l,j + 1 => if l.getD (j + 1) 0 < l.getD j 0 then down ((l.set (j + 1) (l.getD j 0)).set j (l.getD (j + 1) 0)) j else l
def insL (l:List Int):Nat → List Int
  | 0 => l
  | k + 1 => down (insL l k) k
theorem down_len:∀ (j:Nat) (l:List Int),(down l j).length = l.length
  | 0,l => rfl
  | j + 1,l => by
    unfold down
    split
    · rw [down_len j]; simp
    · rfl
theorem insL_len (l:List Int):∀ k,(insL l k).length = l.length
  | 0 => rfl
  | k + 1 => by unfold insL; rw [down_len,insL_len l k]
theorem down_all {p:Int → Prop}:∀ (j:Nat) (l:List Int),j < l.length ∨ j = 0 → (∀ x,x ∈ l → p x) → ∀ x,x ∈ down l j → p x
  | 0,l,_,h => h
  | j + 1,l,hj,h => by
    unfold down
    have hj:j + 1 < l.length:=by omega
    have g1:l.getD (j + 1) 0 ∈ l:=by rw [List.getD_eq_getElem?_getD,List.getElem?_eq_getElem hj]; exact List.getElem_mem hj
    have g2:l.getD j 0 ∈ l:=by rw [List.getD_eq_getElem?_getD,List.getElem?_eq_getElem (show j < l.length by omega)]; exact List.getElem_mem _
    split
    · refine down_all j _ (by left; simp; omega) ?_
      intro x hx
      rcases List.mem_or_eq_of_mem_set hx with hx | rfl
      · rcases List.mem_or_eq_of_mem_set hx with hx | rfl
        · exact h x hx
        · exact h _ g2
      · exact h _ g1
    · exact h
theorem insL_all {p:Int → Prop} {l:List Int} (h:∀ x,x ∈ l → p x):∀ k,k ≤ l.length → ∀ x,x ∈ insL l k → p x
  | 0,_ => h
  | k + 1,hk => by
    unfold insL
    exact down_all k _ (by left; rw [insL_len]; omega) (insL_all h k (by omega))
theorem k199 (H:Has tp) (n:Int) (h:TH):CallW Tryz.prog tp (.func (.func 199) #[] #[]) #[zi n] h fun v h' => v = .bool false ∧ h' = h:=by
  refine CallW.fnL (H.fn 199 f199 rfl rfl) ?_
  refine WL.sr <| WOL.as rfl <| WOL.nil <| keep [(0,_)] ⟨rfl,trivial⟩ ?_
  refine WL.sr <| WOL.mv rfl <| WOL.mv rfl ?_
  refine WOL.bi rfl rfl (ne_same _) <| WOL.as rfl <| WOL.nil <| keep [(2,_)] ⟨rfl,trivial⟩ ?_
  exact WL.done rfl ⟨rfl,rfl⟩
theorem k183 (H:Has tp) (n m:Int) (h:TH):CallW Tryz.prog tp (.func (.func 183) #[] #[]) #[zi n,zi m] h fun v h' => v = .bool (decide (n < m)) ∧ h' = h:=by
  refine CallW.fnL (H.fn 183 f183 rfl rfl) ?_
  refine WL.sr <| WOL.as rfl <| WOL.nil <| keep [(0,_),(1,_)] ⟨rfl,rfl,trivial⟩ ?_
  refine WL.sr <| WOL.mv rfl ?_
  refine WOL.cl1 rfl rfl ((k199 H n h).mono ?_)
  rintro v g ⟨rfl,rfl⟩
  refine WOL.mv rfl ?_
  refine WOL.skp (b:=false) rfl rfl <| WOL.skp (b:=false) rfl rfl <| WOL.skp (b:=false) rfl rfl <| WOL.pkf rfl rfl <| WOL.mv rfl ?_
  refine WOL.now (b:=false) rfl rfl <| WOL.mv rfl <| WOL.now (b:=false) rfl rfl <| WOL.mv rfl <| WOL.now (b:=false) rfl rfl ?_
  refine WOL.bi (v:=.bool (decide (n < m))) rfl rfl rfl <| WOL.pkf rfl rfl <| WOL.as rfl <| WOL.nil <| keep [(4,_)] ⟨rfl,trivial⟩ ?_
  exact WL.done rfl ⟨rfl,rfl⟩
set_option maxHeartbeats 2000000 in
set_option maxRecDepth 10000 in
theorem k177 (H:Has tp) {v:Value} {l:List Int} {n0:Nat} {h hb:TH} (O:OwnL encI n0 h v 3 l) (hl:l.length ≤ 12) (f:Free0 n0 h) (X:HX hb h) (hn:hb.next ≤ n0) :
    CallW Tryz.prog tp (.func (.func 177) #[] #[]) #[v,zi 0,zi l.length] h fun _ h' => OwnL encI n0 h' v 3 (insL l l.length) ∧ HX hb h':=by
  refine CallW.fnL (H.fn 177 f177 rfl rfl) ?_
  refine WL.sr <| WOL.mv rfl <| WOL.add rfl rfl (by decide) (by decide) <| WOL.as rfl <| WOL.nil <| keep [(0,_),(1,_),(2,_),(6,_)] ⟨rfl,rfl,rfl,rfl,trivial⟩ ?_
  refine WL.block ?_
  refine WL.loop (fun k a g => ∃ i:Nat,1 ≤ i ∧ (i ≤ l.length ∨ i = 1) ∧ k = l.length + 1 - i ∧ OwnL encI n0 g v 3 (insL l i) ∧ HX hb g ∧ Kn [(0,v),(1,zi 0),(2,zi l.length),(6,zi (i:Nat))] a) (l.length + 1 - 1) (fun a q => ⟨1,by omega,.inr rfl,rfl,O,X,q.sub ⟨rfl,rfl,rfl,rfl,trivial⟩⟩) ?_
  rintro k a g ⟨i,h1,h2,rfl,O1,X1,q⟩
  refine q.go ?_
  refine WL.seq <| WL.sr <| WOL.mv rfl <| WOL.mv rfl <| WOL.bi (v:=.bool (decide ((i:Int) < (l.length:Int)))) rfl rfl rfl <| WOL.nil <| keep [(0,_),(1,_),(2,_),(6,_),(12,_)] ⟨rfl,rfl,rfl,rfl,rfl,trivial⟩ ?_
  by_cases hlt:i < l.length
  · rw [show decide ((i:Int) < (l.length:Int)) = true by simpa using hlt]
    refine WL.yes rfl <| WL.skip ?_
    refine WL.seq <| WL.block ?_
    refine WL.sr <| WOL.mv rfl <| WOL.as rfl <| WOL.nil <| keep [(0,_),(1,_),(2,_),(6,_),(7,_)] ⟨rfl,rfl,rfl,rfl,rfl,trivial⟩ ?_
    refine WL.block ?_
    refine WL.loop (fun k a g => ∃ (j:Nat) (D:List Int),j ≤ i ∧ D.length = l.length ∧ k = j ∧ down D j = insL l (i + 1) ∧ OwnL encI n0 g v 3 D ∧ HX hb g ∧ Kn [(0,v),(1,zi 0),(2,zi l.length),(6,zi (i:Nat)),(7,zi (j:Nat))] a) i (fun a q => ⟨i,insL l i,by omega,insL_len l i,rfl,rfl,O1,X1,q.sub ⟨rfl,rfl,rfl,rfl,rfl,trivial⟩⟩) ?_
    have fin:∀ g',OwnL encI n0 g' v 3 (insL l (i + 1)) → HX hb g' → ∀ a,Kn [(0,v),(1,zi 0),(2,zi l.length),(6,zi (i:Nat))] a → W Tryz.prog tp false (.reg r177_6) a g' (andThen (fun a g => ∃ k',k' < l.length + 1 - i ∧ ∃ i:Nat,1 ≤ i ∧ (i ≤ l.length ∨ i = 1) ∧ k' = l.length + 1 - i ∧ OwnL encI n0 g v 3 (insL l i) ∧ HX hb g ∧ Kn [(0,v),(1,zi 0),(2,zi l.length),(6,zi (i:Nat))] a) (leaves 0 (Fin Tryz.prog [] fun _ h' => OwnL encI n0 h' v 3 (insL l l.length) ∧ HX hb h'))):=by
      intro g' O' X'
      refine WL.reg ?_
      refine WOL.mv rfl <| WOL.add rfl rfl (by omega) (by omega) <| WOL.as rfl <| WOL.nil ?_
      exact fun a q => ⟨l.length + 1 - (i + 1),by omega,i + 1,by omega,by omega,rfl,O',X',q.sub ⟨rfl,rfl,rfl,rfl,trivial⟩⟩
    clear O1 X1 q a g
    rintro k a g ⟨j,D,hj,hD,hk,hdn,O1,X1,q⟩
    subst hk
    refine q.go ?_
    refine WL.seq <| WL.sr <| WOL.mv rfl <| WOL.mv rfl ?_
    cases k with
    | zero =>
      refine WOL.bi (v:=.bool false) rfl rfl rfl <| WOL.mv rfl ?_
      refine WOL.skp (b:=false) rfl rfl <| WOL.skp (b:=false) rfl rfl <| WOL.skp (b:=false) rfl rfl <| WOL.skp (b:=false) rfl rfl <| WOL.skp (b:=false) rfl rfl <| WOL.skp (b:=false) rfl rfl <| WOL.skp (b:=false) rfl rfl <| WOL.skp (b:=false) rfl rfl <| WOL.skp (b:=false) rfl rfl <| WOL.skp (b:=false) rfl rfl ?_
      refine WOL.pkf rfl rfl <| WOL.nil <| keep [(0,_),(1,_),(2,_),(6,_),(30,_)] ⟨rfl,rfl,rfl,rfl,rfl,trivial⟩ ?_
      refine WL.no rfl <| WL.exit ?_
      have hdn:D = insL l (i + 1):=hdn
      exact kto (fin g (by rw [← hdn]; exact O1) X1) ⟨rfl,rfl,rfl,rfl,trivial⟩
    | succ j =>
      refine WOL.bi (v:=.bool true) rfl rfl (by show some (Value.bool (decide (((j + 1:Nat):Int) > 0))) = _; rw [decide_eq_true (by omega)]) <| WOL.mv rfl ?_
      have p1:D[j + 1]? = some (D.getD (j + 1) 0):=by rw [List.getD_eq_getElem?_getD,List.getElem?_eq_getElem (show j + 1 < D.length by omega)]; rfl
      have p0:D[j]? = some (D.getD j 0):=by rw [List.getD_eq_getElem?_getD,List.getElem?_eq_getElem (show j < D.length by omega)]; rfl
      unfold down at hdn
      generalize D.getD (j + 1) 0 = x at *
      generalize D.getD j 0 = y at *
      obtain ⟨b,o,cc,fix,wr,el,e1,e2,e3,e4,e5⟩:=(O1.sl eI).at eI u29 tp3 p1 .i64
      obtain ⟨b',o',cc',fix',wr',el',g1,g2,g3,g4,g5⟩:=(O1.sl eI).at eI u29 tp3 p0 .i64
      have sj:fastBin .sub (zi ((j + 1:Nat):Int)) (zi 1) = some (zi (j:Nat)):=by show some (Value.int .i64 (fwrap .i64 (((j + 1:Nat):Int) - 1))) = _; rw [fwrap_i64 (by omega) (by omega)]; congr 2; omega
      refine WOL.now (b:=true) rfl rfl <| WOL.mv rfl <| WOL.now (b:=true) rfl rfl <| WOL.mv rfl <| WOL.now (b:=true) rfl rfl ?_
      refine WOL.ix rfl rfl e1 <| WOL.now (b:=true) rfl rfl ?_
      refine WOL.ld rfl (load_one tp3 e2 (e5 0 (by decide))) ?_
      refine WOL.now (b:=true) rfl rfl <| WOL.mv rfl <| WOL.now (b:=true) rfl rfl <| WOL.mv rfl <| WOL.now (b:=true) rfl rfl ?_
      refine WOL.bi rfl rfl sj <| WOL.now (b:=true) rfl rfl ?_
      refine WOL.ix rfl rfl g1 <| WOL.now (b:=true) rfl rfl ?_
      refine WOL.ld rfl (load_one tp3 g2 (g5 0 (by decide))) ?_
      refine WOL.now (b:=true) rfl rfl ?_
      refine WOL.cl2 rfl rfl rfl ((k183 H x y g).mono ?_)
      rintro w g' ⟨rfl,rfl⟩
      refine WOL.pkt rfl rfl <| WOL.nil <| keep [(0,_),(1,_),(2,_),(6,_),(7,_),(30,_)] ⟨rfl,rfl,rfl,rfl,rfl,rfl,trivial⟩ ?_
      by_cases hxy:x < y
      · rw [decide_eq_true hxy]
        rw [if_pos hxy] at hdn
        refine WL.yes rfl <| WL.skip ?_
        refine WL.seq <| WL.block ?_
        refine WL.reg ?_
        refine WOL.mv rfl <| WOL.mv rfl <| WOL.mv rfl <| WOL.mv rfl <| WOL.bi rfl rfl sj <| WOL.mv rfl <| WOL.mv rfl <| WOL.bi rfl rfl sj ?_
        refine WOL.ix rfl rfl g1 ?_
        refine WOL.ld rfl (load_one tp3 g2 (g5 0 (by decide))) ?_
        refine WOL.mv rfl <| WOL.mv rfl <| WOL.ix rfl rfl e1 ?_
        refine WOL.ld rfl (load_one tp3 e2 (e5 0 (by decide))) ?_
        rcases O1 with ⟨_,he0⟩ | ⟨hne,bO,rfl,hbO,AO⟩
        · rw [he0] at hD; simp at hD; omega
        refine WOL.ix rfl rfl (indexAddr_tp u29 tp3 (by omega)) ?_
        refine WOL.sto rfl rfl tp3 AO rfl rfl (by rw [eI.cat_len]; omega) rfl (f.of X X1) hbO fun h4 P4 => ?_
        have A4:=P4.at_
        rw [show (Value.int .i64 y).cells.toList = encI y from rfl,splice1 eI (by omega)] at A4
        have X4:=P4.hx _ X1 (by omega)
        refine WOL.ix rfl rfl (indexAddr_tp u29 tp3 (by omega)) ?_
        refine WOL.sto rfl rfl tp3 A4 rfl rfl (by rw [eI.cat_len,List.length_set]; omega) rfl (f.of X X4) hbO fun h5 P5 => ?_
        have A5:=P5.at_
        rw [show (Value.int .i64 x).cells.toList = encI x from rfl,splice1 eI (by rw [List.length_set]; omega)] at A5
        have X5:=P5.hx _ X4 (by omega)
        refine WOL.nil <| keep [(0,_),(1,_),(2,_),(6,_),(7,_)] ⟨rfl,rfl,rfl,rfl,rfl,trivial⟩ ?_
        refine WL.reg ?_
        refine WOL.mv rfl <| WOL.bi rfl rfl sj <| WOL.as rfl <| WOL.nil ?_
        exact fun a q => ⟨j,by omega,j,_,by omega,by rw [List.length_set,List.length_set]; exact hD,rfl,hdn,own_of (by rw [List.length_set,List.length_set]) hbO A5 (by omega),X5,q.sub ⟨rfl,rfl,rfl,rfl,rfl,trivial⟩⟩
      · rw [decide_eq_false hxy]
        rw [if_neg hxy] at hdn
        refine WL.no rfl <| WL.exit ?_
        exact kto (fin g' (by rw [← hdn]; exact O1) X1) ⟨rfl,rfl,rfl,rfl,trivial⟩
  · rw [show decide ((i:Int) < (l.length:Int)) = false by simpa using hlt]
    refine WL.no rfl <| WL.exit ?_
    refine WL.endn (vs:=[]) rfl ⟨?_,X1⟩
    rcases h2 with h2 | rfl
    · obtain rfl:i = l.length:=by omega
      exact O1
    · have:l.length = 0 ∨ l.length = 1:=by omega
      rcases this with h0 | h0 <;> rw [h0] <;> exact O1
set_option maxHeartbeats 1000000 in
theorem k168 (H:Has tp) {v:Value} {l:List Int} {n0:Nat} {lim:Int} {h hb:TH} (O:OwnL encI n0 h v 3 l) (hl:l.length ≤ 12) (f:Free0 n0 h) (X:HX hb h) (hn:hb.next ≤ n0) :
    CallW Tryz.prog tp (.func (.func 168) #[] #[]) #[v,zi 0,zi l.length,zi lim] h fun _ h' => OwnL encI n0 h' v 3 (insL l l.length) ∧ HX hb h':=by
  refine CallW.fnL (H.fn 168 f168 rfl rfl) ?_
  refine WL.sr <| WOL.as rfl <| WOL.nil <| keep [(0,_),(1,_),(2,_)] ⟨rfl,rfl,rfl,trivial⟩ ?_
  refine WL.sr <| WOL.as rfl <| WOL.nil <| keep [(0,_),(1,_),(2,_)] ⟨rfl,rfl,rfl,trivial⟩ ?_
  refine WL.block ?_
  refine WL.loop (fun k a g => g = h ∧ Kn [(0,v),(1,zi 0),(2,zi l.length)] a) 0 (fun a q => ⟨rfl,q⟩) ?_
  rintro k a g ⟨rfl,q⟩
  refine q.go ?_
  refine WL.block ?_
  refine WL.sr <| WOL.mv rfl <| WOL.mv rfl <| WOL.sub rfl rfl (by omega) (by omega) <| WOL.as rfl <| WOL.nil <| keep [(0,_),(1,_),(2,_),(10,_)] ⟨rfl,rfl,rfl,rfl,trivial⟩ ?_
  refine WL.seq <| WL.sr <| WOL.mv rfl ?_
  refine WOL.bi (v:=.bool true) rfl rfl (by show some (Value.bool (decide (((l.length:Int) - 0) ≤ 12))) = _; rw [decide_eq_true (by omega)]) ?_
  refine WOL.nil <| keep [(0,_),(1,_),(2,_),(23,_)] ⟨rfl,rfl,rfl,rfl,trivial⟩ ?_
  refine WL.yes rfl <| WL.sr <| WOL.mv rfl <| WOL.mv rfl <| WOL.mv rfl ?_
  refine WOL.cl3 rfl rfl rfl rfl ((k177 H O hl f X hn).mono ?_)
  rintro w g' ⟨O2,X2⟩
  refine WOL.nil <| WL.ret ?_
  exact WL.end_ (vs:=[]) rfl ⟨O2,X2⟩
theorem WOL.si {P:Program} {tp:TProg} {h:TH} {K:Regs → TH → Prop} {rest:List TOper} {d:Option Tmp} {ty:TypeId} {i:Nat} {x y:Operand} {t:TypeId} {L:Rg} {s:ByteArray} {k:IntKind} {j:Nat} (hx:getL L x = some (.string s)) (hy:getL L y = some (.int k (j:Nat))) (hu:P.underlying t = some .string) (hj:j < s.size) (w:∀ a,Kn (putL L d (.int .u8 (s[j].toNat:Nat))) a → WO P tp rest a h K):∀ a,Kn L a → WO P tp (⟨d,.index t x y,ty,none,[],i⟩ :: rest) a h K:=fun a q => WO.si (q.o hx) (q.o hy) hu hj (w _ (q.put d _))
theorem WOL.cv {P:Program} {tp:TProg} {h:TH} {K:Regs → TH → Prop} {rest:List TOper} {d:Option Tmp} {ty:TypeId} {i:Nat} {x:Operand} {L:Rg} {s t:TypeId} {ds:TypeDesc} {k k':IntKind} {n:Int} (hs:P.underlying s = some ds) (ht:P.underlying t = some (.int k')) (hx:getL L x = some (.int k n)) (hw:k'.wrap n = n) (w:∀ a,Kn (putL L d (.int k' n)) a → WO P tp rest a h K):∀ a,Kn L a → WO P tp (⟨d,.convert s t x,ty,none,[],i⟩ :: rest) a h K:=fun a q => by
  refine WO.conv (q.o hx) rfl (conv_i2i hs ht) rfl ?_
  rw [hw]
  exact w _ (q.put d _)
theorem wrap_few {k:IntKind} {m:Nat} (h:m ≤ 3):k.wrap (m:Int) = m:=by
  obtain rfl | rfl | rfl | rfl:m = 0 ∨ m = 1 ∨ m = 2 ∨ m = 3:=by omega
  all_goals cases k <;> rfl
theorem u222:Tryz.prog.underlying 222 = some (.int .u64):=by kernel_rfl
theorem u228:Tryz.prog.underlying 228 = some (.int .u64):=by kernel_rfl
set_option maxRecDepth 100000 in
set_option maxHeartbeats 1000000 in
theorem k187 (H:Has tp) {m:Nat} (hm:m ≤ 3) (h:TH):CallW Tryz.prog tp (.func (.func 187) #[] #[]) #[.int .u64 (m:Nat)] h fun v h' => (∃ z,v = zi z) ∧ h' = h:=by
  refine CallW.fnL (H.fn 187 f187 rfl rfl) ?_
  have no:∀ c:Int,100 ≤ c → fastBin .geq (.int .u64 (m:Nat)) (.int .u64 c) = some (.bool false):=fun c hc => by
    show some (Value.bool (decide ((m:Int) ≥ c))) = _
    rw [decide_eq_false (by omega)]
  refine WL.sr <| WOL.as rfl <| WOL.nil <| keep [(0,_),(2,_)] ⟨rfl,rfl,trivial⟩ ?_
  refine WL.seq <| WL.sr <| WOL.mv rfl <| WOL.bi rfl rfl (no _ (by decide)) <| WOL.nil <| WL.no rfl <| WL.skip <| keep [(0,_),(2,_)] ⟨rfl,rfl,trivial⟩ ?_
  refine WL.seq <| WL.sr <| WOL.mv rfl <| WOL.bi rfl rfl (no _ (by decide)) <| WOL.nil <| WL.no rfl <| WL.skip <| keep [(0,_),(2,_)] ⟨rfl,rfl,trivial⟩ ?_
  refine WL.seq <| WL.sr <| WOL.mv rfl <| WOL.bi rfl rfl (no _ (by decide)) <| WOL.nil <| WL.no rfl <| WL.skip <| keep [(0,_),(2,_)] ⟨rfl,rfl,trivial⟩ ?_
  refine WL.sr <| WOL.mv rfl <| WOL.mv rfl ?_
  refine WOL.cv u222 u5 rfl (wrap_few hm) ?_
  refine WOL.si rfl rfl u9 (Nat.lt_of_lt_of_le (Nat.lt_succ_of_le hm) (Nat.le_of_ble_eq_true rfl)) ?_
  generalize hq:UInt8.toNat _ = q
  have hq2:q < 256:=by rw [← hq]; exact UInt8.toNat_lt _
  refine WOL.convU u5 u3 rfl (by omega) (by omega) ?_
  refine WOL.add rfl rfl (by omega) (by omega) ?_
  refine WOL.as rfl <| WOL.nil <| keep [(2,_)] ⟨rfl,trivial⟩ ?_
  exact WL.done rfl ⟨⟨_,rfl⟩,rfl⟩
theorem k169 (H:Has tp) {m:Nat} (hm:m ≤ 3) (h:TH):CallW Tryz.prog tp (.func (.func 169) #[] #[]) #[.int .u64 (m:Nat)] h fun v h' => (∃ z,v = zi z) ∧ h' = h:=by
  refine CallW.fnL (H.fn 169 f169 rfl rfl) ?_
  refine WL.sr <| WOL.as rfl <| WOL.nil <| keep [(0,_)] ⟨rfl,trivial⟩ ?_
  refine WL.seq <| WL.no rfl <| WL.skip ?_
  refine WL.sr <| WOL.mv rfl ?_
  refine WOL.cl1 rfl rfl ((k187 H hm h).mono ?_)
  rintro v g ⟨⟨z,rfl⟩,rfl⟩
  refine WOL.as rfl <| WOL.nil <| keep [(2,_)] ⟨rfl,trivial⟩ ?_
  exact WL.done rfl ⟨⟨_,rfl⟩,rfl⟩
theorem k150 (H:Has tp) {v:Value} {l:List Int} {n0:Nat} {h hb:TH} (O:OwnL encI n0 h v 3 l) (hl:l.length ≤ 3) (f:Free0 n0 h) (X:HX hb h) (hn:hb.next ≤ n0) :
    CallW Tryz.prog tp (.func (.func 150) #[] #[]) #[v] h fun _ h' => OwnL encI n0 h' v 3 (insL l l.length) ∧ HX hb h':=by
  refine CallW.fnL (H.fn 150 f150 rfl rfl) ?_
  refine WL.sr <| WOL.mv rfl <| WOL.len rfl (O.sl eI) u29 <| WOL.as rfl <| WOL.nil <| keep [(0,_),(2,_)] ⟨rfl,rfl,trivial⟩ ?_
  refine WL.reg <| WOL.mv rfl <| WOL.mv rfl <| WOL.mv rfl ?_
  refine WOL.cv u3 u228 rfl (wrap_few hl) ?_
  refine WOL.cl1 rfl rfl ((k169 H hl h).mono ?_)
  rintro w g ⟨⟨z,rfl⟩,rfl⟩
  refine WOL.cl4 rfl rfl rfl rfl rfl ((k168 H O (by omega) f X hn).mono ?_)
  rintro w g' ⟨O2,X2⟩
  exact WOL.nil <| WL.endn (vs:=[]) rfl ⟨O2,X2⟩
end Go.Tidy
namespace Go.Tidy
open Go Go.Proofs Tab
variable {tp:TProg}
section
variable {P:Program} {h:TH} {K:Regs → TH → Prop} {rest:List TOper} {d:Option Tmp} {ty:TypeId} {i:Nat} {x y z:Operand} {t u s:TypeId} {L:Rg}
theorem WOL.imin {m n:Int} (hx:getL L x = some (zi m)) (hy:getL L y = some (zi n)) (w:∀ a,Kn (putL L d (zi (min m n))) a → WO P tp rest a h K):∀ a,Kn L a → WO P tp (⟨d,.call ⟨.builtin .min,#[x,y],#[t,u]⟩,ty,none,[],i⟩ :: rest) a h K:=by
  intro a k
  have ex:=getO_eval (k.o hx)
  have ey:=getO_eval (k.o hy)
  have q:(if n < m then n else m) = min m n:=by rw [Int.min_def]; split <;> split <;> omega
  refine WO.plainly rfl rfl rfl rfl rfl (plainOp_of rfl (fun p hp => ?_) ?_ rfl) (w _ (k.put d _))
  · simp only [Op.operands,Call.operands] at hp
    simp at hp
    rcases hp with rfl | rfl
    · rw [ex]; rfl
    · rw [ey]; rfl
  · simp [toOper,execOp,resolve,invoke,builtin,Builtin.min_,Builtin.min2,pv_bind,pv_map,pv_pure,ex,ey,q]
theorem WOL.imax {m n:Int} (hx:getL L x = some (zi m)) (hy:getL L y = some (zi n)) (w:∀ a,Kn (putL L d (zi (max m n))) a → WO P tp rest a h K):∀ a,Kn L a → WO P tp (⟨d,.call ⟨.builtin .max,#[x,y],#[t,u]⟩,ty,none,[],i⟩ :: rest) a h K:=by
  intro a k
  have ex:=getO_eval (k.o hx)
  have ey:=getO_eval (k.o hy)
  have q:(if m < n then n else m) = max m n:=by rw [Int.max_def]; split <;> split <;> omega
  refine WO.plainly rfl rfl rfl rfl rfl (plainOp_of rfl (fun p hp => ?_) ?_ rfl) (w _ (k.put d _))
  · simp only [Op.operands,Call.operands] at hp
    simp at hp
    rcases hp with rfl | rfl
    · rw [ex]; rfl
    · rw [ey]; rfl
  · simp [toOper,execOp,resolve,invoke,builtin,Builtin.max_,Builtin.max2,pv_bind,pv_map,pv_pure,ex,ey,q]
theorem WOL.imin3 {m n o:Int} (hx:getL L x = some (zi m)) (hy:getL L y = some (zi n)) (hz:getL L z = some (zi o)) (w:∀ a,Kn (putL L d (zi (min (min m n) o))) a → WO P tp rest a h K):∀ a,Kn L a → WO P tp (⟨d,.call ⟨.builtin .min,#[x,y,z],#[t,u,s]⟩,ty,none,[],i⟩ :: rest) a h K:=by
  intro a k
  have ex:=getO_eval (k.o hx)
  have ey:=getO_eval (k.o hy)
  have ez:=getO_eval (k.o hz)
  have q:(if n < m then n else m) = min m n:=by rw [Int.min_def]; split <;> split <;> omega
  have q2:(if o < min m n then o else min m n) = min (min m n) o:=by
    generalize min m n = r
    rw [Int.min_def]; split <;> split <;> omega
  refine WO.plainly rfl rfl rfl rfl rfl (plainOp_of rfl (fun p hp => ?_) ?_ rfl) (w _ (k.put d _))
  · simp only [Op.operands,Call.operands] at hp
    simp at hp
    rcases hp with rfl | rfl | rfl
    · rw [ex]; rfl
    · rw [ey]; rfl
    · rw [ez]; rfl
  · simp [toOper,execOp,resolve,invoke,builtin,Builtin.min_,Builtin.min2,pv_bind,pv_map,pv_pure,ex,ey,ez,q,q2]
theorem WOL.imax3 {m n o:Int} (hx:getL L x = some (zi m)) (hy:getL L y = some (zi n)) (hz:getL L z = some (zi o)) (w:∀ a,Kn (putL L d (zi (max (max m n) o))) a → WO P tp rest a h K):∀ a,Kn L a → WO P tp (⟨d,.call ⟨.builtin .max,#[x,y,z],#[t,u,s]⟩,ty,none,[],i⟩ :: rest) a h K:=by
  intro a k
  have ex:=getO_eval (k.o hx)
  have ey:=getO_eval (k.o hy)
  have ez:=getO_eval (k.o hz)
  have q:(if m < n then n else m) = max m n:=by rw [Int.max_def]; split <;> split <;> omega
  have q2:(if max m n < o then o else max m n) = max (max m n) o:=by
    generalize max m n = r
    rw [Int.max_def]; split <;> split <;> omega
  refine WO.plainly rfl rfl rfl rfl rfl (plainOp_of rfl (fun p hp => ?_) ?_ rfl) (w _ (k.put d _))
  · simp only [Op.operands,Call.operands] at hp
    simp at hp
    rcases hp with rfl | rfl | rfl
    · rw [ex]; rfl
    · rw [ey]; rfl
    · rw [ez]; rfl
  · simp [toOper,execOp,resolve,invoke,builtin,Builtin.max_,Builtin.max2,pv_bind,pv_map,pv_pure,ex,ey,ez,q,q2]
end
def voteS (m:Int):List Int → Int × Bool
  | [a,b,c] => if min (b - a) (c - b) ≤ m then (b,true) else (0,false)
  | [a,b] => if b - a ≤ m then (rnd (a + b) 2,true) else (0,false)
  | _ => (0,false)
def voteC (m:Int) (C:List (Int × Bool)):Int × Bool:=voteS m (insL (knownV C) (knownV C).length)
theorem knownV_le (C:List (Int × Bool)):(knownV C).length ≤ C.length:=by
  unfold knownV
  rw [List.length_map]
  exact List.length_filter_le _ _
theorem knownV_all {p:Int → Prop} {C:List (Int × Bool)} (h:∀ c,c ∈ C → p c.1):∀ x,x ∈ knownV C → p x:=by
  intro x hx
  unfold knownV at hx
  obtain ⟨c,h1,rfl⟩:=List.mem_map.1 hx
  exact h c (List.mem_filter.1 h1).1
set_option maxHeartbeats 4000000 in
set_option maxRecDepth 10000 in
theorem k112 (H:Has tp) {m:Int} {v:Value} {C:List (Int × Bool)} {h:TH} (s:SlL encC 2 h v C) (hC:C.length ≤ 3) (hS:∀ c,c ∈ C → c.1.natAbs ≤ 16384) (f:Free0 h.next h) :
    CallW Tryz.prog tp (.func (.func 112) #[] #[]) #[zi m,v] h fun v' h' => v' = .agg #[zi (voteC m C).1,.bool (voteC m C).2] ∧ HX h h':=by
  refine CallW.fnL (H.fn 112 f112 rfl rfl) ?_
  refine WL.sr <| WOL.al tp134 fun h1 N1 => WOL.nil <| keep [(0,_),(1,_),(4,_)] ⟨rfl,rfl,rfl,trivial⟩ ?_
  refine WL.sr <| WOL.mv rfl ?_
  refine WOL.cl1 rfl rfl ((k88 H (s.hx N1.hx) (by omega) (f.on N1.hx)).mono ?_)
  rintro v2 h2 ⟨O2,X2⟩
  refine WOL.as rfl <| WOL.nil <| keep [(0,_),(4,_),(5,_)] ⟨rfl,rfl,rfl,trivial⟩ ?_
  have kl:=knownV_le C
  refine WL.sr <| WOL.mv rfl ?_
  refine WOL.cl1 rfl rfl ((k150 H O2 (by omega) ((f.on N1.hx).hx X2) X2 (Nat.le_refl _)).mono ?_)
  rintro v3 h3 ⟨O3,X3⟩
  refine WOL.nil <| keep [(0,_),(4,_),(5,_)] ⟨rfl,rfl,rfl,trivial⟩ ?_
  have hb:∀ x,x ∈ insL (knownV C) (knownV C).length → x.natAbs ≤ 16384:=insL_all (p:=fun x => x.natAbs ≤ 16384) (knownV_all (p:=fun x => x.natAbs ≤ 16384) hS) _ (Nat.le_refl _)
  have hl:(insL (knownV C) (knownV C).length).length ≤ 3:=by rw [insL_len]; omega
  unfold voteC
  generalize insL (knownV C) (knownV C).length = S at *
  have Y3:=N1.hx.trans X3
  have A4:=N1.at_.hx X3
  have put:∀ (x:Int) (b:Bool),(x,b) = voteS m S → ∀ h4,Put h3 h4 h.next (.cells [zi x,.bool b] true true 134) → (loadT Tryz.prog 134 (.pointer (some ⟨h.next,0,none⟩)) h4 = some (.agg #[zi x,.bool b])) ∧ (Value.agg #[zi x,.bool b] = .agg #[zi (voteS m S).1,.bool (voteS m S).2] ∧ HX h h4):=by
    intro x b e h4 P4
    refine ⟨load_row tp134 P4.at_ rfl (Nat.le_of_ble_eq_true rfl),?_,P4.hx _ Y3 (Nat.le_refl _)⟩
    rw [← e]
  have zero:(0,false) = voteS m S → ∀ a,Kn [(4,ptr h.next)] a → W Tryz.prog tp false (.seq (.reg r112_7) .ret) a h3 (Fin Tryz.prog [.cell 4 134] fun v' h' => v' = .agg #[zi (voteS m S).1,.bool (voteS m S).2] ∧ HX h h'):=by
    intro e
    refine WL.sr <| WOL.bd rfl bd134z ?_
    refine WOL.sto rfl rfl tp134 A4 rfl rfl (Nat.le_of_ble_eq_true rfl) rfl (f.hx Y3) (Nat.le_refl _) fun h4 P4 => ?_
    refine WOL.nil ?_
    obtain ⟨q1,q2⟩:=put _ _ e _ P4
    exact WL.ret (WL.endC rfl q1 q2)
  match S,hl,hb,O3 with
  | [],_,_,O3 =>
    refine WL.seq <| WL.block ?_
    refine WL.sr <| WOL.mv rfl <| WOL.len rfl (O3.sl eI) u29 <| WOL.bi (v:=.bool false) rfl rfl rfl <| WOL.mv rfl ?_
    refine WOL.skp (b:=false) rfl rfl <| WOL.skp (b:=false) rfl rfl <| WOL.skp (b:=false) rfl rfl <| WOL.skp (b:=false) rfl rfl <| WOL.skp (b:=false) rfl rfl <| WOL.skp (b:=false) rfl rfl <| WOL.skp (b:=false) rfl rfl <| WOL.skp (b:=false) rfl rfl <| WOL.skp (b:=false) rfl rfl <| WOL.skp (b:=false) rfl rfl <| WOL.skp (b:=false) rfl rfl <| WOL.skp (b:=false) rfl rfl <| WOL.skp (b:=false) rfl rfl <| WOL.skp (b:=false) rfl rfl <| WOL.skp (b:=false) rfl rfl <| WOL.skp (b:=false) rfl rfl <| WOL.skp (b:=false) rfl rfl ?_
    refine WOL.pkf rfl rfl <| WOL.as rfl <| WOL.nil <| keep [(0,_),(4,_),(5,_),(10,_)] ⟨rfl,rfl,rfl,rfl,trivial⟩ ?_
    refine WL.no rfl ?_
    refine WL.sr <| WOL.mv rfl <| WOL.len rfl (O3.sl eI) u29 <| WOL.bi (v:=.bool false) rfl rfl rfl <| WOL.mv rfl ?_
    refine WOL.skp (b:=false) rfl rfl <| WOL.skp (b:=false) rfl rfl <| WOL.skp (b:=false) rfl rfl <| WOL.skp (b:=false) rfl rfl <| WOL.skp (b:=false) rfl rfl <| WOL.skp (b:=false) rfl rfl <| WOL.skp (b:=false) rfl rfl <| WOL.skp (b:=false) rfl rfl <| WOL.skp (b:=false) rfl rfl ?_
    refine WOL.pkf rfl rfl <| WOL.as rfl <| WOL.nil <| keep [(0,_),(4,_),(5,_),(37,_)] ⟨rfl,rfl,rfl,rfl,trivial⟩ ?_
    refine WL.no rfl <| WL.skip ?_
    exact kto (zero rfl) ⟨rfl,trivial⟩
  | [p],_,_,O3 =>
    refine WL.seq <| WL.block ?_
    refine WL.sr <| WOL.mv rfl <| WOL.len rfl (O3.sl eI) u29 <| WOL.bi (v:=.bool false) rfl rfl rfl <| WOL.mv rfl ?_
    refine WOL.skp (b:=false) rfl rfl <| WOL.skp (b:=false) rfl rfl <| WOL.skp (b:=false) rfl rfl <| WOL.skp (b:=false) rfl rfl <| WOL.skp (b:=false) rfl rfl <| WOL.skp (b:=false) rfl rfl <| WOL.skp (b:=false) rfl rfl <| WOL.skp (b:=false) rfl rfl <| WOL.skp (b:=false) rfl rfl <| WOL.skp (b:=false) rfl rfl <| WOL.skp (b:=false) rfl rfl <| WOL.skp (b:=false) rfl rfl <| WOL.skp (b:=false) rfl rfl <| WOL.skp (b:=false) rfl rfl <| WOL.skp (b:=false) rfl rfl <| WOL.skp (b:=false) rfl rfl <| WOL.skp (b:=false) rfl rfl ?_
    refine WOL.pkf rfl rfl <| WOL.as rfl <| WOL.nil <| keep [(0,_),(4,_),(5,_),(10,_)] ⟨rfl,rfl,rfl,rfl,trivial⟩ ?_
    refine WL.no rfl ?_
    refine WL.sr <| WOL.mv rfl <| WOL.len rfl (O3.sl eI) u29 <| WOL.bi (v:=.bool false) rfl rfl rfl <| WOL.mv rfl ?_
    refine WOL.skp (b:=false) rfl rfl <| WOL.skp (b:=false) rfl rfl <| WOL.skp (b:=false) rfl rfl <| WOL.skp (b:=false) rfl rfl <| WOL.skp (b:=false) rfl rfl <| WOL.skp (b:=false) rfl rfl <| WOL.skp (b:=false) rfl rfl <| WOL.skp (b:=false) rfl rfl <| WOL.skp (b:=false) rfl rfl ?_
    refine WOL.pkf rfl rfl <| WOL.as rfl <| WOL.nil <| keep [(0,_),(4,_),(5,_),(37,_)] ⟨rfl,rfl,rfl,rfl,trivial⟩ ?_
    refine WL.no rfl <| WL.skip ?_
    exact kto (zero rfl) ⟨rfl,trivial⟩
  | [p,q],_,hb,O3 =>
    have b1:=hb p (by simp)
    have b2:=hb q (by simp)
    obtain ⟨c0,o0,cc0,fix0,wr0,el0,d1,d2,d3,d4,d5⟩:=(O3.sl eI).at eI u29 tp3 (j:=0) rfl .i64
    obtain ⟨c1,o1,cc1,fix1,wr1,el1,e1,e2,e3,e4,e5⟩:=(O3.sl eI).at eI u29 tp3 (j:=1) rfl .i64
    refine WL.seq <| WL.block ?_
    refine WL.sr <| WOL.mv rfl <| WOL.len rfl (O3.sl eI) u29 <| WOL.bi (v:=.bool false) rfl rfl rfl <| WOL.mv rfl ?_
    refine WOL.skp (b:=false) rfl rfl <| WOL.skp (b:=false) rfl rfl <| WOL.skp (b:=false) rfl rfl <| WOL.skp (b:=false) rfl rfl <| WOL.skp (b:=false) rfl rfl <| WOL.skp (b:=false) rfl rfl <| WOL.skp (b:=false) rfl rfl <| WOL.skp (b:=false) rfl rfl <| WOL.skp (b:=false) rfl rfl <| WOL.skp (b:=false) rfl rfl <| WOL.skp (b:=false) rfl rfl <| WOL.skp (b:=false) rfl rfl <| WOL.skp (b:=false) rfl rfl <| WOL.skp (b:=false) rfl rfl <| WOL.skp (b:=false) rfl rfl <| WOL.skp (b:=false) rfl rfl <| WOL.skp (b:=false) rfl rfl ?_
    refine WOL.pkf rfl rfl <| WOL.as rfl <| WOL.nil <| keep [(0,_),(4,_),(5,_),(10,_)] ⟨rfl,rfl,rfl,rfl,trivial⟩ ?_
    refine WL.no rfl ?_
    refine WL.sr <| WOL.mv rfl <| WOL.len rfl (O3.sl eI) u29 <| WOL.bi (v:=.bool true) rfl rfl rfl <| WOL.mv rfl ?_
    refine WOL.now (b:=true) rfl rfl <| WOL.mv rfl <| WOL.now (b:=true) rfl rfl <| WOL.ix rfl rfl e1 <| WOL.now (b:=true) rfl rfl ?_
    refine WOL.ld rfl (load_one tp3 e2 (e5 0 (by decide))) <| WOL.now (b:=true) rfl rfl ?_
    refine WOL.mv rfl <| WOL.now (b:=true) rfl rfl <| WOL.ix rfl rfl d1 <| WOL.now (b:=true) rfl rfl ?_
    refine WOL.ld rfl (load_one tp3 d2 (d5 0 (by decide))) <| WOL.now (b:=true) rfl rfl ?_
    refine WOL.sub rfl rfl (by omega) (by omega) <| WOL.now (b:=true) rfl rfl <| WOL.mv rfl <| WOL.now (b:=true) rfl rfl ?_
    refine WOL.bi (v:=.bool (decide (q - p ≤ m))) rfl rfl rfl <| WOL.pkt rfl rfl <| WOL.as rfl <| WOL.nil <| keep [(0,_),(4,_),(5,_),(37,_)] ⟨rfl,rfl,rfl,rfl,trivial⟩ ?_
    by_cases hq:q - p ≤ m
    · rw [decide_eq_true hq]
      refine WL.yes rfl ?_
      refine WL.sr <| WOL.mv rfl <| WOL.ix rfl rfl d1 ?_
      refine WOL.ld rfl (load_one tp3 d2 (d5 0 (by decide))) ?_
      refine WOL.mv rfl <| WOL.ix rfl rfl e1 ?_
      refine WOL.ld rfl (load_one tp3 e2 (e5 0 (by decide))) ?_
      refine WOL.add rfl rfl (by omega) (by omega) ?_
      refine WOL.cl2 rfl rfl rfl ((k103 H (a:=p + q) (b:=2) (by omega) (by decide) (by decide)).mono ?_)
      rintro w g ⟨rfl,rfl⟩
      refine WOL.bd rfl bd134 ?_
      refine WOL.sto rfl rfl tp134 A4 rfl rfl (Nat.le_of_ble_eq_true rfl) rfl (f.hx Y3) (Nat.le_refl _) fun h4 P4 => ?_
      refine WOL.nil <| WL.ret ?_
      obtain ⟨q1,q2⟩:=put (rnd (p + q) 2) true (by show _ = (if q - p ≤ m then (rnd (p + q) 2,true) else (0,false)); rw [if_pos hq]) _ P4
      exact WL.endC rfl q1 q2
    · rw [decide_eq_false hq]
      refine WL.no rfl <| WL.skip ?_
      exact kto (zero (by show _ = (if q - p ≤ m then (rnd (p + q) 2,true) else (0,false)); rw [if_neg hq])) ⟨rfl,trivial⟩
  | [p,q,r],_,hb,O3 =>
    have b1:=hb p (by simp)
    have b2:=hb q (by simp)
    have b3:=hb r (by simp)
    obtain ⟨c0,o0,cc0,fix0,wr0,el0,d1,d2,d3,d4,d5⟩:=(O3.sl eI).at eI u29 tp3 (j:=0) rfl .i64
    obtain ⟨c1,o1,cc1,fix1,wr1,el1,e1,e2,e3,e4,e5⟩:=(O3.sl eI).at eI u29 tp3 (j:=1) rfl .i64
    obtain ⟨c2,o2,cc2,fix2,wr2,el2,g1,g2,g3,g4,g5⟩:=(O3.sl eI).at eI u29 tp3 (j:=2) rfl .i64
    refine WL.seq <| WL.block ?_
    refine WL.sr <| WOL.mv rfl <| WOL.len rfl (O3.sl eI) u29 <| WOL.bi (v:=.bool true) rfl rfl rfl <| WOL.mv rfl ?_
    refine WOL.now (b:=true) rfl rfl <| WOL.mv rfl <| WOL.now (b:=true) rfl rfl <| WOL.ix rfl rfl e1 <| WOL.now (b:=true) rfl rfl ?_
    refine WOL.ld rfl (load_one tp3 e2 (e5 0 (by decide))) <| WOL.now (b:=true) rfl rfl ?_
    refine WOL.mv rfl <| WOL.now (b:=true) rfl rfl <| WOL.ix rfl rfl d1 <| WOL.now (b:=true) rfl rfl ?_
    refine WOL.ld rfl (load_one tp3 d2 (d5 0 (by decide))) <| WOL.now (b:=true) rfl rfl ?_
    refine WOL.sub rfl rfl (by omega) (by omega) <| WOL.now (b:=true) rfl rfl <| WOL.mv rfl <| WOL.now (b:=true) rfl rfl ?_
    refine WOL.ix rfl rfl g1 <| WOL.now (b:=true) rfl rfl ?_
    refine WOL.ld rfl (load_one tp3 g2 (g5 0 (by decide))) <| WOL.now (b:=true) rfl rfl ?_
    refine WOL.mv rfl <| WOL.now (b:=true) rfl rfl <| WOL.ix rfl rfl e1 <| WOL.now (b:=true) rfl rfl ?_
    refine WOL.ld rfl (load_one tp3 e2 (e5 0 (by decide))) <| WOL.now (b:=true) rfl rfl ?_
    refine WOL.sub rfl rfl (by omega) (by omega) <| WOL.now (b:=true) rfl rfl ?_
    refine WOL.imin rfl rfl <| WOL.now (b:=true) rfl rfl <| WOL.mv rfl <| WOL.now (b:=true) rfl rfl ?_
    refine WOL.bi (v:=.bool (decide (min (q - p) (r - q) ≤ m))) rfl rfl rfl <| WOL.pkt rfl rfl <| WOL.as rfl <| WOL.nil <| keep [(0,_),(4,_),(5,_),(10,_)] ⟨rfl,rfl,rfl,rfl,trivial⟩ ?_
    by_cases hq:min (q - p) (r - q) ≤ m
    · rw [decide_eq_true hq]
      refine WL.yes rfl ?_
      refine WL.sr <| WOL.mv rfl <| WOL.ix rfl rfl e1 ?_
      refine WOL.ld rfl (load_one tp3 e2 (e5 0 (by decide))) ?_
      refine WOL.bd rfl bd134 ?_
      refine WOL.sto rfl rfl tp134 A4 rfl rfl (Nat.le_of_ble_eq_true rfl) rfl (f.hx Y3) (Nat.le_refl _) fun h4 P4 => ?_
      refine WOL.nil <| WL.ret ?_
      obtain ⟨q1,q2⟩:=put q true (by show _ = (if min (q - p) (r - q) ≤ m then (q,true) else (0,false)); rw [if_pos hq]) _ P4
      exact WL.endC rfl q1 q2
    · rw [decide_eq_false hq]
      refine WL.no rfl ?_
      refine WL.sr <| WOL.mv rfl <| WOL.len rfl (O3.sl eI) u29 <| WOL.bi (v:=.bool false) rfl rfl rfl <| WOL.mv rfl ?_
      refine WOL.skp (b:=false) rfl rfl <| WOL.skp (b:=false) rfl rfl <| WOL.skp (b:=false) rfl rfl <| WOL.skp (b:=false) rfl rfl <| WOL.skp (b:=false) rfl rfl <| WOL.skp (b:=false) rfl rfl <| WOL.skp (b:=false) rfl rfl <| WOL.skp (b:=false) rfl rfl <| WOL.skp (b:=false) rfl rfl ?_
      refine WOL.pkf rfl rfl <| WOL.as rfl <| WOL.nil <| keep [(0,_),(4,_),(5,_),(37,_)] ⟨rfl,rfl,rfl,rfl,trivial⟩ ?_
      refine WL.no rfl <| WL.skip ?_
      exact kto (zero (by show _ = (if min (q - p) (r - q) ≤ m then (q,true) else (0,false)); rw [if_neg hq])) ⟨rfl,trivial⟩
  | p :: q :: r :: t :: S,hl,_,_ => simp at hl
def wrongB (m:Int) (c v:Int × Bool):Bool:=c.2 && v.2 && decide (max (c.1 - v.1) (v.1 - c.1) > m)
set_option maxHeartbeats 1000000 in
set_option maxRecDepth 10000 in
theorem k113 (H:Has tp) {m x n:Int} {p q:Bool} {h:TH} (hx:x.natAbs ≤ 16384) (hn:n.natAbs ≤ 16384) :
    CallW Tryz.prog tp (.func (.func 113) #[] #[]) #[.agg #[zi x,.bool p],.agg #[zi n,.bool q],zi m] h fun v h' => v = .bool (wrongB m (x,p) (n,q)) ∧ HX h h':=by
  refine CallW.fnL (H.fn 113 f113 rfl rfl) ?_
  refine WL.sr <| WOL.box rfl fun h1 N1 => WOL.box rfl fun h2 N2 => WOL.as rfl <| WOL.nil <| keep [(2,_),(3,_),(4,_)] ⟨rfl,rfl,rfl,trivial⟩ ?_
  have A3:=N1.at_.hx N2.hx
  have A4:=N2.at_
  have X2:=N1.hx.trans N2.hx
  refine WL.sr <| WOL.fa rfl (fa_of fo134_1) ?_
  refine WOL.ld rfl (load_one tp4 A3 rfl) <| WOL.mv rfl ?_
  cases p with
  | false =>
    refine WOL.skp (b:=false) rfl rfl <| WOL.skp (b:=false) rfl rfl <| WOL.pkf rfl rfl <| WOL.mv rfl ?_
    refine WOL.skp (b:=false) rfl rfl <| WOL.skp (b:=false) rfl rfl <| WOL.skp (b:=false) rfl rfl <| WOL.skp (b:=false) rfl rfl <| WOL.skp (b:=false) rfl rfl <| WOL.skp (b:=false) rfl rfl <| WOL.skp (b:=false) rfl rfl <| WOL.skp (b:=false) rfl rfl <| WOL.skp (b:=false) rfl rfl <| WOL.skp (b:=false) rfl rfl <| WOL.skp (b:=false) rfl rfl <| WOL.skp (b:=false) rfl rfl <| WOL.skp (b:=false) rfl rfl ?_
    refine WOL.pkf rfl rfl <| WOL.as rfl <| WOL.nil <| keep [(6,_)] ⟨rfl,trivial⟩ ?_
    exact WL.done rfl ⟨rfl,X2⟩
  | true =>
    refine WOL.now (b:=true) rfl rfl <| WOL.fa rfl (fa_of fo134_1) <| WOL.now (b:=true) rfl rfl ?_
    refine WOL.ld rfl (load_one tp4 A4 rfl) <| WOL.pkt rfl rfl <| WOL.mv rfl ?_
    cases q with
    | false =>
      refine WOL.skp (b:=false) rfl rfl <| WOL.skp (b:=false) rfl rfl <| WOL.skp (b:=false) rfl rfl <| WOL.skp (b:=false) rfl rfl <| WOL.skp (b:=false) rfl rfl <| WOL.skp (b:=false) rfl rfl <| WOL.skp (b:=false) rfl rfl <| WOL.skp (b:=false) rfl rfl <| WOL.skp (b:=false) rfl rfl <| WOL.skp (b:=false) rfl rfl <| WOL.skp (b:=false) rfl rfl <| WOL.skp (b:=false) rfl rfl <| WOL.skp (b:=false) rfl rfl ?_
      refine WOL.pkf rfl rfl <| WOL.as rfl <| WOL.nil <| keep [(6,_)] ⟨rfl,trivial⟩ ?_
      exact WL.done rfl ⟨rfl,X2⟩
    | true =>
      refine WOL.now (b:=true) rfl rfl <| WOL.fa rfl (fa_of fo134_0) <| WOL.now (b:=true) rfl rfl ?_
      refine WOL.ld rfl (load_one tp3 A3 rfl) <| WOL.now (b:=true) rfl rfl ?_
      refine WOL.fa rfl (fa_of fo134_0) <| WOL.now (b:=true) rfl rfl ?_
      refine WOL.ld rfl (load_one tp3 A4 rfl) <| WOL.now (b:=true) rfl rfl ?_
      refine WOL.sub rfl rfl (by omega) (by omega) <| WOL.now (b:=true) rfl rfl ?_
      refine WOL.fa rfl (fa_of fo134_0) <| WOL.now (b:=true) rfl rfl ?_
      refine WOL.ld rfl (load_one tp3 A4 rfl) <| WOL.now (b:=true) rfl rfl ?_
      refine WOL.fa rfl (fa_of fo134_0) <| WOL.now (b:=true) rfl rfl ?_
      refine WOL.ld rfl (load_one tp3 A3 rfl) <| WOL.now (b:=true) rfl rfl ?_
      refine WOL.sub rfl rfl (by omega) (by omega) <| WOL.now (b:=true) rfl rfl ?_
      refine WOL.imax rfl rfl <| WOL.now (b:=true) rfl rfl <| WOL.mv rfl <| WOL.now (b:=true) rfl rfl ?_
      refine WOL.bi (v:=.bool (decide (max (x - n) (n - x) > m))) rfl rfl rfl <| WOL.pkt rfl rfl <| WOL.as rfl <| WOL.nil <| keep [(6,_)] ⟨rfl,trivial⟩ ?_
      refine WL.done rfl ⟨?_,X2⟩
      unfold wrongB
      simp
      rfl
end Go.Tidy
namespace Go.Tidy
open Go Go.Proofs Tab
variable {tp:TProg}
theorem pv_q0 (a b c:Int):pv Tryz.prog (Go.part 3 #[.int .i64 a,.int .i64 b,.int .i64 c] 0) = some (.int .i64 a):=by kernel_rfl
theorem pv_q1 (a b c:Int):pv Tryz.prog (Go.part 3 #[.int .i64 a,.int .i64 b,.int .i64 c] 1) = some (.int .i64 b):=by kernel_rfl
theorem pv_q2 (a b c:Int):pv Tryz.prog (Go.part 3 #[.int .i64 a,.int .i64 b,.int .i64 c] 2) = some (.int .i64 c):=by kernel_rfl
theorem u83:Tryz.prog.underlying 83 = some (.array 3 3):=by kernel_rfl
theorem pv_s3:pv Tryz.prog (sizeOf 3) = some 1:=by kernel_rfl
theorem pv_eq83 (a b c:Int):pv Tryz.prog (Op.equal 83 (.agg #[.int .i64 a,.int .i64 b,.int .i64 c]) (.agg #[.int .i64 a,.int .i64 b,.int .i64 c])) = some true:=by
  show pv Tryz.prog (Op.equalIn (9999 + 1) 83 _ _) = _
  rw [Op.equalIn,pv_bind,pv_underlying u83,Option.bind_some]
  simp only [Std.Legacy.Range.forIn_eq_forIn_range',Std.Legacy.Range.size,pv_bind,pv_s3,Option.bind_some,List.range',List.forIn_cons,List.forIn_nil]
  have e:∀ c:Int,pv Tryz.prog (Op.equalIn 9999 3 (.int .i64 c) (.int .i64 c)) = some true:=fun c => by rw [pv_eq3 c c 9998]; simp
  simp [pv_bind,pv_q0,pv_q1,pv_q2,e,pv_pure]
theorem WOL.eq83 {h:TH} {K:Regs → TH → Prop} {rest:List TOper} {d:Option Tmp} {ty:TypeId} {i:Nat} {x y:Operand} {u:TypeId} {L:Rg} {a b c:Int} (hx:getL L x = some (.agg #[zi a,zi b,zi c])) (hy:getL L y = some (.agg #[zi a,zi b,zi c]))
    (w:∀ r,Kn (putL L d (.bool true)) r → WO Tryz.prog tp rest r h K):∀ r,Kn L r → WO Tryz.prog tp (⟨d,.binOp .eql 83 x y u,ty,none,[],i⟩ :: rest) r h K:=by
  intro r k
  have ex:=getO_eval (k.o hx)
  have ey:=getO_eval (k.o hy)
  refine WO.plainly rfl rfl rfl (by simp [fastOp,fastBin,ex,ey]) (by simp [valueOp,ex,ey,eqT_agg]) (plainOp_of (by rfl) (fun q hq => ?_) ?_ rfl) (w _ (k.put d _))
  · simp only [Op.operands] at hq
    simp at hq
    rcases hq with rfl | rfl
    · rw [ex]; rfl
    · rw [ey]; rfl
  · show pv Tryz.prog (execOp r.eval ⟨d, .binOp .eql 83 x y u, ty, "", #[], none⟩) = _
    have hg:Tryz.prog.eqGuardType Tryz.prog.depth 83 = false:=by kernel_rfl
    simp [execOp,pv_bind,pv_map,pv_pure,pv_program,ex,ey,eqGuard,binOp,pv_eq83,hg]
def midV (a b c:Int):Int:=a + b + c - min (min a b) c - max (max a b) c
def voteR (m:Int):List Int → Int × Bool
  | [a,b] => (rnd (a + b) 2,decide (max (a - b) (b - a) ≤ m))
  | [a,b,c] => (midV a b c,decide (midV a b c - min (min a b) c ≤ m) || decide (max (max a b) c - midV a b c ≤ m))
  | _ => (0,false)
theorem ins2 (a b:Int):insL [a,b] 2 = if b < a then [b,a] else [a,b]:=by
  by_cases h:b < a <;> simp [insL,down,h]
theorem ins3 (a b c:Int):insL [a,b,c] 3 = if b < a then (if c < a then (if c < b then [c,b,a] else [b,c,a]) else [b,a,c]) else (if c < b then (if c < a then [c,a,b] else [a,c,b]) else [a,b,c]):=by
  by_cases h1:b < a <;> by_cases h2:c < a <;> by_cases h3:c < b <;> first | omega | simp [insL,down,h1,h2,h3]
theorem vote_join (m:Int):∀ l:List Int,l.length ≤ 3 → voteS m (insL l l.length) = cond (voteR m l).2 ((voteR m l).1,true) (0,false)
  | [],_ => rfl
  | [_],_ => rfl
  | [a,b],_ => by
    show voteS m (insL [a,b] 2) = _
    rw [ins2]
    unfold voteR
    by_cases h:b < a
    · rw [if_pos h]
      simp only [voteS]
      rw [Int.max_eq_left (by omega),Int.add_comm b a]
      by_cases h2:a - b ≤ m
      · rw [if_pos h2,decide_eq_true h2]; rfl
      · rw [if_neg h2,decide_eq_false h2]; rfl
    · rw [if_neg h]
      simp only [voteS]
      rw [Int.max_eq_right (by omega)]
      by_cases h2:b - a ≤ m
      · rw [if_pos h2,decide_eq_true h2]; rfl
      · rw [if_neg h2,decide_eq_false h2]; rfl
  | [a, b, c], _ => by
    show voteS m (insL [a,b,c] 3) = _
    rw [ins3]
    have key:∀ x y z:Int,x ≤ y → y ≤ z → min (min a b) c = x → max (max a b) c = z → a + b + c = x + y + z → voteS m [x,y,z] = cond (voteR m [a,b,c]).2 ((voteR m [a,b,c]).1,true) (0,false):=by
      intro x y z h1 h2 h3 h4 h5
      have hm:midV a b c = y:=by unfold midV; omega
      simp only [voteS,voteR]
      rw [hm,h3,h4]
      by_cases g1:y - x ≤ m
      · rw [decide_eq_true g1,if_pos (by omega)]; rfl
      · by_cases g2:z - y ≤ m
        · rw [decide_eq_false g1,decide_eq_true g2,if_pos (by omega)]; rfl
        · rw [decide_eq_false g1,decide_eq_false g2,if_neg (by omega)]; rfl
    split
    · split
      · split
        · exact key _ _ _ (by omega) (by omega) (by omega) (by omega) (by omega)
        · exact key _ _ _ (by omega) (by omega) (by omega) (by omega) (by omega)
      · exact key _ _ _ (by omega) (by omega) (by omega) (by omega) (by omega)
    · split
      · split
        · exact key _ _ _ (by omega) (by omega) (by omega) (by omega) (by omega)
        · exact key _ _ _ (by omega) (by omega) (by omega) (by omega) (by omega)
      · exact key _ _ _ (by omega) (by omega) (by omega) (by omega) (by omega)
  | _ :: _ :: _ :: _ :: _,h => by simp at h
set_option maxHeartbeats 2000000 in
set_option maxRecDepth 10000 in
theorem k114 (H:Has tp) {m:Int} {v:Value} {l:List Int} {h:TH} (s:SlL encI 1 h v l) (hl:l.length ≤ 3) (hb:∀ x,x ∈ l → x.natAbs ≤ 16384) (hm:m.natAbs ≤ 16384) :
    CallW Tryz.prog tp (.func (.func 114) #[] #[]) #[v,zi m] h fun v' h' => v' = .tuple #[zi (voteR m l).1,.bool (voteR m l).2] ∧ HX h h':=by
  refine CallW.fnL (H.fn 114 f114 rfl rfl) ?_
  refine WL.sr <| WOL.as rfl <| WOL.as rfl <| WOL.nil <| keep [(0,_),(1,_)] ⟨rfl,rfl,trivial⟩ ?_
  match l,hl,hb,s with
  | [],_,_,s =>
    refine WL.seq <| WL.sr <| WOL.mv rfl ?_
    refine WOL.len rfl s u29 <| WOL.bi (v:=.bool false) rfl rfl rfl <| WOL.nil <| keep [(0,_),(1,_),(11,_)] ⟨rfl,rfl,rfl,trivial⟩ ?_
    refine WL.no rfl <| WL.skip ?_
    refine WL.seq <| WL.sr <| WOL.mv rfl ?_
    refine WOL.len rfl s u29 <| WOL.bi (v:=.bool true) rfl rfl rfl <| WOL.nil <| keep [(0,_),(1,_),(39,_)] ⟨rfl,rfl,rfl,trivial⟩ ?_
    refine WL.yes rfl <| WL.sr <| WOL.as rfl <| WOL.as rfl <| WOL.nil ?_
    exact WL.ret (WL.end_ rfl ⟨rfl,HX.refl _⟩)
  | [p],_,_,s =>
    refine WL.seq <| WL.sr <| WOL.mv rfl ?_
    refine WOL.len rfl s u29 <| WOL.bi (v:=.bool false) rfl rfl rfl <| WOL.nil <| keep [(0,_),(1,_),(11,_)] ⟨rfl,rfl,rfl,trivial⟩ ?_
    refine WL.no rfl <| WL.skip ?_
    refine WL.seq <| WL.sr <| WOL.mv rfl ?_
    refine WOL.len rfl s u29 <| WOL.bi (v:=.bool true) rfl rfl rfl <| WOL.nil <| keep [(0,_),(1,_),(39,_)] ⟨rfl,rfl,rfl,trivial⟩ ?_
    refine WL.yes rfl <| WL.sr <| WOL.as rfl <| WOL.as rfl <| WOL.nil ?_
    exact WL.ret (WL.end_ rfl ⟨rfl,HX.refl _⟩)
  | [p,q],_,hb,s =>
    have b1:=hb p (by simp)
    have b2:=hb q (by simp)
    obtain ⟨c0,o0,cc0,fix0,wr0,el0,d1,d2,d3,d4,d5⟩:=s.at eI u29 tp3 (j:=0) rfl .i64
    obtain ⟨c1,o1,cc1,fix1,wr1,el1,e1,e2,e3,e4,e5⟩:=s.at eI u29 tp3 (j:=1) rfl .i64
    refine WL.seq <| WL.sr <| WOL.mv rfl ?_
    refine WOL.len rfl s u29 <| WOL.bi (v:=.bool true) rfl rfl rfl <| WOL.nil <| keep [(0,_),(1,_),(11,_)] ⟨rfl,rfl,rfl,trivial⟩ ?_
    refine WL.yes rfl ?_
    refine WL.sr <| WOL.mv rfl <| WOL.ix rfl rfl d1 ?_
    refine WOL.ld rfl (load_one tp3 d2 (d5 0 (by decide))) <| WOL.mv rfl <| WOL.ix rfl rfl e1 ?_
    refine WOL.ld rfl (load_one tp3 e2 (e5 0 (by decide))) <| WOL.add rfl rfl (by omega) (by omega) ?_
    refine WOL.mv rfl <| WOL.ix rfl rfl d1 ?_
    refine WOL.ld rfl (load_one tp3 d2 (d5 0 (by decide))) <| WOL.mv rfl <| WOL.ix rfl rfl e1 ?_
    refine WOL.ld rfl (load_one tp3 e2 (e5 0 (by decide))) <| WOL.sub rfl rfl (by omega) (by omega) ?_
    refine WOL.mv rfl <| WOL.ix rfl rfl e1 ?_
    refine WOL.ld rfl (load_one tp3 e2 (e5 0 (by decide))) <| WOL.mv rfl <| WOL.ix rfl rfl d1 ?_
    refine WOL.ld rfl (load_one tp3 d2 (d5 0 (by decide))) <| WOL.sub rfl rfl (by omega) (by omega) ?_
    refine WOL.imax rfl rfl <| WOL.mv rfl ?_
    refine WOL.bi (v:=.bool (decide (max (p - q) (q - p) ≤ m))) rfl rfl rfl ?_
    refine WOL.lk2 rfl rfl rfl fun M => ((k106 H (a:=p + q) (b:=2) (by omega) (by decide) (by decide)).mono ?_)
    rintro w g ⟨rfl,rfl⟩
    have X6:HX h ((h.withLock M).withLock h.lock):=(HX.refl _).relock
    refine WOL.as rfl <| WOL.as rfl <| WOL.nil ?_
    exact WL.ret (WL.end_ rfl ⟨rfl,X6⟩)
  | [p,q,r],_,hb,s =>
    have b1:=hb p (by simp)
    have b2:=hb q (by simp)
    have b3:=hb r (by simp)
    have bm:(min (min p q) r).natAbs ≤ 16384:=by omega
    have bM:(max (max p q) r).natAbs ≤ 16384:=by omega
    obtain ⟨c0,o0,cc0,fix0,wr0,el0,d1,d2,d3,d4,d5⟩:=s.at eI u29 tp3 (j:=0) rfl .i64
    obtain ⟨c1,o1,cc1,fix1,wr1,el1,e1,e2,e3,e4,e5⟩:=s.at eI u29 tp3 (j:=1) rfl .i64
    obtain ⟨c2,o2,cc2,fix2,wr2,el2,g1,g2,g3,g4,g5⟩:=s.at eI u29 tp3 (j:=2) rfl .i64
    refine WL.seq <| WL.sr <| WOL.mv rfl ?_
    refine WOL.len rfl s u29 <| WOL.bi (v:=.bool false) rfl rfl rfl <| WOL.nil <| keep [(0,_),(1,_),(11,_)] ⟨rfl,rfl,rfl,trivial⟩ ?_
    refine WL.no rfl <| WL.skip ?_
    refine WL.seq <| WL.sr <| WOL.mv rfl ?_
    refine WOL.len rfl s u29 <| WOL.bi (v:=.bool false) rfl rfl rfl <| WOL.nil <| keep [(0,_),(1,_),(39,_)] ⟨rfl,rfl,rfl,trivial⟩ ?_
    refine WL.no rfl <| WL.skip ?_
    refine WL.sr <| WOL.mv rfl <| WOL.ix rfl rfl d1 ?_
    refine WOL.ld rfl (load_one tp3 d2 (d5 0 (by decide))) <| WOL.mv rfl <| WOL.ix rfl rfl e1 ?_
    refine WOL.ld rfl (load_one tp3 e2 (e5 0 (by decide))) <| WOL.mv rfl <| WOL.ix rfl rfl g1 ?_
    refine WOL.ld rfl (load_one tp3 g2 (g5 0 (by decide))) <| WOL.imin3 rfl rfl rfl ?_
    refine WOL.mv rfl <| WOL.ix rfl rfl d1 ?_
    refine WOL.ld rfl (load_one tp3 d2 (d5 0 (by decide))) <| WOL.mv rfl <| WOL.ix rfl rfl e1 ?_
    refine WOL.ld rfl (load_one tp3 e2 (e5 0 (by decide))) <| WOL.mv rfl <| WOL.ix rfl rfl g1 ?_
    refine WOL.ld rfl (load_one tp3 g2 (g5 0 (by decide))) <| WOL.imax3 rfl rfl rfl ?_
    refine WOL.as rfl <| WOL.as rfl <| WOL.nil <| keep [(0,_),(1,_),(6,_),(7,_)] ⟨rfl,rfl,rfl,rfl,trivial⟩ ?_
    refine WL.sr <| WOL.mv rfl <| WOL.ix rfl rfl d1 ?_
    refine WOL.ld rfl (load_one tp3 d2 (d5 0 (by decide))) <| WOL.mv rfl <| WOL.ix rfl rfl e1 ?_
    refine WOL.ld rfl (load_one tp3 e2 (e5 0 (by decide))) <| WOL.add rfl rfl (by omega) (by omega) <| WOL.mv rfl <| WOL.ix rfl rfl g1 ?_
    refine WOL.ld rfl (load_one tp3 g2 (g5 0 (by decide))) <| WOL.add rfl rfl (by omega) (by omega) ?_
    refine WOL.mv rfl <| WOL.sub rfl rfl (by omega) (by omega) ?_
    refine WOL.mv rfl <| WOL.sub rfl rfl (by omega) (by omega) ?_
    refine WOL.as rfl <| WOL.nil <| keep [(0,_),(1,_),(6,_),(7,_),(8,_)] ⟨rfl,rfl,rfl,rfl,rfl,trivial⟩ ?_
    have hv:voteR m [p,q,r] = (midV p q r,decide (midV p q r - min (min p q) r ≤ m) || decide (max (max p q) r - midV p q r ≤ m)):=rfl
    rw [show p + q + r - min (min p q) r - max (max p q) r = midV p q r from rfl,hv]
    have bb:(midV p q r).natAbs ≤ 100000:=by unfold midV; omega
    generalize midV p q r = d at *
    generalize min (min p q) r = lo at *
    generalize max (max p q) r = hi at *
    refine WL.sr <| WOL.mv rfl <| WOL.mv rfl <| WOL.mv rfl <| WOL.sub rfl rfl (by omega) (by omega) <| WOL.mv rfl ?_
    refine WOL.bi (v:=.bool (decide (d - lo ≤ m))) rfl rfl rfl <| WOL.mv rfl ?_
    cases hd:decide (d - lo ≤ m) with
    | true =>
      refine WOL.skp (b:=true) rfl rfl <| WOL.skp (b:=true) rfl rfl <| WOL.skp (b:=true) rfl rfl <| WOL.skp (b:=true) rfl rfl <| WOL.skp (b:=true) rfl rfl ?_
      refine WOL.pkt rfl rfl <| WOL.as rfl <| WOL.as rfl <| WOL.nil ?_
      exact WL.ret (WL.end_ rfl ⟨rfl,HX.refl _⟩)
    | false =>
      refine WOL.now (b:=false) rfl rfl <| WOL.mv rfl <| WOL.now (b:=false) rfl rfl <| WOL.mv rfl <| WOL.now (b:=false) rfl rfl ?_
      refine WOL.sub rfl rfl (by omega) (by omega) <| WOL.now (b:=false) rfl rfl <| WOL.mv rfl <| WOL.now (b:=false) rfl rfl ?_
      refine WOL.bi (v:=.bool (decide (hi - d ≤ m))) rfl rfl rfl <| WOL.pkf rfl rfl <| WOL.as rfl <| WOL.as rfl <| WOL.nil ?_
      exact WL.ret (WL.end_ rfl ⟨rfl,HX.refl _⟩)
  | p :: q :: r :: t :: S,hl,_,_ => simp at hl
end Go.Tidy
namespace Go.Tidy
open Go Go.Proofs Tab
variable {tp:TProg}
def cellD (C:Nat → List (Int × Bool)) (k i:Nat):Int × Bool:=(C k).getD i (0,false)
def voteA (m:Int) (C:Nat → List (Int × Bool)) (i:Nat):Int × Bool:=voteC m [cellD C 0 i,cellD C 1 i,cellD C 2 i]
def wrN (m:Int) (C:Nat → List (Int × Bool)):Nat → Nat → Int
  | 0,_ => 0
  | i + 1,k => wrN m C i k + cond (wrongB m (cellD C k i) (voteA m C i)) 1 0
def pwR (m:Int) (C:Nat → List (Int × Bool)) (i k j:Nat):Int:=if j < k then wrN m C (i + 1) j else wrN m C i j
def cel3 (w:Nat → Int):List Value:=[zi (w 0),zi (w 1),zi (w 2)]
section
variable {m:Int} {C:Nat → List (Int × Bool)}
theorem wrN_le:∀ i k,0 ≤ wrN m C i k ∧ wrN m C i k ≤ i
  | 0,_ => by unfold wrN; omega
  | i + 1,k => by
    have:=wrN_le i k
    unfold wrN
    cases wrongB m (cellD C k i) (voteA m C i) <;> simp <;> omega
theorem pw_same {i k:Nat} (h:wrongB m (cellD C k i) (voteA m C i) = false):pwR m C i (k + 1) = pwR m C i k:=by
  funext j
  unfold pwR
  by_cases h1:j < k
  · rw [if_pos (by omega),if_pos h1]
  · by_cases h2:j = k
    · subst h2
      rw [if_pos (by omega),if_neg h1]
      show wrN m C i j + cond (wrongB m (cellD C j i) (voteA m C i)) 1 0 = _
      rw [h]; simp
    · rw [if_neg (by omega),if_neg h1]
theorem pw_at (i k:Nat):pwR m C i k k = wrN m C i k:=by unfold pwR; rw [if_neg (by omega)]
theorem pw_next {i k:Nat} (h:wrongB m (cellD C k i) (voteA m C i) = true) (hk:k < 3):splice (cel3 (pwR m C i k)) k [zi (wrN m C i k + 1)] = cel3 (pwR m C i (k + 1)):=by
  have e:wrN m C (i + 1) k = wrN m C i k + 1:=by
    show wrN m C i k + cond (wrongB m (cellD C k i) (voteA m C i)) 1 0 = _
    rw [h]; rfl
  rw [← e]
  obtain rfl | rfl | rfl:k = 0 ∨ k = 1 ∨ k = 2:=by omega
  all_goals rfl
theorem cells3_get {w:Nat → Int} {k:Nat} (hk:k < 3):(cel3 w)[k]? = some (zi (w k)):=by
  obtain rfl | rfl | rfl:k = 0 ∨ k = 1 ∨ k = 2:=by omega
  all_goals rfl
theorem cellD_get {k i:Nat} (h:i < (C k).length):(C k)[i]? = some (cellD C k i):=by
  unfold cellD
  rw [List.getD_eq_getElem?_getD,List.getElem?_eq_getElem h]; rfl
theorem cellD_lim (lim:∀ k c,c ∈ C k → c.1.natAbs ≤ 16384) (k i:Nat):(cellD C k i).1.natAbs ≤ 16384:=by
  unfold cellD
  rw [List.getD_eq_getElem?_getD]
  cases hi:(C k)[i]? with
  | none => decide
  | some x => exact lim k x (List.mem_of_getElem? hi)
theorem voteS_lim:∀ {S:List Int},(∀ x,x ∈ S → x.natAbs ≤ 16384) → (voteS m S).1.natAbs ≤ 16384
  | [],_ => by show (0:Int).natAbs ≤ _; decide
  | [a],_ => by show (0:Int).natAbs ≤ _; decide
  | [a,b],h => by
    have h1:=h a (by simp)
    have h2:=h b (by simp)
    simp only [voteS]
    split
    · show (rnd (a + b) 2).natAbs ≤ _
      unfold rnd
      omega
    · decide
  | [a,b,c],h => by
    have h2:=h b (by simp)
    simp only [voteS]
    split
    · exact h2
    · decide
  | a :: b :: c :: d :: S,_ => by show (0:Int).natAbs ≤ _; decide
theorem voteC_lim {D:List (Int × Bool)} (h:∀ c,c ∈ D → c.1.natAbs ≤ 16384):(voteC m D).1.natAbs ≤ 16384:=by
  unfold voteC
  exact voteS_lim (insL_all (p:=fun x => x.natAbs ≤ 16384) (knownV_all (p:=fun x => x.natAbs ≤ 16384) h) _ (Nat.le_refl _))
theorem row_lim (lim:∀ k c,c ∈ C k → c.1.natAbs ≤ 16384) (i:Nat):∀ c,c ∈ [cellD C 0 i,cellD C 1 i,cellD C 2 i] → c.1.natAbs ≤ 16384:=by
  intro c hc
  simp at hc
  rcases hc with rfl | rfl | rfl <;> exact cellD_lim lim _ _
theorem voteA_lim (lim:∀ k c,c ∈ C k → c.1.natAbs ≤ 16384) (i:Nat):(voteA m C i).1.natAbs ≤ 16384:=voteC_lim (row_lim lim i)
end
theorem tp158:Tp Tryz.prog 158 3 [.slice none 0 0,.slice none 0 0,.slice none 0 0] true:=tp_of (by kernel_rfl) (by kernel_rfl) rfl
theorem tp83:Tp Tryz.prog 83 3 [.int .i64 0,.int .i64 0,.int .i64 0] true:=tp_of (by kernel_rfl) (by kernel_rfl) rfl
theorem ix158 {c k:Nat} (hk:k < 3):indexAddrT Tryz.prog 158 (.pointer (some ⟨c,0,none⟩)) (zi (k:Nat)) = some (.pointer (some ⟨c,k,none⟩)):=by
  have e0:indexAddrT Tryz.prog 158 (.pointer (some ⟨c,0,none⟩)) (zi 0) = some (.pointer (some ⟨c,0,none⟩)):=by kernel_rfl
  have e1:indexAddrT Tryz.prog 158 (.pointer (some ⟨c,0,none⟩)) (zi 1) = some (.pointer (some ⟨c,1,none⟩)):=by kernel_rfl
  have e2:indexAddrT Tryz.prog 158 (.pointer (some ⟨c,0,none⟩)) (zi 2) = some (.pointer (some ⟨c,2,none⟩)):=by kernel_rfl
  obtain rfl | rfl | rfl:k = 0 ∨ k = 1 ∨ k = 2:=by omega
  · exact e0
  · exact e1
  · exact e2
theorem ix83 {c k:Nat} (hk:k < 3):indexAddrT Tryz.prog 83 (.pointer (some ⟨c,0,none⟩)) (zi (k:Nat)) = some (.pointer (some ⟨c,k,none⟩)):=by
  have e0:indexAddrT Tryz.prog 83 (.pointer (some ⟨c,0,none⟩)) (zi 0) = some (.pointer (some ⟨c,0,none⟩)):=by kernel_rfl
  have e1:indexAddrT Tryz.prog 83 (.pointer (some ⟨c,0,none⟩)) (zi 1) = some (.pointer (some ⟨c,1,none⟩)):=by kernel_rfl
  have e2:indexAddrT Tryz.prog 83 (.pointer (some ⟨c,0,none⟩)) (zi 2) = some (.pointer (some ⟨c,2,none⟩)):=by kernel_rfl
  obtain rfl | rfl | rfl:k = 0 ∨ k = 1 ∨ k = 2:=by omega
  · exact e0
  · exact e1
  · exact e2
theorem rows_get {us:Nat → Value} {k:Nat} (hk:k < 3):[us 0,us 1,us 2][k]? = some (us k):=by
  obtain rfl | rfl | rfl:k = 0 ∨ k = 1 ∨ k = 2:=by omega
  all_goals rfl
theorem filled_cells3 (x y z:Int × Bool):filled 2 3 [zi 0,.bool false] [(0,.agg (encC x).toArray),(1,.agg (encC y).toArray),(2,.agg (encC z).toArray)] = some (cat encC [x,y,z]):=by
  simp [filled,zeros,Instr.fill,encC,cat,Value.cells]
  rfl
set_option maxHeartbeats 4000000 in
set_option maxRecDepth 10000 in
theorem k53loop (H:Has tp) {m:Int} {C:Nat → List (Int × Bool)} {us:Nat → Value} {N c2 c4 c5 c9 c11 bv:Nat} {h gb g0:TH} {rest:TCode} {Q:Exit → Regs → TH → Prop} (f:Free0 h.next h) (X:HX h gb) (X0:HX gb g0)
    (A9:At gb c9 (.cells [us 0,us 1,us 2] true true 158)) (sl:∀ k,k < 3 → SlL encC 2 gb (us k) (C k)) (hlen:∀ k,(C k).length = N) (hN:N ≤ 900000) (lim:∀ k c,c ∈ C k → c.1.natAbs ≤ 16384)
    (Av:At g0 bv (.cells (cat encC (List.replicate N (0,false))) true true 134)) (Aw:At g0 c11 (.cells (cel3 (wrN m C 0)) true true 83)) (hbv:gb.next ≤ bv) (hcw:gb.next ≤ c11) (hne:bv ≠ c11)
    (K:∀ g,HX gb g → At g bv (.cells (cat encC (setN (List.replicate N (0,false)) 0 (voteA m C) N)) true true 134) → At g c11 (.cells (cel3 (wrN m C N)) true true 83) → ∀ a,Kn [(2,ptr c2),(4,ptr c4),(5,ptr c5),(10,.slice (some ⟨bv,0,none⟩) N N),(11,ptr c11)] a → W Tryz.prog tp false rest a g Q) :
    ∀ a,Kn [(2,ptr c2),(4,ptr c4),(5,ptr c5),(8,zi m),(9,ptr c9),(10,.slice (some ⟨bv,0,none⟩) N N),(11,ptr c11)] a → W Tryz.prog tp false (.seq (.seq (.reg r53_8) (.block 0 (.loop (.seq (.reg r53_9) (.seq (.cond (.tmp 69) .skip (.exit 0)) (.seq (.block 1 (.seq (.reg r53_10) (.seq (.reg r53_11) (.seq (.reg r53_12) (.block 2 (.loop (.seq (.reg r53_13) (.seq (.cond (.tmp 93) .skip (.exit 2)) (.seq (.block 3 (.seq (.reg r53_14) (.seq (.reg r53_15) (.cond (.tmp 106) (.reg r53_16) .skip)))) (.reg r53_17)))))))))) (.reg r53_18))))))) rest) a g0 Q:=by
  have lv:∀ {i:Nat},(setN (List.replicate N ((0:Int),false)) 0 (voteA m C) i).length = N:=fun {i} => by rw [setN_len,List.length_replicate]
  have slv:∀ {g:TH} {i:Nat},At g bv (.cells (cat encC (setN (List.replicate N (0,false)) 0 (voteA m C) i)) true true 134) → SlL encC 2 g (.slice (some ⟨bv,0,none⟩) N N) (setN (List.replicate N (0,false)) 0 (voteA m C) i):=fun {g i} a => SlL.own eC a lv
  refine WL.seq <| WL.sr <| WOL.mv rfl ?_
  refine WOL.len rfl (slv (i:=0) Av) u135 ?_
  rw [lv]
  refine WOL.mv rfl <| WOL.nil <| keep [(2,_),(4,_),(5,_),(8,_),(9,_),(10,_),(11,_),(67,_),(68,_)] ⟨rfl,rfl,rfl,rfl,rfl,rfl,rfl,rfl,rfl,trivial⟩ ?_
  refine WL.block ?_
  refine WL.loop (fun q a g => ∃ i:Nat,i ≤ N ∧ q = N - i ∧ HX gb g ∧ At g bv (.cells (cat encC (setN (List.replicate N (0,false)) 0 (voteA m C) i)) true true 134) ∧ At g c11 (.cells (cel3 (wrN m C i)) true true 83) ∧ Kn [(2,ptr c2),(4,ptr c4),(5,ptr c5),(8,zi m),(9,ptr c9),(10,.slice (some ⟨bv,0,none⟩) N N),(11,ptr c11),(67,zi N),(68,zi (i:Nat))] a) N (fun a q => ⟨0,by omega,by omega,X0,Av,Aw,q.sub ⟨rfl,rfl,rfl,rfl,rfl,rfl,rfl,rfl,rfl,trivial⟩⟩) ?_
  rintro q a g ⟨i,hi,rfl,X1,Bv,Bw,q⟩
  refine q.go ?_
  refine WL.sr <| WOL.bi (v:=.bool (decide ((i:Int) < (N:Int)))) rfl rfl rfl <| WOL.nil <| keep [(2,_),(4,_),(5,_),(8,_),(9,_),(10,_),(11,_),(67,_),(68,_),(69,_)] ⟨rfl,rfl,rfl,rfl,rfl,rfl,rfl,rfl,rfl,rfl,trivial⟩ ?_
  refine WL.seq ?_
  by_cases hlt:i < N
  · rw [show decide ((i:Int) < (N:Int)) = true by simpa using hlt]
    refine WL.yes rfl <| WL.skip ?_
    refine WL.seq <| WL.block ?_
    refine WL.sr <| WOL.mv rfl <| WOL.as rfl <| WOL.nil <| keep [(2,_),(4,_),(5,_),(8,_),(9,_),(10,_),(11,_),(12,_),(67,_),(68,_)] ⟨rfl,rfl,rfl,rfl,rfl,rfl,rfl,rfl,rfl,rfl,trivial⟩ ?_
    have i158:∀ {c k:Nat},k < 3 → indexAddrT Tryz.prog 158 (.pointer (some ⟨c,0,none⟩)) (zi (k:Nat)) = some (.pointer (some ⟨c,k,none⟩)):=fun hk => ix158 hk
    have p0:=cellD_get (C:=C) (k:=0) (i:=i) (by rw [hlen]; exact hlt)
    have p1:=cellD_get (C:=C) (k:=1) (i:=i) (by rw [hlen]; exact hlt)
    have p2:=cellD_get (C:=C) (k:=2) (i:=i) (by rw [hlen]; exact hlt)
    obtain ⟨b0,o0,cc0,fix0,wr0,el0,d1,d2,d3,d4,d5⟩:=((sl 0 (by decide)).hx X1).at eC u135 tp134 p0 .i64
    obtain ⟨b1,o1,cc1,fix1,wr1,el1,e1,e2,e3,e4,e5⟩:=((sl 1 (by decide)).hx X1).at eC u135 tp134 p1 .i64
    obtain ⟨b2,o2,cc2,fix2,wr2,el2,k1,k2,k3,k4,k5⟩:=((sl 2 (by decide)).hx X1).at eC u135 tp134 p2 .i64
    have B9:=A9.hx X1
    refine WL.sr <| WOL.mv rfl <| WOL.mv rfl <| WOL.mv rfl <| WOL.ix rfl rfl (i158 (k:=0) (by decide)) ?_
    refine WOL.ld rfl (load_one tp135 B9 rfl) <| WOL.mv rfl <| WOL.ix rfl rfl d1 ?_
    refine WOL.ld rfl (load_row tp134 d2 d4 d3) <| WOL.ix rfl rfl (i158 (k:=1) (by decide)) ?_
    refine WOL.ld rfl (load_one tp135 B9 rfl) <| WOL.mv rfl <| WOL.ix rfl rfl e1 ?_
    refine WOL.ld rfl (load_row tp134 e2 e4 e3) <| WOL.ix rfl rfl (i158 (k:=2) (by decide)) ?_
    refine WOL.ld rfl (load_one tp135 B9 rfl) <| WOL.mv rfl <| WOL.ix rfl rfl k1 ?_
    refine WOL.ld rfl (load_row tp134 k2 k4 k3) ?_
    refine WOL.bsl rfl u135 tp134 (by decide) (by decide) (by decide) (filled_cells3 _ _ _) fun h3 N3 => ?_
    have Y3:=X1.trans N3.hx
    refine WOL.cl2 rfl rfl rfl ((k112 H (C:=[cellD C 0 i,cellD C 1 i,cellD C 2 i]) (SlL.own eC N3.at_ rfl) (by simp) (row_lim lim i) (f.on (X.trans Y3))).mono ?_)
    rintro w h4 ⟨rfl,X4⟩
    have Y4:=Y3.trans X4
    have Z4:=N3.hx.trans X4
    refine WOL.ix rfl rfl (indexAddr_tp u135 tp134 hlt) ?_
    refine WOL.sto rfl rfl tp134 (Bv.hx Z4) rfl rfl (by rw [eC.cat_len,lv]; omega) rfl (f.hx (X.trans Y4)) (by have:=X.next; omega) fun h5 P5 => ?_
    have B5:=P5.at_
    rw [show (0:Nat) + i * 2 = (0 + i) * 2 by omega,show (Value.agg #[zi (voteC m [cellD C 0 i,cellD C 1 i,cellD C 2 i]).1,.bool (voteC m [cellD C 0 i,cellD C 1 i,cellD C 2 i]).2]).cells.toList = encC (voteA m C i) from rfl,eC.set (by rw [lv]; omega)] at B5
    have Y5:=P5.hx _ Y4 hbv
    have W5:=P5.oth c11 _ (fun e => hne e.symm) (Bw.hx Z4)
    refine WOL.nil <| keep [(2,_),(4,_),(5,_),(8,_),(9,_),(10,_),(11,_),(12,_),(67,_),(68,_)] ⟨rfl,rfl,rfl,rfl,rfl,rfl,rfl,rfl,rfl,rfl,trivial⟩ ?_
    refine WL.sr <| WOL.mv rfl <| WOL.nil ?_
    refine WL.block ?_
    refine WL.loop (fun q a g => ∃ k:Nat,k ≤ 3 ∧ q = 3 - k ∧ HX gb g ∧ At g bv (.cells (cat encC (setN (List.replicate N (0,false)) 0 (voteA m C) (i + 1))) true true 134) ∧ At g c11 (.cells (cel3 (pwR m C i k)) true true 83) ∧ Kn [(2,ptr c2),(4,ptr c4),(5,ptr c5),(8,zi m),(9,ptr c9),(10,.slice (some ⟨bv,0,none⟩) N N),(11,ptr c11),(12,zi (i:Nat)),(67,zi N),(68,zi (i:Nat)),(92,zi (k:Nat))] a) 3 (fun a q => ⟨0,by omega,by omega,Y5,B5,W5,q.sub ⟨rfl,rfl,rfl,rfl,rfl,rfl,rfl,rfl,rfl,rfl,rfl,trivial⟩⟩) ?_
    clear B5 W5 Y5 P5 h5 Bv Bw q a Z4 Y4 X4 h4 Y3 N3 h3
    rintro q a g' ⟨k,hk,rfl,Y1,Cv,Cw,q⟩
    refine q.go ?_
    refine WL.sr <| WOL.bi (v:=.bool (decide ((k:Int) < 3))) rfl rfl rfl <| WOL.nil <| keep [(2,_),(4,_),(5,_),(8,_),(9,_),(10,_),(11,_),(12,_),(67,_),(68,_),(92,_),(93,_)] ⟨rfl,rfl,rfl,rfl,rfl,rfl,rfl,rfl,rfl,rfl,rfl,rfl,trivial⟩ ?_
    refine WL.seq ?_
    by_cases hk3:k < 3
    · rw [show decide ((k:Int) < 3) = true from decide_eq_true (by omega)]
      refine WL.yes rfl <| WL.skip ?_
      refine WL.seq <| WL.block ?_
      refine WL.sr <| WOL.mv rfl <| WOL.as rfl <| WOL.nil <| keep [(2,_),(4,_),(5,_),(8,_),(9,_),(10,_),(11,_),(12,_),(13,_),(67,_),(68,_),(92,_)] ⟨rfl,rfl,rfl,rfl,rfl,rfl,rfl,rfl,rfl,rfl,rfl,rfl,trivial⟩ ?_
      have pk:=cellD_get (C:=C) (k:=k) (i:=i) (by rw [hlen]; exact hlt)
      obtain ⟨b0,o0,cc0,fix0,wr0,el0,d1,d2,d3,d4,d5⟩:=((sl k hk3).hx Y1).at eC u135 tp134 pk .i64
      have pv:(setN (List.replicate N ((0:Int),false)) 0 (voteA m C) (i + 1))[i]? = some (voteA m C i):=by
        rw [setN_in (by omega) (by rw [List.length_replicate]; exact hlt) _ (by omega)]; rfl
      obtain ⟨b1,o1,cc1,fix1,wr1,el1,e1,e2,e3,e4,e5⟩:=(slv Cv).at eC u135 tp134 pv .i64
      refine WL.sr <| WOL.mv rfl <| WOL.ix rfl rfl (i158 hk3) ?_
      refine WOL.ld rfl (load_one tp135 (A9.hx Y1) (rows_get hk3)) <| WOL.mv rfl <| WOL.ix rfl rfl d1 ?_
      refine WOL.ld rfl (load_row tp134 d2 d4 d3) <| WOL.mv rfl <| WOL.mv rfl <| WOL.ix rfl rfl e1 ?_
      refine WOL.ld rfl (load_row tp134 e2 e4 e3) <| WOL.mv rfl ?_
      refine WOL.cl3 rfl rfl rfl rfl ((k113 H (m:=m) (x:=(cellD C k i).1) (p:=(cellD C k i).2) (n:=(voteA m C i).1) (q:=(voteA m C i).2) (cellD_lim lim k i) (voteA_lim lim i)).mono ?_)
      rintro w h4 ⟨rfl,X4⟩
      have Y4:=Y1.trans X4
      refine WOL.nil <| keep [(2,_),(4,_),(5,_),(8,_),(9,_),(10,_),(11,_),(12,_),(13,_),(67,_),(68,_),(92,_),(106,_)] ⟨rfl,rfl,rfl,rfl,rfl,rfl,rfl,rfl,rfl,rfl,rfl,rfl,rfl,trivial⟩ ?_
      have fin:∀ {Q:Exit → Regs → TH → Prop} g',HX gb g' → At g' bv (.cells (cat encC (setN (List.replicate N (0,false)) 0 (voteA m C) (i + 1))) true true 134) → At g' c11 (.cells (cel3 (pwR m C i (k + 1))) true true 83) → ∀ a,Kn [(2,ptr c2),(4,ptr c4),(5,ptr c5),(8,zi m),(9,ptr c9),(10,.slice (some ⟨bv,0,none⟩) N N),(11,ptr c11),(12,zi (i:Nat)),(67,zi N),(68,zi (i:Nat)),(92,zi (k:Nat))] a → W Tryz.prog tp false (.reg r53_17) a g' (andThen (fun a g => ∃ q',q' < 3 - k ∧ ∃ k:Nat,k ≤ 3 ∧ q' = 3 - k ∧ HX gb g ∧ At g bv (.cells (cat encC (setN (List.replicate N (0,false)) 0 (voteA m C) (i + 1))) true true 134) ∧ At g c11 (.cells (cel3 (pwR m C i k)) true true 83) ∧ Kn [(2,ptr c2),(4,ptr c4),(5,ptr c5),(8,zi m),(9,ptr c9),(10,.slice (some ⟨bv,0,none⟩) N N),(11,ptr c11),(12,zi (i:Nat)),(67,zi N),(68,zi (i:Nat)),(92,zi (k:Nat))] a) Q):=by
        intro Q g' Y' V' W'
        refine WL.reg ?_
        refine WOL.bi (v:=zi ((k + 1:Nat):Int)) rfl rfl (by show some (Value.int .i64 (fwrap .i64 ((k:Int) + 1))) = _; rw [fwrap_i64 (by omega) (by omega)]; rfl) ?_
        refine WOL.mv rfl <| WOL.nil ?_
        exact fun a q => ⟨3 - (k + 1),by omega,k + 1,by omega,rfl,Y',V',W',q.sub ⟨rfl,rfl,rfl,rfl,rfl,rfl,rfl,rfl,rfl,rfl,rfl,trivial⟩⟩
      cases hb:wrongB m (cellD C k i) (voteA m C i) with
      | false =>
        refine WL.no rfl <| WL.skip ?_
        exact fun a q => fin h4 Y4 (Cv.hx X4) (by rw [pw_same hb]; exact Cw.hx X4) a (q.sub ⟨rfl,rfl,rfl,rfl,rfl,rfl,rfl,rfl,rfl,rfl,rfl,trivial⟩)
      | true =>
        have hw:=wrN_le (m:=m) (C:=C) i k
        refine WL.yes rfl <| WL.reg ?_
        refine WOL.mv rfl <| WOL.ix rfl rfl (ix83 hk3) ?_
        refine WOL.ld rfl (load_one tp3 (Cw.hx X4) (cells3_get hk3)) ?_
        rw [pw_at]
        refine WOL.add rfl rfl (by omega) (by omega) <| WOL.ix rfl rfl (ix83 hk3) ?_
        refine WOL.sto rfl rfl tp3 (Cw.hx X4) rfl rfl (by show k + 1 ≤ 3; omega) rfl (f.hx (X.trans Y4)) (by have:=X.next; omega) fun h5 P5 => ?_
        have W5:=P5.at_
        rw [show (zi (wrN m C i k + 1)).cells.toList = [zi (wrN m C i k + 1)] from rfl,pw_next hb hk3] at W5
        refine WOL.nil ?_
        exact fun a q => fin h5 (P5.hx _ Y4 hcw) (P5.oth bv _ hne (Cv.hx X4)) W5 a (q.sub ⟨rfl,rfl,rfl,rfl,rfl,rfl,rfl,rfl,rfl,rfl,rfl,trivial⟩)
    · rw [show decide ((k:Int) < 3) = false from decide_eq_false (by omega)]
      obtain rfl:k = 3:=by omega
      refine WL.no rfl <| WL.exit ?_
      refine WL.reg ?_
      refine WOL.bi (v:=zi ((i + 1:Nat):Int)) rfl rfl (by show some (Value.int .i64 (fwrap .i64 ((i:Int) + 1))) = _; rw [fwrap_i64 (by omega) (by omega)]; rfl) ?_
      refine WOL.mv rfl <| WOL.nil ?_
      exact fun a q => ⟨N - (i + 1),by omega,i + 1,by omega,rfl,Y1,Cv,Cw,q.sub ⟨rfl,rfl,rfl,rfl,rfl,rfl,rfl,rfl,rfl,trivial⟩⟩
  · rw [show decide ((i:Int) < (N:Int)) = false by simpa using hlt]
    obtain rfl:i = N:=by omega
    refine WL.no rfl <| WL.exit ?_
    exact kto (K g X1 Bv Bw) ⟨rfl,rfl,rfl,rfl,rfl,trivial⟩
end Go.Tidy
namespace Go.Tidy
open Go Go.Proofs Tab
variable {tp:TProg}
section
variable {P:Program} {a:Regs} {h:TH} {K:Regs → TH → Prop} {rest:List TOper} {d:Option Tmp} {ty:TypeId} {i:Nat} {f x0 x1 x2 l0:Operand} {ls:List Operand} {fv v0 v1 v2:Value} {ts:Array TypeId}
theorem WO.lq3 (bs:List Nat) (hb:(l0 :: ls).map (fun x => (getO a x).bind blockOf) = bs.map some) (hf:getO a f = some fv) (h0:getO a x0 = some v0) (h1:getO a x1 = some v1) (h2:getO a x2 = some v2) (w:∀ L,(∀ l,l ∈ L → l ∈ bs ∨ l ∈ h.lock) → CallW P tp fv #[v0,v1,v2] (h.withLock L) fun v h1 => WO P tp rest (a.put d v) (h1.withLock h.lock) K):WO P tp (⟨d,.call ⟨.value f,#[x0,x1,x2],ts⟩,ty,none,l0 :: ls,i⟩ :: rest) a h K :=
  WO.cons_lock rfl rfl (StepW.call (by rw [getO_eval hf]; simpa [getO_eval h0,getO_eval h1,getO_eval h2] using w _ (lockOf_bs _ a bs h.lock hb)))
theorem WOL.lq3 {L:Rg} (bs:List Nat) (hb:(l0 :: ls).map (fun x => (getL L x).bind blockOf) = bs.map some) (hf:getL L f = some fv) (h0:getL L x0 = some v0) (h1:getL L x1 = some v1) (h2:getL L x2 = some v2) (w:∀ M,(∀ l,l ∈ M → l ∈ bs ∨ l ∈ h.lock) → CallW P tp fv #[v0,v1,v2] (h.withLock M) fun v h1 => ∀ a,Kn (putL L d v) a → WO P tp rest a (h1.withLock h.lock) K):∀ a,Kn L a → WO P tp (⟨d,.call ⟨.value f,#[x0,x1,x2],ts⟩,ty,none,l0 :: ls,i⟩ :: rest) a h K :=
  fun _ k => WO.lq3 bs (locks_o k hb) (k.o hf) (k.o h0) (k.o h1) (k.o h2) fun M hM => (w M hM).mono fun _ _ q => k.nx q
end
def RefS (B:Nat) (g:TH) (c:Nat) (s:ByteArray) (n:Int) (C:List (Int × Bool)) (e:Int):Prop :=
  ∃ sz nz w1 w2,At g c (.cells (runV sz nz w1 w2).cells.toList true true 46) ∧ (e ≠ 0 → w1 = .slice none 0 0 ∧ w2 = .slice none 0 0) ∧
    (e = 0 → (sz = s ∧ nz = n) ∧ RunO B g w1 w2 (C.map fun c => smp c.1) (holesOf (C.map fun c => c.2)) ∧ Lev (C.map fun c => smp c.1) (C.map fun c => c.1) ∧ C.length ≤ 4096)
section
variable {B c c':Nat} {g g':TH} {s:ByteArray} {n:Int} {C:List (Int × Bool)} {e:Int}
theorem RefS.hx (q:RefS B g c s n C e) (x:HX g g'):RefS B g' c s n C e:=by
  obtain ⟨sz,nz,w1,w2,a,q1,q2⟩:=q
  exact ⟨sz,nz,w1,w2,a.hx x,q1,fun h => ⟨(q2 h).1,(q2 h).2.1.hx x,(q2 h).2.2⟩⟩
theorem RefS.away {x:TB} (q:RefS B g c s n C e) (p:Put g g' c' x) (h1:c' ≠ c) (h2:c' < B):RefS B g' c s n C e:=by
  obtain ⟨sz,nz,w1,w2,a,q1,q2⟩:=q
  exact ⟨sz,nz,w1,w2,p.oth _ _ (Ne.symm h1) a,q1,fun h => ⟨(q2 h).1,(q2 h).2.1.away p h2,(q2 h).2.2⟩⟩
end
end Go.Tidy
namespace Go.Tidy
open Go Go.Proofs Tab
variable {tp:TProg}
section
variable {P:Program} {h:TH} {K:Regs → TH → Prop} {rest:List TOper} {d:Option Tmp} {ty:TypeId} {i:Nat} {x y l0:Operand} {ls:List Operand} {t u:TypeId} {L:Rg} {v:Value} {n:Nat} {zl:List Value} {row:Bool}
theorem WOL.stQ {b off m:Nat} {c vs:List Value} {fix:Bool} {el:TypeId} (bs:List Nat) (hb:(l0 :: ls).map (fun x => (getL L x).bind blockOf) = bs.map some) (hx:getL L x = some (.pointer (some ⟨b,off,none⟩))) (hy:getL L y = some v) (he:Tp P t n zl row) (hg:At h b (.cells c fix true el)) (hv:v.cells.toList = vs) (hn:vs.length = n) (ho:off + n ≤ c.length) (h1:vs.all oneCell = true) (f:Free0 m h) (hm:m ≤ b) (hnb:b ∉ bs)
    (w:∀ h',Put h h' b (.cells (splice c off vs) fix true el) → ∀ a,Kn (putL L d undef) a → WO P tp rest a h' K):∀ a,Kn L a → WO P tp (⟨d,.store t x y,ty,none,l0 :: ls,i⟩ :: rest) a h K:=by
  intro a k
  refine WO.cons_lock rfl rfl ?_
  have hM:=lockOf_bs (l0 :: ls) a bs h.lock (locks_o k hb)
  generalize lockOf (l0 :: ls) a.eval h.lock = M at *
  have hnM:b ∉ M:=fun hin => by
    rcases hM b hin with q | q
    · exact hnb q
    · have:=f.lock b q; omega
  have ex:=getO_eval (k.o hx)
  have ey:=getO_eval (k.o hy)
  obtain ⟨inf,q1,q2,_⟩:=he.i
  have e1:Nat.beq v.cells.size inf.size = true:=by
    rw [q2,← hn,← hv]; simp
  have e2:Nat.ble (off + vs.length) c.length = true:=by rw [Nat.ble_eq,hn]; exact ho
  have hp:(h.withLock M).put b (.cells (splice c off vs) fix true el) = some ((h.withLock M).upd b (.cells (splice c off vs) fix true el)):=TH.put_upd (Nat.le_trans f.floor hm) hg.lt hnM
  have hs:storeT P t (.pointer (some ⟨b,off,none⟩)) v (h.withLock M) = some ((h.withLock M).upd b (.cells (splice c off vs) fix true el)):=by
    simp only [storeT,q1,e1,Bool.cond_true,putCells,(hg.relock M).get,hv,e2,h1,Bool.and_self]
    exact hp
  refine StepW.of (v:=undef) (h1:=(h.withLock M).upd b (.cells (splice c off vs) fix true el)) (fun call => ?_) ?_
  · have hpl:plainOp P ⟨d,.store t x y,ty,none,l0 :: ls,i⟩ a.eval = none:=rfl
    simp [stepOp,heapFirst,fastOp,valueOp,hpl,heapOp,ex,ey,hs]
  · have:=w (h.upd b (.cells (splice c off vs) fix true el)) (Put.mk' hg _) _ (k.put d undef)
    exact this
def lt0 (b:Nat):Bool:=if nanB .f32 b = true then false else Ieee.single.order b 0 == some .lt
theorem WOL.flz {b:Nat} (hx:getL L x = some (.float .f32 b)) (hy:getL L y = some (.float .f32 0)) (w:∀ a,Kn (putL L d (.bool (lt0 b))) a → WO P tp rest a h K):∀ a,Kn L a → WO P tp (⟨d,.binOp .lss t x y u,ty,none,[],i⟩ :: rest) a h K:=by
  unfold lt0 at w
  cases hb:nanB .f32 b with
  | true =>
    rw [hb,if_pos rfl] at w
    exact WOL.bi hx hy (by show cond (fKindEq .f32 .f32 && (nanB .f32 b || nanB .f32 0)) (nanOut .lss) none = _; rw [hb]; rfl) w
  | false =>
    rw [hb,if_neg (by decide)] at w
    exact fun a k => WO.fcmp (k.o hx) (k.o hy) hb (by decide) rfl (w _ (k.put d _))
variable {V:Value → TH → Prop}
theorem WL.endCC1 {t s r:Nat} {p q w v1 v2:Value} {ty1 ty2:TypeId} (hx:lkR L t = some p) (hx2:lkR L s = some q) (hs:lkR L r = some w) (hv:loadT P ty1 p h = some v1) (hv2:loadT P ty2 q h = some v2) (qq:V (.tuple #[v1,v2,w]) h):∀ a,Kn L a → Fin P [.cell t ty1,.cell s ty2,.tmp r] V .ret a h :=
  fun a k => by
    unfold Fin
    refine ⟨.inr rfl,[v1,v2,w],?_,qq⟩
    have e1:a.at_ t = p:=by simp only [Regs.at_,k _ _ hx]
    have e2:a.at_ s = q:=by simp only [Regs.at_,k _ _ hx2]
    have e3:a.at_ r = w:=by simp only [Regs.at_,k _ _ hs]
    simp [resultsT,e1,e2,e3,hv,hv2]
end
theorem filled_ints6 (a b c d e f:Int):filled 1 6 [.int .i64 0] [(0,.int .i64 a),(1,.int .i64 b),(2,.int .i64 c),(3,.int .i64 d),(4,.int .i64 e),(5,.int .i64 f)] = some ([a,b,c,d,e,f].map (.int .i64)):=by
  simp [filled,zeros,Instr.fill,Value.cells]
theorem bd83z:buildT Tryz.prog 83 [] = some (.agg #[.int .i64 0,.int .i64 0,.int .i64 0]):=by kernel_rfl
theorem bd158 {b1 b2 b3:Option Addr} {l1 c1 l2 c2 l3 c3:Nat}:buildT Tryz.prog 158 [(0,.slice b1 l1 c1),(1,.slice b2 l2 c2),(2,.slice b3 l3 c3)] = some (.agg #[.slice b1 l1 c1,.slice b2 l2 c2,.slice b3 l3 c3]):=by kernel_rfl
theorem ix86_0 {c:Nat}:indexAddrT Tryz.prog 86 (.pointer (some ⟨c,0,none⟩)) (.int .i64 0) = some (.pointer (some ⟨c,0,none⟩)):=by kernel_rfl
theorem ix86_1 {c:Nat}:indexAddrT Tryz.prog 86 (.pointer (some ⟨c,0,none⟩)) (.int .i64 1) = some (.pointer (some ⟨c,4,none⟩)):=by kernel_rfl
theorem ix86_2 {c:Nat}:indexAddrT Tryz.prog 86 (.pointer (some ⟨c,0,none⟩)) (.int .i64 2) = some (.pointer (some ⟨c,8,none⟩)):=by kernel_rfl
def runs3 (s:Nat → ByteArray) (n:Nat → Int) (v1 v2:Nat → Value):Value:=.agg #[.string (s 0),zi (n 0),v1 0,v2 0,.string (s 1),zi (n 1),v1 1,v2 1,.string (s 2),zi (n 2),v1 2,v2 2]
def votesC (m:Int) (C:Nat → List (Int × Bool)) (N:Nat):List (Int × Bool):=setN (List.replicate N (0,false)) 0 (voteA m C) N
def voteE (e:Nat → Int) (n:Nat → Int) (l:Nat → Nat) (el:Int) (b:Nat):Int:=firstNZ [e 0,e 1,e 2,cond (!shapeB (n 0) (l 0) (n 1) (l 1) || !shapeB (n 0) (l 0) (n 2) (l 2)) 2 0,el,cond (lt0 b) 3 0]
theorem votesC_len {m:Int} {C:Nat → List (Int × Bool)} {N:Nat}:(votesC m C N).length = N:=by unfold votesC; rw [setN_len,List.length_replicate]
theorem votesC_get {m:Int} {C:Nat → List (Int × Bool)} {N i:Nat} (h:i < N):(votesC m C N)[i]? = some (voteA m C i):=by
  unfold votesC
  rw [setN_in (by omega) (by rw [List.length_replicate]; exact h) _ (by omega)]; rfl
theorem votesC_lim {m:Int} {C:Nat → List (Int × Bool)} {N:Nat} (lim:∀ k c,c ∈ C k → c.1.natAbs ≤ 16384):∀ c,c ∈ votesC m C N → c.1.natAbs ≤ 16384:=by
  intro c hc
  unfold votesC at hc
  rcases setN_mem N hc with hc | ⟨j,_,rfl⟩
  · rw [(List.mem_replicate.1 hc).2]; decide
  · exact voteA_lim lim j
def r53w:TCode:=(.seq (.reg r53_4) (.seq (.reg r53_5) (.seq (.reg r53_6) (.seq (.reg r53_7) (.seq (.seq (.reg r53_8) (.block 0 (.loop (.seq (.reg r53_9) (.seq (.cond (.tmp 69) .skip (.exit 0)) (.seq (.block 1 (.seq (.reg r53_10) (.seq (.reg r53_11) (.seq (.reg r53_12) (.block 2 (.loop (.seq (.reg r53_13) (.seq (.cond (.tmp 93) .skip (.exit 2)) (.seq (.block 3 (.seq (.reg r53_14) (.seq (.reg r53_15) (.cond (.tmp 106) (.reg r53_16) .skip)))) (.reg r53_17)))))))))) (.reg r53_18))))))) (.seq (.reg r53_19) .ret))))))
section
variable {s:Nat → ByteArray} {n:Nat → Int} {v1 v2:Nat → Value} {F:Nat → List Nat} {S:Nat → List (Int × Int)} {es L:Nat → List Int} {h:TH} {lb:Nat}
set_option maxHeartbeats 8000000 in
set_option maxRecDepth 10000 in
theorem k53w (H:Has tp) {m:Int} {N c2 c4 c5:Nat} {g:TH} {CC:Nat → List (Int × Bool)} (sm:Samp lb m) (r:∀ k,RunH h (v1 k) (v2 k) (F k) (S k)) (hL:∀ k,Lev (F k) (L k)) (hF:∀ k,(F k).length ≤ 4096) (hS:∀ k,(S k).length ≤ 900000) (hin:∀ k,In (F k).length (S k)) (hN:∀ k,(F k).length = N) (hC:CC = fun k => cellsL (L k) (S k)) (f:Free0 h.next h) (Y:HX h g)
    (A2:At g c2 (.cells [.string (s 0),zi (n 0),v1 0,v2 0,.string (s 1),zi (n 1),v1 1,v2 1,.string (s 2),zi (n 2),v1 2,v2 2] true true 86)) (A4:At g c4 (.cells [.string ⟨#[]⟩,.int .i64 0,.slice none 0 0,.slice none 0 0] true true 52)) (A5:At g c5 (.cells [.int .i64 0,.int .i64 0,.int .i64 0] true true 83)) (hc4:h.next ≤ c4) (hc5:h.next ≤ c5) (hc2:h.next ≤ c2) (h45:c4 ≠ c5) :
    ∀ a,Kn [(1,.float .f32 lb),(2,ptr c2),(4,ptr c4),(5,ptr c5)] a → W Tryz.prog tp false r53w a g (Fin Tryz.prog [.cell 4 52,.cell 5 83,.tmp 6] fun v h' => HX h h' ∧ ∃ w1 w2,v = .tuple #[runV (s 0) (n 0) w1 w2,.agg (cel3 (wrN m CC N)).toArray,zi 0] ∧
        RunO h.next h' w1 w2 ((votesC m CC N).map fun c => smp c.1) (holesOf ((votesC m CC N).map fun c => c.2))):=by
  have lt2:=A2.lt
  have lt4:=A4.lt
  have lt5:=A5.lt
  have hcl:∀ k,(cellsL (L k) (S k)).length = N:=fun k => by rw [cells_len (hL k) (hin k),hN k]
  have lim:∀ k c,c ∈ CC k → c.1.natAbs ≤ 16384:=fun k c hc => by subst hC; exact cells_lim (hL k) (S k) c hc
  have hCl:∀ k,(CC k).length = N:=fun k => by subst hC; exact hcl k
  have N4:N ≤ 4096:=by rw [← hN 0]; exact hF 0
  unfold r53w
  refine WL.sr <| WOL.mv rfl ?_
  refine WOL.cl1 rfl rfl ((k111 H sm g).mono ?_)
  rintro v g' ⟨rfl,rfl⟩
  refine WOL.as rfl <| WOL.nil <| keep [(2,_),(4,_),(5,_),(8,_)] ⟨rfl,rfl,rfl,rfl,trivial⟩ ?_
  refine WL.sr <| WOL.ix rfl rfl ix86_0 ?_
  refine WOL.ld rfl (load_row tp52 A2 rfl (Nat.le_of_ble_eq_true rfl)) <| WOL.ix rfl rfl ix86_1 ?_
  refine WOL.ld rfl (load_row tp52 A2 rfl (Nat.le_of_ble_eq_true rfl)) <| WOL.ix rfl rfl ix86_2 ?_
  refine WOL.ld rfl (load_row tp52 A2 rfl (Nat.le_of_ble_eq_true rfl)) ?_
  refine WOL.al tp158 fun h1 N1 => ?_
  have n1:=N1.next
  have Y1:=Y.trans N1.hx
  refine WOL.lq1 [g'.next,c2,c2] rfl rfl rfl fun M hM => ((k85 H (s:=s 0) (n:=n 0) (((r 0).hx Y1).relock' M) (hL 0) (by have:=hF 0; omega) (by have:=hS 0; omega) (hin 0) ((f.on Y1).held hM (fun b hb => by simp at hb; omega))).mono ?_)
  rintro v h2 ⟨b1,rfl,o1,B1,X2⟩
  replace B1:=B1.relock h1.lock
  replace X2:=X2.relock
  replace o1:h1.next ≤ b1:=o1
  generalize h2.withLock h1.lock = h2 at *
  have Y2:=Y1.trans X2
  have n2:=X2.next
  refine WOL.lq1 [g'.next,c2] rfl rfl rfl fun M hM => ((k85 H (s:=s 1) (n:=n 1) (((r 1).hx Y2).relock' M) (hL 1) (by have:=hF 1; omega) (by have:=hS 1; omega) (hin 1) ((f.on Y2).held hM (fun b hb => by simp at hb; omega))).mono ?_)
  rintro v h3 ⟨b2,rfl,o2,B2,X3⟩
  replace B2:=B2.relock h2.lock
  replace X3:=X3.relock
  replace o2:h2.next ≤ b2:=o2
  generalize h3.withLock h2.lock = h3 at *
  have Y3:=Y2.trans X3
  have n3:=X3.next
  refine WOL.lq1 [g'.next] rfl rfl rfl fun M hM => ((k85 H (s:=s 2) (n:=n 2) (((r 2).hx Y3).relock' M) (hL 2) (by have:=hF 2; omega) (by have:=hS 2; omega) (hin 2) ((f.on Y3).held hM (fun b hb => by simp at hb; omega))).mono ?_)
  rintro v h4 ⟨b3,rfl,o3,B3,X4⟩
  replace B3:=B3.relock h3.lock
  replace X4:=X4.relock
  replace o3:h3.next ≤ b3:=o3
  generalize h4.withLock h3.lock = h4 at *
  have Y4:=Y3.trans X4
  have n4:=X4.next
  have Z4:=(X2.trans X3).trans X4
  rw [hN 0,hN 1,hN 2]
  refine WOL.bd rfl bd158 ?_
  have z1:=N1.hx.next
  refine WOL.sto rfl rfl tp158 (N1.at_.hx Z4) rfl rfl (Nat.le_of_ble_eq_true rfl) rfl (f.hx Y4) (by have:=Y.next; omega) fun h5 P5 => ?_
  have Y5:=P5.hx _ Y4 (by have:=Y.next; omega)
  have A9:=P5.at_
  have X5:HX g' h5:=P5.hx _ (N1.hx.trans Z4) (Nat.le_refl _)
  have nx5:=P5.next
  have lb1:=B1.lt
  have lb2:=B2.lt
  have lb3:=B3.lt
  have C1:=P5.oth b1 _ (by omega) ((B1.hx X3).hx X4)
  have C2:=P5.oth b2 _ (by omega) (B2.hx X4)
  have C3:=P5.oth b3 _ (by omega) B3
  obtain ⟨us,u0,u1,u2⟩:∃ us:Nat → Value,us 0 = .slice (some ⟨b1,0,none⟩) N N ∧ us 1 = .slice (some ⟨b2,0,none⟩) N N ∧ us 2 = .slice (some ⟨b3,0,none⟩) N N:=⟨fun k => match k with | 0 => Value.slice (some ⟨b1,0,none⟩) N N | 1 => .slice (some ⟨b2,0,none⟩) N N | _ => .slice (some ⟨b3,0,none⟩) N N,rfl,rfl,rfl⟩
  have A9:At h5 g'.next (.cells [us 0,us 1,us 2] true true 158):=by rw [u0,u1,u2]; exact A9
  have slk:∀ k,k < 3 → SlL encC 2 h5 (us k) (CC k):=by
    intro k hk
    subst hC
    obtain rfl | rfl | rfl:k = 0 ∨ k = 1 ∨ k = 2:=by omega
    · rw [u0]; exact SlL.own eC C1 (hcl 0)
    · rw [u1]; exact SlL.own eC C2 (hcl 1)
    · rw [u2]; exact SlL.own eC C3 (hcl 2)
  clear C1 C2 C3 u0 u1 u2
  refine WOL.nil <| keep [(2,_),(4,_),(5,_),(8,_),(9,_)] ⟨rfl,rfl,rfl,rfl,rfl,trivial⟩ ?_
  refine WL.sr <| WOL.ix rfl rfl (ix158 (k:=0) (by decide)) ?_
  refine WOL.ld rfl (load_one tp135 A9 rfl) ?_
  refine WOL.len rfl (slk 0 (by decide)) u135 ?_
  rw [hCl 0]
  refine WOL.ms rfl rfl u135 tp134 (by decide) (by omega) fun h6 N6 => ?_
  refine WOL.as rfl <| WOL.nil <| keep [(2,_),(4,_),(5,_),(8,_),(9,_),(10,_)] ⟨rfl,rfl,rfl,rfl,rfl,rfl,trivial⟩ ?_
  refine WL.sr <| WOL.al tp83 fun h7 N7 => WOL.nil <| keep [(2,_),(4,_),(5,_),(8,_),(9,_),(10,_),(11,_)] ⟨rfl,rfl,rfl,rfl,rfl,rfl,rfl,trivial⟩ ?_
  have Av:At h7 h5.next (.cells (cat encC (List.replicate N ((0:Int),false))) true true 134):=by rw [← cellsL_flat]; exact N6.at_.hx N7.hx
  have nx6:=N6.next
  have gx5:=X5.next
  refine kto (k53loop H (m:=m) (C:=CC) (us:=us) f Y5 (N6.hx.trans N7.hx) A9 slk hCl (by omega) lim Av N7.at_ (Nat.le_refl _) (by omega) (by omega) ?_) ⟨rfl,rfl,rfl,rfl,rfl,rfl,rfl,trivial⟩
  intro g9 X9 Bv Bw
  have Y9:=Y5.trans X9
  have W9:=X5.trans X9
  have A2':=A2.hx W9
  have A4':=A4.hx W9
  have A5':=A5.hx W9
  have lw:=Bw.lt
  refine WL.sr <| WOL.ix rfl rfl ix86_0 <| WOL.fa rfl (fa_of fo52_0) ?_
  refine WOL.ld rfl (load_one tp9 A2' rfl) <| WOL.ix rfl rfl ix86_0 <| WOL.fa rfl (fa_of fo52_1) ?_
  refine WOL.ld rfl (load_one tp3 A2' rfl) <| WOL.mv rfl ?_
  refine WOL.ld rfl (load_row tp83 Bw rfl (Nat.le_of_ble_eq_true rfl)) ?_
  refine WOL.lq3 [h6.next] rfl rfl rfl rfl rfl fun M hM => ((k89 H (s:=s 0) (n:=n 0) (C:=votesC m CC N) ((SlL.own eC Bv (votesC_len (m:=m) (C:=CC))).relock M) (votesC_lim lim) (by rw [votesC_len]; omega) ((f.on Y9).held hM (fun b hb => by simp at hb; omega))).mono ?_)
  rintro v h10 ⟨w1,w2,rfl,X10,O10⟩
  replace X10:=X10.relock
  replace O10:=O10.relock' g9.lock
  replace O10:RunO g9.next (h10.withLock g9.lock) w1 w2 ((votesC m CC N).map fun c => smp c.1) (holesOf ((votesC m CC N).map fun c => c.2)):=O10
  generalize h10.withLock g9.lock = h10 at *
  have Y10:=Y9.trans X10
  have n9:=Y9.next
  have gw:=W9.next
  obtain ⟨bo1,k1,rfl⟩:=O10.r.f.form
  obtain ⟨bo2,k2,rfl⟩:=O10.r.s.form
  refine WOL.stQ [h6.next] rfl rfl rfl tp52 (A4'.hx X10) rfl rfl (Nat.le_of_ble_eq_true rfl) rfl (f.hx Y10) hc4 (by simp; omega) fun h11 P11 => ?_
  refine WOL.sto rfl rfl tp83 (P11.oth c5 _ (fun e => h45 e.symm) (A5'.hx X10)) rfl rfl (Nat.le_of_ble_eq_true rfl) rfl (f.hx (P11.hx _ Y10 hc4)) hc5 fun h12 P12 => ?_
  refine WOL.as rfl <| WOL.nil ?_
  refine WL.ret (WL.endCC1 (t:=4) (s:=5) (r:=6) rfl rfl rfl (load_row tp52 (P12.oth c4 _ h45 P11.at_) rfl (Nat.le_of_ble_eq_true rfl)) (load_row tp83 P12.at_ rfl (Nat.le_of_ble_eq_true rfl)) ⟨P12.hx _ (P11.hx _ Y10 hc4) hc5,_,_,rfl,((O10.away P11 (by omega)).away P12 (by omega)).le (by omega)⟩)
end
set_option maxHeartbeats 8000000 in
set_option maxRecDepth 10000 in
theorem k53 (H:Has tp) (X:HasX tp) {s:Nat → ByteArray} {n:Nat → Int} {v1 v2:Nat → Value} {F:Nat → List Nat} {S:Nat → List (Int × Int)} {es L:Nat → List Int} {h:TH} {lb:Nat} {el:Int} (r:∀ k,RunH h (v1 k) (v2 k) (F k) (S k)) (hE:∀ k,SErr (F k) (es k)) (hL:∀ k,firstNZ (es k) = 0 → Lev (F k) (L k)) (hF:∀ k,(F k).length ≤ 900000) (hS:∀ k,(S k).length ≤ 900000) (eL:SampleE lb el) (f:Free0 h.next h)
    (h3:∀ k,∃ j,j < 3 ∧ s k = s j ∧ n k = n j ∧ F k = F j ∧ S k = S j ∧ es k = es j ∧ L k = L j) {E:Int} (hEE:voteE (fun k => runE (s k) (n k) (F k).length (S k) (es k) (L k)) n (fun k => (F k).length) el lb = E) :
    CallW Tryz.prog tp (.func (.func 53) #[] #[]) #[runs3 s n v1 v2,.float .f32 lb] h fun v h' => HX h h' ∧ ((E ≠ 0 ∧ v = .tuple #[run0,.agg #[zi 0,zi 0,zi 0],zi E]) ∨
      (E = 0 ∧ ∃ m w1 w2,Samp lb m ∧ v = .tuple #[runV (s 0) (n 0) w1 w2,.agg (cel3 (wrN m (fun k => cellsL (L k) (S k)) (F 0).length)).toArray,zi 0] ∧
        RunO h.next h' w1 w2 ((votesC m (fun k => cellsL (L k) (S k)) (F 0).length).map fun c => smp c.1) (holesOf ((votesC m (fun k => cellsL (L k) (S k)) (F 0).length).map fun c => c.2)))):=by
  refine CallW.fnL (H.fn 53 f53 rfl rfl) ?_
  refine WL.sr <| WOL.box rfl fun h1 N1 => ?_
  refine WOL.al tp52 fun h2 N2 => ?_
  refine WOL.al tp83 fun h3' N3 => ?_
  have n1:=N1.next
  have n2:=N2.next
  have n3:=N3.next
  have X3:HX h h3':=(N1.hx.trans N2.hx).trans N3.hx
  have A2:At h3' h.next (.cells [.string (s 0),zi (n 0),v1 0,v2 0,.string (s 1),zi (n 1),v1 1,v2 1,.string (s 2),zi (n 2),v1 2,v2 2] true true 86):=(N1.at_.hx N2.hx).hx N3.hx
  have A4:=N2.at_.hx N3.hx
  have A5:=N3.at_
  refine WOL.as rfl <| WOL.nil <| keep [(1,_),(2,_),(4,_),(5,_),(6,_)] ⟨rfl,rfl,rfl,rfl,rfl,trivial⟩ ?_
  refine WL.sr <| WOL.ix rfl rfl ix86_0 ?_
  refine WOL.ld rfl (load_row tp52 A2 rfl (Nat.le_of_ble_eq_true rfl)) <| WOL.ix rfl rfl ix86_1 ?_
  refine WOL.ld rfl (load_row tp52 A2 rfl (Nat.le_of_ble_eq_true rfl)) <| WOL.ix rfl rfl ix86_2 ?_
  refine WOL.ld rfl (load_row tp52 A2 rfl (Nat.le_of_ble_eq_true rfl)) <| WOL.ix rfl rfl ix86_0 ?_
  refine WOL.ld rfl (load_row tp52 A2 rfl (Nat.le_of_ble_eq_true rfl)) <| WOL.ix rfl rfl ix86_1 ?_
  refine WOL.ld rfl (load_row tp52 A2 rfl (Nat.le_of_ble_eq_true rfl)) <| WOL.mv rfl <| WOL.mv rfl <| WOL.flz rfl rfl ?_
  refine WOL.lq1 [h.next,h.next,h.next,h.next] rfl rfl rfl fun M hM => ((k41 H X (s:=s 0) (n:=n 0) (((r 0).hx X3).relock' M) (hE 0) (hL 0) (by have:=hF 0; omega) (by have:=hS 0; omega) ((f.on X3).held hM (fun b hb => by simp at hb; omega))).mono ?_)
  rintro v h4 ⟨rfl,X4⟩
  replace X4:=X4.relock
  generalize h4.withLock h3'.lock = h4 at *
  have Y4:=X3.trans X4
  have y4:=X4.next
  refine WOL.lq1 [h.next,h.next,h.next] rfl rfl rfl fun M hM => ((k41 H X (s:=s 1) (n:=n 1) (((r 1).hx Y4).relock' M) (hE 1) (hL 1) (by have:=hF 1; omega) (by have:=hS 1; omega) ((f.on Y4).held hM (fun b hb => by simp at hb; omega))).mono ?_)
  rintro v h5 ⟨rfl,X5⟩
  replace X5:=X5.relock
  generalize h5.withLock h4.lock = h5 at *
  have Y5:=Y4.trans X5
  have y5:=X5.next
  refine WOL.lq1 [h.next,h.next] rfl rfl rfl fun M hM => ((k41 H X (s:=s 2) (n:=n 2) (((r 2).hx Y5).relock' M) (hE 2) (hL 2) (by have:=hF 2; omega) (by have:=hS 2; omega) ((f.on Y5).held hM (fun b hb => by simp at hb; omega))).mono ?_)
  rintro v h6 ⟨rfl,X6⟩
  replace X6:=X6.relock
  generalize h6.withLock h5.lock = h6 at *
  have Y6:=Y5.trans X6
  refine WOL.cl2 rfl rfl rfl ((k109 H (s:=s 0) (s':=s 1) (n:=n 0) (n':=n 1) ((r 0).f.hx Y6) ((r 1).f.hx Y6)).mono ?_)
  rintro v h7 ⟨rfl,X7⟩
  have Y7:=Y6.trans X7
  have Z7:=((X4.trans X5).trans X6).trans X7
  refine WOL.nt rfl <| WOL.mv rfl ?_
  have go:∀ g,HX h3' g → ∀ a,Kn [(1,.float .f32 lb),(2,ptr h.next),(4,ptr h1.next),(5,ptr h2.next),(16,zi (runE (s 0) (n 0) (F 0).length (S 0) (es 0) (L 0))),(19,zi (runE (s 1) (n 1) (F 1).length (S 1) (es 1) (L 1))),(22,zi (runE (s 2) (n 2) (F 2).length (S 2) (es 2) (L 2))),(36,.bool (!shapeB (n 0) (F 0).length (n 1) (F 1).length || !shapeB (n 0) (F 0).length (n 2) (F 2).length)),(38,.float .f32 lb),(41,.bool (lt0 lb))] a → WO Tryz.prog tp (r53_1.drop 26) a g (fun a g => ∃ g',HX h3' g' ∧ g' = g ∧ Kn [(1,.float .f32 lb),(2,ptr h.next),(4,ptr h1.next),(5,ptr h2.next),(7,zi E)] a):=by
    intro g Xg
    refine WOL.cl2 rfl rfl rfl ((k77 H _ _ _).mono ?_)
    rintro v g1 ⟨rfl,rfl⟩
    refine WOL.cl1 rfl rfl ((k21 H X eL _).mono ?_)
    rintro v g2 ⟨rfl,rfl⟩
    refine WOL.cl2 rfl rfl rfl ((k77 H _ _ _).mono ?_)
    rintro v g3 ⟨rfl,rfl⟩
    refine WOL.bsl rfl u166 tp30 (by decide) (by decide) (by decide) (filled_ints6 _ _ _ _ _ _) fun h8 N8 => ?_
    refine WOL.cl1 rfl rfl ((k71 H (l:=[_,_,_,_,_,_]) N8.at_.get (by simp)).mono ?_)
    rintro v h8 ⟨rfl,rfl⟩
    refine WOL.as rfl <| WOL.nil ?_
    exact fun a q => ⟨_,Xg.trans N8.hx,rfl,by rw [← hEE]; exact q.sub ⟨rfl,rfl,rfl,rfl,rfl,trivial⟩⟩
  have rest:∀ g,HX h3' g → ∀ a,Kn [(1,.float .f32 lb),(2,ptr h.next),(4,ptr h1.next),(5,ptr h2.next),(7,zi E)] a → W Tryz.prog tp false (.seq (.seq (.reg r53_2) (.cond (.tmp 46) (.seq (.reg r53_3) .ret) .skip)) r53w) a g (Fin Tryz.prog [.cell 4 52,.cell 5 83,.tmp 6] fun v h' => HX h h' ∧ ((E ≠ 0 ∧ v = .tuple #[run0,.agg #[zi 0,zi 0,zi 0],zi E]) ∨
      (E = 0 ∧ ∃ m w1 w2,Samp lb m ∧ v = .tuple #[runV (s 0) (n 0) w1 w2,.agg (cel3 (wrN m (fun k => cellsL (L k) (S k)) (F 0).length)).toArray,zi 0] ∧
        RunO h.next h' w1 w2 ((votesC m (fun k => cellsL (L k) (S k)) (F 0).length).map fun c => smp c.1) (holesOf ((votesC m (fun k => cellsL (L k) (S k)) (F 0).length).map fun c => c.2))))):=by
    intro g Xg
    have Yg:=X3.trans Xg
    have A2':=A2.hx Xg
    have A4':=A4.hx Xg
    have A5':=A5.hx Xg
    refine WL.seq <| WL.sr <| WOL.mv rfl <| WOL.bi rfl rfl nzero <| WOL.nil <| keep [(1,_),(2,_),(4,_),(5,_),(7,_),(46,_)] ⟨rfl,rfl,rfl,rfl,rfl,rfl,trivial⟩ ?_
    rcases nz_cases E with h0 | h0
    · subst h0
      have z:=firstNZ_zero hEE
      have e0:=z _ (List.mem_cons_self ..)
      have e1:=z _ (List.mem_cons_of_mem _ (List.mem_cons_self ..))
      have e2:=z _ (List.mem_cons_of_mem _ (List.mem_cons_of_mem _ (List.mem_cons_self ..)))
      have e3:=z _ (List.mem_cons_of_mem _ (List.mem_cons_of_mem _ (List.mem_cons_of_mem _ (List.mem_cons_self ..))))
      have e4:=z _ (List.mem_cons_of_mem _ (List.mem_cons_of_mem _ (List.mem_cons_of_mem _ (List.mem_cons_of_mem _ (List.mem_cons_self ..)))))
      subst e4
      obtain ⟨m,sm⟩:=samp_of eL
      have ek:∀ k,runE (s k) (n k) (F k).length (S k) (es k) (L k) = 0:=by
        intro k
        obtain ⟨j,hj,q1,q2,q3,q4,q5,q6⟩:=h3 k
        rw [q1,q2,q3,q4,q5,q6]
        obtain rfl | rfl | rfl:j = 0 ∨ j = 1 ∨ j = 2:=by omega
        · exact e0
        · exact e1
        · exact e2
      have V:∀ k,Valid (s k) (n k) (F k) (S k) (L k):=fun k => valid_of (hL k) (ek k)
      have sh:(F 1).length = (F 0).length ∧ (F 2).length = (F 0).length:=by
        have e3:cond (!shapeB (n 0) (F 0).length (n 1) (F 1).length || !shapeB (n 0) (F 0).length (n 2) (F 2).length) (2:Int) 0 = 0:=e3
        cases g1:shapeB (n 0) (F 0).length (n 1) (F 1).length with
        | false => rw [g1] at e3; cases e3
        | true =>
          cases g2:shapeB (n 0) (F 0).length (n 2) (F 2).length with
          | false => rw [g1,g2] at e3; cases e3
          | true =>
            unfold shapeB at g1 g2
            simp at g1 g2
            omega
      have hN:∀ k,(F k).length = (F 0).length:=by
        intro k
        obtain ⟨j,hj,q1,q2,q3,q4,q5,q6⟩:=h3 k
        rw [q3]
        obtain rfl | rfl | rfl:j = 0 ∨ j = 1 ∨ j = 2:=by omega
        · rfl
        · exact sh.1
        · exact sh.2
      refine WL.no rfl <| WL.skip ?_
      refine kto (WL.mono (k53w H sm r (fun k => (V k).lev) (fun k => (V k).m) hS (fun k => (V k).in_) hN rfl f Yg A2' A4' A5' (by omega) (by omega) (Nat.le_refl _) (by omega)) ?_) ⟨rfl,rfl,rfl,rfl,trivial⟩
      intro x a g' q
      unfold Fin at q ⊢
      obtain ⟨q1,vs,q2,q3,w1,w2,q4,q5⟩:=q
      exact ⟨q1,vs,q2,q3,.inr ⟨rfl,m,w1,w2,sm,q4,q5⟩⟩
    · rw [h0]
      refine WL.yes rfl <| WL.sr <| WOL.bd rfl bd52z <| WOL.bd rfl bd83z <| WOL.mv rfl ?_
      refine WOL.sto rfl rfl tp52 A4' rfl rfl (Nat.le_of_ble_eq_true rfl) rfl (f.hx Yg) (by omega) fun g5 P5 => ?_
      refine WOL.sto rfl rfl tp83 (P5.oth h2.next _ (by omega) A5') rfl rfl (Nat.le_of_ble_eq_true rfl) rfl (f.hx (P5.hx _ Yg (by omega))) (by omega) fun g6 P6 => ?_
      refine WOL.as rfl <| WOL.nil ?_
      exact WL.ret (WL.endCC1 (t:=4) (s:=5) (r:=6) rfl rfl rfl (load_row tp52 (P6.oth h1.next _ (by omega) P5.at_) rfl (Nat.le_of_ble_eq_true rfl)) (load_row tp83 P6.at_ rfl (Nat.le_of_ble_eq_true rfl)) ⟨P6.hx _ (P5.hx _ Yg (by omega)) (by omega),.inl ⟨by simpa using h0,rfl⟩⟩)
  cases hsh:shapeB (n 0) (F 0).length (n 1) (F 1).length with
  | false =>
    rw [hsh] at go
    refine WOL.skp (b:=true) rfl rfl <| WOL.skp (b:=true) rfl rfl <| WOL.skp (b:=true) rfl rfl <| WOL.skp (b:=true) rfl rfl <| WOL.skp (b:=true) rfl rfl <| WOL.skp (b:=true) rfl rfl <| WOL.pkt rfl rfl ?_
    refine WOL.mono (kto (go h7 Z7) ⟨rfl,rfl,rfl,rfl,rfl,rfl,rfl,rfl,rfl,rfl,trivial⟩) ?_
    rintro a g ⟨g',Xg,rfl,q⟩
    exact rest g' Xg a q
  | true =>
    rw [hsh] at go
    refine WOL.now (b:=false) rfl rfl <| WOL.ix rfl rfl ix86_0 <| WOL.now (b:=false) rfl rfl ?_
    refine WOL.ld rfl (load_row tp52 (A2.hx Z7) rfl (Nat.le_of_ble_eq_true rfl)) <| WOL.now (b:=false) rfl rfl <| WOL.ix rfl rfl ix86_2 <| WOL.now (b:=false) rfl rfl ?_
    refine WOL.ld rfl (load_row tp52 (A2.hx Z7) rfl (Nat.le_of_ble_eq_true rfl)) <| WOL.now (b:=false) rfl rfl ?_
    refine WOL.cl2 rfl rfl rfl ((k109 H (s:=s 0) (s':=s 2) (n:=n 0) (n':=n 2) ((r 0).f.hx Y7) ((r 2).f.hx Y7)).mono ?_)
    rintro v h8 ⟨rfl,X8⟩
    refine WOL.now (b:=false) rfl rfl <| WOL.nt rfl <| WOL.pkf rfl rfl ?_
    refine WOL.mono (kto (go h8 (Z7.trans X8)) ⟨rfl,rfl,rfl,rfl,rfl,rfl,rfl,rfl,rfl,rfl,trivial⟩) ?_
    rintro a g ⟨g',Xg,rfl,q⟩
    exact rest g' Xg a q
end Go.Tidy
namespace Go.Tidy
open Go Go.Proofs Tab
variable {tp:TProg}
section
variable {P:Program} {a:Regs} {h:TH} {K:Regs → TH → Prop} {rest:List TOper} {d:Option Tmp} {ty:TypeId} {i:Nat} {f x0 x1 x2 x3 l0:Operand} {ls:List Operand} {fv v0 v1 v2 v3:Value} {ts:Array TypeId}
theorem WO.lq4 (bs:List Nat) (hb:(l0 :: ls).map (fun x => (getO a x).bind blockOf) = bs.map some) (hf:getO a f = some fv) (h0:getO a x0 = some v0) (h1:getO a x1 = some v1) (h2:getO a x2 = some v2) (h3:getO a x3 = some v3) (w:∀ L,(∀ l,l ∈ L → l ∈ bs ∨ l ∈ h.lock) → CallW P tp fv #[v0,v1,v2,v3] (h.withLock L) fun v h1 => WO P tp rest (a.put d v) (h1.withLock h.lock) K):WO P tp (⟨d,.call ⟨.value f,#[x0,x1,x2,x3],ts⟩,ty,none,l0 :: ls,i⟩ :: rest) a h K :=
  WO.cons_lock rfl rfl (StepW.call (by rw [getO_eval hf]; simpa [getO_eval h0,getO_eval h1,getO_eval h2,getO_eval h3] using w _ (lockOf_bs _ a bs h.lock hb)))
theorem WOL.lq4 {L:Rg} (bs:List Nat) (hb:(l0 :: ls).map (fun x => (getL L x).bind blockOf) = bs.map some) (hf:getL L f = some fv) (h0:getL L x0 = some v0) (h1:getL L x1 = some v1) (h2:getL L x2 = some v2) (h3:getL L x3 = some v3) (w:∀ M,(∀ l,l ∈ M → l ∈ bs ∨ l ∈ h.lock) → CallW P tp fv #[v0,v1,v2,v3] (h.withLock M) fun v h1 => ∀ a,Kn (putL L d v) a → WO P tp rest a (h1.withLock h.lock) K):∀ a,Kn L a → WO P tp (⟨d,.call ⟨.value f,#[x0,x1,x2,x3],ts⟩,ty,none,l0 :: ls,i⟩ :: rest) a h K :=
  fun _ k => WO.lq4 bs (locks_o k hb) (k.o hf) (k.o h0) (k.o h1) (k.o h2) (k.o h3) fun M hM => (w M hM).mono fun _ _ q => k.nx q
variable {V:Value → TH → Prop}
theorem WL.endCC {L:Rg} {t s:Nat} {p q v1 v2:Value} {ty1 ty2:TypeId} (hx:lkR L t = some p) (hx2:lkR L s = some q) (hv:loadT P ty1 p h = some v1) (hv2:loadT P ty2 q h = some v2) (qq:V (.tuple #[v1,v2]) h):∀ a,Kn L a → Fin P [.cell t ty1,.cell s ty2] V .ret a h :=
  fun a k => by
    unfold Fin
    refine ⟨.inr rfl,[v1,v2],?_,qq⟩
    have e1:a.at_ t = p:=by simp only [Regs.at_,k _ _ hx]
    have e2:a.at_ s = q:=by simp only [Regs.at_,k _ _ hx2]
    simp [resultsT,e1,e2,hv,hv2]
end
theorem own_at_ne {α:Type} {enc:α → List Value} {n0 c:Nat} {h:TH} {v:Value} {e el:TypeId} {l:List α} {cs:List Value} {fix wr:Bool} (o:OwnL enc n0 h v e l) (a:At h c (.cells cs fix wr el)) (he:e ≠ el):bl v ≠ some c:=by
  intro hc
  rcases o with ⟨rfl,rfl⟩ | ⟨_,b,rfl,_,h3⟩
  · cases hc
  · cases hc
    have:=h3.get.symm.trans a.get
    cases this
    exact he rfl
def rowC (C:Nat → List (Int × Bool)) (i:Nat):List (Int × Bool):=[cellD C 0 i,cellD C 1 i,cellD C 2 i]
def voteL (m:Int) (C:Nat → List (Int × Bool)) (i:Nat):Int × Bool:=voteR m (knownV (rowC C i))
def levN (m:Int) (C:Nat → List (Int × Bool)) (N:Nat):List Int:=(List.range N).map fun i => (voteL m C i).1
def knwN (m:Int) (C:Nat → List (Int × Bool)) (N:Nat):List Bool:=(List.range N).map fun i => (voteL m C i).2
section
variable {m:Int} {C:Nat → List (Int × Bool)}
theorem levN_succ (i:Nat):levN m C (i + 1) = levN m C i ++ [(voteL m C i).1]:=by unfold levN; rw [List.range_succ,List.map_append]; rfl
theorem knwN_succ (i:Nat):knwN m C (i + 1) = knwN m C i ++ [(voteL m C i).2]:=by unfold knwN; rw [List.range_succ,List.map_append]; rfl
theorem levN_len (i:Nat):(levN m C i).length = i:=by simp [levN]
theorem knwN_len (i:Nat):(knwN m C i).length = i:=by simp [knwN]
theorem row_take {i k:Nat} (hk:k < 3):(rowC C i).take (k + 1) = (rowC C i).take k ++ [cellD C k i]:=by
  obtain rfl | rfl | rfl:k = 0 ∨ k = 1 ∨ k = 2:=by omega
  all_goals rfl
theorem knownV_snoc (A:List (Int × Bool)) (c:Int × Bool):knownV (A ++ [c]) = knownV A ++ cond c.2 [c.1] []:=by
  unfold knownV
  rw [List.filter_append,List.map_append]
  congr 1
  cases h:c.2 <;> simp [h]
theorem voteA_L (i:Nat):voteA m C i = cond (voteL m C i).2 ((voteL m C i).1,true) (0,false):=by
  show voteS m (insL (knownV (rowC C i)) (knownV (rowC C i)).length) = _
  exact vote_join m _ (by have:=knownV_le (rowC C i); simpa [rowC] using this)
theorem wrong_L (k i:Nat):wrongB m (cellD C k i) (voteA m C i) = ((voteL m C i).2 && (cellD C k i).2 && decide (max ((cellD C k i).1 - (voteL m C i).1) (0 - ((cellD C k i).1 - (voteL m C i).1)) > m)):=by
  rw [voteA_L]
  unfold wrongB
  cases h:(voteL m C i).2 with
  | false => simp
  | true =>
    simp only [cond_true,Bool.and_true,Bool.true_and]
    rw [show (0:Int) - ((cellD C k i).1 - (voteL m C i).1) = (voteL m C i).1 - (cellD C k i).1 by omega]
theorem votes_cells (N:Nat):votesC m C N = cellsK (levN m C N) (knwN m C N):=by
  apply List.ext_getElem?
  intro i
  by_cases hi:i < N
  · rw [votesC_get hi,cellsK_get (x:=(voteL m C i).1) (p:=(voteL m C i).2) (by simp [levN,hi]) (by simp [knwN,hi]),voteA_L]
    cases (voteL m C i).2 <;> rfl
  · rw [List.getElem?_eq_none (by rw [votesC_len]; omega),List.getElem?_eq_none (by rw [cellsK_ln (by rw [knwN_len,levN_len]),levN_len]; omega)]
theorem voteR_lim:∀ {l:List Int},(∀ x,x ∈ l → x.natAbs ≤ 16384) → (voteR m l).1.natAbs ≤ 16384
  | [],_ => by show (0:Int).natAbs ≤ _; decide
  | [a],_ => by show (0:Int).natAbs ≤ _; decide
  | [a,b],h => by
    have h1:=h a (by simp)
    have h2:=h b (by simp)
    show (rnd (a + b) 2).natAbs ≤ _
    unfold rnd
    omega
  | [a,b,c],h => by
    have h1:=h a (by simp)
    have h2:=h b (by simp)
    have h3:=h c (by simp)
    show (midV a b c).natAbs ≤ _
    unfold midV
    omega
  | a :: b :: c :: d :: S,_ => by show (0:Int).natAbs ≤ _; decide
theorem voteL_lim (lim:∀ k c,c ∈ C k → c.1.natAbs ≤ 16384) (i:Nat):(voteL m C i).1.natAbs ≤ 16384:=voteR_lim (knownV_all (p:=fun x => x.natAbs ≤ 16384) (row_lim lim i))
end
theorem ix82 {c k:Nat} (hk:k < 3):indexAddrT Tryz.prog 82 (.pointer (some ⟨c,0,none⟩)) (zi (k:Nat)) = some (.pointer (some ⟨c,4 * k,none⟩)):=by
  have e0:indexAddrT Tryz.prog 82 (.pointer (some ⟨c,0,none⟩)) (zi 0) = some (.pointer (some ⟨c,0,none⟩)):=by kernel_rfl
  have e1:indexAddrT Tryz.prog 82 (.pointer (some ⟨c,0,none⟩)) (zi 1) = some (.pointer (some ⟨c,4,none⟩)):=by kernel_rfl
  have e2:indexAddrT Tryz.prog 82 (.pointer (some ⟨c,0,none⟩)) (zi 2) = some (.pointer (some ⟨c,8,none⟩)):=by kernel_rfl
  obtain rfl | rfl | rfl:k = 0 ∨ k = 1 ∨ k = 2:=by omega
  · exact e0
  · exact e1
  · exact e2
def cells12 (s:Nat → ByteArray) (n:Nat → Int) (v1 v2:Nat → Value):List Value:=[.string (s 0),zi (n 0),v1 0,v2 0,.string (s 1),zi (n 1),v1 1,v2 1,.string (s 2),zi (n 2),v1 2,v2 2]
theorem c12_row {s:Nat → ByteArray} {n:Nat → Int} {v1 v2:Nat → Value} {k:Nat} (hk:k < 3):((cells12 s n v1 v2).drop (4 * k)).take 4 = [.string (s k),zi (n k),v1 k,v2 k] ∧ 4 * k + 4 ≤ (cells12 s n v1 v2).length ∧ (cells12 s n v1 v2)[4 * k + 2]? = some (v1 k):=by
  obtain rfl | rfl | rfl:k = 0 ∨ k = 1 ∨ k = 2:=by omega
  all_goals exact ⟨rfl,Nat.le_of_ble_eq_true rfl,rfl⟩
theorem Valid.cellD {s:ByteArray} {n:Int} {F:List Nat} {S:List (Int × Int)} {L:List Int} (V:Valid s n F S L) {i:Nat} (hi:i < F.length):(cellsL L S)[i]? = some (L.getD i 0,knownB S i):=by
  obtain ⟨k,hk⟩:=V.cell hi
  obtain ⟨_,b2⟩:=V.back
  have:=knownC_get hk
  unfold knownC at this
  rw [b2] at this
  rw [hk,this]
end Go.Tidy
namespace Go.Tidy
open Go Go.Proofs Tab
variable {tp:TProg}
section
variable {s:Nat → ByteArray} {n:Nat → Int} {v1 v2:Nat → Value} {F:Nat → List Nat} {S:Nat → List (Int × Int)} {L:Nat → List Int} {C:Nat → List (Int × Bool)} {N i c2 c4 c5 c6:Nat} {m:Int} {w7 w8:Value}
theorem lev_at (V:∀ k,Valid (s k) (n k) (F k) (S k) (L k)) (hN:∀ k,(F k).length = N) (hC:C = fun k => cellsL (L k) (S k)) (hi:i < N) (k:Nat):cellD C k i = ((L k).getD i 0,knownB (S k) i) ∧ ∃ b,(F k)[i]? = some b ∧ Samp b ((L k).getD i 0):=by
  have e:=(V k).cellD (i:=i) (by rw [hN]; exact hi)
  have hl:(L k).length = N:=by rw [← (V k).lev.1,hN]
  refine ⟨?_,(F k)[i]'(by rw [hN]; exact hi),List.getElem?_eq_getElem _,?_⟩
  · unfold cellD
    subst hC
    show ((cellsL (L k) (S k)).getD i (0,false)) = _
    rw [List.getD_eq_getElem?_getD,e]; rfl
  · refine (V k).lev.2 i _ _ (List.getElem?_eq_getElem _) ?_
    rw [List.getD_eq_getElem?_getD,List.getElem?_eq_getElem (by omega)]; rfl
set_option maxHeartbeats 4000000 in
set_option maxRecDepth 10000 in
theorem k56h (H:Has tp) {gi:TH} {rest:TCode} {Q:Exit → Regs → TH → Prop} (A2:At gi c2 (.cells (cells12 s n v1 v2) true true 82)) (r:∀ k,RunH gi (v1 k) (v2 k) (F k) (S k)) (V:∀ k,Valid (s k) (n k) (F k) (S k) (L k)) (hS:∀ k,(S k).length ≤ 900000) (hN:∀ k,(F k).length = N) (hC:C = fun k => cellsL (L k) (S k)) (hi:i < N) (f:Free0 gi.next gi)
    (K:∀ g w,HX gi g → OwnL encI gi.next g w 3 (knownV (rowC C i)) → ∀ a,Kn [(2,ptr c2),(4,ptr c4),(5,ptr c5),(6,ptr c6),(7,w7),(8,w8),(9,zi m),(10,zi (i:Nat)),(11,w)] a → W Tryz.prog tp false rest a g Q) :
    ∀ a,Kn [(2,ptr c2),(4,ptr c4),(5,ptr c5),(6,ptr c6),(7,w7),(8,w8),(9,zi m),(10,zi (i:Nat))] a → W Tryz.prog tp false (.seq (.reg r56_7) (.seq (.seq (.reg r56_8) (.block 2 (.loop (.seq (.seq (.reg r56_9) (.cond (.tmp 28) .skip (.exit 2))) (.seq (.block 3 (.seq (.reg r56_10) (.cond (.tmp 35) (.reg r56_11) .skip))) (.reg r56_12)))))) rest)) a gi Q:=by
  refine WL.sr <| WOL.as rfl <| WOL.nil ?_
  refine WL.seq <| WL.sr <| WOL.as rfl <| WOL.nil ?_
  refine WL.block ?_
  refine WL.loop (fun q a g => ∃ (k:Nat) (w:Value),k ≤ 3 ∧ q = 3 - k ∧ HX gi g ∧ OwnL encI gi.next g w 3 (knownV ((rowC C i).take k)) ∧ Kn [(2,ptr c2),(4,ptr c4),(5,ptr c5),(6,ptr c6),(7,w7),(8,w8),(9,zi m),(10,zi (i:Nat)),(11,w),(12,zi (k:Nat))] a) 3 (fun a q => ⟨0,_,by omega,by omega,HX.refl _,OwnL.nil,q.sub ⟨rfl,rfl,rfl,rfl,rfl,rfl,rfl,rfl,rfl,rfl,trivial⟩⟩) ?_
  rintro q a g ⟨k,w,hk,rfl,X1,O1,q⟩
  refine q.go ?_
  refine WL.seq <| WL.sr <| WOL.mv rfl <| WOL.bi (v:=.bool (decide ((k:Int) < 3))) rfl rfl rfl <| WOL.nil <| keep [(2,_),(4,_),(5,_),(6,_),(7,_),(8,_),(9,_),(10,_),(11,_),(12,_),(28,_)] ⟨rfl,rfl,rfl,rfl,rfl,rfl,rfl,rfl,rfl,rfl,rfl,trivial⟩ ?_
  by_cases hk3:k < 3
  · rw [show decide ((k:Int) < 3) = true from decide_eq_true (by omega)]
    refine WL.yes rfl <| WL.skip ?_
    obtain ⟨p1,p2,p3⟩:=c12_row (s:=s) (n:=n) (v1:=v1) (v2:=v2) hk3
    obtain ⟨e1,b,e2,e3⟩:=lev_at V hN hC hi k
    have hkl:=knownV_le ((rowC C i).take k)
    have hkl2:((rowC C i).take k).length ≤ 3:=by rw [List.length_take]; simp [rowC]; omega
    refine WL.seq <| WL.block ?_
    refine WL.sr <| WOL.mv rfl <| WOL.ix rfl rfl (ix82 hk3) ?_
    refine WOL.ld rfl (load_row tp46 (A2.hx X1) p1 p2) <| WOL.mv rfl ?_
    refine WOL.cl2 rfl rfl rfl ((k39 H (s:=s k) (n:=n k) (x:=(i:Int)) ((r k).s.hx X1) (by have:=hS k; omega)).mono ?_)
    rintro v h3 ⟨rfl,X3⟩
    have Y3:=X1.trans X3
    refine WOL.nil <| keep [(2,_),(4,_),(5,_),(6,_),(7,_),(8,_),(9,_),(10,_),(11,_),(12,_),(35,_)] ⟨rfl,rfl,rfl,rfl,rfl,rfl,rfl,rfl,rfl,rfl,rfl,trivial⟩ ?_
    have fin:∀ {Q:Exit → Regs → TH → Prop} g' w',HX gi g' → OwnL encI gi.next g' w' 3 (knownV ((rowC C i).take (k + 1))) → ∀ a,Kn [(2,ptr c2),(4,ptr c4),(5,ptr c5),(6,ptr c6),(7,w7),(8,w8),(9,zi m),(10,zi (i:Nat)),(11,w'),(12,zi (k:Nat))] a → W Tryz.prog tp false (.reg r56_12) a g' (andThen (fun a g => ∃ q',q' < 3 - k ∧ ∃ (k:Nat) (w:Value),k ≤ 3 ∧ q' = 3 - k ∧ HX gi g ∧ OwnL encI gi.next g w 3 (knownV ((rowC C i).take k)) ∧ Kn [(2,ptr c2),(4,ptr c4),(5,ptr c5),(6,ptr c6),(7,w7),(8,w8),(9,zi m),(10,zi (i:Nat)),(11,w),(12,zi (k:Nat))] a) Q):=by
      intro Q g' w' Y' O'
      refine WL.reg ?_
      refine WOL.mv rfl ?_
      refine WOL.bi (v:=zi ((k + 1:Nat):Int)) rfl rfl (by show some (Value.int .i64 (fwrap .i64 ((k:Int) + 1))) = _; rw [fwrap_i64 (by omega) (by omega)]; rfl) ?_
      refine WOL.as rfl <| WOL.nil ?_
      exact fun a q => ⟨3 - (k + 1),by omega,k + 1,w',by omega,rfl,Y',O',q.sub ⟨rfl,rfl,rfl,rfl,rfl,rfl,rfl,rfl,rfl,rfl,trivial⟩⟩
    rw [row_take hk3,knownV_snoc,e1] at fin
    cases hb:knownB (S k) (i:Int) with
    | false =>
      rw [hb] at fin
      refine WL.no rfl <| WL.skip ?_
      exact fun a q => fin h3 w Y3 (by simpa using O1.hx X3) a (q.sub ⟨rfl,rfl,rfl,rfl,rfl,rfl,rfl,rfl,rfl,rfl,trivial⟩)
    | true =>
      rw [hb] at fin
      obtain ⟨b',o',cc,fix,wr,el,g1,g2,g3,g4,g5⟩:=((r k).f.hx Y3).at eF u43 tp25 e2 .i64
      refine WL.yes rfl <| WL.reg ?_
      refine WOL.mv rfl <| WOL.mv rfl <| WOL.ix rfl rfl (ix82 hk3) <| WOL.fa rfl (fa_of fo46_2) ?_
      refine WOL.ld rfl (load_one tp43 (A2.hx Y3) p3) <| WOL.mv rfl <| WOL.ix rfl rfl g1 ?_
      refine WOL.ld rfl (load_one tp25 g2 (g5 0 (by decide))) ?_
      refine WOL.cl1 rfl rfl ((k95 H e3 h3).mono ?_)
      rintro v h4 ⟨rfl,rfl⟩
      refine WOL.bs1 rfl u29 tp3 rfl fun h5 N5 => ?_
      have Y5:=Y3.trans N5.hx
      obtain ⟨w5,h6,ap,O6,x6,_,_,_⟩:=own_push (sT:=29) (x:=(L k).getD i 0) eI u29 tp3 ((O1.hx X3).hx N5.hx) (SlC.own (sz:=1) (m:=1) rfl N5.at_) (f.hx Y5) (by omega) (by have:=Y5.next; omega)
      refine WOL.ap rfl rfl ap <| WOL.as rfl <| WOL.nil ?_
      exact fun a q => fin h6 w5 (x6 gi Y5 (Nat.le_refl _)) O6 a (q.sub ⟨rfl,rfl,rfl,rfl,rfl,rfl,rfl,rfl,rfl,rfl,trivial⟩)
  · rw [show decide ((k:Int) < 3) = false from decide_eq_false (by omega)]
    obtain rfl:k = 3:=by omega
    refine WL.no rfl <| WL.exit ?_
    exact kto (K g w X1 O1) ⟨rfl,rfl,rfl,rfl,rfl,rfl,rfl,rfl,rfl,trivial⟩
set_option maxHeartbeats 4000000 in
set_option maxRecDepth 10000 in
theorem k56w (H:Has tp) {hb g:TH} {Q:Exit → Regs → TH → Prop} (X:HX hb g) (A2:At hb c2 (.cells (cells12 s n v1 v2) true true 82)) (r:∀ k,RunH hb (v1 k) (v2 k) (F k) (S k)) (V:∀ k,Valid (s k) (n k) (F k) (S k) (L k)) (hS:∀ k,(S k).length ≤ 900000) (hN:∀ k,(F k).length = N) (hC:C = fun k => cellsL (L k) (S k)) (hi:i < N) (hN4:N ≤ 4096) (lim:∀ k c,c ∈ C k → c.1.natAbs ≤ 16384) (f:Free0 hb.next hb)
    {J7:List Int} {J8:List Bool} (O7:OwnL encI hb.next g w7 3 J7) (O8:OwnL encB hb.next g w8 4 J8) (A6:At g c6 (.cells (cel3 (wrN m C i)) true true 83)) (h6:hb.next ≤ c6)
    (K:∀ g',HX hb g' → OwnL encI hb.next g' w7 3 J7 → OwnL encB hb.next g' w8 4 J8 → At g' c6 (.cells (cel3 (wrN m C (i + 1))) true true 83) → ∀ a,Kn [(2,ptr c2),(4,ptr c4),(5,ptr c5),(6,ptr c6),(7,w7),(8,w8),(9,zi m),(10,zi (i:Nat))] a → Q .normal a g') :
    ∀ a,Kn [(2,ptr c2),(4,ptr c4),(5,ptr c5),(6,ptr c6),(7,w7),(8,w8),(9,zi m),(10,zi (i:Nat)),(13,zi (voteL m C i).1),(14,.bool (voteL m C i).2)] a → W Tryz.prog tp false (.seq (.reg r56_15) (.block 4 (.loop (.seq (.seq (.reg r56_16) (.cond (.tmp 62) .skip (.exit 4))) (.seq (.block 5 (.seq (.reg r56_17) (.seq (.reg r56_18) (.cond (.tmp 90) (.reg r56_19) .skip)))) (.reg r56_20)))))) a g Q:=by
  have vl:=voteL_lim (m:=m) lim i
  refine WL.sr <| WOL.as rfl <| WOL.nil ?_
  refine WL.block ?_
  refine WL.loop (fun q a g => ∃ k:Nat,k ≤ 3 ∧ q = 3 - k ∧ HX hb g ∧ OwnL encI hb.next g w7 3 J7 ∧ OwnL encB hb.next g w8 4 J8 ∧ At g c6 (.cells (cel3 (pwR m C i k)) true true 83) ∧ Kn [(2,ptr c2),(4,ptr c4),(5,ptr c5),(6,ptr c6),(7,w7),(8,w8),(9,zi m),(10,zi (i:Nat)),(13,zi (voteL m C i).1),(14,.bool (voteL m C i).2),(15,zi (k:Nat))] a) 3 (fun a q => ⟨0,by omega,by omega,X,O7,O8,A6,q.sub ⟨rfl,rfl,rfl,rfl,rfl,rfl,rfl,rfl,rfl,rfl,rfl,trivial⟩⟩) ?_
  clear O7 O8 A6 X
  rintro q a g ⟨k,hk,rfl,X1,O7,O8,A6,q⟩
  refine q.go ?_
  refine WL.seq <| WL.sr <| WOL.mv rfl <| WOL.bi (v:=.bool (decide ((k:Int) < 3))) rfl rfl rfl <| WOL.nil <| keep [(2,_),(4,_),(5,_),(6,_),(7,_),(8,_),(9,_),(10,_),(13,_),(14,_),(15,_),(62,_)] ⟨rfl,rfl,rfl,rfl,rfl,rfl,rfl,rfl,rfl,rfl,rfl,rfl,trivial⟩ ?_
  by_cases hk3:k < 3
  · rw [show decide ((k:Int) < 3) = true from decide_eq_true (by omega)]
    refine WL.yes rfl <| WL.skip ?_
    obtain ⟨p1,p2,p3⟩:=c12_row (s:=s) (n:=n) (v1:=v1) (v2:=v2) hk3
    obtain ⟨e1,b,e2,e3⟩:=lev_at V hN hC hi k
    have ll:((L k).getD i 0).natAbs ≤ 16384:=e3.lim
    obtain ⟨b',o',cc,fix,wr,el,g1,g2,g3,g4,g5⟩:=((r k).f.hx X1).at eF u43 tp25 e2 .i64
    have hw:=wrong_L (m:=m) (C:=C) k i
    rw [e1] at hw
    have hw1:=wrN_le (m:=m) (C:=C) i k
    refine WL.seq <| WL.block ?_
    refine WL.sr <| WOL.mv rfl <| WOL.ix rfl rfl (ix82 hk3) <| WOL.fa rfl (fa_of fo46_2) ?_
    refine WOL.ld rfl (load_one tp43 (A2.hx X1) p3) <| WOL.mv rfl <| WOL.ix rfl rfl g1 ?_
    refine WOL.ld rfl (load_one tp25 g2 (g5 0 (by decide))) ?_
    refine WOL.cl1 rfl rfl ((k95 H e3 g).mono ?_)
    rintro v h4 ⟨rfl,rfl⟩
    refine WOL.mv rfl <| WOL.sub rfl rfl (by omega) (by omega) <| WOL.as rfl <| WOL.nil <| keep [(2,_),(4,_),(5,_),(6,_),(7,_),(8,_),(9,_),(10,_),(13,_),(14,_),(15,_),(16,_)] ⟨rfl,rfl,rfl,rfl,rfl,rfl,rfl,rfl,rfl,rfl,rfl,rfl,trivial⟩ ?_
    have fin:∀ {Q:Exit → Regs → TH → Prop} g',HX hb g' → OwnL encI hb.next g' w7 3 J7 → OwnL encB hb.next g' w8 4 J8 → At g' c6 (.cells (cel3 (pwR m C i (k + 1))) true true 83) → ∀ a,Kn [(2,ptr c2),(4,ptr c4),(5,ptr c5),(6,ptr c6),(7,w7),(8,w8),(9,zi m),(10,zi (i:Nat)),(13,zi (voteL m C i).1),(14,.bool (voteL m C i).2),(15,zi (k:Nat))] a → W Tryz.prog tp false (.reg r56_20) a g' (andThen (fun a g => ∃ q',q' < 3 - k ∧ ∃ k:Nat,k ≤ 3 ∧ q' = 3 - k ∧ HX hb g ∧ OwnL encI hb.next g w7 3 J7 ∧ OwnL encB hb.next g w8 4 J8 ∧ At g c6 (.cells (cel3 (pwR m C i k)) true true 83) ∧ Kn [(2,ptr c2),(4,ptr c4),(5,ptr c5),(6,ptr c6),(7,w7),(8,w8),(9,zi m),(10,zi (i:Nat)),(13,zi (voteL m C i).1),(14,.bool (voteL m C i).2),(15,zi (k:Nat))] a) Q):=by
      intro Q g' Y' P7 P8 P6
      refine WL.reg ?_
      refine WOL.mv rfl ?_
      refine WOL.bi (v:=zi ((k + 1:Nat):Int)) rfl rfl (by show some (Value.int .i64 (fwrap .i64 ((k:Int) + 1))) = _; rw [fwrap_i64 (by omega) (by omega)]; rfl) ?_
      refine WOL.as rfl <| WOL.nil ?_
      exact fun a q => ⟨3 - (k + 1),by omega,k + 1,by omega,rfl,Y',P7,P8,P6,q.sub ⟨rfl,rfl,rfl,rfl,rfl,rfl,rfl,rfl,rfl,rfl,rfl,trivial⟩⟩
    have same:wrongB m (cellD C k i) (voteA m C i) = false → pwR m C i (k + 1) = pwR m C i k:=fun h => pw_same h
    rw [e1] at same
    refine WL.sr <| WOL.mv rfl <| WOL.mv rfl ?_
    have done:∀ {Q:Exit → Regs → TH → Prop} g',HX h4 g' → ∀ B:Bool,B = wrongB m ((L k).getD i 0,knownB (S k) i) (voteA m C i) → (∀ g'',HX hb g'' → OwnL encI hb.next g'' w7 3 J7 → OwnL encB hb.next g'' w8 4 J8 → At g'' c6 (.cells (cel3 (pwR m C i (k + 1))) true true 83) → ∀ a,Kn [(2,ptr c2),(4,ptr c4),(5,ptr c5),(6,ptr c6),(7,w7),(8,w8),(9,zi m),(10,zi (i:Nat)),(13,zi (voteL m C i).1),(14,.bool (voteL m C i).2),(15,zi (k:Nat))] a → Q .normal a g'') → ∀ a,Kn [(2,ptr c2),(4,ptr c4),(5,ptr c5),(6,ptr c6),(7,w7),(8,w8),(9,zi m),(10,zi (i:Nat)),(13,zi (voteL m C i).1),(14,.bool (voteL m C i).2),(15,zi (k:Nat)),(90,.bool B)] a → W Tryz.prog tp false (.cond (.tmp 90) (.reg r56_19) .skip) a g' Q:=by
      intro Q g' X' B hB K'
      have Y':=X1.trans X'
      cases B with
      | false =>
        refine WL.no rfl <| WL.skip ?_
        exact fun a q => K' g' Y' (O7.hx X') (O8.hx X') (by rw [same hB.symm]; exact A6.hx X') a (q.sub ⟨rfl,rfl,rfl,rfl,rfl,rfl,rfl,rfl,rfl,rfl,rfl,trivial⟩)
      | true =>
        refine WL.yes rfl <| WL.reg ?_
        refine WOL.mv rfl <| WOL.ix rfl rfl (ix83 hk3) ?_
        refine WOL.ld rfl (load_one tp3 (A6.hx X') (cells3_get hk3)) ?_
        rw [pw_at]
        refine WOL.add rfl rfl (by omega) (by omega) <| WOL.ix rfl rfl (ix83 hk3) ?_
        refine WOL.sto rfl rfl tp3 (A6.hx X') rfl rfl (by show k + 1 ≤ 3; omega) rfl (f.hx Y') h6 fun h5 P5 => ?_
        have W5:=P5.at_
        rw [show (zi (wrN m C i k + 1)).cells.toList = [zi (wrN m C i k + 1)] from rfl,pw_next (by rw [e1]; exact hB.symm) hk3] at W5
        refine WOL.nil ?_
        exact fun a q => K' h5 (P5.hx _ Y' h6) (own_put (O7.hx X') P5 (own_at_ne O7 A6 (by decide))) (own_put (O8.hx X') P5 (own_at_ne O8 A6 (by decide))) W5 a (q.sub ⟨rfl,rfl,rfl,rfl,rfl,rfl,rfl,rfl,rfl,rfl,rfl,trivial⟩)
    generalize hV:voteL m C i = vv at *
    obtain ⟨y,is⟩:=vv
    cases is with
    | false =>
      refine WOL.skp (b:=false) rfl rfl <| WOL.skp (b:=false) rfl rfl <| WOL.skp (b:=false) rfl rfl <| WOL.skp (b:=false) rfl rfl <| WOL.skp (b:=false) rfl rfl <| WOL.pkf rfl rfl <| WOL.mv rfl ?_
      refine WOL.skp (b:=false) rfl rfl <| WOL.skp (b:=false) rfl rfl <| WOL.skp (b:=false) rfl rfl <| WOL.skp (b:=false) rfl rfl <| WOL.skp (b:=false) rfl rfl <| WOL.skp (b:=false) rfl rfl <| WOL.pkf rfl rfl <| WOL.nil ?_
      refine kto (done h4 (HX.refl _) false (by rw [hw]; rfl) fun g'' a1 a2 a3 a4 => ?_) ⟨rfl,rfl,rfl,rfl,rfl,rfl,rfl,rfl,rfl,rfl,rfl,rfl,trivial⟩
      exact fin g'' a1 a2 a3 a4
    | true =>
      refine WOL.now (b:=true) rfl rfl <| WOL.mv rfl <| WOL.now (b:=true) rfl rfl <| WOL.ix rfl rfl (ix82 hk3) <| WOL.now (b:=true) rfl rfl ?_
      refine WOL.ld rfl (load_row tp46 (A2.hx X1) p1 p2) <| WOL.now (b:=true) rfl rfl <| WOL.mv rfl <| WOL.now (b:=true) rfl rfl ?_
      refine WOL.cl2 rfl rfl rfl ((k39 H (s:=s k) (n:=n k) (x:=(i:Int)) ((r k).s.hx X1) (by have:=hS k; omega)).mono ?_)
      rintro v h5 ⟨rfl,X5⟩
      refine WOL.pkt rfl rfl <| WOL.mv rfl ?_
      cases hkn:knownB (S k) (i:Int) with
      | false =>
        refine WOL.skp (b:=false) rfl rfl <| WOL.skp (b:=false) rfl rfl <| WOL.skp (b:=false) rfl rfl <| WOL.skp (b:=false) rfl rfl <| WOL.skp (b:=false) rfl rfl <| WOL.skp (b:=false) rfl rfl <| WOL.pkf rfl rfl <| WOL.nil ?_
        refine kto (done h5 X5 false (by rw [hw,hkn]; rfl) fun g'' a1 a2 a3 a4 => ?_) ⟨rfl,rfl,rfl,rfl,rfl,rfl,rfl,rfl,rfl,rfl,rfl,rfl,trivial⟩
        exact fin g'' a1 a2 a3 a4
      | true =>
        refine WOL.now (b:=true) rfl rfl <| WOL.mv rfl <| WOL.now (b:=true) rfl rfl <| WOL.mv rfl <| WOL.now (b:=true) rfl rfl ?_
        refine WOL.sub rfl rfl (by omega) (by omega) <| WOL.now (b:=true) rfl rfl <| WOL.imax rfl rfl <| WOL.now (b:=true) rfl rfl <| WOL.mv rfl <| WOL.now (b:=true) rfl rfl ?_
        refine WOL.bi (v:=.bool (decide (max ((L k).getD i 0 - y) (0 - ((L k).getD i 0 - y)) > m))) rfl rfl rfl <| WOL.pkt rfl rfl <| WOL.nil ?_
        refine kto (done h5 X5 _ (by rw [hw,hkn]; rfl) fun g'' a1 a2 a3 a4 => ?_) ⟨rfl,rfl,rfl,rfl,rfl,rfl,rfl,rfl,rfl,rfl,rfl,rfl,trivial⟩
        exact fin g'' a1 a2 a3 a4
  · rw [show decide ((k:Int) < 3) = false from decide_eq_false (by omega)]
    obtain rfl:k = 3:=by omega
    refine WL.no rfl <| WL.exit ?_
    exact fun a q => K g X1 O7 O8 A6 a (q.sub ⟨rfl,rfl,rfl,rfl,rfl,rfl,rfl,rfl,trivial⟩)
end
end Go.Tidy
namespace Go.Tidy
open Go Go.Proofs Tab
variable {tp:TProg}
section
variable {s:Nat → ByteArray} {n:Nat → Int} {v1 v2:Nat → Value} {F:Nat → List Nat} {S:Nat → List (Int × Int)} {L:Nat → List Int} {C:Nat → List (Int × Bool)} {N:Nat} {m:Int}
set_option maxHeartbeats 8000000 in
set_option maxRecDepth 10000 in
theorem k56 (H:Has tp) {h:TH} {lb:Nat} (r:∀ k,RunH h (v1 k) (v2 k) (F k) (S k)) (V:∀ k,Valid (s k) (n k) (F k) (S k) (L k)) (hS:∀ k,(S k).length ≤ 900000) (hN:∀ k,(F k).length = N) (hC:C = fun k => cellsL (L k) (S k)) (sm:Samp lb m) (f:Free0 h.next h) :
    CallW Tryz.prog tp (.func (.func 56) #[] #[]) #[runs3 s n v1 v2,.float .f32 lb] h fun v h' => HX h h' ∧ ∃ w1 w2,v = .tuple #[runV (s 0) (n 0) w1 w2,.agg (cel3 (wrN m C N)).toArray] ∧ RunO h.next h' w1 w2 (madeF (levN m C N) (knwN m C N)) (holesOf (knwN m C N)):=by
  have N4:N ≤ 4096:=by rw [← hN 0]; exact (V 0).m
  have lim:∀ k c,c ∈ C k → c.1.natAbs ≤ 16384:=fun k c hc => by subst hC; exact cells_lim (V k).lev (S k) c hc
  refine CallW.fnL (H.fn 56 f56 rfl rfl) ?_
  refine WL.sr <| WOL.box rfl fun h1 N1 => ?_
  refine WOL.al tp46 fun h2 N2 => ?_
  refine WOL.al tp83 fun h3 N3 => WOL.nil <| keep [(1,_),(2,_),(4,_),(5,_)] ⟨rfl,rfl,rfl,rfl,trivial⟩ ?_
  have n1:=N1.next
  have n2:=N2.next
  have n3:=N3.next
  have X3:HX h h3:=(N1.hx.trans N2.hx).trans N3.hx
  have A2:At h3 h.next (.cells (cells12 s n v1 v2) true true 82):=(N1.at_.hx N2.hx).hx N3.hx
  have A4:=N2.at_.hx N3.hx
  have A5:=N3.at_
  refine WL.sr <| WOL.al tp83 fun h4 N4' => WOL.nil <| keep [(1,_),(2,_),(4,_),(5,_),(6,_)] ⟨rfl,rfl,rfl,rfl,rfl,trivial⟩ ?_
  have n4:=N4'.next
  refine WL.sr <| WOL.as rfl <| WOL.nil ?_
  refine WL.sr <| WOL.as rfl <| WOL.nil ?_
  refine WL.sr <| WOL.mv rfl ?_
  refine WOL.cl1 rfl rfl ((k95 H sm h4).mono ?_)
  rintro v g0 ⟨rfl,rfl⟩
  refine WOL.as rfl <| WOL.nil <| keep [(2,_),(4,_),(5,_),(6,_),(7,_),(8,_),(9,_)] ⟨rfl,rfl,rfl,rfl,rfl,rfl,rfl,trivial⟩ ?_
  have ff:Free0 h3.next h3:=f.on X3
  refine WL.seq <| WL.sr <| WOL.as rfl <| WOL.nil ?_
  refine WL.block ?_
  refine WL.loop (fun q a g => ∃ (i:Nat) (w7 w8:Value),i ≤ N ∧ q = N - i ∧ HX h3 g ∧ OwnL encI h3.next g w7 3 (levN m C i) ∧ OwnL encB h3.next g w8 4 (knwN m C i) ∧ At g h3.next (.cells (cel3 (wrN m C i)) true true 83) ∧ Kn [(2,ptr h.next),(4,ptr h1.next),(5,ptr h2.next),(6,ptr h3.next),(7,w7),(8,w8),(9,zi m),(10,zi (i:Nat))] a) N (fun a q => ⟨0,_,_,by omega,by omega,N4'.hx,OwnL.nil,OwnL.nil,N4'.at_,q.sub ⟨rfl,rfl,rfl,rfl,rfl,rfl,rfl,rfl,trivial⟩⟩) ?_
  rintro q a g ⟨i,w7,w8,hi,rfl,X1,O7,O8,A6,q⟩
  refine q.go ?_
  refine WL.seq <| WL.sr <| WOL.mv rfl <| WOL.ix rfl rfl (ix82 (k:=0) (by decide)) <| WOL.fa rfl (fa_of fo46_2) ?_
  refine WOL.ld rfl (load_one tp43 (A2.hx X1) rfl) ?_
  refine WOL.len rfl ((r 0).f.hx (X3.trans X1)) u43 ?_
  rw [hN 0]
  refine WOL.bi (v:=.bool (decide ((i:Int) < (N:Int)))) rfl rfl rfl <| WOL.nil <| keep [(2,_),(4,_),(5,_),(6,_),(7,_),(8,_),(9,_),(10,_),(24,_)] ⟨rfl,rfl,rfl,rfl,rfl,rfl,rfl,rfl,rfl,trivial⟩ ?_
  by_cases hlt:i < N
  · rw [show decide ((i:Int) < (N:Int)) = true by simpa using hlt]
    refine WL.yes rfl <| WL.skip ?_
    refine WL.seq <| WL.block ?_
    refine kto (k56h H (N:=N) (L:=L) (C:=C) (A2.hx X1) (fun k => (r k).hx (X3.trans X1)) V hS hN hC hlt (ff.on X1) ?_) ⟨rfl,rfl,rfl,rfl,rfl,rfl,rfl,rfl,trivial⟩
    intro g1 w Z1 O1
    have Y1:=X1.trans Z1
    have kl:=knownV_le (rowC C i)
    refine WL.sr <| WOL.mv rfl <| WOL.mv rfl ?_
    refine WOL.cl2 rfl rfl rfl ((k114 H (O1.sl eI) (by simpa [rowC] using kl) (knownV_all (p:=fun x => x.natAbs ≤ 16384) (row_lim lim i)) sm.lim).mono ?_)
    rintro v g2 ⟨rfl,Z2⟩
    have Y2:=Y1.trans Z2
    have O7:=O7.hx (Z1.trans Z2)
    have O8:=O8.hx (Z1.trans Z2)
    have A6:=A6.hx (Z1.trans Z2)
    refine WOL.mv rfl <| WOL.ex rfl rfl <| WOL.ex rfl rfl <| WOL.as rfl <| WOL.as rfl <| WOL.nil <| keep [(2,_),(4,_),(5,_),(6,_),(7,_),(8,_),(9,_),(10,_),(13,_),(14,_)] ⟨rfl,rfl,rfl,rfl,rfl,rfl,rfl,rfl,rfl,rfl,trivial⟩ ?_
    refine WL.sr <| WOL.mv rfl <| WOL.mv rfl ?_
    refine WOL.bs1 rfl u29 tp3 rfl fun g3 N5 => ?_
    have Y3:=Y2.trans N5.hx
    have l7:=levN_len (m:=m) (C:=C) i
    have l8:=knwN_len (m:=m) (C:=C) i
    obtain ⟨w7',g4,ap,P7,x4,k4,b4,t4⟩:=own_push (sT:=29) (x:=(voteL m C i).1) eI u29 tp3 (O7.hx N5.hx) (SlC.own (sz:=1) (m:=1) rfl N5.at_) (ff.hx Y3) (by omega) Y3.next
    refine WOL.ap rfl rfl ap <| WOL.mv rfl <| WOL.mv rfl ?_
    have Y4:=x4 h3 Y3 (Nat.le_refl _)
    have P8:OwnL encB h3.next g4 w8 4 (knwN m C i):=(O8.hx N5.hx).keep fun c y hc ha => k4 c y (own_ne (O8.hx N5.hx) (O7.hx N5.hx) (by decide) c hc) ha
    have P6:=k4 h3.next _ (own_at_ne (O7.hx N5.hx) (A6.hx N5.hx) (by decide)) (A6.hx N5.hx)
    refine WOL.bs1 rfl u145 tp4 rfl fun g5 N6 => ?_
    have Y5:=Y4.trans N6.hx
    obtain ⟨w8',g6,ap2,R8,x6,k6,b6,t6⟩:=own_push (sT:=145) (x:=(voteL m C i).2) eB u145 tp4 (P8.hx N6.hx) (SlC.own (sz:=1) (m:=1) rfl N6.at_) (ff.hx Y5) (by omega) Y5.next
    refine WOL.ap rfl rfl ap2 <| WOL.as rfl <| WOL.as rfl <| WOL.nil <| keep [(2,_),(4,_),(5,_),(6,_),(7,_),(8,_),(9,_),(10,_),(13,_),(14,_)] ⟨rfl,rfl,rfl,rfl,rfl,rfl,rfl,rfl,rfl,rfl,trivial⟩ ?_
    have Y6:=x6 h3 Y5 (Nat.le_refl _)
    have R7:OwnL encI h3.next g6 w7' 3 (levN m C i ++ [(voteL m C i).1]):=(P7.hx N6.hx).keep fun c y hc ha => k6 c y (own_ne (P7.hx N6.hx) (P8.hx N6.hx) (by decide) c hc) ha
    have R6:=k6 h3.next _ (own_at_ne (P8.hx N6.hx) (P6.hx N6.hx) (by decide)) (P6.hx N6.hx)
    rw [← levN_succ] at R7
    rw [← knwN_succ] at R8
    refine kto (k56w H (N:=N) (L:=L) (C:=C) Y6 A2 (fun k => (r k).hx X3) V hS hN hC hlt N4 lim ff R7 R8 R6 (Nat.le_refl _) ?_) ⟨rfl,rfl,rfl,rfl,rfl,rfl,rfl,rfl,rfl,rfl,trivial⟩
    intro g7 Y7 Q7 Q8 Q6
    refine WL.reg ?_
    refine WOL.mv rfl ?_
    refine WOL.bi (v:=zi ((i + 1:Nat):Int)) rfl rfl (by show some (Value.int .i64 (fwrap .i64 ((i:Int) + 1))) = _; rw [fwrap_i64 (by omega) (by omega)]; rfl) ?_
    refine WOL.as rfl <| WOL.nil ?_
    exact fun a q => ⟨N - (i + 1),by omega,i + 1,_,_,by omega,rfl,Y7,Q7,Q8,Q6,q.sub ⟨rfl,rfl,rfl,rfl,rfl,rfl,rfl,rfl,trivial⟩⟩
  · rw [show decide ((i:Int) < (N:Int)) = false by simpa using hlt]
    obtain rfl:i = N:=by omega
    refine WL.no rfl <| WL.exit ?_
    have Y1:=X3.trans X1
    have y1:=X1.next
    have lt6:=A6.lt
    refine WL.sr <| WOL.ix rfl rfl (ix82 (k:=0) (by decide)) <| WOL.fa rfl (fa_of fo46_0) ?_
    refine WOL.ld rfl (load_one tp9 (A2.hx X1) rfl) <| WOL.ix rfl rfl (ix82 (k:=0) (by decide)) <| WOL.fa rfl (fa_of fo46_1) ?_
    refine WOL.ld rfl (load_one tp3 (A2.hx X1) rfl) <| WOL.mv rfl <| WOL.mv rfl ?_
    refine WOL.ld rfl (load_row tp83 A6 rfl (Nat.le_of_ble_eq_true rfl)) ?_
    refine WOL.lq4 [h3.next] rfl rfl rfl rfl rfl rfl fun M hM => ((k97 H (s:=s 0) (n:=n 0) (L:=levN m C i) (K:=knwN m C i) ((O7.sl eI).relock M) ((O8.sl eB).relock M) (by rw [levN_len,knwN_len]) (fun l hl => by
      obtain ⟨j,_,rfl⟩:=List.mem_map.1 hl
      exact voteL_lim lim j) (by rw [levN_len]; omega) ((f.on Y1).held hM (fun b hb => by simp at hb; omega))).mono ?_)
    rintro v g2 ⟨w1,w2,rfl,X10,O10⟩
    replace X10:=X10.relock
    replace O10:=O10.relock' g.lock
    replace O10:RunO g.next (g2.withLock g.lock) w1 w2 (madeF (levN m C i) (knwN m C i)) (holesOf (knwN m C i)):=O10
    generalize g2.withLock g.lock = g2 at *
    have Y10:=Y1.trans X10
    obtain ⟨bo1,k1,rfl⟩:=O10.r.f.form
    obtain ⟨bo2,k2,rfl⟩:=O10.r.s.form
    refine WOL.stQ [h3.next] rfl rfl rfl tp46 ((A4.hx X1).hx X10) rfl rfl (Nat.le_of_ble_eq_true rfl) rfl (f.hx Y10) (by omega) (by simp; omega) fun h11 P11 => ?_
    refine WOL.sto rfl rfl tp83 (P11.oth h2.next _ (by omega) ((A5.hx X1).hx X10)) rfl rfl (Nat.le_of_ble_eq_true rfl) rfl (f.hx (P11.hx _ Y10 (by omega))) (by omega) fun h12 P12 => ?_
    refine WOL.nil ?_
    refine WL.ret (WL.endCC (t:=4) (s:=5) rfl rfl (load_row tp46 (P12.oth h1.next _ (by omega) P11.at_) rfl (Nat.le_of_ble_eq_true rfl)) (load_row tp83 P12.at_ rfl (Nat.le_of_ble_eq_true rfl)) ⟨P12.hx _ (P11.hx _ Y10 (by omega)) (by omega),_,_,rfl,((O10.away P11 (by omega)).away P12 (by omega)).le (by omega)⟩)
end
end Go.Tidy
namespace Go.Tidy
open Go Go.Proofs Tab
variable {tp:TProg}
theorem cond_self (y:Int):cond (y != 0) y 0 = y:=by
  by_cases h:y = 0
  · subst h; rfl
  · rw [show (y != 0) = true by simpa using h]; rfl
theorem firstNZ_join:∀ l l':List Int,firstNZ [firstNZ l,firstNZ l'] = firstNZ (l ++ l')
  | [],l' => by
    show cond (firstNZ l' != 0) (firstNZ l') 0 = _
    rw [cond_self]; rfl
  | x :: r,l' => by
    have ih:=firstNZ_join r l'
    show cond (cond (x != 0) x (firstNZ r) != 0) (cond (x != 0) x (firstNZ r)) (cond (firstNZ l' != 0) (firstNZ l') 0) = cond (x != 0) x (firstNZ (r ++ l'))
    cases hx:(x != 0) with
    | true => rw [cond_true,cond_true,hx]; rfl
    | false => rw [cond_false,cond_false,← ih]; rfl
theorem load_wide {P:Program} {h:TH} {t:TypeId} {b off n:Nat} {c l:List Value} {fix wr:Bool} {el:TypeId} (hi:(P.info? t).map (fun i => i.size) = some n) (hd:(P.underlying t).map isRow = some true) (hg:At h b (.cells c fix wr el)) (hl:(c.drop off).take n = l) (hn:off + n ≤ c.length):loadT P t (.pointer (some ⟨b,off,none⟩)) h = some (.agg l.toArray):=by
  rw [Option.map_eq_some_iff] at hi hd
  obtain ⟨inf,q1,q2⟩:=hi
  obtain ⟨d,q3,q4⟩:=hd
  have hb:Nat.ble (off + n) c.length = true:=by rw [Nat.ble_eq]; exact hn
  simp only [loadT,q3,q1,q4,Bool.cond_true,cellsAt,hg.get,q2,hb,hl,Option.map_some]
theorem w82:(Tryz.prog.info? 82).map (fun i => i.size) = some 12:=by kernel_rfl
theorem d82:(Tryz.prog.underlying 82).map isRow = some true:=by kernel_rfl
section
variable {s:Nat → ByteArray} {n:Nat → Int} {v1 v2:Nat → Value} {F:Nat → List Nat} {S:Nat → List (Int × Int)} {es L:Nat → List Int} {h:TH}
set_option maxHeartbeats 4000000 in
set_option maxRecDepth 10000 in
theorem k54 (H:Has tp) (r:∀ k,RunH h (v1 k) (v2 k) (F k) (S k)) (hE:∀ k,SErr (F k) (es k)) (hL:∀ k,firstNZ (es k) = 0 → Lev (F k) (L k)) (hF:∀ k,(F k).length ≤ 900000) (hS:∀ k,(S k).length ≤ 900000) :
    CallW Tryz.prog tp (.func (.func 54) #[] #[]) #[runs3 s n v1 v2] h fun v h' => v = zi (firstNZ [runE (s 0) (n 0) (F 0).length (S 0) (es 0) (L 0),runE (s 1) (n 1) (F 1).length (S 1) (es 1) (L 1),runE (s 2) (n 2) (F 2).length (S 2) (es 2) (L 2),cond (!shapeB (n 0) (F 0).length (n 1) (F 1).length || !shapeB (n 0) (F 0).length (n 2) (F 2).length) 2 0]) ∧ HX h h':=by
  refine CallW.fnL (H.fn 54 f54 rfl rfl) ?_
  refine WL.sr <| WOL.box rfl fun h1 N1 => WOL.as rfl <| WOL.nil <| keep [(1,_)] ⟨rfl,trivial⟩ ?_
  have A2:At h1 h.next (.cells (cells12 s n v1 v2) true true 82):=N1.at_
  have X1:=N1.hx
  refine WL.sr <| WOL.ix rfl rfl (ix82 (k:=0) (by decide)) ?_
  refine WOL.ld rfl (load_row tp46 A2 rfl (Nat.le_of_ble_eq_true rfl)) <| WOL.ix rfl rfl (ix82 (k:=1) (by decide)) ?_
  refine WOL.ld rfl (load_row tp46 A2 rfl (Nat.le_of_ble_eq_true rfl)) <| WOL.ix rfl rfl (ix82 (k:=2) (by decide)) ?_
  refine WOL.ld rfl (load_row tp46 A2 rfl (Nat.le_of_ble_eq_true rfl)) <| WOL.ix rfl rfl (ix82 (k:=0) (by decide)) ?_
  refine WOL.ld rfl (load_row tp46 A2 rfl (Nat.le_of_ble_eq_true rfl)) <| WOL.ix rfl rfl (ix82 (k:=1) (by decide)) ?_
  refine WOL.ld rfl (load_row tp46 A2 rfl (Nat.le_of_ble_eq_true rfl)) ?_
  refine WOL.lk1 rfl rfl fun M => ((k31 H (s:=s 0) (n:=n 0) (((r 0).hx X1).relock' M) (hE 0) (hL 0) (by have:=hF 0; omega) (by have:=hS 0; omega)).mono ?_)
  rintro v h4 ⟨rfl,X4⟩
  replace X4:=X4.relock
  generalize h4.withLock h1.lock = h4 at *
  have Y4:=X1.trans X4
  refine WOL.lk1 rfl rfl fun M => ((k31 H (s:=s 1) (n:=n 1) (((r 1).hx Y4).relock' M) (hE 1) (hL 1) (by have:=hF 1; omega) (by have:=hS 1; omega)).mono ?_)
  rintro v h5 ⟨rfl,X5⟩
  replace X5:=X5.relock
  generalize h5.withLock h4.lock = h5 at *
  have Y5:=Y4.trans X5
  refine WOL.lk1 rfl rfl fun M => ((k31 H (s:=s 2) (n:=n 2) (((r 2).hx Y5).relock' M) (hE 2) (hL 2) (by have:=hF 2; omega) (by have:=hS 2; omega)).mono ?_)
  rintro v h6 ⟨rfl,X6⟩
  replace X6:=X6.relock
  generalize h6.withLock h5.lock = h6 at *
  have Y6:=Y5.trans X6
  refine WOL.cl2 rfl rfl rfl ((k110 H (s:=s 0) (s':=s 1) (n:=n 0) (n':=n 1) ((r 0).f.hx Y6) ((r 1).f.hx Y6)).mono ?_)
  rintro v h7 ⟨rfl,X7⟩
  have Y7:=Y6.trans X7
  have Z7:=((X4.trans X5).trans X6).trans X7
  refine WOL.nt rfl <| WOL.mv rfl ?_
  have go:∀ g,HX h g → ∀ a,Kn [(5,zi (runE (s 0) (n 0) (F 0).length (S 0) (es 0) (L 0))),(8,zi (runE (s 1) (n 1) (F 1).length (S 1) (es 1) (L 1))),(11,zi (runE (s 2) (n 2) (F 2).length (S 2) (es 2) (L 2))),(25,.bool (!shapeB (n 0) (F 0).length (n 1) (F 1).length || !shapeB (n 0) (F 0).length (n 2) (F 2).length))] a → WO Tryz.prog tp (r54_1.drop 23) a g (fun a g => W Tryz.prog tp false .ret a g (Fin Tryz.prog [.tmp 2] fun v h' => v = zi (firstNZ [runE (s 0) (n 0) (F 0).length (S 0) (es 0) (L 0),runE (s 1) (n 1) (F 1).length (S 1) (es 1) (L 1),runE (s 2) (n 2) (F 2).length (S 2) (es 2) (L 2),cond (!shapeB (n 0) (F 0).length (n 1) (F 1).length || !shapeB (n 0) (F 0).length (n 2) (F 2).length) 2 0]) ∧ HX h h')):=by
    intro g Xg
    refine WOL.cl2 rfl rfl rfl ((k32 H _ _ _).mono ?_)
    rintro v g1 ⟨rfl,rfl⟩
    refine WOL.bsl rfl u29 tp3 (by decide) (by decide) (by decide) (filled_ints4 _ _ _ _) fun h8 N8 => ?_
    refine WOL.cl1 rfl rfl ((k13 H (l:=[_,_,_,_]) N8.at_.get (by simp)).mono ?_)
    rintro v h8 ⟨rfl,rfl⟩
    refine WOL.as rfl <| WOL.nil ?_
    exact WL.done rfl ⟨rfl,Xg.trans N8.hx⟩
  cases hsh:shapeB (n 0) (F 0).length (n 1) (F 1).length with
  | false =>
    rw [hsh] at go
    refine WOL.skp (b:=true) rfl rfl <| WOL.skp (b:=true) rfl rfl <| WOL.skp (b:=true) rfl rfl <| WOL.skp (b:=true) rfl rfl <| WOL.skp (b:=true) rfl rfl <| WOL.skp (b:=true) rfl rfl <| WOL.pkt rfl rfl ?_
    exact kto (go h7 Y7) ⟨rfl,rfl,rfl,rfl,trivial⟩
  | true =>
    rw [hsh] at go
    refine WOL.now (b:=false) rfl rfl <| WOL.ix rfl rfl (ix82 (k:=0) (by decide)) <| WOL.now (b:=false) rfl rfl ?_
    refine WOL.ld rfl (load_row tp46 (A2.hx Z7) rfl (Nat.le_of_ble_eq_true rfl)) <| WOL.now (b:=false) rfl rfl <| WOL.ix rfl rfl (ix82 (k:=2) (by decide)) <| WOL.now (b:=false) rfl rfl ?_
    refine WOL.ld rfl (load_row tp46 (A2.hx Z7) rfl (Nat.le_of_ble_eq_true rfl)) <| WOL.now (b:=false) rfl rfl ?_
    refine WOL.cl2 rfl rfl rfl ((k110 H (s:=s 0) (s':=s 2) (n:=n 0) (n':=n 2) ((r 0).f.hx Y7) ((r 2).f.hx Y7)).mono ?_)
    rintro v h8 ⟨rfl,X8⟩
    refine WOL.now (b:=false) rfl rfl <| WOL.nt rfl <| WOL.pkf rfl rfl ?_
    exact kto (go h8 (Y7.trans X8)) ⟨rfl,rfl,rfl,rfl,trivial⟩
end
theorem k55 (H:Has tp) {b:Nat} {e:Int} {h:TH} (eL:SampleE b e):CallW Tryz.prog tp (.func (.func 55) #[] #[]) #[.float .f32 b] h fun v h' => v = zi (firstNZ [e,cond (lt0 b) 3 0]) ∧ HX h h':=by
  refine CallW.fnL (H.fn 55 f55 rfl rfl) ?_
  refine WL.sr <| WOL.as rfl <| WOL.nil <| keep [(0,_)] ⟨rfl,trivial⟩ ?_
  refine WL.sr <| WOL.mv rfl ?_
  refine WOL.cl1 rfl rfl ((k22 H eL h).mono ?_)
  rintro v g ⟨rfl,rfl⟩
  refine WOL.mv rfl <| WOL.flz rfl rfl ?_
  refine WOL.cl2 rfl rfl rfl ((k32 H _ _ _).mono ?_)
  rintro v g1 ⟨rfl,rfl⟩
  refine WOL.bsl rfl u29 tp3 (by decide) (by decide) (by decide) (filled_ints _ _) fun h8 N8 => ?_
  refine WOL.cl1 rfl rfl ((k13 H (l:=[_,_]) N8.at_.get (by simp)).mono ?_)
  rintro v h8 ⟨rfl,rfl⟩
  refine WOL.as rfl <| WOL.nil ?_
  exact WL.done rfl ⟨rfl,N8.hx⟩
end Go.Tidy
namespace Go.Tidy
open Go Go.Proofs Tab
variable {tp:TProg}
def r7m:TCode:=(.seq (.reg r7_7) (.seq (.reg r7_8) (.seq (.reg r7_9) (.seq (.reg r7_10) (.seq (.seq (.reg r7_11) (.cond (.tmp 45) (.reg r7_12) .skip)) (.seq (.reg r7_13) .ret))))))
theorem c7_eq:c7 = .seq (.reg r7_0) (.seq (.seq (.reg r7_1) (.block 0 (.loop (.seq (.reg r7_2) (.seq (.cond (.tmp 15) .skip (.exit 0)) (.seq (.block 1 (.seq (.reg r7_3) (.seq (.reg r7_4) (.cond (.tmp 19) (.seq (.reg r7_5) .ret) .skip)))) (.reg r7_6))))))) r7m):=rfl
theorem bd86 {s0 s1 s2:ByteArray} {n0 n1 n2:Int} {a0 b0 a1 b1 a2 b2:Value}:buildT Tryz.prog 86 [(0,runV s0 n0 a0 b0),(1,runV s1 n1 a1 b1),(2,runV s2 n2 a2 b2)] = some (.agg #[.string s0,zi n0,a0,b0,.string s1,zi n1,a1,b1,.string s2,zi n2,a2,b2]):=by kernel_rfl
theorem WOL.idx {P:Program} {h:TH} {K:Regs → TH → Prop} {rest:List TOper} {d:Option Tmp} {ty:TypeId} {i:Nat} {x y:Operand} {t:TypeId} {L:Rg} {cs:Array Value} {k:IntKind} {z:Int} {v:Value} (hx:getL L x = some (.agg cs)) (hy:getL L y = some (.int k z)) (hv:indexT P t (.agg cs) (.int k z) = some v) (w:∀ a,Kn (putL L d v) a → WO P tp rest a h K):∀ a,Kn L a → WO P tp (⟨d,.index t x y,ty,none,[],i⟩ :: rest) a h K:=fun a q => by
  have ex:=getO_eval (q.o hx)
  have ey:=getO_eval (q.o hy)
  exact WO.op (h1:=h) rfl rfl (fun call => by simp [stepOp,heapFirst,fastOp,valueOp,ex,ey,hv]) (w _ (q.put d _))
theorem idx82 {s:Nat → ByteArray} {n:Nat → Int} {v1 v2:Nat → Value} {k:Nat} (hk:k < 3):indexT Tryz.prog 82 (.agg (cells12 s n v1 v2).toArray) (zi (k:Nat)) = some (runV (s k) (n k) (v1 k) (v2 k)):=by
  have e0:indexT Tryz.prog 82 (.agg (cells12 s n v1 v2).toArray) (zi 0) = some (runV (s 0) (n 0) (v1 0) (v2 0)):=by kernel_rfl
  have e1:indexT Tryz.prog 82 (.agg (cells12 s n v1 v2).toArray) (zi 1) = some (runV (s 1) (n 1) (v1 1) (v2 1)):=by kernel_rfl
  have e2:indexT Tryz.prog 82 (.agg (cells12 s n v1 v2).toArray) (zi 2) = some (runV (s 2) (n 2) (v1 2) (v2 2)):=by kernel_rfl
  obtain rfl | rfl | rfl:k = 0 ∨ k = 1 ∨ k = 2:=by omega
  · exact e0
  · exact e1
  · exact e2
set_option maxRecDepth 10000 in
theorem k7z (H:Has tp) (A:Awk tp) {g:TH} {c7 c8 c11 c12:Nat} {E na nb a b c:Int} {sa sb:ByteArray} {x1 x2 y1 y2:Value} (A7:At g c7 (.cells (runV sa na x1 x2).cells.toList true true 52)) (A8:At g c8 (.cells [zi a,zi b,zi c] true true 83)) (A11:At g c11 (.cells (runV sb nb y1 y2).cells.toList true true 46)) (A12:At g c12 (.cells [zi a,zi b,zi c] true true 83))
    (h42:CallW Tryz.prog tp (.func (.func 42) #[] #[]) #[runV sa na x1 x2,zi E,zi E,runV sb nb y1 y2] g fun v h' => v = .bool true ∧ HX g h') :
    ∀ r,Kn [(7,ptr c7),(8,ptr c8),(9,zi E),(10,zi E),(11,ptr c11),(12,ptr c12)] r → W Tryz.prog tp false (.seq (.reg r7_13) .ret) r g (Fin Tryz.prog [.tmp 4] fun v _ => v = .bool true):=by
  refine WL.sr ?_
  refine WOL.ld rfl (load_row tp52 A7 rfl (Nat.le_of_ble_eq_true rfl)) <| WOL.mv rfl <| WOL.mv rfl ?_
  refine WOL.ld rfl (load_row tp46 A11 rfl (Nat.le_of_ble_eq_true rfl)) ?_
  refine WOL.cl4 rfl rfl rfl rfl rfl (h42.mono ?_)
  rintro v h1 ⟨rfl,X1⟩
  refine WOL.mv rfl <| WOL.now (b:=true) rfl rfl ?_
  refine WOL.ld rfl (load_row tp83 (A8.hx X1) rfl (Nat.le_of_ble_eq_true rfl)) <| WOL.now (b:=true) rfl rfl ?_
  refine WOL.ld rfl (load_row tp83 (A12.hx X1) rfl (Nat.le_of_ble_eq_true rfl)) <| WOL.now (b:=true) rfl rfl ?_
  refine WOL.eq83 (a:=a) (b:=b) (c:=c) rfl rfl <| WOL.pkt rfl rfl <| WOL.mv rfl <| WOL.now (b:=true) rfl rfl ?_
  refine WOL.cl0 rfl ((k11 A h1).mono ?_)
  rintro v h2 ⟨rfl,rfl⟩
  refine WOL.pkt rfl rfl <| WOL.as rfl <| WOL.nil ?_
  exact WL.done rfl rfl
def Tail3 (s:Nat → ByteArray) (n:Nat → Int) (F:Nat → List Nat) (S:Nat → List (Int × Int)) (es L:Nat → List Int):Prop:=∀ k,2 ≤ k → s k = s 2 ∧ n k = n 2 ∧ F k = F 2 ∧ S k = S 2 ∧ es k = es 2 ∧ L k = L 2
section
variable {s:Nat → ByteArray} {n:Nat → Int} {v1 v2:Nat → Value} {F:Nat → List Nat} {S:Nat → List (Int × Int)} {es L:Nat → List Int} {h:TH} {lb:Nat} {el:Int}
theorem Tail3.some (t:Tail3 s n F S es L):∀ k,∃ j,j < 3 ∧ s k = s j ∧ n k = n j ∧ F k = F j ∧ S k = S j ∧ es k = es j ∧ L k = L j:=by
  intro k
  by_cases h0:k = 0
  · subst h0; exact ⟨0,by decide,rfl,rfl,rfl,rfl,rfl,rfl⟩
  · by_cases h1:k = 1
    · subst h1; exact ⟨1,by decide,rfl,rfl,rfl,rfl,rfl,rfl⟩
    · exact ⟨2,by decide,t k (by omega)⟩
theorem three_valid (t:Tail3 s n F S es L) (hL:∀ k,firstNZ (es k) = 0 → Lev (F k) (L k)) (hEE:voteE (fun k => runE (s k) (n k) (F k).length (S k) (es k) (L k)) n (fun k => (F k).length) el lb = 0):(∀ k,Valid (s k) (n k) (F k) (S k) (L k)) ∧ ∀ k,(F k).length = (F 0).length:=by
  have z:=firstNZ_zero hEE
  have e0:=z _ (List.mem_cons_self ..)
  have e1:=z _ (List.mem_cons_of_mem _ (List.mem_cons_self ..))
  have e2:=z _ (List.mem_cons_of_mem _ (List.mem_cons_of_mem _ (List.mem_cons_self ..)))
  have e3:=z _ (List.mem_cons_of_mem _ (List.mem_cons_of_mem _ (List.mem_cons_of_mem _ (List.mem_cons_self ..))))
  have ek:∀ k,runE (s k) (n k) (F k).length (S k) (es k) (L k) = 0:=by
    intro k
    obtain ⟨j,hj,q1,q2,q3,q4,q5,q6⟩:=t.some k
    rw [q1,q2,q3,q4,q5,q6]
    obtain rfl | rfl | rfl:j = 0 ∨ j = 1 ∨ j = 2:=by omega
    · exact e0
    · exact e1
    · exact e2
  have sh:(F 1).length = (F 0).length ∧ (F 2).length = (F 0).length:=by
    have e3:cond (!shapeB (n 0) (F 0).length (n 1) (F 1).length || !shapeB (n 0) (F 0).length (n 2) (F 2).length) (2:Int) 0 = 0:=e3
    cases g1:shapeB (n 0) (F 0).length (n 1) (F 1).length with
    | false => rw [g1] at e3; cases e3
    | true =>
      cases g2:shapeB (n 0) (F 0).length (n 2) (F 2).length with
      | false => rw [g1,g2] at e3; cases e3
      | true =>
        unfold shapeB at g1 g2
        simp at g1 g2
        omega
  refine ⟨fun k => valid_of (hL k) (ek k),fun k => ?_⟩
  obtain ⟨j,hj,q1,q2,q3,q4,q5,q6⟩:=t.some k
  rw [q3]
  obtain rfl | rfl | rfl:j = 0 ∨ j = 1 ∨ j = 2:=by omega
  · rfl
  · exact sh.1
  · exact sh.2
set_option maxHeartbeats 4000000 in
set_option maxRecDepth 10000 in
theorem k7n (H:Has tp) (r:∀ k,RunH h (v1 k) (v2 k) (F k) (S k)) (hE:∀ k,SErr (F k) (es k)) (hL:∀ k,firstNZ (es k) = 0 → Lev (F k) (L k)) (hF:∀ k,(F k).length ≤ 900000) (hS:∀ k,(S k).length ≤ 900000) (eL:SampleE lb el) {g:TH} {c2:Nat} (Y:HX h g) (A2:At g c2 (.cells (cells12 s n v1 v2) true true 82))
    {E e:Int} {p7 p8:Value} (hEE:voteE (fun k => runE (s k) (n k) (F k).length (S k) (es k) (L k)) n (fun k => (F k).length) el lb = E) {rest:TCode} {Q:Exit → Regs → TH → Prop}
    (K:∀ g' c11 c12,HX g g' → At g' c11 (.cells [.string ⟨#[]⟩,.int .i64 0,.slice none 0 0,.slice none 0 0] true true 46) → At g' c12 (.cells [zi 0,zi 0,zi 0] true true 83) → g.next ≤ c11 → c11 < c12 → ∀ a,Kn [(1,.float .f32 lb),(2,ptr c2),(7,p7),(8,p8),(9,zi e),(10,zi E),(11,ptr c11),(12,ptr c12)] a → W Tryz.prog tp false rest a g' Q) :
    ∀ a,Kn [(1,.float .f32 lb),(2,ptr c2),(7,p7),(8,p8),(9,zi e)] a → W Tryz.prog tp false (.seq (.reg r7_8) (.seq (.reg r7_9) (.seq (.reg r7_10) rest))) a g Q:=by
  refine WL.sr ?_
  refine WOL.ld rfl (load_wide w82 d82 A2 rfl (Nat.le_of_ble_eq_true rfl)) ?_
  refine WOL.cl1 rfl rfl ((k54 H (s:=s) (n:=n) (v1:=v1) (v2:=v2) (fun k => (r k).hx Y) hE hL hF hS).mono ?_)
  rintro v h1 ⟨rfl,X1⟩
  refine WOL.mv rfl ?_
  refine WOL.cl1 rfl rfl ((k55 H eL).mono ?_)
  rintro v h2 ⟨rfl,X2⟩
  refine WOL.bsl rfl u29 tp3 (by decide) (by decide) (by decide) (filled_ints _ _) fun h3 N3 => ?_
  refine WOL.cl1 rfl rfl ((k13 H (l:=[_,_]) N3.at_.get (by simp)).mono ?_)
  rintro v h3 ⟨rfl,rfl⟩
  have X3:=(X1.trans X2).trans N3.hx
  rw [firstNZ_join]
  refine WOL.as rfl <| WOL.nil <| keep [(1,_),(2,_),(7,_),(8,_),(9,_),(10,_)] ⟨rfl,rfl,rfl,rfl,rfl,rfl,trivial⟩ ?_
  refine WL.sr <| WOL.al tp46 fun h4 N4 => WOL.nil <| keep [(1,_),(2,_),(7,_),(8,_),(9,_),(10,_),(11,_)] ⟨rfl,rfl,rfl,rfl,rfl,rfl,rfl,trivial⟩ ?_
  refine WL.sr <| WOL.al tp83 fun h5 N5 => WOL.nil <| keep [(1,_),(2,_),(7,_),(8,_),(9,_),(10,_),(11,_),(12,_)] ⟨rfl,rfl,rfl,rfl,rfl,rfl,rfl,rfl,trivial⟩ ?_
  have x3:=X3.next
  have n4:=N4.next
  refine kto (K h5 h3.next h4.next ((X3.trans N4.hx).trans N5.hx) (N4.at_.hx N5.hx) N5.at_ (by omega) (by omega)) ?_
  rw [← hEE]
  exact ⟨rfl,rfl,rfl,rfl,rfl,rfl,rfl,rfl,trivial⟩
set_option maxHeartbeats 8000000 in
set_option maxRecDepth 10000 in
theorem k7m (H:Has tp) (X:HasX tp) (A:Awk tp) (t:Tail3 s n F S es L) (r:∀ k,RunH h (v1 k) (v2 k) (F k) (S k)) (hE:∀ k,SErr (F k) (es k)) (hL:∀ k,firstNZ (es k) = 0 → Lev (F k) (L k)) (hF:∀ k,(F k).length ≤ 900000) (hS:∀ k,(S k).length ≤ 900000) (eL:SampleE lb el) {g:TH} {c2:Nat} (f:Free0 h.next h) (Y:HX h g) (A2:At g c2 (.cells (cells12 s n v1 v2) true true 82)) (hc2:h.next ≤ c2) :
    ∀ a,Kn [(1,.float .f32 lb),(2,ptr c2)] a → W Tryz.prog tp false r7m a g (Fin Tryz.prog [.tmp 4] fun v _ => v = .bool true):=by
  have lt2:=A2.lt
  unfold r7m
  refine WL.sr <| WOL.ix rfl rfl (ix82 (k:=0) (by decide)) ?_
  refine WOL.ld rfl (load_row tp46 A2 rfl (Nat.le_of_ble_eq_true rfl)) <| WOL.ix rfl rfl (ix82 (k:=1) (by decide)) ?_
  refine WOL.ld rfl (load_row tp46 A2 rfl (Nat.le_of_ble_eq_true rfl)) <| WOL.ix rfl rfl (ix82 (k:=2) (by decide)) ?_
  refine WOL.ld rfl (load_row tp46 A2 rfl (Nat.le_of_ble_eq_true rfl)) <| WOL.mv rfl ?_
  refine WOL.al tp52 fun h1 N1 => ?_
  refine WOL.al tp83 fun h2 N2 => ?_
  have n1:=N1.next
  have n2:=N2.next
  have Y2:=(Y.trans N1.hx).trans N2.hx
  have y0:=Y.next
  refine WOL.lq1 [h1.next,g.next,c2,c2] rfl rfl rfl fun M hM => ((k25 H (s:=s 0) (n:=n 0) (((r 0).hx Y2).relock' M) (by have:=hF 0; omega) (by have:=hS 0; omega) ((f.on Y2).held hM (fun b hb => by simp at hb; omega))).mono ?_)
  rintro v h3 ⟨a0,b0,rfl,X3,O3⟩
  replace X3:=X3.relock
  replace O3:=O3.relock' h2.lock
  generalize h3.withLock h2.lock = h3 at *
  have Y3:=Y2.trans X3
  have y3:=X3.next
  refine WOL.lq1 [h1.next,g.next,c2] rfl rfl rfl fun M hM => ((k25 H (s:=s 1) (n:=n 1) (((r 1).hx Y3).relock' M) (by have:=hF 1; omega) (by have:=hS 1; omega) ((f.on Y3).held hM (fun b hb => by simp at hb; omega))).mono ?_)
  rintro v h4 ⟨a1,b1,rfl,X4,O4⟩
  replace X4:=X4.relock
  replace O4:=O4.relock' h3.lock
  generalize h4.withLock h3.lock = h4 at *
  have Y4:=Y3.trans X4
  have y4:=X4.next
  refine WOL.lq1 [h1.next,g.next] rfl rfl rfl fun M hM => ((k25 H (s:=s 2) (n:=n 2) (((r 2).hx Y4).relock' M) (by have:=hF 2; omega) (by have:=hS 2; omega) ((f.on Y4).held hM (fun b hb => by simp at hb; omega))).mono ?_)
  rintro v h5 ⟨a2,b2,rfl,X5,O5⟩
  replace X5:=X5.relock
  replace O5:=O5.relock' h4.lock
  generalize h5.withLock h4.lock = h5 at *
  have Y5:=Y4.trans X5
  have y5:=X5.next
  have Z5:=(X3.trans X4).trans X5
  refine WOL.bd rfl bd86 ?_
  obtain ⟨E,hEE⟩:∃ E,voteE (fun k => runE (s k) (n k) (F k).length (S k) (es k) (L k)) n (fun k => (F k).length) el lb = E:=⟨_,rfl⟩
  obtain ⟨u1,u2,q10,q11,q12,q20,q21,q22,rr⟩:∃ u1 u2:Nat → Value,u1 0 = a0 ∧ u1 1 = a1 ∧ u1 2 = a2 ∧ u2 0 = b0 ∧ u2 1 = b1 ∧ u2 2 = b2 ∧ ∀ k,RunH h5 (u1 k) (u2 k) (F k) (S k):=by
    refine ⟨fun k => match k with | 0 => a0 | 1 => a1 | _ => a2,fun k => match k with | 0 => b0 | 1 => b1 | _ => b2,rfl,rfl,rfl,rfl,rfl,rfl,fun k => ?_⟩
    match k with
    | 0 => exact (O3.r.hx X4).hx X5
    | 1 => exact O4.r.hx X5
    | k + 2 =>
      obtain ⟨_,_,e3,e4,_⟩:=t (k + 2) (by omega)
      rw [e3,e4]
      exact O5.r
  rw [← q10,← q11,← q12,← q20,← q21,← q22]
  refine WOL.lq2 [h1.next,g.next] rfl rfl rfl rfl fun M hM => ((k53 H X (s:=s) (n:=n) (v1:=u1) (v2:=u2) (fun k => (rr k).relock' M) hE hL hF hS eL ((f.on Y5).held hM (fun b hb => by simp at hb; omega)) t.some hEE).mono ?_)
  rintro v h6 ⟨X6,R6⟩
  replace X6:=X6.relock
  have R6':(E ≠ 0 ∧ v = Value.tuple #[run0,.agg #[zi 0,zi 0,zi 0],zi E]) ∨ (E = 0 ∧ ∃ m w1 w2,Samp lb m ∧ v = Value.tuple #[runV (s 0) (n 0) w1 w2,.agg (cel3 (wrN m (fun k => cellsL (L k) (S k)) (F 0).length)).toArray,zi 0] ∧ RunO h5.next (h6.withLock h5.lock) w1 w2 ((votesC m (fun k => cellsL (L k) (S k)) (F 0).length).map fun c:Int × Bool => smp c.1) (holesOf ((votesC m (fun k => cellsL (L k) (S k)) (F 0).length).map fun c:Int × Bool => c.2))) :=
    R6.imp id fun ⟨e,m,w1,w2,sm,e2,O⟩ => ⟨e,m,w1,w2,sm,e2,O.relock' h5.lock⟩
  clear R6
  generalize h6.withLock h5.lock = h6 at *
  have Y6:=Y5.trans X6
  have Z6:=Z5.trans X6
  have B2:=((A2.hx N1.hx).hx N2.hx).hx Z6
  have B7:=(N1.at_.hx N2.hx).hx Z6
  have B8:=N2.at_.hx Z6
  have y6:=X6.next
  rcases R6' with ⟨hE0,rfl⟩ | ⟨rfl,m,w1,w2,sm,rfl,O6⟩
  · refine WOL.mv rfl <| WOL.ex rfl rfl <| WOL.ex rfl rfl <| WOL.ex rfl rfl ?_
    refine WOL.sto rfl rfl tp52 B7 rfl rfl (Nat.le_of_ble_eq_true rfl) rfl (f.hx Y6) y0 fun h7 P7 => ?_
    refine WOL.sto rfl rfl tp83 (P7.oth h1.next _ (by omega) B8) rfl rfl (Nat.le_of_ble_eq_true rfl) rfl (f.hx (P7.hx _ Y6 y0)) (by omega) fun h8 P8 => ?_
    have Y8:=P8.hx _ (P7.hx _ Y6 y0) (by omega)
    have D7:=P8.oth g.next _ (by omega) P7.at_
    have D8:=P8.at_
    have D2:=P8.oth c2 _ (by omega) (P7.oth c2 _ (by omega) B2)
    refine WOL.as rfl <| WOL.nil <| keep [(1,_),(2,_),(7,_),(8,_),(9,_)] ⟨rfl,rfl,rfl,rfl,rfl,trivial⟩ ?_
    refine k7n H r hE hL hF hS eL Y8 D2 hEE fun g' c11 c12 X9 A11 A12 h11 h12 => ?_
    refine WL.seq <| WL.sr <| WOL.mv rfl <| WOL.bi (v:=.bool false) rfl rfl (by show some (Value.bool (decide (E = 0))) = _; rw [decide_eq_false hE0]) <| WOL.nil <| keep [(7,_),(8,_),(9,_),(10,_),(11,_),(12,_),(45,_)] ⟨rfl,rfl,rfl,rfl,rfl,rfl,rfl,trivial⟩ ?_
    refine WL.no rfl <| WL.skip ?_
    exact kto (k7z H A (E:=E) (D7.hx X9) (D8.hx X9) A11 A12 (k42e H hE0 rfl (f.on (Y8.trans X9)))) ⟨rfl,rfl,rfl,rfl,rfl,rfl,trivial⟩
  · obtain ⟨V,hN⟩:=three_valid t hL hEE
    obtain ⟨bo1,k1,rfl⟩:=O6.r.f.form
    obtain ⟨bo2,k2,rfl⟩:=O6.r.s.form
    refine WOL.mv rfl <| WOL.ex rfl rfl <| WOL.ex rfl rfl <| WOL.ex rfl rfl ?_
    refine WOL.sto rfl rfl tp52 B7 rfl rfl (Nat.le_of_ble_eq_true rfl) rfl (f.hx Y6) y0 fun h7 P7 => ?_
    refine WOL.sto rfl rfl tp83 (P7.oth h1.next _ (by omega) B8) rfl rfl (Nat.le_of_ble_eq_true rfl) rfl (f.hx (P7.hx _ Y6 y0)) (by omega) fun h8 P8 => ?_
    have Y8:=P8.hx _ (P7.hx _ Y6 y0) (by omega)
    have D7:=P8.oth g.next _ (by omega) P7.at_
    have D8:=P8.at_
    have D2:=P8.oth c2 _ (by omega) (P7.oth c2 _ (by omega) B2)
    have O8:=(O6.away P7 (by omega)).away P8 (by omega)
    refine WOL.as rfl <| WOL.nil <| keep [(1,_),(2,_),(7,_),(8,_),(9,_)] ⟨rfl,rfl,rfl,rfl,rfl,trivial⟩ ?_
    refine k7n H r hE hL hF hS eL Y8 D2 hEE fun g' c11 c12 X9 A11 A12 h11 h12 => ?_
    have Y9:=Y8.trans X9
    have y8:=Y8.next
    refine WL.seq <| WL.sr <| WOL.mv rfl <| WOL.bi (v:=.bool true) rfl rfl rfl <| WOL.nil <| keep [(1,_),(2,_),(7,_),(8,_),(9,_),(10,_),(11,_),(12,_),(45,_)] ⟨rfl,rfl,rfl,rfl,rfl,rfl,rfl,rfl,rfl,trivial⟩ ?_
    refine WL.yes rfl <| WL.reg ?_
    refine WOL.ld rfl (load_wide w82 d82 (D2.hx X9) rfl (Nat.le_of_ble_eq_true rfl)) <| WOL.mv rfl ?_
    have hc:=votes_cells (m:=m) (C:=fun k => cellsL (L k) (S k)) (F 0).length
    have lm:∀ c,c ∈ votesC m (fun k => cellsL (L k) (S k)) (F 0).length → c.1.natAbs ≤ 16384:=votesC_lim fun k c hc => cells_lim (V k).lev (S k) c hc
    have hl:=votesC_len (m:=m) (C:=fun k => cellsL (L k) (S k)) (N:=(F 0).length)
    have e1:madeF (levN m (fun k => cellsL (L k) (S k)) (F 0).length) (knwN m (fun k => cellsL (L k) (S k)) (F 0).length) = (votesC m (fun k => cellsL (L k) (S k)) (F 0).length).map fun c => smp c.1:=by rw [hc]; rfl
    have e2:knwN m (fun k => cellsL (L k) (S k)) (F 0).length = (votesC m (fun k => cellsL (L k) (S k)) (F 0).length).map fun c => c.2:=by rw [hc,cellsK_snd (by rw [knwN_len,levN_len])]
    refine WOL.cl2 rfl rfl rfl ((k56 H (s:=s) (n:=n) (v1:=v1) (v2:=v2) (L:=L) (fun k => (r k).hx Y9) V hS hN rfl sm (f.on Y9)).mono ?_)
    rintro v h9 ⟨X10,x1,x2,rfl,O10⟩
    rw [e1,e2] at O10
    have Y10:=Y9.trans X10
    obtain ⟨bo3,k3,rfl⟩:=O10.r.f.form
    obtain ⟨bo4,k4,rfl⟩:=O10.r.s.form
    have l11:=A11.lt
    have l12:=A12.lt
    refine WOL.mv rfl <| WOL.ex rfl rfl <| WOL.ex rfl rfl ?_
    refine WOL.sto rfl rfl tp46 (A11.hx X10) rfl rfl (Nat.le_of_ble_eq_true rfl) rfl (f.hx Y10) (by omega) fun h10 Q1 => ?_
    refine WOL.sto rfl rfl tp83 (Q1.oth c12 _ (by omega) (A12.hx X10)) rfl rfl (Nat.le_of_ble_eq_true rfl) rfl (f.hx (Q1.hx _ Y10 (by omega))) (by omega) fun h11' Q2 => ?_
    have G1:=Q1.hx _ (X9.trans X10) h11
    have G2:=Q2.hx _ G1 (by omega)
    have O11:=(O10.away Q1 (by omega)).away Q2 (by omega)
    have O8':=O8.hx G2
    refine WOL.nil ?_
    have f0:=hF 0
    have hh:=holesN_len ((votesC m (fun k => cellsL (L k) (S k)) (F 0).length).map fun c => c.2) ((votesC m (fun k => cellsL (L k) (S k)) (F 0).length).map fun c => c.2).length
    generalize votesC m (fun k => cellsL (L k) (S k)) (F 0).length = VC at *
    have hh:(holesOf (VC.map fun c => c.2)).length ≤ (VC.map fun c => c.2).length:=hh
    rw [List.length_map] at hh
    refine kto (k7z H A (E:=0) (D7.hx G2) (D8.hx G2) (Q2.oth c11 _ (by omega) Q1.at_) Q2.at_ ?_) ⟨rfl,rfl,rfl,rfl,rfl,rfl,trivial⟩
    exact k42 H O8'.r.f O11.r.f (lev_smp lm) (lev_smp lm) O8'.r.s O11.r.s (by rw [List.length_map]; omega) (by omega)
end
end Go.Tidy
namespace Go.Tidy
open Go Go.Proofs Tab
variable {tp:TProg}
def three {α:Type} (a b c:α) (k:Nat):α:=match k with | 0 => a | 1 => b | _ => c
theorem three_two {α:Type} {a b c:α}:∀ k,2 ≤ k → three a b c k = c
  | 0,h => by omega
  | 1,h => by omega
  | _ + 2,_ => rfl
theorem three_all {p:Nat → Prop} (h0:p 0) (h1:p 1) (h2:∀ k,p (k + 2)):∀ k,p k
  | 0 => h0
  | 1 => h1
  | k + 2 => h2 k
section
variable {s:Nat → ByteArray} {n:Nat → Int} {v1 v2:Nat → Value} {F:Nat → List Nat} {S:Nat → List (Int × Int)} {es L:Nat → List Int} {h:TH} {lb:Nat} {el:Int}
set_option maxHeartbeats 4000000 in
set_option maxRecDepth 100000 in
theorem k7all (H:Has tp) (X:HasX tp) (A:Awk tp) (t:Tail3 s n F S es L) (r:∀ k,RunH h (v1 k) (v2 k) (F k) (S k)) (hE:∀ k,SErr (F k) (es k)) (hL:∀ k,firstNZ (es k) = 0 → Lev (F k) (L k)) (eL:SampleE lb el) (f:Free0 h.next h) :
    CallW Tryz.prog tp (.func (.func 7) #[] #[]) #[.agg (cells12 s n v1 v2).toArray,.float .f32 lb] h fun v _ => v = .bool true:=by
  refine CallW.fnL (H.fn 7 f7 rfl rfl) ?_
  show ∀ a,Kn _ a → W Tryz.prog tp false c7 a h _
  rw [c7_eq]
  refine WL.sr <| WOL.box rfl fun h1 N1 => WOL.as rfl <| WOL.nil <| keep [(1,_),(2,_)] ⟨rfl,rfl,trivial⟩ ?_
  have A2:At h1 h.next (.cells (cells12 s n v1 v2) true true 82):=N1.at_
  refine WL.seq <| WL.sr ?_
  refine WOL.ld rfl (load_wide w82 d82 A2 rfl (Nat.le_of_ble_eq_true rfl)) <| WOL.mv rfl <| WOL.nil ?_
  refine WL.block ?_
  refine WL.loop (fun q a g => ∃ k:Nat,k ≤ 3 ∧ q = 3 - k ∧ HX h1 g ∧ (∀ j,j < k → shortB (s j) (F j).length (S j).length = true) ∧ Kn [(1,.float .f32 lb),(2,ptr h.next),(13,.agg (cells12 s n v1 v2).toArray),(14,zi (k:Nat))] a) 3 (fun a q => ⟨0,by omega,by omega,HX.refl _,fun j hj => absurd hj (by omega),q.sub ⟨rfl,rfl,rfl,rfl,trivial⟩⟩) ?_
  rintro q a g ⟨k,hk,rfl,X1,hs,q⟩
  refine q.go ?_
  refine WL.sr <| WOL.bi (v:=.bool (decide ((k:Int) < 3))) rfl rfl rfl <| WOL.nil <| keep [(1,_),(2,_),(13,_),(14,_),(15,_)] ⟨rfl,rfl,rfl,rfl,rfl,trivial⟩ ?_
  refine WL.seq ?_
  by_cases hk3:k < 3
  · rw [show decide ((k:Int) < 3) = true from decide_eq_true (by omega)]
    have Y1:=N1.hx.trans X1
    refine WL.yes rfl <| WL.skip ?_
    refine WL.seq <| WL.block ?_
    obtain ⟨bv1,kv1,ev1⟩:=(r k).f.form
    obtain ⟨bv2,kv2,ev2⟩:=(r k).s.form
    refine WL.sr <| WOL.idx rfl rfl (idx82 hk3) ?_
    refine WOL.al tp46 fun h3 N3 => ?_
    have Y3:=Y1.trans N3.hx
    rw [ev1,ev2]
    refine WOL.sto rfl rfl tp46 N3.at_ rfl rfl (Nat.le_of_ble_eq_true rfl) rfl (f.hx Y3) (by have:=Y1.next; omega) fun h4 P4 => ?_
    have Y4:=P4.hx _ Y3 (by have:=Y1.next; omega)
    have Z4:=P4.hx _ (X1.trans N3.hx) (by have:=X1.next; omega)
    refine WOL.nil <| keep [(1,_),(2,_),(6,_),(13,_),(14,_)] ⟨rfl,rfl,rfl,rfl,rfl,trivial⟩ ?_
    refine WL.sr ?_
    refine WOL.ld rfl (load_row tp46 P4.at_ rfl (Nat.le_of_ble_eq_true rfl)) ?_
    refine WOL.cl1 rfl rfl ((k23 H (s:=s k) (n:=n k) (by rw [← ev1]; exact (r k).f.hx Y4) (by rw [← ev2]; exact (r k).s.hx Y4)).mono ?_)
    rintro v h5 ⟨rfl,X5⟩
    refine WOL.nt rfl <| WOL.nil <| keep [(1,_),(2,_),(13,_),(14,_),(19,_)] ⟨rfl,rfl,rfl,rfl,rfl,trivial⟩ ?_
    cases hb:shortB (s k) (F k).length (S k).length with
    | false =>
      refine WL.yes rfl <| WL.sr <| WOL.cl0 rfl ((k11 A h5).mono ?_)
      rintro v h6 ⟨rfl,rfl⟩
      refine WOL.as rfl <| WOL.nil ?_
      exact WL.ret (WL.end_ rfl rfl)
    | true =>
      refine WL.no rfl <| WL.skip ?_
      refine WL.reg ?_
      refine WOL.bi (v:=zi ((k + 1:Nat):Int)) rfl rfl (by show some (Value.int .i64 (fwrap .i64 ((k:Int) + 1))) = _; rw [fwrap_i64 (by omega) (by omega)]; rfl) ?_
      refine WOL.mv rfl <| WOL.nil ?_
      exact fun a q => ⟨3 - (k + 1),by omega,k + 1,by omega,rfl,Z4.trans X5,fun j hj => by
        by_cases hjk:j = k
        · subst hjk; exact hb
        · exact hs j (by omega),q.sub ⟨rfl,rfl,rfl,rfl,trivial⟩⟩
  · rw [show decide ((k:Int) < 3) = false from decide_eq_false (by omega)]
    obtain rfl:k = 3:=by omega
    have small:∀ k,(F k).length ≤ 900000 ∧ (S k).length ≤ 900000:=by
      intro k
      obtain ⟨j,hj,q1,q2,q3,q4,_⟩:=t.some k
      rw [q3,q4]
      have:=short_small (hs j hj)
      omega
    refine WL.no rfl <| WL.exit ?_
    exact kto (k7m H X A t r hE hL (fun k => (small k).1) (fun k => (small k).2) eL f (N1.hx.trans X1) (A2.hx X1) (Nat.le_refl _)) ⟨rfl,rfl,trivial⟩
end
attribute [local irreducible] Ty valOf
theorem u82:Tryz.prog.underlying 82 = some (.array 3 46):=by kernel_rfl
theorem ty_runs3 {h:TH} {n:Nat} {ps:List Value} (y:Ty Tryz.prog h (n + 5) 82 ps):∃ (s:Nat → ByteArray) (z:Nat → Int) (v1 v2:Nat → Value) (F:Nat → List Nat) (S:Nat → List (Int × Int)) (es L:Nat → List Int),ps = cells12 s z v1 v2 ∧ Tail3 s z F S es L ∧ (∀ k,RunH h (v1 k) (v2 k) (F k) (S k)) ∧ (∀ k,SErr (F k) (es k)) ∧ ∀ k,firstNZ (es k) = 0 → Lev (F k) (L k):=by
  obtain ⟨p,q,rfl,_,y1,p',q',rfl,_,y2,p3,q3,rfl,_,y3,rfl⟩:=tyg_array u82 y
  obtain ⟨s0,z0,a0,b0,F0,S0,rfl,r0⟩:=ty_run y1
  obtain ⟨s1,z1,a1,b1,F1,S1,rfl,r1⟩:=ty_run y2
  obtain ⟨s2,z2,a2,b2,F2,S2,rfl,r2⟩:=ty_run y3
  obtain ⟨e0,L0,g0,l0⟩:=lev_some F0
  obtain ⟨e1,L1,g1,l1⟩:=lev_some F1
  obtain ⟨e2,L2,g2,l2⟩:=lev_some F2
  exact ⟨three s0 s1 s2,three z0 z1 z2,three a0 a1 a2,three b0 b1 b2,three F0 F1 F2,three S0 S1 S2,three e0 e1 e2,three L0 L1 L2,rfl,
    fun k hk => ⟨three_two k hk,three_two k hk,three_two k hk,three_two k hk,three_two k hk,three_two k hk⟩,
    three_all r0 r1 fun _ => r2,three_all g0 g1 fun _ => g2,three_all l0 l1 fun _ => l2⟩
theorem law7:Law tpE 7 5 [82,25]:=by
  intro h us f ha
  match us,ha with
  | [x0,x1],⟨⟨p0,y0,e0⟩,⟨p1,y1,e1⟩,_⟩ =>
    obtain ⟨s,z,v1,v2,F,S,es,L,rfl,t,r,hE,hL⟩:=ty_runs3 y0
    obtain ⟨b,rfl,_⟩:=ty_float y1
    rw [val_agg (.inr ⟨_,_,u82⟩)] at e0
    rw [val_float] at e1
    subst e0 e1
    obtain ⟨e,eL⟩:=sampleE_ex b
    exact k7all hasE hasXE awkE t r hE hL eL f
end Go.Tidy
