/- A part of the proof. -/
import Derived.Test.YtngjiljminopnaaGreatDoorPa4
import Derived.Test.YtngjiljminopnaaGreatDoorPa2
import Derived.Test.YtngjiljminopnaaGreatDoorPa1
import Derived.Test.YtngjiljminopnaaGreatDoorProg
set_option linter.all false
namespace Go.Tidy
open Go Go.Proofs Tab
variable {tp:TProg}
theorem WO.fdiv {P:Program} {tp:TProg} {a:Regs} {h:TH} {K:Regs→TH→Prop} {rest:List TOper} {d:Option Tmp} {ty:TypeId} {i:Nat} {x y:Operand} {t u:TypeId} {k:FloatKind} {b c r:Nat} (hx:getO a x=some (.float k b)) (hy:getO a y=some (.float k c)) (hb:nanB k b=false) (hc:nanB k c=false) (hr:k.format.div b c=some r) (hn:nanB k r=false)
  (w:WO P tp rest (a.put d (.float k r)) h K):WO P tp (⟨d,.binOp .quo t x y u,ty,none,[],i⟩::rest) a h K:=by
 have ex:=getO_eval hx
 have ey:=getO_eval hy
 refine WO.plainly rfl rfl rfl (by simp [fastOp,fastBin,ex,ey,hb,hc]) rfl (plainOp_of (by rfl) (fun q hq=>?_) ?_ (plain_float hn)) w
 ·simp only [Op.operands] at hq
  simp at hq
  rcases hq with rfl | rfl
  ·rw [ex];exact plain_float hb
  ·rw [ey];exact plain_float hc
 ·simp [toOper,execOp,pv_bind,pv_map,pv_pure,ex,ey,eqGuard,binOp,Op.floatArith,hr]
def smp (n:Int):Nat:=(Ieee.single.div (FloatKind.f32.nearest n) 1098907648).getD 0
theorem smp_ok {n:Int} (hn:n.natAbs≤16384):Ieee.single.div (FloatKind.f32.nearest n) 1098907648=some (smp n)∧nanB .f32 (FloatKind.f32.nearest n)=false∧Samp (smp n) n:=by
 obtain ⟨r,h1,h2,h3⟩:=sample_of hn
 have:smp n=r:=by unfold smp;rw [h1];rfl
 rw [this]
 exact ⟨h1,h2,h3⟩
end Go.Tidy
namespace Go.Tidy
open Go Go.Proofs Tab
variable {tp:TProg}
def Lev (F:List Nat) (L:List Int):Prop:=F.length=L.length∧∀ (i b:Nat) (n:Int),F[i]?=some b→L[i]?=some n→Samp b n
def all1 (L:List Int):List (Int × Bool):=L.map fun n=>(n,true)
end Go.Tidy
namespace Go.Tidy
open Go Go.Proofs Tab
variable {tp:TProg}
def clrL (C:List (Int × Bool)) (p:Int × Int):List (Int × Bool):=C.take p.1.toNat ++ (List.replicate (p.2.toNat - p.1.toNat) (0,false) ++ C.drop p.2.toNat)
def cellsL (L:List Int) (S:List (Int × Int)):List (Int × Bool):=S.foldl clrL (all1 L)
def In (m:Nat) (S:List (Int × Int)):Prop:=∀ p,p ∈ S→0≤p.1∧p.1≤p.2∧p.2≤m
theorem clrL_len {C:List (Int × Bool)} {p:Int × Int} (h1:0≤p.1) (h2:p.1≤p.2) (h3:p.2≤C.length):(clrL C p).length=C.length:=by
 unfold clrL;simp;omega
theorem foldl_len {m:Nat}:∀ (S:List (Int × Int)) (C:List (Int × Bool)),C.length=m→In m S→(S.foldl clrL C).length=m
 | [],C,h,_=>h
 | p::S,C,h,hin=>by
  obtain ⟨h1,h2,h3⟩:=hin p (by simp)
  exact foldl_len S (clrL C p) (by rw [clrL_len h1 h2 (by omega)];exact h) fun q hq=>hin q (by simp [hq])
end Go.Tidy
namespace Go.Tidy
open Go Go.Proofs Tab
variable {tp:TProg}
def hstep (B:List Bool) (acc:List (Int × Int)) (i:Nat):List (Int × Int) :=
 if B.getD i false=true then acc
 else if 0 < i∧B.getD (i - 1) false=false then acc.set (acc.length - 1) ((acc.getD (acc.length - 1) (0,0)).1,(i:Int)+1)
 else acc ++ [((i:Int),(i:Int)+1)]
def holesN (B:List Bool):Nat→List (Int × Int)
 | 0=>[]
 | i+1=>hstep B (holesN B i) i
def holesOf (B:List Bool):List (Int × Int):=holesN B B.length
end Go.Tidy
namespace Go.Tidy
open Go Go.Proofs Tab
variable {tp:TProg}
def SErr (F:List Nat) (es:List Int):Prop:=F.length=es.length∧∀ (i b:Nat) (e:Int),F[i]?=some b→es[i]?=some e→SampleE b e
theorem firstNZ_zero:∀ {l:List Int},firstNZ l=0→∀ x,x ∈ l→x=0
  | [],_,_,h=>by cases h
  | y::l,h,x,hx=>by
    unfold firstNZ at h
    by_cases hy:y=0
    · subst hy
      rcases List.mem_cons.1 hx with rfl | hx
      · rfl
      · exact firstNZ_zero (by simpa using h) x hx
    · have:(y != 0)=true:=by simpa using hy
      rw [this] at h
      exact absurd h hy
end Go.Tidy
namespace Go.Tidy
open Go Go.Proofs Tab
variable {tp:TProg}
def badS (m:Nat) (p:Int × Int):Bool:=decide (p.1 < 0) || (decide (p.2≤p.1) || decide ((m:Int) < p.2))
def holeE (m:Nat):Int→List (Int × Int)→Int
 | _,[]=>0
 | prev,p::r=>cond (badS m p) 14 (cond (decide (p.1≤prev)) 11 (holeE m p.2 r))
theorem holeE_cons (m:Nat) (prev:Int) (p:Int × Int) (r:List (Int × Int)):holeE m prev (p::r)=cond (badS m p) 14 (cond (decide (p.1≤prev)) 11 (holeE m p.2 r)):=rfl
theorem holeE_in {m:Nat}:∀ {S:List (Int × Int)} {prev:Int},holeE m prev S=0→In m S
  | [],_,_=>fun p hp=>by cases hp
  | p::r,prev,h=>by
    unfold holeE at h
    cases hb:badS m p with
    | true=>rw [hb] at h;cases h
    | false =>
      rw [hb] at h
      cases hc:decide (p.1≤prev) with
      | true=>rw [hc] at h;cases h
      | false =>
        rw [hc] at h
        have ih:=holeE_in (S:=r) h
        unfold badS at hb
        simp only [Bool.or_eq_false_iff,decide_eq_false_iff_not] at hb
        intro q hq
        rcases List.mem_cons.1 hq with rfl | hq
        · omega
        · exact ih q hq
end Go.Tidy
namespace Go.Tidy
open Go Go.Proofs Tab
variable {tp:TProg}
def anyIn (L:List Int) (p:Int × Int):Bool:=((L.drop p.1.toNat).take (p.2.toNat - p.1.toNat)).any (· != 0)
def formE (L:List Int) (S:List (Int × Int)):Int:=cond (S.any (anyIn L)) 1 0
end Go.Tidy
namespace Go.Tidy
open Go Go.Proofs Tab
variable {tp:TProg}
theorem Lev.part {F:List Nat} {L:List Int} (h:Lev F L) (lo k:Nat):Lev ((F.drop lo).take k) ((L.drop lo).take k):=by
 refine ⟨by simp [h.1],fun i b n hb hn=>?_⟩
 by_cases hi:i < k
 ·rw [List.getElem?_take_of_lt hi,List.getElem?_drop] at hb hn
  exact h.2 _ b n hb hn
 ·rw [List.getElem?_eq_none (by simp;omega)] at hb
  cases hb
theorem Lev.get {F:List Nat} {L:List Int} (h:Lev F L) {i:Nat} {b:Nat} (hb:F[i]?=some b):∃ n,L[i]?=some n∧Samp b n:=by
 have hlt:=(List.getElem?_eq_some_iff.1 hb).1
 have:i < L.length:=by rw [← h.1];exact hlt
 exact ⟨L[i],List.getElem?_eq_getElem this,h.2 i b _ hb (List.getElem?_eq_getElem this)⟩
theorem holeE_lt {m:Nat}:∀ {S:List (Int × Int)} {prev:Int},holeE m prev S=0→∀ p,p ∈ S→p.1 < p.2
  | [],_,_=>fun p hp=>by cases hp
  | p::r,prev,h=>by
    rw [holeE_cons] at h
    cases hb:badS m p with
    | true=>rw [hb] at h;cases h
    | false =>
      rw [hb] at h
      cases hc:decide (p.1≤prev) with
      | true=>rw [hc] at h;cases h
      | false =>
        rw [hc] at h
        have ih:=holeE_lt (S:=r) h
        unfold badS at hb
        simp only [Bool.or_eq_false_iff,decide_eq_false_iff_not] at hb
        intro q hq
        rcases List.mem_cons.1 hq with rfl | hq
        · omega
        · exact ih q hq
end Go.Tidy
namespace Go.Tidy
open Go Go.Proofs Tab
variable {tp:TProg}
def headE (s:ByteArray) (n:Int) (m:Nat):Int:=firstNZ [cond (!nameB s) 8 0,outB n 0 100000000,cond (decide ((m:Int) > 4096)) 5 0]
def tailE (m:Nat) (S:List (Int × Int)) (L:List Int):Int:=cond (holeE m (-1) S != 0) (holeE m (-1) S) (formE L S)
def runE (s:ByteArray) (n:Int) (m:Nat) (S:List (Int × Int)) (es L:List Int):Int :=
 cond (headE s n m != 0) (headE s n m) (firstNZ [firstNZ es,cond (decide (n+m > 100000000)) 4 0,tailE m S L])
theorem headE_zero {s:ByteArray} {n:Int} {m:Nat} (h:headE s n m=0):nameB s=true∧0≤n∧n≤100000000∧m≤4096:=by
  have hz:=firstNZ_zero h
  have h1:=hz _ (List.mem_cons_self ..)
  have h2:=hz (outB n 0 100000000) (by simp)
  have h3:=hz (cond (decide ((m:Int) > 4096)) 5 0) (by simp)
  refine ⟨?_,?_⟩
  · cases hb:nameB s with
    | true=>rfl
    | false=>rw [hb] at h1;cases h1
  · unfold outB at h2
    by_cases a1:n < 0
    · rw [decide_eq_true a1] at h2;cases h2
    · by_cases a2:n > 100000000
      · rw [decide_eq_true a2,Bool.or_true] at h2;cases h2
      · by_cases a3:(m:Int) > 4096
        · rw [decide_eq_true a3] at h3;cases h3
        · omega
end Go.Tidy
namespace Go.Tidy
open Go Go.Proofs Tab
variable {tp:TProg}
def inS (x:Int) (p:Int × Int):Bool:=decide (x ≥ p.1) && decide (x < p.2)
def knownB (S:List (Int × Int)) (x:Int):Bool:=!S.any (inS x)
end Go.Tidy
namespace Go.Tidy
open Go Go.Proofs Tab
variable {tp:TProg}
theorem anyIn_iff {L:List Int} {p:Int × Int} (h1:0≤p.1) (h2:p.1≤p.2):anyIn L p=true ↔ ∃ (j:Nat) (x:Int),L[j]?=some x∧x≠0∧inS j p=true:=by
 unfold anyIn
 rw [List.any_eq_true]
 constructor
 ·rintro ⟨x,hx,h0⟩
  obtain ⟨k,hk⟩:=List.mem_iff_getElem?.1 hx
  have hlt:k < p.2.toNat - p.1.toNat:=by
   have:=(List.getElem?_eq_some_iff.1 hk).1
   simp at this
   omega
  rw [List.getElem?_take_of_lt hlt,List.getElem?_drop] at hk
  refine ⟨p.1.toNat+k,x,hk,by simpa using h0,?_⟩
  unfold inS
  rw [decide_eq_true (by omega),decide_eq_true (by omega)];rfl
 ·rintro ⟨j,x,hj,h0,hin⟩
  unfold inS at hin
  simp only [Bool.and_eq_true,decide_eq_true_eq] at hin
  refine ⟨x,List.mem_iff_getElem?.2 ⟨j - p.1.toNat,?_⟩,by simpa using h0⟩
  rw [List.getElem?_take_of_lt (by omega),List.getElem?_drop,show p.1.toNat+(j - p.1.toNat)=j by omega]
  exact hj
theorem form_iff {L:List Int} {S:List (Int × Int)} {m:Nat} (hin:In m S):S.any (anyIn L)=true ↔ ∃ (j:Nat) (x:Int),L[j]?=some x∧x≠0∧knownB S j=false:=by
 rw [List.any_eq_true]
 constructor
 ·rintro ⟨p,hp,ha⟩
  obtain ⟨g1,g2,g3⟩:=hin p hp
  obtain ⟨j,x,hj,h0,hk⟩:=(anyIn_iff g1 g2).1 ha
  refine ⟨j,x,hj,h0,?_⟩
  unfold knownB
  rw [List.any_eq_true.2 ⟨p,hp,hk⟩];rfl
 ·rintro ⟨j,x,hj,h0,hk⟩
  unfold knownB at hk
  have hk:S.any (inS j)=true:=by simpa using hk
  obtain ⟨p,hp,hpj⟩:=List.any_eq_true.1 hk
  obtain ⟨g1,g2,g3⟩:=hin p hp
  exact ⟨p,hp,(anyIn_iff g1 g2).2 ⟨j,x,hj,h0,hpj⟩⟩
theorem nz_cases (a:Int):a=0∨(a != 0)=true:=by
 by_cases h:a=0
 ·exact .inl h
 ·exact .inr (by simpa using h)
end Go.Tidy
namespace Go.Tidy
open Go Go.Proofs Tab
variable {tp:TProg}
def knownL (S:List (Int × Int)) (m:Nat):List Bool:=(List.range m).map fun (i:Nat)=>knownB S (i:Int)
theorem knownL_len (S:List (Int × Int)) (m:Nat):(knownL S m).length=m:=by simp [knownL]
end Go.Tidy
namespace Go.Tidy
open Go Go.Proofs Tab
variable {tp:TProg}
def cellsK (L:List Int) (K:List Bool):List (Int × Bool):=List.zipWith (fun l k=>if k=true then (l,true) else (0,false)) L K
end Go.Tidy
namespace Go.Tidy
open Go Go.Proofs Tab
variable {tp:TProg}
theorem pv_eq3 (a b:Int) (d:Nat):pv Tryz.prog (Op.equalIn (d+1) 3 (.int .i64 a) (.int .i64 b))=some (a == b):=by
 rw [Op.equalIn,pv_bind,pv_underlying u3]
 simp [pv_pure]
theorem pv_p0 (a b:Int):pv Tryz.prog (Go.part 3 #[.int .i64 a,.int .i64 b] 0)=some (.int .i64 a):=by kernel_rfl
theorem pv_p1 (a b:Int):pv Tryz.prog (Go.part 3 #[.int .i64 a,.int .i64 b] 1)=some (.int .i64 b):=by kernel_rfl
theorem pv_eq48 (a b:Int):pv Tryz.prog (Op.equal 77 (.agg #[.int .i64 a,.int .i64 b]) (.agg #[.int .i64 a,.int .i64 b]))=some true:=by
 show pv Tryz.prog (Op.equalIn (9998+1+1) 77 _ _)=_
 rw [Op.equalIn,pv_bind,pv_underlying Tryz.underlying77]
 simp only [Option.bind_some]
 rw [pv_bind,pv_program]
 simp only [Option.bind_some]
 have h0:Tryz.prog.stoodInHeld 77=false:=by kernel_rfl
 rw [h0]
 simp
 have e:∀ c:Int,pv Tryz.prog (Op.equalIn 9999 3 (.int .i64 c) (.int .i64 c))=some true:=fun c=>by rw [pv_eq3 c c 9998];simp
 simp [pv_bind,pv_p0,pv_p1,e,pv_pure]
theorem eqT_agg {P:Program} {t:TypeId} {xs ys:Array Value}:eqT P t (.agg xs) (.agg ys)=none:=by
 unfold eqT ptrEq nilEq
 cases P.underlying t with
 | none=>rfl
 | some d=>cases d <;> rfl
theorem WO.ne48 {a:Regs} {h:TH} {K:Regs→TH→Prop} {rest:List TOper} {d:Option Tmp} {ty:TypeId} {i:Nat} {x y:Operand} {u:TypeId} {p1 p2:Int} (hx:getO a x=some (.agg #[.int .i64 p1,.int .i64 p2])) (hy:getO a y=some (.agg #[.int .i64 p1,.int .i64 p2]))
    (w:WO Tryz.prog tp rest (a.put d (.bool false)) h K):WO Tryz.prog tp (⟨d,.binOp .neq 77 x y u,ty,none,[],i⟩::rest) a h K:=by
  have ex:=getO_eval hx
  have ey:=getO_eval hy
  refine WO.plainly rfl rfl rfl (by simp [fastOp,fastBin,ex,ey]) (by simp [valueOp,ex,ey,eqT_agg]) (plainOp_of (by rfl) (fun q hq=>?_) ?_ rfl) w
  · simp only [Op.operands] at hq
    simp at hq
    rcases hq with rfl | rfl
    · rw [ex];rfl
    · rw [ey];rfl
  · show pv Tryz.prog (execOp a.eval ⟨d, .binOp .neq 77 x y u, ty, "", #[], none⟩) = _
    have hg:Tryz.prog.eqGuardType Tryz.prog.depth 77=false:=by kernel_rfl
    simp [execOp,pv_bind,pv_map,pv_pure,pv_program,ex,ey,eqGuard,binOp,pv_eq48,hg]
theorem k59 (H:Has tp) {v w:Value} {S:List (Int × Int)} {h:TH} (s:SlL encS 2 h v S) (t:SlL encS 2 h w S) (hl:S.length≤1000000) :
  CallW Tryz.prog tp (.func (.func 55) #[] #[]) #[v,w] h fun v' h'=>v'=.bool true∧h'=h:=by
 refine CallW.full (H.fn 55 f59 rfl rfl) rfl ?_
 refine W.seq (W.reg (WO.as rfl (WO.nil ?_)))
 refine W.seq (W.seq (W.reg (WO.mv rfl (WO.lenC rfl s u44 (WO.mv rfl (WO.lenC rfl t u44 (WO.bi rfl rfl rfl (WO.nil ?_))))))))
 rw [show ((S.length:Int) != (S.length:Int))=false by simp]
 refine W.cd rfl (OnB.no (W.skip ?_))
 refine W.seq (W.seq (W.reg (WO.as rfl (WO.nil ?_))))
 refine W.block (W.loop (fun k a h2=>h2=h∧∃ i:Nat,i≤S.length∧k=S.length - i∧Full 26 a∧Tr.get a 0=some v∧Tr.get a 1=some w∧Tr.get a 5=some (.int .i64 (i:Nat)))
  ?_ S.length _ _ ⟨rfl,0,by omega,by omega,(by repeat (first | with_reducible refine Full.put ?_ (by decide) _ | with_reducible refine Full.putn ?_ _ | with_reducible exact Full.of _ _ rfl | with_reducible exact Full.start _ _ (Nat.le_of_ble_eq_true rfl) | exact Full.start _ _ (Nat.le_of_ble_eq_true rfl))),rfl,rfl,rfl⟩)
 rintro k a h2 ⟨rfl,i,hi,rfl,hf,i0,i1,i5⟩
 (obtain ⟨rl0,hrl0,rfl⟩:=hf;obtain ⟨s0,s1,s2,s3,s4,s5,s6,s7,rl1,rfl,hrl1⟩:=cons8 hrl0;obtain ⟨s8,s9,s10,s11,s12,s13,s14,s15,rl2,rfl,hrl2⟩:=cons8 hrl1;obtain ⟨s16,s17,s18,s19,s20,s21,s22,s23,rl3,rfl,hrl3⟩:=cons8 hrl2;obtain ⟨s24,rl4,rfl,hrl4⟩:=cons_of hrl3;obtain ⟨s25,rl5,rfl,hrl5⟩:=cons_of hrl4;obtain rfl:=nil_of hrl5;clear hrl0 hrl1 hrl2 hrl3 hrl4 hrl5;obtain rfl:s0=_:=Option.some.inj (show some s0=some _ from i0);clear i0;obtain rfl:s1=_:=Option.some.inj (show some s1=some _ from i1);clear i1;obtain rfl:s5=_:=Option.some.inj (show some s5=some _ from i5);clear i5)
 refine W.seq (W.seq (W.reg (WO.mv rfl (WO.mv rfl (WO.lenC rfl s u44 (WO.bi rfl rfl rfl (WO.nil ?_)))))))
 by_cases hlt:i < S.length
 ·rw [show decide ((i:Int) < (S.length:Int))=true by simpa using hlt]
  refine W.cd rfl (OnB.yes (W.skip ?_))
  have hS1:S[i]?=some S[i]:=List.getElem?_eq_getElem hlt
  obtain ⟨b,o,cc,fix,wr,el,e1,e2,e3,e4,e5⟩:=s.at eS u44 tp48 hS1 .i64
  obtain ⟨b',o',cc',fix',wr',el',g1,g2,g3,g4,g5⟩:=t.at eS u44 tp48 hS1 .i64
  refine W.seq (W.block (W.seq (W.reg (WO.mv rfl (WO.mv rfl (WO.ix rfl rfl e1 (WO.ld rfl (load_row tp48 e2 e4 e3) (WO.mv rfl (WO.mv rfl (WO.ix rfl rfl g1 (WO.ld rfl (load_row tp48 g2 g4 g3) (WO.ne48 rfl rfl (WO.nil ?_)))))))))))))
  refine W.cd rfl (OnB.no (W.skip ?_))
  refine W.reg (WO.mv rfl (WO.bi rfl rfl rfl (WO.as rfl (WO.nil ?_))))
  refine ⟨S.length - (i+1),by omega,rfl,i+1,by omega,rfl,(by repeat (first | with_reducible refine Full.put ?_ (by decide) _ | with_reducible refine Full.putn ?_ _ | with_reducible exact Full.of _ _ rfl | with_reducible exact Full.start _ _ (Nat.le_of_ble_eq_true rfl) | exact Full.start _ _ (Nat.le_of_ble_eq_true rfl))),rfl,rfl,?_⟩
  show some (Value.int .i64 (fwrap .i64 ((i:Int)+1)))=_
  rw [fwrap_i64 (by omega) (by omega)]
  rfl
 ·rw [show decide ((i:Int) < (S.length:Int))=false by simpa using hlt]
  refine W.cd rfl (OnB.no (W.exit ?_))
  refine W.seq (W.reg (WO.as rfl (WO.nil (W.ret ?_))))
  exact ⟨.inr rfl,_,rfl,rfl,rfl⟩
end Go.Tidy
namespace Go.Tidy
open Go Go.Proofs Tab
variable {tp:TProg}
def knownV (C:List (Int × Bool)):List Int:=(C.filter (·.2)).map (·.1)
structure Valid (s:ByteArray) (n:Int) (F:List Nat) (S:List (Int × Int)) (L:List Int):Prop where
 lev:Lev F L
 n0:0≤n
 n1:n+F.length≤100000000
 m:F.length≤4096
 hole:holeE F.length (-1) S=0
 form:S.any (anyIn L)=false
theorem valid_of {s:ByteArray} {n:Int} {F:List Nat} {S:List (Int × Int)} {es L:List Int} (hL:firstNZ es=0→Lev F L) (h:runE s n F.length S es L=0):Valid s n F S L:=by
 unfold runE at h
 rcases nz_cases (headE s n F.length) with h1 | h1
 ·rw [h1] at h
  have h:firstNZ [firstNZ es,cond (decide (n+F.length > 100000000)) 4 0,tailE F.length S L]=0:=h
  obtain ⟨_,n0,n1,hm⟩:=headE_zero h1
  have e0:=firstNZ_zero h (firstNZ es) (by simp)
  have e1:=firstNZ_zero h (cond (decide (n+F.length > 100000000)) 4 0) (by simp)
  have e2:=firstNZ_zero h (tailE F.length S L) (by simp)
  have e3:holeE F.length (-1) S=0:=by
   rcases nz_cases (holeE F.length (-1) S) with h2 | h2
   ·exact h2
   ·unfold tailE at e2;rw [h2] at e2;exact e2
  refine ⟨hL e0,n0,?_,hm,e3,?_⟩
  ·by_cases hc:n+F.length > 100000000
   ·rw [decide_eq_true hc] at e1;cases e1
   ·omega
  ·unfold tailE at e2
   rw [e3] at e2
   cases hf:S.any (anyIn L) with
   | false=>rfl
   | true=>unfold formE at e2;rw [hf] at e2;cases e2
 ·rw [h1] at h
  have:headE s n F.length=0:=h
  rw [this] at h1;cases h1
theorem Valid.in_ {s:ByteArray} {n:Int} {F:List Nat} {S:List (Int × Int)} {L:List Int} (v:Valid s n F S L):In F.length S:=holeE_in v.hole
end Go.Tidy
namespace Go.Tidy
open Go Go.Proofs Tab
variable {tp:TProg}
theorem lev_lim {F:List Nat} {L:List Int} (h:Lev F L):∀ x,x ∈ L→x.natAbs≤16384:=fun x hx=>by
 obtain ⟨i,hi⟩:=List.mem_iff_getElem?.1 hx
 have hlt:=(List.getElem?_eq_some_iff.1 hi).1
 have:i < F.length:=by rw [h.1];exact hlt
 exact (h.2 i _ x (List.getElem?_eq_getElem this) hi).lim
theorem clr_lim {C:List (Int × Bool)} {p:Int × Int} (h:∀ c,c ∈ C→c.1.natAbs≤16384):∀ c,c ∈ clrL C p→c.1.natAbs≤16384:=fun c hc=>by
 unfold clrL at hc
 rcases List.mem_append.1 hc with hc | hc
 ·exact h c (List.mem_of_mem_take hc)
 ·rcases List.mem_append.1 hc with hc | hc
  ·rw [(List.mem_replicate.1 hc).2];decide
  ·exact h c (List.mem_of_mem_drop hc)
theorem foldl_lim:∀ (S:List (Int × Int)) (C:List (Int × Bool)),(∀ c,c ∈ C→c.1.natAbs≤16384)→∀ c,c ∈ S.foldl clrL C→c.1.natAbs≤16384
 | [],_,h=>h
 | p::S,C,h=>foldl_lim S (clrL C p) (clr_lim h)
theorem cells_lim {F:List Nat} {L:List Int} (h:Lev F L) (S:List (Int × Int)):∀ c,c ∈ cellsL L S→c.1.natAbs≤16384 :=
 foldl_lim S _ fun c hc=>by
  obtain ⟨x,hx,rfl⟩:=List.mem_map.1 hc
  exact lev_lim h x hx
theorem cells_len {F:List Nat} {L:List Int} {S:List (Int × Int)} (h:Lev F L) (hin:In F.length S):(cellsL L S).length=F.length:=foldl_len S _ (by simp [all1,h.1]) hin
def sumL:List Int→Int
 | []=>0
 | x::l=>x+sumL l
end Go.Tidy
namespace Go.Tidy
open Go Go.Proofs Tab
variable {tp:TProg}
theorem clr_get {C:List (Int × Bool)} {p:Int × Int} (h1:0≤p.1) (h2:p.1≤p.2) (h3:p.2≤C.length) {i:Nat} (hi:i < C.length):(clrL C p)[i]?=if inS i p=true then some (0,false) else C[i]?:=by
 unfold clrL inS
 by_cases a1:i < p.1.toNat
 ·rw [List.getElem?_append_left (by simp;omega),List.getElem?_take_of_lt a1,if_neg (by simp;omega)]
 ·have e1:(C.take p.1.toNat).length=p.1.toNat:=by simp;omega
  rw [List.getElem?_append_right (by omega),e1]
  by_cases a2:i < p.2.toNat
  ·rw [List.getElem?_append_left (by simp;omega),List.getElem?_replicate,if_pos (by omega),if_pos (by simp;omega)]
  ·rw [List.getElem?_append_right (by simp;omega),List.getElem?_drop,if_neg (by simp;omega),List.length_replicate]
   congr 1
   omega
theorem foldl_get {m:Nat}:∀ (S:List (Int × Int)) (C:List (Int × Bool)),C.length=m→In m S→∀ i:Nat,i < m→(S.foldl clrL C)[i]?=if knownB S i=true then C[i]? else some (0,false)
 | [],C,hC,_,i,hi=>by simp [knownB]
 | p::S,C,hC,hin,i,hi=>by
  obtain ⟨h1,h2,h3⟩:=hin p (by simp)
  have hl:=clrL_len h1 h2 (show p.2≤C.length by omega)
  rw [List.foldl_cons,foldl_get S (clrL C p) (by rw [hl];exact hC) (fun q hq=>hin q (by simp [hq])) i hi,clr_get h1 h2 (by omega) (by omega)]
  unfold knownB
  rw [List.any_cons]
  cases inS i p <;> cases S.any (inS i) <;> simp
theorem cells_eq {F:List Nat} {L:List Int} {S:List (Int × Int)} (hL:Lev F L) (hin:In F.length S):cellsL L S=cellsK L (knownL S F.length):=by
 apply List.ext_getElem?
 intro i
 by_cases hi:i < F.length
 ·have hiL:i < L.length:=by rw [← hL.1];exact hi
  unfold cellsL
  rw [foldl_get S _ (by simp [all1,hL.1]) hin i hi]
  unfold cellsK knownL all1
  rw [List.getElem?_zipWith,List.getElem?_map,List.getElem?_map,List.getElem?_range hi,List.getElem?_eq_getElem hiL]
  cases hk:knownB S i <;> simp [hk]
 ·rw [List.getElem?_eq_none (by rw [cells_len hL hin];omega),List.getElem?_eq_none (by have:=hL.1;simp [cellsK,knownL];omega)]
def Dark (L:List Int) (K:List Bool):Prop:=L.length=K.length∧∀ (i:Nat) (x:Int),L[i]?=some x→K[i]?=some false→x=0
theorem Valid.dark {s:ByteArray} {n:Int} {F:List Nat} {S:List (Int × Int)} {L:List Int} (v:Valid s n F S L):Dark L (knownL S F.length):=by
 refine ⟨by rw [knownL_len,v.lev.1],fun i x hx hk=>?_⟩
 have hi:i < F.length:=by rw [v.lev.1];exact (List.getElem?_eq_some_iff.1 hx).1
 unfold knownL at hk
 rw [List.getElem?_map,List.getElem?_range hi] at hk
 have hk:knownB S i=false:=by simpa using hk
 by_cases h0:x=0
 ·exact h0
 ·have:=(form_iff v.in_).2 ⟨i,x,hx,h0,hk⟩
  rw [v.form] at this;cases this
theorem Dark.tail {l:Int} {k:Bool} {L:List Int} {K:List Bool} (d:Dark (l::L) (k::K)):Dark L K∧(k=false→l=0) :=
 ⟨⟨by have:=d.1;simpa using this,fun i x h1 h2=>d.2 (i+1) x (by simpa using h1) (by simpa using h2)⟩,fun hk=>d.2 0 l rfl (by rw [hk];rfl)⟩
theorem cellsK_cons (l:Int) (k:Bool) (L:List Int) (K:List Bool):cellsK (l::L) (k::K)=(if k=true then (l,true) else (0,false))::cellsK L K:=rfl
theorem dark_sum:∀ {L:List Int} {K:List Bool},Dark L K→sumL (knownV (cellsK L K))=sumL L
  | [],K,d=>by
    have:K=[]:=List.eq_nil_of_length_eq_zero d.1.symm
    subst this;rfl
  | l::L,[],d=>by have:=d.1;simp at this
  | l::L,k::K,d=>by
    obtain ⟨d1,d2⟩:=d.tail
    have ih:=dark_sum d1
    rw [cellsK_cons]
    cases k with
    | true=>simp only [knownV,List.filter_cons,List.map_cons,sumL,if_true] at ih ⊢;rw [ih]
    | false =>
      rw [d2 rfl]
      simp only [knownV,List.filter_cons,List.map_cons,sumL] at ih ⊢
      simpa using ih
end Go.Tidy
namespace Go.Tidy
open Go Go.Proofs Tab
variable {tp:TProg}
theorem WO.quoI {P:Program} {a:Regs} {h:TH} {K:Regs→TH→Prop} {rest:List TOper} {d:Option Tmp} {ty:TypeId} {i:Nat} {x y:Operand} {t u:TypeId} {m n:Int} (hx:getO a x=some (.int .i64 m)) (hy:getO a y=some (.int .i64 n)) (hn:n≠0)
  (w:WO P tp rest (a.put d (.int .i64 (fwrap .i64 (m.tdiv n)))) h K):WO P tp (⟨d,.binOp .quo t x y u,ty,none,[],i⟩::rest) a h K:=by
 refine WO.bi hx hy ?_ w
 have hk:Nat.beq (kindNo .i64) (kindNo .i64)=true:=Nat.beq_refl _
 have hb:(n == 0)=false:=by simpa using hn
 simp only [fastBin,hk,fastInt,hb,Bool.cond_true,Bool.cond_false]
end Go.Tidy
namespace Go.Tidy
open Go Go.Proofs Tab
variable {tp:TProg}
def Swapped {α:Type} (C D:List α) (i:Nat):Prop:=D.length=C.length∧∀ x,x < C.length→D[x]?=if x < i∨C.length≤x+i then C[C.length - 1 - x]? else C[x]?
theorem Swapped.zero {α:Type} (C:List α):Swapped C C 0:=⟨rfl,fun x hx=>by rw [if_neg (by omega)]⟩
theorem Swapped.step {α:Type} {C D:List α} {i:Nat} (s:Swapped C D i) (hi:i+i+1 < C.length) {x y:α} (hx:D[i]?=some x) (hy:D[C.length - 1 - i]?=some y):Swapped C ((D.set i y).set (C.length - 1 - i) x) (i+1):=by
 have e1:=s.2 i (by omega)
 have e2:=s.2 (C.length - 1 - i) (by omega)
 rw [if_neg (by omega),hx] at e1
 rw [if_neg (by omega),hy] at e2
 refine ⟨by rw [List.length_set,List.length_set,s.1],fun z hz=>?_⟩
 by_cases h1:z=C.length - 1 - i
 ·subst h1
  rw [List.getElem?_set_self (by rw [List.length_set,s.1];exact hz),if_pos (by omega),show C.length - 1 - (C.length - 1 - i)=i by omega]
  exact e1
 ·rw [List.getElem?_set_ne (by omega)]
  by_cases h2:z=i
  ·subst h2
   rw [List.getElem?_set_self (by rw [s.1];exact hz),if_pos (by omega)]
   exact e2
  ·rw [List.getElem?_set_ne (by omega),s.2 z hz]
   by_cases h3:z < i∨C.length≤z+i
   ·rw [if_pos h3,if_pos (by omega)]
   ·rw [if_neg h3,if_neg (by omega)]
theorem Swapped.done {α:Type} {C D:List α} {i:Nat} (s:Swapped C D i) (hi:C.length≤i+i+1):D=C.reverse:=by
 apply List.ext_getElem?
 intro x
 by_cases hx:x < C.length
 ·rw [s.2 x hx,List.getElem?_reverse hx]
  by_cases h:x < i∨C.length≤x+i
  ·rw [if_pos h]
  ·rw [if_neg h];congr 1;omega
 ·rw [List.getElem?_eq_none (by rw [s.1];omega),List.getElem?_eq_none (by simp;omega)]
end Go.Tidy
namespace Go.Tidy
open Go Go.Proofs Tab
variable {tp:TProg}
def run0:Value:=runV ⟨#[]⟩ 0 (.slice none 0 0) (.slice none 0 0)
def RunR (h h':TH) (v:Value) (s:ByteArray) (n:Int) (C:List (Int × Bool)) (e:Int):Prop :=
 HX h h'∧((e≠0∧v=.tuple #[run0,.int .i64 e])∨(e=0∧∃ w1 w2,v=.tuple #[runV s n w1 w2,.int .i64 0]∧RunO h.next h' w1 w2 (C.map fun c=>smp c.1) (holesOf (C.map fun c=>c.2))))
end Go.Tidy
namespace Go.Tidy
open Go Go.Proofs Tab
variable {tp:TProg}
theorem cellsK_snd:∀ {L:List Int} {K:List Bool},K.length=L.length→(cellsK L K).map (fun c=>c.2)=K
 | [],[],_=>rfl
 | [],_::_,h=>by simp at h
 | _::_,[],h=>by simp at h
 | l::L,k::K,h=>by
  rw [cellsK_cons,List.map_cons,cellsK_snd (by simpa using h)]
  cases k <;> rfl
theorem OwnL.some {α:Type} {enc:α→List Value} {n0:Nat} {h:TH} {v:Value} {e:TypeId} {l:List α} (o:OwnL enc n0 h v e l) (hl:0 < l.length):∃ b,v=.slice (Option.some ⟨b,0,none⟩) l.length l.length∧n0≤b∧At h b (.cells (cat enc l) false true e):=by
 rcases o with ⟨_,rfl⟩ | ⟨_,h⟩
 ·simp at hl
 ·exact h
end Go.Tidy
namespace Go.Tidy
open Go Go.Proofs Tab
variable {tp:TProg}
section rules
variable {P:Program} {tp:TProg} {h:TH} {K:Regs→TH→Prop} {rest:List TOper} {d:Option Tmp} {ty:TypeId} {i:Nat} {x y:Operand} {t u:TypeId} {L:Rg}
theorem WOL.add {m n:Int} (hx:getL L x=some (.int .i64 m)) (hy:getL L y=some (.int .i64 n)) (h1:-9223372036854775808≤m+n) (h2:m+n≤9223372036854775807) (w:∀ a,Kn (putL L d (.int .i64 (m+n))) a→WO P tp rest a h K):∀ a,Kn L a→WO P tp (⟨d,.binOp .add t x y u,ty,none,[],i⟩::rest) a h K :=
 WOL.bi hx hy (by show some (Value.int .i64 (fwrap .i64 (m+n)))=_;rw [fwrap_i64 h1 h2]) w
theorem WOL.sub {m n:Int} (hx:getL L x=some (.int .i64 m)) (hy:getL L y=some (.int .i64 n)) (h1:-9223372036854775808≤m - n) (h2:m - n≤9223372036854775807) (w:∀ a,Kn (putL L d (.int .i64 (m - n))) a→WO P tp rest a h K):∀ a,Kn L a→WO P tp (⟨d,.binOp .sub t x y u,ty,none,[],i⟩::rest) a h K :=
 WOL.bi hx hy (by show some (Value.int .i64 (fwrap .i64 (m - n)))=_;rw [fwrap_i64 h1 h2]) w
theorem WOL.mul {m n:Int} (hx:getL L x=some (.int .i64 m)) (hy:getL L y=some (.int .i64 n)) (h1:-9223372036854775808≤m*n) (h2:m*n≤9223372036854775807) (w:∀ a,Kn (putL L d (.int .i64 (m*n))) a→WO P tp rest a h K):∀ a,Kn L a→WO P tp (⟨d,.binOp .mul t x y u,ty,none,[],i⟩::rest) a h K :=
 WOL.bi hx hy (by show some (Value.int .i64 (fwrap .i64 (m*n)))=_;rw [fwrap_i64 h1 h2]) w
theorem WOL.quo {m n:Int} (hx:getL L x=some (.int .i64 m)) (hy:getL L y=some (.int .i64 n)) (hm:0≤m) (hn:0 < n) (h2:m≤9223372036854775807) (w:∀ a,Kn (putL L d (.int .i64 (m / n))) a→WO P tp rest a h K):∀ a,Kn L a→WO P tp (⟨d,.binOp .quo t x y u,ty,none,[],i⟩::rest) a h K:=fun a k=>by
 refine WO.quoI (k.o hx) (k.o hy) (by omega) ?_
 have h3:m / n≤m:=Int.ediv_le_self n hm
 have h4:0≤m / n:=Int.ediv_nonneg hm (by omega)
 rw [Int.tdiv_eq_ediv_of_nonneg hm,fwrap_i64 (by omega) (by omega)]
 exact w _ (k.put d _)
end rules
end Go.Tidy
namespace Go.Tidy
open Go Go.Proofs Tab
theorem lev_smp {C:List (Int × Bool)} (h:∀ c,c ∈ C→c.1.natAbs≤16384):Lev (C.map fun c=>smp c.1) (C.map fun c=>c.1):=by
 refine ⟨by simp,fun i b n hb hn=>?_⟩
 rw [List.getElem?_map] at hb hn
 cases hc:C[i]? with
 | none=>rw [hc] at hb;simp at hb
 | some c =>
  rw [hc] at hb hn
  simp only [Option.map_some,Option.some.injEq] at hb hn
  subst hb;subst hn
  exact (smp_ok (h c (List.mem_of_getElem? hc))).2.2
section
variable {s:ByteArray} {n:Int} {F:List Nat} {S:List (Int × Int)} {L:List Int}
theorem Valid.cells (V:Valid s n F S L):cellsL L S=cellsK L (knownL S F.length):=cells_eq V.lev V.in_
theorem Valid.lim (V:Valid s n F S L):∀ c,c ∈ cellsL L S→c.1.natAbs≤16384:=cells_lim V.lev S
theorem Valid.kl (V:Valid s n F S L):(knownL S F.length).length=L.length:=by rw [knownL_len,V.lev.1]
theorem Valid.sum (V:Valid s n F S L):sumL (knownV (cellsL L S))=sumL L:=by rw [V.cells,dark_sum V.dark]
theorem Valid.at_ (V:Valid s n F S L) {i b:Nat} (hb:F[i]?=some b):∃ x,L[i]?=some x∧Samp b x∧(cellsL L S)[i]?=some (x,knownB S i):=by
 obtain ⟨x,hx,sx⟩:=V.lev.get hb
 have hi:i < F.length:=(List.getElem?_eq_some_iff.1 hb).1
 have hk:(knownL S F.length)[i]?=some (knownB S (i:Int)):=by
  unfold knownL
  rw [List.getElem?_map,List.getElem?_range hi];rfl
 refine ⟨x,hx,sx,?_⟩
 rw [V.cells]
 unfold cellsK
 rw [List.getElem?_zipWith,hx,hk]
 cases hq:knownB S (i:Int)
 ·have:=V.dark.2 i x hx (by rw [hk,hq])
  subst this
  rfl
 ·rfl
end
end Go.Tidy
namespace Go.Tidy
open Go Go.Proofs Tab
variable {tp:TProg}
abbrev ptr (c:Nat):Value:=.pointer (some ⟨c,0,none⟩)
abbrev zi (z:Int):Value:=.int .i64 z
end Go.Tidy
namespace Go.Tidy
open Go Go.Proofs Tab
variable {tp:TProg}
def RX (n0:Nat) (h:TH) (sx:ByteArray) (nx:Int) (x1 x2:Value) (s:ByteArray) (n:Int) (C:List (Int × Bool)) (e:Int):Prop :=
 (e≠0∧sx=⟨#[]⟩∧nx=0∧x1=.slice none 0 0∧x2=.slice none 0 0)∨(e=0∧sx=s∧nx=n∧RunO n0 h x1 x2 (C.map fun c=>smp c.1) (holesOf (C.map fun c=>c.2)))
theorem RunO.relock' {n0:Nat} {h:TH} {v1 v2:Value} {F:List Nat} {S:List (Int × Int)} (r:RunO n0 h v1 v2 F S) (L:List Nat):RunO n0 (h.withLock L) v1 v2 F S:=⟨⟨r.r.f.relock L,r.r.s.relock L,r.r.g.relock L⟩,r.o1,r.o2⟩
theorem RunH.relock' {h:TH} {v1 v2:Value} {F:List Nat} {S:List (Int × Int)} (r:RunH h v1 v2 F S) (L:List Nat):RunH (h.withLock L) v1 v2 F S:=⟨r.f.relock L,r.s.relock L,r.g.relock L⟩
section
variable {n0 c:Nat} {h h':TH} {sx:ByteArray} {nx:Int} {x1 x2:Value} {s:ByteArray} {n:Int} {C:List (Int × Bool)} {e:Int}
theorem RX.hx (r:RX n0 h sx nx x1 x2 s n C e) (x:HX h h'):RX n0 h' sx nx x1 x2 s n C e:=by
 rcases r with r | ⟨a,b,d,r⟩
 ·exact .inl r
 ·exact .inr ⟨a,b,d,r.hx x⟩
theorem RX.up {m:Nat} (r:RX n0 h sx nx x1 x2 s n C e) (hm:m≤n0):RX m h sx nx x1 x2 s n C e:=by
 rcases r with r | ⟨a,b,d,r⟩
 ·exact .inl r
 ·exact .inr ⟨a,b,d,r.le hm⟩
theorem RX.relock (r:RX n0 h sx nx x1 x2 s n C e) (L:List Nat):RX n0 (h.withLock L) sx nx x1 x2 s n C e:=by
 rcases r with r | ⟨a,b,d,r⟩
 ·exact .inl r
 ·exact .inr ⟨a,b,d,r.relock' L⟩
end
end Go.Tidy
namespace Go.Tidy
open Go Go.Proofs Tab
variable {tp:TProg}
theorem Free0.on {h h':TH} (f:Free0 h.next h) (x:HX h h'):Free0 h'.next h':=f.next x x.next
end Go.Tidy
namespace Go.Tidy
open Go Go.Proofs Tab
variable {tp:TProg}
theorem cellsK_get {L:List Int} {K:List Bool} {i:Nat} {x:Int} {p:Bool} (hx:L[i]?=some x) (hp:K[i]?=some p):(cellsK L K)[i]?=some (if p=true then (x,true) else (0,false)):=by
 unfold cellsK;rw [List.getElem?_zipWith,hx,hp]
theorem cellsK_ln {L:List Int} {K:List Bool} (h:K.length=L.length):(cellsK L K).length=L.length:=by simp [cellsK,h]
end Go.Tidy
namespace Go.Tidy
open Go Go.Proofs Tab
variable {tp:TProg}
structure Rows3 (h:TH) (b:Nat) (Xs:List Value) (Cs:List (List (Int × Bool))):Prop where
 at_:At h b (.cells Xs true true 174)
 len:Xs.length=Cs.length
 sl:∀ (i:Nat) (x:Value) (C:List (Int × Bool)),Xs[i]?=some x→Cs[i]?=some C→SlL encC 2 h x C
theorem Rows3.hx {h h':TH} {b:Nat} {Xs:List Value} {Cs:List (List (Int × Bool))} (r:Rows3 h b Xs Cs) (x:HX h h'):Rows3 h' b Xs Cs:=⟨r.at_.hx x,r.len,fun i y C h1 h2=>(r.sl i y C h1 h2).hx x⟩
end Go.Tidy
namespace Go.Tidy
open Go Go.Proofs Tab
variable {tp:TProg}
theorem Rows3.relock {h:TH} {b:Nat} {Xs:List Value} {Cs:List (List (Int × Bool))} (r:Rows3 h b Xs Cs) (M:List Nat):Rows3 (h.withLock M) b Xs Cs:=⟨r.at_.relock M,r.len,fun i y C h1 h2=>(r.sl i y C h1 h2).relock M⟩
end Go.Tidy
namespace Go.Tidy
open Go Go.Proofs Tab
variable {tp:TProg}
section
variable {P:Program} {α:Type} {enc:α→List Value} {n n0:Nat} {h:TH} {v:Value} {e:TypeId} {l:List α} {z:List Value} {row:Bool}
theorem slC_keep {h h':TH} {v:Value} {sz m:Nat} {c:List Value} (s:SlC h v sz m c) (k:∀ b y,bl v=some b→At h b y→At h' b y):SlC h' v sz m c:=by
 obtain ⟨bo,cap,rfl,h2,h3,h4⟩:=s
 exact ⟨bo,cap,rfl,h2,h3,h4.imp id fun ⟨b,off,cc,fix,wr,el,q1,q2,q3,q4⟩=>by subst q1;exact ⟨b,off,cc,fix,wr,el,rfl,k b _ rfl q2,q3,q4⟩⟩
theorem HX.locked {h h':TH} (x:HX h h') (M:List Nat):HX (h.withLock M) (h'.withLock M):=⟨x.next,x.floor,rfl,x.old⟩
end
end Go.Tidy
namespace Go.Tidy
open Go Go.Proofs Tab
variable {tp:TProg}
section
variable {α:Type} {k:Nat} {l:List α}
end
theorem WO.remI {P:Program} {tp:TProg} {a:Regs} {h:TH} {K:Regs→TH→Prop} {rest:List TOper} {d:Option Tmp} {ty:TypeId} {i:Nat} {x y:Operand} {t u:TypeId} {m n:Int} (hx:getO a x=some (.int .i64 m)) (hy:getO a y=some (.int .i64 n)) (hn:n≠0)
  (w:WO P tp rest (a.put d (.int .i64 (m.tmod n))) h K):WO P tp (⟨d,.binOp .rem t x y u,ty,none,[],i⟩::rest) a h K:=by
 refine WO.bi hx hy ?_ w
 have hk:Nat.beq (kindNo .i64) (kindNo .i64)=true:=Nat.beq_refl _
 have hb:(n == 0)=false:=by simpa using hn
 simp only [fastBin,hk,fastInt,hb,Bool.cond_true,Bool.cond_false]
theorem WOL.rem {P:Program} {tp:TProg} {h:TH} {K:Regs→TH→Prop} {rest:List TOper} {d:Option Tmp} {ty:TypeId} {i:Nat} {x y:Operand} {t u:TypeId} {L:Rg} {m n:Int} (hx:getL L x=some (.int .i64 m)) (hy:getL L y=some (.int .i64 n)) (hm:0≤m) (hn:0 < n) (w:∀ a,Kn (putL L d (.int .i64 (m % n))) a→WO P tp rest a h K):∀ a,Kn L a→WO P tp (⟨d,.binOp .rem t x y u,ty,none,[],i⟩::rest) a h K:=fun a k=>by
 refine WO.remI (k.o hx) (k.o hy) (by omega) ?_
 rw [Int.tmod_eq_emod_of_nonneg hm]
 exact w _ (k.put d _)
end Go.Tidy
namespace Go.Tidy
open Go Go.Proofs Tab
variable {tp:TProg}
section
variable {P:Program} {h:TH} {v:Value} {t e:TypeId} {n:Nat} {z:List Value} {row:Bool} {K:Regs→TH→Prop} {rest:List TOper} {d:Option Tmp} {ty:TypeId} {i:Nat} {x y lo hi:Operand} {L:Rg}
theorem copy_into {sT:TypeId} {b k m:Nat} {c new:List Value} {fix:Bool} {el:TypeId} (hu:P.underlying sT=some (.slice e)) (he:Tp P e n z row) (hg:At h b (.cells c fix true el)) (hc:c.length=k*n) (s:SlC h v n k new) (h1:new.all oneCell=true) (f:Free0 m h) (hb:m≤b) :
  ∃ h',copyT P #[sT,sT] #[.slice (some ⟨b,0,none⟩) k k,v] h=some (.int .i64 (k:Nat),h')∧Put h h' b (.cells new fix true el):=by
 obtain ⟨inf,q1,q2,q3,_⟩:=he.i
 have hf:=firstT_C s
 have hnl:new.length=k*n:=by obtain ⟨bo,cap,_,_,h3,_⟩:=s;exact h3
 obtain ⟨bo,cap',rfl,_⟩:=s
 have hmin:Nat.min k k=k:=Nat.min_self k
 by_cases hk:k=0
 ·subst hk
  obtain rfl:new=[]:=List.eq_nil_of_length_eq_zero (by omega)
  obtain rfl:c=[]:=List.eq_nil_of_length_eq_zero (by omega)
  refine ⟨h,?_,Put.same hg⟩
  simp only [copyT,elemInfo,List.getElem?_toArray,List.getElem?_cons_zero,List.getElem?_cons_succ,hu,Option.bind_some,q1,Option.map_some,lenT,q2,hmin,hf]
  rfl
 ·have e1:Nat.beq k 0=false:=beq_no hk
  have e4:Nat.ble (0+new.length) c.length=true:=ble_yes (by omega)
  have hp:h.put b (.cells (splice c 0 new) fix true el)=some (h.upd b (.cells (splice c 0 new) fix true el)):=f.put hb hg.lt
  have hs:splice c 0 new=new:=by
   unfold splice
   rw [List.drop_eq_nil_of_le (by omega)]
   simp
  rw [hs] at hp
  refine ⟨h.upd b (.cells new fix true el),?_,Put.mk' hg _⟩
  simp only [copyT,elemInfo,List.getElem?_toArray,List.getElem?_cons_zero,List.getElem?_cons_succ,hu,Option.bind_some,q1,Option.map_some,lenT,q2,hmin,hf,e1,Bool.cond_false,hg.get,putCells,e4,h1,Bool.and_self,Bool.cond_true,hs,hp,Option.map_some]
theorem WOL.cp {h1:TH} {ts:Array TypeId} {vx vy:Value} (hx:getL L x=some vx) (hy:getL L y=some vy) (hm:copyT P ts #[vx,vy] h=some (v,h1)) (w:∀ a,Kn (putL L d v) a→WO P tp rest a h1 K):∀ a,Kn L a→WO P tp (⟨d,.call ⟨.builtin .copy,#[x,y],ts⟩,ty,none,[],i⟩::rest) a h K:=fun a k =>
 WO.op rfl rfl (fun call=>by
  have hp:plainOp P ⟨d,.call ⟨.builtin .copy,#[x,y],ts⟩,ty,none,[],i⟩ a.eval=none:=rfl
  simp [stepOp,heapFirst,fastOp,valueOp,hp,heapOp,getO_eval (k.o hx),getO_eval (k.o hy),hm]) (w _ (k.put d _))
theorem WOL.sl {q:Addr} {m cap:Nat} {vlo vhi:Value} (hx:getL L x=some (.slice (some q) m cap)) (hl:getL L lo=some vlo) (hh:getL L hi=some vhi) (hv:sliceT P t (.slice (some q) m cap) (some vlo) (some vhi) none h=some v) (w:∀ a,Kn (putL L d v) a→WO P tp rest a h K):∀ a,Kn L a→WO P tp (⟨d,.slice t x (some lo) (some hi) none,ty,none,[],i⟩::rest) a h K :=
 fun a k=>WO.sl (k.o hx) (k.o hl) (k.o hh) hv (k.nx w)
end
def setN {α:Type} (l:List α) (p:Nat) (g:Nat→α):Nat→List α
 | 0=>l
 | i+1=>(setN l p g i).set (p+i) (g i)
section
variable {α:Type} {l:List α} {p:Nat} {g:Nat→α}
end
theorem Free0.of {n:Nat} {hb h h':TH} (f:Free0 n h) (x:HX hb h) (y:HX hb h'):Free0 n h':=⟨by rw [y.floor,← x.floor];exact f.floor,by rw [y.lock,← x.lock];exact f.lock⟩
end Go.Tidy
namespace Go.Tidy
open Go Go.Proofs Tab
variable {tp:TProg}
theorem Valid.cell {s:ByteArray} {n:Int} {F:List Nat} {S:List (Int × Int)} {L:List Int} (V:Valid s n F S L) {i:Nat} (hi:i < F.length):∃ k,(cellsL L S)[i]?=some (L.getD i 0,k):=by
 have kl:=V.kl
 have ll:=V.lev.1
 have hx:L[i]?=some L[i]:=List.getElem?_eq_getElem (by omega)
 have hp:(knownL S F.length)[i]?=some (knownL S F.length)[i]:=List.getElem?_eq_getElem (by omega)
 have hd:=V.dark.2 i _ hx
 have hg:L.getD i 0=L[i]:=by rw [List.getD_eq_getElem?_getD,hx];rfl
 rw [V.cells,cellsK_get hx hp,hg]
 generalize (knownL S F.length)[i]=k at *
 cases k with
 | true=>exact ⟨true,rfl⟩
 | false=>exact ⟨false,by rw [hd hp];rfl⟩
end Go.Tidy
namespace Go.Tidy
open Go Go.Proofs Tab
variable {tp:TProg}
theorem holeE_after {m:Nat}:∀ {S:List (Int × Int)} {prev:Int},holeE m prev S=0→∀ p,p ∈ S→prev < p.1
  | [],_,_=>fun p hp=>by cases hp
  | x::r,prev,h=>by
    have hlt:=holeE_lt h x (List.mem_cons_self ..)
    rw [holeE_cons] at h
    cases hb:badS m x with
    | true=>rw [hb] at h;cases h
    | false =>
      rw [hb] at h
      by_cases hc:x.1≤prev
      · rw [decide_eq_true hc] at h;cases h
      · rw [decide_eq_false hc] at h
        intro p hp
        rcases List.mem_cons.1 hp with rfl | hp
        · omega
        · have:=holeE_after (S:=r) (prev:=x.2) h p hp
          omega
end Go.Tidy
namespace Go.Tidy
open Go Go.Proofs Tab
theorem Samp.e0 {b:Nat} {n:Int} (s:Samp b n):SampleE b 0:=by
 obtain ⟨neg,q,h,h2,_⟩:=s.ok
 obtain ⟨m,k,hr,hq,hk⟩:=h
 obtain ⟨D,hD⟩:∃ D:Nat,2 ^ 149=D:=⟨_,rfl⟩
 have hDp:0 < D:=by rw [← hD];exact two_pow_pos 149
 have e1:=h2 D hD
 have hl:=s.lim
 have hU:m*2 ^ (k+4)=n.natAbs*D:=by rw [Nat.pow_add,← Nat.mul_assoc,← e1,hq]
 have ok:okU (m*2 ^ (k+4))=true:=by
  rw [okU_eq hD]
  unfold okD
  rw [hU,decide_eq_true (Nat.mul_le_mul_right D hl),Nat.mul_div_cancel _ hDp]
  simp
 rcases single_cases b with h | ⟨s',h⟩ | ⟨neg',m',k',N⟩
 ·rw [s.nan] at h;cases h
 ·rw [hr] at h;cases h
 ·have e:=hr.symm.trans N.read
  injection e with e1 e2 e3
  obtain rfl:k=k':=by omega
  subst e2
  have:=SampleE.num neg' m k N
  rw [ok] at this
  exact this
theorem serr_zero {F:List Nat} {L:List Int} (h:Lev F L):∃ es,SErr F es∧firstNZ es=0:=by
 refine ⟨List.replicate F.length 0,⟨by simp,fun i b e hb he=>?_⟩,?_⟩
 ·have hi:i < F.length:=(List.getElem?_eq_some_iff.1 hb).1
  have hiL:i < L.length:=by rw [← h.1];exact hi
  have hx:L[i]?=some L[i]:=List.getElem?_eq_getElem hiL
  rw [List.getElem?_replicate,if_pos hi] at he
  cases he
  exact (h.2 i b _ hb hx).e0
 ·have:∀ k,firstNZ (List.replicate k 0)=0:=by
   intro k
   induction k with
   | zero=>rfl
   | succ k ih=>rw [List.replicate_succ];show cond ((0:Int) != 0) 0 _=0;exact ih
  exact this _
def endOf (prev:Int):List (Int × Int)→Int
 | []=>prev
 | p::r=>endOf p.2 r
theorem endOf_le {i:Int}:∀ (S:List (Int × Int)) (prev:Int),prev≤i→(∀ p,p ∈ S→p.2≤i)→endOf prev S≤i
 | [],_,h,_=>h
 | x::r,prev,_,h=>endOf_le r x.2 (h x (List.mem_cons_self ..)) fun p hp=>h p (List.mem_cons_of_mem _ hp)
theorem holeE_snoc {m:Nat} (p:Int × Int):∀ (S:List (Int × Int)) (prev:Int),holeE m prev (S ++ [p])=0 ↔ holeE m prev S=0∧badS m p=false∧endOf prev S < p.1
  | [], prev => by
    show holeE m prev [p]=0 ↔ _
    rw [holeE_cons]
    cases hb:badS m p with
    | true=>simp
    | false =>
      by_cases hc:p.1≤prev
      · rw [decide_eq_true hc]
        simp only [Bool.cond_false,Bool.cond_true,endOf]
        constructor
        · intro h;cases h
        · rintro ⟨_,_,h⟩;omega
      · rw [decide_eq_false hc]
        simp only [Bool.cond_false,endOf]
        exact ⟨fun _=>⟨by trivial,by trivial,by omega⟩,fun _=>by trivial⟩
  | x::r,prev=>by
    show holeE m prev (x::(r ++ [p]))=0 ↔ _
    rw [holeE_cons,holeE_cons]
    cases hb:badS m x with
    | true=>simp
    | false =>
      by_cases hc:x.1≤prev
      · rw [decide_eq_true hc];simp
      · rw [decide_eq_false hc]
        exact holeE_snoc p r x.2
theorem badS_no {m:Nat} {p:Int × Int}:badS m p=false ↔ 0≤p.1∧p.1 < p.2∧p.2≤m:=by
 unfold badS
 simp only [Bool.or_eq_false_iff,decide_eq_false_iff_not]
 omega
structure HoleI (B:List Bool) (i:Nat) (S:List (Int × Int)):Prop where
 h0:holeE B.length (-1) S=0
 hi:∀ p,p ∈ S→p.2≤(i:Int)
 hk:∀ x:Nat,x < i→S.any (inS x)=!B.getD x false
 ho:0 < i∧B.getD (i - 1) false=false→∃ T a,S=T ++ [((a:Int),(i:Int))]
 hc:¬ (0 < i∧B.getD (i - 1) false=false)→endOf (-1) S < (i:Int)
theorem inS_past {S:List (Int × Int)} {i:Nat} (h:∀ p,p ∈ S→p.2≤(i:Int)):S.any (inS i)=false:=by
 rw [List.any_eq_false]
 intro p hp
 have:=h p hp
 unfold inS
 rw [decide_eq_false (by omega:¬ (i:Int) < p.2),Bool.and_false]
 decide
theorem holeI (B:List Bool):∀ i,i≤B.length→HoleI B i (holesN B i)
  | 0,_=>⟨rfl,fun p hp=>(by cases hp),fun x hx=>by omega,fun h=>by omega,fun _=>(by show (-1:Int) < 0;decide)⟩
  | i + 1, hle => by
    obtain ⟨h0,hi,hk,ho,hc⟩:=holeI B i (by omega)
    show HoleI B (i+1) (hstep B (holesN B i) i)
    generalize holesN B i=S at *
    have sub1:i+1 - 1=i:=by omega
    unfold hstep
    by_cases hb:B.getD i false=true
    · rw [if_pos hb]
      refine ⟨h0,fun p hp=>by have:=hi p hp;omega,fun x hx=>?_,fun h=>?_,fun _=>?_⟩
      · by_cases hxi:x < i
        · exact hk x hxi
        · obtain rfl:x=i:=by omega
          rw [inS_past hi,hb];rfl
      · rw [sub1,hb] at h;cases h.2
      · have:=endOf_le S (-1) (show (-1:Int)≤(i:Int) by omega) hi
        omega
    · have hb':B.getD i false=false:=by simpa using hb
      rw [if_neg hb]
      by_cases hp:0 < i∧B.getD (i - 1) false=false
      · rw [if_pos hp]
        obtain ⟨T,a,rfl⟩:=ho hp
        obtain ⟨t0,t1,t2⟩:=(holeE_snoc _ T (-1)).1 h0
        have t1':=badS_no.1 t1
        have hS:(T ++ [(a,(i:Int))]).set ((T ++ [(a,(i:Int))]).length - 1) (((T ++ [(a,(i:Int))]).getD ((T ++ [(a,(i:Int))]).length - 1) (0,0)).1,(i:Int)+1)=T ++ [(a,((i+1:Nat):Int))]:=by
          simp
        rw [hS]
        refine ⟨(holeE_snoc _ T (-1)).2 ⟨t0,badS_no.2 ⟨t1'.1,?_,?_⟩,t2⟩,fun p hp=>?_,fun x hx=>?_,fun _=>⟨T,a,rfl⟩,fun h=>?_⟩
        · have:a < (i:Int):=t1'.2.1
          show a < ((i+1:Nat):Int)
          omega
        · show ((i+1:Nat):Int)≤_
          omega
        · rcases List.mem_append.1 hp with hp | hp
          · have:=hi p (List.mem_append_left _ hp);omega
          · simp at hp;subst hp;exact Int.le_refl _
        · have ha:a < (i:Int):=t1'.2.1
          by_cases hxi:x < i
          · rw [← hk x hxi,List.any_append,List.any_append]
            congr 1
            simp only [List.any_cons,List.any_nil,Bool.or_false,inS]
            congr 1
            rw [decide_eq_true (by omega:(x:Int) < ((i+1:Nat):Int)),decide_eq_true (by omega:(x:Int) < (i:Int))]
          · obtain rfl:x=i:=by omega
            rw [hb',List.any_append]
            simp only [List.any_cons,List.any_nil,Bool.or_false,inS]
            rw [decide_eq_true (by omega:(x:Int) ≥ a),decide_eq_true (by omega:(x:Int) < ((x+1:Nat):Int))]
            simp
        · rw [sub1] at h
          exact absurd ⟨by omega,hb'⟩ h
      · rw [if_neg hp]
        have hc':=hc hp
        refine ⟨(holeE_snoc _ S (-1)).2 ⟨h0,badS_no.2 ⟨by show (0:Int)≤(i:Int);omega,by show (i:Int) < (i:Int)+1;omega,by show (i:Int)+1≤_;omega⟩,hc'⟩,fun p hp=>?_,fun x hx=>?_,fun _=>⟨S,(i:Int),rfl⟩,fun h=>?_⟩
        · rcases List.mem_append.1 hp with hp | hp
          · have:=hi p hp;omega
          · simp at hp;subst hp;show (i:Int)+1≤_;omega
        · rw [List.any_append]
          by_cases hxi:x < i
          · rw [← hk x hxi]
            simp only [List.any_cons,List.any_nil,Bool.or_false,inS]
            rw [decide_eq_false (by omega:¬ (x:Int) ≥ (i:Int))]
            simp
          · obtain rfl:x=i:=by omega
            rw [hb']
            simp only [List.any_cons,List.any_nil,Bool.or_false,inS]
            rw [decide_eq_true (by omega:(x:Int) ≥ (x:Int)),decide_eq_true (by omega:(x:Int) < (x:Int)+1)]
            simp
        · rw [sub1] at h
          exact absurd ⟨by omega,hb'⟩ h
theorem known_holes (B:List Bool):knownL (holesOf B) B.length=B:=by
 have H:=holeI B B.length (Nat.le_refl _)
 apply List.ext_getElem?
 intro x
 by_cases hx:x < B.length
 ·unfold knownL
  rw [List.getElem?_map,List.getElem?_range hx]
  show some (knownB (holesOf B) x)=_
  unfold knownB
  rw [show (holesOf B).any (inS x)=!B.getD x false from H.hk x hx,Bool.not_not,List.getD_eq_getElem?_getD,List.getElem?_eq_getElem hx]
  rfl
 ·rw [List.getElem?_eq_none (by rw [knownL_len];omega),List.getElem?_eq_none (by omega)]
theorem holes_ok (B:List Bool):holeE B.length (-1) (holesOf B)=0:=(holeI B B.length (Nat.le_refl _)).h0
def DarkC (C:List (Int × Bool)):Prop:=∀ c,c ∈ C→c.2=false→c.1=0
theorem made_run {s:ByteArray} {n:Int} {C:List (Int × Bool)} (hd:headE s n C.length=0) (hn:n+C.length≤100000000) (lim:∀ c,c ∈ C→c.1.natAbs≤16384) (dk:DarkC C) :
    ∃ es,SErr (C.map fun c=>smp c.1) es∧Lev (C.map fun c=>smp c.1) (C.map fun c=>c.1)∧runE s n (C.map fun c=>smp c.1).length (holesOf (C.map fun c=>c.2)) es (C.map fun c=>c.1)=0∧Valid s n (C.map fun c=>smp c.1) (holesOf (C.map fun c=>c.2)) (C.map fun c=>c.1)∧cellsL (C.map fun c=>c.1) (holesOf (C.map fun c=>c.2))=C:=by
  have hL:=lev_smp lim
  obtain ⟨es,hE,h0⟩:=serr_zero hL
  have hlen:(C.map fun c=>smp c.1).length=C.length:=by simp
  have hlen2:(C.map fun c=>c.2).length=C.length:=by simp
  have ho:holeE C.length (-1) (holesOf (C.map fun c=>c.2))=0:=by have:=holes_ok (C.map fun c=>c.2);rwa [hlen2] at this
  have hK:knownL (holesOf (C.map fun c=>c.2)) C.length=C.map fun c=>c.2:=by have:=known_holes (C.map fun c=>c.2);rwa [hlen2] at this
  have hin:=holeE_in ho
  have hform:(holesOf (C.map fun c=>c.2)).any (anyIn (C.map fun c=>c.1))=false:=by
    cases hb:(holesOf (C.map fun c=>c.2)).any (anyIn (C.map fun c=>c.1)) with
    | false=>rfl
    | true =>
      obtain ⟨j,x,hj,hx,hk⟩:=(form_iff hin).1 hb
      rw [List.getElem?_map] at hj
      cases hc:C[j]? with
      | none=>rw [hc] at hj;cases hj
      | some c =>
        have hjl:j < C.length:=(List.getElem?_eq_some_iff.1 hc).1
        have hkj:(knownL (holesOf (C.map fun c=>c.2)) C.length)[j]?=some (knownB (holesOf (C.map fun c=>c.2)) j):=by
          unfold knownL
          rw [List.getElem?_map,List.getElem?_range hjl];rfl
        rw [hK,List.getElem?_map,hc,hk] at hkj
        rw [hc] at hj
        exact absurd ((Option.some.inj hj).symm.trans (dk c (List.mem_of_getElem? hc) (Option.some.inj hkj))) hx
  obtain ⟨_,n0,n1,hm⟩:=headE_zero hd
  have hr:runE s n (C.map fun c=>smp c.1).length (holesOf (C.map fun c=>c.2)) es (C.map fun c=>c.1)=0:=by
    unfold runE tailE formE
    rw [hlen,hd,h0,ho,hform,decide_eq_false (by omega)]
    rfl
  refine ⟨es,hE,hL,hr,valid_of (fun _=>hL) hr,?_⟩
  rw [cells_eq hL (by rw [hlen];exact hin),hlen,hK]
  apply List.ext_getElem?
  intro i
  cases hc:C[i]? with
  | none =>
    have:C.length≤i:=List.getElem?_eq_none_iff.1 hc
    rw [List.getElem?_eq_none (by rw [cellsK_ln (by simp)];simp;omega)]
  | some c =>
    rw [cellsK_get (x:=c.1) (p:=c.2) (by rw [List.getElem?_map,hc];rfl) (by rw [List.getElem?_map,hc];rfl)]
    obtain ⟨x,k⟩:=c
    cases k with
    | true=>rfl
    | false =>
      have h1:x=0:=dk _ (List.mem_of_getElem? hc) rfl
      subst h1;rfl
end Go.Tidy
namespace Go.Tidy
open Go Go.Proofs Tab
theorem known_no {S:List (Int × Int)} {x:Int}:knownB S x=false ↔ ∃ p,p ∈ S∧p.1≤x∧x < p.2:=by
 unfold knownB
 rw [Bool.not_eq_false',List.any_eq_true]
 constructor
 ·rintro ⟨p,hp,h⟩
  unfold inS at h
  simp only [Bool.and_eq_true,decide_eq_true_eq] at h
  exact ⟨p,hp,h.1,h.2⟩
 ·rintro ⟨p,hp,h1,h2⟩
  refine ⟨p,hp,?_⟩
  unfold inS
  rw [decide_eq_true h1,decide_eq_true h2];rfl
theorem holeE_tail {m:Nat} {prev:Int} {p:Int × Int} {r:List (Int × Int)} (h:holeE m prev (p::r)=0):badS m p=false∧prev < p.1∧holeE m p.2 r=0:=by
 rw [holeE_cons] at h
 cases hb:badS m p with
 | true=>rw [hb] at h;cases h
 | false =>
  rw [hb] at h
  by_cases hc:p.1≤prev
  ·rw [decide_eq_true hc] at h;cases h
  ·rw [decide_eq_false hc] at h
   exact ⟨rfl,by omega,h⟩
theorem known_tail {p:Int × Int} {r:List (Int × Int)} {x:Int} (hx:p.2≤x):knownB (p::r) x=knownB r x:=by
 unfold knownB
 rw [List.any_cons]
 unfold inS
 rw [decide_eq_false (by omega:¬ x < p.2),Bool.and_false,Bool.false_or]
theorem holes_first {m:Nat} {prev:Int} {p:Int × Int} {r:List (Int × Int)} (h:holeE m prev (p::r)=0) {x:Int} (hx:knownB (p::r) x=false):p.1≤x:=by
 obtain ⟨q,hq,h1,_⟩:=known_no.1 hx
 obtain ⟨b,_,t⟩:=holeE_tail h
 have:=badS_no.1 b
 rcases List.mem_cons.1 hq with rfl | hq
 ·exact h1
 ·have:=holeE_after t q hq
  omega
theorem holes_end {m:Nat} {prev:Int} {p:Int × Int} {r:List (Int × Int)} (h:holeE m prev (p::r)=0):knownB (p::r) p.2=true:=by
 cases hb:knownB (p::r) p.2 with
 | true=>rfl
 | false =>
  rw [known_tail (Int.le_refl _)] at hb
  obtain ⟨q,hq,h1,_⟩:=known_no.1 hb
  have:=holeE_after (holeE_tail h).2.2 q hq
  omega
theorem holes_uniq {m:Nat}:∀ {S T:List (Int × Int)} {prev:Int},-1≤prev→holeE m prev S=0→holeE m prev T=0→(∀ x:Nat,prev < (x:Int)→knownB S x=knownB T x)→S=T
  | [],[],_,_,_,_,_=>rfl
  | [],q::t,prev,h0,_,hT,h=>by
    obtain ⟨b,a,_⟩:=holeE_tail hT
    have b':=badS_no.1 b
    obtain ⟨x,hx⟩:=Int.eq_ofNat_of_zero_le b'.1
    have h1:=h x (by omega)
    rw [show knownB (q::t) (x:Int)=false from known_no.2 ⟨q,List.mem_cons_self ..,by omega,by omega⟩] at h1
    cases h1
  | p::r,[],prev,h0,hS,_,h=>by
    obtain ⟨b,a,_⟩:=holeE_tail hS
    have b':=badS_no.1 b
    obtain ⟨x,hx⟩:=Int.eq_ofNat_of_zero_le b'.1
    have h1:=h x (by omega)
    rw [show knownB (p::r) (x:Int)=false from known_no.2 ⟨p,List.mem_cons_self ..,by omega,by omega⟩] at h1
    cases h1
  | p::r,q::t,prev,h0,hS,hT,h=>by
    obtain ⟨b,a,tS⟩:=holeE_tail hS
    obtain ⟨c,d,tT⟩:=holeE_tail hT
    have b':=badS_no.1 b
    have c':=badS_no.1 c
    obtain ⟨p1,p2⟩:=p
    obtain ⟨q1,q2⟩:=q
    simp only at b' c' a d
    obtain ⟨x,rfl⟩:=Int.eq_ofNat_of_zero_le b'.1
    obtain ⟨y,rfl⟩:=Int.eq_ofNat_of_zero_le c'.1
    obtain ⟨u,rfl⟩:=Int.eq_ofNat_of_zero_le (show 0≤p2 by omega)
    obtain ⟨v,rfl⟩:=Int.eq_ofNat_of_zero_le (show 0≤q2 by omega)
    have e1:(y:Int)≤x:=holes_first hT (x:=(x:Int)) (by rw [← h x a];exact known_no.2 ⟨_,List.mem_cons_self ..,Int.le_refl _,b'.2.1⟩)
    have e2:(x:Int)≤y:=holes_first hS (x:=(y:Int)) (by rw [h y d];exact known_no.2 ⟨_,List.mem_cons_self ..,Int.le_refl _,c'.2.1⟩)
    obtain rfl:x=y:=by omega
    have f1:¬ (u:Int) < v:=fun hl=>by
      have:=h u (by omega)
      rw [show knownB (((x:Int),(u:Int))::r) (u:Int)=true from holes_end hS,show knownB (((x:Int),(v:Int))::t) (u:Int)=false from known_no.2 ⟨_,List.mem_cons_self ..,by show (x:Int)≤u;omega,hl⟩] at this
      cases this
    have f2:¬ (v:Int) < u:=fun hl=>by
      have:=h v (by omega)
      rw [show knownB (((x:Int),(v:Int))::t) (v:Int)=true from holes_end hT,show knownB (((x:Int),(u:Int))::r) (v:Int)=false from known_no.2 ⟨_,List.mem_cons_self ..,by show (x:Int)≤v;omega,hl⟩] at this
      cases this
    obtain rfl:u=v:=by omega
    congr 1
    refine holes_uniq (prev:=(u:Int)) (by omega) tS tT fun z hz=>?_
    have:=h z (by omega)
    rwa [known_tail (by show (u:Int)≤z;omega),known_tail (by show (u:Int)≤z;omega)] at this
theorem known_past {m:Nat} {S:List (Int × Int)} (hin:In m S) {x:Int} (hx:(m:Int)≤x):knownB S x=true:=by
 cases hb:knownB S x with
 | true=>rfl
 | false =>
  obtain ⟨p,hp,h1,h2⟩:=known_no.1 hb
  have:=(hin p hp).2.2
  omega
theorem knownL_get {S:List (Int × Int)} {m i:Nat} (hi:i < m):(knownL S m)[i]?=some (knownB S i):=by
 unfold knownL
 rw [List.getElem?_map,List.getElem?_range hi];rfl
theorem holesOf_get {K:List Bool} {i:Nat} (hi:i < K.length):K[i]?=some (knownB (holesOf K) i):=by
 have:=knownL_get (S:=holesOf K) hi
 rwa [known_holes] at this
theorem holes_back {m:Nat} {S:List (Int × Int)} (h:holeE m (-1) S=0):holesOf (knownL S m)=S:=by
 have hl:=knownL_len S m
 have h2:=holes_ok (knownL S m)
 rw [hl] at h2
 refine holes_uniq (Int.le_refl _) h2 h fun x _=>?_
 by_cases hx:x < m
 ·have e1:=holesOf_get (K:=knownL S m) (i:=x) (by omega)
  rw [knownL_get hx] at e1
  exact (Option.some.inj e1).symm
 ·rw [known_past (holeE_in h2) (by omega),known_past (holeE_in h) (by omega)]
end Go.Tidy
namespace Go.Tidy
open Go Go.Proofs Tab
variable {tp:TProg}
structure Cel (s:ByteArray) (n:Int) (F:List Nat) (es:List Int) (C:List (Int × Bool)):Prop where
 len:F.length=C.length
 e:SErr F es
 lev:Lev F (C.map fun c=>c.1)
 r:runE s n F.length (holesOf (C.map fun c=>c.2)) es (C.map fun c=>c.1)=0
 v:Valid s n F (holesOf (C.map fun c=>c.2)) (C.map fun c=>c.1)
 c:cellsL (C.map fun c=>c.1) (holesOf (C.map fun c=>c.2))=C
def RunC (s:ByteArray) (n:Int) (h:TH) (v1 v2:Value) (C:List (Int × Bool)):Prop:=∃ F es,RunH h v1 v2 F (holesOf (C.map fun c=>c.2))∧Cel s n F es C
theorem RunC.hx {s:ByteArray} {n:Int} {h h':TH} {v1 v2:Value} {C:List (Int × Bool)} (r:RunC s n h v1 v2 C) (x:HX h h'):RunC s n h' v1 v2 C:=by
 obtain ⟨F,es,r,c⟩:=r
 exact ⟨F,es,r.hx x,c⟩
section
variable {s:ByteArray} {n:Int} {F:List Nat} {es L:List Int} {S:List (Int × Int)} {C:List (Int × Bool)}
theorem Cel.lim (c:Cel s n F es C):∀ x,x ∈ C→x.1.natAbs≤16384:=by have:=c.v.lim;rwa [c.c] at this
theorem Cel.head (c:Cel s n F es C):headE s n C.length=0:=by
 have:=c.r
 unfold runE at this
 rw [c.len] at this
 rcases nz_cases (headE s n C.length) with h | h
 ·exact h
 ·rw [h] at this;rw [show headE s n C.length=0 from this] at h;cases h
theorem Valid.back (V:Valid s n F S L):((cellsL L S).map fun c=>c.1)=L∧holesOf ((cellsL L S).map fun c=>c.2)=S:=by
 have kl:=V.kl
 have ll:=V.lev.1
 constructor
 ·apply List.ext_getElem?
  intro i
  rw [List.getElem?_map]
  by_cases hi:i < F.length
  ·obtain ⟨k,hk⟩:=V.cell hi
   rw [hk,List.getElem?_eq_getElem (by omega:i < L.length)]
   simp [List.getD_eq_getElem?_getD,List.getElem?_eq_getElem (by omega:i < L.length)]
  ·rw [List.getElem?_eq_none (by rw [cells_len V.lev V.in_];omega),List.getElem?_eq_none (by omega)]
   rfl
 ·rw [V.cells,cellsK_snd kl,holes_back V.hole]
theorem Cel.of (V:Valid s n F S L) (hE:SErr F es) (h0:runE s n F.length S es L=0):Cel s n F es (cellsL L S):=by
 obtain ⟨b1,b2⟩:=V.back
 refine ⟨(cells_len V.lev V.in_).symm,hE,by rw [b1];exact V.lev,by rw [b1,b2];exact h0,by rw [b1,b2];exact V,by rw [b1,b2]⟩
theorem Cel.made (hd:headE s n C.length=0) (hn:n+C.length≤100000000) (lim:∀ c,c ∈ C→c.1.natAbs≤16384) (dk:DarkC C):∃ es,Cel s n (C.map fun c=>smp c.1) es C:=by
 obtain ⟨es,e1,e2,e3,e4,e5⟩:=made_run hd hn lim dk
 exact ⟨es,by simp,e1,e2,e3,e4,e5⟩
theorem RunO.cel {B:Nat} {h:TH} {w1 w2:Value} (o:RunO B h w1 w2 (C.map fun c=>smp c.1) (holesOf (C.map fun c=>c.2))) (hd:headE s n C.length=0) (hn:n+C.length≤100000000) (lim:∀ c,c ∈ C→c.1.natAbs≤16384) (dk:DarkC C):RunC s n h w1 w2 C:=by
 obtain ⟨es,c⟩:=Cel.made hd hn lim dk
 exact ⟨_,es,o.r,c⟩
end
section
variable {s:ByteArray} {n:Int} {h:TH} {v1 v2 w1 w2:Value} {C D:List (Int × Bool)}
def NewC (s:ByteArray) (n:Int) (C:List (Int × Bool)) (h:TH) (v:Value) (h':TH):Prop :=
 ∃ bo1 l1 k1 bo2 l2 k2,v=.tuple #[runV s n (.slice bo1 l1 k1) (.slice bo2 l2 k2),.int .i64 0]∧HX h h'∧RunC s n h' (.slice bo1 l1 k1) (.slice bo2 l2 k2) C∧Above h.next (.slice bo1 l1 k1)∧Above h.next (.slice bo2 l2 k2)
theorem RunR.new {h':TH} {v:Value} (r:RunR h h' v s n C 0) (hd:headE s n C.length=0) (hn:n+C.length≤100000000) (lim:∀ c,c ∈ C→c.1.natAbs≤16384) (dk:DarkC C):NewC s n C h v h':=by
 obtain ⟨X,⟨he,_⟩ | ⟨_,w1,w2,rfl,O⟩⟩:=r
 ·exact absurd rfl he
 ·obtain ⟨bo1,k1,rfl⟩:=O.r.f.form
  obtain ⟨bo2,k2,rfl⟩:=O.r.s.form
  exact ⟨_,_,_,_,_,_,rfl,X,O.cel hd hn lim dk,O.o1,O.o2⟩
end
end Go.Tidy
namespace Go.Tidy
open Go Go.Proofs Tab
variable {tp:TProg}
section
variable {s:ByteArray} {n:Int} {g:TH} {v1 v2 p1 p2:Value} {C:List (Int × Bool)} {c2 c3 c5':Nat}
theorem RunC.relock (r:RunC s n g v1 v2 C) (M:List Nat):RunC s n (g.withLock M) v1 v2 C:=by
 obtain ⟨F,es,r,c⟩:=r
 exact ⟨F,es,r.relock' M,c⟩
end
attribute [local irreducible] Ty valOf
end Go.Tidy
namespace Go.Tidy
open Go Go.Proofs Tab
variable {tp:TProg}
theorem Samp.order {b c:Nat} {n m:Int} (s:Samp b n) (t:Samp c m):Ieee.single.order b c=some (compare n m):=by
 obtain ⟨neg,q,h1,h2,h3⟩:=s.ok
 obtain ⟨neg',q',g1,g2,g3⟩:=t.ok
 obtain ⟨D,hD⟩:∃ D:Nat,2 ^ 149=D:=⟨_,rfl⟩
 have hDp:0 < D:=by rw [← hD];exact two_pow_pos 149
 have e1:=h2 D hD
 have e2:=g2 D hD
 have a1:sg neg q*(16:Nat)=n*(D:Nat):=by rw [← sg_mul,e1,sg_mul,h3]
 have a2:sg neg' q'*(16:Nat)=m*(D:Nat):=by rw [← sg_mul,e2,sg_mul,g3]
 rw [h1.order g1]
 generalize sg neg q=x at *
 generalize sg neg' q'=y at *
 have hDi:(0:Int) < (D:Int):=by omega
 have hlt:x < y ↔ n < m:=by
  constructor
  ·intro hq
   have:n*(D:Int) < m*(D:Int):=by rw [← a1,← a2];omega
   exact Int.lt_of_mul_lt_mul_right this (by omega)
  ·intro hq
   have:n*(D:Int) < m*(D:Int):=Int.mul_lt_mul_of_pos_right hq hDi
   rw [← a1,← a2] at this
   omega
 have heq:x=y ↔ n=m:=by
  constructor
  ·intro hq
   rw [hq,a2] at a1
   exact (Int.eq_of_mul_eq_mul_right (by omega) a1).symm
  ·intro hq
   rw [hq,← a2] at a1
   omega
 congr 1
 show compareOfLessAndEq _ _=compareOfLessAndEq _ _
 unfold compareOfLessAndEq
 simp only [hlt,heq]
section
variable {P:Program} {h:TH} {K:Regs→TH→Prop} {rest:List TOper} {d:Option Tmp} {ty:TypeId} {i:Nat} {x y:Operand} {t u:TypeId} {L:Rg}
end
end Go.Tidy
namespace Go.Tidy
open Go Go.Proofs Tab
variable {tp:TProg}
theorem u228:Tryz.prog.underlying 253=some (.int .u64):=by kernel_rfl
end Go.Tidy
namespace Go.Tidy
open Go Go.Proofs Tab
variable {tp:TProg}
section
variable {P:Program} {h:TH} {K:Regs→TH→Prop} {rest:List TOper} {d:Option Tmp} {ty:TypeId} {i:Nat} {x y:Operand} {t u:TypeId} {L:Rg}
theorem pv_shr {n:Int} {s:Nat} {yk:IntKind} {t:TypeId} (hs:s≤64) (h0:0≤n):pv P (binOp .shr t (.int .i64 n) (.int yk (s:Nat)))=some (.int .i64 (n / 2 ^ s)):=by
 show pv P (Op.shift .shr .i64 n yk s)=_
 unfold Op.shift
 rw [if_neg (by omega)]
 show some (Value.int .i64 (n.fdiv (2 ^ (min (s:Int).toNat IntKind.i64.bits))))=_
 have e:min (s:Int).toNat IntKind.i64.bits=s:=by
  have:IntKind.i64.bits=64:=rfl
  rw [this];omega
 rw [e,Int.fdiv_eq_ediv_of_nonneg _ (Int.le_of_lt (Int.pow_pos (by decide)))]
theorem WOL.pbin {op:BinOp} {vx vy v:Value} (hx:getL L x=some vx) (hy:getL L y=some vy) (px:plain vx=true) (py:plain vy=true) (hf:fastBin op vx vy=none) (hq:op≠.eql∧op≠.neq) (hv:pv P (binOp op t vx vy)=some v) (hp:plain v=true) (w:∀ a,Kn (putL L d v) a→WO P tp rest a h K):∀ a,Kn L a→WO P tp (⟨d,.binOp op t x y u,ty,none,[],i⟩::rest) a h K:=fun a k=>by
 have ex:=getO_eval (k.o hx)
 have ey:=getO_eval (k.o hy)
 refine WO.plainly rfl rfl rfl (by simp only [fastOp,ex,ey];exact hf) (by cases op <;> first | rfl | exact absurd rfl hq.1 | exact absurd rfl hq.2) (plainOp_of (by rfl) (fun q hq=>?_) ?_ hp) (w _ (k.put d _))
 ·simp only [Op.operands] at hq
  simp at hq
  rcases hq with rfl | rfl
  ·rw [ex];exact px
  ·rw [ey];exact py
 ·have e:eqGuard op t x y vx vy=(pure ():Sem Unit):=by
   unfold eqGuard
   cases op <;> first | rfl | exact absurd rfl hq.1 | exact absurd rfl hq.2
  simp [toOper,execOp,pv_bind,pv_map,pv_pure,ex,ey,e,hv]
theorem WOL.shr {n:Int} {s:Nat} {yk:IntKind} (hx:getL L x=some (zi n)) (hy:getL L y=some (.int yk (s:Nat))) (hs:s≤64) (h0:0≤n) (w:∀ a,Kn (putL L d (zi (n / 2 ^ s))) a→WO P tp rest a h K):∀ a,Kn L a→WO P tp (⟨d,.binOp .shr t x y u,ty,none,[],i⟩::rest) a h K :=
 WOL.pbin hx hy rfl rfl (by show cond _ (fastInt .shr _ _ _) none=none;cases Nat.beq _ _ <;> rfl) ⟨by decide,by decide⟩ (pv_shr hs h0) rfl w
end
def encY (b:Nat):List Value:=[.int .u8 (b:Nat)]
theorem eY:Enc encY 1:=⟨fun _=>rfl,fun _=>rfl⟩
section
variable {h:TH} {v:Value} {l:List Nat} {c:Nat}
end
def Byt (l:List Nat):Prop:=∀ b,b ∈ l→b < 256
theorem Byt.at {l:List Nat} (h:Byt l) (j:Nat):l.getD j 0 < 256:=by
 rw [List.getD_eq_getElem?_getD]
 cases hj:l[j]? with
 | none=>show (0:Nat) < 256;decide
 | some b=>exact h b (List.mem_of_getElem? hj)
section
variable {h:TH} {l:List Nat} {bo:Option Addr} {n k:Nat}
end
end Go.Tidy
namespace Go.Tidy
open Go Go.Proofs Tab
variable {tp:TProg}
def trcV (n:Int) (v1 v2:Value):Value:=.agg #[.int .i64 n,v1,v2]
structure TrcH (h:TH) (v1 v2:Value) (L:List Int) (S:List (Int × Int)):Prop where
 l:SlL encI 1 h v1 L
 s:SlL encS 2 h v2 S
 g:Fits h v1 3
theorem TrcH.hx {h h':TH} {v1 v2:Value} {L:List Int} {S:List (Int × Int)} (r:TrcH h v1 v2 L S) (x:HX h h'):TrcH h' v1 v2 L S:=⟨r.l.hx x,r.s.hx x,r.g.hx x⟩
theorem TrcH.relock {h:TH} {v1 v2:Value} {L:List Int} {S:List (Int × Int)} (r:TrcH h v1 v2 L S) (M:List Nat):TrcH (h.withLock M) v1 v2 L S:=⟨r.l.relock M,r.s.relock M,fun b off m cap e=>by
 obtain ⟨cc,fix,wr,el,r1,r2⟩:=r.g b off m cap e
 exact ⟨cc,fix,wr,el,r1.relock _,r2⟩⟩
def readE (x:Int):Int:=outB x (-1073741824) 1073741824
def traceE (n:Int) (L:List Int) (S:List (Int × Int)):Int :=
 firstNZ [outB n 0 100000000,cond (decide ((L.length:Int) > 4096)) 5 0,cond (decide (n+(L.length:Int) > 100000000)) 4 0,firstNZ (L.map readE),cond (holeE L.length (-1) S != 0) (holeE L.length (-1) S) (formE L S)]
theorem tp1114:Tp Tryz.prog 52 3 [.int .i64 0,.slice none 0 0,.slice none 0 0] true:=tp_of (by kernel_rfl) (by kernel_rfl) rfl
theorem tp1117:Tp Tryz.prog 55 3 [.int .i64 0,.slice none 0 0,.slice none 0 0] true:=tp_of (by kernel_rfl) (by kernel_rfl) rfl
theorem tp29:Tp Tryz.prog 24 1 [.slice none 0 0] false:=tp_of (by kernel_rfl) (by kernel_rfl) rfl
theorem fo1114_0:fieldOff Tryz.prog 52 0=some 0:=by kernel_rfl
theorem fo1114_1:fieldOff Tryz.prog 52 1=some 1:=by kernel_rfl
theorem fo1114_2:fieldOff Tryz.prog 52 2=some 2:=by kernel_rfl
theorem fo1117_0:fieldOff Tryz.prog 55 0=some 0:=by kernel_rfl
theorem fo1117_1:fieldOff Tryz.prog 55 1=some 1:=by kernel_rfl
theorem fo1117_2:fieldOff Tryz.prog 55 2=some 2:=by kernel_rfl
section
variable {h:TH}
theorem k1191 (H:Has tp) (x:Int) (h:TH):CallW Tryz.prog tp (.func (.func 99) #[] #[]) #[zi x] h fun v h'=>v=zi (readE x)∧h'=h:=by
 refine CallW.fnL (H.fn 99 f1191 rfl rfl) ?_
 refine WL.sr<|WOL.as rfl<|WOL.nil ?_
 refine WL.sr<|WOL.mv rfl<|WOL.cl3 rfl rfl rfl rfl ((k72 H x _ _ _).mono ?_)
 rintro v h2 ⟨rfl,rfl⟩
 exact WOL.as rfl<|WOL.nil<|WL.ret (WL.end_ rfl ⟨rfl,rfl⟩)
theorem k1187 (H:Has tp) (x:Int) (h:TH):CallW Tryz.prog tp (.func (.func 95) #[] #[]) #[zi x] h fun v h'=>v=zi (readE x)∧h'=h:=by
 refine CallW.fnL (H.fn 95 f1187 rfl rfl) ?_
 refine WL.sr<|WOL.as rfl<|WOL.nil ?_
 refine WL.sr<|WOL.mv rfl<|WOL.cl3 rfl rfl rfl rfl ((k14 H x _ _ _).mono ?_)
 rintro v h2 ⟨rfl,rfl⟩
 exact WOL.as rfl<|WOL.nil<|WL.ret (WL.end_ rfl ⟨rfl,rfl⟩)
theorem k1118 (H:Has tp) {l:List Int} {b c:Nat} {fix wr:Bool} {el:TypeId} {h:TH} (hg:At h b (.cells (l.map (.int .i64)) fix wr el)) (hl:l.length≤1000000):CallW Tryz.prog tp (.func (.func 16) #[] #[]) #[.slice (some ⟨b,0,none⟩) l.length c] h fun v h'=>v=zi (firstNZ l)∧h'=h:=by
 refine CallW.fnL (H.fn 16 f1118 rfl rfl) ?_
 refine WL.sr<|WOL.as rfl<|WOL.nil ?_
 refine WL.sr<|WOL.mv rfl<|WOL.cl1 rfl rfl ((k13 H hg.get hl).mono ?_)
 rintro v h2 ⟨rfl,rfl⟩
 exact WOL.as rfl<|WOL.nil<|WL.ret (WL.end_ rfl ⟨rfl,rfl⟩)
def shortB2 (m k:Nat):Bool:=cond (cond (decide ((m:Int)≤60)) true ((m:Int) == 4097)) (decide ((k:Int)≤12)) false
theorem k1112 (H:Has tp) {n:Int} {v1 v2:Value} {L:List Int} {S:List (Int × Int)} (r:TrcH h v1 v2 L S):CallW Tryz.prog tp (.func (.func 23) #[] #[]) #[trcV n v1 v2] h fun v h'=>v=.bool (shortB2 L.length S.length)∧HX h h':=by
 refine CallW.fnL (H.fn 23 f1112 rfl rfl) ?_
 refine WL.sr<|WOL.box rfl fun h1 N1=>WOL.as rfl<|WOL.nil<|keep [(1,_)] ⟨rfl,trivial⟩ ?_
 have A1:At h1 h.next (.cells [zi n,v1,v2] true true 52):=N1.at_
 replace r:=r.hx N1.hx
 refine WL.sr<|WOL.fa rfl (fa_of fo1114_1)<|WOL.ld rfl (load_one tp29 A1 rfl)<|WOL.len rfl r.l u29<|WOL.bi (v:=.bool (decide ((L.length:Int)≤60))) rfl rfl rfl<|WOL.mv rfl ?_
 unfold shortB2
 cases decide ((L.length:Int)≤60) with
 | true =>
  refine WOL.skp (b:=true) rfl rfl<|WOL.skp (b:=true) rfl rfl<|WOL.skp (b:=true) rfl rfl<|WOL.skp (b:=true) rfl rfl<|WOL.pkt rfl rfl<|WOL.mv rfl<|WOL.now (b:=true) rfl rfl<|WOL.fa rfl (fa_of fo1114_2)<|WOL.now (b:=true) rfl rfl<|WOL.ld rfl (load_one tp44 A1 rfl)<|WOL.now (b:=true) rfl rfl<|WOL.len rfl r.s u44<|WOL.now (b:=true) rfl rfl<|WOL.bi (v:=.bool (decide ((S.length:Int)≤12))) rfl rfl rfl<|WOL.pkt rfl rfl<|WOL.as rfl<|WOL.nil ?_
  exact WL.ret (WL.end_ rfl ⟨rfl,N1.hx⟩)
 | false =>
  refine WOL.now (b:=false) rfl rfl<|WOL.fa rfl (fa_of fo1114_1)<|WOL.now (b:=false) rfl rfl<|WOL.ld rfl (load_one tp29 A1 rfl)<|WOL.now (b:=false) rfl rfl<|WOL.len rfl r.l u29<|WOL.now (b:=false) rfl rfl<|WOL.bi (v:=.bool ((L.length:Int) == 4097)) rfl rfl rfl<|WOL.pkf rfl rfl<|WOL.mv rfl ?_
  cases ((L.length:Int) == 4097) with
  | true =>
   refine WOL.now (b:=true) rfl rfl<|WOL.fa rfl (fa_of fo1114_2)<|WOL.now (b:=true) rfl rfl<|WOL.ld rfl (load_one tp44 A1 rfl)<|WOL.now (b:=true) rfl rfl<|WOL.len rfl r.s u44<|WOL.now (b:=true) rfl rfl<|WOL.bi (v:=.bool (decide ((S.length:Int)≤12))) rfl rfl rfl<|WOL.pkt rfl rfl<|WOL.as rfl<|WOL.nil ?_
   exact WL.ret (WL.end_ rfl ⟨rfl,N1.hx⟩)
  | false =>
   refine WOL.skp (b:=false) rfl rfl<|WOL.skp (b:=false) rfl rfl<|WOL.skp (b:=false) rfl rfl<|WOL.skp (b:=false) rfl rfl<|WOL.pkf rfl rfl<|WOL.as rfl<|WOL.nil ?_
   exact WL.ret (WL.end_ rfl ⟨rfl,N1.hx⟩)
theorem k1183 (H:Has tp) {n:Int} {v1 v2:Value} {L:List Int} (s:SlL encI 1 h v1 L):CallW Tryz.prog tp (.func (.func 91) #[] #[]) #[trcV n v1 v2] h fun v h'=>v=zi (fwrap .i64 (n+L.length))∧HX h h':=by
 refine CallW.fnL (H.fn 91 f1183 rfl rfl) ?_
 refine WL.sr<|WOL.box rfl fun h1 N1=>WOL.as rfl<|WOL.nil<|keep [(1,_)] ⟨rfl,trivial⟩ ?_
 have A1:At h1 h.next (.cells [zi n,v1,v2] true true 55):=N1.at_
 refine WL.sr<|WOL.fa rfl (fa_of fo1117_0)<|WOL.ld rfl (load_one tp3 A1 rfl)<|WOL.fa rfl (fa_of fo1117_1)<|WOL.ld rfl (load_one tp29 A1 rfl)<|WOL.len rfl (s.hx N1.hx) u29<|WOL.bi (v:=zi (fwrap .i64 (n+L.length))) rfl rfl rfl<|WOL.as rfl<|WOL.nil ?_
 exact WL.ret (WL.end_ rfl ⟨rfl,N1.hx⟩)
end
theorem fNZ_at {E:List Int} {j:Nat} {e:Int} (h1:∀ i,i < j→E.getD i 0=0) (h2:E[j]?=some e) (h3:e≠0):firstNZ E=e:=by
 rw [firstNZ_drop h1]
 have hj:=(List.getElem?_eq_some_iff.1 h2).1
 rw [List.drop_eq_getElem_cons hj,(List.getElem?_eq_some_iff.1 h2).2]
 show cond (e != 0) e _=e
 rw [bne_iff_ne.2 h3];rfl
theorem fNZ_all {E:List Int} (h:∀ i,i < E.length→E.getD i 0=0):firstNZ E=0:=by
 rw [firstNZ_drop h,List.drop_length];rfl
section
variable {h:TH} {v:Value} {L:List Int}
set_option maxHeartbeats 1000000 in
theorem k1190 (H:Has tp) (s:SlL encI 1 h v L) (hl:L.length≤1000000) {f:Int→Int} {fv:Value} (hf:∀ x,CallW Tryz.prog tp fv #[zi x] h fun v h'=>v=zi (f x)∧h'=h):CallW Tryz.prog tp (.func (.func 98) #[] #[]) #[v,fv] h fun w h'=>w=zi (firstNZ (L.map f))∧h'=h:=by
  refine CallW.fnL (H.fn 98 f1190 rfl rfl) ?_
  refine WL.sr<|WOL.as rfl<|WOL.nil ?_
  refine WL.seq<|WL.sr<|WOL.mv rfl<|WOL.len rfl s u29<|WOL.mv rfl<|WOL.nil<|keep [(1,_),(8,_),(9,_),(10,_)] ⟨rfl,rfl,rfl,rfl,trivial⟩ ?_
  refine WL.upto (α:=Unit) L.length (fun j _ g=>g=h∧∀ i,i < j→(L.map f).getD i 0=0) (fun _ _=>[(1,fv),(8,v),(9,zi (L.length:Nat))]) () rfl rfl (by omega) ⟨rfl,fun i hi=>absurd hi (by omega)⟩ ⟨rfl,rfl,rfl,rfl,trivial⟩ (fun _ _=>rfl) (fun _ _ _=>⟨rfl,rfl,rfl,rfl,trivial⟩) (fun _ _ _=>⟨rfl,rfl,rfl,rfl,trivial⟩) ?_ ?_
  · rintro j _ g hj ⟨rfl,hz⟩
    have hp:L[j]?=some L[j]:=List.getElem?_eq_getElem hj
    generalize L[j]=x at hp
    obtain ⟨b,o,cc,fix,wr,el,g1,g2,g3,g4,g5⟩:=s.at eI u29 tp3 hp .i64
    have he:(L.map f)[j]?=some (f x):=by rw [List.getElem?_map,hp];rfl
    refine WL.sr<|WOL.ix rfl rfl g1<|WOL.ld rfl (load_one tp3 g2 (by have:=g5 0 (by decide);rwa [Nat.add_zero] at this))<|WOL.as rfl<|WOL.nil<|keep [(1,_),(6,_),(8,_),(9,_),(10,_)] ⟨rfl,rfl,rfl,rfl,rfl,trivial⟩ ?_
    refine WL.sr<|WOL.mv rfl<|WOL.mv rfl<|WOL.cl1 rfl rfl ((hf x).mono ?_)
    rintro w g' ⟨rfl,rfl⟩
    refine WOL.as rfl<|WOL.nil<|keep [(1,_),(7,_),(8,_),(9,_),(10,_)] ⟨rfl,rfl,rfl,rfl,rfl,trivial⟩ ?_
    by_cases h0:f x=0
    · refine WL.sr<|WOL.mv rfl<|WOL.bf rfl rfl rfl (bne_eq_false_iff_eq.2 h0)<|WOL.nil<|keep [(1,_),(8,_),(9,_),(10,_),(18,_)] ⟨rfl,rfl,rfl,rfl,rfl,trivial⟩ ?_
      refine WL.no rfl<|WL.skip fun a q=>⟨(),⟨rfl,fun i hi=>?_⟩,q.sub ⟨rfl,rfl,rfl,rfl,trivial⟩⟩
      by_cases e:i=j
      · subst e
        rw [List.getD_eq_getElem?_getD,he]
        exact h0
      · exact hz i (by omega)
    · refine WL.sr<|WOL.mv rfl<|WOL.bt rfl rfl rfl (bne_iff_ne.2 h0)<|WOL.nil<|keep [(7,_),(18,_)] ⟨rfl,rfl,trivial⟩ ?_
      refine WL.yes rfl<|WL.sr<|WOL.mv rfl<|WOL.as rfl<|WOL.nil ?_
      exact WL.ret (WL.end_ rfl ⟨by rw [fNZ_at hz he h0];rfl,rfl⟩)
  · rintro _ g ⟨rfl,hz⟩
    refine WL.sr<|WOL.as rfl<|WOL.nil ?_
    exact WL.ret (WL.end_ rfl ⟨by rw [fNZ_all (fun i hi=>hz i (by rw [List.length_map] at hi;exact hi))];rfl,rfl⟩)
end
end Go.Tidy
namespace Go.Tidy
open Go Go.Proofs Tab
variable {tp:TProg}
theorem WOL.cut {P:Program} {tp:TProg} {h:TH} {K:Regs→TH→Prop} {ops:List TOper} {L:Rg} (n:Nat) (M:Rg) (w1:∀ a,Kn L a→WO P tp (ops.take n) a h (fun a' h'=>h'=h∧Kn M a')) (w2:∀ a,Kn M a→WO P tp (ops.drop n) a h K):∀ a,Kn L a→WO P tp ops a h K :=
 fun a k=>WO.cut n ((w1 a k).mono fun a' h' ⟨e,k'⟩=>by subst e;exact w2 a' k')
theorem SlL.part {α:Type} {enc:α→List Value} {n:Nat} {h:TH} {b off m cap lo hi:Nat} {l:List α} (E:Enc enc n) (s:SlL enc n h (.slice (some ⟨b,off,none⟩) m cap) l) (h1:lo≤hi) (h2:hi≤l.length):SlL enc n h (.slice (some ⟨b,off+lo*n,none⟩) (hi - lo) (cap - lo)) ((l.drop lo).take (hi - lo)):=by
 have e:((l.drop lo).take (hi - lo)).length=hi - lo:=by rw [List.length_take,List.length_drop];omega
 obtain ⟨bo,cap',e1,hc,hl,hh⟩:=s
 cases e1
 rcases hh with ⟨q,_⟩ | ⟨b',off',cc,fix,wr,el,q1,A,q2,q3⟩
 ·cases q
 ·cases q1
  have hm:hi*n≤l.length*n:=Nat.mul_le_mul_right _ h2
  have hlo:lo*n+(hi - lo)*n=hi*n:=by rw [← Nat.add_mul];congr 1;omega
  refine ⟨_,cap - lo,by rw [e],by rw [e];omega,by rw [E.cat_len],.inr ⟨b,off+lo*n,cc,fix,wr,el,rfl,A,?_,by rw [e];omega⟩⟩
  rw [e,← E.take,← E.drop,← q2,List.drop_take,List.take_take,List.drop_drop,Nat.min_eq_left (by omega)]
theorem filled_ints5 (a b c d e:Int):filled 1 5 [.int .i64 0] [(0,.int .i64 a),(1,.int .i64 b),(2,.int .i64 c),(3,.int .i64 d),(4,.int .i64 e)]=some ([a,b,c,d,e].map (.int .i64)):=rfl
section
variable {h:TH} {n:Int} {v1 v2:Value} {L:List Int} {S:List (Int × Int)}
set_option maxHeartbeats 4000000 in
set_option maxRecDepth 10000 in
theorem k1192 (H:Has tp) (r:TrcH h v1 v2 L S) (hL:L.length≤1000000) (hS:S.length≤1000000) (f:Free0 h.next h):CallW Tryz.prog tp (.func (.func 144) #[] #[]) #[v1,v2] h fun v h'=>v=zi (cond (holeE L.length (-1) S != 0) (holeE L.length (-1) S) (formE L S))∧HX h h':=by
  refine CallW.fnL (H.fn 144 f1192 rfl rfl) ?_
  refine WL.sr<|WOL.as rfl<|WOL.nil ?_
  refine WL.sr<|WOL.as rfl<|WOL.nil<|keep [(0,_),(1,_),(4,_),(5,_)] ⟨rfl,rfl,rfl,rfl,trivial⟩ ?_
  refine WL.seq<|WL.sr<|WOL.mv rfl<|WOL.len rfl r.s u44<|WOL.mv rfl<|WOL.nil<|keep [(0,_),(1,_),(4,_),(5,_),(14,_),(15,_),(16,_)] ⟨rfl,rfl,rfl,rfl,rfl,rfl,rfl,trivial⟩ ?_
  refine WL.upto (α:=Int) S.length (fun j prev g=>HX h g∧holeE L.length (-1) S=holeE L.length prev (S.drop j)) (fun _ prev=>[(0,v1),(1,v2),(4,zi 0),(5,zi prev),(14,v2),(15,zi (S.length:Nat))]) (-1) rfl rfl (by omega) ⟨HX.refl _,rfl⟩ ⟨rfl,rfl,rfl,rfl,rfl,rfl,rfl,trivial⟩ (fun _ _=>rfl) (fun _ _ _=>⟨rfl,rfl,rfl,rfl,rfl,rfl,rfl,trivial⟩) (fun _ _ _=>⟨rfl,rfl,rfl,rfl,rfl,rfl,rfl,trivial⟩) ?_ ?_
  · rintro j prev g hj ⟨X,hE⟩
    have hp:S[j]?=some S[j]:=List.getElem?_eq_getElem hj
    have hd:S.drop j=S[j]::S.drop (j+1):=List.drop_eq_getElem_cons hj
    generalize S[j]=p at hp hd
    obtain ⟨p1,p2⟩:=p
    rw [hd,holeE_cons] at hE
    obtain ⟨b,o,cc,fix,wr,el,g1,g2,g3,g4,g5⟩:=(r.s.hx X).at eS u44 tp48 hp .i64
    refine WL.sr<|WOL.ix rfl rfl g1<|WOL.ld rfl (load_row tp48 g2 g4 g3)<|WOL.al tp48 fun i1 M1=>?_
    refine WOL.sto (vs:=encS (p1,p2)) rfl rfl tp48 M1.at_ rfl rfl (Nat.le_of_ble_eq_true rfl) rfl (f.hx (X.trans M1.hx)) X.next fun i2 M2=>?_
    have A7:At i2 g.next (.cells [zi p1,zi p2] true true 77):=M2.at_
    have XI:HX g i2:=M2.hx _ M1.hx (Nat.le_refl _)
    have r2:=r.hx (X.trans XI)
    refine WOL.nil<|keep [(0,_),(1,_),(4,_),(5,_),(7,_),(14,_),(15,_),(16,_)] ⟨rfl,rfl,rfl,rfl,rfl,rfl,rfl,rfl,trivial⟩ ?_
    refine WL.sr<|WOL.cut 17 [(0,v1),(1,v2),(4,zi 0),(5,zi prev),(7,ptr g.next),(14,v2),(15,zi (S.length:Nat)),(16,zi (j:Nat)),(36,.bool (badS L.length (p1,p2)))] ?_ ?_
    · by_cases c1:p1 < 0
      · rw [show badS L.length (p1,p2)=true by unfold badS;rw [decide_eq_true c1];rfl]
        repeat' (first
    | (refine WOL.fa rfl (fa_of fo48_0) ?_)
    | (refine WOL.fa rfl (fa_of fo48_1) ?_)
    | (refine WOL.ld rfl (load_one tp3 A7 rfl) ?_)
    | (refine WOL.bt rfl rfl rfl (by first | exact decide_eq_true (by omega) | exact beq_iff_eq.2 (by omega) | exact bne_iff_ne.2 (by omega)) ?_)
    | refine WOL.now (b:=true) rfl rfl ?_ | refine WOL.now (b:=false) rfl rfl ?_
    | refine WOL.skp (b:=true) rfl rfl ?_ | refine WOL.skp (b:=false) rfl rfl ?_ | refine WOL.gu rfl rfl ?_
    | refine WOL.mv rfl ?_ | refine WOL.as rfl ?_
    | refine WOL.bi rfl rfl rfl ?_ | refine WOL.nt rfl ?_
    | refine WOL.pkt rfl rfl ?_ | refine WOL.pkf rfl rfl ?_)
        exact WOL.nil fun a q=>⟨rfl,q.sub ⟨rfl,rfl,rfl,rfl,rfl,rfl,rfl,rfl,rfl,trivial⟩⟩
      · by_cases c2:p2≤p1
        · rw [show badS L.length (p1,p2)=true by unfold badS;rw [decide_eq_false c1,decide_eq_true c2];rfl]
          repeat' (first
    | (refine WOL.fa rfl (fa_of fo48_0) ?_)
    | (refine WOL.fa rfl (fa_of fo48_1) ?_)
    | (refine WOL.ld rfl (load_one tp3 A7 rfl) ?_)
    | (refine WOL.bf rfl rfl rfl (by first | exact decide_eq_false (by omega) | exact beq_eq_false_iff_ne.2 (by omega) | exact bne_eq_false_iff_eq.2 (by omega)) ?_)
    | (refine WOL.bt rfl rfl rfl (by first | exact decide_eq_true (by omega) | exact beq_iff_eq.2 (by omega) | exact bne_iff_ne.2 (by omega)) ?_)
    | refine WOL.now (b:=true) rfl rfl ?_ | refine WOL.now (b:=false) rfl rfl ?_
    | refine WOL.skp (b:=true) rfl rfl ?_ | refine WOL.skp (b:=false) rfl rfl ?_ | refine WOL.gu rfl rfl ?_
    | refine WOL.mv rfl ?_ | refine WOL.as rfl ?_
    | refine WOL.bi rfl rfl rfl ?_ | refine WOL.nt rfl ?_
    | refine WOL.pkt rfl rfl ?_ | refine WOL.pkf rfl rfl ?_)
          exact WOL.nil fun a q=>⟨rfl,q.sub ⟨rfl,rfl,rfl,rfl,rfl,rfl,rfl,rfl,rfl,trivial⟩⟩
        · by_cases c3:(L.length:Int) < p2
          · rw [show badS L.length (p1,p2)=true by unfold badS;rw [decide_eq_false c1,decide_eq_false c2,decide_eq_true c3];rfl]
            repeat' (first
    | (refine WOL.fa rfl (fa_of fo48_0) ?_)
    | (refine WOL.fa rfl (fa_of fo48_1) ?_)
    | (refine WOL.ld rfl (load_one tp3 A7 rfl) ?_)
    | (refine WOL.len rfl r2.l u29 ?_)
    | (refine WOL.bf rfl rfl rfl (by first | exact decide_eq_false (by omega) | exact beq_eq_false_iff_ne.2 (by omega) | exact bne_eq_false_iff_eq.2 (by omega)) ?_)
    | (refine WOL.bt rfl rfl rfl (by first | exact decide_eq_true (by omega) | exact beq_iff_eq.2 (by omega) | exact bne_iff_ne.2 (by omega)) ?_)
    | refine WOL.now (b:=true) rfl rfl ?_ | refine WOL.now (b:=false) rfl rfl ?_
    | refine WOL.skp (b:=true) rfl rfl ?_ | refine WOL.skp (b:=false) rfl rfl ?_ | refine WOL.gu rfl rfl ?_
    | refine WOL.mv rfl ?_ | refine WOL.as rfl ?_
    | refine WOL.bi rfl rfl rfl ?_ | refine WOL.nt rfl ?_
    | refine WOL.pkt rfl rfl ?_ | refine WOL.pkf rfl rfl ?_)
            exact WOL.nil fun a q=>⟨rfl,q.sub ⟨rfl,rfl,rfl,rfl,rfl,rfl,rfl,rfl,rfl,trivial⟩⟩
          · rw [show badS L.length (p1,p2)=false by unfold badS;rw [decide_eq_false c1,decide_eq_false c2,decide_eq_false c3];rfl]
            repeat' (first
    | (refine WOL.fa rfl (fa_of fo48_0) ?_)
    | (refine WOL.fa rfl (fa_of fo48_1) ?_)
    | (refine WOL.ld rfl (load_one tp3 A7 rfl) ?_)
    | (refine WOL.len rfl r2.l u29 ?_)
    | (refine WOL.bf rfl rfl rfl (by first | exact decide_eq_false (by omega) | exact beq_eq_false_iff_ne.2 (by omega) | exact bne_eq_false_iff_eq.2 (by omega)) ?_)
    | refine WOL.now (b:=true) rfl rfl ?_ | refine WOL.now (b:=false) rfl rfl ?_
    | refine WOL.skp (b:=true) rfl rfl ?_ | refine WOL.skp (b:=false) rfl rfl ?_ | refine WOL.gu rfl rfl ?_
    | refine WOL.mv rfl ?_ | refine WOL.as rfl ?_
    | refine WOL.bi rfl rfl rfl ?_ | refine WOL.nt rfl ?_
    | refine WOL.pkt rfl rfl ?_ | refine WOL.pkf rfl rfl ?_)
            exact WOL.nil fun a q=>⟨rfl,q.sub ⟨rfl,rfl,rfl,rfl,rfl,rfl,rfl,rfl,rfl,trivial⟩⟩
    · show ∀ a,Kn _ a→WO _ _ (r1192_5.drop 17) a i2 _
      refine WOL.fa rfl (fa_of fo48_0)<|WOL.ld rfl (load_one tp3 A7 rfl)<|WOL.mv rfl<|WOL.bi (v:=.bool (decide (p1≤prev))) rfl rfl rfl ?_
      refine WOL.lk2 rfl rfl rfl fun M=>((k77 H _ _ _).mono ?_)
      rintro v h3 ⟨rfl,rfl⟩
      rw [TH.relock]
      refine WOL.cl2 rfl rfl rfl ((k77 H _ _ _).mono ?_)
      rintro v h4 ⟨rfl,rfl⟩
      refine WOL.bsl rfl u166 tp30 (by decide) (by decide) (by decide) (filled_ints _ _) fun h5 N5=>?_
      refine WOL.cl1 rfl rfl ((k71 H (l:=[_,_]) N5.at_.get (by simp)).mono ?_)
      rintro v h6 ⟨rfl,rfl⟩
      refine WOL.as rfl<|WOL.nil<|keep [(0,_),(1,_),(4,_),(5,_),(7,_),(8,_),(14,_),(15,_),(16,_)] ⟨rfl,rfl,rfl,rfl,rfl,rfl,rfl,rfl,rfl,trivial⟩ ?_
      replace A7:=A7.hx N5.hx
      have Z:=(X.trans XI).trans N5.hx
      have e2:firstNZ [cond (badS L.length (p1,p2)) 14 0,cond (decide (p1≤prev)) 11 0]=cond (badS L.length (p1,p2)) 14 (cond (decide (p1≤prev)) 11 0):=by
        cases badS L.length (p1,p2) <;> cases decide (p1≤prev) <;> rfl
      rw [e2]
      cases hb:badS L.length (p1,p2) with
      | true =>
        rw [hb] at hE
        replace hE:holeE L.length (-1) S=14:=hE
        refine WL.seq<|WL.sr<|WOL.mv rfl<|WOL.bt rfl rfl rfl rfl<|WOL.nil<|keep [(8,_),(46,_)] ⟨rfl,rfl,trivial⟩ ?_
        refine WL.yes rfl<|WL.sr<|WOL.mv rfl<|WOL.as rfl<|WOL.nil ?_
        exact WL.ret (WL.end_ rfl ⟨by rw [hE];rfl,Z⟩)
      | false =>
        rw [hb] at hE
        cases hc:decide (p1≤prev) with
        | true =>
          rw [hc] at hE
          replace hE:holeE L.length (-1) S=11:=hE
          refine WL.seq<|WL.sr<|WOL.mv rfl<|WOL.bt rfl rfl rfl rfl<|WOL.nil<|keep [(8,_),(46,_)] ⟨rfl,rfl,trivial⟩ ?_
          refine WL.yes rfl<|WL.sr<|WOL.mv rfl<|WOL.as rfl<|WOL.nil ?_
          exact WL.ret (WL.end_ rfl ⟨by rw [hE];rfl,Z⟩)
        | false =>
          rw [hc] at hE
          refine WL.seq<|WL.sr<|WOL.mv rfl<|WOL.bf rfl rfl rfl rfl<|WOL.nil<|keep [(0,_),(1,_),(4,_),(5,_),(7,_),(14,_),(15,_),(16,_),(46,_)] ⟨rfl,rfl,rfl,rfl,rfl,rfl,rfl,rfl,rfl,trivial⟩ ?_
          refine WL.no rfl<|WL.skip ?_
          refine WL.reg<|WOL.fa rfl (fa_of fo48_1)<|WOL.ld rfl (load_one tp3 A7 rfl)<|WOL.as rfl<|WOL.nil fun a q=>⟨p2,⟨Z,hE⟩,q.sub ⟨rfl,rfl,rfl,rfl,rfl,rfl,rfl,trivial⟩⟩
  · rintro prev g ⟨X,hE⟩
    rw [List.drop_length] at hE
    replace hE:holeE L.length (-1) S=0:=hE
    have hin:=holeE_in hE
    rw [hE]
    show ∀ a,_→W _ _ _ _ a g (Fin _ _ fun v h'=>v=zi (formE L S)∧HX h h')
    refine WL.sr<|WOL.as rfl<|WOL.nil<|keep [(0,_),(1,_),(9,_)] ⟨rfl,rfl,rfl,trivial⟩ ?_
    refine WL.seq<|WL.sr<|WOL.mv rfl<|WOL.len rfl (r.s.hx X) u44<|WOL.mv rfl<|WOL.nil<|keep [(0,_),(9,_),(51,_),(52,_),(53,_)] ⟨rfl,rfl,rfl,rfl,rfl,trivial⟩ ?_
    refine WL.upto (α:=Unit) S.length (fun j _ g=>HX h g∧(S.take j).any (anyIn L)=false) (fun _ _=>[(0,v1),(9,zi 0),(51,v2),(52,zi (S.length:Nat))]) () rfl rfl (by omega) ⟨X,by simp⟩ ⟨rfl,rfl,rfl,rfl,rfl,trivial⟩ (fun _ _=>rfl) (fun _ _ _=>⟨rfl,rfl,rfl,rfl,rfl,trivial⟩) (fun _ _ _=>⟨rfl,rfl,rfl,rfl,rfl,trivial⟩) ?_ ?_
    · rintro j _ g hj ⟨X,hz⟩
      have hp:S[j]?=some S[j]:=List.getElem?_eq_getElem hj
      obtain ⟨q1,q2,q3⟩:=hin S[j] (List.getElem_mem hj)
      have hany:(S.take (j+1)).any (anyIn L)=((S.take j).any (anyIn L) || anyIn L S[j]):=by
        rw [← List.take_append_getElem hj,List.any_append];simp
      rw [hz,Bool.false_or] at hany
      have hmem:S[j] ∈ S:=List.getElem_mem hj
      generalize S[j]=p at *
      obtain ⟨p1,p2⟩:=p
      replace q1:0≤p1:=q1
      replace q2:p1≤p2:=q2
      replace q3:p2≤(L.length:Int):=q3
      obtain ⟨lo,rfl⟩:∃ lo:Nat,p1=(lo:Int):=⟨p1.toNat,by omega⟩
      obtain ⟨hi,rfl⟩:∃ hi:Nat,p2=(hi:Int):=⟨p2.toNat,by omega⟩
      obtain ⟨b,o,cc,fix,wr,el,g1,g2,g3,g4,g5⟩:=(r.s.hx X).at eS u44 tp48 hp .i64
      refine WL.sr<|WOL.ix rfl rfl g1<|WOL.ld rfl (load_row tp48 g2 g4 g3)<|WOL.al tp48 fun i1 M1=>?_
      refine WOL.sto (vs:=encS ((lo:Int),(hi:Int))) rfl rfl tp48 M1.at_ rfl rfl (Nat.le_of_ble_eq_true rfl) rfl (f.hx (X.trans M1.hx)) X.next fun i2 M2=>?_
      have A7:At i2 g.next (.cells [zi (lo:Nat),zi (hi:Nat)] true true 77):=M2.at_
      have XI:HX g i2:=M2.hx _ M1.hx (Nat.le_refl _)
      have r2:=r.hx (X.trans XI)
      refine WOL.nil<|keep [(0,_),(9,_),(11,_),(51,_),(52,_),(53,_)] ⟨rfl,rfl,rfl,rfl,rfl,rfl,trivial⟩ ?_
      have hlt:lo < hi:=by have:=holeE_lt hE _ hmem;replace this:(lo:Int) < (hi:Int):=this;omega
      obtain ⟨bo,cap,ev,hcap,hlen,hh⟩:=id r2.l
      subst ev
      rcases hh with ⟨rfl,hm⟩ | ⟨b',off,cc',fix',wr',el',rfl,AA,_,_⟩
      · omega
      obtain ⟨cc2,fix2,wr2,el2,A2,hf2⟩:=r2.g b' off _ cap rfl
      have sp:=SlL.part eI r2.l (lo:=lo) (hi:=hi) (by omega) (by omega)
      have lp:((L.drop lo).take (hi - lo)).length=hi - lo:=by rw [List.length_take,List.length_drop];omega
      have ea:anyIn L ((lo:Int),(hi:Int))=((L.drop lo).take (hi - lo)).any (· != 0):=by unfold anyIn;rfl
      refine WL.sr<|WOL.mv rfl<|WOL.fa rfl (fa_of fo48_0)<|WOL.ld rfl (load_one tp3 A7 rfl)<|WOL.fa rfl (fa_of fo48_1)<|WOL.ld rfl (load_one tp3 A7 rfl)<|WOL.sl rfl rfl rfl (sliceT_at u29 tp3 hcap (by omega) (by omega) A2 hf2)<|WOL.len rfl sp u29<|WOL.mv rfl<|WOL.nil<|keep [(0,_),(9,_),(51,_),(52,_),(53,_),(62,_),(63,_),(64,_)] ⟨rfl,rfl,rfl,rfl,rfl,rfl,rfl,rfl,trivial⟩ ?_
      generalize (L.drop lo).take (hi - lo)=PL at *
      refine WL.upto (α:=Unit) PL.length (fun k _ g=>g=i2∧∀ i,i < k→PL.getD i 0=0) (fun _ _=>[(0,_),(9,zi 0),(51,v2),(52,zi (S.length:Nat)),(53,zi (j:Nat)),(62,.slice (some ⟨b',off+lo*1,none⟩) (hi - lo) (cap - lo)),(63,zi (PL.length:Nat))]) () rfl rfl (by omega) ⟨rfl,fun i hi=>absurd hi (by omega)⟩ ⟨rfl,rfl,rfl,rfl,rfl,rfl,rfl,rfl,trivial⟩ (fun _ _=>rfl) (fun _ _ _=>⟨rfl,rfl,rfl,rfl,rfl,rfl,rfl,rfl,trivial⟩) (fun _ _ _=>⟨rfl,rfl,rfl,rfl,rfl,rfl,rfl,rfl,trivial⟩) ?_ ?_
      · rintro k _ g' hk ⟨rfl,hz'⟩
        have hq:PL[k]?=some PL[k]:=List.getElem?_eq_getElem hk
        generalize PL[k]=x at hq
        obtain ⟨b3,o3,cc3,fix3,wr3,el3,k1,k2,k3,k4,k5⟩:=sp.at eI u29 tp3 hq .i64
        refine WL.sr<|WOL.ix rfl rfl k1<|WOL.ld rfl (load_one tp3 k2 (by have:=k5 0 (by decide);rwa [Nat.add_zero] at this))<|WOL.as rfl<|WOL.nil<|keep [(0,_),(9,_),(13,_),(51,_),(52,_),(53,_),(62,_),(63,_),(64,_)] ⟨rfl,rfl,rfl,rfl,rfl,rfl,rfl,rfl,rfl,trivial⟩ ?_
        by_cases h0:x=0
        · refine WL.sr<|WOL.mv rfl<|WOL.mv rfl<|WOL.bf rfl rfl rfl (bne_eq_false_iff_eq.2 h0)<|WOL.nil<|keep [(0,_),(9,_),(51,_),(52,_),(53,_),(62,_),(63,_),(64,_),(70,_)] ⟨rfl,rfl,rfl,rfl,rfl,rfl,rfl,rfl,rfl,trivial⟩ ?_
          refine WL.no rfl<|WL.skip fun a q=>⟨(),⟨rfl,fun i hi=>?_⟩,q.sub ⟨rfl,rfl,rfl,rfl,rfl,rfl,rfl,rfl,trivial⟩⟩
          by_cases e:i=k
          · subst e
            rw [List.getD_eq_getElem?_getD,hq]
            exact h0
          · exact hz' i (by omega)
        · refine WL.sr<|WOL.mv rfl<|WOL.mv rfl<|WOL.bt rfl rfl rfl (bne_iff_ne.2 h0)<|WOL.nil<|keep [(70,_)] ⟨rfl,trivial⟩ ?_
          have ef:formE L S=1:=by
            unfold formE
            rw [List.any_eq_true.2 ⟨((lo:Int),(hi:Int)),hmem,by rw [ea];exact List.any_eq_true.2 ⟨x,List.mem_of_getElem? hq,bne_iff_ne.2 h0⟩⟩]
            rfl
          refine WL.yes rfl<|WL.sr<|WOL.as rfl<|WOL.nil ?_
          exact WL.ret (WL.end_ rfl ⟨by rw [ef];rfl,X.trans XI⟩)
      · rintro _ g' ⟨rfl,hz'⟩
        refine fun a q=>⟨(),⟨X.trans XI,?_⟩,q.sub ⟨rfl,rfl,rfl,rfl,rfl,trivial⟩⟩
        rw [hany,ea,List.any_eq_false]
        intro x hx
        obtain ⟨i,hi',rfl⟩:=List.getElem_of_mem hx
        have:=hz' i hi'
        rw [List.getD_eq_getElem?_getD,List.getElem?_eq_getElem hi'] at this
        replace this:PL[i]=0:=this
        rw [this];decide
    · rintro _ g ⟨X,hz⟩
      rw [List.take_length] at hz
      refine WL.sr<|WOL.as rfl<|WOL.nil ?_
      exact WL.ret (WL.end_ rfl ⟨by unfold formE;rw [hz];rfl,X⟩)
end
end Go.Tidy
namespace Go.Tidy
open Go Go.Proofs Tab
variable {tp:TProg}
theorem out_in {n:Int} (h:outB n 0 100000000=0):0≤n∧n≤100000000:=by
 unfold outB at h
 cases h1:decide (n < 0) with
 | true=>rw [h1] at h;cases h
 | false =>
  cases h2:decide (n > 100000000) with
  | true=>rw [h1,h2] at h;cases h
  | false =>
   have:=of_decide_eq_false h1
   have:=of_decide_eq_false h2
   omega
section
variable {h:TH} {n:Int} {v1 v2:Value} {L:List Int} {S:List (Int × Int)}
theorem wrap_end {l:List Int} (hL:L.length≤1000000):firstNZ (outB n 0 100000000::cond (decide ((L.length:Int) > 4096)) 5 0::cond (decide (fwrap .i64 (n+(L.length:Int)) > 100000000)) 4 0::l)=firstNZ (outB n 0 100000000::cond (decide ((L.length:Int) > 4096)) 5 0::cond (decide (n+(L.length:Int) > 100000000)) 4 0::l):=by
 by_cases h0:outB n 0 100000000=0
 ·obtain ⟨h1,h2⟩:=out_in h0
  rw [fwrap_i64 (by omega) (by omega)]
 ·show cond (outB n 0 100000000 != 0) _ _=cond (outB n 0 100000000 != 0) _ _
  rw [bne_iff_ne.2 h0]
  rfl
set_option maxHeartbeats 2000000 in
set_option maxRecDepth 10000 in
theorem k1123 (H:Has tp) (r:TrcH h v1 v2 L S) (hL:L.length≤1000000) (hS:S.length≤1000000) (f:Free0 h.next h):CallW Tryz.prog tp (.func (.func 90) #[] #[]) #[trcV n v1 v2] h fun v h'=>v=zi (traceE n L S)∧HX h h':=by
 obtain ⟨b1,k1,e1,_⟩:=id r.l
 obtain ⟨b2,k2,e2,_⟩:=id r.s
 subst e1 e2
 refine CallW.fnL (H.fn 90 f1123 rfl rfl) ?_
 refine WL.sr<|WOL.box rfl fun h1 N1=>WOL.as rfl<|WOL.nil<|keep [(1,_)] ⟨rfl,trivial⟩ ?_
 have A1:At h1 h.next (.cells [zi n,.slice b1 L.length k1,.slice b2 S.length k2] true true 55):=N1.at_
 have X1:=N1.hx
 replace r:=r.hx X1
 have n1:=N1.next
 refine WL.sr<|WOL.fa rfl (fa_of fo1117_0)<|WOL.ld rfl (load_one tp3 A1 rfl)<|WOL.fa rfl (fa_of fo1117_1)<|WOL.ld rfl (load_one tp29 A1 rfl)<|WOL.len rfl r.l u29<|WOL.bi (v:=.bool (decide ((L.length:Int) > 4096))) rfl rfl rfl<|WOL.ld rfl (load_row tp1117 A1 rfl (Nat.le_of_ble_eq_true rfl))<|WOL.fa rfl (fa_of fo1117_1)<|WOL.ld rfl (load_one tp29 A1 rfl)<|WOL.fa rfl (fa_of fo1117_1)<|WOL.ld rfl (load_one tp29 A1 rfl)<|WOL.fa rfl (fa_of fo1117_2)<|WOL.ld rfl (load_one tp44 A1 rfl) ?_
 refine WOL.lk3 rfl rfl rfl rfl fun M=>((k72 H n 0 100000000 _).mono ?_)
 rintro v h2 ⟨rfl,rfl⟩
 rw [TH.relock]
 refine WOL.lk2 rfl rfl rfl fun M=>((k77 H _ _ _).mono ?_)
 rintro v h3 ⟨rfl,rfl⟩
 rw [TH.relock]
 refine WOL.lk1 rfl rfl fun M=>((k1183 H (r.l.relock M)).mono ?_)
 rintro v h4 ⟨rfl,X4⟩
 replace X4:=X4.relock
 generalize h4.withLock h1.lock=h4 at *
 replace r:=r.hx X4
 refine WOL.bi (v:=.bool (decide (fwrap .i64 (n+(L.length:Int)) > 100000000))) rfl rfl rfl ?_
 refine WOL.lk2 rfl rfl rfl fun M=>((k77 H _ _ _).mono ?_)
 rintro v h5 ⟨rfl,rfl⟩
 rw [TH.relock]
 refine WOL.lk2 rfl rfl rfl fun M=>((k1190 H (r.l.relock M) hL (fun x=>k1191 H x _)).mono ?_)
 rintro v h6 ⟨rfl,rfl⟩
 rw [TH.relock]
 refine WOL.cl2 rfl rfl rfl ((k1192 H r hL hS (f.on (X1.trans X4))).mono ?_)
 rintro v h7 ⟨rfl,X7⟩
 refine WOL.bsl rfl u166 tp30 (by decide) (by decide) (by decide) (filled_ints5 _ _ _ _ _) fun h8 N8=>?_
 refine WOL.cl1 rfl rfl ((k71 H (l:=[_,_,_,_,_]) N8.at_.get (by simp)).mono ?_)
 rintro v h9 ⟨rfl,rfl⟩
 refine WOL.as rfl<|WOL.nil<|WL.ret (WL.end_ rfl ⟨?_,((X1.trans X4).trans X7).trans N8.hx⟩)
 unfold traceE
 show zi _=zi _
 rw [wrap_end hL]
set_option maxHeartbeats 1000000 in
set_option maxRecDepth 10000 in
theorem k1154 (H:Has tp) {x:Int} (s:SlL encS 2 h v2 S) (hS:S.length≤1000000):CallW Tryz.prog tp (.func (.func 39) #[] #[]) #[trcV n v1 v2,zi x] h fun v h'=>v=.bool (knownB S x)∧HX h h':=by
  refine CallW.fnL (H.fn 39 f1154 rfl rfl) ?_
  refine WL.sr<|WOL.box rfl fun h1 N1=>WOL.as rfl<|WOL.nil<|keep [(1,_),(2,_)] ⟨rfl,rfl,trivial⟩ ?_
  have A1:At h1 h.next (.cells [zi n,v1,v2] true true 52):=N1.at_
  have X1:=N1.hx
  replace s:=s.hx X1
  refine WL.seq<|WL.sr<|WOL.as rfl<|WOL.nil<|keep [(1,_),(2,_),(5,_)] ⟨rfl,rfl,rfl,trivial⟩ ?_
  refine WL.forz (α:=Unit) S.length (fun j _ g=>g=h1∧(S.take j).any (inS x)=false) (fun j _=>[(1,zi x),(2,ptr h.next),(5,zi (j:Nat))]) (fun j _=>[(1,zi x),(2,ptr h.next),(5,zi (j:Nat))]) () ⟨rfl,rfl⟩ ⟨rfl,rfl,rfl,trivial⟩ ?_ ?_ (fun _ _ _=>⟨rfl,rfl,rfl,trivial⟩) ?_ ?_
  · rintro j _ g hj ⟨rfl,hz⟩
    exact WOL.mv rfl<|WOL.fa rfl (fa_of fo1114_2)<|WOL.ld rfl (load_one tp44 A1 rfl)<|WOL.len rfl s u44<|WOL.bi rfl rfl rfl<|WOL.nil fun a q=>⟨rfl,q.sub ⟨rfl,rfl,rfl,rfl,trivial⟩⟩
  · rintro j _ g hj hH
    exact WOL.mv rfl<|WOL.inc rfl (by omega)<|WOL.as rfl<|WOL.nil fun a q=>⟨hH,q.sub ⟨rfl,rfl,rfl,trivial⟩⟩
  · rintro j _ g hj ⟨rfl,hz⟩
    have hp:S[j]?=some S[j]:=List.getElem?_eq_getElem hj
    have hany:(S.take (j+1)).any (inS x)=((S.take j).any (inS x) || inS x S[j]):=by
      rw [← List.take_append_getElem hj,List.any_append];simp
    rw [hz,Bool.false_or] at hany
    have hmem:S[j] ∈ S:=List.getElem_mem hj
    generalize S[j]=p at *
    obtain ⟨p1,p2⟩:=p
    obtain ⟨b,o,cc,fix,wr,el,g1,g2,g3,g4,g5⟩:=s.at eS u44 tp48 hp .i64
    have l0:=g5 0 (by decide)
    have l1:=g5 1 (by decide)
    rw [Nat.add_zero] at l0
    replace l0:cc[o]?=some (zi p1):=l0
    replace l1:cc[o+1]?=some (zi p2):=l1
    by_cases c1:p1≤x
    · by_cases c2:x < p2
      · refine WL.sr ?_
        repeat' (first
    | (refine WOL.fa rfl (fa_of fo1114_2) ?_)
    | (refine WOL.fa rfl (fa_of fo48_0) ?_)
    | (refine WOL.fa rfl (fa_of fo48_1) ?_)
    | (refine WOL.ld rfl (load_one tp44 A1 rfl) ?_)
    | (refine WOL.ld rfl (load_one tp3 g2 l0) ?_)
    | (refine WOL.ld rfl (load_one tp3 g2 l1) ?_)
    | (refine WOL.ix rfl rfl g1 ?_)
    | (refine WOL.bt rfl rfl rfl (by first | exact decide_eq_true (by omega) | exact beq_iff_eq.2 (by omega) | exact bne_iff_ne.2 (by omega)) ?_)
    | refine WOL.now (b:=true) rfl rfl ?_ | refine WOL.now (b:=false) rfl rfl ?_
    | refine WOL.skp (b:=true) rfl rfl ?_ | refine WOL.skp (b:=false) rfl rfl ?_ | refine WOL.gu rfl rfl ?_
    | refine WOL.mv rfl ?_ | refine WOL.as rfl ?_
    | refine WOL.bi rfl rfl rfl ?_ | refine WOL.nt rfl ?_
    | refine WOL.pkt rfl rfl ?_ | refine WOL.pkf rfl rfl ?_)
        refine WOL.nil<|keep [(30,_)] ⟨rfl,trivial⟩ ?_
        refine WL.yes rfl<|WL.sr<|WOL.as rfl<|WOL.nil ?_
        refine WL.ret (WL.end_ rfl ⟨?_,X1⟩)
        unfold knownB
        rw [List.any_eq_true.2 ⟨_,hmem,by unfold inS;rw [decide_eq_true (show x ≥ p1 by omega),decide_eq_true c2];rfl⟩]
        rfl
      · refine WL.sr ?_
        repeat' (first
    | (refine WOL.fa rfl (fa_of fo1114_2) ?_)
    | (refine WOL.fa rfl (fa_of fo48_0) ?_)
    | (refine WOL.fa rfl (fa_of fo48_1) ?_)
    | (refine WOL.ld rfl (load_one tp44 A1 rfl) ?_)
    | (refine WOL.ld rfl (load_one tp3 g2 l0) ?_)
    | (refine WOL.ld rfl (load_one tp3 g2 l1) ?_)
    | (refine WOL.ix rfl rfl g1 ?_)
    | (refine WOL.bt rfl rfl rfl (by first | exact decide_eq_true (by omega) | exact beq_iff_eq.2 (by omega) | exact bne_iff_ne.2 (by omega)) ?_)
    | (refine WOL.bf rfl rfl rfl (by first | exact decide_eq_false (by omega) | exact beq_eq_false_iff_ne.2 (by omega) | exact bne_eq_false_iff_eq.2 (by omega)) ?_)
    | refine WOL.now (b:=true) rfl rfl ?_ | refine WOL.now (b:=false) rfl rfl ?_
    | refine WOL.skp (b:=true) rfl rfl ?_ | refine WOL.skp (b:=false) rfl rfl ?_ | refine WOL.gu rfl rfl ?_
    | refine WOL.mv rfl ?_ | refine WOL.as rfl ?_
    | refine WOL.bi rfl rfl rfl ?_ | refine WOL.nt rfl ?_
    | refine WOL.pkt rfl rfl ?_ | refine WOL.pkf rfl rfl ?_)
        refine WOL.nil<|keep [(1,_),(2,_),(5,_),(30,_)] ⟨rfl,rfl,rfl,rfl,trivial⟩ ?_
        refine WL.no rfl<|WL.skip fun a q=>⟨(),⟨rfl,?_⟩,q.sub ⟨rfl,rfl,rfl,trivial⟩⟩
        rw [hany]
        unfold inS
        rw [decide_eq_false c2,Bool.and_false]
    · refine WL.sr ?_
      repeat' (first
    | (refine WOL.fa rfl (fa_of fo1114_2) ?_)
    | (refine WOL.fa rfl (fa_of fo48_0) ?_)
    | (refine WOL.ld rfl (load_one tp44 A1 rfl) ?_)
    | (refine WOL.ld rfl (load_one tp3 g2 l0) ?_)
    | (refine WOL.ix rfl rfl g1 ?_)
    | (refine WOL.bf rfl rfl rfl (by first | exact decide_eq_false (by omega) | exact beq_eq_false_iff_ne.2 (by omega) | exact bne_eq_false_iff_eq.2 (by omega)) ?_)
    | refine WOL.now (b:=true) rfl rfl ?_ | refine WOL.now (b:=false) rfl rfl ?_
    | refine WOL.skp (b:=true) rfl rfl ?_ | refine WOL.skp (b:=false) rfl rfl ?_ | refine WOL.gu rfl rfl ?_
    | refine WOL.mv rfl ?_ | refine WOL.as rfl ?_
    | refine WOL.bi rfl rfl rfl ?_ | refine WOL.nt rfl ?_
    | refine WOL.pkt rfl rfl ?_ | refine WOL.pkf rfl rfl ?_)
      refine WOL.nil<|keep [(1,_),(2,_),(5,_),(30,_)] ⟨rfl,rfl,rfl,rfl,trivial⟩ ?_
      refine WL.no rfl<|WL.skip fun a q=>⟨(),⟨rfl,?_⟩,q.sub ⟨rfl,rfl,rfl,trivial⟩⟩
      rw [hany]
      unfold inS
      rw [decide_eq_false (show ¬ x ≥ p1 by omega)]
      rfl
  · rintro _ g ⟨rfl,hz⟩
    rw [List.take_length] at hz
    refine WL.sr<|WOL.as rfl<|WOL.nil ?_
    exact WL.ret (WL.end_ rfl ⟨by unfold knownB;rw [hz];rfl,X1⟩)
end
end Go.Tidy
namespace Go.Tidy
open Go Go.Proofs Tab
variable {tp:TProg}
theorem first_head {a b:Int} {l:List Int}:firstNZ (a::b::l)=cond (firstNZ [a,b] != 0) (firstNZ [a,b]) (firstNZ l):=by
 show cond (a != 0) a (cond (b != 0) b (firstNZ l))=cond (cond (a != 0) a (cond (b != 0) b 0) != 0) (cond (a != 0) a (cond (b != 0) b 0)) (firstNZ l)
 cases ha:(a != 0) with
 | true=>rw [show cond true a (cond (b != 0) b 0)=a from rfl,ha];rfl
 | false =>
  cases hb:(b != 0) with
  | true=>rw [show cond false a (cond true b 0)=b from rfl,hb];rfl
  | false=>rfl
theorem fst_zero {x:Int} {l:List Int} (h:firstNZ (x::l)=0):x=0:=by
 replace h:cond (x != 0) x (firstNZ l)=0:=h
 cases hx:(x != 0) with
 | true=>rw [hx] at h;exact h
 | false=>exact bne_eq_false_iff_eq.1 hx
theorem first_one {a:Int}:firstNZ [a]=a:=by
 show cond (a != 0) a 0=a
 cases h:(a != 0) with
 | true=>rfl
 | false=>exact (bne_eq_false_iff_eq.1 h).symm
def cd1117b:TCode:=.seq (.seq (.reg r1117_12) (.block 2 (.loop (.seq (.seq (.reg r1117_13) (.cond (.tmp 49) .skip (.exit 2))) (.seq (.block 3 (.seq (.reg r1117_14) (.seq (.seq (.reg r1117_15) (.cond (.tmp 74) (.seq (.reg r1117_16) .ret) .skip)) (.seq (.reg r1117_17) (.cond (.tmp 88) (.seq (.reg r1117_18) .ret) .skip))))) (.reg r1117_19)))))) (.seq (.seq (.reg r1117_20) (.block 4 (.loop (.seq (.seq (.reg r1117_21) (.cond (.tmp 93) .skip (.exit 4))) (.seq (.block 5 (.seq (.reg r1117_22) (.cond (.tmp 107) (.seq (.reg r1117_23) .ret) .skip))) (.reg r1117_24)))))) (.seq (.reg r1117_25) .ret))
section
variable {h0 h:TH} {n:Int} {b1 b2:Option Addr} {k1 k2 cb:Nat} {L:List Int} {S:List (Int × Int)} {T:Int}
end
section
variable {h:TH} {n:Int} {v1 v2:Value} {L:List Int} {S:List (Int × Int)}
end
end Go.Tidy
namespace Go.Tidy
open Go Go.Proofs Tab
variable {tp:TProg}
theorem tp1194:Tp Tryz.prog 148 4 [.int .i64 0,.slice none 0 0,.slice none 0 0,.slice none 0 0] true:=tp_of (by kernel_rfl) (by kernel_rfl) rfl
theorem tp145:Tp Tryz.prog 78 1 [.slice none 0 0] false:=tp_of (by kernel_rfl) (by kernel_rfl) rfl
theorem fo1194_0:fieldOff Tryz.prog 148 0=some 0:=by kernel_rfl
theorem fo1194_1:fieldOff Tryz.prog 148 1=some 3:=by kernel_rfl
theorem bd1117a {z:Int} {b1:Option Addr} {m1 k1:Nat}:buildT Tryz.prog 55 [(0,zi z),(1,.slice b1 m1 k1)]=some (trcV z (.slice b1 m1 k1) (.slice none 0 0)):=by kernel_rfl
theorem bd1117z:buildT Tryz.prog 55 []=some (trcV 0 (.slice none 0 0) (.slice none 0 0)):=by kernel_rfl
def rowV (n:Int) (v k:Value):Value:=.agg #[.int .i64 n,v,.slice none 0 0,k]
theorem bd1194 {z:Int} {b1 b2:Option Addr} {m1 k1 m2 k2:Nat}:buildT Tryz.prog 148 [(0,trcV z (.slice b1 m1 k1) (.slice none 0 0)),(1,.slice b2 m2 k2)]=some (rowV z (.slice b1 m1 k1) (.slice b2 m2 k2)):=by kernel_rfl
structure RowA (g:TH) (bv bk:Nat) (L:List Int) (B:List Bool):Prop where
 v:At g bv (.cells (cat encI L) true true 3)
 k:At g bk (.cells (cat encB B) true true 4)
 e:B.length=L.length
 n:bv≠bk
theorem RowA.hx {g g':TH} {bv bk:Nat} {L:List Int} {B:List Bool} (r:RowA g bv bk L B) (x:HX g g'):RowA g' bv bk L B:=⟨r.v.hx x,r.k.hx x,r.e,r.n⟩
abbrev slA (b m:Nat):Value:=.slice (some ⟨b,0,none⟩) m m
def largeB (x:Int):Bool:=readE x != 0
section
variable {h:TH} {n:Int} {L:List Int} {B:List Bool}
theorem rep_flat {z:Value}:∀ m:Nat,(List.replicate m [z]).flatten=List.replicate m z
 | 0=>rfl
 | m+1=>by rw [List.replicate_succ,List.flatten_cons,rep_flat m];rfl
theorem cat_rep {α:Type} {enc:α→List Value} {x:α} {z:Value} (h:enc x=[z]):∀ m:Nat,cat enc (List.replicate m x)=List.replicate m z
 | 0=>rfl
 | m+1=>by
  rw [List.replicate_succ,List.replicate_succ]
  show enc x ++ cat enc (List.replicate m x)=_
  rw [h,cat_rep h m]
  rfl
set_option maxHeartbeats 1000000 in
theorem k1178 (H:Has tp) {m:Nat} (hm:m≤1000000) (f:Free0 h.next h):CallW Tryz.prog tp (.func (.func 100) #[] #[]) #[zi n,zi (m:Nat)] h fun v h'=>HX h h'∧∃ bv bk,v=rowV n (slA bv m) (slA bk m)∧h.next≤bv∧h.next≤bk∧RowA h' bv bk (List.replicate m 0) (List.replicate m false):=by
 refine CallW.fnL (H.fn 100 f1178 rfl rfl) ?_
 refine WL.sr<|WOL.al tp1194 fun h1 N1=>WOL.nil<|keep [(0,_),(1,_),(4,_)] ⟨rfl,rfl,rfl,trivial⟩ ?_
 have n1:=N1.next
 refine WL.sr<|WOL.mv rfl<|WOL.mv rfl<|WOL.ms (m:=m) rfl rfl u29 tp3 (by decide) (by omega) fun h2 N2=>WOL.bd rfl bd1117a<|WOL.mv rfl<|WOL.ms (m:=m) rfl rfl u145 tp4 (by decide) (by omega) fun h3 N3=>WOL.bd rfl bd1194 ?_
 have n2:=N2.next
 have n3:=N3.next
 have X3:=(N1.hx.trans N2.hx).trans N3.hx
 refine WOL.sto (vs:=[zi n,slA h1.next m,.slice none 0 0,slA h2.next m]) rfl rfl tp1194 ((N1.at_.hx N2.hx).hx N3.hx) rfl rfl (Nat.le_of_ble_eq_true rfl) rfl (f.hx X3) (Nat.le_refl _) fun h4 P4=>WOL.nil ?_
 have a2:=N2.at_
 have a3:=N3.at_
 rw [rep_flat,← cat_rep (enc:=encI) (x:=0) rfl] at a2
 rw [rep_flat,← cat_rep (enc:=encB) (x:=false) rfl] at a3
 refine WL.ret (WL.endC rfl (load_row tp1194 P4.at_ rfl (Nat.le_of_ble_eq_true rfl)) ⟨P4.hx _ X3 (Nat.le_refl _),h1.next,h2.next,rfl,by omega,by omega,⟨P4.oth _ _ (by omega) (a2.hx N3.hx),P4.oth _ _ (by omega) a3,?_,by omega⟩⟩)
 rw [List.length_replicate,List.length_replicate]
end
end Go.Tidy
namespace Go.Tidy
open Go Go.Proofs Tab
variable {tp:TProg}
section
variable {P:Program} {a:Regs} {h:TH} {K:Regs→TH→Prop} {rest:List TOper} {d:Option Tmp} {ty:TypeId} {i:Nat} {f x0 x1 x2 l0:Operand} {ls:List Operand} {fv v0 v1 v2:Value} {ts:Array TypeId}
end
def RefS (B:Nat) (g:TH) (c:Nat) (s:ByteArray) (n:Int) (C:List (Int × Bool)) (e:Int):Prop :=
  ∃ sz nz w1 w2,At g c (.cells (runV sz nz w1 w2).cells.toList true true 88)∧(e≠0→w1=.slice none 0 0∧w2=.slice none 0 0) ∧
    (e=0→(sz=s∧nz=n)∧RunO B g w1 w2 (C.map fun c=>smp c.1) (holesOf (C.map fun c=>c.2))∧Lev (C.map fun c=>smp c.1) (C.map fun c=>c.1)∧C.length≤4096)
section
variable {B c c':Nat} {g g':TH} {s:ByteArray} {n:Int} {C:List (Int × Bool)} {e:Int}
theorem RefS.hx (q:RefS B g c s n C e) (x:HX g g'):RefS B g' c s n C e:=by
 obtain ⟨sz,nz,w1,w2,a,q1,q2⟩:=q
 exact ⟨sz,nz,w1,w2,a.hx x,q1,fun h=>⟨(q2 h).1,(q2 h).2.1.hx x,(q2 h).2.2⟩⟩
end
end Go.Tidy
namespace Go.Tidy
open Go Go.Proofs Tab
variable {tp:TProg}
structure TrcO (n0:Nat) (g:TH) (bv:Nat) (w:Value) (L:List Int) (S:List (Int × Int)):Prop where
 v:At g bv (.cells (cat encI L) true true 3)
 s:OwnL encS n0 g w 77 S
theorem TrcO.hx {n0 bv:Nat} {g g':TH} {w:Value} {L:List Int} {S:List (Int × Int)} (r:TrcO n0 g bv w L S) (x:HX g g'):TrcO n0 g' bv w L S:=⟨r.v.hx x,r.s.hx x⟩
theorem TrcO.put {n0 bv c:Nat} {g g':TH} {w:Value} {L:List Int} {S:List (Int × Int)} {x:TB} (r:TrcO n0 g bv w L S) (p:Put g g' c x) (h1:bv≠c) (h2:c < n0):TrcO n0 g' bv w L S:=⟨p.oth _ _ h1 r.v,r.s.keep fun z y hz a=>p.oth _ _ (by have:=r.s.lt hz;omega) a⟩
theorem TrcO.form {n0 bv:Nat} {g:TH} {w:Value} {L:List Int} {S:List (Int × Int)} (r:TrcO n0 g bv w L S):∃ b m k,w=.slice b m k:=by
 rcases r.s with ⟨rfl,_⟩ | ⟨_,b,rfl,_⟩
 ·exact ⟨_,_,_,rfl⟩
 ·exact ⟨_,_,_,rfl⟩
theorem TrcO.low {n0 n1 bv:Nat} {g:TH} {w:Value} {L:List Int} {S:List (Int × Int)} (r:TrcO n1 g bv w L S) (h:n0≤n1):TrcO n0 g bv w L S:=⟨r.v,by
 rcases r.s with q | ⟨q1,b,q2,q3,q4⟩
 ·exact .inl q
 ·exact .inr ⟨q1,b,q2,by omega,q4⟩⟩
section
variable {h:TH} {n:Int} {L:List Int} {B:List Bool} {bv bk:Nat}
end
end Go.Tidy
namespace Go.Tidy
open Go Go.Proofs Tab
variable {tp:TProg}
section
variable {h:TH} {l:List Nat} {v:Value} {bo:Option Addr} {n k:Nat}
end
section
variable {h:TH} {l:List Nat} {bo:Option Addr} {n k:Nat}
end
def OwnF {α:Type} (enc:α→List Value) (n0:Nat) (h:TH) (v:Value) (e:TypeId) (l:List α):Prop :=
 OwnL enc n0 h v e l∨(∃ b,v=.slice (some ⟨b,0,none⟩) l.length l.length∧n0≤b∧At h b (.cells (cat enc l) true true e))
section
variable {P:Program} {h:TH} {α:Type} {enc:α→List Value} {n0 n:Nat} {v:Value} {e:TypeId} {l:List α} {z:List Value} {row:Bool}
theorem OwnF.hx {h':TH} (o:OwnF enc n0 h v e l) (x:HX h h'):OwnF enc n0 h' v e l:=o.imp (fun o=>o.hx x) fun ⟨b,h1,h2,h3⟩=>⟨b,h1,h2,h3.hx x⟩
theorem OwnF.sl (E:Enc enc n) (o:OwnF enc n0 h v e l):SlL enc n h v l:=by
 rcases o with o | ⟨b,rfl,_,h3⟩
 ·exact o.sl E
 ·exact SlL.own E h3 rfl
theorem OwnF.form (o:OwnF enc n0 h v e l):∃ bo,v=.slice bo l.length l.length:=by
 rcases o with (⟨rfl,rfl⟩ | ⟨_,b,rfl,_⟩) | ⟨b,rfl,_⟩
 ·exact ⟨_,rfl⟩
 ·exact ⟨_,rfl⟩
 ·exact ⟨_,rfl⟩
end
section
variable {P:Program} {h:TH} {K:Regs→TH→Prop} {rest:List TOper} {d:Option Tmp} {ty:TypeId} {i:Nat} {x:Operand} {L:Rg}
theorem WOL.cvw {s t:TypeId} {ds:TypeDesc} {k k':IntKind} {n:Int} (hs:P.underlying s=some ds) (ht:P.underlying t=some (.int k')) (hx:getL L x=some (.int k n)) (w:∀ a,Kn (putL L d (.int k' (k'.wrap n))) a→WO P tp rest a h K):∀ a,Kn L a→WO P tp (⟨d,.convert s t x,ty,none,[],i⟩::rest) a h K:=fun a q =>
 WO.conv (q.o hx) rfl (conv_i2i hs ht) rfl (w _ (q.put d _))
end
section
variable {h hb:TH} {l:List Nat} {v:Value} {n k n0:Nat}
end
end Go.Tidy
namespace Go.Tidy
open Go Go.Proofs Tab
variable {tp:TProg}
theorem WOL.idx {P:Program} {h:TH} {K:Regs→TH→Prop} {rest:List TOper} {d:Option Tmp} {ty:TypeId} {i:Nat} {x y:Operand} {t:TypeId} {L:Rg} {cs:Array Value} {k:IntKind} {z:Int} {v:Value} (hx:getL L x=some (.agg cs)) (hy:getL L y=some (.int k z)) (hv:indexT P t (.agg cs) (.int k z)=some v) (w:∀ a,Kn (putL L d v) a→WO P tp rest a h K):∀ a,Kn L a→WO P tp (⟨d,.index t x y,ty,none,[],i⟩::rest) a h K:=fun a q=>by
 have ex:=getO_eval (q.o hx)
 have ey:=getO_eval (q.o hy)
 exact WO.op (h1:=h) rfl rfl (fun call=>by simp [stepOp,heapFirst,fastOp,valueOp,ex,ey,hv]) (w _ (q.put d _))
def Tail3 (s:Nat→ByteArray) (n:Nat→Int) (F:Nat→List Nat) (S:Nat→List (Int × Int)) (es L:Nat→List Int):Prop:=∀ k,2≤k→s k=s 2∧n k=n 2∧F k=F 2∧S k=S 2∧es k=es 2∧L k=L 2
section
variable {s:Nat→ByteArray} {n:Nat→Int} {v1 v2:Nat→Value} {F:Nat→List Nat} {S:Nat→List (Int × Int)} {es L:Nat→List Int} {h:TH} {lb:Nat} {el:Int}
theorem Tail3.some (t:Tail3 s n F S es L):∀ k,∃ j,j < 3∧s k=s j∧n k=n j∧F k=F j∧S k=S j∧es k=es j∧L k=L j:=by
 intro k
 by_cases h0:k=0
 ·subst h0;exact ⟨0,by decide,rfl,rfl,rfl,rfl,rfl,rfl⟩
 ·by_cases h1:k=1
  ·subst h1;exact ⟨1,by decide,rfl,rfl,rfl,rfl,rfl,rfl⟩
  ·exact ⟨2,by decide,t k (by omega)⟩
end
end Go.Tidy
namespace Go.Tidy
open Go Go.Proofs Tab
variable {tp:TProg}
def optL (L:Rg):Option Operand→Option (Option Value)
 | none=>some none
 | some x=>(getL L x).map some
theorem optL_o {L:Rg} {a:Regs} (k:Kn L a) {x:Option Operand} {v:Option Value} (h:optL L x=some v):x.map a.eval=v:=by
 cases x with
 | none=>cases h;rfl
 | some x =>
  simp only [optL,Option.map_eq_some_iff] at h
  obtain ⟨w,h1,rfl⟩:=h
  show some (a.eval x)=some w
  rw [getO_eval (k.o h1)]
section
variable {P:Program} {h:TH} {K:Regs→TH→Prop} {rest:List TOper} {d:Option Tmp} {ty:TypeId} {i:Nat} {x y:Operand} {t u e:TypeId} {L:Rg} {v vx:Value}
theorem WOL.slG {lo hi:Option Operand} {vlo vhi:Option Value} (hx:getL L x=some vx) (hp:plain vx=false) (hl:optL L lo=some vlo) (hh:optL L hi=some vhi) (hv:sliceT P t vx vlo vhi none h=some v) (w:∀ a,Kn (putL L d v) a→WO P tp rest a h K):∀ a,Kn L a→WO P tp (⟨d,.slice t x lo hi none,ty,none,[],i⟩::rest) a h K:=fun a k=>by
 have e1:=getO_eval (k.o hx)
 have e2:=optL_o k hl
 have e3:=optL_o k hh
 refine WO.op (h1:=h) rfl rfl (fun call=>?_) (w _ (k.put d _))
 have hq:plainOp P ⟨d,.slice t x lo hi none,ty,none,[],i⟩ a.eval=none:=by
  unfold plainOp
  simp [plainly,Op.operands,e1,hp]
 simp only [stepOp,heapFirst,fastOp,valueOp,hq,heapOp,e1,e2,e3,Option.map_none,hv,Bool.cond_false]
 rfl
end
section
variable {h:TH} {s c:Int} {x y z:Nat} {es:List Int}
end
section
variable {P:Program} {h:TH} {K:Regs→TH→Prop} {rest:List TOper} {d:Option Tmp} {ty:TypeId} {i:Nat} {x:Operand} {t e:TypeId} {L:Rg}
end
def wd (x y z:Nat):Nat→Nat | 0=>x | 1=>y | _=>z
theorem OwnF.at_ {α:Type} {enc:α→List Value} {n0:Nat} {h:TH} {v:Value} {e:TypeId} {l:List α} (o:OwnF enc n0 h v e l) (hl:l≠[]):∃ b fix,v=.slice (some ⟨b,0,none⟩) l.length l.length∧At h b (.cells (cat enc l) fix true e):=by
 rcases o with (⟨_,rfl⟩ | ⟨_,b,rfl,_,h3⟩) | ⟨b,rfl,_,h3⟩
 ·exact absurd rfl hl
 ·exact ⟨b,_,rfl,h3⟩
 ·exact ⟨b,_,rfl,h3⟩
section
variable {h:TH} {s c x y z:Nat}
end
end Go.Tidy
namespace Go.Tidy
open Go Go.Proofs Tab
variable {tp:TProg}
theorem Free0.heldO {n:Nat} {M:List Nat} {h:TH} {os:List (Option Nat)} (f:Free0 n h) (hM:∀ l,l ∈ M→some l ∈ os∨l ∈ h.lock) (hb:∀ b,some b ∈ os→b < n):Free0 n (h.withLock M) :=
 ⟨f.floor,fun l hl=>(hM l hl).elim (hb l) (f.lock l)⟩
section
variable {P:Program} {h:TH} {K:Regs→TH→Prop} {rest:List TOper} {d:Option Tmp} {ty:TypeId} {i:Nat} {L:Rg} {f x0 l0:Operand} {ls:List Operand} {fv v0:Value} {ts:Array TypeId}
end
section
variable {h:TH} {s c:Int} {x y z:Nat} {es:List Int}
end
end Go.Tidy
namespace Go.Tidy
open Go Go.Proofs Tab
variable {tp:TProg}
theorem Byt.drop {l:List Nat} (h:Byt l) (k:Nat):Byt (l.drop k):=fun b hb=>h b (List.mem_of_mem_drop hb)
theorem Byt.take {l:List Nat} (h:Byt l) (k:Nat):Byt (l.take k):=fun b hb=>h b (List.mem_of_mem_take hb)
section
variable {h:TH} {l:List Nat} {b:Nat} {fix wr:Bool} {el:TypeId}
end
def pr (w:Nat→Nat) (k i:Nat):Nat:=cond (Nat.blt i k) (w i) 0
section
variable {h:TH} {l:List Nat} {es:List Int}
end
end Go.Tidy
namespace Go.Tidy
open Go Go.Proofs Tab
variable {tp:TProg}
section
variable {P:Program} {h:TH} {α:Type} {enc:α→List Value} {n0 n:Nat} {v v2:Value} {e:TypeId} {l m:List α} {z:List Value} {row:Bool}
end
section
variable {P:Program} {h:TH} {K:Regs→TH→Prop} {rest:List TOper} {d:Option Tmp} {ty:TypeId} {i:Nat} {L:Rg} {f x0 x1 l0:Operand} {ls:List Operand} {fv v0 v1:Value} {ts:Array TypeId}
end
theorem OwnL.relock {α:Type} {enc:α→List Value} {n0:Nat} {h:TH} {v:Value} {e:TypeId} {l:List α} (o:OwnL enc n0 h v e l) (M:List Nat):OwnL enc n0 (h.withLock M) v e l:=o.imp id fun ⟨h0,b,h1,h2,h3⟩=>⟨h0,b,h1,h2,h3.relock M⟩
section
variable {h:TH} {s c x y z:Nat}
end
end Go.Tidy
namespace Go.Tidy
open Go Go.Proofs Tab
variable {tp:TProg}
abbrev Pkt:=Int × Int × Nat × Nat × Nat
def encP (p:Pkt):List Value:=[zi p.1,zi p.2.1,.float .f32 p.2.2.1,.float .f32 p.2.2.2.1,.float .f32 p.2.2.2.2]
theorem eP:Enc encP 5:=⟨fun _=>rfl,fun _=>rfl⟩
section
variable {h:TH} {p:Pkt} {v:Value} {l:List Pkt} {E:List Int}
end
end Go.Tidy
namespace Go.Tidy
open Go Go.Proofs Tab
variable {tp:TProg}
theorem cat_I:∀ l:List Int,cat encI l=l.map (.int .i64)
 | []=>rfl
 | x::l=>by
  show encI x ++ cat encI l=_
  rw [cat_I l];rfl
section
variable {h:TH} {v:Value} {l:List Pkt} {E:List Int}
end
end Go.Tidy
namespace Go.Tidy
open Go Go.Proofs Tab
variable {tp:TProg}
section
variable {h:TH} {v:Value} {l:List Pkt} {src:Int}
def LostA (L:List Int) (n0:Nat) (h:TH) (w:Value) (e:Int):Prop:=(L.length≤256∧e=0∧OwnL encI n0 h w 3 L)∨(256 < L.length∧e=5∧w=.slice none 0 0)
end
end Go.Tidy
namespace Go.Tidy
open Go Go.Proofs Tab
theorem ownI_ints {n0:Nat} {h:TH} {w:Value} {L:List Int} (o:OwnL encI n0 h w 3 L):IsInts h w L:=by
 rcases o with o | ⟨_,b,rfl,_,h3⟩
 ·exact .inl o
 ·rw [cat_I] at h3
  exact .inr ⟨b,_,_,_,_,rfl,h3.lt,h3.get⟩
theorem LostA.hx {L:List Int} {n0:Nat} {g g':TH} {w:Value} {e:Int} (a:LostA L n0 g w e) (x:HX g g'):LostA L n0 g' w e :=
 a.imp (fun ⟨h1,h2,h3⟩=>⟨h1,h2,h3.hx x⟩) id
end Go.Tidy
namespace Go.Tidy
open Go Go.Proofs Tab
variable {tp:TProg}
section
variable {h:TH} {n:Int} {v1 v2 w1 w2:Value} {L:List Int} {S:List (Int × Int)}
theorem k1152 (H:Has tp) (i1:IsInts h v1 L) (i2:IsInts h w1 L) (s1:SlL encS 2 h v2 S) (s2:SlL encS 2 h w2 S) (hL:L.length≤1000000) (hS:S.length≤1000000):CallW Tryz.prog tp (.func (.func 37) #[] #[]) #[trcV n v1 v2,trcV n w1 w2] h fun v h'=>v=.bool true∧HX h h':=by
 refine CallW.fnL (H.fn 37 f1152 rfl rfl) ?_
 refine WL.sr<|WOL.box rfl fun h1 N1=>WOL.box rfl fun h2 N2=>WOL.as rfl<|WOL.nil<|keep [(2,_),(3,_)] ⟨rfl,rfl,trivial⟩ ?_
 have A1:At h2 h.next (.cells [zi n,v1,v2] true true 52):=N1.at_.hx N2.hx
 have A2:At h2 h1.next (.cells [zi n,w1,w2] true true 52):=N2.at_
 have X2:=N1.hx.trans N2.hx
 refine WL.sr<|WOL.fa rfl (fa_of fo1114_0)<|WOL.ld rfl (load_one tp3 A1 rfl)<|WOL.fa rfl (fa_of fo1114_0)<|WOL.ld rfl (load_one tp3 A2 rfl)<|WOL.bt rfl rfl rfl (by first | exact decide_eq_true (by omega) | exact beq_iff_eq.2 (by omega) | exact bne_iff_ne.2 (by omega))<|WOL.mv rfl<|WOL.now (b:=true) rfl rfl<|WOL.fa rfl (fa_of fo1114_1)<|WOL.now (b:=true) rfl rfl<|WOL.ld rfl (load_one tp29 A1 rfl)<|WOL.now (b:=true) rfl rfl<|WOL.fa rfl (fa_of fo1114_1)<|WOL.now (b:=true) rfl rfl<|WOL.ld rfl (load_one tp29 A2 rfl)<|WOL.now (b:=true) rfl rfl<|WOL.cl2 rfl rfl rfl ((k18 H (i1.hx X2) (i2.hx X2) hL).mono ?_)
 rintro v h3 ⟨rfl,rfl⟩
 rw [show decide (L=L)=true from decide_eq_true rfl]
 refine WOL.pkt rfl rfl<|WOL.mv rfl<|WOL.now (b:=true) rfl rfl<|WOL.fa rfl (fa_of fo1114_2)<|WOL.now (b:=true) rfl rfl<|WOL.ld rfl (load_one tp44 A1 rfl)<|WOL.now (b:=true) rfl rfl<|WOL.fa rfl (fa_of fo1114_2)<|WOL.now (b:=true) rfl rfl<|WOL.ld rfl (load_one tp44 A2 rfl)<|WOL.now (b:=true) rfl rfl<|WOL.cl2 rfl rfl rfl ((k59 H (s1.hx X2) (s2.hx X2) hS).mono ?_)
 rintro v h4 ⟨rfl,rfl⟩
 exact WOL.pkt rfl rfl<|WOL.as rfl<|WOL.nil<|WL.ret (WL.end_ rfl ⟨rfl,X2⟩)
set_option maxHeartbeats 1000000 in
theorem k1153 (H:Has tp) (r:TrcH h v1 v2 L S) (hL:L.length≤1000000) (hS:S.length≤1000000) (f:Free0 h.next h):CallW Tryz.prog tp (.func (.func 38) #[] #[]) #[trcV n v1 v2] h fun v h'=>HX h h'∧∃ u1 u2,v=trcV n u1 u2∧TrcH h' u1 u2 L S∧(∀ z,bl u1=some z→h.next≤z)∧∀ z,bl u2=some z→h.next≤z:=by
 refine CallW.fnL (H.fn 38 f1153 rfl rfl) ?_
 refine WL.sr<|WOL.box rfl fun h1 N1=>WOL.al tp1114 fun h2 N2=>WOL.nil<|keep [(1,_),(2,_)] ⟨rfl,rfl,trivial⟩ ?_
 have n1:=N1.next
 have n2:=N2.next
 have A1:At h2 h.next (.cells [zi n,v1,v2] true true 52):=N1.at_.hx N2.hx
 have A2:=N2.at_
 have X2:=N1.hx.trans N2.hx
 obtain ⟨b1,k1,e1,_⟩:=id r.l
 obtain ⟨b2,k2,e2,_⟩:=id r.s
 subst e1 e2
 refine WL.sr<|WOL.bs0 u29 tp3 (by decide) (by decide) fun h3 N3=>WOL.fa rfl (fa_of fo1114_1)<|WOL.ld rfl (load_one tp29 (A1.hx N3.hx) rfl) ?_
 have n3:=N3.next
 obtain ⟨u1,h4,ap,X4,s4,b4,rfl,hb4,F4⟩:=append_own u29 tp3 N3.at_ (r.l.hx (X2.trans N3.hx)) (by omega) (eI.all _)
 have x4:=X4.next
 have X3:=X2.trans N3.hx
 refine WOL.ap rfl rfl ap<|WOL.fa rfl (fa_of fo1114_1) ?_
 refine WOL.sto (vs:=[.slice (some ⟨b4,0,none⟩) L.length L.length]) rfl rfl tp29 ((A1.hx N3.hx).hx X4) rfl rfl (Nat.le_of_ble_eq_true rfl) rfl (f.hx (X3.trans X4)) (Nat.le_refl _) fun h5 P5=>WOL.nil<|keep [(1,_),(2,_)] ⟨rfl,rfl,trivial⟩ ?_
 have n5:=P5.next
 have A5:At h5 h.next (.cells [zi n,.slice (some ⟨b4,0,none⟩) L.length L.length,.slice b2 S.length k2] true true 52):=P5.at_
 have X5:HX h h5:=P5.hx _ (X3.trans X4) (Nat.le_refl _)
 have s5:SlL encI 1 h5 (.slice (some ⟨b4,0,none⟩) L.length L.length) L:=slC_keep s4 fun z y hz a=>P5.oth _ _ (by have:b4=z:=Option.some.inj hz;omega) a
 have F5:Fits h5 (.slice (some ⟨b4,0,none⟩) L.length L.length) 3:=fun b off m cap e=>by
  obtain ⟨cc,fix,wr,el,r1,r2⟩:=F4 b off m cap e
  cases e
  exact ⟨cc,fix,wr,el,P5.oth _ _ (by omega) r1,r2⟩
 have A2':=P5.oth _ _ (by omega) ((A2.hx N3.hx).hx X4)
 refine WL.sr<|WOL.bs0 u44 tp48 (by decide) (by decide) fun h6 N6=>WOL.fa rfl (fa_of fo1114_2)<|WOL.ld rfl (load_one tp44 (A5.hx N6.hx) rfl) ?_
 have n6:=N6.next
 obtain ⟨u2,h7,ap7,X7,s7,b7,rfl,hb7,F7⟩:=append_own u44 tp48 N6.at_ (r.s.hx (X5.trans N6.hx)) (by omega) (eS.all _)
 have x7:=X7.next
 have X6:=X5.trans N6.hx
 refine WOL.ap rfl rfl ap7<|WOL.fa rfl (fa_of fo1114_2) ?_
 refine WOL.sto (vs:=[.slice (some ⟨b7,0,none⟩) S.length S.length]) rfl rfl tp44 ((A5.hx N6.hx).hx X7) rfl rfl (Nat.le_of_ble_eq_true rfl) rfl (f.hx (X6.trans X7)) (Nat.le_refl _) fun h8 P8=>WOL.nil<|keep [(1,_),(2,_)] ⟨rfl,rfl,trivial⟩ ?_
 have A8:At h8 h.next (.cells [zi n,.slice (some ⟨b4,0,none⟩) L.length L.length,.slice (some ⟨b7,0,none⟩) S.length S.length] true true 52):=P8.at_
 have X8:HX h h8:=P8.hx _ (X6.trans X7) (Nat.le_refl _)
 have A2'':=P8.oth _ _ (by omega) ((A2'.hx N6.hx).hx X7)
 have n8:=P8.next
 refine WL.sr<|WOL.ld rfl (load_row tp1114 A8 rfl (Nat.le_of_ble_eq_true rfl))<|WOL.sto (vs:=[zi n,.slice (some ⟨b4,0,none⟩) L.length L.length,.slice (some ⟨b7,0,none⟩) S.length S.length]) rfl rfl tp1114 A2'' rfl rfl (Nat.le_of_ble_eq_true rfl) rfl (f.hx X8) (by omega) fun h9 P9=>WOL.nil ?_
 refine WL.ret (WL.endC rfl (load_row tp1114 P9.at_ rfl (Nat.le_of_ble_eq_true rfl)) ⟨P9.hx _ X8 (by omega),_,_,rfl,⟨?_,?_,?_⟩,fun z hz=>(by have:b4=z:=Option.some.inj hz;omega),fun z hz=>(by have:b7=z:=Option.some.inj hz;omega)⟩)
 ·exact slC_keep (slC_keep ((s5.hx N6.hx).hx X7) fun z y hz a=>P8.oth _ _ (by have:b4=z:=Option.some.inj hz;omega) a) fun z y hz a=>P9.oth _ _ (by have:b4=z:=Option.some.inj hz;omega) a
 ·exact slC_keep (slC_keep s7 fun z y hz a=>P8.oth _ _ (by have:b7=z:=Option.some.inj hz;omega) a) fun z y hz a=>P9.oth _ _ (by have:b7=z:=Option.some.inj hz;omega) a
 ·exact fun b off m cap e=>by
   obtain ⟨cc,fix,wr,el,r1,r2⟩:=F5 b off m cap e
   cases e
   exact ⟨cc,fix,wr,el,P9.oth _ _ (by omega) (P8.oth _ _ (by omega) ((r1.hx N6.hx).hx X7)),r2⟩
theorem k1115 (H:Has tp) (r:TrcH h v1 v2 L S) (hL:L.length≤1000000) (hS:S.length≤1000000) (f:Free0 h.next h):CallW Tryz.prog tp (.func (.func 26) #[] #[]) #[trcV n v1 v2] h fun v h'=>HX h h'∧∃ u1 u2,v=trcV n u1 u2∧TrcH h' u1 u2 L S∧(∀ z,bl u1=some z→h.next≤z)∧∀ z,bl u2=some z→h.next≤z:=by
 refine CallW.fnL (H.fn 26 f1115 rfl rfl) ?_
 refine WL.sr<|WOL.box rfl fun h1 N1=>WOL.al tp1117 fun h2 N2=>WOL.nil<|keep [(1,_),(2,_)] ⟨rfl,rfl,trivial⟩ ?_
 have n1:=N1.next
 have n2:=N2.next
 have A1:At h2 h.next (.cells [zi n,v1,v2] true true 52):=N1.at_.hx N2.hx
 have A2:=N2.at_
 have X2:=N1.hx.trans N2.hx
 refine WL.sr<|WOL.ld rfl (load_row tp1114 A1 rfl (Nat.le_of_ble_eq_true rfl))<|WOL.cl1 rfl rfl ((k1153 H (r.hx X2) hL hS (f.on X2)).mono ?_)
 rintro v h3 ⟨X3,u1,u2,rfl,t3,l1,l2⟩
 obtain ⟨b1,k1,e1,_⟩:=id t3.l
 obtain ⟨b2,k2,e2,_⟩:=id t3.s
 subst e1 e2
 refine WOL.sto (vs:=[zi n,.slice b1 L.length k1,.slice b2 S.length k2]) rfl rfl tp1117 (A2.hx X3) rfl rfl (Nat.le_of_ble_eq_true rfl) rfl (f.hx (X2.trans X3)) (by omega) fun h4 P4=>WOL.nil ?_
 refine WL.ret (WL.endC rfl (load_row tp1117 P4.at_ rfl (Nat.le_of_ble_eq_true rfl)) ⟨P4.hx _ (X2.trans X3) (by omega),_,_,rfl,⟨?_,?_,?_⟩,fun z hz=>(by have:=l1 z hz;omega),fun z hz=>(by have:=l2 z hz;omega)⟩)
 ·exact slC_keep t3.l fun z y hz a=>P4.oth _ _ (by have:=l1 z hz;omega) a
 ·exact slC_keep t3.s fun z y hz a=>P4.oth _ _ (by have:=l2 z hz;omega) a
 ·exact fun b off m cap e=>by
   obtain ⟨cc,fix,wr,el,r1,r2⟩:=t3.g b off m cap e
   refine ⟨cc,fix,wr,el,P4.oth _ _ ?_ r1,r2⟩
   have:=l1 b (by rw [e];rfl)
   omega
end
end Go.Tidy
namespace Go.Tidy
open Go Go.Proofs Tab
variable {tp:TProg}
section
variable {P:Program} {h:TH} {α:Type} {enc:α→List Value} {n0 n:Nat} {v:Value} {e:TypeId} {l:List α} {z:List Value} {row:Bool}
end
section
variable {h hb:TH} {l:List Nat} {v:Value} {n k n0:Nat}
end
theorem OwnF.lt {α:Type} {enc:α→List Value} {n0:Nat} {h:TH} {v:Value} {e:TypeId} {l:List α} (o:OwnF enc n0 h v e l) {c:Nat} (hc:bl v=some c):n0≤c∧c < h.next:=by
 rcases o with o | ⟨b,rfl,h2,h3⟩
 ·exact o.lt hc
 ·cases hc;exact ⟨h2,h3.lt⟩
section
variable {s:ByteArray} {n:Int} {v1 v2:Value} {F:List Nat} {S:List (Int × Int)} {es L:List Int} {h:TH}
end
end Go.Tidy
namespace Go.Tidy
open Go Go.Proofs Tab
variable {tp:TProg}
section
variable {P:Program} {h:TH} {K:Regs→TH→Prop} {rest:List TOper} {d:Option Tmp} {ty:TypeId} {i:Nat} {x:Operand} {L:Rg} {q:Addr} {t e:TypeId} {n:Nat} {z:List Value} {row:Bool}
theorem bound_in {q:IntKind} {r dflt upper:Nat} (hr:r≤upper):boundT (some (.int q (r:Nat))) dflt upper=some r:=by
 have d1:decide (0≤(r:Int))=true:=decide_eq_true (Int.natCast_nonneg _)
 have d2:decide ((r:Int)≤(upper:Int))=true:=decide_eq_true (Int.ofNat_le.2 hr)
 simp only [boundT,d1,d2,Bool.and_self,Bool.cond_true,Int.toNat_natCast]
theorem fits_of {b:Nat} {cc:List Value} {fix wr:Bool} {el:TypeId} (hb:At h b (.cells cc fix wr el)) (hf:fix=true∨el=e):elemFits h b e=true:=by
 unfold elemFits
 rw [hb.get]
 rcases hf with rfl | rfl
 ·rfl
 ·simp
theorem sliceT_to {b off m cap hi:Nat} {k:IntKind} {cc:List Value} {fix wr:Bool} {el:TypeId} (hu:P.underlying t=some (.slice e)) (he:Tp P e n z row) (hc:m≤cap) (h2:hi≤m) (hb:At h b (.cells cc fix wr el)) (hf:fix=true∨el=e) :
  sliceT P t (.slice (some ⟨b,off,none⟩) m cap) none (some (.int k (hi:Nat))) none h=some (.slice (some ⟨b,off,none⟩) hi cap):=by
 obtain ⟨inf,q1,q2,q3,_⟩:=he.i
 have hcut:cut3 m cap none (some (.int k (hi:Nat))) none=some (0,hi,cap):=by
  simp only [cut3,show boundT none cap cap=some cap from rfl,show ∀ x,boundT none 0 x=some 0 from fun _=>rfl,Option.bind_some,Option.isNone_some,Option.isSome_none,Bool.and_self,Bool.cond_false,bound_in (show hi≤cap by omega),Option.map_some]
 simp only [sliceT,hu,ble_yes hc,Bool.cond_true,hcut,Option.bind_some,q1,fits_of hb hf,q2,Nat.zero_mul,Nat.add_zero,Nat.sub_zero]
theorem sliceT_from {b off m cap lo:Nat} {k:IntKind} {cc:List Value} {fix wr:Bool} {el:TypeId} (hu:P.underlying t=some (.slice e)) (he:Tp P e n z row) (hc:m≤cap) (h2:lo≤m) (hb:At h b (.cells cc fix wr el)) (hf:fix=true∨el=e) :
  sliceT P t (.slice (some ⟨b,off,none⟩) m cap) (some (.int k (lo:Nat))) none none h=some (.slice (some ⟨b,off+lo*n,none⟩) (m - lo) (cap - lo)):=by
 obtain ⟨inf,q1,q2,q3,_⟩:=he.i
 have hcut:cut3 m cap (some (.int k (lo:Nat))) none none=some (lo,m,cap):=by
  simp only [cut3,show boundT none cap cap=some cap from rfl,show boundT none m cap=some m from rfl,Option.bind_some,Option.isNone_none,Option.isSome_none,Bool.and_false,Bool.cond_false,bound_in h2,Option.map_some]
 simp only [sliceT,hu,ble_yes hc,Bool.cond_true,hcut,Option.bind_some,q1,fits_of hb hf,q2]
end
structure Stm (h:TH) (b o cap:Nat) (l:List Nat):Prop where
 ex:∃ cc fix wr el,At h b (.cells cc fix wr el)∧(cc.drop o).take l.length=cat encY l∧o+l.length≤cc.length∧(fix=true∨el=5)
 cap:l.length≤cap
section
variable {h h':TH} {b o cap:Nat} {l:List Nat}
theorem Stm.hx (s:Stm h b o cap l) (x:HX h h'):Stm h' b o cap l:=⟨by
 obtain ⟨cc,fix,wr,el,a,r⟩:=s.ex
 exact ⟨cc,fix,wr,el,a.hx x,r⟩,s.cap⟩
theorem Stm.oth (s:Stm h b o cap l) {c:Nat} (k:∀ z y,z≠c→At h z y→At h' z y) (hb:b≠c):Stm h' b o cap l:=⟨by
 obtain ⟨cc,fix,wr,el,a,r⟩:=s.ex
 exact ⟨cc,fix,wr,el,k _ _ hb a,r⟩,s.cap⟩
theorem Stm.part (s:Stm h b o cap l) {p k c:Nat} (hpk:p+k≤l.length) (hc:k≤c):SlL encY 1 h (.slice (some ⟨b,o+p,none⟩) k c) ((l.drop p).take k):=by
 obtain ⟨cc,fix,wr,el,a,e1,e2,_⟩:=s.ex
 have hl:((l.drop p).take k).length=k:=by rw [List.length_take,List.length_drop];omega
 refine ⟨_,c,by rw [hl],by rw [hl];exact hc,by rw [eY.cat_len],.inr ⟨b,o+p,cc,fix,wr,el,rfl,a,?_,?_⟩⟩
 ·rw [hl,Nat.mul_one]
  have q:=eY.part l p k
  rw [Nat.mul_one,Nat.mul_one] at q
  rw [← q,← e1,List.drop_take,List.take_take,List.drop_drop,Nat.min_eq_left (by omega)]
 ·rw [hl];omega
end
abbrev Cu:=Nat × Bool
section
variable {h:TH} {b o cap c4 n0:Nat} {l:List Nat} {c:Cu}
end
end Go.Tidy
namespace Go.Tidy
open Go Go.Proofs Tab
variable {tp:TProg}
theorem copy_part {P:Program} {sT e:TypeId} {z:List Value} {row:Bool} {h:TH} {b off d cap b' off' m cap' k n0:Nat} {c c':List Value} {fix fix' wr':Bool} {el el':TypeId} (hu:P.underlying sT=some (.slice e)) (he:Tp P e 1 z row) (hg:At h b (.cells c fix true el)) (hs:At h b' (.cells c' fix' wr' el')) (hk:Nat.min m d=k) (h1:off+d≤c.length) (h2:off'+m≤c'.length) (hall:((c'.drop off').take k).all oneCell=true) (f:Free0 n0 h) (hb:n0≤b) :
  ∃ h',copyT P #[sT,sT] #[.slice (some ⟨b,off,none⟩) d cap,.slice (some ⟨b',off',none⟩) m cap'] h=some (.int .i64 (k:Nat),h')∧Put h h' b (.cells (splice c off ((c'.drop off').take k)) fix true el):=by
 obtain ⟨inf,q1,q2,q3,_⟩:=he.i
 have hkm:k≤m:=by rw [← hk];exact Nat.min_le_left _ _
 have hkd:k≤d:=by rw [← hk];exact Nat.min_le_right _ _
 have e1:Nat.ble k m=true:=ble_yes hkm
 have e2:Nat.ble (off'+k) c'.length=true:=ble_yes (by omega)
 have hf:firstT h 1 k (.slice (some ⟨b',off',none⟩) m cap')=some ((c'.drop off').take k):=by
  simp only [firstT,e1,Bool.cond_true,cellsAt,hs.get,e2,Nat.mul_one]
 by_cases k0:k=0
 ·subst k0
  refine ⟨h,?_,by rw [List.take_zero,splice_nil];exact Put.same hg⟩
  have b0:Nat.beq 0 0=true:=rfl
  simp only [copyT,elemInfo,List.getElem?_toArray,List.getElem?_cons_zero,List.getElem?_cons_succ,hu,Option.bind_some,q1,Option.map_some,lenT,q2,hk,hf,b0,Bool.cond_true]
  rfl
 ·have b0:Nat.beq k 0=false:=beq_no k0
  have hl:((c'.drop off').take k).length=k:=by rw [List.length_take,List.length_drop];omega
  have e4:Nat.ble (off+((c'.drop off').take k).length) c.length=true:=ble_yes (by omega)
  have hp:h.put b (.cells (splice c off ((c'.drop off').take k)) fix true el)=some (h.upd b (.cells (splice c off ((c'.drop off').take k)) fix true el)):=f.put hb hg.lt
  refine ⟨h.upd b (.cells (splice c off ((c'.drop off').take k)) fix true el),?_,Put.mk' hg _⟩
  simp only [copyT,elemInfo,List.getElem?_toArray,List.getElem?_cons_zero,List.getElem?_cons_succ,hu,Option.bind_some,q1,Option.map_some,lenT,q2,hk,hf,b0,Bool.cond_false,putCells,hg.get,e4,hall,Bool.and_self,Bool.cond_true,hp]
section
variable {P:Program} {h:TH} {K:Regs→TH→Prop} {rest:List TOper} {d:Option Tmp} {ty t u:TypeId} {i:Nat} {x y:Operand} {L:Rg}
theorem pv_shr64 {n s:Nat} {yk:IntKind} (hs:s≤64):pv P (binOp .shr t (.int .u64 (n:Nat)) (.int yk (s:Nat)))=some (.int .u64 ((n / 2 ^ s:Nat):Int)):=by
 show pv P (Op.shift .shr .u64 n yk s)=_
 unfold Op.shift
 rw [if_neg (by omega)]
 show some (Value.int .u64 ((n:Int).fdiv (2 ^ (min (s:Int).toNat IntKind.u64.bits))))=_
 have e:min (s:Int).toNat IntKind.u64.bits=s:=by
  have:IntKind.u64.bits=64:=rfl
  rw [this];omega
 rw [e,Int.fdiv_eq_ediv_of_nonneg _ (Int.le_of_lt (Int.pow_pos (by decide)))]
 rfl
theorem pv_and64 {n:Nat} (hn:n < 4294967296):pv P (binOp .and t (.int .u64 (n:Nat)) (.int .u64 4294967295))=some (.int .u64 (n:Nat)):=by
 have e:(BitVec.ofInt 64 (n:Int) &&& BitVec.ofInt 64 4294967295).toNat=n:=by
  have e1:BitVec.ofInt 64 (n:Int)=BitVec.ofNat 64 n:=BitVec.ofInt_natCast ..
  have e2:BitVec.ofInt 64 4294967295=BitVec.ofNat 64 4294967295:=rfl
  rw [e1,e2,BitVec.toNat_and,BitVec.toNat_ofNat,BitVec.toNat_ofNat,Nat.mod_eq_of_lt (by omega),Nat.mod_eq_of_lt (by decide)]
  have:=Nat.and_two_pow_sub_one_eq_mod n 32
  rw [show (2 ^ 32 - 1:Nat)=4294967295 from rfl] at this
  rw [this]
  exact Nat.mod_eq_of_lt hn
 show pv P (pure (Value.int .u64 (IntKind.u64.wrap ((BitVec.ofInt 64 (n:Int) &&& BitVec.ofInt 64 4294967295).toNat:Nat))))=_
 rw [e,IntWalk.u64_in _ (by omega)]
 rfl
theorem WOL.shr64 {n:Nat} (hx:getL L x=some (.int .u64 (n:Nat))) (hn:n < 4294967296) (w:∀ a,Kn (putL L d (.int .u64 0)) a→WO P tp rest a h K):∀ a,Kn L a→WO P tp (⟨d,.binOp .shr t x (.const (.int .u64 32)) u,ty,none,[],i⟩::rest) a h K :=
 WOL.pbin hx rfl rfl rfl rfl ⟨by decide,by decide⟩ (by
  have:=pv_shr64 (P:=P) (t:=t) (n:=n) (s:=32) (yk:=.u64) (by decide)
  rw [Nat.div_eq_of_lt (by omega)] at this
  exact this) rfl w
theorem WOL.and64 {n:Nat} (hx:getL L x=some (.int .u64 (n:Nat))) (hn:n < 4294967296) (w:∀ a,Kn (putL L d (.int .u64 (n:Nat))) a→WO P tp rest a h K):∀ a,Kn L a→WO P tp (⟨d,.binOp .and t x (.const (.int .u64 4294967295)) u,ty,none,[],i⟩::rest) a h K :=
 WOL.pbin hx rfl rfl rfl rfl ⟨by decide,by decide⟩ (pv_and64 hn) rfl w
theorem fwrap_u64 {z:Int} (h1:0≤z) (h2:z≤18446744073709551615):fwrap .u64 z=z:=by rw [fwrap_eq];exact IntWalk.u64_in z ⟨h1,h2⟩
end
theorem k1235 (H:Has tp) {n:Nat} (hn:n < 4294967296) (h:TH):CallW Tryz.prog tp (.func (.func 203) #[] #[]) #[.int .u64 1,.int .u64 (n:Nat)] h fun v h'=>v=.tuple #[.int .u64 0,.int .u64 (n:Nat)]∧h'=h:=by
 have one:∀ k:Nat,k=n→some (Value.int .u64 (fwrap .u64 (1*(k:Int))))=some (Value.int .u64 (n:Nat)):=fun k e=>by rw [e,Int.one_mul,fwrap_u64 (by omega) (by omega)]
 refine CallW.fnL (H.fn 203 f1235 rfl rfl) ?_
 refine WL.sr<|WOL.as rfl<|WOL.as rfl<|WOL.nil<|keep [(0,_),(1,_)] ⟨rfl,rfl,trivial⟩ ?_
 refine WL.sr<|WOL.mv rfl<|WOL.and64 (n:=1) rfl (by decide)<|WOL.as rfl<|WOL.nil<|keep [(0,_),(1,_),(6,_)] ⟨rfl,rfl,rfl,trivial⟩ ?_
 refine WL.sr<|WOL.mv rfl<|WOL.shr64 (n:=1) rfl (by decide)<|WOL.as rfl<|WOL.nil<|keep [(0,_),(1,_),(6,_),(7,_)] ⟨rfl,rfl,rfl,rfl,trivial⟩ ?_
 refine WL.sr<|WOL.mv rfl<|WOL.and64 rfl hn<|WOL.as rfl<|WOL.nil<|keep [(0,_),(1,_),(6,_),(7,_),(8,_)] ⟨rfl,rfl,rfl,rfl,rfl,trivial⟩ ?_
 refine WL.sr<|WOL.mv rfl<|WOL.shr64 rfl hn<|WOL.as rfl<|WOL.nil<|keep [(0,_),(1,_),(6,_),(7,_),(8,_),(9,_)] ⟨rfl,rfl,rfl,rfl,rfl,rfl,trivial⟩ ?_
 refine WL.sr<|WOL.mv rfl<|WOL.mv rfl<|WOL.bi (v:=.int .u64 (n:Nat)) rfl rfl (one n rfl)<|WOL.as rfl<|WOL.nil<|keep [(0,_),(1,_),(6,_),(7,_),(8,_),(9,_),(10,_)] ⟨rfl,rfl,rfl,rfl,rfl,rfl,rfl,trivial⟩ ?_
 refine WL.sr<|WOL.mv rfl<|WOL.mv rfl<|WOL.bi (v:=.int .u64 0) rfl rfl (by show some (Value.int .u64 (fwrap .u64 (0*(n:Int))))=_;rw [Int.zero_mul];rfl)<|WOL.mv rfl<|WOL.shr64 rfl hn<|WOL.bi (v:=.int .u64 0) rfl rfl rfl<|WOL.as rfl<|WOL.nil<|keep [(0,_),(1,_),(6,_),(7,_),(8,_),(9,_),(11,_)] ⟨rfl,rfl,rfl,rfl,rfl,rfl,rfl,trivial⟩ ?_
 refine WL.sr<|WOL.mv rfl<|WOL.and64 (n:=0) rfl (by decide)<|WOL.as rfl<|WOL.nil<|keep [(0,_),(1,_),(6,_),(7,_),(8,_),(9,_),(11,_),(12,_)] ⟨rfl,rfl,rfl,rfl,rfl,rfl,rfl,rfl,trivial⟩ ?_
 refine WL.sr<|WOL.mv rfl<|WOL.shr64 (n:=0) rfl (by decide)<|WOL.as rfl<|WOL.nil<|keep [(0,_),(1,_),(6,_),(7,_),(8,_),(9,_),(12,_),(13,_)] ⟨rfl,rfl,rfl,rfl,rfl,rfl,rfl,rfl,trivial⟩ ?_
 refine WL.sr<|WOL.mv rfl<|WOL.mv rfl<|WOL.mv rfl<|WOL.bi (v:=.int .u64 0) rfl rfl rfl<|WOL.bi (v:=.int .u64 0) rfl rfl rfl<|WOL.as rfl<|WOL.nil<|keep [(0,_),(1,_),(7,_),(9,_),(12,_),(13,_)] ⟨rfl,rfl,rfl,rfl,rfl,rfl,trivial⟩ ?_
 refine WL.sr<|WOL.mv rfl<|WOL.mv rfl<|WOL.bi (v:=.int .u64 0) rfl rfl rfl<|WOL.mv rfl<|WOL.bi (v:=.int .u64 0) rfl rfl rfl<|WOL.mv rfl<|WOL.shr64 (n:=0) rfl (by decide)<|WOL.bi (v:=.int .u64 0) rfl rfl rfl<|WOL.as rfl<|WOL.nil<|keep [(0,_),(1,_),(4,_)] ⟨rfl,rfl,rfl,trivial⟩ ?_
 refine WL.sr<|WOL.mv rfl<|WOL.mv rfl<|WOL.bi (v:=.int .u64 (n:Nat)) rfl rfl (one n rfl)<|WOL.as rfl<|WOL.nil ?_
 exact WL.ret (WL.end_ rfl ⟨rfl,rfl⟩)
theorem k1233 (H:Has tp) {n:Nat} (hn:n < 4294967296) (h:TH):CallW Tryz.prog tp (.func (.func 188) #[] #[]) #[.int .u64 1,.int .u64 (n:Nat)] h fun v h'=>v=.tuple #[.int .u64 0,.int .u64 (n:Nat)]∧h'=h:=by
 refine CallW.fnL (H.fn 188 f1233 rfl rfl) ?_
 refine WL.sr<|WOL.as rfl<|WOL.as rfl<|WOL.nil<|keep [(0,_),(1,_)] ⟨rfl,rfl,trivial⟩ ?_
 refine WL.seq<|WL.no rfl<|WL.skip ?_
 refine WL.sr<|WOL.mv rfl<|WOL.mv rfl<|WOL.cl2 rfl rfl rfl ((k1235 H hn _).mono ?_)
 rintro v h2 ⟨rfl,rfl⟩
 refine WOL.mv rfl<|WOL.ex rfl rfl<|WOL.ex rfl rfl<|WOL.as rfl<|WOL.as rfl<|WOL.nil<|keep [(8,_),(9,_)] ⟨rfl,rfl,trivial⟩ ?_
 refine WL.sr<|WOL.mv rfl<|WOL.mv rfl<|WOL.as rfl<|WOL.as rfl<|WOL.nil ?_
 exact WL.ret (WL.end_ rfl ⟨rfl,rfl⟩)
def tf (c n:Nat):List Value:=List.replicate c (.bool true) ++ List.replicate (n - c) (.bool false)
theorem tf_len {c n:Nat} (h:c≤n):(tf c n).length=n:=by unfold tf;rw [List.length_append,List.length_replicate,List.length_replicate];omega
theorem tf_take {c k n:Nat} (h:k≤c):((tf c n).drop 0).take k=List.replicate k (.bool true):=by
 unfold tf
 rw [List.drop_zero,List.take_append_of_le_length (by rw [List.length_replicate];exact h),List.take_replicate,Nat.min_eq_left h]
theorem rep_add {α:Type} (x:α) (b:Nat):∀ a:Nat,List.replicate (a+b) x=List.replicate a x ++ List.replicate b x
 | 0=>by rw [Nat.zero_add];rfl
 | a+1=>by rw [show a+1+b=(a+b)+1 by omega,List.replicate_succ,List.replicate_succ,rep_add x b a];rfl
theorem tf_splice {c k n:Nat} (h:c+k≤n):splice (tf c n) c (List.replicate k (.bool true))=tf (c+k) n:=by
 unfold splice tf
 have e:List.replicate (n - c) (Value.bool false)=List.replicate k (.bool false) ++ List.replicate (n - (c+k)) (.bool false):=by rw [← rep_add];congr 1;omega
 have d:(List.replicate c (Value.bool true) ++ (List.replicate k (Value.bool false) ++ List.replicate (n - (c+k)) (Value.bool false))).drop (c+k)=List.replicate (n - (c+k)) (.bool false):=by
  rw [← List.append_assoc]
  exact List.drop_left' (by rw [List.length_append,List.length_replicate,List.length_replicate])
 rw [List.length_replicate,e,List.take_left' List.length_replicate,d,rep_add,List.append_assoc]
theorem all_true (k:Nat):(List.replicate k (Value.bool true)).all oneCell=true:=by
 rw [List.all_eq_true]
 intro x hx
 rw [List.eq_of_mem_replicate hx]
 rfl
section
variable {h:TH} {b1 n:Nat} {fix wr:Bool} {el:TypeId}
set_option maxHeartbeats 2000000 in
set_option maxRecDepth 10000 in
theorem k1232 (H:Has tp) (A1:At h b1 (.cells [.bool true] fix wr el)) (hn:n≤1000000) (f:Free0 h.next h):CallW Tryz.prog tp (.func (.func 173) #[] #[]) #[.slice (some ⟨b1,0,none⟩) 1 1,zi (n:Nat)] h fun v h'=>∃ b,v=slA b n∧At h' b (.cells (tf n n) true true 4)∧HX h h'∧h.next≤b:=by
 have l1:=A1.lt
 refine CallW.fnL (H.fn 173 f1232 rfl rfl) ?_
 refine WL.sr<|WOL.as rfl<|WOL.nil<|keep [(0,_),(1,_)] ⟨rfl,rfl,trivial⟩ ?_
 refine WL.seq<|WL.sr<|WOL.mv rfl<|WOL.bf rfl rfl rfl (by first | exact decide_eq_false (by omega) | exact beq_eq_false_iff_ne.2 (by omega) | exact bne_eq_false_iff_eq.2 (by omega))<|WOL.nil<|keep [(0,_),(1,_),(10,_)] ⟨rfl,rfl,rfl,trivial⟩ ?_
 refine WL.no rfl<|WL.skip ?_
 refine WL.sr<|WOL.mv rfl<|WOL.len rfl (SlC.own (sz:=1) (m:=1) rfl A1) u145<|WOL.cvw u3 u228 rfl ?_
 rw [show IntKind.u64.wrap ((1:Nat):Int)=1 from IntWalk.u64_in _ (by decide)]
 refine WOL.mv rfl<|WOL.cvw u3 u228 rfl ?_
 rw [show IntKind.u64.wrap ((n:Nat):Int)=((n:Nat):Int) from IntWalk.u64_in _ (by omega)]
 refine WOL.cl2 rfl rfl rfl ((k1233 H (n:=n) (by omega) _).mono ?_)
 rintro v h ⟨rfl,rfl⟩
 refine WOL.mv rfl<|WOL.ex rfl rfl<|WOL.ex rfl rfl<|WOL.as rfl<|WOL.as rfl<|WOL.nil<|keep [(0,_),(5,_),(6,_)] ⟨rfl,rfl,rfl,trivial⟩ ?_
 refine WL.seq<|WL.sr<|WOL.mv rfl<|WOL.bf rfl rfl rfl rfl<|WOL.mv rfl<|WOL.now (b:=false) rfl rfl<|WOL.mv rfl<|WOL.now (b:=false) rfl rfl<|WOL.bf rfl rfl rfl (by first | exact decide_eq_false (by omega) | exact beq_eq_false_iff_ne.2 (by omega) | exact bne_eq_false_iff_eq.2 (by omega))<|WOL.pkf rfl rfl<|WOL.nil<|keep [(0,_),(6,_),(26,_)] ⟨rfl,rfl,rfl,trivial⟩ ?_
 refine WL.no rfl<|WL.skip ?_
 refine WL.sr<|WOL.mv rfl<|WOL.cvw u228 u3 rfl ?_
 rw [show IntKind.i64.wrap ((n:Nat):Int)=((n:Nat):Int) from IntWalk.i64_in _ (by omega)]
 refine WOL.ms (m:=n) rfl rfl u145 tp4 (by decide) (by omega) fun h3 N3=>WOL.as rfl<|WOL.nil<|keep [(0,_),(7,_)] ⟨rfl,rfl,trivial⟩ ?_
 have n3:=N3.next
 have A3:=N3.at_
 rw [rep_flat,show List.replicate n (Value.bool false)=tf 0 n by unfold tf;rw [Nat.sub_zero];rfl] at A3
 refine WL.sr<|WOL.mv rfl<|WOL.mv rfl ?_
 obtain ⟨h4,cp,P4⟩:=copy_part (off:=0) (off':=0) (k:=Nat.min 1 n) (d:=n) (cap:=n) (cap':=1) (m:=1) u145 tp4 A3 (A1.hx N3.hx) rfl (by rw [tf_len (Nat.zero_le _)];omega) (by decide) (by
  cases n with
  | zero=>rfl
  | succ n=>rw [show Nat.min 1 (n+1)=1 from Nat.min_eq_left (by omega)];rfl) (f.hx N3.hx) (Nat.le_refl _)
 refine WOL.cp rfl rfl cp<|WOL.as rfl<|WOL.nil<|keep [(7,_),(8,_)] ⟨rfl,rfl,trivial⟩ ?_
 have A4:=P4.at_
 rw [show ([Value.bool true].drop 0).take (Nat.min 1 n)=List.replicate (Nat.min 1 n) (.bool true) by
  cases n with
  | zero=>rfl
  | succ n=>rw [show Nat.min 1 (n+1)=1 from Nat.min_eq_left (by omega)];rfl,tf_splice (by have:Nat.min 1 n≤n:=Nat.min_le_right 1 n;omega),Nat.zero_add] at A4
 have X4:HX h h4:=P4.hx _ N3.hx (Nat.le_refl _)
 have n4:=P4.next
 refine WL.seq<|WL.block ?_
 refine WL.loop (fun q a g=>∃ c:Nat,c≤n∧(n=0∨1≤c)∧q=n - c∧HX h g∧At g h.next (.cells (tf c n) true true 4)∧Kn [(7,slA h.next n),(8,zi (c:Nat))] a) (n - Nat.min 1 n) (fun a q=>⟨Nat.min 1 n,Nat.min_le_right _ _,by rcases Nat.eq_zero_or_pos n with e | e;exact .inl e;exact .inr (by rw [show Nat.min 1 n=1 from Nat.min_eq_left e];exact Nat.le_refl _),rfl,X4,A4,q.sub ⟨rfl,rfl,trivial⟩⟩) ?_
 rintro q a g ⟨c,hc,hc1,rfl,X,A,q⟩
 refine q.go ?_
 have s:SlC g (slA h.next n) 1 n (tf c n):=SlC.own (by rw [tf_len hc];omega) A
 refine WL.seq<|WL.seq<|WL.reg<|WOL.mv rfl<|WOL.mv rfl<|WOL.len rfl s u145<|WOL.bi (v:=.bool (decide (((c:Nat):Int) < ((n:Nat):Int)))) rfl rfl rfl<|WOL.nil<|keep [(7,_),(8,_),(37,_)] ⟨rfl,rfl,rfl,trivial⟩ ?_
 by_cases hlt:c < n
 ·rw [decide_eq_true (show ((c:Nat):Int) < ((n:Nat):Int) by omega)]
  refine WL.yes rfl<|WL.skip ?_
  refine WL.block<|WL.reg<|WOL.mv rfl<|WOL.mv rfl<|WOL.mv rfl<|WOL.slG rfl rfl rfl rfl (sliceT_from u145 tp4 (Nat.le_refl n) hc A (.inl rfl))<|WOL.mv rfl<|WOL.mv rfl<|WOL.slG rfl rfl rfl rfl (sliceT_to u145 tp4 (Nat.le_refl n) hc A (.inl rfl)) ?_
  obtain ⟨h5,cp5,P5⟩:=copy_part (b:=h.next) (off:=c) (d:=n - c) (cap:=n - c) (b':=h.next) (off':=0) (m:=c) (cap':=n) (k:=Nat.min c (n - c)) u145 tp4 A A rfl (by rw [tf_len hc];omega) (by rw [tf_len hc];omega) (by rw [tf_take (Nat.min_le_left _ _)];exact all_true _) (f.hx X) (Nat.le_refl _)
  have A5:=P5.at_
  have km:Nat.min c (n - c)≤n - c:=Nat.min_le_right c (n - c)
  have kl:Nat.min c (n - c)≤c:=Nat.min_le_left c (n - c)
  have kp:1≤Nat.min c (n - c):=Nat.le_min.2 ⟨by omega,by omega⟩
  rw [tf_take kl,tf_splice (by omega)] at A5
  refine WOL.cp rfl rfl (by rw [Nat.zero_add,Nat.mul_one];exact cp5)<|WOL.add (m:=((c:Nat):Int)) (n:=((Nat.min c (n - c):Nat):Int)) rfl rfl (by omega) (by omega) ?_
  rw [show ((c:Nat):Int)+((Nat.min c (n - c):Nat):Int)=((c+Nat.min c (n - c):Nat):Int) by omega]
  exact WOL.as rfl<|WOL.nil fun a q=>⟨n - (c+Nat.min c (n - c)),by omega,c+Nat.min c (n - c),by omega,.inr (by omega),rfl,P5.hx _ X (Nat.le_refl _),A5,q.sub ⟨rfl,rfl,trivial⟩⟩
 ·rw [decide_eq_false (show ¬ ((c:Nat):Int) < ((n:Nat):Int) by omega)]
  obtain rfl:c=n:=by omega
  have fin:∀ a,Kn [(7,slA h.next c)] a→W Tryz.prog tp false (.seq (.reg r1232_10) .ret) a g (Fin Tryz.prog [.tmp 4] fun v h'=>∃ b,v=slA b c∧At h' b (.cells (tf c c) true true 4)∧HX h h'∧h.next≤b):=by
   refine WL.sr<|WOL.mv rfl<|WOL.as rfl<|WOL.nil ?_
   exact WL.ret (WL.end_ rfl ⟨h.next,rfl,A,X,Nat.le_refl _⟩)
  exact WL.no rfl<|WL.exit<|kto fin ⟨rfl,trivial⟩
end
end Go.Tidy
namespace Go.Tidy
open Go Go.Proofs Tab
variable {tp:TProg}
theorem knownB_snoc {T:List (Int × Int)} {p:Int × Int} {x:Int}:knownB (T ++ [p]) x=(knownB T x && !inS x p):=by
 unfold knownB
 rw [List.any_append]
 simp
theorem known_nil (m:Nat):knownL [] m=List.replicate m true:=by
 refine List.eq_replicate_iff.2 ⟨knownL_len _ _,fun b hb=>?_⟩
 unfold knownL at hb
 obtain ⟨i,_,rfl⟩:=List.mem_map.1 hb
 rfl
theorem known_clear {T:List (Int × Int)} {lo hi m:Nat} (h1:lo≤hi) (h2:hi≤m):(knownL T m).take lo ++ (List.replicate (hi - lo) false ++ (knownL T m).drop hi)=knownL (T ++ [((lo:Int),(hi:Int))]) m:=by
  refine List.ext_getElem? fun i=>?_
  have ll:=knownL_len T m
  rw [List.getElem?_append,List.length_take,ll,Nat.min_eq_left (by omega),List.getElem?_append,List.length_replicate,List.getElem?_drop]
  by_cases him:i < m
  · rw [knownL_get him,knownB_snoc]
    unfold inS
    by_cases c1:i < lo
    · rw [if_pos c1,List.getElem?_take_of_lt c1,knownL_get him,decide_eq_false (show ¬ ((i:Nat):Int) ≥ (lo:Int) by omega)]
      simp
    · rw [if_neg c1]
      by_cases c2:i < hi
      · rw [if_pos (by omega),List.getElem?_replicate,if_pos (by omega),decide_eq_true (show ((i:Nat):Int) ≥ (lo:Int) by omega),decide_eq_true (show ((i:Nat):Int) < (hi:Int) by omega)]
        simp
      · rw [if_neg (by omega),show hi+(i - lo - (hi - lo))=i by omega,knownL_get him,decide_eq_false (show ¬ ((i:Nat):Int) < (hi:Int) by omega)]
        simp
  · rw [if_neg (by omega),if_neg (by omega),List.getElem?_eq_none (by omega),List.getElem?_eq_none (by rw [knownL_len];omega)]
theorem WOL.clrK {P:Program} {tp:TProg} {h h1:TH} {K:Regs→TH→Prop} {rest:List TOper} {d:Option Tmp} {ty:TypeId} {i:Nat} {x:Operand} {L:Rg} {ts:Array TypeId} {vx v:Value} (hx:getL L x=some vx) (hv:clearT P ts #[vx] h=some (v,h1)) (w:∀ a,Kn (putL L d v) a→WO P tp rest a h1 K):∀ a,Kn L a→WO P tp (⟨d,.call ⟨.builtin .clear,#[x],ts⟩,ty,none,[],i⟩::rest) a h K:=fun a k=>WO.clr (k.o hx) hv (w _ (k.put d _))
section
variable {h:TH} {v2:Value} {S:List (Int × Int)} {m:Nat}
set_option maxHeartbeats 2000000 in
set_option maxRecDepth 10000 in
theorem k1223 (H:Has tp) (s:SlL encS 2 h v2 S) (hm:m≤1000000) (hS:S.length≤1000000) (hin:In m S) (f:Free0 h.next h):CallW Tryz.prog tp (.func (.func 145) #[] #[]) #[zi (m:Nat),v2] h fun v h'=>∃ b,v=slA b m∧At h' b (.cells (cat encB (knownL S m)) true true 4)∧HX h h'∧h.next≤b:=by
 refine CallW.fnL (H.fn 145 f1223 rfl rfl) ?_
 refine WL.sr<|WOL.as rfl<|WOL.nil<|keep [(0,_),(1,_)] ⟨rfl,rfl,trivial⟩ ?_
 refine WL.sr<|WOL.bs1 rfl u145 tp4 rfl fun h1 N1=>WOL.mv rfl ?_
 have n1:=N1.next
 refine WOL.cl2 rfl rfl rfl ((k1232 H N1.at_ hm (f.on N1.hx)).mono ?_)
 rintro v h2 ⟨b,rfl,A2,X2,hb⟩
 have e0:tf m m=cat encB (knownL (S.take 0) m):=by
  rw [List.take_zero,known_nil,cat_rep (enc:=encB) (x:=true) (z:=.bool true) rfl]
  unfold tf
  rw [Nat.sub_self]
  exact List.append_nil _
 rw [e0] at A2
 have Y2:=N1.hx.trans X2
 refine WOL.as rfl<|WOL.nil<|keep [(1,_),(5,_)] ⟨rfl,rfl,trivial⟩ ?_
 refine WL.seq<|WL.sr<|WOL.mv rfl<|WOL.len rfl (s.hx Y2) u44<|WOL.mv rfl<|WOL.nil<|keep [(5,_),(11,_),(12,_),(13,_)] ⟨rfl,rfl,rfl,rfl,trivial⟩ ?_
 refine WL.upto (α:=Unit) S.length (fun j _ g=>HX h g∧At g b (.cells (cat encB (knownL (S.take j) m)) true true 4)) (fun _ _=>[(5,slA b m),(11,v2),(12,zi (S.length:Nat))]) () rfl rfl (by omega) ⟨Y2,A2⟩ ⟨rfl,rfl,rfl,rfl,trivial⟩ (fun _ _=>rfl) (fun _ _ _=>⟨rfl,rfl,rfl,rfl,trivial⟩) (fun _ _ _=>⟨rfl,rfl,rfl,rfl,trivial⟩) ?_ ?_
 ·rintro j _ g hj ⟨X,A⟩
  have hp:S[j]?=some S[j]:=List.getElem?_eq_getElem hj
  obtain ⟨q1,q2,q3⟩:=hin S[j] (List.getElem_mem hj)
  have ht:S.take (j+1)=S.take j ++ [S[j]]:=List.take_succ_eq_append_getElem hj
  generalize S[j]=p at *
  obtain ⟨p1,p2⟩:=p
  replace q1:0≤p1:=q1
  replace q2:p1≤p2:=q2
  replace q3:p2≤(m:Int):=q3
  obtain ⟨lo,rfl⟩:∃ lo:Nat,p1=(lo:Int):=⟨p1.toNat,by omega⟩
  obtain ⟨hi,rfl⟩:∃ hi:Nat,p2=(hi:Int):=⟨p2.toNat,by omega⟩
  have la:=A.lt
  have xg:=X.next
  obtain ⟨b3,o,cc,fix,wr,el,g1,g2,g3,g4,g5⟩:=(s.hx X).at eS u44 tp48 hp .i64
  refine WL.sr<|WOL.ix rfl rfl g1<|WOL.ld rfl (load_row tp48 g2 g4 g3)<|WOL.al tp48 fun i1 M1=>?_
  refine WOL.sto (vs:=encS ((lo:Int),(hi:Int))) rfl rfl tp48 M1.at_ rfl rfl (Nat.le_of_ble_eq_true rfl) rfl (f.hx (X.trans M1.hx)) X.next fun i2 M2=>?_
  have A7:At i2 g.next (.cells [zi (lo:Nat),zi (hi:Nat)] true true 77):=M2.at_
  have XI:HX g i2:=M2.hx _ M1.hx (Nat.le_refl _)
  replace A:=A.hx XI
  refine WOL.nil<|keep [(5,_),(7,_),(11,_),(12,_),(13,_)] ⟨rfl,rfl,rfl,rfl,rfl,trivial⟩ ?_
  refine WL.reg<|WOL.mv rfl<|WOL.fa rfl (fa_of fo48_0)<|WOL.ld rfl (load_one tp3 A7 rfl)<|WOL.fa rfl (fa_of fo48_1)<|WOL.ld rfl (load_one tp3 A7 rfl)<|WOL.sl rfl rfl rfl (sliceT_at u145 tp4 (Nat.le_refl m) (by omega) (by omega) A (.inl rfl)) ?_
  obtain ⟨h5,cl,x5,o5,n5,A5⟩:=clear_part (z0:=false) (off:=lo) (k:=hi - lo) (cap:=m - lo) eB (by decide) u145 tp4 A (by rw [knownL_len];omega) (f.hx (X.trans XI)) (by omega)
  refine WOL.clrK rfl (by rw [Nat.zero_add];exact cl)<|WOL.nil fun a q=>⟨(),⟨x5 _ (X.trans XI) (by omega),?_⟩,q.sub ⟨rfl,rfl,rfl,rfl,trivial⟩⟩
  rw [show lo+(hi - lo)=hi by omega,known_clear (by omega) (by omega),← ht] at A5
  exact A5
 ·rintro _ g ⟨X,A⟩
  rw [List.take_length] at A
  refine WL.sr<|WOL.mv rfl<|WOL.as rfl<|WOL.nil ?_
  exact WL.ret (WL.end_ rfl ⟨b,rfl,A,X,by omega⟩)
end
end Go.Tidy
namespace Go.Tidy
open Go Go.Proofs Tab
variable {tp:TProg}
section
variable {h:TH} {n:Int} {v1 v2:Value} {L:List Int} {S:List (Int × Int)}
set_option maxHeartbeats 2000000 in
set_option maxRecDepth 10000 in
theorem k1177 (H:Has tp) (r:TrcH h v1 v2 L S) (hL:L.length≤1000000) (hS:S.length≤1000000) (hin:In L.length S) (f:Free0 h.next h):CallW Tryz.prog tp (.func (.func 92) #[] #[]) #[trcV n v1 v2] h fun v h'=>HX h h'∧∃ bv bk,v=rowV n (slA bv L.length) (slA bk L.length)∧h.next≤bv∧h.next≤bk∧RowA h' bv bk L (knownL S L.length):=by
 refine CallW.fnL (H.fn 92 f1177 rfl rfl) ?_
 refine WL.sr<|WOL.box rfl fun h1 N1=>WOL.al tp1194 fun h2 N2=>WOL.nil<|keep [(1,_),(2,_)] ⟨rfl,rfl,trivial⟩ ?_
 have n1:=N1.next
 have n2:=N2.next
 have A1:At h2 h.next (.cells [zi n,v1,v2] true true 55):=N1.at_.hx N2.hx
 have A2:=N2.at_
 have X2:=N1.hx.trans N2.hx
 have r0:=r
 replace r:=r.hx X2
 refine WL.sr<|WOL.fa rfl (fa_of fo1117_0)<|WOL.ld rfl (load_one tp3 A1 rfl)<|WOL.fa rfl (fa_of fo1117_1)<|WOL.ld rfl (load_one tp29 A1 rfl)<|WOL.len rfl r.l u29<|WOL.cl2 rfl rfl rfl ((k1178 H hL (f.on X2)).mono ?_)
 rintro v h3 ⟨X3,bv,bk,rfl,lv,lk,ra⟩
 have x3:=X3.next
 have bvl:=ra.v.lt
 have bkl:=ra.k.lt
 refine WOL.al tp1194 fun h4 N4=>?_
 have n4:=N4.next
 have X4:=(X2.trans X3).trans N4.hx
 refine WOL.sto (vs:=[zi n,slA bv L.length,.slice none 0 0,slA bk L.length]) rfl rfl tp1194 N4.at_ rfl rfl (Nat.le_of_ble_eq_true rfl) rfl (f.hx X4) (by omega) fun h5 P5=>WOL.nil<|keep [(1,_),(2,_),(3,_)] ⟨rfl,rfl,rfl,trivial⟩ ?_
 have n5:=P5.next
 have A3:At h5 h3.next (.cells [zi n,slA bv L.length,.slice none 0 0,slA bk L.length] true true 148):=P5.at_
 have X5:HX h h5:=P5.hx _ X4 (by omega)
 have x35:HX h3 h5:=P5.hx _ N4.hx (Nat.le_refl _)
 replace ra:=ra.hx x35
 have y5:=X3.trans x35
 replace A1:=A1.hx y5;replace A2:=A2.hx y5;replace r:=r.hx y5
 have A4:=ra.v
 -- the values
 refine WL.sr<|WOL.fa rfl (fa_of fo1194_0)<|WOL.fa rfl (fa_of fo1117_1)<|WOL.ld rfl (load_one tp29 A3 rfl)<|WOL.fa rfl (fa_of fo1117_1)<|WOL.ld rfl (load_one tp29 A1 rfl) ?_
 obtain ⟨h6,cp,P6⟩:=copy_into u29 tp3 A4 (by rw [eI.cat_len,List.length_replicate]) r.l (eI.all _) (f.hx X5) (by omega)
 refine WOL.cp rfl rfl cp<|WOL.nil<|keep [(1,_),(2,_),(3,_)] ⟨rfl,rfl,rfl,trivial⟩ ?_
 have n6:=P6.next
 have Av:=P6.at_
 have X6:HX h h6:=P6.hx _ X5 (by omega)
 have X26:HX h2 h6:=P6.hx _ y5 (by omega)
 have Ak:=P6.oth _ _ ra.n.symm ra.k
 replace A3:=P6.oth _ _ (by omega) A3
 replace A1:=P6.oth _ _ (by have:=A1.lt;have:=X2.next;omega) A1
 replace A2:=P6.oth _ _ (by omega) A2
 refine WL.sr<|WOL.fa rfl (fa_of fo1117_1)<|WOL.ld rfl (load_one tp29 A1 rfl)<|WOL.len rfl (r0.l.hx X6) u29<|WOL.fa rfl (fa_of fo1117_2)<|WOL.ld rfl (load_one tp44 A1 rfl)<|WOL.cl2 rfl rfl rfl ((k1223 H (r0.s.hx X6) hL hS hin (f.on X6)).mono ?_)
 rintro v h7 ⟨b,rfl,A7,X7,hb⟩
 have x7:=X7.next
 have x6:=X6.next
 have a3:=A3.lt
 have a2:=A2.lt
 have av:=Av.lt
 refine WOL.fa rfl (fa_of fo1194_1)<|WOL.sto (vs:=[slA b L.length]) rfl rfl tp145 (A3.hx X7) rfl rfl (Nat.le_of_ble_eq_true rfl) rfl (f.hx (X6.trans X7)) (by omega) fun h8 P8=>WOL.nil<|keep [(1,_),(2,_),(3,_)] ⟨rfl,rfl,rfl,trivial⟩ ?_
 have n8:=P8.next
 have B3:At h8 h3.next (.cells [zi n,slA bv L.length,.slice none 0 0,slA b L.length] true true 148):=P8.at_
 have X8:HX h h8:=P8.hx _ (X6.trans X7) (by omega)
 have B2:=P8.oth _ _ (by omega) (A2.hx X7)
 have Bv:=P8.oth _ _ (by omega) (Av.hx X7)
 have Bk:=P8.oth _ _ (by omega) A7
 refine WL.sr<|WOL.ld rfl (load_row tp1194 B3 rfl (Nat.le_of_ble_eq_true rfl))<|WOL.sto (vs:=[zi n,slA bv L.length,.slice none 0 0,slA b L.length]) rfl rfl tp1194 B2 rfl rfl (Nat.le_of_ble_eq_true rfl) rfl (f.hx X8) (by omega) fun h9 P9=>WOL.nil ?_
 refine WL.ret (WL.endC rfl (load_row tp1194 P9.at_ rfl (Nat.le_of_ble_eq_true rfl)) ⟨P9.hx _ X8 (by omega),bv,b,rfl,by omega,by omega,⟨P9.oth _ _ (by omega) Bv,P9.oth _ _ (by omega) Bk,knownL_len _ _,by omega⟩⟩)
end
end Go.Tidy
namespace Go.Tidy
open Go Go.Proofs Tab
variable {tp:TProg}
def valC (C:List (Int × Bool)):List Int:=C.map fun c=>cond c.2 c.1 0
def bigC (C:List (Int × Bool)):Bool:=C.any fun c=>c.2 && largeB c.1
theorem bd1114z:buildT Tryz.prog 52 []=some (trcV 0 (.slice none 0 0) (.slice none 0 0)):=by kernel_rfl
theorem bd1114a {z:Int}:buildT Tryz.prog 52 [(0,zi z)]=some (trcV z (.slice none 0 0) (.slice none 0 0)):=by kernel_rfl
section
variable {h g:TH} {n:Int} {v:Value} {C:List (Int × Bool)} {j:Nat}
end
end Go.Tidy
namespace Go.Tidy
open Go Go.Proofs Tab
variable {tp:TProg}
theorem OwnL.low {α:Type} {enc:α→List Value} {n0 n1:Nat} {h:TH} {v:Value} {e:TypeId} {l:List α} (o:OwnL enc n1 h v e l) (h0:n0≤n1):OwnL enc n0 h v e l:=by
 rcases o with q | ⟨q1,b,q2,q3,q4⟩
 ·exact .inl q
 ·exact .inr ⟨q1,b,q2,by omega,q4⟩
section
variable {h:TH} {n n':Int} {v1 v2 w1 w2:Value} {L1 L2:List Int} {S1 S2:List (Int × Int)}
end
end Go.Tidy
namespace Go.Tidy
open Go Go.Proofs Tab
variable {tp:TProg}
theorem tbl_get {α:Type} {f:Nat→α} {m i:Nat}:((List.range m).map f)[i]?=if i < m then some (f i) else none:=by
 rw [List.getElem?_map]
 by_cases h:i < m
 ·rw [List.getElem?_range h,if_pos h];rfl
 ·rw [List.getElem?_eq_none (by rw [List.length_range];omega),if_neg h];rfl
def upTo {α:Type} (z:α) (C:List α) (m j:Nat):List α:=(List.range m).map fun i=>cond (decide (i < j)) (C.getD i z) z
section
variable {α:Type} {z:α} {C:List α} {m j:Nat}
theorem upTo_len:(upTo z C m j).length=m:=by unfold upTo;rw [List.length_map,List.length_range]
theorem upTo_zero:upTo z C m 0=List.replicate m z:=by
 refine List.eq_replicate_iff.2 ⟨upTo_len,fun b hb=>?_⟩
 unfold upTo at hb
 obtain ⟨i,_,rfl⟩:=List.mem_map.1 hb
 rfl
theorem upTo_set:upTo z C m (j+1)=(upTo z C m j).set j (C.getD j z):=by
 refine List.ext_getElem? fun i=>?_
 unfold upTo
 rw [tbl_get]
 by_cases e:i=j
 ·subst e
  by_cases h:i < m
  ·rw [if_pos h,List.getElem?_set_self (by rw [List.length_map,List.length_range];exact h),decide_eq_true (Nat.lt_succ_self i)];rfl
  ·rw [if_neg h,List.getElem?_eq_none (by rw [List.length_set,List.length_map,List.length_range];omega)]
 ·rw [List.getElem?_set_ne (by omega),tbl_get,show decide (i < j+1)=decide (i < j) from decide_eq_decide.2 (by omega)]
theorem upTo_all (h:C.length=m):upTo z C m m=C:=by
 refine List.ext_getElem? fun i=>?_
 unfold upTo
 rw [tbl_get]
 by_cases hi:i < m
 ·rw [if_pos hi,decide_eq_true hi,List.getD_eq_getElem?_getD,List.getElem?_eq_getElem (by omega)];rfl
 ·rw [if_neg hi,List.getElem?_eq_none (by omega)]
end
def ProgR (n:Int) (e:Int) (C:List (Int × Bool)) (n0:Nat) (h':TH) (v:Value):Prop :=
 (e≠0∧v=.tuple #[trcV 0 (.slice none 0 0) (.slice none 0 0),zi e])∨(e=0∧bigC C=true∧v=.tuple #[trcV 0 (.slice none 0 0) (.slice none 0 0),zi 4])∨(e=0∧bigC C=false∧∃ bv w,v=.tuple #[trcV n (slA bv C.length) w,zi 0]∧n0≤bv∧TrcO n0 h' bv w (valC C) (holesOf (C.map fun c=>c.2)))
section
variable {h:TH} {n n':Int} {v1 v2 w1 w2:Value} {L1 L2:List Int} {S1 S2:List (Int × Int)}
end
end Go.Tidy
namespace Go.Tidy
open Go Go.Proofs Tab
variable {tp:TProg}
theorem trace_ok {n:Int} {L:List Int} {S:List (Int × Int)} (h:traceE n L S=0):(0≤n∧n≤100000000)∧(∀ i,-1073741824≤L.getD i 0∧L.getD i 0≤1073741824)∧holeE L.length (-1) S=0∧S.any (anyIn L)=false∧L.length≤4096∧n+(L.length:Int)≤100000000:=by
  have all:=firstNZ_zero h
  have a1:=all _ (List.mem_cons_self ..)
  have a2:=all (cond (decide ((L.length:Int) > 4096)) 5 0) (by simp)
  have a3:=all (cond (decide (n+(L.length:Int) > 100000000)) 4 0) (by simp)
  have a4:=all (firstNZ (L.map readE)) (by simp)
  have a5:=all (cond (holeE L.length (-1) S != 0) (holeE L.length (-1) S) (formE L S)) (by simp)
  have a6:=firstNZ_zero a4
  have hh:holeE L.length (-1) S=0:=by
    cases hb:(holeE L.length (-1) S != 0) with
    | true=>rw [hb] at a5;exact a5
    | false=>exact bne_eq_false_iff_eq.1 hb
  refine ⟨out_in a1,fun i=>?_,hh,?_,?_,?_⟩
  · rw [List.getD_eq_getElem?_getD]
    cases hL:L[i]? with
    | none=>exact ⟨by decide,by decide⟩
    | some x =>
      have:=a6 _ (List.mem_map.2 ⟨x,List.mem_of_getElem? hL,rfl⟩)
      unfold readE outB at this
      show -1073741824≤x∧x≤1073741824
      cases h1:decide (x < -1073741824) with
      | true=>rw [h1] at this;cases this
      | false =>
        cases h2:decide (x > 1073741824) with
        | true=>rw [h1,h2] at this;cases this
        | false =>
          have:=of_decide_eq_false h1
          have:=of_decide_eq_false h2
          omega
  · rw [hh] at a5
    replace a5:formE L S=0:=a5
    unfold formE at a5
    cases hf:S.any (anyIn L) with
    | true=>rw [hf] at a5;cases a5
    | false=>rfl
  · cases hb:decide ((L.length:Int) > 4096) with
    | true=>rw [hb] at a2;cases a2
    | false=>have:=of_decide_eq_false hb;omega
  · cases hb:decide (n+(L.length:Int) > 100000000) with
    | true=>rw [hb] at a3;cases a3
    | false=>have:=of_decide_eq_false hb;omega
section
variable {h:TH} {n n':Int} {v1 v2 w1 w2:Value} {L1 L2:List Int} {S1 S2:List (Int × Int)}
end
end Go.Tidy
namespace Go.Tidy
open Go Go.Proofs Tab
variable {tp:TProg}
def RevR (n p e:Int) (L:List Int) (S:List (Int × Int)) (n0:Nat) (h':TH) (v:Value):Prop :=
 (e≠0∧v=.tuple #[trcV 0 (.slice none 0 0) (.slice none 0 0),zi e])∨(e=0∧(2*p+1 - (n+L.length) < 0∨2*p+1 - (n+L.length)+L.length > 100000000)∧v=.tuple #[trcV 0 (.slice none 0 0) (.slice none 0 0),zi 14])∨(e=0∧0≤2*p+1 - (n+L.length)∧2*p+1 - (n+L.length)+L.length≤100000000∧∃ bv w,v=.tuple #[trcV (2*p+1 - (n+L.length)) (slA bv L.length) w,zi 0]∧n0≤bv∧TrcO n0 h' bv w L.reverse (holesOf (knownL S L.length).reverse))
section
variable {h:TH} {n p:Int} {v1 v2:Value} {L:List Int} {S:List (Int × Int)}
end
end Go.Tidy
namespace Go.Tidy
open Go Go.Proofs Tab
variable {tp:TProg}
section
variable {h:TH} {n n' e:Int} {v1 v2 w1 w2:Value} {L:List Int} {S:List (Int × Int)}
theorem k1150 (H:Has tp) {b1 b2:Option Addr} {m1 c1 m2 c2:Nat} (f:Free0 h.next h):CallW Tryz.prog tp (.func (.func 34) #[] #[]) #[trcV n (.slice b1 m1 c1) (.slice b2 m2 c2)] h fun v h'=>v=trcV n (.slice b1 m1 c1) (.slice b2 m2 c2)∧HX h h':=by
 refine CallW.fnL (H.fn 34 f1150 rfl rfl) ?_
 refine WL.sr<|WOL.box rfl fun h1 N1=>WOL.al tp1114 fun h2 N2=>WOL.nil<|keep [(1,_),(2,_)] ⟨rfl,rfl,trivial⟩ ?_
 have n1:=N1.next
 have n2:=N2.next
 have A1:At h2 h.next (.cells [zi n,.slice b1 m1 c1,.slice b2 m2 c2] true true 55):=N1.at_.hx N2.hx
 have X2:=N1.hx.trans N2.hx
 refine WL.sr<|WOL.ld rfl (load_row tp1117 A1 rfl (Nat.le_of_ble_eq_true rfl))<|WOL.sto (vs:=[zi n,.slice b1 m1 c1,.slice b2 m2 c2]) rfl rfl tp1114 N2.at_ rfl rfl (Nat.le_of_ble_eq_true rfl) rfl (f.hx X2) (by omega) fun h3 P3=>WOL.nil ?_
 exact WL.ret (WL.endC rfl (load_row tp1114 P3.at_ rfl (Nat.le_of_ble_eq_true rfl)) ⟨rfl,P3.hx _ X2 (by omega)⟩)
theorem ints_form {v:Value} (i:IsInts h v L):∃ b m c,v=.slice b m c:=by
 rcases i with ⟨rfl,_⟩ | ⟨b,c,_,_,_,rfl,_⟩
 ·exact ⟨_,_,_,rfl⟩
 ·exact ⟨_,_,_,rfl⟩
theorem k1124 (H:Has tp) (i1:IsInts h v1 L) (s1:SlL encS 2 h v2 S) {b3 b4:Option Addr} {m3 c3 m4 c4:Nat} (e1:w1=.slice b3 m3 c3) (e2:w2=.slice b4 m4 c4) (hL:L.length≤1000000) (hS:S.length≤1000000) (f:Free0 h.next h)
  (c:(e≠0∧n=0∧L=[]∧S=[])∨(e=0∧n=n'∧IsInts h w1 L∧SlL encS 2 h w2 S)):CallW Tryz.prog tp (.func (.func 31) #[] #[]) #[trcV n v1 v2,zi e,zi e,trcV n' w1 w2] h fun v h'=>v=.bool true∧HX h h':=by
 obtain ⟨b1,m1,c1,rfl⟩:=ints_form i1
 obtain ⟨b2,k2,q2,_⟩:=id s1
 subst q2 e1 e2
 refine CallW.fnL (H.fn 31 f1124 rfl rfl) ?_
 refine WL.sr<|WOL.box rfl fun h1 N1=>WOL.box rfl fun h2 N2=>WOL.as rfl<|WOL.nil<|keep [(1,_),(2,_),(4,_),(7,_)] ⟨rfl,rfl,rfl,rfl,trivial⟩ ?_
 have n1:=N1.next
 have n2:=N2.next
 have A4:At h2 h.next (.cells [zi n,.slice b1 m1 c1,.slice b2 S.length k2] true true 55):=N1.at_.hx N2.hx
 have A7:At h2 h1.next (.cells [zi n',.slice b3 m3 c3,.slice b4 m4 c4] true true 52):=N2.at_
 have X2:=N1.hx.trans N2.hx
 have fin:∀ {g:TH} {y1 y2:Value},HX h g→At g h.next (.cells [zi n,.slice b1 m1 c1,.slice b2 S.length k2] true true 55)→At g h1.next (.cells [zi n,y1,y2] true true 52)→IsInts g y1 L→SlL encS 2 g y2 S→∀ a,Kn [(1,zi e),(2,zi e),(4,ptr h.next),(7,ptr h1.next)] a→W Tryz.prog tp false (.seq (.reg r1124_3) .ret) a g (Fin Tryz.prog [.tmp 8] fun v h'=>v=.bool true∧HX h h'):=by
  intro g y1 y2 X B4 B7 i s
  refine WL.sr<|WOL.ld rfl (load_row tp1117 B4 rfl (Nat.le_of_ble_eq_true rfl))<|WOL.ld rfl (load_row tp1114 B7 rfl (Nat.le_of_ble_eq_true rfl)) ?_
  refine WOL.lq1 [h1.next] rfl rfl rfl fun M hM=>((k1150 (h:=g.withLock M) H ((f.on X).held hM (fun b hb=>by have:=X.next;have:=B7.lt;simp at hb;omega))).mono ?_)
  rintro v h4 ⟨rfl,X4⟩
  replace X4:=X4.relock
  generalize h4.withLock g.lock=h4 at *
  refine WOL.cl2 rfl rfl rfl ((k1152 H (i1.hx (X.trans X4)) (i.hx X4) (s1.hx (X.trans X4)) (s.hx X4) hL hS).mono ?_)
  rintro v h5 ⟨rfl,X5⟩
  refine WOL.mv rfl<|WOL.now (b:=true) rfl rfl<|WOL.mv rfl<|WOL.now (b:=true) rfl rfl<|WOL.mv rfl<|WOL.now (b:=true) rfl rfl<|WOL.bt rfl rfl rfl (by first | exact decide_eq_true (by omega) | exact beq_iff_eq.2 (by omega) | exact bne_iff_ne.2 (by omega))<|WOL.pkt rfl rfl<|WOL.as rfl<|WOL.nil ?_
  exact WL.ret (WL.end_ rfl ⟨rfl,(X.trans X4).trans X5⟩)
 rcases c with ⟨c1',rfl,rfl,rfl⟩ | ⟨rfl,rfl,i,s⟩
 ·refine WL.seq<|WL.sr<|WOL.mv rfl<|WOL.bt rfl rfl rfl (bne_iff_ne.2 c1')<|WOL.nil<|keep [(1,_),(2,_),(4,_),(7,_),(10,_)] ⟨rfl,rfl,rfl,rfl,rfl,trivial⟩ ?_
  refine WL.yes rfl<|WL.reg<|WOL.bd rfl bd1114z<|WOL.sto (vs:=[zi 0,.slice none 0 0,.slice none 0 0]) rfl rfl tp1114 A7 rfl rfl (Nat.le_of_ble_eq_true rfl) rfl (f.hx X2) (by omega) fun i1 M1=>WOL.nil ?_
  have P:=M1.hx _ X2 (by omega)
  exact kto (fin P (M1.oth _ _ (by omega) A4) M1.at_ (.inl ⟨rfl,rfl⟩) SlL.nil) ⟨rfl,rfl,rfl,rfl,trivial⟩
 ·refine WL.seq<|WL.sr<|WOL.mv rfl<|WOL.bf rfl rfl rfl rfl<|WOL.nil<|keep [(1,_),(2,_),(4,_),(7,_),(10,_)] ⟨rfl,rfl,rfl,rfl,rfl,trivial⟩ ?_
  refine WL.no rfl<|WL.skip ?_
  exact kto (fin X2 A4 A7 (i.hx X2) (s.hx X2)) ⟨rfl,rfl,rfl,rfl,trivial⟩
end
end Go.Tidy
namespace Go.Tidy
open Go Go.Proofs Tab
def Ans (n:Int) (o:Int × List Int × List (Int × Int)) (n0:Nat) (g:TH) (v:Value):Prop:=∃ z y1 y2,v=.tuple #[trcV z y1 y2,zi o.1]∧IsInts g y1 o.2.1∧SlL encS 2 g y2 o.2.2∧(∀ z,bl y1=some z→n0≤z)∧(∀ z,bl y2=some z→n0≤z)∧((o.1≠0∧z=0∧o.2.1=[]∧o.2.2=[])∨(o.1=0∧z=n))
theorem Ans.err {n e:Int} {n0:Nat} {g:TH} {v:Value} (he:e≠0) (hv:v=.tuple #[trcV 0 (.slice none 0 0) (.slice none 0 0),zi e]):Ans n (e,[],[]) n0 g v:=⟨0,_,_,hv,.inl ⟨rfl,rfl⟩,SlL.nil,fun z hz=>(by cases hz),fun z hz=>(by cases hz),.inl ⟨he,rfl,rfl,rfl⟩⟩
end Go.Tidy
namespace Go.Tidy
open Go Go.Proofs Tab
variable {tp:TProg}
section
variable {h:TH} {l:List Nat} {bo:Option Addr} {n k:Nat}
end
section
variable {h:TH} {K:Regs→TH→Prop} {rest:List TOper} {d:Option Tmp} {ty:TypeId} {i:Nat} {x:Operand} {L:Rg} {v:Value} {m:List Nat}
end
section
variable {hb h g g2 g':TH} {n b o cap c4 c2 c3 nB:Nat} {cur cur':Cu} {s s':ByteArray} {fi fi':Int} {w1 w2 w':Value} {F F':List Nat} {S S':List (Int × Int)}
theorem Put.relock {M:List Nat} {x:TB} {c:Nat} {h1:TH} (p:Put (h.withLock M) h1 c x):Put h (h1.withLock h.lock) c x :=
 ⟨p.at_.relock _,fun z y hz a=>(p.oth z y hz (a.relock M)).relock _,p.next,p.floor,rfl,fun h0 y hb=>by rw [y.lock];exact (p.hx _ (y.locked M) hb).relock⟩
end
end Go.Tidy
namespace Go.Tidy
open Go Go.Proofs Tab
variable {tp:TProg}
section
variable (l:List Nat) (c:Cu)
end
section
variable {h g:TH} {l:List Nat} {b o cap:Nat}
theorem Stm.relock (s:Stm h b o cap l) (M:List Nat):Stm (h.withLock M) b o cap l:=⟨by
 obtain ⟨cc,fix,wr,el,a,r⟩:=s.ex
 exact ⟨cc,fix,wr,el,a.relock M,r⟩,s.cap⟩
end
section
variable {hb h:TH} {l:List Nat} {b o cap c4:Nat} {c:Cu}
end
end Go.Tidy
namespace Go.Tidy
open Go Go.Proofs Tab
variable {tp:TProg}
section
variable {P:Program} {h:TH} {K:Regs→TH→Prop} {rest:List TOper} {d:Option Tmp} {ty:TypeId} {i:Nat} {x:Operand} {s t:TypeId} {L:Rg} {v vx:Value}
theorem WOL.cvP (hx:getL L x=some vx) (hp:plain vx=true) (hv:pv P (convert s t vx)=some v) (hpv:plain v=true) (w:∀ a,Kn (putL L d v) a→WO P tp rest a h K):∀ a,Kn L a→WO P tp (⟨d,.convert s t x,ty,none,[],i⟩::rest) a h K:=fun a k =>
 WO.conv (k.o hx) hp hv hpv (w _ (k.put d _))
end
section
variable {h:TH} {F:List Nat} {v:Value}
end
end Go.Tidy
namespace Go.Tidy
open Go Go.Proofs Tab
variable {tp:TProg}
section
variable {P:Program} {h:TH} {K:Regs→TH→Prop} {rest:List TOper} {d:Option Tmp} {ty:TypeId} {i:Nat} {x y:Operand} {t u:TypeId} {L:Rg} {s s':ByteArray}
end
section
variable (l:List Nat)
end
theorem RunH.relock {h:TH} {v1 v2:Value} {F:List Nat} {S:List (Int × Int)} (r:RunH h v1 v2 F S) (M:List Nat):RunH (h.withLock M) v1 v2 F S:=⟨r.f.relock M,r.s.relock M,r.g.relock M⟩
section
variable {h:TH} {l:List Nat} {b o n cap:Nat} {es L:List Int}
end
end Go.Tidy
namespace Go.Tidy
open Go Go.Proofs Tab
variable {tp:TProg}
section
variable {P:Program} {h:TH} {K:Regs→TH→Prop} {rest:List TOper} {d:Option Tmp} {ty:TypeId} {i:Nat} {x y:Operand} {t u:TypeId} {L:Rg}
end
structure RrU (h g:TH) (c2 c7 nB:Nat) (s:ByteArray) (fi:Int) (w1 w2:Value) (F:List Nat) (S:List (Int × Int)):Prop where
 x:HX h g
 nx:nB≤g.next
 a2:At g c2 (.cells [.string ⟨#[]⟩,zi 0,.slice none 0 0,.slice none 0 0] true true 88)
 a7:At g c7 (.cells [.string s,zi fi,w1,w2] true true 88)
 o1:OwnL encF nB g w1 90 F
 o2:OwnL encS nB g w2 77 S
 ne:∀ x,bl w1=some x→bl w2≠some x
section
variable {h g g2 g':TH} {c2 c7 nB:Nat} {s:ByteArray} {fi:Int} {w1 w2 w':Value} {F F':List Nat} {S S':List (Int × Int)}
theorem RrU.hx (q:RrU h g c2 c7 nB s fi w1 w2 F S) (x:HX g g'):RrU h g' c2 c7 nB s fi w1 w2 F S:=⟨q.x.trans x,Nat.le_trans q.nx x.next,q.a2.hx x,q.a7.hx x,q.o1.hx x,q.o2.hx x,q.ne⟩
end
end Go.Tidy
namespace Go.Tidy
open Go Go.Proofs Tab
variable {tp:TProg}
theorem k11t (A:Awk tp) (h:TH):CallW Tryz.prog tp (.func (.func 9) #[] #[]) #[] h fun v h'=>v=.bool true∧h'=h:=by
 obtain ⟨e,e1,e2⟩:=A.e
 exact CallW.ext A.no e1 rfl e2 rfl ⟨rfl,rfl⟩
theorem IsInts.keep {g g':TH} {y:Value} {L:List Int} (i:IsInts g y L) (k:∀ b x,bl y=some b→At g b x→At g' b x):IsInts g' y L:=by
 rcases i with i | ⟨b,c,fix,wr,el,i1,i2,i3⟩
 ·exact .inl i
 ·subst i1
  have:=k b _ rfl ⟨i3,i2⟩
  exact .inr ⟨b,c,fix,wr,el,rfl,this.lt,this.get⟩
def CelA (ty:TypeId) (n:Int) (o:Int × List Int × List (Int × Int)) (g:TH) (c:Nat):Prop:=∃ z b1 m1 k1 b2 m2 k2,At g c (.cells [zi z,.slice b1 m1 k1,.slice b2 m2 k2] true true ty)∧IsInts g (.slice b1 m1 k1) o.2.1∧SlL encS 2 g (.slice b2 m2 k2) o.2.2∧((o.1≠0∧z=0∧o.2.1=[]∧o.2.2=[])∨(o.1=0∧z=n))
theorem CelA.hx {ty:TypeId} {n:Int} {o:Int × List Int × List (Int × Int)} {g g':TH} {c:Nat} (q:CelA ty n o g c) (x:HX g g'):CelA ty n o g' c:=by
 obtain ⟨z,b1,m1,k1,b2,m2,k2,A,i,s,e⟩:=q
 exact ⟨z,b1,m1,k1,b2,m2,k2,A.hx x,i.hx x,s.hx x,e⟩
section
variable {h h0:TH} {a b n1 n2 m1 m2 e1:Int} {v1 v2 w1 w2:Value} {L1:List Int} {S1:List (Int × Int)} {o1 o2:Int × List Int × List (Int × Int)} {c3 c4 c7 c9 c14 c15:Nat}
end
end Go.Tidy
namespace Go.Tidy
open Go Go.Proofs Tab
variable {tp:TProg}
theorem shortB2_le {m k:Nat} (h:shortB2 m k=true):m≤900000∧k≤900000:=by
 unfold shortB2 at h
 cases h1:decide ((m:Int)≤60) with
 | true =>
  rw [h1] at h
  have a1:=of_decide_eq_true h1
  have a2:((k:Int)≤12):=of_decide_eq_true h
  omega
 | false =>
  rw [h1] at h
  cases h2:((m:Int) == 4097) with
  | true =>
   rw [h2] at h
   have a1:(m:Int)=4097:=eq_of_beq h2
   have a2:((k:Int)≤12):=of_decide_eq_true h
   omega
  | false=>rw [h2] at h;cases h
section
variable {h:TH} {a b n1 n2 p:Int} {v1 v2 w1 w2:Value} {L1 L2:List Int} {S1 S2:List (Int × Int)}
end
set_option maxRecDepth 100000 in
theorem ty_trc {h:TH} {n:Nat} {ps:List Value} (y:Ty Tryz.prog h (n+4) 52 ps):∃ z v1 v2 L S,ps=[zi z,v1,v2]∧TrcH h v1 v2 L S:=by
 obtain ⟨p,q,rfl,_,y1,p',q',rfl,_,y2,p2,q2,rfl,_,y3,rfl⟩:=tyg_struct Tryz.underlying52 y
 obtain ⟨z,rfl,_⟩:=ty_int y1
 obtain ⟨v1,L,rfl,r1,g1⟩:=tyg_slice eI u29 (fun p y=>by obtain ⟨b,e,_⟩:=ty_int y;exact ⟨b,e⟩) y2
 obtain ⟨v2,S,rfl,r2,_⟩:=tyg_slice eS u44 (fun p y=>ty_span y) y3
 exact ⟨z,v1,v2,L,S,rfl,r1,r2,g1 3⟩
end Go.Tidy
namespace Go.Tidy
open Go Go.Proofs Tab
theorem args3 {P:Program} {h:TH} {m:Nat} {t0 t1 t2:TypeId} {us:List Value} (ha:Args P h m [t0,t1,t2] us):∃ x0 x1 x2,us=[x0,x1,x2]∧(∃ ps,Ty P h m t0 ps∧x0=valOf P t0 ps)∧(∃ ps,Ty P h m t1 ps∧x1=valOf P t1 ps)∧∃ ps,Ty P h m t2 ps∧x2=valOf P t2 ps:=by
 match us,ha with
 | [x0,x1,x2],⟨a0,a1,a2,_⟩=>exact ⟨x0,x1,x2,rfl,a0,a1,a2⟩
end Go.Tidy
namespace Go.Tidy
open Go Go.Proofs Tab
variable {tp:TProg}
theorem CelA.err {n e:Int} {g:TH} {c:Nat} {ty:TypeId} (h:e≠0) (A:At g c (.cells [zi 0,.slice none 0 0,.slice none 0 0] true true ty)):CelA ty n (e,[],[]) g c:=⟨0,_,_,_,_,_,_,A,.inl ⟨rfl,rfl⟩,SlL.nil,.inl ⟨h,rfl,rfl,rfl⟩⟩
theorem CelA.keep {ty:TypeId} {n:Int} {o:Int × List Int × List (Int × Int)} {g g':TH} {c:Nat} (q:CelA ty n o g c) (k:∀ b x,At g b x→At g' b x):CelA ty n o g' c:=by
 obtain ⟨z,b1,m1,k1,b2,m2,k2,A,i,s,e⟩:=q
 exact ⟨z,b1,m1,k1,b2,m2,k2,k _ _ A,i.keep fun b x _ a=>k _ _ a,slC_keep s fun b x _ a=>k _ _ a,e⟩
theorem celOne {n:Int} {o:Int × List Int × List (Int × Int)} {g h0:TH} {c c':Nat} (H:Has tp) (f:Free0 h0.next h0) (X0:HX h0 g) (C:CelA 55 n o g c) (C':CelA 52 n o g c') (l1:o.2.1.length≤1000000) (l2:o.2.2.length≤1000000):∃ u1 u2,At g c u1∧At g c' u2∧∃ z z' b1 m1 k1 b2 m2 k2 b3 m3 k3 b4 m4 k4,u1=.cells [zi z,.slice b1 m1 k1,.slice b2 m2 k2] true true 55∧u2=.cells [zi z',.slice b3 m3 k3,.slice b4 m4 k4] true true 52∧CallW Tryz.prog tp (.func (.func 31) #[] #[]) #[trcV z (.slice b1 m1 k1) (.slice b2 m2 k2),zi o.1,zi o.1,trcV z' (.slice b3 m3 k3) (.slice b4 m4 k4)] g fun v h'=>v=.bool true∧HX g h':=by
 obtain ⟨z,b1,m1,k1,b2,m2,k2,A,i,s,e⟩:=C
 obtain ⟨z',b3,m3,k3,b4,m4,k4,A',i',s',e'⟩:=C'
 refine ⟨_,_,A,A',z,z',b1,m1,k1,b2,m2,k2,b3,m3,k3,b4,m4,k4,rfl,rfl,k1124 (n:=z) (n':=z') H i s rfl rfl l1 l2 (f.on X0) ?_⟩
 rcases e with e | ⟨q1,q2⟩
 ·exact .inl e
 ·rcases e' with e' | ⟨q3,q4⟩
  ·exact absurd q1 e'.1
  ·exact .inr ⟨q1,q2.trans q4.symm,i',s'⟩
section
variable {h h0:TH} {a b n m1 m2 E1:Int} {v1 v2 w9 w16:Value} {L:List Int} {S:List (Int × Int)} {l3:List Int} {o1 o2:Int × List Int × List (Int × Int)} {c2 c3 c5 c7 c14 c15 p q:Nat}
end
end Go.Tidy
namespace Go.Tidy
open Go Go.Proofs Tab
variable {tp:TProg}
theorem out_mm {x l m:Int} (h:outB x l m=0):l≤x∧x≤m:=by
 unfold outB at h
 by_cases c1:x < l
 ·rw [decide_eq_true c1] at h;cases h
 ·by_cases c2:m < x
  ·rw [decide_eq_false c1,decide_eq_true c2] at h;cases h
  ·omega
section
variable {h:TH} {n a b s:Int} {v1 v2:Value} {L:List Int} {S:List (Int × Int)} {p q st:Nat}
end
end Go.Tidy
namespace Go.Tidy
open Go Go.Proofs Tab
variable {tp:TProg}
theorem ix83_0 {c:Nat}:indexAddrT Tryz.prog 53 (.pointer (some ⟨c,0,none⟩)) (.int .i64 0)=some (.pointer (some ⟨c,0,none⟩)):=by kernel_rfl
theorem ix83_1 {c:Nat}:indexAddrT Tryz.prog 53 (.pointer (some ⟨c,0,none⟩)) (.int .i64 1)=some (.pointer (some ⟨c,1,none⟩)):=by kernel_rfl
theorem ix83_2 {c:Nat}:indexAddrT Tryz.prog 53 (.pointer (some ⟨c,0,none⟩)) (.int .i64 2)=some (.pointer (some ⟨c,2,none⟩)):=by kernel_rfl
theorem firstB {e:Int} {l:List Int}:firstNZ [e,firstNZ l]=firstNZ (e::l):=by
 show cond (e != 0) e (cond (firstNZ l != 0) (firstNZ l) 0)=cond (e != 0) e (firstNZ l)
 by_cases h:firstNZ l=0
 ·rw [h];rfl
 ·rw [bne_iff_ne.2 h];rfl
section
variable {h h0 hb:TH} {n x y z m1 m2:Int} {v1 v2:Value} {L:List Int} {S:List (Int × Int)} {o1 o2:Int × List Int × List (Int × Int)} {c2 c3 c5 c7 c12 c13:Nat}
end
end Go.Tidy
namespace Go.Tidy
open Go Go.Proofs Tab
variable {tp:TProg}
section
variable {P:Program} {h:TH} {K:Regs→TH→Prop} {rest:List TOper} {d:Option Tmp} {ty:TypeId} {i:Nat} {x y:Operand} {t u:TypeId} {L:Rg}
end
section
variable {p q:Nat} {E:List Int} {C:List (Int × Bool)} {j:Nat} {H:List (Int × Bool)}
def HFine (H:List (Int × Bool)):Prop:=∀ c,c ∈ H→(c.2=true→largeB c.1=false)∧(c.2=false→c.1=0)
theorem HFine.lim {H:List (Int × Bool)} (f:HFine H) (i:Nat):-1073741824≤(H.getD i (0,false)).1∧(H.getD i (0,false)).1≤1073741824:=by
  rw [List.getD_eq_getElem?_getD]
  cases hi:H[i]? with
  | none=>decide
  | some c =>
    obtain ⟨f1,f2⟩:=f c (List.mem_of_getElem? hi)
    show -1073741824≤c.1∧c.1≤1073741824
    cases hc:c.2 with
    | false=>rw [f2 hc];decide
    | true =>
      have:=f1 hc
      unfold largeB readE at this
      have h0:outB c.1 (-1073741824) 1073741824=0:=by
        by_cases q:outB c.1 (-1073741824) 1073741824=0
        · exact q
        · rw [bne_iff_ne.2 q] at this;cases this
      exact out_mm h0
end
section
variable {α:Type} {l:List α} {z x:α} {m:Nat}
end
section
variable {h:TH} {n:Int} {p q:Nat} {L E:List Int} {S:List (Int × Int)} {rv rk hv hk:Nat}
end
end Go.Tidy
namespace Go.Tidy
open Go Go.Proofs Tab
variable {tp:TProg}
section
variable {h:TH} {n a b:Int} {v1 v2 w:Value} {L X:List Int} {S:List (Int × Int)}
theorem k1136 (H:Has tp) (s:SlL encI 1 h w X) (lX:X.length≤1000000) :
  CallW Tryz.prog tp (.func (.func 14) #[] #[]) #[w] h fun v h'=>HX h h'∧∃ b m k,v=.slice b m k∧SlL encI 1 h' v X∧∀ z,bl v=some z→h.next≤z:=by
 refine CallW.fnL (H.fn 14 f1136 rfl rfl) ?_
 refine WL.sr<|WOL.as rfl<|WOL.nil ?_
 refine WL.sr<|WOL.bs0 u29 tp3 (by decide) (by decide) fun h1 N1=>WOL.mv rfl ?_
 obtain ⟨u2,h7,ap7,X7,s7,b7,rfl,hb7,F7⟩:=append_own u29 tp3 N1.at_ (s.hx N1.hx) (by omega) (eI.all _)
 exact WOL.ap rfl rfl ap7<|WOL.as rfl<|WOL.nil<|WL.ret (WL.end_ rfl ⟨N1.hx.trans X7,_,_,_,rfl,s7,fun z hz=>by have:b7=z:=Option.some.inj hz;omega⟩)
end
end Go.Tidy
namespace Go.Tidy
open Go Go.Proofs Tab
variable {tp:TProg}
theorem TrcO.relock {n0 bv:Nat} {g:TH} {w:Value} {L:List Int} {S:List (Int × Int)} (r:TrcO n0 g bv w L S) (M:List Nat):TrcO n0 (g.withLock M) bv w L S:=⟨r.v.relock _,r.s.keep fun z y hz a=>a.relock _⟩
section
variable {h:TH} {n n' a b:Int} {v1 v2 w1 w2:Value} {L L':List Int} {S S':List (Int × Int)}
end
end Go.Tidy
namespace Go.Tidy
open Go Go.Proofs Tab
variable {tp:TProg}
theorem tp205:Tp Tryz.prog 44 2 [.int .i64 0,.int .i64 0] true:=tp_of (by kernel_rfl) (by kernel_rfl) rfl
theorem fo205_0:fieldOff Tryz.prog 44 0=some 0:=by kernel_rfl
theorem fo205_1:fieldOff Tryz.prog 44 1=some 1:=by kernel_rfl
theorem u188c:Tryz.prog.underlying 85=some (.float .f64):=by kernel_rfl
theorem tp1171:Tp Tryz.prog 26 1 [.complex .f64 0 0] false:=tp_of (by kernel_rfl) (by kernel_rfl) rfl
theorem tp1172:Tp Tryz.prog 27 4 [.complex .f64 0 0,.complex .f64 0 0,.complex .f64 0 0,.complex .f64 0 0] true:=tp_of (by kernel_rfl) (by kernel_rfl) rfl
def tRe (k:Nat):Int:=[1,0,-1,0].getD (k % 4) 0
def tIm (k:Nat):Int:=[0,1,0,-1].getD (k % 4) 0
theorem t_lim (k:Nat):(-1≤tRe k∧tRe k≤1)∧(-1≤tIm k∧tIm k≤1):=by
 unfold tRe tIm
 have h:k % 4 < 4:=Nat.mod_lt _ (by decide)
 generalize k % 4=r at h
 obtain rfl | rfl | rfl | rfl:r=0∨r=1∨r=2∨r=3:=by omega
 all_goals decide
theorem ix206 {b k:Nat} (h:k < 4):indexAddrT Tryz.prog 45 (.pointer (some ⟨b,0,none⟩)) (.int .i64 ((k:Nat):Int))=some (.pointer (some ⟨b,2*k,none⟩)):=by
 obtain rfl | rfl | rfl | rfl:k=0∨k=1∨k=2∨k=3:=by omega
 all_goals kernel_rfl
theorem ix1172 {b k:Nat} (h:k < 4):indexAddrT Tryz.prog 27 (.pointer (some ⟨b,0,none⟩)) (.int .i64 ((k:Nat):Int))=some (.pointer (some ⟨b,k,none⟩)):=by
 obtain rfl | rfl | rfl | rfl:k=0∨k=1∨k=2∨k=3:=by omega
 all_goals kernel_rfl
theorem turn_ld {h:TH} {b k:Nat} {e:TypeId} (A:At h b (.cells turnsL true false e)) (hk:k < 4):loadT Tryz.prog 44 (.pointer (some ⟨b,2*k,none⟩)) h=some (.agg #[zi (tRe k),zi (tIm k)]):=by
 obtain rfl | rfl | rfl | rfl:k=0∨k=1∨k=2∨k=3:=by omega
 ·exact load_row tp205 A (l:=[zi 1,zi 0]) rfl (Nat.le_of_ble_eq_true rfl)
 ·exact load_row tp205 A (l:=[zi 0,zi 1]) rfl (Nat.le_of_ble_eq_true rfl)
 ·exact load_row tp205 A (l:=[zi (-1),zi 0]) rfl (Nat.le_of_ble_eq_true rfl)
 ·exact load_row tp205 A (l:=[zi 0,zi (-1)]) rfl (Nat.le_of_ble_eq_true rfl)
section
variable {h:TH} {j:Nat}
set_option maxHeartbeats 2000000 in
set_option maxRecDepth 10000 in
theorem k1231 (H:Has tp) (G:Glob h) (hj:j≤1000000) (f:Free0 h.next h):CallW Tryz.prog tp (.func (.func 140) #[] #[]) #[zi (j:Nat)] h fun v h'=>HX h h'∧Cz v (tRe j) (tIm j):=by
 refine CallW.fnL (H.fn 140 f1231 rfl rfl) ?_
 obtain ⟨e,A⟩:=G.turnsL
 have h4:j % 4 < 4:=Nat.mod_lt _ (by decide)
 have em:((j:Nat):Int) % 4=((j % 4:Nat):Int):=(Int.natCast_emod j 4).symm
 have tm:tRe (j % 4)=tRe j∧tIm (j % 4)=tIm j:=by unfold tRe tIm;rw [Nat.mod_mod];exact ⟨rfl,rfl⟩
 have lim:=t_lim j
 refine WL.sr<|WOL.as rfl<|WOL.nil<|keep [(0,_)] ⟨rfl,trivial⟩ ?_
 refine WL.sr<|WOL.mv rfl<|WOL.rem (m:=(j:Int)) (n:=4) rfl rfl (by omega) (by decide) ?_
 rw [em]
 refine WOL.ix rfl rfl (ix206 h4)<|WOL.ld rfl (turn_ld A h4) ?_
 rw [tm.1,tm.2]
 refine WOL.al tp205 fun h1 N1=>WOL.sto (vs:=[zi (tRe j),zi (tIm j)]) rfl rfl tp205 N1.at_ rfl rfl (Nat.le_of_ble_eq_true rfl) rfl (f.hx N1.hx) (Nat.le_refl _) fun h2 P2=>WOL.nil<|keep [(3,_)] ⟨rfl,trivial⟩ ?_
 have A3:=P2.at_
 have X2:HX h h2:=P2.hx _ N1.hx (Nat.le_refl _)
 have q1:=fx_int (n:=tRe j) (by omega)
 have q2:=fx_int (n:=tIm j) (by omega)
 refine WL.sr<|WOL.fa rfl (fa_of fo205_0)<|WOL.ld rfl (load_one tp3 A3 rfl)<|WOL.cvP rfl rfl (conv_i2f Tryz.underlying3 u188c) (plain_float q1.nan64)<|WOL.fa rfl (fa_of fo205_1)<|WOL.ld rfl (load_one tp3 A3 rfl)<|WOL.cvP rfl rfl (conv_i2f Tryz.underlying3 u188c) (plain_float q2.nan64)<|WOL.cplx rfl rfl q1.nan64 q2.nan64<|WOL.as rfl<|WOL.nil<|WL.ret (WL.end_ rfl ⟨X2,⟨_,_,rfl,q1,q2⟩⟩)
theorem k1230 (H:Has tp) (G:Glob h) (hj:j≤100000) (f:Free0 h.next h):CallW Tryz.prog tp (.func (.func 139) #[] #[]) #[zi (j:Nat)] h fun v h'=>HX h h'∧Cz v (tRe (3*j)) (tIm (3*j)):=by
 refine CallW.fnL (H.fn 139 f1230 rfl rfl) ?_
 refine WL.sr<|WOL.as rfl<|WOL.nil<|keep [(0,_)] ⟨rfl,trivial⟩ ?_
 refine WL.sr<|WOL.mv rfl<|WOL.mul (m:=3) (n:=(j:Int)) rfl rfl (by omega) (by omega) ?_
 rw [show (3:Int)*((j:Nat):Int)=((3*j:Nat):Int) by omega]
 refine WOL.cl1 rfl rfl ((k1231 H G (by omega) f).mono ?_)
 rintro v h1 ⟨X1,c⟩
 exact WOL.as rfl<|WOL.nil<|WL.ret (WL.end_ rfl ⟨X1,c⟩)
end
end Go.Tidy
namespace Go.Tidy
open Go Go.Proofs Tab
variable {tp:TProg}
section
variable {h h0:TH} {a b n1 n2:Int} {v1 v2 w1 w2 w:Value} {L1 L2 X:List Int} {S1 S2:List (Int × Int)} {c3 c4:Nat}
end
theorem val_ints {v:Value}:valOf Tryz.prog 24 [v]=v:=by unfold valOf;rw [Tryz.underlying24];rfl
end Go.Tidy
namespace Go.Tidy
open Go Go.Proofs Tab
variable {tp:TProg}
section
variable {h0 h:TH} {n:Int} {b1 b2:Option Addr} {k1 k2 cb:Nat} {L:List Int} {S:List (Int × Int)} {T:Int}
set_option maxHeartbeats 4000000 in
set_option maxRecDepth 10000 in
theorem k1117bw (H:Has tp) (r:TrcH h (.slice b1 L.length k1) (.slice b2 S.length k2) L S) (hL:L.length≤900000) (f:Free0 h.next h) (X0:HX h0 h) (A1:At h cb (.cells [zi n,.slice b1 L.length k1,.slice b2 S.length k2] true true 52)) (eT:T=cond (holeE L.length (-1) S != 0) (holeE L.length (-1) S) (formE L S)) :
    ∀ a,Kn [(1,ptr cb)] a→W Tryz.prog tp false cd1117b a h (Fin Tryz.prog [.tmp 2] fun v h'=>v=zi T∧HX h0 h'):=by
  have l1:=A1.lt
  unfold cd1117b
  refine WL.seq<|WL.sr<|WOL.as rfl<|WOL.nil<|keep [(1,_),(6,_)] ⟨rfl,rfl,trivial⟩ ?_
  refine WL.forz (α:=Int) S.length (fun j prev g=>HX h g∧holeE L.length (-1) S=holeE L.length prev (S.drop j)∧(((j:Nat):Int)≤prev+1∧prev≤(L.length:Nat))∧((j=0∧prev=-1)∨(0 < j∧∃ q,S[j - 1]?=some q∧q.2=prev))) (fun j _=>[(1,ptr cb),(6,zi (j:Nat))]) (fun j _=>[(1,ptr cb),(6,zi (j:Nat))]) (-1) ⟨HX.refl _,rfl,⟨by omega,by omega⟩,.inl ⟨rfl,rfl⟩⟩ ⟨rfl,rfl,trivial⟩ ?_ ?_ (fun _ _ _=>⟨rfl,rfl,trivial⟩) ?_ ?_
  · rintro j _ g hj ⟨X,_,_,_⟩
    exact WOL.mv rfl<|WOL.fa rfl (fa_of fo1114_2)<|WOL.ld rfl (load_one tp44 (A1.hx X) rfl)<|WOL.len rfl (r.s.hx X) u44<|WOL.bi rfl rfl rfl<|WOL.nil fun a q=>⟨rfl,q.sub ⟨rfl,rfl,rfl,trivial⟩⟩
  · rintro j pv g hj hH
    have hb:=hH.2.2.1
    exact WOL.mv rfl<|WOL.inc rfl (by omega)<|WOL.as rfl<|WOL.nil fun a q=>⟨hH,q.sub ⟨rfl,rfl,trivial⟩⟩
  · rintro j prev g hj ⟨X,hE,hbd,hprev⟩
    have hp:S[j]?=some S[j]:=List.getElem?_eq_getElem hj
    have hd:S.drop j=S[j]::S.drop (j+1):=List.drop_eq_getElem_cons hj
    generalize S[j]=p at hp hd
    obtain ⟨p1,p2⟩:=p
    rw [hd,holeE_cons] at hE
    obtain ⟨b,o,cc,fix,wr,el,g1,g2,g3,g4,g5⟩:=(r.s.hx X).at eS u44 tp48 hp .i64
    have A1':=A1.hx X
    refine WL.sr<|WOL.fa rfl (fa_of fo1114_2)<|WOL.ld rfl (load_one tp44 A1' rfl)<|WOL.mv rfl<|WOL.ix rfl rfl g1<|WOL.ld rfl (load_row tp48 g2 g4 g3)<|WOL.al tp48 fun i1 M1=>?_
    refine WOL.sto (vs:=encS (p1,p2)) rfl rfl tp48 M1.at_ rfl rfl (Nat.le_of_ble_eq_true rfl) rfl (f.hx (X.trans M1.hx)) X.next fun i2 M2=>?_
    have A7:At i2 g.next (.cells [zi p1,zi p2] true true 77):=M2.at_
    have XI:HX g i2:=M2.hx _ M1.hx (Nat.le_refl _)
    have r2:=r.hx (X.trans XI)
    replace A1':=A1'.hx XI
    have Z:=X0.trans (X.trans XI)
    refine WOL.nil<|keep [(1,_),(6,_),(7,_)] ⟨rfl,rfl,rfl,trivial⟩ ?_
    by_cases c1:p1 < 0
    · rw [show badS L.length (p1,p2)=true by unfold badS;rw [decide_eq_true c1];rfl] at hE
      replace hE:holeE L.length (-1) S=14:=hE
      refine WL.seq<|WL.sr ?_
      repeat' (first
    | (refine WOL.fa rfl (fa_of fo48_0) ?_)
    | (refine WOL.fa rfl (fa_of fo48_1) ?_)
    | (refine WOL.fa rfl (fa_of fo1114_1) ?_)
    | (refine WOL.ld rfl (load_one tp3 A7 rfl) ?_)
    | (refine WOL.ld rfl (load_one tp29 A1' rfl) ?_)
    | (refine WOL.len rfl r2.l u29 ?_)
    | (refine WOL.bt rfl rfl rfl (by first | exact decide_eq_true (by omega) | exact beq_iff_eq.2 (by omega) | exact bne_iff_ne.2 (by omega)) ?_)
    | refine WOL.now (b:=true) rfl rfl ?_ | refine WOL.now (b:=false) rfl rfl ?_
    | refine WOL.skp (b:=true) rfl rfl ?_ | refine WOL.skp (b:=false) rfl rfl ?_ | refine WOL.gu rfl rfl ?_
    | refine WOL.mv rfl ?_ | refine WOL.as rfl ?_
    | refine WOL.bi rfl rfl rfl ?_ | refine WOL.nt rfl ?_
    | refine WOL.pkt rfl rfl ?_ | refine WOL.pkf rfl rfl ?_)
      refine WOL.nil<|keep [(74,_)] ⟨rfl,trivial⟩ ?_
      refine WL.yes rfl<|WL.sr<|WOL.as rfl<|WOL.nil ?_
      exact WL.ret (WL.end_ rfl ⟨by rw [eT,hE];rfl,Z⟩)
    by_cases c2:p2≤p1
    · rw [show badS L.length (p1,p2)=true by unfold badS;rw [decide_eq_false c1,decide_eq_true c2];rfl] at hE
      replace hE:holeE L.length (-1) S=14:=hE
      refine WL.seq<|WL.sr ?_
      repeat' (first
    | (refine WOL.fa rfl (fa_of fo48_0) ?_)
    | (refine WOL.fa rfl (fa_of fo48_1) ?_)
    | (refine WOL.fa rfl (fa_of fo1114_1) ?_)
    | (refine WOL.ld rfl (load_one tp3 A7 rfl) ?_)
    | (refine WOL.ld rfl (load_one tp29 A1' rfl) ?_)
    | (refine WOL.len rfl r2.l u29 ?_)
    | (refine WOL.bf rfl rfl rfl (by first | exact decide_eq_false (by omega) | exact beq_eq_false_iff_ne.2 (by omega) | exact bne_eq_false_iff_eq.2 (by omega)) ?_)
    | (refine WOL.bt rfl rfl rfl (by first | exact decide_eq_true (by omega) | exact beq_iff_eq.2 (by omega) | exact bne_iff_ne.2 (by omega)) ?_)
    | refine WOL.now (b:=true) rfl rfl ?_ | refine WOL.now (b:=false) rfl rfl ?_
    | refine WOL.skp (b:=true) rfl rfl ?_ | refine WOL.skp (b:=false) rfl rfl ?_ | refine WOL.gu rfl rfl ?_
    | refine WOL.mv rfl ?_ | refine WOL.as rfl ?_
    | refine WOL.bi rfl rfl rfl ?_ | refine WOL.nt rfl ?_
    | refine WOL.pkt rfl rfl ?_ | refine WOL.pkf rfl rfl ?_)
      refine WOL.nil<|keep [(74,_)] ⟨rfl,trivial⟩ ?_
      refine WL.yes rfl<|WL.sr<|WOL.as rfl<|WOL.nil ?_
      exact WL.ret (WL.end_ rfl ⟨by rw [eT,hE];rfl,Z⟩)
    by_cases c3:(L.length:Int) < p2
    · rw [show badS L.length (p1,p2)=true by unfold badS;rw [decide_eq_false c1,decide_eq_false c2,decide_eq_true c3];rfl] at hE
      replace hE:holeE L.length (-1) S=14:=hE
      refine WL.seq<|WL.sr ?_
      repeat' (first
    | (refine WOL.fa rfl (fa_of fo48_0) ?_)
    | (refine WOL.fa rfl (fa_of fo48_1) ?_)
    | (refine WOL.fa rfl (fa_of fo1114_1) ?_)
    | (refine WOL.ld rfl (load_one tp3 A7 rfl) ?_)
    | (refine WOL.ld rfl (load_one tp29 A1' rfl) ?_)
    | (refine WOL.len rfl r2.l u29 ?_)
    | (refine WOL.bf rfl rfl rfl (by first | exact decide_eq_false (by omega) | exact beq_eq_false_iff_ne.2 (by omega) | exact bne_eq_false_iff_eq.2 (by omega)) ?_)
    | (refine WOL.bt rfl rfl rfl (by first | exact decide_eq_true (by omega) | exact beq_iff_eq.2 (by omega) | exact bne_iff_ne.2 (by omega)) ?_)
    | refine WOL.now (b:=true) rfl rfl ?_ | refine WOL.now (b:=false) rfl rfl ?_
    | refine WOL.skp (b:=true) rfl rfl ?_ | refine WOL.skp (b:=false) rfl rfl ?_ | refine WOL.gu rfl rfl ?_
    | refine WOL.mv rfl ?_ | refine WOL.as rfl ?_
    | refine WOL.bi rfl rfl rfl ?_ | refine WOL.nt rfl ?_
    | refine WOL.pkt rfl rfl ?_ | refine WOL.pkf rfl rfl ?_)
      refine WOL.nil<|keep [(74,_)] ⟨rfl,trivial⟩ ?_
      refine WL.yes rfl<|WL.sr<|WOL.as rfl<|WOL.nil ?_
      exact WL.ret (WL.end_ rfl ⟨by rw [eT,hE];rfl,Z⟩)
    rw [show badS L.length (p1,p2)=false by unfold badS;rw [decide_eq_false c1,decide_eq_false c2,decide_eq_false c3];rfl] at hE
    replace hE:holeE L.length (-1) S=cond (decide (p1≤prev)) 11 (holeE L.length p2 (S.drop (j+1))):=hE
    refine WL.seq<|WL.sr ?_
    repeat' (first
    | (refine WOL.fa rfl (fa_of fo48_0) ?_)
    | (refine WOL.fa rfl (fa_of fo48_1) ?_)
    | (refine WOL.fa rfl (fa_of fo1114_1) ?_)
    | (refine WOL.ld rfl (load_one tp3 A7 rfl) ?_)
    | (refine WOL.ld rfl (load_one tp29 A1' rfl) ?_)
    | (refine WOL.len rfl r2.l u29 ?_)
    | (refine WOL.bf rfl rfl rfl (by first | exact decide_eq_false (by omega) | exact beq_eq_false_iff_ne.2 (by omega) | exact bne_eq_false_iff_eq.2 (by omega)) ?_)
    | refine WOL.now (b:=true) rfl rfl ?_ | refine WOL.now (b:=false) rfl rfl ?_
    | refine WOL.skp (b:=true) rfl rfl ?_ | refine WOL.skp (b:=false) rfl rfl ?_ | refine WOL.gu rfl rfl ?_
    | refine WOL.mv rfl ?_ | refine WOL.as rfl ?_
    | refine WOL.bi rfl rfl rfl ?_ | refine WOL.nt rfl ?_
    | refine WOL.pkt rfl rfl ?_ | refine WOL.pkf rfl rfl ?_)
    refine WOL.nil<|keep [(1,_),(6,_),(7,_),(74,_)] ⟨rfl,rfl,rfl,rfl,trivial⟩ ?_
    refine WL.no rfl<|WL.skip ?_
    have fin:p1 > prev→∀ a,Kn [(1,ptr cb),(6,zi (j:Nat))] a→∃ x,(HX h i2∧holeE L.length (-1) S=holeE L.length x (S.drop (j+1))∧(((j+1:Nat):Int)≤x+1∧x≤(L.length:Nat))∧((j+1=0∧x=-1)∨(0 < j+1∧∃ q,S[j+1 - 1]?=some q∧q.2=x)))∧Kn [(1,ptr cb),(6,zi (j:Nat))] a:=fun hp1 a q=>by
      rw [decide_eq_false (show ¬ p1≤prev by omega)] at hE
      exact ⟨p2,⟨X.trans XI,hE,⟨by omega,by omega⟩,.inr ⟨by omega,(p1,p2),by rw [Nat.add_sub_cancel];exact hp,rfl⟩⟩,q⟩
    rcases hprev with ⟨rfl,rfl⟩ | ⟨hj0,q,hq,rfl⟩
    · refine WL.sr<|WOL.mv rfl<|WOL.bf rfl rfl rfl rfl<|WOL.mv rfl ?_
      repeat' (first
    | (refine WOL.mv rfl ?_)
    | refine WOL.now (b:=true) rfl rfl ?_ | refine WOL.now (b:=false) rfl rfl ?_
    | refine WOL.skp (b:=true) rfl rfl ?_ | refine WOL.skp (b:=false) rfl rfl ?_ | refine WOL.gu rfl rfl ?_
    | refine WOL.mv rfl ?_ | refine WOL.as rfl ?_
    | refine WOL.bi rfl rfl rfl ?_ | refine WOL.nt rfl ?_
    | refine WOL.pkt rfl rfl ?_ | refine WOL.pkf rfl rfl ?_)
      refine WOL.nil<|keep [(1,_),(6,_),(88,_)] ⟨rfl,rfl,rfl,trivial⟩ ?_
      exact WL.no rfl<|WL.skip<|kto (fin (by omega)) ⟨rfl,rfl,trivial⟩
    · obtain ⟨b3,o3,cc3,fix3,wr3,el3,m1,m2,m3,m4,m5⟩:=r2.s.at eS u44 tp48 hq .i64
      have m6:=m5 1 (by decide)
      replace m6:cc3[o3+1]?=some (zi q.2):=m6
      refine WL.sr<|WOL.mv rfl<|WOL.bt rfl rfl rfl (by first | exact decide_eq_true (by omega) | exact beq_iff_eq.2 (by omega) | exact bne_iff_ne.2 (by omega))<|WOL.mv rfl<|WOL.now (b:=true) rfl rfl<|WOL.fa rfl (fa_of fo48_0)<|WOL.now (b:=true) rfl rfl<|WOL.ld rfl (load_one tp3 A7 rfl)<|WOL.now (b:=true) rfl rfl<|WOL.fa rfl (fa_of fo1114_2)<|WOL.now (b:=true) rfl rfl<|WOL.ld rfl (load_one tp44 A1' rfl)<|WOL.now (b:=true) rfl rfl<|WOL.mv rfl<|WOL.now (b:=true) rfl rfl<|WOL.sub (m:=((j:Nat):Int)) (n:=1) rfl rfl (by omega) (by omega) ?_
      rw [show ((j:Nat):Int) - 1=((j - 1:Nat):Int) by omega]
      refine WOL.now (b:=true) rfl rfl<|WOL.ix rfl rfl m1<|WOL.now (b:=true) rfl rfl<|WOL.fa rfl (fa_of fo48_1)<|WOL.now (b:=true) rfl rfl<|WOL.ld rfl (load_one tp3 m2 m6)<|WOL.now (b:=true) rfl rfl ?_
      by_cases c4:p1≤q.2
      · rw [decide_eq_true c4] at hE
        replace hE:holeE L.length (-1) S=11:=hE
        refine WOL.bt rfl rfl rfl (by first | exact decide_eq_true (by omega) | exact beq_iff_eq.2 (by omega) | exact bne_iff_ne.2 (by omega))<|WOL.pkt rfl rfl<|WOL.nil<|keep [(88,_)] ⟨rfl,trivial⟩ ?_
        refine WL.yes rfl<|WL.sr<|WOL.as rfl<|WOL.nil ?_
        exact WL.ret (WL.end_ rfl ⟨by rw [eT,hE];rfl,Z⟩)
      · refine WOL.bf rfl rfl rfl (by first | exact decide_eq_false (by omega) | exact beq_eq_false_iff_ne.2 (by omega) | exact bne_eq_false_iff_eq.2 (by omega))<|WOL.pkt rfl rfl<|WOL.nil<|keep [(1,_),(6,_),(88,_)] ⟨rfl,rfl,rfl,trivial⟩ ?_
        exact WL.no rfl<|WL.skip<|kto (fin (by omega)) ⟨rfl,rfl,trivial⟩
  · rintro prev g ⟨X,hE,hbd,_⟩
    have hS:S.length≤1000001:=by omega
    rw [List.drop_length] at hE
    replace hE:holeE L.length (-1) S=0:=hE
    rw [hE] at eT
    replace eT:T=formE L S:=eT
    have hin:=holeE_in hE
    refine WL.seq<|WL.sr<|WOL.as rfl<|WOL.nil<|keep [(1,_),(8,_)] ⟨rfl,rfl,trivial⟩ ?_
    refine WL.forz (α:=Unit) L.length (fun j _ g=>HX h g∧∀ (i:Nat) x,i < j→L[i]?=some x→x≠0→knownB S i=true) (fun j _=>[(1,ptr cb),(8,zi (j:Nat))]) (fun j _=>[(1,ptr cb),(8,zi (j:Nat))]) () ⟨X,fun i x hi=>absurd hi (by omega)⟩ ⟨rfl,rfl,trivial⟩ ?_ ?_ (fun _ _ _=>⟨rfl,rfl,trivial⟩) ?_ ?_
    · rintro j _ g hj ⟨X,_⟩
      exact WOL.mv rfl<|WOL.fa rfl (fa_of fo1114_1)<|WOL.ld rfl (load_one tp29 (A1.hx X) rfl)<|WOL.len rfl (r.l.hx X) u29<|WOL.bi rfl rfl rfl<|WOL.nil fun a q=>⟨rfl,q.sub ⟨rfl,rfl,rfl,trivial⟩⟩
    · rintro j _ g hj hH
      exact WOL.mv rfl<|WOL.inc rfl (by omega)<|WOL.as rfl<|WOL.nil fun a q=>⟨hH,q.sub ⟨rfl,rfl,trivial⟩⟩
    · rintro j _ g hj ⟨X,hz⟩
      have hp:L[j]?=some L[j]:=List.getElem?_eq_getElem hj
      generalize L[j]=x at hp
      obtain ⟨b,o,cc,fix,wr,el,g1,g2,g3,g4,g5⟩:=(r.l.hx X).at eI u29 tp3 hp .i64
      have A1':=A1.hx X
      refine WL.sr<|WOL.fa rfl (fa_of fo1114_1)<|WOL.ld rfl (load_one tp29 A1' rfl)<|WOL.mv rfl<|WOL.ix rfl rfl g1<|WOL.ld rfl (load_one tp3 g2 (by have:=g5 0 (by decide);rwa [Nat.add_zero] at this)) ?_
      by_cases c0:x=0
      · refine WOL.bf rfl rfl rfl (bne_eq_false_iff_eq.2 c0)<|WOL.mv rfl ?_
        refine WOL.skp (b:=false) rfl rfl<|WOL.skp (b:=false) rfl rfl<|WOL.skp (b:=false) rfl rfl<|WOL.skp (b:=false) rfl rfl<|WOL.pkf rfl rfl<|WOL.nil<|keep [(1,_),(8,_),(107,_)] ⟨rfl,rfl,rfl,trivial⟩ ?_
        refine WL.no rfl<|WL.skip fun a q=>⟨(),⟨X,fun i y hi hy hne=>?_⟩,q.sub ⟨rfl,rfl,trivial⟩⟩
        by_cases e:i=j
        · subst e
          rw [hp] at hy
          cases hy
          exact absurd c0 hne
        · exact hz i y (by omega) hy hne
      · refine WOL.bt rfl rfl rfl (bne_iff_ne.2 c0)<|WOL.mv rfl<|WOL.now (b:=true) rfl rfl<|WOL.ld rfl (load_row tp1114 A1' rfl (Nat.le_of_ble_eq_true rfl))<|WOL.now (b:=true) rfl rfl<|WOL.mv rfl<|WOL.now (b:=true) rfl rfl ?_
        refine WOL.cl2 rfl rfl rfl ((k1154 H (r.s.hx X) (by omega)).mono ?_)
        rintro v g3 ⟨rfl,X3⟩
        refine WOL.now (b:=true) rfl rfl<|WOL.nt rfl<|WOL.pkt rfl rfl<|WOL.nil<|keep [(1,_),(8,_),(107,_)] ⟨rfl,rfl,rfl,trivial⟩ ?_
        cases hk:knownB S ((j:Nat):Int) with
        | true =>
          refine WL.no rfl<|WL.skip fun a q=>⟨(),⟨X.trans X3,fun i y hi hy hne=>?_⟩,q.sub ⟨rfl,rfl,trivial⟩⟩
          by_cases e:i=j
          · subst e;exact hk
          · exact hz i y (by omega) hy hne
        | false =>
          refine WL.yes rfl<|WL.sr<|WOL.as rfl<|WOL.nil ?_
          refine WL.ret (WL.end_ rfl ⟨?_,X0.trans (X.trans X3)⟩)
          rw [eT]
          unfold formE
          rw [(form_iff hin).2 ⟨j,x,hp,c0,hk⟩]
          rfl
    · rintro _ g ⟨X,hz⟩
      refine WL.sr<|WOL.as rfl<|WOL.nil ?_
      refine WL.ret (WL.end_ rfl ⟨?_,X0.trans X⟩)
      rw [eT]
      unfold formE
      cases hf:S.any (anyIn L) with
      | false=>rfl
      | true =>
        obtain ⟨j,x,q1,q2,q3⟩:=(form_iff hin).1 hf
        rw [hz j x (List.getElem?_eq_some_iff.1 q1).1 q1 q2] at q3
        cases q3
end
section
variable {h:TH} {n:Int} {v1 v2:Value} {L:List Int} {S:List (Int × Int)}
set_option maxHeartbeats 4000000 in
set_option maxRecDepth 10000 in
theorem k1117w (H:Has tp) (r:TrcH h v1 v2 L S) (f:Free0 h.next h):CallW Tryz.prog tp (.func (.func 28) #[] #[]) #[trcV n v1 v2] h fun v h'=>v=zi (traceE n L S)∧HX h h':=by
  obtain ⟨b1,k1,e1,_⟩:=id r.l
  obtain ⟨b2,k2,e2,_⟩:=id r.s
  subst e1 e2
  refine CallW.fnL (H.fn 28 f1117 rfl rfl) ?_
  refine WL.sr<|WOL.box rfl fun h1 N1=>WOL.as rfl<|WOL.nil<|keep [(1,_)] ⟨rfl,trivial⟩ ?_
  have A1:At h1 h.next (.cells [zi n,.slice b1 L.length k1,.slice b2 S.length k2] true true 52):=N1.at_
  have X1:=N1.hx
  replace r:=r.hx X1
  have n1:=N1.next
  refine WL.seq<|WL.sr<|WOL.fa rfl (fa_of fo1114_0)<|WOL.ld rfl (load_one tp3 A1 rfl)<|WOL.fa rfl (fa_of fo1114_1)<|WOL.ld rfl (load_one tp29 A1 rfl)<|WOL.len rfl r.l u29<|WOL.bi (v:=.bool (decide ((L.length:Int) > 4096))) rfl rfl rfl ?_
  refine WOL.lk3 rfl rfl rfl rfl fun M=>((k14 H n 0 100000000 _).mono ?_)
  rintro v h2 ⟨rfl,rfl⟩
  rw [TH.relock]
  refine WOL.cl2 rfl rfl rfl ((k32 H _ _ _).mono ?_)
  rintro v h3 ⟨rfl,rfl⟩
  refine WOL.bsl rfl u29 tp3 (by decide) (by decide) (by decide) (filled_ints _ _) fun h4 N4=>?_
  refine WOL.cl1 rfl rfl ((k13 H (l:=[_,_]) N4.at_.get (by simp)).mono ?_)
  rintro v h5 ⟨rfl,rfl⟩
  replace A1:=A1.hx N4.hx
  replace r:=r.hx N4.hx
  have X4:=X1.trans N4.hx
  have x4:=X4.next
  refine WOL.as rfl<|WOL.nil<|keep [(1,_),(3,_)] ⟨rfl,rfl,trivial⟩ ?_
  have eT:traceE n L S=cond (firstNZ [outB n 0 100000000,cond (decide ((L.length:Int) > 4096)) 5 0] != 0) (firstNZ [outB n 0 100000000,cond (decide ((L.length:Int) > 4096)) 5 0]) (firstNZ [cond (decide (n+(L.length:Int) > 100000000)) 4 0,firstNZ (L.map readE),cond (holeE L.length (-1) S != 0) (holeE L.length (-1) S) (formE L S)]):=first_head
  by_cases e0:firstNZ [outB n 0 100000000,cond (decide ((L.length:Int) > 4096)) 5 0]≠0
  · refine WL.sr<|WOL.mv rfl<|WOL.bt rfl rfl rfl (bne_iff_ne.2 e0)<|WOL.nil<|keep [(3,_),(20,_)] ⟨rfl,rfl,trivial⟩ ?_
    refine WL.yes rfl<|WL.sr<|WOL.mv rfl<|WOL.as rfl<|WOL.nil ?_
    exact WL.ret (WL.end_ rfl ⟨by rw [eT,bne_iff_ne.2 e0];rfl,X4⟩)
  have e0:firstNZ [outB n 0 100000000,cond (decide ((L.length:Int) > 4096)) 5 0]=0:=Classical.not_not.1 e0
  have hL:L.length≤900000:=by
    have:=firstNZ_zero e0 (cond (decide ((L.length:Int) > 4096)) 5 0) (by simp)
    by_cases c:(L.length:Int) > 4096
    · rw [decide_eq_true c] at this;cases this
    · omega
  rw [e0] at eT
  replace eT:traceE n L S=firstNZ [cond (decide (n+(L.length:Int) > 100000000)) 4 0,firstNZ (L.map readE),cond (holeE L.length (-1) S != 0) (holeE L.length (-1) S) (formE L S)]:=eT
  have z1:=fst_zero e0
  obtain ⟨n0,n2⟩:=out_in z1
  refine WL.sr<|WOL.mv rfl<|WOL.bf rfl rfl rfl (bne_eq_false_iff_eq.2 e0)<|WOL.nil<|keep [(1,_),(20,_)] ⟨rfl,rfl,trivial⟩ ?_
  refine WL.no rfl<|WL.skip ?_
  by_cases e4:n+(L.length:Int) > 100000000
  · rw [decide_eq_true e4] at eT
    replace eT:traceE n L S=4:=eT
    refine WL.seq<|WL.sr<|WOL.fa rfl (fa_of fo1114_0)<|WOL.ld rfl (load_one tp3 A1 rfl)<|WOL.fa rfl (fa_of fo1114_1)<|WOL.ld rfl (load_one tp29 A1 rfl)<|WOL.len rfl r.l u29<|WOL.add (m:=n) (n:=((L.length:Nat):Int)) rfl rfl (by omega) (by omega)<|WOL.bt rfl rfl rfl (by first | exact decide_eq_true (by omega) | exact beq_iff_eq.2 (by omega) | exact bne_iff_ne.2 (by omega))<|WOL.nil<|keep [(28,_)] ⟨rfl,trivial⟩ ?_
    refine WL.yes rfl<|WL.sr<|WOL.as rfl<|WOL.nil ?_
    exact WL.ret (WL.end_ rfl ⟨by rw [eT];rfl,X4⟩)
  rw [decide_eq_false e4] at eT
  replace eT:traceE n L S=firstNZ [firstNZ (L.map readE),cond (holeE L.length (-1) S != 0) (holeE L.length (-1) S) (formE L S)]:=eT
  refine WL.seq<|WL.sr<|WOL.fa rfl (fa_of fo1114_0)<|WOL.ld rfl (load_one tp3 A1 rfl)<|WOL.fa rfl (fa_of fo1114_1)<|WOL.ld rfl (load_one tp29 A1 rfl)<|WOL.len rfl r.l u29<|WOL.add (m:=n) (n:=((L.length:Nat):Int)) rfl rfl (by omega) (by omega)<|WOL.bf rfl rfl rfl (by first | exact decide_eq_false (by omega) | exact beq_eq_false_iff_ne.2 (by omega) | exact bne_eq_false_iff_eq.2 (by omega))<|WOL.nil<|keep [(1,_),(28,_)] ⟨rfl,rfl,trivial⟩ ?_
  refine WL.no rfl<|WL.skip ?_
  -- the readings
  refine WL.seq<|WL.sr<|WOL.as rfl<|WOL.nil<|keep [(1,_),(4,_)] ⟨rfl,rfl,trivial⟩ ?_
  refine WL.forz (α:=Unit) L.length (fun j _ g=>g=h5∧∀ i,i < j→(L.map readE).getD i 0=0) (fun j _=>[(1,ptr h.next),(4,zi (j:Nat))]) (fun j _=>[(1,ptr h.next),(4,zi (j:Nat))]) () ⟨rfl,fun i hi=>absurd hi (by omega)⟩ ⟨rfl,rfl,trivial⟩ ?_ ?_ (fun _ _ _=>⟨rfl,rfl,trivial⟩) ?_ ?_
  · rintro j _ g hj ⟨rfl,hz⟩
    exact WOL.mv rfl<|WOL.fa rfl (fa_of fo1114_1)<|WOL.ld rfl (load_one tp29 A1 rfl)<|WOL.len rfl r.l u29<|WOL.bi rfl rfl rfl<|WOL.nil fun a q=>⟨rfl,q.sub ⟨rfl,rfl,rfl,trivial⟩⟩
  · rintro j _ g hj hH
    exact WOL.mv rfl<|WOL.inc rfl (by omega)<|WOL.as rfl<|WOL.nil fun a q=>⟨hH,q.sub ⟨rfl,rfl,trivial⟩⟩
  · rintro j _ g hj ⟨rfl,hz⟩
    have hp:L[j]?=some L[j]:=List.getElem?_eq_getElem hj
    generalize L[j]=x at hp
    obtain ⟨b,o,cc,fix,wr,el,g1,g2,g3,g4,g5⟩:=r.l.at eI u29 tp3 hp .i64
    have he:(L.map readE)[j]?=some (readE x):=by rw [List.getElem?_map,hp];rfl
    refine WL.sr<|WOL.fa rfl (fa_of fo1114_1)<|WOL.ld rfl (load_one tp29 A1 rfl)<|WOL.mv rfl<|WOL.ix rfl rfl g1<|WOL.ld rfl (load_one tp3 g2 (by have:=g5 0 (by decide);rwa [Nat.add_zero] at this))<|WOL.cl1 rfl rfl ((k1187 H x _).mono ?_)
    rintro w g' ⟨rfl,rfl⟩
    refine WOL.as rfl<|WOL.nil<|keep [(1,_),(4,_),(5,_)] ⟨rfl,rfl,rfl,trivial⟩ ?_
    by_cases h0:readE x=0
    · refine WL.sr<|WOL.mv rfl<|WOL.bf rfl rfl rfl (bne_eq_false_iff_eq.2 h0)<|WOL.nil<|keep [(1,_),(4,_),(43,_)] ⟨rfl,rfl,rfl,trivial⟩ ?_
      refine WL.no rfl<|WL.skip fun a q=>⟨(),⟨rfl,fun i hi=>?_⟩,q.sub ⟨rfl,rfl,trivial⟩⟩
      by_cases e:i=j
      · subst e
        rw [List.getD_eq_getElem?_getD,he]
        exact h0
      · exact hz i (by omega)
    · refine WL.sr<|WOL.mv rfl<|WOL.bt rfl rfl rfl (bne_iff_ne.2 h0)<|WOL.nil<|keep [(5,_),(43,_)] ⟨rfl,rfl,trivial⟩ ?_
      refine WL.yes rfl<|WL.sr<|WOL.mv rfl<|WOL.as rfl<|WOL.nil ?_
      refine WL.ret (WL.end_ rfl ⟨?_,X4⟩)
      rw [eT,fNZ_at hz he h0]
      show zi _=zi (cond (readE x != 0) (readE x) _)
      rw [bne_iff_ne.2 h0];rfl
  rintro _ g ⟨rfl,hz⟩
  rw [fNZ_all (fun i hi=>hz i (by rw [List.length_map] at hi;exact hi))] at eT
  replace eT:traceE n L S=firstNZ [cond (holeE L.length (-1) S != 0) (holeE L.length (-1) S) (formE L S)]:=eT
  rw [first_one] at eT
  exact kto (M:=[(1,ptr h.next)]) (k1117bw H r (by omega) (f.on X4) X4 A1 eT) ⟨rfl,trivial⟩
end
end Go.Tidy
namespace Go.Tidy
open Go Go.Proofs Tab
section
variable {C:List (Int × Bool)} {n:Int}
end
section
variable {L:List Int} {S:List (Int × Int)} {M c p q j:Nat}
theorem mulb {w x:Int} {a b:Nat} (h1:w.natAbs≤a) (h2:x.natAbs≤b):(w*x).natAbs≤a*b:=by
 rw [Int.natAbs_mul]
 exact Nat.mul_le_mul h1 h2
end
end Go.Tidy
namespace Go.Tidy
open Go Go.Proofs Tab
variable {tp:TProg}
theorem tp1231:Tp Tryz.prog 150 4 [.int .i64 0,.int .i64 0,.int .i64 0,.int .i64 0] true:=tp_of (by kernel_rfl) (by kernel_rfl) rfl
theorem idx1231 {X:Nat→Int} {k:Nat} (h:k < 4):indexT Tryz.prog 150 (.agg #[zi (X 0),zi (X 1),zi (X 2),zi (X 3)]) (zi (k:Nat))=some (zi (X k)):=by
 obtain rfl | rfl | rfl | rfl:k=0∨k=1∨k=2∨k=3:=by omega
 ·show indexT Tryz.prog 150 _ (zi 0)=_;kernel_rfl
 ·show indexT Tryz.prog 150 _ (zi 1)=_;kernel_rfl
 ·show indexT Tryz.prog 150 _ (zi 2)=_;kernel_rfl
 ·show indexT Tryz.prog 150 _ (zi 3)=_;kernel_rfl
def pnR (X:Nat→Int) (k m:Nat):Int:=(List.range m).foldl (fun s n=>s+X n*tRe (3*(k*n))) 0
def pnI (X:Nat→Int) (k m:Nat):Int:=(List.range m).foldl (fun s n=>s+X n*tIm (3*(k*n))) 0
def pnL (X:Nat→Int) (k m:Nat):List (Int × Int):=(List.range 4).map fun i=>if i < k then (pnR X i 4,pnI X i 4) else if i=k then (pnR X k m,pnI X k m) else (0,0)
section
variable {X:Nat→Int} {k m i:Nat}
theorem pnR_succ:pnR X k (m+1)=pnR X k m+X m*tRe (3*(k*m)):=by unfold pnR;rw [List.range_succ,List.foldl_append];rfl
theorem pnI_succ:pnI X k (m+1)=pnI X k m+X m*tIm (3*(k*m)):=by unfold pnI;rw [List.range_succ,List.foldl_append];rfl
theorem pn_term (hX:∀ n,(X n).natAbs≤1073741824) (j n:Nat):(X n*tRe j).natAbs≤1073741824∧(X n*tIm j).natAbs≤1073741824:=by
 have l:=t_lim j
 have a:=mulb (w:=X n) (x:=tRe j) (a:=1073741824) (b:=1) (hX n) (by omega)
 have b:=mulb (w:=X n) (x:=tIm j) (a:=1073741824) (b:=1) (hX n) (by omega)
 exact ⟨by omega,by omega⟩
theorem pn_lim (hX:∀ n,(X n).natAbs≤1073741824):∀ m,(pnR X k m).natAbs≤m*1073741824∧(pnI X k m).natAbs≤m*1073741824
 | 0=>⟨by show (0:Int).natAbs≤_;decide,by show (0:Int).natAbs≤_;decide⟩
 | m+1=>by
  obtain ⟨a,b⟩:=pn_lim hX m
  obtain ⟨c,d⟩:=pn_term hX (3*(k*m)) m
  rw [pnR_succ,pnI_succ]
  exact ⟨by omega,by omega⟩
theorem pnL_len:(pnL X k m).length=4:=by unfold pnL;rw [List.length_map,List.length_range]
theorem pnL_get (h:i < 4):(pnL X k m)[i]?=some (if i < k then (pnR X i 4,pnI X i 4) else if i=k then (pnR X k m,pnI X k m) else (0,0)):=by
 unfold pnL
 rw [List.getElem?_map,List.getElem?_range h];rfl
theorem pnL_step (hk:k < 4):(pnL X k m).set k (pnR X k (m+1),pnI X k (m+1))=pnL X k (m+1):=by
 refine List.ext_getElem? fun i=>?_
 by_cases e:i=k
 ·subst e
  rw [List.getElem?_set_self (by rw [pnL_len];exact hk),pnL_get hk,if_neg (Nat.lt_irrefl _),if_pos rfl]
 ·rw [List.getElem?_set_ne (fun c=>e c.symm)]
  by_cases h:i < 4
  ·rw [pnL_get h,pnL_get h]
   by_cases c:i < k
   ·rw [if_pos c,if_pos c]
   ·rw [if_neg c,if_neg c,if_neg e,if_neg e]
  ·rw [List.getElem?_eq_none (by rw [pnL_len];omega),List.getElem?_eq_none (by rw [pnL_len];omega)]
theorem pnL_next:pnL X k 4=pnL X (k+1) 0:=by
  refine List.ext_getElem? fun i=>?_
  by_cases h:i < 4
  · rw [pnL_get h,pnL_get h]
    by_cases c:i < k
    · rw [if_pos c,if_pos (by omega)]
    · rw [if_neg c]
      by_cases e:i=k
      · subst e
        rw [if_pos rfl,if_pos (by omega)]
      · rw [if_neg e,if_neg (by omega)]
        by_cases e':i=k+1
        · rw [if_pos e'];rfl
        · rw [if_neg e']
  · rw [List.getElem?_eq_none (by rw [pnL_len];omega),List.getElem?_eq_none (by rw [pnL_len];omega)]
theorem fx_zero:Fx Ieee.double 0 0 0:=by
 have e:FloatKind.f64.nearest 0=0:=by decide
 have:=fx_int (n:=0) (by decide)
 rwa [e] at this
theorem czl_zero:CzL [.complex .f64 0 0,.complex .f64 0 0,.complex .f64 0 0,.complex .f64 0 0] (pnL X 0 0):=by
 refine ⟨by rw [pnL_len];rfl,fun i v p h1 h2=>?_⟩
 have hi:i < 4:=(List.getElem?_eq_some_iff.1 h1).1
 rw [pnL_get hi] at h2
 have hp:p=(0,0):=by
  have:=(Option.some.inj h2).symm
  rw [if_neg (Nat.not_lt_zero _)] at this
  by_cases c:i=0
  ·rw [if_pos c] at this;exact this
  ·rw [if_neg c] at this;exact this
 subst hp
 have hv:v=.complex .f64 0 0:=by
  obtain rfl | rfl | rfl | rfl:i=0∨i=1∨i=2∨i=3:=by omega
  all_goals exact (Option.some.inj h1).symm
 subst hv
 exact ⟨_,_,rfl,fx_zero,fx_zero⟩
end
theorem Glob.relk {h:TH} (G:Glob h) (M:List Nat):Glob (h.withLock M):=by
 first
 | (obtain ⟨e1,e2,e3,q⟩:=G;exact ⟨e1,e2,e3,fun b x g=>(q b x g).relock M⟩)
 | (obtain ⟨e1,e2,e3,e4,q⟩:=G;exact ⟨e1,e2,e3,e4,fun b x g=>(q b x g).relock M⟩)
 | (obtain ⟨e1,e2,q⟩:=G;exact ⟨e1,e2,fun b x g=>(q b x g).relock M⟩)
theorem splice_set {c:List Value} {i:Nat} {v:Value} (h:i < c.length):splice c i [v]=c.set i v:=by
 unfold splice
 rw [List.set_eq_take_append_cons_drop,if_pos h]
 simp
theorem czl_one {cs:List Value} {l:List (Int × Int)} (c:CzL cs l):cs.all oneCell=true:=by
 refine List.all_eq_true.2 fun v hv=>?_
 obtain ⟨i,hi,e⟩:=List.getElem_of_mem hv
 have hi':i < l.length:=by rw [← c.1];exact hi
 obtain ⟨x,y,rfl,_,_⟩:=(c.2 i v l[i] (by rw [List.getElem?_eq_getElem hi,e]) (List.getElem?_eq_getElem hi')).ok
 rfl
section
variable {h:TH} {X:Nat→Int}
set_option maxHeartbeats 8000000 in
set_option maxRecDepth 10000 in
theorem k1212 (H:Has tp) (G:Glob h) (hX:∀ n,(X n).natAbs≤1073741824) (f:Free0 h.next h):CallW Tryz.prog tp (.func (.func 93) #[] #[]) #[.agg #[zi (X 0),zi (X 1),zi (X 2),zi (X 3)]] h fun v h'=>HX h h'∧∃ cs:List Value,v=.agg cs.toArray∧CzL cs (pnL X 4 0):=by
  refine CallW.fnL (H.fn 93 f1212 rfl rfl) ?_
  refine WL.sr<|WOL.box rfl fun h1 N1=>WOL.al tp1172 fun h2 N2=>WOL.nil<|keep [(1,_),(2,_)] ⟨rfl,rfl,trivial⟩ ?_
  have n1:=N1.next
  have n2:=N2.next
  refine WL.sr<|WOL.al tp1172 fun h3 N3=>WOL.nil<|keep [(1,_),(2,_),(3,_)] ⟨rfl,rfl,rfl,trivial⟩ ?_
  have n3:=N3.next
  have X3:=(N1.hx.trans N2.hx).trans N3.hx
  have A1:At h3 h.next (.cells [zi (X 0),zi (X 1),zi (X 2),zi (X 3)] true true 150):=(N1.at_.hx N2.hx).hx N3.hx
  have A2:=N2.at_.hx N3.hx
  have A3:=N3.at_
  refine WL.seq<|WL.sr<|WOL.mv rfl<|WOL.nil<|keep [(1,_),(2,_),(3,_),(7,_)] ⟨rfl,rfl,rfl,rfl,trivial⟩ ?_
  refine WL.upto (α:=List Value) 4 (fun k cs g=>HX h2 g∧h3.next≤g.next∧At g h2.next (.cells cs true true 27)∧CzL cs (pnL X k 0)) (fun _ _=>[(1,ptr h.next),(2,ptr h1.next),(3,ptr h2.next)]) _ rfl rfl (by decide) ⟨N3.hx,Nat.le_refl _,A3,czl_zero⟩ ⟨rfl,rfl,rfl,rfl,trivial⟩ (fun _ _=>rfl) (fun _ _ _=>⟨rfl,rfl,rfl,rfl,trivial⟩) (fun _ _ _=>⟨rfl,rfl,rfl,rfl,trivial⟩) ?_ ?_
  · rintro k cs g hk ⟨Y,nx,B,cz⟩
    have B1:=(N1.at_.hx N2.hx).hx Y
    refine WL.sr<|WOL.mv rfl<|WOL.as rfl<|WOL.nil<|keep [(1,_),(2,_),(3,_),(4,_),(7,_)] ⟨rfl,rfl,rfl,rfl,rfl,trivial⟩ ?_
    refine WL.sr<|WOL.ld rfl (load_row tp1231 B1 (l:=[zi (X 0),zi (X 1),zi (X 2),zi (X 3)]) rfl (Nat.le_of_ble_eq_true rfl))<|WOL.mv rfl<|WOL.nil<|keep [(1,_),(2,_),(3,_),(4,_),(7,_),(10,_),(11,_)] ⟨rfl,rfl,rfl,rfl,rfl,rfl,rfl,trivial⟩ ?_
    refine WL.upto (α:=List Value) 4 (fun m cs g=>HX h2 g∧h3.next≤g.next∧At g h2.next (.cells cs true true 27)∧CzL cs (pnL X k m)) (fun _ _=>[(1,ptr h.next),(2,ptr h1.next),(3,ptr h2.next),(4,zi (k:Nat)),(7,zi (k:Nat)),(10,.agg #[zi (X 0),zi (X 1),zi (X 2),zi (X 3)])]) cs rfl rfl (by decide) ⟨Y,nx,B,cz⟩ ⟨rfl,rfl,rfl,rfl,rfl,rfl,rfl,trivial⟩ (fun _ _=>rfl) (fun _ _ _=>⟨rfl,rfl,rfl,rfl,rfl,rfl,rfl,trivial⟩) (fun _ _ _=>⟨rfl,rfl,rfl,rfl,rfl,rfl,rfl,trivial⟩) ?_ ?_
    · rintro m cs g hm ⟨Y,nx,B,cz⟩
      have lcs:cs.length=4:=by rw [cz.1,pnL_len]
      have hv:cs[k]?=some (cs[k]'(by omega)):=List.getElem?_eq_getElem _
      have cv:=cz.2 _ _ _ hv (pnL_get hk)
      rw [if_neg (Nat.lt_irrefl _),if_pos rfl] at cv
      generalize cs[k]'(by omega)=v0 at hv cv
      obtain ⟨r1,r2⟩:=pn_lim (k:=k) hX m
      obtain ⟨s1,s2⟩:=pn_term hX (3*(k*m)) m
      have xm:=hX m
      have km:k*m≤9:=Nat.le_trans (Nat.mul_le_mul (show k≤3 by omega) (show m≤3 by omega)) (by decide)
      have fm:=fx_int (n:=X m) (by omega)
      have kmi:(0:Int)≤(k:Int)*(m:Int)∧(k:Int)*(m:Int)≤9:=by
        rw [← Int.natCast_mul]
        exact ⟨Int.natCast_nonneg _,Int.ofNat_le.2 km⟩
      obtain ⟨kmi1,kmi2⟩:=kmi
      refine WL.sr<|WOL.mv rfl<|WOL.idx rfl rfl (idx1231 hm)<|WOL.as rfl<|WOL.as rfl<|WOL.nil<|keep [(1,_),(2,_),(3,_),(4,_),(5,_),(6,_),(7,_),(10,_),(11,_)] ⟨rfl,rfl,rfl,rfl,rfl,rfl,rfl,rfl,rfl,trivial⟩ ?_
      have Yh:=(N1.hx.trans N2.hx).trans Y
      refine WL.reg<|WOL.mv rfl<|WOL.ix rfl rfl (ix1172 hk)<|WOL.ld rfl (load_one tp1171 B hv)<|WOL.mv rfl<|WOL.cvP rfl rfl (conv_i2f Tryz.underlying3 u188c) (plain_float fm.nan64)<|WOL.cplx rfl rfl fm.nan64 (by decide)<|WOL.mv rfl<|WOL.mv rfl<|WOL.mul (m:=(k:Int)) (n:=(m:Int)) rfl rfl (by omega) (by omega) ?_
      rw [← Int.natCast_mul]
      have gn:=Yh.next
      have lB:=B.lt
      refine WOL.lv1 [none,none,some h2.next] rfl rfl rfl fun ml hl=>((k1230 (h:=TH.withLock _ ml) H ((G.hx Yh).relk ml) (by omega) ((f.on Yh).held (bs:=[h2.next]) (fun l q=>(hl l q).imp (fun w=>by simpa using w) id) (fun b hb=>by simp at hb;show b < g.next;omega))).mono ?_)
      rintro v g1 ⟨G1,ct⟩
      replace G1:=G1.relock
      generalize g1.withLock g.lock=g1 at *
      have cx:Cz (.complex .f64 (FloatKind.f64.nearest (X m)) 0) (X m) 0:=⟨_,_,rfl,fm,fx_zero⟩
      refine WOL.cmul cx ct (by omega) (by rw [Int.zero_mul];decide) (by omega) (by rw [Int.zero_mul];decide) rfl rfl fun v1 c1=>?_
      rw [Int.zero_mul,Int.sub_zero,Int.zero_mul,Int.add_zero] at c1
      refine WOL.cadd cv c1 (by omega) (by omega) rfl rfl fun v2 c2=>?_
      rw [← pnR_succ,← pnI_succ] at c2
      obtain ⟨w1,w2,e2,_,_⟩:=id c2.ok
      have B':=B.hx G1
      refine WOL.ix rfl rfl (ix1172 hk)<|WOL.sto (vs:=[v2]) rfl rfl tp1171 B' (by rw [e2];rfl) rfl (by show k+1≤cs.length;omega) (by rw [e2];rfl) (f.hx (Yh.trans G1)) (by omega) fun g2 P2=>WOL.nil fun a q=>⟨cs.set k v2,⟨P2.hx _ (Y.trans G1) (by omega),by have:=P2.next;have:=G1.next;omega,?_,?_⟩,q.sub ⟨rfl,rfl,rfl,rfl,rfl,rfl,rfl,trivial⟩⟩
      · have:=P2.at_
        rw [splice_set (by omega)] at this
        exact this
      · have:=Cz.set (j:=k) cz (p:=(pnR X k (m+1),pnI X k (m+1))) c2
        rw [pnL_step hk] at this
        exact this
    · rintro cs g ⟨Y,nx,B,cz⟩
      rw [pnL_next] at cz
      exact fun y q=>⟨cs,⟨Y,nx,B,cz⟩,q.sub ⟨rfl,rfl,rfl,rfl,trivial⟩⟩
  · rintro cs g ⟨Y,nx,B,cz⟩
    have lcs:cs.length=4:=by rw [cz.1,pnL_len]
    have Yh:=(N1.hx.trans N2.hx).trans Y
    have C2:=N2.at_.hx Y
    have co:=czl_one cz
    refine WL.sr<|WOL.ld rfl (load_row tp1172 B (l:=cs) (by rw [List.drop_zero,← lcs,List.take_length]) (by omega))<|WOL.sto (vs:=cs) rfl rfl tp1172 C2 (by show cs.toArray.toList=cs;simp) lcs (Nat.le_of_ble_eq_true rfl) co (f.hx Yh) (by omega) fun g2 P2=>WOL.nil ?_
    have D:=P2.at_
    have es:splice [.complex .f64 0 0,.complex .f64 0 0,.complex .f64 0 0,.complex .f64 0 0] 0 cs=cs:=by
      unfold splice
      rw [List.take_zero,List.nil_append,lcs]
      simp
    rw [es] at D
    exact WL.ret (WL.endC rfl (load_row tp1172 D (l:=cs) (by rw [List.drop_zero,← lcs,List.take_length]) (by omega)) ⟨P2.hx _ Yh (by omega),cs,rfl,cz⟩)
end
end Go.Tidy
namespace Go.Tidy
open Go Go.Proofs Tab
variable {tp:TProg}
theorem bd205 {a b:Int}:buildT Tryz.prog 44 [(0,zi a),(1,zi b)]=some (.agg #[zi a,zi b]):=by kernel_rfl
theorem bd205r {a:Int}:buildT Tryz.prog 44 [(0,zi a)]=some (.agg #[zi a,zi 0]):=by kernel_rfl
theorem bd205i {a:Int}:buildT Tryz.prog 44 [(1,zi a)]=some (.agg #[zi 0,zi a]):=by kernel_rfl
theorem u1249:Tryz.prog.underlying 214=some (.slice 44):=by kernel_rfl
theorem filled_g4:filled 2 4 [.int .i64 0,.int .i64 0] [(0,.agg #[zi 1,zi 0]),(1,.agg #[zi 0,zi (-1)]),(2,.agg #[zi (-1),zi 0]),(3,.agg #[zi 0,zi 1])]=some [zi 1,zi 0,zi 0,zi (-1),zi (-1),zi 0,zi 0,zi 1]:=by
 simp [filled,zeros,Instr.fill,Value.cells]
 rfl
section
variable {h:TH} {a b c d:Int} {j:Nat}
set_option maxHeartbeats 2000000 in
theorem k1213 (H:Has tp) (h1:(a+c).natAbs≤4611686018427387904) (h2:(b+d).natAbs≤4611686018427387904) (f:Free0 h.next h):CallW Tryz.prog tp (.func (.func 96) #[] #[]) #[.agg #[zi a,zi b],.agg #[zi c,zi d]] h fun v h'=>v=.agg #[zi (a+c),zi (b+d)]∧HX h h':=by
 refine CallW.fnL (H.fn 96 f1213 rfl rfl) ?_
 refine WL.sr<|WOL.box rfl fun h1 N1=>WOL.box rfl fun h2 N2=>WOL.al tp205 fun h3 N3=>WOL.nil<|keep [(2,_),(3,_),(4,_)] ⟨rfl,rfl,rfl,trivial⟩ ?_
 have n1:=N1.next
 have n2:=N2.next
 have A2:At h3 h.next (.cells [zi a,zi b] true true 44):=(N1.at_.hx N2.hx).hx N3.hx
 have A3:At h3 h1.next (.cells [zi c,zi d] true true 44):=N2.at_.hx N3.hx
 have X3:=(N1.hx.trans N2.hx).trans N3.hx
 refine WL.sr<|WOL.fa rfl (fa_of fo205_0)<|WOL.ld rfl (load_one tp3 A2 rfl)<|WOL.fa rfl (fa_of fo205_0)<|WOL.ld rfl (load_one tp3 A3 rfl)<|WOL.add (m:=a) (n:=c) rfl rfl (by omega) (by omega)<|WOL.fa rfl (fa_of fo205_1)<|WOL.ld rfl (load_one tp3 A2 rfl)<|WOL.fa rfl (fa_of fo205_1)<|WOL.ld rfl (load_one tp3 A3 rfl)<|WOL.add (m:=b) (n:=d) rfl rfl (by omega) (by omega)<|WOL.bd rfl bd205<|WOL.sto (vs:=[zi (a+c),zi (b+d)]) rfl rfl tp205 N3.at_ rfl rfl (Nat.le_of_ble_eq_true rfl) rfl (f.hx X3) (by omega) fun h4 P4=>WOL.nil ?_
 exact WL.ret (WL.endC rfl (load_row tp205 P4.at_ rfl (Nat.le_of_ble_eq_true rfl)) ⟨rfl,P4.hx _ X3 (by omega)⟩)
set_option maxHeartbeats 2000000 in
theorem k1214 (H:Has tp) (m1:(a*c).natAbs≤1000000000000) (m2:(b*d).natAbs≤1000000000000) (m3:(a*d).natAbs≤1000000000000) (m4:(b*c).natAbs≤1000000000000) (f:Free0 h.next h):CallW Tryz.prog tp (.func (.func 97) #[] #[]) #[.agg #[zi a,zi b],.agg #[zi c,zi d]] h fun v h'=>v=.agg #[zi (a*c - b*d),zi (a*d+b*c)]∧HX h h':=by
 refine CallW.fnL (H.fn 97 f1214 rfl rfl) ?_
 refine WL.sr<|WOL.box rfl fun h1 N1=>WOL.box rfl fun h2 N2=>WOL.al tp205 fun h3 N3=>WOL.nil<|keep [(2,_),(3,_),(4,_)] ⟨rfl,rfl,rfl,trivial⟩ ?_
 have n1:=N1.next
 have n2:=N2.next
 have A2:At h3 h.next (.cells [zi a,zi b] true true 44):=(N1.at_.hx N2.hx).hx N3.hx
 have A3:At h3 h1.next (.cells [zi c,zi d] true true 44):=N2.at_.hx N3.hx
 have X3:=(N1.hx.trans N2.hx).trans N3.hx
 refine WL.sr<|WOL.fa rfl (fa_of fo205_0)<|WOL.ld rfl (load_one tp3 A2 rfl)<|WOL.fa rfl (fa_of fo205_0)<|WOL.ld rfl (load_one tp3 A3 rfl)<|WOL.mul (m:=a) (n:=c) rfl rfl (by omega) (by omega)<|WOL.fa rfl (fa_of fo205_1)<|WOL.ld rfl (load_one tp3 A2 rfl)<|WOL.fa rfl (fa_of fo205_1)<|WOL.ld rfl (load_one tp3 A3 rfl)<|WOL.mul (m:=b) (n:=d) rfl rfl (by omega) (by omega)<|WOL.sub (m:=a*c) (n:=b*d) rfl rfl (by omega) (by omega)<|WOL.fa rfl (fa_of fo205_0)<|WOL.ld rfl (load_one tp3 A2 rfl)<|WOL.fa rfl (fa_of fo205_1)<|WOL.ld rfl (load_one tp3 A3 rfl)<|WOL.mul (m:=a) (n:=d) rfl rfl (by omega) (by omega)<|WOL.fa rfl (fa_of fo205_1)<|WOL.ld rfl (load_one tp3 A2 rfl)<|WOL.fa rfl (fa_of fo205_0)<|WOL.ld rfl (load_one tp3 A3 rfl)<|WOL.mul (m:=b) (n:=c) rfl rfl (by omega) (by omega)<|WOL.add (m:=a*d) (n:=b*c) rfl rfl (by omega) (by omega)<|WOL.bd rfl bd205<|WOL.sto (vs:=[zi (a*c - b*d),zi (a*d+b*c)]) rfl rfl tp205 N3.at_ rfl rfl (Nat.le_of_ble_eq_true rfl) rfl (f.hx X3) (by omega) fun h4 P4=>WOL.nil ?_
 exact WL.ret (WL.endC rfl (load_row tp205 P4.at_ rfl (Nat.le_of_ble_eq_true rfl)) ⟨rfl,P4.hx _ X3 (by omega)⟩)
set_option maxHeartbeats 2000000 in
theorem k1215 (H:Has tp) (hj:j≤100000) (f:Free0 h.next h):CallW Tryz.prog tp (.func (.func 87) #[] #[]) #[zi (j:Nat)] h fun v h'=>v=.agg #[zi (tRe (3*j)),zi (tIm (3*j))]∧HX h h':=by
 refine CallW.fnL (H.fn 87 f1215 rfl rfl) ?_
 have h4:j % 4 < 4:=Nat.mod_lt _ (by decide)
 have em:((j:Nat):Int) % 4=((j % 4:Nat):Int):=(Int.natCast_emod j 4).symm
 refine WL.sr<|WOL.al tp205 fun h1 N1=>WOL.nil<|keep [(0,_),(2,_)] ⟨rfl,rfl,trivial⟩ ?_
 refine WL.sr<|WOL.bd rfl bd205r<|WOL.bd rfl bd205i<|WOL.bd rfl bd205r<|WOL.bd rfl bd205i<|WOL.bsl rfl u1249 tp205 (by decide) (by decide) (by decide) filled_g4 fun h2 N2=>WOL.mv rfl<|WOL.rem (m:=(j:Int)) (n:=4) rfl rfl (by omega) (by decide) ?_
 rw [em]
 have n1:=N1.next
 have n2:=N2.next
 have ld:∃ hv:Value,loadT Tryz.prog 44 (.pointer (some ⟨h1.next,0+j % 4*2,none⟩)) h2=some hv∧hv=.agg #[zi (tRe (3*j)),zi (tIm (3*j))]:=by
  have t3:(3*j) % 4=(3*(j % 4)) % 4:=by omega
  unfold tRe tIm
  rw [t3]
  generalize j % 4=k at h4
  obtain rfl | rfl | rfl | rfl:k=0∨k=1∨k=2∨k=3:=by omega
  ·exact ⟨_,load_row tp205 N2.at_ (l:=[zi 1,zi 0]) rfl (Nat.le_of_ble_eq_true rfl),rfl⟩
  ·exact ⟨_,load_row tp205 N2.at_ (l:=[zi 0,zi (-1)]) rfl (Nat.le_of_ble_eq_true rfl),rfl⟩
  ·exact ⟨_,load_row tp205 N2.at_ (l:=[zi (-1),zi 0]) rfl (Nat.le_of_ble_eq_true rfl),rfl⟩
  ·exact ⟨_,load_row tp205 N2.at_ (l:=[zi 0,zi 1]) rfl (Nat.le_of_ble_eq_true rfl),rfl⟩
 obtain ⟨hv,ld,rfl⟩:=ld
 refine WOL.ix rfl rfl (indexAddr_tp u1249 tp205 h4)<|WOL.ld rfl ld<|WOL.sto (vs:=[zi (tRe (3*j)),zi (tIm (3*j))]) rfl rfl tp205 (N1.at_.hx N2.hx) rfl rfl (Nat.le_of_ble_eq_true rfl) rfl (f.hx (N1.hx.trans N2.hx)) (Nat.le_refl _) fun h3 P3=>WOL.nil ?_
 exact WL.ret (WL.endC rfl (load_row tp205 P3.at_ rfl (Nat.le_of_ble_eq_true rfl)) ⟨rfl,P3.hx _ (N1.hx.trans N2.hx) (Nat.le_refl _)⟩)
end
end Go.Tidy
