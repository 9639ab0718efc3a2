/- A part of the proof. -/
import Derived.Test.YtmafhkcdhpkliaaGreatDoorPa4
import Derived.Test.YtmafhkcdhpkliaaGreatDoorPa2
import Derived.Test.YtmafhkcdhpkliaaGreatDoorPa1
import Derived.Test.YtmafhkcdhpkliaaGreatDoorProg
set_option linter.all false
namespace Go.Tidy
open Go Go.Proofs Tab
variable {tp:TProg}
theorem WO.fdiv {P:Program} {tp:TProg} {a:Regs} {h:TH} {K:Regs→TH→Prop} {rest:List TOper} {d:Option Tmp} {ty:TypeId} {i:Nat} {x y:Operand} {t u:TypeId} {k:FloatKind} {b c r:Nat} (hx:getO a x=some (.float k b)) (hy:getO a y=some (.float k c)) (hb:nanB k b=false) (hc:nanB k c=false) (hr:k.format.div b c=some r) (hn:nanB k r=false)
  (w:WO P tp rest (a.put d (.float k r)) h K):WO P tp (⟨d,.binOp .quo t x y u,ty,none,[],i⟩::rest) a h K:=by
 have ex:=getO_eval hx
 have ey:=getO_eval hy
 refine WO.plainly rfl rfl rfl (by simp [fastOp,fastBin,ex,ey,hb,hc]) rfl (plainOp_of (by rfl) (fun q hq=>?_) ?_ (plain_float hn)) w
 ·simp only [Op.operands] at hq
  simp at hq
  rcases hq with rfl | rfl
  ·rw [ex];exact plain_float hb
  ·rw [ey];exact plain_float hc
 ·simp [toOper,execOp,pv_bind,pv_map,pv_pure,ex,ey,eqGuard,binOp,Op.floatArith,hr]
def smp (n:Int):Nat:=(Ieee.single.div (FloatKind.f32.nearest n) 1098907648).getD 0
theorem smp_ok {n:Int} (hn:n.natAbs≤16384):Ieee.single.div (FloatKind.f32.nearest n) 1098907648=some (smp n)∧nanB .f32 (FloatKind.f32.nearest n)=false∧Samp (smp n) n:=by
 obtain ⟨r,h1,h2,h3⟩:=sample_of hn
 have:smp n=r:=by unfold smp;rw [h1];rfl
 rw [this]
 exact ⟨h1,h2,h3⟩
theorem k111 (H:Has tp) {b:Nat} {n:Int} (s:Samp b n) (h:TH):CallW Tryz.prog tp (.func (.func 110) #[] #[]) #[.float .f32 b] h fun v h'=>v=.int .i64 n∧h'=h:=by
 obtain ⟨c,h1,h2,h3,h4,h5⟩:=s.toInt
 refine CallW.full (H.fn 110 f111 rfl rfl) rfl ?_
 refine W.seq (W.reg (WO.as rfl (WO.nil ?_)))
 refine W.seq (W.reg (WO.mv rfl (WO.fmul rfl rfl (by decide) s.nan h1 h2 (WO.conv rfl (plain_float h2) (conv_f2i u25 u3 h3 h4 h5) rfl (WO.as rfl (WO.nil (W.ret ?_)))))))
 exact ⟨.inr rfl,_,rfl,rfl,rfl⟩
theorem k95 (H:Has tp) {b:Nat} {n:Int} (s:Samp b n) (h:TH):CallW Tryz.prog tp (.func (.func 54) #[] #[]) #[.float .f32 b] h fun v h'=>v=.int .i64 n∧h'=h:=by
 obtain ⟨c,h1,h2,h3,h4,h5⟩:=s.toInt
 refine CallW.full (H.fn 54 f95 rfl rfl) rfl ?_
 refine W.seq (W.reg (WO.as rfl (WO.nil ?_)))
 refine W.seq (W.reg (WO.mv rfl (WO.fmul rfl rfl (by decide) s.nan h1 h2 (WO.conv rfl (plain_float h2) (conv_f2i u25 u3 h3 h4 h5) rfl (WO.as rfl (WO.nil (W.ret ?_)))))))
 exact ⟨.inr rfl,_,rfl,rfl,rfl⟩
theorem k86 (H:Has tp) {n:Int} (hn:n.natAbs≤16384) (h:TH):CallW Tryz.prog tp (.func (.func 79) #[] #[]) #[.int .i64 n] h fun v h'=>v=.float .f32 (smp n)∧h'=h:=by
 obtain ⟨h1,h2,h3⟩:=smp_ok hn
 refine CallW.full (H.fn 79 f86 rfl rfl) rfl ?_
 refine W.seq (W.reg (WO.as rfl (WO.nil ?_)))
 refine W.seq (W.reg (WO.mv rfl (WO.conv rfl rfl (conv_i2f u3 u25) (plain_float h2) (WO.fdiv rfl rfl h2 (by decide) h1 h3.nan (WO.as rfl (WO.nil (W.ret ?_)))))))
 exact ⟨.inr rfl,_,rfl,rfl,rfl⟩
end Go.Tidy
namespace Go.Tidy
open Go Go.Proofs Tab
variable {tp:TProg}
def Lev (F:List Nat) (L:List Int):Prop:=F.length=L.length∧∀ (i b:Nat) (n:Int),F[i]?=some b→L[i]?=some n→Samp b n
def all1 (L:List Int):List (Int × Bool):=L.map fun n=>(n,true)
end Go.Tidy
namespace Go.Tidy
open Go Go.Proofs Tab
variable {tp:TProg}
def clrL (C:List (Int × Bool)) (p:Int × Int):List (Int × Bool):=C.take p.1.toNat ++ (List.replicate (p.2.toNat - p.1.toNat) (0,false) ++ C.drop p.2.toNat)
def cellsL (L:List Int) (S:List (Int × Int)):List (Int × Bool):=S.foldl clrL (all1 L)
def In (m:Nat) (S:List (Int × Int)):Prop:=∀ p,p ∈ S→0≤p.1∧p.1≤p.2∧p.2≤m
theorem clrL_len {C:List (Int × Bool)} {p:Int × Int} (h1:0≤p.1) (h2:p.1≤p.2) (h3:p.2≤C.length):(clrL C p).length=C.length:=by
 unfold clrL;simp;omega
theorem foldl_len {m:Nat}:∀ (S:List (Int × Int)) (C:List (Int × Bool)),C.length=m→In m S→(S.foldl clrL C).length=m
 | [],C,h,_=>h
 | p::S,C,h,hin=>by
  obtain ⟨h1,h2,h3⟩:=hin p (by simp)
  exact foldl_len S (clrL C p) (by rw [clrL_len h1 h2 (by omega)];exact h) fun q hq=>hin q (by simp [hq])
end Go.Tidy
namespace Go.Tidy
open Go Go.Proofs Tab
variable {tp:TProg}
def hstep (B:List Bool) (acc:List (Int × Int)) (i:Nat):List (Int × Int) :=
 if B.getD i false=true then acc
 else if 0 < i∧B.getD (i - 1) false=false then acc.set (acc.length - 1) ((acc.getD (acc.length - 1) (0,0)).1,(i:Int)+1)
 else acc ++ [((i:Int),(i:Int)+1)]
def holesN (B:List Bool):Nat→List (Int × Int)
 | 0=>[]
 | i+1=>hstep B (holesN B i) i
def holesOf (B:List Bool):List (Int × Int):=holesN B B.length
end Go.Tidy
namespace Go.Tidy
open Go Go.Proofs Tab
variable {tp:TProg}
def SErr (F:List Nat) (es:List Int):Prop:=F.length=es.length∧∀ (i b:Nat) (e:Int),F[i]?=some b→es[i]?=some e→SampleE b e
theorem serr_ex:∀ F:List Nat,∃ es,SErr F es
 | []=>⟨[],rfl,fun i b e h=>by simp at h⟩
 | b::F=>by
  obtain ⟨es,h1,h2⟩:=serr_ex F
  obtain ⟨e,he⟩:=sampleE_ex b
  refine ⟨e::es,by simp [h1],fun i b' e' hb he'=>?_⟩
  cases i with
  | zero=>simp at hb he';subst hb he';exact he
  | succ i=>exact h2 i b' e' (by simpa using hb) (by simpa using he')
theorem firstNZ_zero:∀ {l:List Int},firstNZ l=0→∀ x,x ∈ l→x=0
  | [],_,_,h=>by cases h
  | y::l,h,x,hx=>by
    unfold firstNZ at h
    by_cases hy:y=0
    · subst hy
      rcases List.mem_cons.1 hx with rfl | hx
      · rfl
      · exact firstNZ_zero (by simpa using h) x hx
    · have:(y != 0)=true:=by simpa using hy
      rw [this] at h
      exact absurd h hy
theorem firstNZ_skip (l m:List Int) (h:∀ x,x ∈ l→x=0):firstNZ (l ++ m)=firstNZ m:=by
 induction l with
 | nil=>rfl
 | cons x l ih =>
  have:x=0:=h x (by simp)
  subst this
  show firstNZ (l ++ m)=_
  exact ih fun y hy=>h y (by simp [hy])
theorem lev_ex:∀ (F:List Nat) (es:List Int),SErr F es→(∀ e,e ∈ es→e=0)→∃ L,Lev F L
 | [],_,_,_=>⟨[],rfl,fun i b n h=>by simp at h⟩
 | b::F,[],h,_=>by have:=h.1;simp at this
 | b::F,e::es,h,hz=>by
  obtain ⟨L,l1,l2⟩:=lev_ex F es ⟨by have:=h.1;simpa using this,fun i b e hb he=>h.2 (i+1) b e (by simpa using hb) (by simpa using he)⟩ (fun e he=>hz e (by simp [he]))
  have h0:=h.2 0 b e rfl rfl
  obtain rfl:e=0:=hz e (by simp)
  obtain ⟨n,hn⟩:=samp_of h0
  refine ⟨n::L,by simp [l1],fun i b' n' hb hn'=>?_⟩
  cases i with
  | zero=>simp at hb hn';subst hb hn';exact hn
  | succ i=>exact l2 i b' n' (by simpa using hb) (by simpa using hn')
theorem firstNZ_at {l:List Int} {i:Nat} {e:Int} (h:l[i]?=some e) (h0:∀ x,x ∈ l.take i→x=0) (he:e≠0):firstNZ l=e:=by
 have hlt:=(List.getElem?_eq_some_iff.1 h).1
 have hv:=(List.getElem?_eq_some_iff.1 h).2
 rw [← List.take_append_drop i l,firstNZ_skip _ _ h0,List.drop_eq_getElem_cons hlt,hv]
 unfold firstNZ
 have:(e != 0)=true:=by simpa using he
 rw [this];rfl
theorem firstNZ_all {l:List Int} (h0:∀ x,x ∈ l→x=0):firstNZ l=0:=by
 have:=firstNZ_skip l [] h0
 rwa [List.append_nil] at this
theorem take_more {l:List Int} {i:Nat} {e:Int} (h:l[i]?=some e) (h0:∀ x,x ∈ l.take i→x=0) (he:e=0):∀ x,x ∈ l.take (i+1)→x=0:=by
 have hlt:=(List.getElem?_eq_some_iff.1 h).1
 have hv:=(List.getElem?_eq_some_iff.1 h).2
 intro x hx
 rw [← List.take_append_getElem hlt,List.mem_append] at hx
 rcases hx with hx | hx
 ·exact h0 x hx
 ·simp only [List.mem_singleton] at hx
  rw [hx,hv,he]
theorem k144 (H:Has tp) (X:HasX tp) {v:Value} {F:List Nat} {es:List Int} {h:TH} (s:SlL encF 1 h v F) (hE:SErr F es) (hF:F.length≤1000000) :
  CallW Tryz.prog tp (.func (.func 85) #[] #[]) #[v,.func (.func 86) #[] #[]] h fun v' h'=>v'=.int .i64 (firstNZ es)∧h'=h:=by
 refine CallW.full (H.fn 85 f144 rfl rfl) rfl ?_
 refine W.seq (W.reg (WO.as rfl (WO.nil ?_)))
 refine W.seq (W.seq (W.reg (WO.mv rfl (WO.lenC rfl s u43 (WO.mv rfl (WO.nil ?_))))))
 refine W.block (W.loop (fun k a h2=>h2=h∧∃ i:Nat,i≤F.length∧k=F.length - i∧(∀ x,x ∈ es.take i→x=0)∧Full 21 a∧Tr.get a 1=some (.func (.func 86) #[] #[])∧Tr.get a 8=some v∧Tr.get a 9=some (.int .i64 F.length)∧Tr.get a 10=some (.int .i64 (i:Nat)))
  ?_ F.length _ _ ⟨rfl,0,by omega,by omega,by simp,(by repeat (first | with_reducible refine Full.put ?_ (by decide) _ | with_reducible refine Full.putn ?_ _ | with_reducible exact Full.of _ _ rfl | with_reducible exact Full.start _ _ (Nat.le_of_ble_eq_true rfl) | exact Full.start _ _ (Nat.le_of_ble_eq_true rfl))),rfl,rfl,rfl,rfl⟩)
 rintro k a h2 ⟨rfl,i,hi,rfl,hz,hf,i1,i8,i9,i10⟩
 (obtain ⟨rl0,hrl0,rfl⟩:=hf;obtain ⟨s0,s1,s2,s3,s4,s5,s6,s7,rl1,rfl,hrl1⟩:=cons8 hrl0;obtain ⟨s8,s9,s10,s11,s12,s13,s14,s15,rl2,rfl,hrl2⟩:=cons8 hrl1;obtain ⟨s16,rl3,rfl,hrl3⟩:=cons_of hrl2;obtain ⟨s17,rl4,rfl,hrl4⟩:=cons_of hrl3;obtain ⟨s18,rl5,rfl,hrl5⟩:=cons_of hrl4;obtain ⟨s19,rl6,rfl,hrl6⟩:=cons_of hrl5;obtain ⟨s20,rl7,rfl,hrl7⟩:=cons_of hrl6;obtain rfl:=nil_of hrl7;clear hrl0 hrl1 hrl2 hrl3 hrl4 hrl5 hrl6 hrl7;obtain rfl:s1=_:=Option.some.inj (show some s1=some _ from i1);clear i1;obtain rfl:s8=_:=Option.some.inj (show some s8=some _ from i8);clear i8;obtain rfl:s9=_:=Option.some.inj (show some s9=some _ from i9);clear i9;obtain rfl:s10=_:=Option.some.inj (show some s10=some _ from i10);clear i10)
 refine W.seq (W.reg (WO.bi rfl rfl rfl (WO.nil ?_)))
 by_cases hlt:i < F.length
 ·rw [show decide ((i:Int) < (F.length:Int))=true by simpa using hlt]
  refine W.seq (W.cd rfl (OnB.yes (W.skip ?_)))
  have hF1:F[i]?=some F[i]:=List.getElem?_eq_getElem hlt
  have hie:i < es.length:=by rw [← hE.1];exact hlt
  have hE1:es[i]?=some es[i]:=List.getElem?_eq_getElem hie
  obtain ⟨b,o,cc,fix,wr,el,e1,e2,e3,e4,e5⟩:=s.at eF u43 tp25 hF1 .i64
  refine W.seq (W.block (W.seq (W.reg (WO.ix rfl rfl e1 (WO.ld rfl (load_one tp25 e2 (e5 0 (by decide))) (WO.as rfl (WO.nil ?_)))))))
  refine W.seq (W.reg (WO.mv rfl (WO.mv rfl (WO.cl1 rfl rfl ((k21 H X (hE.2 i _ _ hF1 hE1) h2).mono ?_)))))
  rintro v3 h3 ⟨rfl,rfl⟩
  refine WO.as rfl (WO.nil ?_)
  refine W.seq (W.reg (WO.mv rfl (WO.bi rfl rfl rfl (WO.nil ?_))))
  generalize es[i]=e at hE1
  by_cases he:e=0
  ·rw [show (e != 0)=false by simpa using he]
   refine W.cd rfl (OnB.no (W.skip ?_))
   refine W.reg (WO.bi rfl rfl rfl (WO.mv rfl (WO.nil ?_)))
   refine ⟨F.length - (i+1),by omega,rfl,i+1,by omega,rfl,take_more hE1 hz he,(by repeat (first | with_reducible refine Full.put ?_ (by decide) _ | with_reducible refine Full.putn ?_ _ | with_reducible exact Full.of _ _ rfl | with_reducible exact Full.start _ _ (Nat.le_of_ble_eq_true rfl) | exact Full.start _ _ (Nat.le_of_ble_eq_true rfl))),rfl,rfl,rfl,?_⟩
   show some (Value.int .i64 (fwrap .i64 ((i:Int)+1)))=_
   rw [fwrap_i64 (by omega) (by omega)]
   rfl
  ·rw [show (e != 0)=true by simpa using he]
   refine W.cd rfl (OnB.yes (W.seq (W.reg (WO.mv rfl (WO.as rfl (WO.nil (W.ret ?_)))))))
   exact ⟨.inr rfl,_,rfl,by rw [firstNZ_at hE1 hz he];rfl,rfl⟩
 ·rw [show decide ((i:Int) < (F.length:Int))=false by simpa using hlt]
  refine W.seq (W.cd rfl (OnB.no (W.exit ?_)))
  obtain rfl:i=F.length:=by omega
  refine W.seq (W.reg (WO.as rfl (WO.nil (W.ret ?_))))
  rw [hE.1,List.take_length] at hz
  exact ⟨.inr rfl,_,rfl,by rw [firstNZ_all hz];rfl,rfl⟩
end Go.Tidy
namespace Go.Tidy
open Go Go.Proofs Tab
variable {tp:TProg}
def badS (m:Nat) (p:Int × Int):Bool:=decide (p.1 < 0) || (decide (p.2≤p.1) || decide ((m:Int) < p.2))
def holeE (m:Nat):Int→List (Int × Int)→Int
 | _,[]=>0
 | prev,p::r=>cond (badS m p) 14 (cond (decide (p.1≤prev)) 11 (holeE m p.2 r))
theorem holeE_cons (m:Nat) (prev:Int) (p:Int × Int) (r:List (Int × Int)):holeE m prev (p::r)=cond (badS m p) 14 (cond (decide (p.1≤prev)) 11 (holeE m p.2 r)):=rfl
theorem holeE_in {m:Nat}:∀ {S:List (Int × Int)} {prev:Int},holeE m prev S=0→In m S
  | [],_,_=>fun p hp=>by cases hp
  | p::r,prev,h=>by
    unfold holeE at h
    cases hb:badS m p with
    | true=>rw [hb] at h;cases h
    | false =>
      rw [hb] at h
      cases hc:decide (p.1≤prev) with
      | true=>rw [hc] at h;cases h
      | false =>
        rw [hc] at h
        have ih:=holeE_in (S:=r) h
        unfold badS at hb
        simp only [Bool.or_eq_false_iff,decide_eq_false_iff_not] at hb
        intro q hq
        rcases List.mem_cons.1 hq with rfl | hq
        · omega
        · exact ih q hq
end Go.Tidy
namespace Go.Tidy
open Go Go.Proofs Tab
variable {tp:TProg}
def anyIn (L:List Int) (p:Int × Int):Bool:=((L.drop p.1.toNat).take (p.2.toNat - p.1.toNat)).any (· != 0)
def formE (L:List Int) (S:List (Int × Int)):Int:=cond (S.any (anyIn L)) 1 0
end Go.Tidy
namespace Go.Tidy
open Go Go.Proofs Tab
variable {tp:TProg}
theorem Lev.part {F:List Nat} {L:List Int} (h:Lev F L) (lo k:Nat):Lev ((F.drop lo).take k) ((L.drop lo).take k):=by
 refine ⟨by simp [h.1],fun i b n hb hn=>?_⟩
 by_cases hi:i < k
 ·rw [List.getElem?_take_of_lt hi,List.getElem?_drop] at hb hn
  exact h.2 _ b n hb hn
 ·rw [List.getElem?_eq_none (by simp;omega)] at hb
  cases hb
theorem Lev.get {F:List Nat} {L:List Int} (h:Lev F L) {i:Nat} {b:Nat} (hb:F[i]?=some b):∃ n,L[i]?=some n∧Samp b n:=by
 have hlt:=(List.getElem?_eq_some_iff.1 hb).1
 have:i < L.length:=by rw [← h.1];exact hlt
 exact ⟨L[i],List.getElem?_eq_getElem this,h.2 i b _ hb (List.getElem?_eq_getElem this)⟩
theorem holeE_lt {m:Nat}:∀ {S:List (Int × Int)} {prev:Int},holeE m prev S=0→∀ p,p ∈ S→p.1 < p.2
  | [],_,_=>fun p hp=>by cases hp
  | p::r,prev,h=>by
    rw [holeE_cons] at h
    cases hb:badS m p with
    | true=>rw [hb] at h;cases h
    | false =>
      rw [hb] at h
      cases hc:decide (p.1≤prev) with
      | true=>rw [hc] at h;cases h
      | false =>
        rw [hc] at h
        have ih:=holeE_lt (S:=r) h
        unfold badS at hb
        simp only [Bool.or_eq_false_iff,decide_eq_false_iff_not] at hb
        intro q hq
        rcases List.mem_cons.1 hq with rfl | hq
        · omega
        · exact ih q hq
end Go.Tidy
namespace Go.Tidy
open Go Go.Proofs Tab
variable {tp:TProg}
def headE (s:ByteArray) (n:Int) (m:Nat):Int:=firstNZ [cond (!nameB s) 8 0,outB n 0 100000000,cond (decide ((m:Int) > 4096)) 5 0]
def tailE (m:Nat) (S:List (Int × Int)) (L:List Int):Int:=cond (holeE m (-1) S != 0) (holeE m (-1) S) (formE L S)
def runE (s:ByteArray) (n:Int) (m:Nat) (S:List (Int × Int)) (es L:List Int):Int :=
 cond (headE s n m != 0) (headE s n m) (firstNZ [firstNZ es,cond (decide (n+m > 100000000)) 4 0,tailE m S L])
theorem headE_zero {s:ByteArray} {n:Int} {m:Nat} (h:headE s n m=0):nameB s=true∧0≤n∧n≤100000000∧m≤4096:=by
  have hz:=firstNZ_zero h
  have h1:=hz _ (List.mem_cons_self ..)
  have h2:=hz (outB n 0 100000000) (by simp)
  have h3:=hz (cond (decide ((m:Int) > 4096)) 5 0) (by simp)
  refine ⟨?_,?_⟩
  · cases hb:nameB s with
    | true=>rfl
    | false=>rw [hb] at h1;cases h1
  · unfold outB at h2
    by_cases a1:n < 0
    · rw [decide_eq_true a1] at h2;cases h2
    · by_cases a2:n > 100000000
      · rw [decide_eq_true a2,Bool.or_true] at h2;cases h2
      · by_cases a3:(m:Int) > 4096
        · rw [decide_eq_true a3] at h3;cases h3
        · omega
end Go.Tidy
namespace Go.Tidy
open Go Go.Proofs Tab
variable {tp:TProg}
def inS (x:Int) (p:Int × Int):Bool:=decide (x ≥ p.1) && decide (x < p.2)
def knownB (S:List (Int × Int)) (x:Int):Bool:=!S.any (inS x)
end Go.Tidy
namespace Go.Tidy
open Go Go.Proofs Tab
variable {tp:TProg}
theorem anyIn_iff {L:List Int} {p:Int × Int} (h1:0≤p.1) (h2:p.1≤p.2):anyIn L p=true ↔ ∃ (j:Nat) (x:Int),L[j]?=some x∧x≠0∧inS j p=true:=by
 unfold anyIn
 rw [List.any_eq_true]
 constructor
 ·rintro ⟨x,hx,h0⟩
  obtain ⟨k,hk⟩:=List.mem_iff_getElem?.1 hx
  have hlt:k < p.2.toNat - p.1.toNat:=by
   have:=(List.getElem?_eq_some_iff.1 hk).1
   simp at this
   omega
  rw [List.getElem?_take_of_lt hlt,List.getElem?_drop] at hk
  refine ⟨p.1.toNat+k,x,hk,by simpa using h0,?_⟩
  unfold inS
  rw [decide_eq_true (by omega),decide_eq_true (by omega)];rfl
 ·rintro ⟨j,x,hj,h0,hin⟩
  unfold inS at hin
  simp only [Bool.and_eq_true,decide_eq_true_eq] at hin
  refine ⟨x,List.mem_iff_getElem?.2 ⟨j - p.1.toNat,?_⟩,by simpa using h0⟩
  rw [List.getElem?_take_of_lt (by omega),List.getElem?_drop,show p.1.toNat+(j - p.1.toNat)=j by omega]
  exact hj
theorem form_iff {L:List Int} {S:List (Int × Int)} {m:Nat} (hin:In m S):S.any (anyIn L)=true ↔ ∃ (j:Nat) (x:Int),L[j]?=some x∧x≠0∧knownB S j=false:=by
 rw [List.any_eq_true]
 constructor
 ·rintro ⟨p,hp,ha⟩
  obtain ⟨g1,g2,g3⟩:=hin p hp
  obtain ⟨j,x,hj,h0,hk⟩:=(anyIn_iff g1 g2).1 ha
  refine ⟨j,x,hj,h0,?_⟩
  unfold knownB
  rw [List.any_eq_true.2 ⟨p,hp,hk⟩];rfl
 ·rintro ⟨j,x,hj,h0,hk⟩
  unfold knownB at hk
  have hk:S.any (inS j)=true:=by simpa using hk
  obtain ⟨p,hp,hpj⟩:=List.any_eq_true.1 hk
  obtain ⟨g1,g2,g3⟩:=hin p hp
  exact ⟨p,hp,(anyIn_iff g1 g2).2 ⟨j,x,hj,h0,hpj⟩⟩
theorem nz_cases (a:Int):a=0∨(a != 0)=true:=by
 by_cases h:a=0
 ·exact .inl h
 ·exact .inr (by simpa using h)
end Go.Tidy
namespace Go.Tidy
open Go Go.Proofs Tab
variable {tp:TProg}
def knownL (S:List (Int × Int)) (m:Nat):List Bool:=(List.range m).map fun (i:Nat)=>knownB S (i:Int)
theorem knownL_len (S:List (Int × Int)) (m:Nat):(knownL S m).length=m:=by simp [knownL]
end Go.Tidy
namespace Go.Tidy
open Go Go.Proofs Tab
variable {tp:TProg}
def cellsK (L:List Int) (K:List Bool):List (Int × Bool):=List.zipWith (fun l k=>if k=true then (l,true) else (0,false)) L K
def madeF (L:List Int) (K:List Bool):List Nat:=(cellsK L K).map fun c=>smp c.1
theorem take_succ_get {α:Type} {l:List α} {i:Nat} {x:α} (h:l[i]?=some x):l.take (i+1)=l.take i ++ [x]:=by
 have h1:=(List.getElem?_eq_some_iff.1 h).1
 have h2:=(List.getElem?_eq_some_iff.1 h).2
 rw [← List.take_append_getElem h1,h2]
end Go.Tidy
namespace Go.Tidy
open Go Go.Proofs Tab
variable {tp:TProg}
def knownV (C:List (Int × Bool)):List Int:=(C.filter (·.2)).map (·.1)
structure Valid (s:ByteArray) (n:Int) (F:List Nat) (S:List (Int × Int)) (L:List Int):Prop where
 lev:Lev F L
 n0:0≤n
 n1:n+F.length≤100000000
 m:F.length≤4096
 hole:holeE F.length (-1) S=0
 form:S.any (anyIn L)=false
theorem valid_of {s:ByteArray} {n:Int} {F:List Nat} {S:List (Int × Int)} {es L:List Int} (hL:firstNZ es=0→Lev F L) (h:runE s n F.length S es L=0):Valid s n F S L:=by
 unfold runE at h
 rcases nz_cases (headE s n F.length) with h1 | h1
 ·rw [h1] at h
  have h:firstNZ [firstNZ es,cond (decide (n+F.length > 100000000)) 4 0,tailE F.length S L]=0:=h
  obtain ⟨_,n0,n1,hm⟩:=headE_zero h1
  have e0:=firstNZ_zero h (firstNZ es) (by simp)
  have e1:=firstNZ_zero h (cond (decide (n+F.length > 100000000)) 4 0) (by simp)
  have e2:=firstNZ_zero h (tailE F.length S L) (by simp)
  have e3:holeE F.length (-1) S=0:=by
   rcases nz_cases (holeE F.length (-1) S) with h2 | h2
   ·exact h2
   ·unfold tailE at e2;rw [h2] at e2;exact e2
  refine ⟨hL e0,n0,?_,hm,e3,?_⟩
  ·by_cases hc:n+F.length > 100000000
   ·rw [decide_eq_true hc] at e1;cases e1
   ·omega
  ·unfold tailE at e2
   rw [e3] at e2
   cases hf:S.any (anyIn L) with
   | false=>rfl
   | true=>unfold formE at e2;rw [hf] at e2;cases e2
 ·rw [h1] at h
  have:headE s n F.length=0:=h
  rw [this] at h1;cases h1
theorem Valid.in_ {s:ByteArray} {n:Int} {F:List Nat} {S:List (Int × Int)} {L:List Int} (v:Valid s n F S L):In F.length S:=holeE_in v.hole
end Go.Tidy
namespace Go.Tidy
open Go Go.Proofs Tab
variable {tp:TProg}
theorem lev_lim {F:List Nat} {L:List Int} (h:Lev F L):∀ x,x ∈ L→x.natAbs≤16384:=fun x hx=>by
 obtain ⟨i,hi⟩:=List.mem_iff_getElem?.1 hx
 have hlt:=(List.getElem?_eq_some_iff.1 hi).1
 have:i < F.length:=by rw [h.1];exact hlt
 exact (h.2 i _ x (List.getElem?_eq_getElem this) hi).lim
theorem clr_lim {C:List (Int × Bool)} {p:Int × Int} (h:∀ c,c ∈ C→c.1.natAbs≤16384):∀ c,c ∈ clrL C p→c.1.natAbs≤16384:=fun c hc=>by
 unfold clrL at hc
 rcases List.mem_append.1 hc with hc | hc
 ·exact h c (List.mem_of_mem_take hc)
 ·rcases List.mem_append.1 hc with hc | hc
  ·rw [(List.mem_replicate.1 hc).2];decide
  ·exact h c (List.mem_of_mem_drop hc)
theorem foldl_lim:∀ (S:List (Int × Int)) (C:List (Int × Bool)),(∀ c,c ∈ C→c.1.natAbs≤16384)→∀ c,c ∈ S.foldl clrL C→c.1.natAbs≤16384
 | [],_,h=>h
 | p::S,C,h=>foldl_lim S (clrL C p) (clr_lim h)
theorem cells_lim {F:List Nat} {L:List Int} (h:Lev F L) (S:List (Int × Int)):∀ c,c ∈ cellsL L S→c.1.natAbs≤16384 :=
 foldl_lim S _ fun c hc=>by
  obtain ⟨x,hx,rfl⟩:=List.mem_map.1 hc
  exact lev_lim h x hx
theorem cells_len {F:List Nat} {L:List Int} {S:List (Int × Int)} (h:Lev F L) (hin:In F.length S):(cellsL L S).length=F.length:=foldl_len S _ (by simp [all1,h.1]) hin
def sumL:List Int→Int
 | []=>0
 | x::l=>x+sumL l
end Go.Tidy
namespace Go.Tidy
open Go Go.Proofs Tab
variable {tp:TProg}
theorem clr_get {C:List (Int × Bool)} {p:Int × Int} (h1:0≤p.1) (h2:p.1≤p.2) (h3:p.2≤C.length) {i:Nat} (hi:i < C.length):(clrL C p)[i]?=if inS i p=true then some (0,false) else C[i]?:=by
 unfold clrL inS
 by_cases a1:i < p.1.toNat
 ·rw [List.getElem?_append_left (by simp;omega),List.getElem?_take_of_lt a1,if_neg (by simp;omega)]
 ·have e1:(C.take p.1.toNat).length=p.1.toNat:=by simp;omega
  rw [List.getElem?_append_right (by omega),e1]
  by_cases a2:i < p.2.toNat
  ·rw [List.getElem?_append_left (by simp;omega),List.getElem?_replicate,if_pos (by omega),if_pos (by simp;omega)]
  ·rw [List.getElem?_append_right (by simp;omega),List.getElem?_drop,if_neg (by simp;omega),List.length_replicate]
   congr 1
   omega
theorem foldl_get {m:Nat}:∀ (S:List (Int × Int)) (C:List (Int × Bool)),C.length=m→In m S→∀ i:Nat,i < m→(S.foldl clrL C)[i]?=if knownB S i=true then C[i]? else some (0,false)
 | [],C,hC,_,i,hi=>by simp [knownB]
 | p::S,C,hC,hin,i,hi=>by
  obtain ⟨h1,h2,h3⟩:=hin p (by simp)
  have hl:=clrL_len h1 h2 (show p.2≤C.length by omega)
  rw [List.foldl_cons,foldl_get S (clrL C p) (by rw [hl];exact hC) (fun q hq=>hin q (by simp [hq])) i hi,clr_get h1 h2 (by omega) (by omega)]
  unfold knownB
  rw [List.any_cons]
  cases inS i p <;> cases S.any (inS i) <;> simp
theorem cells_eq {F:List Nat} {L:List Int} {S:List (Int × Int)} (hL:Lev F L) (hin:In F.length S):cellsL L S=cellsK L (knownL S F.length):=by
 apply List.ext_getElem?
 intro i
 by_cases hi:i < F.length
 ·have hiL:i < L.length:=by rw [← hL.1];exact hi
  unfold cellsL
  rw [foldl_get S _ (by simp [all1,hL.1]) hin i hi]
  unfold cellsK knownL all1
  rw [List.getElem?_zipWith,List.getElem?_map,List.getElem?_map,List.getElem?_range hi,List.getElem?_eq_getElem hiL]
  cases hk:knownB S i <;> simp [hk]
 ·rw [List.getElem?_eq_none (by rw [cells_len hL hin];omega),List.getElem?_eq_none (by have:=hL.1;simp [cellsK,knownL];omega)]
def Dark (L:List Int) (K:List Bool):Prop:=L.length=K.length∧∀ (i:Nat) (x:Int),L[i]?=some x→K[i]?=some false→x=0
theorem Valid.dark {s:ByteArray} {n:Int} {F:List Nat} {S:List (Int × Int)} {L:List Int} (v:Valid s n F S L):Dark L (knownL S F.length):=by
 refine ⟨by rw [knownL_len,v.lev.1],fun i x hx hk=>?_⟩
 have hi:i < F.length:=by rw [v.lev.1];exact (List.getElem?_eq_some_iff.1 hx).1
 unfold knownL at hk
 rw [List.getElem?_map,List.getElem?_range hi] at hk
 have hk:knownB S i=false:=by simpa using hk
 by_cases h0:x=0
 ·exact h0
 ·have:=(form_iff v.in_).2 ⟨i,x,hx,h0,hk⟩
  rw [v.form] at this;cases this
theorem Dark.tail {l:Int} {k:Bool} {L:List Int} {K:List Bool} (d:Dark (l::L) (k::K)):Dark L K∧(k=false→l=0) :=
 ⟨⟨by have:=d.1;simpa using this,fun i x h1 h2=>d.2 (i+1) x (by simpa using h1) (by simpa using h2)⟩,fun hk=>d.2 0 l rfl (by rw [hk];rfl)⟩
theorem cellsK_cons (l:Int) (k:Bool) (L:List Int) (K:List Bool):cellsK (l::L) (k::K)=(if k=true then (l,true) else (0,false))::cellsK L K:=rfl
theorem dark_sum:∀ {L:List Int} {K:List Bool},Dark L K→sumL (knownV (cellsK L K))=sumL L
  | [],K,d=>by
    have:K=[]:=List.eq_nil_of_length_eq_zero d.1.symm
    subst this;rfl
  | l::L,[],d=>by have:=d.1;simp at this
  | l::L,k::K,d=>by
    obtain ⟨d1,d2⟩:=d.tail
    have ih:=dark_sum d1
    rw [cellsK_cons]
    cases k with
    | true=>simp only [knownV,List.filter_cons,List.map_cons,sumL,if_true] at ih ⊢;rw [ih]
    | false =>
      rw [d2 rfl]
      simp only [knownV,List.filter_cons,List.map_cons,sumL] at ih ⊢
      simpa using ih
end Go.Tidy
namespace Go.Tidy
open Go Go.Proofs Tab
variable {tp:TProg}
theorem tp24:Tp Tryz.prog 52 2 [.int .i64 0,.int .i64 0] true:=tp_of (by kernel_rfl) (by kernel_rfl) rfl
theorem bd24 {n m:Int}:buildT Tryz.prog 52 [(0,.int .i64 n),(1,.int .i64 m)]=some (.agg #[.int .i64 n,.int .i64 m]):=by kernel_rfl
theorem WO.quoI {P:Program} {a:Regs} {h:TH} {K:Regs→TH→Prop} {rest:List TOper} {d:Option Tmp} {ty:TypeId} {i:Nat} {x y:Operand} {t u:TypeId} {m n:Int} (hx:getO a x=some (.int .i64 m)) (hy:getO a y=some (.int .i64 n)) (hn:n≠0)
  (w:WO P tp rest (a.put d (.int .i64 (fwrap .i64 (m.tdiv n)))) h K):WO P tp (⟨d,.binOp .quo t x y u,ty,none,[],i⟩::rest) a h K:=by
 refine WO.bi hx hy ?_ w
 have hk:Nat.beq (kindNo .i64) (kindNo .i64)=true:=Nat.beq_refl _
 have hb:(n == 0)=false:=by simpa using hn
 simp only [fastBin,hk,fastInt,hb,Bool.cond_true,Bool.cond_false]
end Go.Tidy
namespace Go.Tidy
open Go Go.Proofs Tab
variable {tp:TProg}
def Swapped {α:Type} (C D:List α) (i:Nat):Prop:=D.length=C.length∧∀ x,x < C.length→D[x]?=if x < i∨C.length≤x+i then C[C.length - 1 - x]? else C[x]?
theorem Swapped.zero {α:Type} (C:List α):Swapped C C 0:=⟨rfl,fun x hx=>by rw [if_neg (by omega)]⟩
theorem Swapped.step {α:Type} {C D:List α} {i:Nat} (s:Swapped C D i) (hi:i+i+1 < C.length) {x y:α} (hx:D[i]?=some x) (hy:D[C.length - 1 - i]?=some y):Swapped C ((D.set i y).set (C.length - 1 - i) x) (i+1):=by
 have e1:=s.2 i (by omega)
 have e2:=s.2 (C.length - 1 - i) (by omega)
 rw [if_neg (by omega),hx] at e1
 rw [if_neg (by omega),hy] at e2
 refine ⟨by rw [List.length_set,List.length_set,s.1],fun z hz=>?_⟩
 by_cases h1:z=C.length - 1 - i
 ·subst h1
  rw [List.getElem?_set_self (by rw [List.length_set,s.1];exact hz),if_pos (by omega),show C.length - 1 - (C.length - 1 - i)=i by omega]
  exact e1
 ·rw [List.getElem?_set_ne (by omega)]
  by_cases h2:z=i
  ·subst h2
   rw [List.getElem?_set_self (by rw [s.1];exact hz),if_pos (by omega)]
   exact e2
  ·rw [List.getElem?_set_ne (by omega),s.2 z hz]
   by_cases h3:z < i∨C.length≤z+i
   ·rw [if_pos h3,if_pos (by omega)]
   ·rw [if_neg h3,if_neg (by omega)]
theorem Swapped.done {α:Type} {C D:List α} {i:Nat} (s:Swapped C D i) (hi:C.length≤i+i+1):D=C.reverse:=by
 apply List.ext_getElem?
 intro x
 by_cases hx:x < C.length
 ·rw [s.2 x hx,List.getElem?_reverse hx]
  by_cases h:x < i∨C.length≤x+i
  ·rw [if_pos h]
  ·rw [if_neg h];congr 1;omega
 ·rw [List.getElem?_eq_none (by rw [s.1];omega),List.getElem?_eq_none (by simp;omega)]
end Go.Tidy
namespace Go.Tidy
open Go Go.Proofs Tab
variable {tp:TProg}
def run0:Value:=runV ⟨#[]⟩ 0 (.slice none 0 0) (.slice none 0 0)
def RunR (h h':TH) (v:Value) (s:ByteArray) (n:Int) (C:List (Int × Bool)) (e:Int):Prop :=
 HX h h'∧((e≠0∧v=.tuple #[run0,.int .i64 e])∨(e=0∧∃ w1 w2,v=.tuple #[runV s n w1 w2,.int .i64 0]∧RunO h.next h' w1 w2 (C.map fun c=>smp c.1) (holesOf (C.map fun c=>c.2))))
end Go.Tidy
namespace Go.Tidy
open Go Go.Proofs Tab
variable {tp:TProg}
theorem cellsK_snd:∀ {L:List Int} {K:List Bool},K.length=L.length→(cellsK L K).map (fun c=>c.2)=K
 | [],[],_=>rfl
 | [],_::_,h=>by simp at h
 | _::_,[],h=>by simp at h
 | l::L,k::K,h=>by
  rw [cellsK_cons,List.map_cons,cellsK_snd (by simpa using h)]
  cases k <;> rfl
theorem OwnL.some {α:Type} {enc:α→List Value} {n0:Nat} {h:TH} {v:Value} {e:TypeId} {l:List α} (o:OwnL enc n0 h v e l) (hl:0 < l.length):∃ b,v=.slice (Option.some ⟨b,0,none⟩) l.length l.length∧n0≤b∧At h b (.cells (cat enc l) false true e):=by
 rcases o with ⟨_,rfl⟩ | ⟨_,h⟩
 ·simp at hl
 ·exact h
end Go.Tidy
namespace Go.Tidy
open Go Go.Proofs Tab
variable {tp:TProg}
def okI (n:Int):Bool:=decide (-16384≤n) && decide (n≤16384)
theorem okI_iff {n:Int}:okI n=true ↔ n.natAbs≤16384:=by simp [okI];omega
theorem k147 (H:Has tp) (n:Int) (h:TH):CallW Tryz.prog tp (.func (.func 161) #[] #[]) #[.int .i64 n] h fun v h'=>v=.bool (okI n)∧h'=h:=by
 refine CallW.fnL (H.fn 161 f147 rfl rfl) ?_
 refine WL.sr<|WOL.as rfl<|WOL.nil<|keep [(0,_)] ⟨rfl,trivial⟩ ?_
 refine WL.sr<|WOL.mv rfl<|WOL.bi (v:=.bool (decide (-16384≤n))) rfl rfl rfl ?_
 cases hn:decide (-16384≤n) with
 | true =>
  refine WOL.mv rfl<|WOL.now (b:=true) rfl rfl<|WOL.mv rfl<|WOL.now (b:=true) rfl rfl<|WOL.bi rfl rfl rfl<|WOL.pkt rfl rfl<|WOL.as rfl<|WOL.nil<|keep [(2,_)] ⟨rfl,trivial⟩ ?_
  exact WL.ret (WL.end_ rfl ⟨by show Value.bool (decide (n≤16384))=_;rw [okI,hn];rfl,rfl⟩)
 | false =>
  refine WOL.mv rfl<|WOL.skp (b:=false) rfl rfl<|WOL.skp (b:=false) rfl rfl<|WOL.pkf rfl rfl<|WOL.as rfl<|WOL.nil<|keep [(2,_)] ⟨rfl,trivial⟩ ?_
  exact WL.ret (WL.end_ rfl ⟨by rw [okI,hn];rfl,rfl⟩)
end Go.Tidy
namespace Go.Tidy
open Go Go.Proofs Tab
variable {tp:TProg}
section rules
variable {P:Program} {tp:TProg} {h:TH} {K:Regs→TH→Prop} {rest:List TOper} {d:Option Tmp} {ty:TypeId} {i:Nat} {x y:Operand} {t u:TypeId} {L:Rg}
theorem CallW.fnC {k:Nat} {fn:TFun} {args cap:Array Value} {V:Value→TH→Prop} (hk:tp.fn k=some fn)
  (w:∀ a,Kn (argL 0 (args ++ cap).toList) a→W P tp false fn.body a h (Fin P fn.results V)):CallW P tp (.func (.func k) #[] cap) args h V:=by
 have w':=w (Regs.ofList (args ++ cap).toList 0 .nil) (ofList_kn _ _ _)
 unfold W at w'
 obtain ⟨n,x,a',h',e,q⟩:=w'
 obtain ⟨hx,vs,hv,q⟩:=q.out
 unfold CallW
 refine ⟨n,_,h',fun m hm=>?_,q⟩
 rcases hx with rfl | rfl
 ·simp only [callT,hk,Array.empty_append,e m hm,hv,Option.map_some]
 ·simp only [callT,hk,Array.empty_append,e m hm,hv,Option.map_some]
def opsL (L:Rg):List Operand→Option (List Value)
 | []=>some []
 | x::r=>match getL L x,opsL L r with | some v,some l=>some (v::l) | _,_=>none
theorem opsL_o {a:Regs} (k:Kn L a):∀ {xs:List Operand} {l:List Value},opsL L xs=some l→xs.map a.eval=l
  | [],l,h=>by simp only [opsL,Option.some.injEq] at h;subst h;rfl
  | x::r,l,h=>by
    simp only [opsL] at h
    split at h
    · rename_i v l' h1 h2
      simp only [Option.some.injEq] at h
      subst h
      simp only [List.map_cons,getO_eval (k.o h1),opsL_o k h2]
    · cases h
theorem WOL.mf {f:Nat} {cap:Array Operand} {vs:List Value} (hc:opsL L cap.toList=some vs) (w:∀ a,Kn (putL L d (.func (.func f) #[] vs.toArray)) a→WO P tp rest a h K):∀ a,Kn L a→WO P tp (⟨d,.makeFunc (.func f) #[] cap,ty,none,[],i⟩::rest) a h K:=fun a k=>by
 have e:=opsL_o k hc
 have e':cap.map a.eval=vs.toArray:=by apply Array.ext';simpa using e
 refine WO.op rfl rfl (fun call=>?_) (w _ (k.put d _))
 simp only [stepOp,heapFirst,fastOp,valueOp,Bool.cond_false,e',List.map_toArray,List.map_nil]
theorem WOL.add {m n:Int} (hx:getL L x=some (.int .i64 m)) (hy:getL L y=some (.int .i64 n)) (h1:-9223372036854775808≤m+n) (h2:m+n≤9223372036854775807) (w:∀ a,Kn (putL L d (.int .i64 (m+n))) a→WO P tp rest a h K):∀ a,Kn L a→WO P tp (⟨d,.binOp .add t x y u,ty,none,[],i⟩::rest) a h K :=
 WOL.bi hx hy (by show some (Value.int .i64 (fwrap .i64 (m+n)))=_;rw [fwrap_i64 h1 h2]) w
theorem WOL.sub {m n:Int} (hx:getL L x=some (.int .i64 m)) (hy:getL L y=some (.int .i64 n)) (h1:-9223372036854775808≤m - n) (h2:m - n≤9223372036854775807) (w:∀ a,Kn (putL L d (.int .i64 (m - n))) a→WO P tp rest a h K):∀ a,Kn L a→WO P tp (⟨d,.binOp .sub t x y u,ty,none,[],i⟩::rest) a h K :=
 WOL.bi hx hy (by show some (Value.int .i64 (fwrap .i64 (m - n)))=_;rw [fwrap_i64 h1 h2]) w
theorem WOL.mul {m n:Int} (hx:getL L x=some (.int .i64 m)) (hy:getL L y=some (.int .i64 n)) (h1:-9223372036854775808≤m*n) (h2:m*n≤9223372036854775807) (w:∀ a,Kn (putL L d (.int .i64 (m*n))) a→WO P tp rest a h K):∀ a,Kn L a→WO P tp (⟨d,.binOp .mul t x y u,ty,none,[],i⟩::rest) a h K :=
 WOL.bi hx hy (by show some (Value.int .i64 (fwrap .i64 (m*n)))=_;rw [fwrap_i64 h1 h2]) w
theorem WOL.quo {m n:Int} (hx:getL L x=some (.int .i64 m)) (hy:getL L y=some (.int .i64 n)) (hm:0≤m) (hn:0 < n) (h2:m≤9223372036854775807) (w:∀ a,Kn (putL L d (.int .i64 (m / n))) a→WO P tp rest a h K):∀ a,Kn L a→WO P tp (⟨d,.binOp .quo t x y u,ty,none,[],i⟩::rest) a h K:=fun a k=>by
 refine WO.quoI (k.o hx) (k.o hy) (by omega) ?_
 have h3:m / n≤m:=Int.ediv_le_self n hm
 have h4:0≤m / n:=Int.ediv_nonneg hm (by omega)
 rw [Int.tdiv_eq_ediv_of_nonneg hm,fwrap_i64 (by omega) (by omega)]
 exact w _ (k.put d _)
theorem WOL.neg {m:Int} (hx:getL L x=some (.int .i64 m)) (h1:-9223372036854775808≤-m) (h2:-m≤9223372036854775807) (w:∀ a,Kn (putL L d (.int .i64 (-m))) a→WO P tp rest a h K):∀ a,Kn L a→WO P tp (⟨d,.unOp .neg t x,ty,none,[],i⟩::rest) a h K:=fun a k=>by
 refine WO.neg (k.o hx) ?_
 rw [show IntKind.i64.wrap (-m)=-m from IntWalk.i64_in _ (by omega)]
 exact w _ (k.put d _)
end rules
def rnd (a b:Int):Int:=(2*a+b) / (2*b)
theorem floor_neg {x y:Int} (hy:0 < y):x / y=-((y - 1 - x) / y):=by
 have h1:=Int.emod_add_mul_ediv (y - 1 - x) y
 have h2:=Int.emod_nonneg (y - 1 - x) (by omega:y≠0)
 have h3:=Int.emod_lt_of_pos (y - 1 - x) hy
 generalize (y - 1 - x) / y=q at *
 generalize (y - 1 - x) % y=r at *
 have:(y - 1 - r)+y*(-q)=x:=by rw [Int.mul_neg];omega
 exact ((Int.ediv_emod_unique hy).2 ⟨this,by omega,by omega⟩).1
end Go.Tidy
namespace Go.Tidy
open Go Go.Proofs Tab
variable {tp:TProg}
def allOk (C:List (Int × Bool)):Bool:=C.all fun c=>okI c.1
theorem allOk_iff {C:List (Int × Bool)}:allOk C=true ↔ ∀ c,c ∈ C→c.1.natAbs≤16384:=by
 simp only [allOk,List.all_eq_true,okI_iff]
end Go.Tidy
namespace Go.Tidy
open Go Go.Proofs Tab
theorem lev_smp {C:List (Int × Bool)} (h:∀ c,c ∈ C→c.1.natAbs≤16384):Lev (C.map fun c=>smp c.1) (C.map fun c=>c.1):=by
 refine ⟨by simp,fun i b n hb hn=>?_⟩
 rw [List.getElem?_map] at hb hn
 cases hc:C[i]? with
 | none=>rw [hc] at hb;simp at hb
 | some c =>
  rw [hc] at hb hn
  simp only [Option.map_some,Option.some.injEq] at hb hn
  subst hb;subst hn
  exact (smp_ok (h c (List.mem_of_getElem? hc))).2.2
section
variable {s:ByteArray} {n:Int} {F:List Nat} {S:List (Int × Int)} {L:List Int}
theorem Valid.cells (V:Valid s n F S L):cellsL L S=cellsK L (knownL S F.length):=cells_eq V.lev V.in_
theorem Valid.lim (V:Valid s n F S L):∀ c,c ∈ cellsL L S→c.1.natAbs≤16384:=cells_lim V.lev S
theorem Valid.kl (V:Valid s n F S L):(knownL S F.length).length=L.length:=by rw [knownL_len,V.lev.1]
theorem Valid.sum (V:Valid s n F S L):sumL (knownV (cellsL L S))=sumL L:=by rw [V.cells,dark_sum V.dark]
theorem Valid.at_ (V:Valid s n F S L) {i b:Nat} (hb:F[i]?=some b):∃ x,L[i]?=some x∧Samp b x∧(cellsL L S)[i]?=some (x,knownB S i):=by
 obtain ⟨x,hx,sx⟩:=V.lev.get hb
 have hi:i < F.length:=(List.getElem?_eq_some_iff.1 hb).1
 have hk:(knownL S F.length)[i]?=some (knownB S (i:Int)):=by
  unfold knownL
  rw [List.getElem?_map,List.getElem?_range hi];rfl
 refine ⟨x,hx,sx,?_⟩
 rw [V.cells]
 unfold cellsK
 rw [List.getElem?_zipWith,hx,hk]
 cases hq:knownB S (i:Int)
 ·have:=V.dark.2 i x hx (by rw [hk,hq])
  subst this
  rfl
 ·rfl
end
end Go.Tidy
namespace Go.Tidy
open Go Go.Proofs Tab
section
variable {P:Program}
theorem pv_isAggI {t:TypeId} {k:IntKind} (hu:P.underlying t=some (.int k)):pv P (isAgg t)=some false:=by
 unfold isAgg
 rw [pv_bind,pv_underlying hu]
 rfl
theorem pv_part0 {t:TypeId} {k:IntKind} {v w:Value} (hu:P.underlying t=some (.int k)):pv P (Go.part t #[v,w] 0)=some v:=by
 unfold Go.part
 rw [pv_bind,pv_isAggI hu]
 rfl
theorem pv_part1 {t:TypeId} {k:IntKind} {v w:Value} (hu:P.underlying t=some (.int k)):pv P (Go.part t #[v,w] 1)=some w:=by
 unfold Go.part
 rw [pv_bind,pv_isAggI hu]
 rfl
end
structure Rat2 (P:Program) (t:TypeId):Prop where
  u : ∃ f1 f2 : Field, P.underlying t = some (.struct #[f1, f2]) ∧ f1.offset = 0 ∧ f2.offset = 1 ∧ f1.name ≠ "_" ∧ f2.name ≠ "_" ∧ P.underlying f1.type = some (.int .i64) ∧ P.underlying f2.type = some (.int .i64)
  s:P.stoodInHeld t=false
  g:P.eqGuardType P.depth t=false
section rules
variable {P:Program} {tp:TProg} {a:Regs} {h:TH} {K:Regs→TH→Prop} {rest:List TOper} {d:Option Tmp} {ty:TypeId} {i:Nat} {x y:Operand} {t u:TypeId}
theorem eqT_aggs {b c:Array Value}:eqT P t (.agg b) (.agg c)=none:=by
 unfold eqT ptrEq nilEq
 cases P.underlying t with
 | none=>rfl
 | some d=>cases d <;> rfl
end rules
end Go.Tidy
namespace Go.Tidy
open Go Go.Proofs Tab
variable {tp:TProg}
abbrev ptr (c:Nat):Value:=.pointer (some ⟨c,0,none⟩)
abbrev zi (z:Int):Value:=.int .i64 z
end Go.Tidy
namespace Go.Tidy
open Go Go.Proofs Tab
variable {tp:TProg}
def RX (n0:Nat) (h:TH) (sx:ByteArray) (nx:Int) (x1 x2:Value) (s:ByteArray) (n:Int) (C:List (Int × Bool)) (e:Int):Prop :=
 (e≠0∧sx=⟨#[]⟩∧nx=0∧x1=.slice none 0 0∧x2=.slice none 0 0)∨(e=0∧sx=s∧nx=n∧RunO n0 h x1 x2 (C.map fun c=>smp c.1) (holesOf (C.map fun c=>c.2)))
theorem RunO.relock' {n0:Nat} {h:TH} {v1 v2:Value} {F:List Nat} {S:List (Int × Int)} (r:RunO n0 h v1 v2 F S) (L:List Nat):RunO n0 (h.withLock L) v1 v2 F S:=⟨⟨r.r.f.relock L,r.r.s.relock L,r.r.g.relock L⟩,r.o1,r.o2⟩
theorem RunH.relock' {h:TH} {v1 v2:Value} {F:List Nat} {S:List (Int × Int)} (r:RunH h v1 v2 F S) (L:List Nat):RunH (h.withLock L) v1 v2 F S:=⟨r.f.relock L,r.s.relock L,r.g.relock L⟩
section
variable {n0 c:Nat} {h h':TH} {sx:ByteArray} {nx:Int} {x1 x2:Value} {s:ByteArray} {n:Int} {C:List (Int × Bool)} {e:Int}
theorem RX.hx (r:RX n0 h sx nx x1 x2 s n C e) (x:HX h h'):RX n0 h' sx nx x1 x2 s n C e:=by
 rcases r with r | ⟨a,b,d,r⟩
 ·exact .inl r
 ·exact .inr ⟨a,b,d,r.hx x⟩
theorem RX.relock (r:RX n0 h sx nx x1 x2 s n C e) (L:List Nat):RX n0 (h.withLock L) sx nx x1 x2 s n C e:=by
 rcases r with r | ⟨a,b,d,r⟩
 ·exact .inl r
 ·exact .inr ⟨a,b,d,r.relock' L⟩
theorem RunR.out {v:Value} (r:RunR h h' v s n C e):∃ sx nx bo1 l1 k1 bo2 l2 k2,v=.tuple #[runV sx nx (.slice bo1 l1 k1) (.slice bo2 l2 k2),.int .i64 e]∧HX h h'∧RX h.next h' sx nx (.slice bo1 l1 k1) (.slice bo2 l2 k2) s n C e:=by
 obtain ⟨X,⟨he,rfl⟩ | ⟨rfl,w1,w2,rfl,O⟩⟩:=r
 ·exact ⟨_,_,_,_,_,_,_,_,rfl,X,.inl ⟨he,rfl,rfl,rfl,rfl⟩⟩
 ·obtain ⟨bo1,k1,rfl⟩:=O.r.f.form
  obtain ⟨bo2,k2,rfl⟩:=O.r.s.form
  exact ⟨_,_,_,_,_,_,_,_,rfl,X,.inr ⟨rfl,rfl,rfl,O⟩⟩
end
end Go.Tidy
namespace Go.Tidy
open Go Go.Proofs Tab
variable {tp:TProg}
theorem Free0.on {h h':TH} (f:Free0 h.next h) (x:HX h h'):Free0 h'.next h':=f.next x x.next
end Go.Tidy
namespace Go.Tidy
open Go Go.Proofs Tab
variable {tp:TProg}
section
variable {α:Type} {enc:α→List Value} {n0:Nat} {h h':TH} {v:Value} {e:TypeId} {l:List α}
end
def okTo (Z:List Int) (Y:List Bool) (j:Nat):Prop:=∀ (i:Nat) (z:Int),i < j→Z[i]?=some z→Y[i]?=some true→okI z=true
end Go.Tidy
namespace Go.Tidy
open Go Go.Proofs Tab
variable {tp:TProg}
def SumR (h h':TH) (v:Value) (s:ByteArray) (n:Int) (Z:List Int) (Y:List Bool) (sh:Bool):Prop :=
  HX h h'∧((sh=false∧v=.tuple #[run0,.int .i64 2])∨(sh=true∧¬ okTo Z Y Z.length∧v=.tuple #[run0,.int .i64 4]) ∨
    (sh=true∧okTo Z Y Z.length∧∃ w1 w2,v=.tuple #[runV s n w1 w2,.int .i64 0]∧RunO h.next h' w1 w2 (madeF Z Y) (holesOf Y)))
theorem cellsK_get {L:List Int} {K:List Bool} {i:Nat} {x:Int} {p:Bool} (hx:L[i]?=some x) (hp:K[i]?=some p):(cellsK L K)[i]?=some (if p=true then (x,true) else (0,false)):=by
 unfold cellsK;rw [List.getElem?_zipWith,hx,hp]
theorem cellsK_ln {L:List Int} {K:List Bool} (h:K.length=L.length):(cellsK L K).length=L.length:=by simp [cellsK,h]
theorem ok_cells {Z:List Int} {Y:List Bool} (h:Y.length=Z.length):allOk (cellsK Z Y)=true ↔ okTo Z Y Z.length:=by
 rw [allOk_iff]
 constructor
 ·intro ok i z hi hz hy
  have:=ok _ (List.mem_of_getElem? (cellsK_get hz hy))
  exact okI_iff.2 this
 ·intro ok c hc
  obtain ⟨i,hi,hci⟩:=List.getElem_of_mem hc
  have hl:=cellsK_ln h
  have hz:Z[i]?=some Z[i]:=List.getElem?_eq_getElem (by omega)
  have hy:Y[i]?=some Y[i]:=List.getElem?_eq_getElem (by omega)
  have:=cellsK_get hz hy
  rw [List.getElem?_eq_getElem hi,hci] at this
  obtain rfl:=Option.some.inj this
  cases hb:Y[i] with
  | false=>simp
  | true=>rw [hb] at hy;simpa using okI_iff.1 (ok i _ (by omega) hz hy)
end Go.Tidy
namespace Go.Tidy
open Go Go.Proofs Tab
variable {tp:TProg}
section
variable {P:Program} {α:Type} {enc:α→List Value} {n n0:Nat} {h:TH} {v:Value} {e:TypeId} {l:List α} {z:List Value} {row:Bool}
theorem slC_keep {h h':TH} {v:Value} {sz m:Nat} {c:List Value} (s:SlC h v sz m c) (k:∀ b y,bl v=some b→At h b y→At h' b y):SlC h' v sz m c:=by
 obtain ⟨bo,cap,rfl,h2,h3,h4⟩:=s
 exact ⟨bo,cap,rfl,h2,h3,h4.imp id fun ⟨b,off,cc,fix,wr,el,q1,q2,q3,q4⟩=>by subst q1;exact ⟨b,off,cc,fix,wr,el,rfl,k b _ rfl q2,q3,q4⟩⟩
theorem HX.locked {h h':TH} (x:HX h h') (M:List Nat):HX (h.withLock M) (h'.withLock M):=⟨x.next,x.floor,rfl,x.old⟩
end
def JoinR (h h':TH) (v:Value) (s:ByteArray) (n:Int) (Z:List Int) (Y:List Bool) (e:Int):Prop :=
 HX h h'∧((e≠0∧v=.tuple #[run0,.int .i64 e])∨(e=0∧∃ w1 w2,v=.tuple #[runV s n w1 w2,.int .i64 0]∧RunO h.next h' w1 w2 (madeF Z Y) (holesOf Y)))
end Go.Tidy
namespace Go.Tidy
open Go Go.Proofs Tab
variable {tp:TProg}
section
variable {α:Type} {k:Nat} {l:List α}
end
theorem WO.remI {P:Program} {tp:TProg} {a:Regs} {h:TH} {K:Regs→TH→Prop} {rest:List TOper} {d:Option Tmp} {ty:TypeId} {i:Nat} {x y:Operand} {t u:TypeId} {m n:Int} (hx:getO a x=some (.int .i64 m)) (hy:getO a y=some (.int .i64 n)) (hn:n≠0)
  (w:WO P tp rest (a.put d (.int .i64 (m.tmod n))) h K):WO P tp (⟨d,.binOp .rem t x y u,ty,none,[],i⟩::rest) a h K:=by
 refine WO.bi hx hy ?_ w
 have hk:Nat.beq (kindNo .i64) (kindNo .i64)=true:=Nat.beq_refl _
 have hb:(n == 0)=false:=by simpa using hn
 simp only [fastBin,hk,fastInt,hb,Bool.cond_true,Bool.cond_false]
theorem WOL.rem {P:Program} {tp:TProg} {h:TH} {K:Regs→TH→Prop} {rest:List TOper} {d:Option Tmp} {ty:TypeId} {i:Nat} {x y:Operand} {t u:TypeId} {L:Rg} {m n:Int} (hx:getL L x=some (.int .i64 m)) (hy:getL L y=some (.int .i64 n)) (hm:0≤m) (hn:0 < n) (w:∀ a,Kn (putL L d (.int .i64 (m % n))) a→WO P tp rest a h K):∀ a,Kn L a→WO P tp (⟨d,.binOp .rem t x y u,ty,none,[],i⟩::rest) a h K:=fun a k=>by
 refine WO.remI (k.o hx) (k.o hy) (by omega) ?_
 rw [Int.tmod_eq_emod_of_nonneg hm]
 exact w _ (k.put d _)
end Go.Tidy
namespace Go.Tidy
open Go Go.Proofs Tab
variable {tp:TProg}
section
variable {P:Program} {h:TH} {v:Value} {t e:TypeId} {n:Nat} {z:List Value} {row:Bool} {K:Regs→TH→Prop} {rest:List TOper} {d:Option Tmp} {ty:TypeId} {i:Nat} {x y lo hi:Operand} {L:Rg}
theorem WOL.sl {q:Addr} {m cap:Nat} {vlo vhi:Value} (hx:getL L x=some (.slice (some q) m cap)) (hl:getL L lo=some vlo) (hh:getL L hi=some vhi) (hv:sliceT P t (.slice (some q) m cap) (some vlo) (some vhi) none h=some v) (w:∀ a,Kn (putL L d v) a→WO P tp rest a h K):∀ a,Kn L a→WO P tp (⟨d,.slice t x (some lo) (some hi) none,ty,none,[],i⟩::rest) a h K :=
 fun a k=>WO.sl (k.o hx) (k.o hl) (k.o hh) hv (k.nx w)
end
def setN {α:Type} (l:List α) (p:Nat) (g:Nat→α):Nat→List α
 | 0=>l
 | i+1=>(setN l p g i).set (p+i) (g i)
section
variable {α:Type} {l:List α} {p:Nat} {g:Nat→α}
end
theorem Free0.of {n:Nat} {hb h h':TH} (f:Free0 n h) (x:HX hb h) (y:HX hb h'):Free0 n h':=⟨by rw [y.floor,← x.floor];exact f.floor,by rw [y.lock,← x.lock];exact f.lock⟩
end Go.Tidy
namespace Go.Tidy
open Go Go.Proofs Tab
variable {tp:TProg}
theorem Valid.cell {s:ByteArray} {n:Int} {F:List Nat} {S:List (Int × Int)} {L:List Int} (V:Valid s n F S L) {i:Nat} (hi:i < F.length):∃ k,(cellsL L S)[i]?=some (L.getD i 0,k):=by
 have kl:=V.kl
 have ll:=V.lev.1
 have hx:L[i]?=some L[i]:=List.getElem?_eq_getElem (by omega)
 have hp:(knownL S F.length)[i]?=some (knownL S F.length)[i]:=List.getElem?_eq_getElem (by omega)
 have hd:=V.dark.2 i _ hx
 have hg:L.getD i 0=L[i]:=by rw [List.getD_eq_getElem?_getD,hx];rfl
 rw [V.cells,cellsK_get hx hp,hg]
 generalize (knownL S F.length)[i]=k at *
 cases k with
 | true=>exact ⟨true,rfl⟩
 | false=>exact ⟨false,by rw [hd hp];rfl⟩
end Go.Tidy
namespace Go.Tidy
open Go Go.Proofs Tab
variable {tp:TProg}
theorem holeE_after {m:Nat}:∀ {S:List (Int × Int)} {prev:Int},holeE m prev S=0→∀ p,p ∈ S→prev < p.1
  | [],_,_=>fun p hp=>by cases hp
  | x::r,prev,h=>by
    have hlt:=holeE_lt h x (List.mem_cons_self ..)
    rw [holeE_cons] at h
    cases hb:badS m x with
    | true=>rw [hb] at h;cases h
    | false =>
      rw [hb] at h
      by_cases hc:x.1≤prev
      · rw [decide_eq_true hc] at h;cases h
      · rw [decide_eq_false hc] at h
        intro p hp
        rcases List.mem_cons.1 hp with rfl | hp
        · omega
        · have:=holeE_after (S:=r) (prev:=x.2) h p hp
          omega
end Go.Tidy
namespace Go.Tidy
open Go Go.Proofs Tab
theorem Samp.e0 {b:Nat} {n:Int} (s:Samp b n):SampleE b 0:=by
 obtain ⟨neg,q,h,h2,_⟩:=s.ok
 obtain ⟨m,k,hr,hq,hk⟩:=h
 obtain ⟨D,hD⟩:∃ D:Nat,2 ^ 149=D:=⟨_,rfl⟩
 have hDp:0 < D:=by rw [← hD];exact two_pow_pos 149
 have e1:=h2 D hD
 have hl:=s.lim
 have hU:m*2 ^ (k+4)=n.natAbs*D:=by rw [Nat.pow_add,← Nat.mul_assoc,← e1,hq]
 have ok:okU (m*2 ^ (k+4))=true:=by
  rw [okU_eq hD]
  unfold okD
  rw [hU,decide_eq_true (Nat.mul_le_mul_right D hl),Nat.mul_div_cancel _ hDp]
  simp
 rcases single_cases b with h | ⟨s',h⟩ | ⟨neg',m',k',N⟩
 ·rw [s.nan] at h;cases h
 ·rw [hr] at h;cases h
 ·have e:=hr.symm.trans N.read
  injection e with e1 e2 e3
  obtain rfl:k=k':=by omega
  subst e2
  have:=SampleE.num neg' m k N
  rw [ok] at this
  exact this
theorem serr_zero {F:List Nat} {L:List Int} (h:Lev F L):∃ es,SErr F es∧firstNZ es=0:=by
 refine ⟨List.replicate F.length 0,⟨by simp,fun i b e hb he=>?_⟩,?_⟩
 ·have hi:i < F.length:=(List.getElem?_eq_some_iff.1 hb).1
  have hiL:i < L.length:=by rw [← h.1];exact hi
  have hx:L[i]?=some L[i]:=List.getElem?_eq_getElem hiL
  rw [List.getElem?_replicate,if_pos hi] at he
  cases he
  exact (h.2 i b _ hb hx).e0
 ·have:∀ k,firstNZ (List.replicate k 0)=0:=by
   intro k
   induction k with
   | zero=>rfl
   | succ k ih=>rw [List.replicate_succ];show cond ((0:Int) != 0) 0 _=0;exact ih
  exact this _
def endOf (prev:Int):List (Int × Int)→Int
 | []=>prev
 | p::r=>endOf p.2 r
theorem endOf_le {i:Int}:∀ (S:List (Int × Int)) (prev:Int),prev≤i→(∀ p,p ∈ S→p.2≤i)→endOf prev S≤i
 | [],_,h,_=>h
 | x::r,prev,_,h=>endOf_le r x.2 (h x (List.mem_cons_self ..)) fun p hp=>h p (List.mem_cons_of_mem _ hp)
theorem holeE_snoc {m:Nat} (p:Int × Int):∀ (S:List (Int × Int)) (prev:Int),holeE m prev (S ++ [p])=0 ↔ holeE m prev S=0∧badS m p=false∧endOf prev S < p.1
  | [], prev => by
    show holeE m prev [p]=0 ↔ _
    rw [holeE_cons]
    cases hb:badS m p with
    | true=>simp
    | false =>
      by_cases hc:p.1≤prev
      · rw [decide_eq_true hc]
        simp only [Bool.cond_false,Bool.cond_true,endOf]
        constructor
        · intro h;cases h
        · rintro ⟨_,_,h⟩;omega
      · rw [decide_eq_false hc]
        simp only [Bool.cond_false,endOf]
        exact ⟨fun _=>⟨by trivial,by trivial,by omega⟩,fun _=>by trivial⟩
  | x::r,prev=>by
    show holeE m prev (x::(r ++ [p]))=0 ↔ _
    rw [holeE_cons,holeE_cons]
    cases hb:badS m x with
    | true=>simp
    | false =>
      by_cases hc:x.1≤prev
      · rw [decide_eq_true hc];simp
      · rw [decide_eq_false hc]
        exact holeE_snoc p r x.2
theorem badS_no {m:Nat} {p:Int × Int}:badS m p=false ↔ 0≤p.1∧p.1 < p.2∧p.2≤m:=by
 unfold badS
 simp only [Bool.or_eq_false_iff,decide_eq_false_iff_not]
 omega
structure HoleI (B:List Bool) (i:Nat) (S:List (Int × Int)):Prop where
 h0:holeE B.length (-1) S=0
 hi:∀ p,p ∈ S→p.2≤(i:Int)
 hk:∀ x:Nat,x < i→S.any (inS x)=!B.getD x false
 ho:0 < i∧B.getD (i - 1) false=false→∃ T a,S=T ++ [((a:Int),(i:Int))]
 hc:¬ (0 < i∧B.getD (i - 1) false=false)→endOf (-1) S < (i:Int)
theorem inS_past {S:List (Int × Int)} {i:Nat} (h:∀ p,p ∈ S→p.2≤(i:Int)):S.any (inS i)=false:=by
 rw [List.any_eq_false]
 intro p hp
 have:=h p hp
 unfold inS
 rw [decide_eq_false (by omega:¬ (i:Int) < p.2),Bool.and_false]
 decide
theorem holeI (B:List Bool):∀ i,i≤B.length→HoleI B i (holesN B i)
  | 0,_=>⟨rfl,fun p hp=>(by cases hp),fun x hx=>by omega,fun h=>by omega,fun _=>(by show (-1:Int) < 0;decide)⟩
  | i + 1, hle => by
    obtain ⟨h0,hi,hk,ho,hc⟩:=holeI B i (by omega)
    show HoleI B (i+1) (hstep B (holesN B i) i)
    generalize holesN B i=S at *
    have sub1:i+1 - 1=i:=by omega
    unfold hstep
    by_cases hb:B.getD i false=true
    · rw [if_pos hb]
      refine ⟨h0,fun p hp=>by have:=hi p hp;omega,fun x hx=>?_,fun h=>?_,fun _=>?_⟩
      · by_cases hxi:x < i
        · exact hk x hxi
        · obtain rfl:x=i:=by omega
          rw [inS_past hi,hb];rfl
      · rw [sub1,hb] at h;cases h.2
      · have:=endOf_le S (-1) (show (-1:Int)≤(i:Int) by omega) hi
        omega
    · have hb':B.getD i false=false:=by simpa using hb
      rw [if_neg hb]
      by_cases hp:0 < i∧B.getD (i - 1) false=false
      · rw [if_pos hp]
        obtain ⟨T,a,rfl⟩:=ho hp
        obtain ⟨t0,t1,t2⟩:=(holeE_snoc _ T (-1)).1 h0
        have t1':=badS_no.1 t1
        have hS:(T ++ [(a,(i:Int))]).set ((T ++ [(a,(i:Int))]).length - 1) (((T ++ [(a,(i:Int))]).getD ((T ++ [(a,(i:Int))]).length - 1) (0,0)).1,(i:Int)+1)=T ++ [(a,((i+1:Nat):Int))]:=by
          simp
        rw [hS]
        refine ⟨(holeE_snoc _ T (-1)).2 ⟨t0,badS_no.2 ⟨t1'.1,?_,?_⟩,t2⟩,fun p hp=>?_,fun x hx=>?_,fun _=>⟨T,a,rfl⟩,fun h=>?_⟩
        · have:a < (i:Int):=t1'.2.1
          show a < ((i+1:Nat):Int)
          omega
        · show ((i+1:Nat):Int)≤_
          omega
        · rcases List.mem_append.1 hp with hp | hp
          · have:=hi p (List.mem_append_left _ hp);omega
          · simp at hp;subst hp;exact Int.le_refl _
        · have ha:a < (i:Int):=t1'.2.1
          by_cases hxi:x < i
          · rw [← hk x hxi,List.any_append,List.any_append]
            congr 1
            simp only [List.any_cons,List.any_nil,Bool.or_false,inS]
            congr 1
            rw [decide_eq_true (by omega:(x:Int) < ((i+1:Nat):Int)),decide_eq_true (by omega:(x:Int) < (i:Int))]
          · obtain rfl:x=i:=by omega
            rw [hb',List.any_append]
            simp only [List.any_cons,List.any_nil,Bool.or_false,inS]
            rw [decide_eq_true (by omega:(x:Int) ≥ a),decide_eq_true (by omega:(x:Int) < ((x+1:Nat):Int))]
            simp
        · rw [sub1] at h
          exact absurd ⟨by omega,hb'⟩ h
      · rw [if_neg hp]
        have hc':=hc hp
        refine ⟨(holeE_snoc _ S (-1)).2 ⟨h0,badS_no.2 ⟨by show (0:Int)≤(i:Int);omega,by show (i:Int) < (i:Int)+1;omega,by show (i:Int)+1≤_;omega⟩,hc'⟩,fun p hp=>?_,fun x hx=>?_,fun _=>⟨S,(i:Int),rfl⟩,fun h=>?_⟩
        · rcases List.mem_append.1 hp with hp | hp
          · have:=hi p hp;omega
          · simp at hp;subst hp;show (i:Int)+1≤_;omega
        · rw [List.any_append]
          by_cases hxi:x < i
          · rw [← hk x hxi]
            simp only [List.any_cons,List.any_nil,Bool.or_false,inS]
            rw [decide_eq_false (by omega:¬ (x:Int) ≥ (i:Int))]
            simp
          · obtain rfl:x=i:=by omega
            rw [hb']
            simp only [List.any_cons,List.any_nil,Bool.or_false,inS]
            rw [decide_eq_true (by omega:(x:Int) ≥ (x:Int)),decide_eq_true (by omega:(x:Int) < (x:Int)+1)]
            simp
        · rw [sub1] at h
          exact absurd ⟨by omega,hb'⟩ h
theorem known_holes (B:List Bool):knownL (holesOf B) B.length=B:=by
 have H:=holeI B B.length (Nat.le_refl _)
 apply List.ext_getElem?
 intro x
 by_cases hx:x < B.length
 ·unfold knownL
  rw [List.getElem?_map,List.getElem?_range hx]
  show some (knownB (holesOf B) x)=_
  unfold knownB
  rw [show (holesOf B).any (inS x)=!B.getD x false from H.hk x hx,Bool.not_not,List.getD_eq_getElem?_getD,List.getElem?_eq_getElem hx]
  rfl
 ·rw [List.getElem?_eq_none (by rw [knownL_len];omega),List.getElem?_eq_none (by omega)]
theorem holes_ok (B:List Bool):holeE B.length (-1) (holesOf B)=0:=(holeI B B.length (Nat.le_refl _)).h0
def DarkC (C:List (Int × Bool)):Prop:=∀ c,c ∈ C→c.2=false→c.1=0
theorem made_run {s:ByteArray} {n:Int} {C:List (Int × Bool)} (hd:headE s n C.length=0) (hn:n+C.length≤100000000) (lim:∀ c,c ∈ C→c.1.natAbs≤16384) (dk:DarkC C) :
    ∃ es,SErr (C.map fun c=>smp c.1) es∧Lev (C.map fun c=>smp c.1) (C.map fun c=>c.1)∧runE s n (C.map fun c=>smp c.1).length (holesOf (C.map fun c=>c.2)) es (C.map fun c=>c.1)=0∧Valid s n (C.map fun c=>smp c.1) (holesOf (C.map fun c=>c.2)) (C.map fun c=>c.1)∧cellsL (C.map fun c=>c.1) (holesOf (C.map fun c=>c.2))=C:=by
  have hL:=lev_smp lim
  obtain ⟨es,hE,h0⟩:=serr_zero hL
  have hlen:(C.map fun c=>smp c.1).length=C.length:=by simp
  have hlen2:(C.map fun c=>c.2).length=C.length:=by simp
  have ho:holeE C.length (-1) (holesOf (C.map fun c=>c.2))=0:=by have:=holes_ok (C.map fun c=>c.2);rwa [hlen2] at this
  have hK:knownL (holesOf (C.map fun c=>c.2)) C.length=C.map fun c=>c.2:=by have:=known_holes (C.map fun c=>c.2);rwa [hlen2] at this
  have hin:=holeE_in ho
  have hform:(holesOf (C.map fun c=>c.2)).any (anyIn (C.map fun c=>c.1))=false:=by
    cases hb:(holesOf (C.map fun c=>c.2)).any (anyIn (C.map fun c=>c.1)) with
    | false=>rfl
    | true =>
      obtain ⟨j,x,hj,hx,hk⟩:=(form_iff hin).1 hb
      rw [List.getElem?_map] at hj
      cases hc:C[j]? with
      | none=>rw [hc] at hj;cases hj
      | some c =>
        have hjl:j < C.length:=(List.getElem?_eq_some_iff.1 hc).1
        have hkj:(knownL (holesOf (C.map fun c=>c.2)) C.length)[j]?=some (knownB (holesOf (C.map fun c=>c.2)) j):=by
          unfold knownL
          rw [List.getElem?_map,List.getElem?_range hjl];rfl
        rw [hK,List.getElem?_map,hc,hk] at hkj
        rw [hc] at hj
        exact absurd ((Option.some.inj hj).symm.trans (dk c (List.mem_of_getElem? hc) (Option.some.inj hkj))) hx
  obtain ⟨_,n0,n1,hm⟩:=headE_zero hd
  have hr:runE s n (C.map fun c=>smp c.1).length (holesOf (C.map fun c=>c.2)) es (C.map fun c=>c.1)=0:=by
    unfold runE tailE formE
    rw [hlen,hd,h0,ho,hform,decide_eq_false (by omega)]
    rfl
  refine ⟨es,hE,hL,hr,valid_of (fun _=>hL) hr,?_⟩
  rw [cells_eq hL (by rw [hlen];exact hin),hlen,hK]
  apply List.ext_getElem?
  intro i
  cases hc:C[i]? with
  | none =>
    have:C.length≤i:=List.getElem?_eq_none_iff.1 hc
    rw [List.getElem?_eq_none (by rw [cellsK_ln (by simp)];simp;omega)]
  | some c =>
    rw [cellsK_get (x:=c.1) (p:=c.2) (by rw [List.getElem?_map,hc];rfl) (by rw [List.getElem?_map,hc];rfl)]
    obtain ⟨x,k⟩:=c
    cases k with
    | true=>rfl
    | false =>
      have h1:x=0:=dk _ (List.mem_of_getElem? hc) rfl
      subst h1;rfl
end Go.Tidy
namespace Go.Tidy
open Go Go.Proofs Tab
theorem known_no {S:List (Int × Int)} {x:Int}:knownB S x=false ↔ ∃ p,p ∈ S∧p.1≤x∧x < p.2:=by
 unfold knownB
 rw [Bool.not_eq_false',List.any_eq_true]
 constructor
 ·rintro ⟨p,hp,h⟩
  unfold inS at h
  simp only [Bool.and_eq_true,decide_eq_true_eq] at h
  exact ⟨p,hp,h.1,h.2⟩
 ·rintro ⟨p,hp,h1,h2⟩
  refine ⟨p,hp,?_⟩
  unfold inS
  rw [decide_eq_true h1,decide_eq_true h2];rfl
theorem holeE_tail {m:Nat} {prev:Int} {p:Int × Int} {r:List (Int × Int)} (h:holeE m prev (p::r)=0):badS m p=false∧prev < p.1∧holeE m p.2 r=0:=by
 rw [holeE_cons] at h
 cases hb:badS m p with
 | true=>rw [hb] at h;cases h
 | false =>
  rw [hb] at h
  by_cases hc:p.1≤prev
  ·rw [decide_eq_true hc] at h;cases h
  ·rw [decide_eq_false hc] at h
   exact ⟨rfl,by omega,h⟩
theorem known_tail {p:Int × Int} {r:List (Int × Int)} {x:Int} (hx:p.2≤x):knownB (p::r) x=knownB r x:=by
 unfold knownB
 rw [List.any_cons]
 unfold inS
 rw [decide_eq_false (by omega:¬ x < p.2),Bool.and_false,Bool.false_or]
theorem holes_first {m:Nat} {prev:Int} {p:Int × Int} {r:List (Int × Int)} (h:holeE m prev (p::r)=0) {x:Int} (hx:knownB (p::r) x=false):p.1≤x:=by
 obtain ⟨q,hq,h1,_⟩:=known_no.1 hx
 obtain ⟨b,_,t⟩:=holeE_tail h
 have:=badS_no.1 b
 rcases List.mem_cons.1 hq with rfl | hq
 ·exact h1
 ·have:=holeE_after t q hq
  omega
theorem holes_end {m:Nat} {prev:Int} {p:Int × Int} {r:List (Int × Int)} (h:holeE m prev (p::r)=0):knownB (p::r) p.2=true:=by
 cases hb:knownB (p::r) p.2 with
 | true=>rfl
 | false =>
  rw [known_tail (Int.le_refl _)] at hb
  obtain ⟨q,hq,h1,_⟩:=known_no.1 hb
  have:=holeE_after (holeE_tail h).2.2 q hq
  omega
theorem holes_uniq {m:Nat}:∀ {S T:List (Int × Int)} {prev:Int},-1≤prev→holeE m prev S=0→holeE m prev T=0→(∀ x:Nat,prev < (x:Int)→knownB S x=knownB T x)→S=T
  | [],[],_,_,_,_,_=>rfl
  | [],q::t,prev,h0,_,hT,h=>by
    obtain ⟨b,a,_⟩:=holeE_tail hT
    have b':=badS_no.1 b
    obtain ⟨x,hx⟩:=Int.eq_ofNat_of_zero_le b'.1
    have h1:=h x (by omega)
    rw [show knownB (q::t) (x:Int)=false from known_no.2 ⟨q,List.mem_cons_self ..,by omega,by omega⟩] at h1
    cases h1
  | p::r,[],prev,h0,hS,_,h=>by
    obtain ⟨b,a,_⟩:=holeE_tail hS
    have b':=badS_no.1 b
    obtain ⟨x,hx⟩:=Int.eq_ofNat_of_zero_le b'.1
    have h1:=h x (by omega)
    rw [show knownB (p::r) (x:Int)=false from known_no.2 ⟨p,List.mem_cons_self ..,by omega,by omega⟩] at h1
    cases h1
  | p::r,q::t,prev,h0,hS,hT,h=>by
    obtain ⟨b,a,tS⟩:=holeE_tail hS
    obtain ⟨c,d,tT⟩:=holeE_tail hT
    have b':=badS_no.1 b
    have c':=badS_no.1 c
    obtain ⟨p1,p2⟩:=p
    obtain ⟨q1,q2⟩:=q
    simp only at b' c' a d
    obtain ⟨x,rfl⟩:=Int.eq_ofNat_of_zero_le b'.1
    obtain ⟨y,rfl⟩:=Int.eq_ofNat_of_zero_le c'.1
    obtain ⟨u,rfl⟩:=Int.eq_ofNat_of_zero_le (show 0≤p2 by omega)
    obtain ⟨v,rfl⟩:=Int.eq_ofNat_of_zero_le (show 0≤q2 by omega)
    have e1:(y:Int)≤x:=holes_first hT (x:=(x:Int)) (by rw [← h x a];exact known_no.2 ⟨_,List.mem_cons_self ..,Int.le_refl _,b'.2.1⟩)
    have e2:(x:Int)≤y:=holes_first hS (x:=(y:Int)) (by rw [h y d];exact known_no.2 ⟨_,List.mem_cons_self ..,Int.le_refl _,c'.2.1⟩)
    obtain rfl:x=y:=by omega
    have f1:¬ (u:Int) < v:=fun hl=>by
      have:=h u (by omega)
      rw [show knownB (((x:Int),(u:Int))::r) (u:Int)=true from holes_end hS,show knownB (((x:Int),(v:Int))::t) (u:Int)=false from known_no.2 ⟨_,List.mem_cons_self ..,by show (x:Int)≤u;omega,hl⟩] at this
      cases this
    have f2:¬ (v:Int) < u:=fun hl=>by
      have:=h v (by omega)
      rw [show knownB (((x:Int),(v:Int))::t) (v:Int)=true from holes_end hT,show knownB (((x:Int),(u:Int))::r) (v:Int)=false from known_no.2 ⟨_,List.mem_cons_self ..,by show (x:Int)≤v;omega,hl⟩] at this
      cases this
    obtain rfl:u=v:=by omega
    congr 1
    refine holes_uniq (prev:=(u:Int)) (by omega) tS tT fun z hz=>?_
    have:=h z (by omega)
    rwa [known_tail (by show (u:Int)≤z;omega),known_tail (by show (u:Int)≤z;omega)] at this
theorem known_past {m:Nat} {S:List (Int × Int)} (hin:In m S) {x:Int} (hx:(m:Int)≤x):knownB S x=true:=by
 cases hb:knownB S x with
 | true=>rfl
 | false =>
  obtain ⟨p,hp,h1,h2⟩:=known_no.1 hb
  have:=(hin p hp).2.2
  omega
theorem knownL_get {S:List (Int × Int)} {m i:Nat} (hi:i < m):(knownL S m)[i]?=some (knownB S i):=by
 unfold knownL
 rw [List.getElem?_map,List.getElem?_range hi];rfl
theorem holesOf_get {K:List Bool} {i:Nat} (hi:i < K.length):K[i]?=some (knownB (holesOf K) i):=by
 have:=knownL_get (S:=holesOf K) hi
 rwa [known_holes] at this
theorem holes_back {m:Nat} {S:List (Int × Int)} (h:holeE m (-1) S=0):holesOf (knownL S m)=S:=by
 have hl:=knownL_len S m
 have h2:=holes_ok (knownL S m)
 rw [hl] at h2
 refine holes_uniq (Int.le_refl _) h2 h fun x _=>?_
 by_cases hx:x < m
 ·have e1:=holesOf_get (K:=knownL S m) (i:=x) (by omega)
  rw [knownL_get hx] at e1
  exact (Option.some.inj e1).symm
 ·rw [known_past (holeE_in h2) (by omega),known_past (holeE_in h) (by omega)]
end Go.Tidy
namespace Go.Tidy
open Go Go.Proofs Tab
variable {tp:TProg}
theorem JoinR.out {h h':TH} {v:Value} {s:ByteArray} {n:Int} {Z:List Int} {Y:List Bool} {e:Int} (r:JoinR h h' v s n Z Y e):∃ sz nz bo1 l1 k1 bo2 l2 k2,v=.tuple #[runV sz nz (.slice bo1 l1 k1) (.slice bo2 l2 k2),.int .i64 e]∧HX h h'∧(e≠0→(Value.slice bo1 l1 k1=.slice none 0 0∧Value.slice bo2 l2 k2=.slice none 0 0))∧(e=0→(sz=s∧nz=n)∧RunO h.next h' (.slice bo1 l1 k1) (.slice bo2 l2 k2) (madeF Z Y) (holesOf Y)):=by
 obtain ⟨X,⟨he,rfl⟩ | ⟨rfl,w1,w2,rfl,O⟩⟩:=r
 ·exact ⟨_,_,_,_,_,_,_,_,rfl,X,fun _=>⟨rfl,rfl⟩,fun h=>absurd h he⟩
 ·obtain ⟨bo1,k1,rfl⟩:=O.r.f.form
  obtain ⟨bo2,k2,rfl⟩:=O.r.s.form
  exact ⟨_,_,_,_,_,_,_,_,rfl,X,fun h=>absurd rfl h,fun _=>⟨⟨rfl,rfl⟩,O⟩⟩
theorem SumR.out {h h':TH} {v:Value} {s:ByteArray} {n:Int} {Z:List Int} {Y:List Bool} {sh:Bool} (hY:sh=true→Y.length=Z.length) (r:SumR h h' v s n Z Y sh):JoinR h h' v s n Z Y (cond (!sh) 2 (cond (allOk (cellsK Z Y)) 0 4)):=by
 obtain ⟨X,⟨rfl,rfl⟩ | ⟨rfl,no,rfl⟩ | ⟨rfl,ok,w1,w2,rfl,O⟩⟩:=r
 ·exact ⟨X,.inl ⟨by simp,rfl⟩⟩
 ·have:allOk (cellsK Z Y)=false:=by
   cases hb:allOk (cellsK Z Y) with
   | false=>rfl
   | true=>exact absurd ((ok_cells (hY rfl)).1 hb) no
  rw [this]
  exact ⟨X,.inl ⟨by decide,rfl⟩⟩
 ·rw [(ok_cells (hY rfl)).2 ok]
  exact ⟨X,.inr ⟨rfl,w1,w2,rfl,O⟩⟩
end Go.Tidy
namespace Go.Tidy
open Go Go.Proofs Tab
variable {tp:TProg}
structure Cel (s:ByteArray) (n:Int) (F:List Nat) (es:List Int) (C:List (Int × Bool)):Prop where
 len:F.length=C.length
 e:SErr F es
 lev:Lev F (C.map fun c=>c.1)
 r:runE s n F.length (holesOf (C.map fun c=>c.2)) es (C.map fun c=>c.1)=0
 v:Valid s n F (holesOf (C.map fun c=>c.2)) (C.map fun c=>c.1)
 c:cellsL (C.map fun c=>c.1) (holesOf (C.map fun c=>c.2))=C
def RunC (s:ByteArray) (n:Int) (h:TH) (v1 v2:Value) (C:List (Int × Bool)):Prop:=∃ F es,RunH h v1 v2 F (holesOf (C.map fun c=>c.2))∧Cel s n F es C
theorem RunC.hx {s:ByteArray} {n:Int} {h h':TH} {v1 v2:Value} {C:List (Int × Bool)} (r:RunC s n h v1 v2 C) (x:HX h h'):RunC s n h' v1 v2 C:=by
 obtain ⟨F,es,r,c⟩:=r
 exact ⟨F,es,r.hx x,c⟩
section
variable {s:ByteArray} {n:Int} {F:List Nat} {es L:List Int} {S:List (Int × Int)} {C:List (Int × Bool)}
theorem Cel.lim (c:Cel s n F es C):∀ x,x ∈ C→x.1.natAbs≤16384:=by have:=c.v.lim;rwa [c.c] at this
theorem Cel.head (c:Cel s n F es C):headE s n C.length=0:=by
 have:=c.r
 unfold runE at this
 rw [c.len] at this
 rcases nz_cases (headE s n C.length) with h | h
 ·exact h
 ·rw [h] at this;rw [show headE s n C.length=0 from this] at h;cases h
theorem Valid.back (V:Valid s n F S L):((cellsL L S).map fun c=>c.1)=L∧holesOf ((cellsL L S).map fun c=>c.2)=S:=by
 have kl:=V.kl
 have ll:=V.lev.1
 constructor
 ·apply List.ext_getElem?
  intro i
  rw [List.getElem?_map]
  by_cases hi:i < F.length
  ·obtain ⟨k,hk⟩:=V.cell hi
   rw [hk,List.getElem?_eq_getElem (by omega:i < L.length)]
   simp [List.getD_eq_getElem?_getD,List.getElem?_eq_getElem (by omega:i < L.length)]
  ·rw [List.getElem?_eq_none (by rw [cells_len V.lev V.in_];omega),List.getElem?_eq_none (by omega)]
   rfl
 ·rw [V.cells,cellsK_snd kl,holes_back V.hole]
theorem Cel.of (V:Valid s n F S L) (hE:SErr F es) (h0:runE s n F.length S es L=0):Cel s n F es (cellsL L S):=by
 obtain ⟨b1,b2⟩:=V.back
 refine ⟨(cells_len V.lev V.in_).symm,hE,by rw [b1];exact V.lev,by rw [b1,b2];exact h0,by rw [b1,b2];exact V,by rw [b1,b2]⟩
theorem Cel.made (hd:headE s n C.length=0) (hn:n+C.length≤100000000) (lim:∀ c,c ∈ C→c.1.natAbs≤16384) (dk:DarkC C):∃ es,Cel s n (C.map fun c=>smp c.1) es C:=by
 obtain ⟨es,e1,e2,e3,e4,e5⟩:=made_run hd hn lim dk
 exact ⟨es,by simp,e1,e2,e3,e4,e5⟩
theorem RunO.cel {B:Nat} {h:TH} {w1 w2:Value} (o:RunO B h w1 w2 (C.map fun c=>smp c.1) (holesOf (C.map fun c=>c.2))) (hd:headE s n C.length=0) (hn:n+C.length≤100000000) (lim:∀ c,c ∈ C→c.1.natAbs≤16384) (dk:DarkC C):RunC s n h w1 w2 C:=by
 obtain ⟨es,c⟩:=Cel.made hd hn lim dk
 exact ⟨_,es,o.r,c⟩
end
section
variable {s:ByteArray} {n:Int} {h:TH} {v1 v2 w1 w2:Value} {C D:List (Int × Bool)}
def NewC (s:ByteArray) (n:Int) (C:List (Int × Bool)) (h:TH) (v:Value) (h':TH):Prop :=
 ∃ bo1 l1 k1 bo2 l2 k2,v=.tuple #[runV s n (.slice bo1 l1 k1) (.slice bo2 l2 k2),.int .i64 0]∧HX h h'∧RunC s n h' (.slice bo1 l1 k1) (.slice bo2 l2 k2) C∧Above h.next (.slice bo1 l1 k1)∧Above h.next (.slice bo2 l2 k2)
theorem RunR.new {h':TH} {v:Value} (r:RunR h h' v s n C 0) (hd:headE s n C.length=0) (hn:n+C.length≤100000000) (lim:∀ c,c ∈ C→c.1.natAbs≤16384) (dk:DarkC C):NewC s n C h v h':=by
 obtain ⟨X,⟨he,_⟩ | ⟨_,w1,w2,rfl,O⟩⟩:=r
 ·exact absurd rfl he
 ·obtain ⟨bo1,k1,rfl⟩:=O.r.f.form
  obtain ⟨bo2,k2,rfl⟩:=O.r.s.form
  exact ⟨_,_,_,_,_,_,rfl,X,O.cel hd hn lim dk,O.o1,O.o2⟩
end
end Go.Tidy
namespace Go.Tidy
open Go Go.Proofs Tab
variable {tp:TProg}
theorem lev_some (F:List Nat):∃ es L,SErr F es∧(firstNZ es=0→Lev F L):=by
 obtain ⟨es,hE⟩:=serr_ex F
 by_cases h0:firstNZ es=0
 ·obtain ⟨L,hL⟩:=lev_ex F es hE (firstNZ_zero h0)
  exact ⟨es,L,hE,fun _=>hL⟩
 ·exact ⟨es,[],hE,fun h=>absurd h h0⟩
attribute [local irreducible] Ty valOf
end Go.Tidy
namespace Go.Tidy
open Go Go.Proofs Tab
variable {tp:TProg}
section
variable {s:ByteArray} {n:Int} {g:TH} {v1 v2 p1 p2:Value} {C:List (Int × Bool)} {c2 c3 c5':Nat}
theorem RunC.relock (r:RunC s n g v1 v2 C) (M:List Nat):RunC s n (g.withLock M) v1 v2 C:=by
 obtain ⟨F,es,r,c⟩:=r
 exact ⟨F,es,r.relock' M,c⟩
end
attribute [local irreducible] Ty valOf
end Go.Tidy
namespace Go.Tidy
open Go Go.Proofs Tab
variable {tp:TProg}
theorem Samp.order {b c:Nat} {n m:Int} (s:Samp b n) (t:Samp c m):Ieee.single.order b c=some (compare n m):=by
 obtain ⟨neg,q,h1,h2,h3⟩:=s.ok
 obtain ⟨neg',q',g1,g2,g3⟩:=t.ok
 obtain ⟨D,hD⟩:∃ D:Nat,2 ^ 149=D:=⟨_,rfl⟩
 have hDp:0 < D:=by rw [← hD];exact two_pow_pos 149
 have e1:=h2 D hD
 have e2:=g2 D hD
 have a1:sg neg q*(16:Nat)=n*(D:Nat):=by rw [← sg_mul,e1,sg_mul,h3]
 have a2:sg neg' q'*(16:Nat)=m*(D:Nat):=by rw [← sg_mul,e2,sg_mul,g3]
 rw [h1.order g1]
 generalize sg neg q=x at *
 generalize sg neg' q'=y at *
 have hDi:(0:Int) < (D:Int):=by omega
 have hlt:x < y ↔ n < m:=by
  constructor
  ·intro hq
   have:n*(D:Int) < m*(D:Int):=by rw [← a1,← a2];omega
   exact Int.lt_of_mul_lt_mul_right this (by omega)
  ·intro hq
   have:n*(D:Int) < m*(D:Int):=Int.mul_lt_mul_of_pos_right hq hDi
   rw [← a1,← a2] at this
   omega
 have heq:x=y ↔ n=m:=by
  constructor
  ·intro hq
   rw [hq,a2] at a1
   exact (Int.eq_of_mul_eq_mul_right (by omega) a1).symm
  ·intro hq
   rw [hq,← a2] at a1
   omega
 congr 1
 show compareOfLessAndEq _ _=compareOfLessAndEq _ _
 unfold compareOfLessAndEq
 simp only [hlt,heq]
theorem cmp_lt {n m:Int}:(some (compare n m) == some Ordering.lt)=decide (n < m):=by
 show (some (compareOfLessAndEq n m) == some Ordering.lt)=_
 unfold compareOfLessAndEq
 by_cases h:n < m
 ·simp [h]
 ·by_cases h2:n=m
  ·simp [h2]
  ·simp [h,h2]
theorem cmp_gt {n m:Int}:(some (compare n m) == some Ordering.gt)=decide (m < n):=by
 show (some (compareOfLessAndEq n m) == some Ordering.gt)=_
 unfold compareOfLessAndEq
 by_cases h:n < m
 ·simp [h];omega
 ·by_cases h2:n=m
  ·simp [h2]
  ·have:m < n:=by omega
   simp [h,h2,this]
section
variable {P:Program} {h:TH} {K:Regs→TH→Prop} {rest:List TOper} {d:Option Tmp} {ty:TypeId} {i:Nat} {x y:Operand} {t u:TypeId} {L:Rg}
end
end Go.Tidy
namespace Go.Tidy
open Go Go.Proofs Tab
variable {tp:TProg}
section
variable {P:Program} {h:TH} {K:Regs→TH→Prop} {rest:List TOper} {d:Option Tmp} {ty:TypeId} {i:Nat} {x y:Operand} {t u:TypeId} {L:Rg}
end
def encY (b:Nat):List Value:=[.int .u8 (b:Nat)]
theorem eY:Enc encY 1:=⟨fun _=>rfl,fun _=>rfl⟩
section
variable {h:TH} {v:Value} {l:List Nat} {c:Nat}
end
def Byt (l:List Nat):Prop:=∀ b,b ∈ l→b < 256
theorem Byt.at {l:List Nat} (h:Byt l) (j:Nat):l.getD j 0 < 256:=by
 rw [List.getD_eq_getElem?_getD]
 cases hj:l[j]? with
 | none=>show (0:Nat) < 256;decide
 | some b=>exact h b (List.mem_of_getElem? hj)
section
variable {h:TH} {l:List Nat} {bo:Option Addr} {n k:Nat}
end
end Go.Tidy
namespace Go.Tidy
open Go Go.Proofs Tab
variable {tp:TProg}
def trcV (n:Int) (v1 v2:Value):Value:=.agg #[.int .i64 n,v1,v2]
structure TrcH (h:TH) (v1 v2:Value) (L:List Int) (S:List (Int × Int)):Prop where
 l:SlL encI 1 h v1 L
 s:SlL encS 2 h v2 S
 g:Fits h v1 3
theorem TrcH.hx {h h':TH} {v1 v2:Value} {L:List Int} {S:List (Int × Int)} (r:TrcH h v1 v2 L S) (x:HX h h'):TrcH h' v1 v2 L S:=⟨r.l.hx x,r.s.hx x,r.g.hx x⟩
theorem TrcH.relock {h:TH} {v1 v2:Value} {L:List Int} {S:List (Int × Int)} (r:TrcH h v1 v2 L S) (M:List Nat):TrcH (h.withLock M) v1 v2 L S:=⟨r.l.relock M,r.s.relock M,fun b off m cap e=>by
 obtain ⟨cc,fix,wr,el,r1,r2⟩:=r.g b off m cap e
 exact ⟨cc,fix,wr,el,r1.relock _,r2⟩⟩
def readE (x:Int):Int:=outB x (-1073741824) 1073741824
section
variable {h:TH}
end
theorem fNZ_at {E:List Int} {j:Nat} {e:Int} (h1:∀ i,i < j→E.getD i 0=0) (h2:E[j]?=some e) (h3:e≠0):firstNZ E=e:=by
 rw [firstNZ_drop h1]
 have hj:=(List.getElem?_eq_some_iff.1 h2).1
 rw [List.drop_eq_getElem_cons hj,(List.getElem?_eq_some_iff.1 h2).2]
 show cond (e != 0) e _=e
 rw [bne_iff_ne.2 h3];rfl
theorem fNZ_all {E:List Int} (h:∀ i,i < E.length→E.getD i 0=0):firstNZ E=0:=by
 rw [firstNZ_drop h,List.drop_length];rfl
section
variable {h:TH} {v:Value} {L:List Int}
set_option maxHeartbeats 1000000 in
theorem k1190 (H:Has tp) (s:SlL encI 1 h v L) (hl:L.length≤1000000) {f:Int→Int} {fv:Value} (hf:∀ x,CallW Tryz.prog tp fv #[zi x] h fun v h'=>v=zi (f x)∧h'=h):CallW Tryz.prog tp (.func (.func 162) #[] #[]) #[v,fv] h fun w h'=>w=zi (firstNZ (L.map f))∧h'=h:=by
  refine CallW.fnL (H.fn 162 f1190 rfl rfl) ?_
  refine WL.sr<|WOL.as rfl<|WOL.nil ?_
  refine WL.seq<|WL.sr<|WOL.mv rfl<|WOL.len rfl s u29<|WOL.mv rfl<|WOL.nil<|keep [(1,_),(8,_),(9,_),(10,_)] ⟨rfl,rfl,rfl,rfl,trivial⟩ ?_
  refine WL.upto (α:=Unit) L.length (fun j _ g=>g=h∧∀ i,i < j→(L.map f).getD i 0=0) (fun _ _=>[(1,fv),(8,v),(9,zi (L.length:Nat))]) () rfl rfl (by omega) ⟨rfl,fun i hi=>absurd hi (by omega)⟩ ⟨rfl,rfl,rfl,rfl,trivial⟩ (fun _ _=>rfl) (fun _ _ _=>⟨rfl,rfl,rfl,rfl,trivial⟩) (fun _ _ _=>⟨rfl,rfl,rfl,rfl,trivial⟩) ?_ ?_
  · rintro j _ g hj ⟨rfl,hz⟩
    have hp:L[j]?=some L[j]:=List.getElem?_eq_getElem hj
    generalize L[j]=x at hp
    obtain ⟨b,o,cc,fix,wr,el,g1,g2,g3,g4,g5⟩:=s.at eI u29 tp3 hp .i64
    have he:(L.map f)[j]?=some (f x):=by rw [List.getElem?_map,hp];rfl
    refine WL.sr<|WOL.ix rfl rfl g1<|WOL.ld rfl (load_one tp3 g2 (by have:=g5 0 (by decide);rwa [Nat.add_zero] at this))<|WOL.as rfl<|WOL.nil<|keep [(1,_),(6,_),(8,_),(9,_),(10,_)] ⟨rfl,rfl,rfl,rfl,rfl,trivial⟩ ?_
    refine WL.sr<|WOL.mv rfl<|WOL.mv rfl<|WOL.cl1 rfl rfl ((hf x).mono ?_)
    rintro w g' ⟨rfl,rfl⟩
    refine WOL.as rfl<|WOL.nil<|keep [(1,_),(7,_),(8,_),(9,_),(10,_)] ⟨rfl,rfl,rfl,rfl,rfl,trivial⟩ ?_
    by_cases h0:f x=0
    · refine WL.sr<|WOL.mv rfl<|WOL.bf rfl rfl rfl (bne_eq_false_iff_eq.2 h0)<|WOL.nil<|keep [(1,_),(8,_),(9,_),(10,_),(18,_)] ⟨rfl,rfl,rfl,rfl,rfl,trivial⟩ ?_
      refine WL.no rfl<|WL.skip fun a q=>⟨(),⟨rfl,fun i hi=>?_⟩,q.sub ⟨rfl,rfl,rfl,rfl,trivial⟩⟩
      by_cases e:i=j
      · subst e
        rw [List.getD_eq_getElem?_getD,he]
        exact h0
      · exact hz i (by omega)
    · refine WL.sr<|WOL.mv rfl<|WOL.bt rfl rfl rfl (bne_iff_ne.2 h0)<|WOL.nil<|keep [(7,_),(18,_)] ⟨rfl,rfl,trivial⟩ ?_
      refine WL.yes rfl<|WL.sr<|WOL.mv rfl<|WOL.as rfl<|WOL.nil ?_
      exact WL.ret (WL.end_ rfl ⟨by rw [fNZ_at hz he h0];rfl,rfl⟩)
  · rintro _ g ⟨rfl,hz⟩
    refine WL.sr<|WOL.as rfl<|WOL.nil ?_
    exact WL.ret (WL.end_ rfl ⟨by rw [fNZ_all (fun i hi=>hz i (by rw [List.length_map] at hi;exact hi))];rfl,rfl⟩)
end
end Go.Tidy
namespace Go.Tidy
open Go Go.Proofs Tab
variable {tp:TProg}
theorem WOL.cut {P:Program} {tp:TProg} {h:TH} {K:Regs→TH→Prop} {ops:List TOper} {L:Rg} (n:Nat) (M:Rg) (w1:∀ a,Kn L a→WO P tp (ops.take n) a h (fun a' h'=>h'=h∧Kn M a')) (w2:∀ a,Kn M a→WO P tp (ops.drop n) a h K):∀ a,Kn L a→WO P tp ops a h K :=
 fun a k=>WO.cut n ((w1 a k).mono fun a' h' ⟨e,k'⟩=>by subst e;exact w2 a' k')
theorem SlL.part {α:Type} {enc:α→List Value} {n:Nat} {h:TH} {b off m cap lo hi:Nat} {l:List α} (E:Enc enc n) (s:SlL enc n h (.slice (some ⟨b,off,none⟩) m cap) l) (h1:lo≤hi) (h2:hi≤l.length):SlL enc n h (.slice (some ⟨b,off+lo*n,none⟩) (hi - lo) (cap - lo)) ((l.drop lo).take (hi - lo)):=by
 have e:((l.drop lo).take (hi - lo)).length=hi - lo:=by rw [List.length_take,List.length_drop];omega
 obtain ⟨bo,cap',e1,hc,hl,hh⟩:=s
 cases e1
 rcases hh with ⟨q,_⟩ | ⟨b',off',cc,fix,wr,el,q1,A,q2,q3⟩
 ·cases q
 ·cases q1
  have hm:hi*n≤l.length*n:=Nat.mul_le_mul_right _ h2
  have hlo:lo*n+(hi - lo)*n=hi*n:=by rw [← Nat.add_mul];congr 1;omega
  refine ⟨_,cap - lo,by rw [e],by rw [e];omega,by rw [E.cat_len],.inr ⟨b,off+lo*n,cc,fix,wr,el,rfl,A,?_,by rw [e];omega⟩⟩
  rw [e,← E.take,← E.drop,← q2,List.drop_take,List.take_take,List.drop_drop,Nat.min_eq_left (by omega)]
section
variable {h:TH} {n:Int} {v1 v2:Value} {L:List Int} {S:List (Int × Int)}
end
end Go.Tidy
namespace Go.Tidy
open Go Go.Proofs Tab
variable {tp:TProg}
structure RowA (g:TH) (bv bk:Nat) (L:List Int) (B:List Bool):Prop where
 v:At g bv (.cells (cat encI L) true true 3)
 k:At g bk (.cells (cat encB B) true true 4)
 e:B.length=L.length
 n:bv≠bk
theorem RowA.hx {g g':TH} {bv bk:Nat} {L:List Int} {B:List Bool} (r:RowA g bv bk L B) (x:HX g g'):RowA g' bv bk L B:=⟨r.v.hx x,r.k.hx x,r.e,r.n⟩
abbrev slA (b m:Nat):Value:=.slice (some ⟨b,0,none⟩) m m
def largeB (x:Int):Bool:=readE x != 0
section
variable {h:TH} {n:Int} {L:List Int} {B:List Bool}
theorem rep_flat {z:Value}:∀ m:Nat,(List.replicate m [z]).flatten=List.replicate m z
 | 0=>rfl
 | m+1=>by rw [List.replicate_succ,List.flatten_cons,rep_flat m];rfl
theorem cat_rep {α:Type} {enc:α→List Value} {x:α} {z:Value} (h:enc x=[z]):∀ m:Nat,cat enc (List.replicate m x)=List.replicate m z
 | 0=>rfl
 | m+1=>by
  rw [List.replicate_succ,List.replicate_succ]
  show enc x ++ cat enc (List.replicate m x)=_
  rw [h,cat_rep h m]
  rfl
end
end Go.Tidy
namespace Go.Tidy
open Go Go.Proofs Tab
variable {tp:TProg}
section
variable {P:Program} {h:TH} {K:Regs→TH→Prop} {rest:List TOper} {d:Option Tmp} {ty:TypeId} {i:Nat} {x y z:Operand} {t u s:TypeId} {L:Rg}
theorem WOL.imax {m n:Int} (hx:getL L x=some (zi m)) (hy:getL L y=some (zi n)) (w:∀ a,Kn (putL L d (zi (max m n))) a→WO P tp rest a h K):∀ a,Kn L a→WO P tp (⟨d,.call ⟨.builtin .max,#[x,y],#[t,u]⟩,ty,none,[],i⟩::rest) a h K:=by
 intro a k
 have ex:=getO_eval (k.o hx)
 have ey:=getO_eval (k.o hy)
 have q:(if m < n then n else m)=max m n:=by rw [Int.max_def];split <;> split <;> omega
 refine WO.plainly rfl rfl rfl rfl rfl (plainOp_of rfl (fun p hp=>?_) ?_ rfl) (w _ (k.put d _))
 ·simp only [Op.operands,Call.operands] at hp
  simp at hp
  rcases hp with rfl | rfl
  ·rw [ex];rfl
  ·rw [ey];rfl
 ·simp [toOper,execOp,resolve,invoke,builtin,Builtin.max_,Builtin.max2,pv_bind,pv_map,pv_pure,ex,ey,q]
end
end Go.Tidy
namespace Go.Tidy
open Go Go.Proofs Tab
variable {tp:TProg}
section
variable {m:Int} {C:Nat→List (Int × Bool)}
end
theorem tp83:Tp Tryz.prog 183 3 [.int .i64 0,.int .i64 0,.int .i64 0] true:=tp_of (by kernel_rfl) (by kernel_rfl) rfl
end Go.Tidy
namespace Go.Tidy
open Go Go.Proofs Tab
variable {tp:TProg}
structure TrcO (n0:Nat) (g:TH) (bv:Nat) (w:Value) (L:List Int) (S:List (Int × Int)):Prop where
 v:At g bv (.cells (cat encI L) true true 3)
 s:OwnL encS n0 g w 43 S
theorem TrcO.hx {n0 bv:Nat} {g g':TH} {w:Value} {L:List Int} {S:List (Int × Int)} (r:TrcO n0 g bv w L S) (x:HX g g'):TrcO n0 g' bv w L S:=⟨r.v.hx x,r.s.hx x⟩
theorem TrcO.put {n0 bv c:Nat} {g g':TH} {w:Value} {L:List Int} {S:List (Int × Int)} {x:TB} (r:TrcO n0 g bv w L S) (p:Put g g' c x) (h1:bv≠c) (h2:c < n0):TrcO n0 g' bv w L S:=⟨p.oth _ _ h1 r.v,r.s.keep fun z y hz a=>p.oth _ _ (by have:=r.s.lt hz;omega) a⟩
theorem TrcO.form {n0 bv:Nat} {g:TH} {w:Value} {L:List Int} {S:List (Int × Int)} (r:TrcO n0 g bv w L S):∃ b m k,w=.slice b m k:=by
 rcases r.s with ⟨rfl,_⟩ | ⟨_,b,rfl,_⟩
 ·exact ⟨_,_,_,rfl⟩
 ·exact ⟨_,_,_,rfl⟩
theorem TrcO.low {n0 n1 bv:Nat} {g:TH} {w:Value} {L:List Int} {S:List (Int × Int)} (r:TrcO n1 g bv w L S) (h:n0≤n1):TrcO n0 g bv w L S:=⟨r.v,by
 rcases r.s with q | ⟨q1,b,q2,q3,q4⟩
 ·exact .inl q
 ·exact .inr ⟨q1,b,q2,by omega,q4⟩⟩
section
variable {h:TH} {n:Int} {L:List Int} {B:List Bool} {bv bk:Nat}
end
end Go.Tidy
namespace Go.Tidy
open Go Go.Proofs Tab
variable {tp:TProg}
section
variable {h:TH} {l:List Nat} {v:Value} {bo:Option Addr} {n k:Nat}
end
section
variable {h:TH} {l:List Nat} {bo:Option Addr} {n k:Nat}
end
def OwnF {α:Type} (enc:α→List Value) (n0:Nat) (h:TH) (v:Value) (e:TypeId) (l:List α):Prop :=
 OwnL enc n0 h v e l∨(∃ b,v=.slice (some ⟨b,0,none⟩) l.length l.length∧n0≤b∧At h b (.cells (cat enc l) true true e))
section
variable {P:Program} {h:TH} {α:Type} {enc:α→List Value} {n0 n:Nat} {v:Value} {e:TypeId} {l:List α} {z:List Value} {row:Bool}
theorem OwnF.hx {h':TH} (o:OwnF enc n0 h v e l) (x:HX h h'):OwnF enc n0 h' v e l:=o.imp (fun o=>o.hx x) fun ⟨b,h1,h2,h3⟩=>⟨b,h1,h2,h3.hx x⟩
theorem OwnF.sl (E:Enc enc n) (o:OwnF enc n0 h v e l):SlL enc n h v l:=by
 rcases o with o | ⟨b,rfl,_,h3⟩
 ·exact o.sl E
 ·exact SlL.own E h3 rfl
theorem OwnF.form (o:OwnF enc n0 h v e l):∃ bo,v=.slice bo l.length l.length:=by
 rcases o with (⟨rfl,rfl⟩ | ⟨_,b,rfl,_⟩) | ⟨b,rfl,_⟩
 ·exact ⟨_,rfl⟩
 ·exact ⟨_,rfl⟩
 ·exact ⟨_,rfl⟩
end
section
variable {P:Program} {h:TH} {K:Regs→TH→Prop} {rest:List TOper} {d:Option Tmp} {ty:TypeId} {i:Nat} {x:Operand} {L:Rg}
end
section
variable {h hb:TH} {l:List Nat} {v:Value} {n k n0:Nat}
end
end Go.Tidy
namespace Go.Tidy
open Go Go.Proofs Tab
variable {tp:TProg}
theorem WOL.idx {P:Program} {h:TH} {K:Regs→TH→Prop} {rest:List TOper} {d:Option Tmp} {ty:TypeId} {i:Nat} {x y:Operand} {t:TypeId} {L:Rg} {cs:Array Value} {k:IntKind} {z:Int} {v:Value} (hx:getL L x=some (.agg cs)) (hy:getL L y=some (.int k z)) (hv:indexT P t (.agg cs) (.int k z)=some v) (w:∀ a,Kn (putL L d v) a→WO P tp rest a h K):∀ a,Kn L a→WO P tp (⟨d,.index t x y,ty,none,[],i⟩::rest) a h K:=fun a q=>by
 have ex:=getO_eval (q.o hx)
 have ey:=getO_eval (q.o hy)
 exact WO.op (h1:=h) rfl rfl (fun call=>by simp [stepOp,heapFirst,fastOp,valueOp,ex,ey,hv]) (w _ (q.put d _))
def Tail3 (s:Nat→ByteArray) (n:Nat→Int) (F:Nat→List Nat) (S:Nat→List (Int × Int)) (es L:Nat→List Int):Prop:=∀ k,2≤k→s k=s 2∧n k=n 2∧F k=F 2∧S k=S 2∧es k=es 2∧L k=L 2
section
variable {s:Nat→ByteArray} {n:Nat→Int} {v1 v2:Nat→Value} {F:Nat→List Nat} {S:Nat→List (Int × Int)} {es L:Nat→List Int} {h:TH} {lb:Nat} {el:Int}
theorem Tail3.some (t:Tail3 s n F S es L):∀ k,∃ j,j < 3∧s k=s j∧n k=n j∧F k=F j∧S k=S j∧es k=es j∧L k=L j:=by
 intro k
 by_cases h0:k=0
 ·subst h0;exact ⟨0,by decide,rfl,rfl,rfl,rfl,rfl,rfl⟩
 ·by_cases h1:k=1
  ·subst h1;exact ⟨1,by decide,rfl,rfl,rfl,rfl,rfl,rfl⟩
  ·exact ⟨2,by decide,t k (by omega)⟩
end
end Go.Tidy
namespace Go.Tidy
open Go Go.Proofs Tab
variable {tp:TProg}
def optL (L:Rg):Option Operand→Option (Option Value)
 | none=>some none
 | some x=>(getL L x).map some
theorem optL_o {L:Rg} {a:Regs} (k:Kn L a) {x:Option Operand} {v:Option Value} (h:optL L x=some v):x.map a.eval=v:=by
 cases x with
 | none=>cases h;rfl
 | some x =>
  simp only [optL,Option.map_eq_some_iff] at h
  obtain ⟨w,h1,rfl⟩:=h
  show some (a.eval x)=some w
  rw [getO_eval (k.o h1)]
section
variable {P:Program} {h:TH} {K:Regs→TH→Prop} {rest:List TOper} {d:Option Tmp} {ty:TypeId} {i:Nat} {x y:Operand} {t u e:TypeId} {L:Rg} {v vx:Value}
theorem WOL.slG {lo hi:Option Operand} {vlo vhi:Option Value} (hx:getL L x=some vx) (hp:plain vx=false) (hl:optL L lo=some vlo) (hh:optL L hi=some vhi) (hv:sliceT P t vx vlo vhi none h=some v) (w:∀ a,Kn (putL L d v) a→WO P tp rest a h K):∀ a,Kn L a→WO P tp (⟨d,.slice t x lo hi none,ty,none,[],i⟩::rest) a h K:=fun a k=>by
 have e1:=getO_eval (k.o hx)
 have e2:=optL_o k hl
 have e3:=optL_o k hh
 refine WO.op (h1:=h) rfl rfl (fun call=>?_) (w _ (k.put d _))
 have hq:plainOp P ⟨d,.slice t x lo hi none,ty,none,[],i⟩ a.eval=none:=by
  unfold plainOp
  simp [plainly,Op.operands,e1,hp]
 simp only [stepOp,heapFirst,fastOp,valueOp,hq,heapOp,e1,e2,e3,Option.map_none,hv,Bool.cond_false]
 rfl
end
section
variable {h:TH} {s c:Int} {x y z:Nat} {es:List Int}
end
section
variable {P:Program} {h:TH} {K:Regs→TH→Prop} {rest:List TOper} {d:Option Tmp} {ty:TypeId} {i:Nat} {x:Operand} {t e:TypeId} {L:Rg}
end
def wd (x y z:Nat):Nat→Nat | 0=>x | 1=>y | _=>z
theorem OwnF.at_ {α:Type} {enc:α→List Value} {n0:Nat} {h:TH} {v:Value} {e:TypeId} {l:List α} (o:OwnF enc n0 h v e l) (hl:l≠[]):∃ b fix,v=.slice (some ⟨b,0,none⟩) l.length l.length∧At h b (.cells (cat enc l) fix true e):=by
 rcases o with (⟨_,rfl⟩ | ⟨_,b,rfl,_,h3⟩) | ⟨b,rfl,_,h3⟩
 ·exact absurd rfl hl
 ·exact ⟨b,_,rfl,h3⟩
 ·exact ⟨b,_,rfl,h3⟩
section
variable {h:TH} {s c x y z:Nat}
end
end Go.Tidy
namespace Go.Tidy
open Go Go.Proofs Tab
variable {tp:TProg}
theorem Free0.heldO {n:Nat} {M:List Nat} {h:TH} {os:List (Option Nat)} (f:Free0 n h) (hM:∀ l,l ∈ M→some l ∈ os∨l ∈ h.lock) (hb:∀ b,some b ∈ os→b < n):Free0 n (h.withLock M) :=
 ⟨f.floor,fun l hl=>(hM l hl).elim (hb l) (f.lock l)⟩
section
variable {P:Program} {h:TH} {K:Regs→TH→Prop} {rest:List TOper} {d:Option Tmp} {ty:TypeId} {i:Nat} {L:Rg} {f x0 l0:Operand} {ls:List Operand} {fv v0:Value} {ts:Array TypeId}
end
section
variable {h:TH} {s c:Int} {x y z:Nat} {es:List Int}
end
end Go.Tidy
namespace Go.Tidy
open Go Go.Proofs Tab
variable {tp:TProg}
theorem Byt.drop {l:List Nat} (h:Byt l) (k:Nat):Byt (l.drop k):=fun b hb=>h b (List.mem_of_mem_drop hb)
theorem Byt.take {l:List Nat} (h:Byt l) (k:Nat):Byt (l.take k):=fun b hb=>h b (List.mem_of_mem_take hb)
section
variable {h:TH} {l:List Nat} {b:Nat} {fix wr:Bool} {el:TypeId}
end
section
variable {h:TH} {l:List Nat} {es:List Int}
end
end Go.Tidy
namespace Go.Tidy
open Go Go.Proofs Tab
variable {tp:TProg}
section
variable {P:Program} {h:TH} {α:Type} {enc:α→List Value} {n0 n:Nat} {v v2:Value} {e:TypeId} {l m:List α} {z:List Value} {row:Bool}
end
section
variable {P:Program} {h:TH} {K:Regs→TH→Prop} {rest:List TOper} {d:Option Tmp} {ty:TypeId} {i:Nat} {L:Rg} {f x0 x1 l0:Operand} {ls:List Operand} {fv v0 v1:Value} {ts:Array TypeId}
end
theorem OwnL.relock {α:Type} {enc:α→List Value} {n0:Nat} {h:TH} {v:Value} {e:TypeId} {l:List α} (o:OwnL enc n0 h v e l) (M:List Nat):OwnL enc n0 (h.withLock M) v e l:=o.imp id fun ⟨h0,b,h1,h2,h3⟩=>⟨h0,b,h1,h2,h3.relock M⟩
section
variable {h:TH} {s c x y z:Nat}
end
end Go.Tidy
namespace Go.Tidy
open Go Go.Proofs Tab
variable {tp:TProg}
abbrev Pkt:=Int × Int × Nat × Nat × Nat
section
variable {h:TH} {p:Pkt} {v:Value} {l:List Pkt} {E:List Int}
end
end Go.Tidy
namespace Go.Tidy
open Go Go.Proofs Tab
variable {tp:TProg}
section
variable {h:TH} {v:Value} {l:List Pkt} {src:Int}
def LostA (L:List Int) (n0:Nat) (h:TH) (w:Value) (e:Int):Prop:=(L.length≤256∧e=0∧OwnL encI n0 h w 3 L)∨(256 < L.length∧e=5∧w=.slice none 0 0)
end
end Go.Tidy
namespace Go.Tidy
open Go Go.Proofs Tab
theorem LostA.hx {L:List Int} {n0:Nat} {g g':TH} {w:Value} {e:Int} (a:LostA L n0 g w e) (x:HX g g'):LostA L n0 g' w e :=
 a.imp (fun ⟨h1,h2,h3⟩=>⟨h1,h2,h3.hx x⟩) id
end Go.Tidy
namespace Go.Tidy
open Go Go.Proofs Tab
variable {tp:TProg}
section
variable {P:Program} {h:TH} {α:Type} {enc:α→List Value} {n0 n:Nat} {v:Value} {e:TypeId} {l:List α} {z:List Value} {row:Bool}
end
section
variable {h hb:TH} {l:List Nat} {v:Value} {n k n0:Nat}
end
theorem OwnF.lt {α:Type} {enc:α→List Value} {n0:Nat} {h:TH} {v:Value} {e:TypeId} {l:List α} (o:OwnF enc n0 h v e l) {c:Nat} (hc:bl v=some c):n0≤c∧c < h.next:=by
 rcases o with o | ⟨b,rfl,h2,h3⟩
 ·exact o.lt hc
 ·cases hc;exact ⟨h2,h3.lt⟩
section
variable {s:ByteArray} {n:Int} {v1 v2:Value} {F:List Nat} {S:List (Int × Int)} {es L:List Int} {h:TH}
end
end Go.Tidy
namespace Go.Tidy
open Go Go.Proofs Tab
variable {tp:TProg}
section
variable {P:Program} {h:TH} {K:Regs→TH→Prop} {rest:List TOper} {d:Option Tmp} {ty:TypeId} {i:Nat} {x:Operand} {L:Rg} {q:Addr} {t e:TypeId} {n:Nat} {z:List Value} {row:Bool}
theorem bound_in {q:IntKind} {r dflt upper:Nat} (hr:r≤upper):boundT (some (.int q (r:Nat))) dflt upper=some r:=by
 have d1:decide (0≤(r:Int))=true:=decide_eq_true (Int.natCast_nonneg _)
 have d2:decide ((r:Int)≤(upper:Int))=true:=decide_eq_true (Int.ofNat_le.2 hr)
 simp only [boundT,d1,d2,Bool.and_self,Bool.cond_true,Int.toNat_natCast]
theorem fits_of {b:Nat} {cc:List Value} {fix wr:Bool} {el:TypeId} (hb:At h b (.cells cc fix wr el)) (hf:fix=true∨el=e):elemFits h b e=true:=by
 unfold elemFits
 rw [hb.get]
 rcases hf with rfl | rfl
 ·rfl
 ·simp
theorem sliceT_to {b off m cap hi:Nat} {k:IntKind} {cc:List Value} {fix wr:Bool} {el:TypeId} (hu:P.underlying t=some (.slice e)) (he:Tp P e n z row) (hc:m≤cap) (h2:hi≤m) (hb:At h b (.cells cc fix wr el)) (hf:fix=true∨el=e) :
  sliceT P t (.slice (some ⟨b,off,none⟩) m cap) none (some (.int k (hi:Nat))) none h=some (.slice (some ⟨b,off,none⟩) hi cap):=by
 obtain ⟨inf,q1,q2,q3,_⟩:=he.i
 have hcut:cut3 m cap none (some (.int k (hi:Nat))) none=some (0,hi,cap):=by
  simp only [cut3,show boundT none cap cap=some cap from rfl,show ∀ x,boundT none 0 x=some 0 from fun _=>rfl,Option.bind_some,Option.isNone_some,Option.isSome_none,Bool.and_self,Bool.cond_false,bound_in (show hi≤cap by omega),Option.map_some]
 simp only [sliceT,hu,ble_yes hc,Bool.cond_true,hcut,Option.bind_some,q1,fits_of hb hf,q2,Nat.zero_mul,Nat.add_zero,Nat.sub_zero]
theorem sliceT_from {b off m cap lo:Nat} {k:IntKind} {cc:List Value} {fix wr:Bool} {el:TypeId} (hu:P.underlying t=some (.slice e)) (he:Tp P e n z row) (hc:m≤cap) (h2:lo≤m) (hb:At h b (.cells cc fix wr el)) (hf:fix=true∨el=e) :
  sliceT P t (.slice (some ⟨b,off,none⟩) m cap) (some (.int k (lo:Nat))) none none h=some (.slice (some ⟨b,off+lo*n,none⟩) (m - lo) (cap - lo)):=by
 obtain ⟨inf,q1,q2,q3,_⟩:=he.i
 have hcut:cut3 m cap (some (.int k (lo:Nat))) none none=some (lo,m,cap):=by
  simp only [cut3,show boundT none cap cap=some cap from rfl,show boundT none m cap=some m from rfl,Option.bind_some,Option.isNone_none,Option.isSome_none,Bool.and_false,Bool.cond_false,bound_in h2,Option.map_some]
 simp only [sliceT,hu,ble_yes hc,Bool.cond_true,hcut,Option.bind_some,q1,fits_of hb hf,q2]
end
structure Stm (h:TH) (b o cap:Nat) (l:List Nat):Prop where
 ex:∃ cc fix wr el,At h b (.cells cc fix wr el)∧(cc.drop o).take l.length=cat encY l∧o+l.length≤cc.length∧(fix=true∨el=5)
 cap:l.length≤cap
section
variable {h h':TH} {b o cap:Nat} {l:List Nat}
theorem Stm.hx (s:Stm h b o cap l) (x:HX h h'):Stm h' b o cap l:=⟨by
 obtain ⟨cc,fix,wr,el,a,r⟩:=s.ex
 exact ⟨cc,fix,wr,el,a.hx x,r⟩,s.cap⟩
theorem Stm.oth (s:Stm h b o cap l) {c:Nat} (k:∀ z y,z≠c→At h z y→At h' z y) (hb:b≠c):Stm h' b o cap l:=⟨by
 obtain ⟨cc,fix,wr,el,a,r⟩:=s.ex
 exact ⟨cc,fix,wr,el,k _ _ hb a,r⟩,s.cap⟩
theorem Stm.part (s:Stm h b o cap l) {p k c:Nat} (hpk:p+k≤l.length) (hc:k≤c):SlL encY 1 h (.slice (some ⟨b,o+p,none⟩) k c) ((l.drop p).take k):=by
 obtain ⟨cc,fix,wr,el,a,e1,e2,_⟩:=s.ex
 have hl:((l.drop p).take k).length=k:=by rw [List.length_take,List.length_drop];omega
 refine ⟨_,c,by rw [hl],by rw [hl];exact hc,by rw [eY.cat_len],.inr ⟨b,o+p,cc,fix,wr,el,rfl,a,?_,?_⟩⟩
 ·rw [hl,Nat.mul_one]
  have q:=eY.part l p k
  rw [Nat.mul_one,Nat.mul_one] at q
  rw [← q,← e1,List.drop_take,List.take_take,List.drop_drop,Nat.min_eq_left (by omega)]
 ·rw [hl];omega
end
abbrev Cu:=Nat × Bool
section
variable {h:TH} {b o cap c4 n0:Nat} {l:List Nat} {c:Cu}
end
end Go.Tidy
namespace Go.Tidy
open Go Go.Proofs Tab
variable {tp:TProg}
def valC (C:List (Int × Bool)):List Int:=C.map fun c=>cond c.2 c.1 0
def bigC (C:List (Int × Bool)):Bool:=C.any fun c=>c.2 && largeB c.1
section
variable {h g:TH} {n:Int} {v:Value} {C:List (Int × Bool)} {j:Nat}
end
end Go.Tidy
namespace Go.Tidy
open Go Go.Proofs Tab
variable {tp:TProg}
theorem OwnL.low {α:Type} {enc:α→List Value} {n0 n1:Nat} {h:TH} {v:Value} {e:TypeId} {l:List α} (o:OwnL enc n1 h v e l) (h0:n0≤n1):OwnL enc n0 h v e l:=by
 rcases o with q | ⟨q1,b,q2,q3,q4⟩
 ·exact .inl q
 ·exact .inr ⟨q1,b,q2,by omega,q4⟩
section
variable {h:TH} {n n':Int} {v1 v2 w1 w2:Value} {L1 L2:List Int} {S1 S2:List (Int × Int)}
end
end Go.Tidy
namespace Go.Tidy
open Go Go.Proofs Tab
variable {tp:TProg}
theorem tbl_get {α:Type} {f:Nat→α} {m i:Nat}:((List.range m).map f)[i]?=if i < m then some (f i) else none:=by
 rw [List.getElem?_map]
 by_cases h:i < m
 ·rw [List.getElem?_range h,if_pos h];rfl
 ·rw [List.getElem?_eq_none (by rw [List.length_range];omega),if_neg h];rfl
section
variable {α:Type} {z:α} {C:List α} {m j:Nat}
end
def ProgR (n:Int) (e:Int) (C:List (Int × Bool)) (n0:Nat) (h':TH) (v:Value):Prop :=
 (e≠0∧v=.tuple #[trcV 0 (.slice none 0 0) (.slice none 0 0),zi e])∨(e=0∧bigC C=true∧v=.tuple #[trcV 0 (.slice none 0 0) (.slice none 0 0),zi 4])∨(e=0∧bigC C=false∧∃ bv w,v=.tuple #[trcV n (slA bv C.length) w,zi 0]∧n0≤bv∧TrcO n0 h' bv w (valC C) (holesOf (C.map fun c=>c.2)))
section
variable {h:TH} {n n':Int} {v1 v2 w1 w2:Value} {L1 L2:List Int} {S1 S2:List (Int × Int)}
end
end Go.Tidy
namespace Go.Tidy
open Go Go.Proofs Tab
variable {tp:TProg}
def RevR (n p e:Int) (L:List Int) (S:List (Int × Int)) (n0:Nat) (h':TH) (v:Value):Prop :=
 (e≠0∧v=.tuple #[trcV 0 (.slice none 0 0) (.slice none 0 0),zi e])∨(e=0∧(2*p+1 - (n+L.length) < 0∨2*p+1 - (n+L.length)+L.length > 100000000)∧v=.tuple #[trcV 0 (.slice none 0 0) (.slice none 0 0),zi 14])∨(e=0∧0≤2*p+1 - (n+L.length)∧2*p+1 - (n+L.length)+L.length≤100000000∧∃ bv w,v=.tuple #[trcV (2*p+1 - (n+L.length)) (slA bv L.length) w,zi 0]∧n0≤bv∧TrcO n0 h' bv w L.reverse (holesOf (knownL S L.length).reverse))
section
variable {h:TH} {n p:Int} {v1 v2:Value} {L:List Int} {S:List (Int × Int)}
end
end Go.Tidy
namespace Go.Tidy
open Go Go.Proofs Tab
def Ans (n:Int) (o:Int × List Int × List (Int × Int)) (n0:Nat) (g:TH) (v:Value):Prop:=∃ z y1 y2,v=.tuple #[trcV z y1 y2,zi o.1]∧IsInts g y1 o.2.1∧SlL encS 2 g y2 o.2.2∧(∀ z,bl y1=some z→n0≤z)∧(∀ z,bl y2=some z→n0≤z)∧((o.1≠0∧z=0∧o.2.1=[]∧o.2.2=[])∨(o.1=0∧z=n))
theorem Ans.err {n e:Int} {n0:Nat} {g:TH} {v:Value} (he:e≠0) (hv:v=.tuple #[trcV 0 (.slice none 0 0) (.slice none 0 0),zi e]):Ans n (e,[],[]) n0 g v:=⟨0,_,_,hv,.inl ⟨rfl,rfl⟩,SlL.nil,fun z hz=>(by cases hz),fun z hz=>(by cases hz),.inl ⟨he,rfl,rfl,rfl⟩⟩
end Go.Tidy
namespace Go.Tidy
open Go Go.Proofs Tab
variable {tp:TProg}
section
variable {h:TH} {l:List Nat} {bo:Option Addr} {n k:Nat}
end
section
variable {h:TH} {K:Regs→TH→Prop} {rest:List TOper} {d:Option Tmp} {ty:TypeId} {i:Nat} {x:Operand} {L:Rg} {v:Value} {m:List Nat}
end
section
variable {hb h g g2 g':TH} {n b o cap c4 c2 c3 nB:Nat} {cur cur':Cu} {s s':ByteArray} {fi fi':Int} {w1 w2 w':Value} {F F':List Nat} {S S':List (Int × Int)}
theorem Put.relock {M:List Nat} {x:TB} {c:Nat} {h1:TH} (p:Put (h.withLock M) h1 c x):Put h (h1.withLock h.lock) c x :=
 ⟨p.at_.relock _,fun z y hz a=>(p.oth z y hz (a.relock M)).relock _,p.next,p.floor,rfl,fun h0 y hb=>by rw [y.lock];exact (p.hx _ (y.locked M) hb).relock⟩
end
end Go.Tidy
namespace Go.Tidy
open Go Go.Proofs Tab
variable {tp:TProg}
section
variable (l:List Nat) (c:Cu)
end
section
variable {h g:TH} {l:List Nat} {b o cap:Nat}
theorem Stm.relock (s:Stm h b o cap l) (M:List Nat):Stm (h.withLock M) b o cap l:=⟨by
 obtain ⟨cc,fix,wr,el,a,r⟩:=s.ex
 exact ⟨cc,fix,wr,el,a.relock M,r⟩,s.cap⟩
end
section
variable {hb h:TH} {l:List Nat} {b o cap c4:Nat} {c:Cu}
end
end Go.Tidy
namespace Go.Tidy
open Go Go.Proofs Tab
variable {tp:TProg}
section
variable {P:Program} {h:TH} {K:Regs→TH→Prop} {rest:List TOper} {d:Option Tmp} {ty:TypeId} {i:Nat} {x y:Operand} {t u:TypeId} {L:Rg} {s s':ByteArray}
end
section
variable (l:List Nat)
end
theorem RunH.relock {h:TH} {v1 v2:Value} {F:List Nat} {S:List (Int × Int)} (r:RunH h v1 v2 F S) (M:List Nat):RunH (h.withLock M) v1 v2 F S:=⟨r.f.relock M,r.s.relock M,r.g.relock M⟩
section
variable {h:TH} {l:List Nat} {b o n cap:Nat} {es L:List Int}
end
end Go.Tidy
namespace Go.Tidy
open Go Go.Proofs Tab
variable {tp:TProg}
theorem k11t (A:Awk tp) (h:TH):CallW Tryz.prog tp (.func (.func 14) #[] #[]) #[] h fun v h'=>v=.bool true∧h'=h:=by
 obtain ⟨e,e1,e2⟩:=A.e
 exact CallW.ext A.no e1 rfl e2 rfl ⟨rfl,rfl⟩
theorem IsInts.keep {g g':TH} {y:Value} {L:List Int} (i:IsInts g y L) (k:∀ b x,bl y=some b→At g b x→At g' b x):IsInts g' y L:=by
 rcases i with i | ⟨b,c,fix,wr,el,i1,i2,i3⟩
 ·exact .inl i
 ·subst i1
  have:=k b _ rfl ⟨i3,i2⟩
  exact .inr ⟨b,c,fix,wr,el,rfl,this.lt,this.get⟩
def CelA (ty:TypeId) (n:Int) (o:Int × List Int × List (Int × Int)) (g:TH) (c:Nat):Prop:=∃ z b1 m1 k1 b2 m2 k2,At g c (.cells [zi z,.slice b1 m1 k1,.slice b2 m2 k2] true true ty)∧IsInts g (.slice b1 m1 k1) o.2.1∧SlL encS 2 g (.slice b2 m2 k2) o.2.2∧((o.1≠0∧z=0∧o.2.1=[]∧o.2.2=[])∨(o.1=0∧z=n))
theorem CelA.hx {ty:TypeId} {n:Int} {o:Int × List Int × List (Int × Int)} {g g':TH} {c:Nat} (q:CelA ty n o g c) (x:HX g g'):CelA ty n o g' c:=by
 obtain ⟨z,b1,m1,k1,b2,m2,k2,A,i,s,e⟩:=q
 exact ⟨z,b1,m1,k1,b2,m2,k2,A.hx x,i.hx x,s.hx x,e⟩
section
variable {h h0:TH} {a b n1 n2 m1 m2 e1:Int} {v1 v2 w1 w2:Value} {L1:List Int} {S1:List (Int × Int)} {o1 o2:Int × List Int × List (Int × Int)} {c3 c4 c7 c9 c14 c15:Nat}
end
end Go.Tidy
namespace Go.Tidy
open Go Go.Proofs Tab
theorem args3 {P:Program} {h:TH} {m:Nat} {t0 t1 t2:TypeId} {us:List Value} (ha:Args P h m [t0,t1,t2] us):∃ x0 x1 x2,us=[x0,x1,x2]∧(∃ ps,Ty P h m t0 ps∧x0=valOf P t0 ps)∧(∃ ps,Ty P h m t1 ps∧x1=valOf P t1 ps)∧∃ ps,Ty P h m t2 ps∧x2=valOf P t2 ps:=by
 match us,ha with
 | [x0,x1,x2],⟨a0,a1,a2,_⟩=>exact ⟨x0,x1,x2,rfl,a0,a1,a2⟩
end Go.Tidy
namespace Go.Tidy
open Go Go.Proofs Tab
variable {tp:TProg}
theorem CelA.err {n e:Int} {g:TH} {c:Nat} {ty:TypeId} (h:e≠0) (A:At g c (.cells [zi 0,.slice none 0 0,.slice none 0 0] true true ty)):CelA ty n (e,[],[]) g c:=⟨0,_,_,_,_,_,_,A,.inl ⟨rfl,rfl⟩,SlL.nil,.inl ⟨h,rfl,rfl,rfl⟩⟩
theorem CelA.keep {ty:TypeId} {n:Int} {o:Int × List Int × List (Int × Int)} {g g':TH} {c:Nat} (q:CelA ty n o g c) (k:∀ b x,At g b x→At g' b x):CelA ty n o g' c:=by
 obtain ⟨z,b1,m1,k1,b2,m2,k2,A,i,s,e⟩:=q
 exact ⟨z,b1,m1,k1,b2,m2,k2,k _ _ A,i.keep fun b x _ a=>k _ _ a,slC_keep s fun b x _ a=>k _ _ a,e⟩
section
variable {h h0:TH} {a b n m1 m2 E1:Int} {v1 v2 w9 w16:Value} {L:List Int} {S:List (Int × Int)} {l3:List Int} {o1 o2:Int × List Int × List (Int × Int)} {c2 c3 c5 c7 c14 c15 p q:Nat}
end
end Go.Tidy
namespace Go.Tidy
open Go Go.Proofs Tab
variable {tp:TProg}
theorem out_mm {x l m:Int} (h:outB x l m=0):l≤x∧x≤m:=by
 unfold outB at h
 by_cases c1:x < l
 ·rw [decide_eq_true c1] at h;cases h
 ·by_cases c2:m < x
  ·rw [decide_eq_false c1,decide_eq_true c2] at h;cases h
  ·omega
section
variable {h:TH} {n a b s:Int} {v1 v2:Value} {L:List Int} {S:List (Int × Int)} {p q st:Nat}
end
end Go.Tidy
namespace Go.Tidy
open Go Go.Proofs Tab
variable {tp:TProg}
section
variable {P:Program} {h:TH} {K:Regs→TH→Prop} {rest:List TOper} {d:Option Tmp} {ty:TypeId} {i:Nat} {x y:Operand} {v vx vy:Value} {t u e:TypeId} {n:Nat} {z:List Value} {row:Bool} {L:Rg}
end
section
variable {h:TH} {s:ByteArray} {n a b:Int} {v v1 v2:Value} {F:List Nat} {S:List (Int × Int)} {es L:List Int}
set_option maxHeartbeats 2000000 in
set_option maxRecDepth 10000 in
theorem k1206 (H:Has tp) (sF:SlL encF 1 h v F) (hL:Lev F L) (lF:F.length≤1000000) (f:Free0 h.next h) :
  CallW Tryz.prog tp (.func (.func 164) #[] #[]) #[v,.func (.func 110) #[] #[]] h fun w h'=>HX h h'∧∃ c,w=slA c F.length∧h.next≤c∧At h' c (.cells (cat encI L) true true 3):=by
 refine CallW.fnL (H.fn 164 f1206 rfl rfl) ?_
 refine WL.sr<|WOL.as rfl<|WOL.nil ?_
 have lE:L.length=F.length:=hL.1.symm
 refine WL.sr<|WOL.mv rfl<|WOL.len rfl sF u43<|WOL.ms (m:=F.length) rfl rfl u29 tp3 (by decide) (by omega) fun h1 N1=>WOL.as rfl<|WOL.nil<|keep [(0,_),(1,_),(5,_)] ⟨rfl,rfl,rfl,trivial⟩ ?_
 have q1:=N1.next
 have W0:=N1.at_
 rw [rep_flat,← cat_rep (enc:=encI) (x:=0) rfl,← lE,← fill_zero L] at W0
 refine WL.seq<|WL.sr<|WOL.mv rfl<|WOL.len rfl (sF.hx N1.hx) u43<|WOL.mv rfl<|WOL.nil<|keep [(1,_),(5,_),(11,_),(12,_),(13,_)] ⟨rfl,rfl,rfl,rfl,rfl,trivial⟩ ?_
 refine WL.upto (α:=Unit) F.length (fun j _ g'=>HX h g'∧At g' h.next (.cells (cat encI (L.take j ++ List.replicate (L.length - j) 0)) true true 3)) (fun _ _=>[(1,.func (.func 110) #[] #[]),(5,slA h.next F.length),(11,v),(12,zi (F.length:Nat))]) () rfl rfl (by omega) ⟨N1.hx,W0⟩ ⟨rfl,rfl,rfl,rfl,rfl,trivial⟩ (fun _ _=>rfl) (fun _ _ _=>⟨rfl,rfl,rfl,rfl,rfl,trivial⟩) (fun _ _ _=>⟨rfl,rfl,rfl,rfl,rfl,trivial⟩) ?_ ?_
 ·rintro i _ g' hi ⟨X,Wd⟩
  have hp:F[i]?=some F[i]:=List.getElem?_eq_getElem hi
  have hi':i < L.length:=by omega
  have sm:Samp F[i] L[i]:=hL.2 i _ _ hp (List.getElem?_eq_getElem hi')
  obtain ⟨_,_,cc,fix,wr,el,g1,g2,g3,g4,g5⟩:=(sF.hx X).at eF u43 tp25 hp .i64
  have gx:=g5 0 (by decide)
  rw [Nat.add_zero] at gx
  refine WL.sr<|WOL.mv rfl<|WOL.ix rfl rfl g1<|WOL.ld rfl (load_one tp25 g2 gx)<|WOL.as rfl<|WOL.as rfl<|WOL.nil<|keep [(1,_),(5,_),(6,_),(7,_),(11,_),(12,_),(13,_)] ⟨rfl,rfl,rfl,rfl,rfl,rfl,rfl,trivial⟩ ?_
  refine WL.reg<|WOL.mv rfl<|WOL.mv rfl<|WOL.mv rfl<|WOL.mv rfl<|WOL.cl1 rfl rfl ((k111 H sm g').mono ?_)
  rintro u g' ⟨rfl,rfl⟩
  refine WOL.ix rfl rfl (indexAddr_tp (j:=i) u29 tp3 hi)<|WOL.sto (vs:=encI L[i]) rfl rfl tp3 Wd rfl rfl (by rw [eI.cat_len,fill_len _ _ _ (by omega)];omega) rfl (f.hx X) (by omega) fun h5 P5=>WOL.nil fun y k=>⟨(),⟨P5.hx _ X (by omega),?_⟩,k.sub ⟨rfl,rfl,rfl,rfl,rfl,trivial⟩⟩
  have:=P5.at_
  rw [Nat.zero_add,eI.set (by rw [fill_len _ _ _ (by omega)];omega),fill_set L _ i hi'] at this
  exact this
 ·rintro _ g' ⟨X,Wd⟩
  rw [← lE,fill_all] at Wd
  exact WL.sr<|WOL.mv rfl<|WOL.as rfl<|WOL.nil<|WL.ret (WL.end_ rfl ⟨X,_,rfl,by omega,Wd⟩)
end
end Go.Tidy
namespace Go.Tidy
open Go Go.Proofs Tab
variable {tp:TProg}
section
variable {P:Program} {h:TH} {K:Regs→TH→Prop} {rest:List TOper} {d:Option Tmp} {ty:TypeId} {i:Nat} {x y:Operand} {t u:TypeId} {L:Rg}
end
section
variable {p q:Nat} {E:List Int} {C:List (Int × Bool)} {j:Nat} {H:List (Int × Bool)}
def HFine (H:List (Int × Bool)):Prop:=∀ c,c ∈ H→(c.2=true→largeB c.1=false)∧(c.2=false→c.1=0)
theorem HFine.lim {H:List (Int × Bool)} (f:HFine H) (i:Nat):-1073741824≤(H.getD i (0,false)).1∧(H.getD i (0,false)).1≤1073741824:=by
  rw [List.getD_eq_getElem?_getD]
  cases hi:H[i]? with
  | none=>decide
  | some c =>
    obtain ⟨f1,f2⟩:=f c (List.mem_of_getElem? hi)
    show -1073741824≤c.1∧c.1≤1073741824
    cases hc:c.2 with
    | false=>rw [f2 hc];decide
    | true =>
      have:=f1 hc
      unfold largeB readE at this
      have h0:outB c.1 (-1073741824) 1073741824=0:=by
        by_cases q:outB c.1 (-1073741824) 1073741824=0
        · exact q
        · rw [bne_iff_ne.2 q] at this;cases this
      exact out_mm h0
theorem HFine.val {H:List (Int × Bool)} (f:HFine H):valC H=H.map fun c=>c.1:=by
 unfold valC
 refine List.map_congr_left fun c hc=>?_
 cases h:c.2 with
 | true=>rfl
 | false=>rw [(f c hc).2 h];rfl
end
section
variable {α:Type} {l:List α} {z x:α} {m:Nat}
end
section
variable {h:TH} {n:Int} {p q:Nat} {L E:List Int} {S:List (Int × Int)} {rv rk hv hk:Nat}
end
end Go.Tidy
namespace Go.Tidy
open Go Go.Proofs Tab
variable {tp:TProg}
def sigE (m:Nat) (es:List Int):Int:=cond (decide ((m:Int) > 4096)) 5 (firstNZ es)
def shB (m:Nat):Bool:=cond (decide ((m:Int)≤24)) true ((m:Int) == 4097)
def sgE (L:List Int):Int:=cond (L.any fun n=>!okI n) 4 0
def sgL (L:List Int):List Int:=cond (L.any fun n=>!okI n) [] L
def AnsF (e:Int) (L:List Int) (n0:Nat) (h':TH) (v:Value):Prop:=∃ b m c F,v=.tuple #[.slice b m c,zi e]∧SlL encF 1 h' (.slice b m c) F∧Lev F L∧∀ z,bl (.slice b m c)=some z→n0≤z
theorem AnsF.err {e:Int} {n0:Nat} {g:TH}:AnsF e [] n0 g (.tuple #[.slice none 0 0,zi e]):=⟨_,_,_,[],rfl,SlL.nil,⟨rfl,fun i b n h=>by cases h⟩,fun z hz=>(by cases hz)⟩
theorem AnsF.low {e:Int} {L:List Int} {n0 n1:Nat} {g:TH} {v:Value} (a:AnsF e L n1 g v) (h:n0≤n1):AnsF e L n0 g v:=by
 obtain ⟨b,m,c,F,h1,h2,h3,h4⟩:=a
 exact ⟨b,m,c,F,h1,h2,h3,fun z hz=>Nat.le_trans h (h4 z hz)⟩
theorem sigE_short {m:Nat} {es:List Int} (h:sigE m es=0):m≤4096∧firstNZ es=0:=by
 unfold sigE at h
 by_cases c:(m:Int) > 4096
 ·rw [decide_eq_true c] at h;exact absurd (show (5:Int)=0 from h) (by decide)
 ·rw [decide_eq_false c] at h;exact ⟨by omega,h⟩
theorem fNZ_const {c:Int} (hc:c≠0) (p:Int→Bool):∀ L:List Int,firstNZ (L.map fun n=>cond (p n) c 0)=cond (L.any p) c 0
 | []=>rfl
 | n::L=>by
  have ih:=fNZ_const hc p L
  rw [List.map_cons,List.any_cons]
  show cond (cond (p n) c 0 != 0) (cond (p n) c 0) (firstNZ (L.map fun n=>cond (p n) c 0))=_
  cases hp:p n with
  | true=>rw [Bool.cond_true,bne_iff_ne.2 hc];rfl
  | false=>rw [Bool.false_or,← ih];rfl
theorem lev_smpI {L:List Int} (h:∀ x,x ∈ L→okI x=true):Lev (L.map smp) L:=by
 refine ⟨by rw [List.length_map],fun i b n h1 h2=>?_⟩
 rw [List.getElem?_map,h2] at h1
 cases h1
 exact (smp_ok (okI_iff.1 (h n (List.mem_of_getElem? h2)))).2.2
theorem any_notI {L:List Int} (h:(L.any fun n=>!okI n)=false):∀ x,x ∈ L→okI x=true:=fun x hx=>by
 have:=List.any_eq_false.1 h x hx
 cases hk:okI x with
 | true=>rfl
 | false=>rw [hk] at this;exact absurd rfl this
section
variable {h:TH} {v w fv:Value} {F:List Nat} {es L M:List Int}
theorem k1268 (H:Has tp) (X:HasX tp) (s:SlL encF 1 h v F) (hE:SErr F es) (hF:F.length≤1000000):CallW Tryz.prog tp (.func (.func 104) #[] #[]) #[v] h fun u h'=>u=zi (sigE F.length es)∧h'=h:=by
 refine CallW.fnL (H.fn 104 f1268 rfl rfl) ?_
 refine WL.sr<|WOL.as rfl<|WOL.nil<|keep [(0,_)] ⟨rfl,trivial⟩ ?_
 by_cases c:(F.length:Int) > 4096
 ·refine WL.seq<|WL.sr<|WOL.mv rfl<|WOL.len rfl s u43<|WOL.bt rfl rfl rfl (decide_eq_true c)<|WOL.nil<|WL.yes rfl<|WL.sr<|WOL.as rfl<|WOL.nil ?_
  exact WL.ret (WL.end_ rfl ⟨by unfold sigE;rw [decide_eq_true c];rfl,rfl⟩)
 ·refine WL.seq<|WL.sr<|WOL.mv rfl<|WOL.len rfl s u43<|WOL.bf rfl rfl rfl (decide_eq_false c)<|WOL.nil<|WL.no rfl<|WL.skip ?_
  refine WL.sr<|WOL.mv rfl<|WOL.cl2 rfl rfl rfl ((k144 H X s hE hF).mono ?_)
  rintro u g ⟨rfl,rfl⟩
  exact WOL.as rfl<|WOL.nil<|WL.ret (WL.end_ rfl ⟨by unfold sigE;rw [decide_eq_false c];rfl,rfl⟩)
theorem k1261 (H:Has tp) (s:SlL encF 1 h v F) (hE:SErr F es) (hF:F.length≤1000000):CallW Tryz.prog tp (.func (.func 32) #[] #[]) #[v] h fun u h'=>u=zi (sigE F.length es)∧h'=h:=by
  refine CallW.fnL (H.fn 32 f1261 rfl rfl) ?_
  refine WL.sr<|WOL.as rfl<|WOL.nil<|keep [(0,_)] ⟨rfl,trivial⟩ ?_
  by_cases c:(F.length:Int) > 4096
  · refine WL.seq<|WL.sr<|WOL.mv rfl<|WOL.len rfl s u43<|WOL.bt rfl rfl rfl (decide_eq_true c)<|WOL.nil<|WL.yes rfl<|WL.sr<|WOL.as rfl<|WOL.nil ?_
    exact WL.ret (WL.end_ rfl ⟨by unfold sigE;rw [decide_eq_true c];rfl,rfl⟩)
  have e1:sigE F.length es=firstNZ es:=by unfold sigE;rw [decide_eq_false c];rfl
  rw [e1]
  refine WL.seq<|WL.sr<|WOL.mv rfl<|WOL.len rfl s u43<|WOL.bf rfl rfl rfl (decide_eq_false c)<|WOL.nil<|WL.no rfl<|WL.skip ?_
  refine WL.seq<|WL.sr<|WOL.as rfl<|WOL.nil<|keep [(0,_),(3,_)] ⟨rfl,rfl,trivial⟩ ?_
  refine WL.forz (α:=Unit) F.length (fun j _ g=>g=h∧∀ i,i < j→es.getD i 0=0) (fun j _=>[(0,v),(3,zi (j:Nat))]) (fun j _=>[(0,v),(3,zi (j:Nat))]) () ⟨rfl,fun i hi=>absurd hi (by omega)⟩ ⟨rfl,rfl,trivial⟩ ?_ ?_ (fun _ _ _=>⟨rfl,rfl,trivial⟩) ?_ ?_
  · rintro j _ g hj ⟨rfl,_⟩
    exact WOL.mv rfl<|WOL.mv rfl<|WOL.len rfl s u43<|WOL.bi rfl rfl rfl<|WOL.nil fun a q=>⟨rfl,q.sub ⟨rfl,rfl,rfl,trivial⟩⟩
  · rintro j _ g hj hH
    exact WOL.mv rfl<|WOL.inc rfl (by omega)<|WOL.as rfl<|WOL.nil fun a q=>⟨hH,q.sub ⟨rfl,rfl,trivial⟩⟩
  · rintro j _ g hj ⟨rfl,hz⟩
    have hp:F[j]?=some F[j]:=List.getElem?_eq_getElem hj
    have hj':j < es.length:=by rw [← hE.1];exact hj
    have he:es[j]?=some es[j]:=List.getElem?_eq_getElem hj'
    have sm:=hE.2 j _ _ hp he
    generalize es[j]=e at *
    obtain ⟨_,_,cc,fix,wr,el,g1,g2,g3,g4,g5⟩:=s.at eF u43 tp25 hp .i64
    have gx:=g5 0 (by decide)
    rw [Nat.add_zero] at gx
    refine WL.sr<|WOL.mv rfl<|WOL.mv rfl<|WOL.ix rfl rfl g1<|WOL.ld rfl (load_one tp25 g2 gx)<|WOL.cl1 rfl rfl ((k22 H sm _).mono ?_)
    rintro u g' ⟨rfl,rfl⟩
    refine WOL.as rfl<|WOL.nil<|keep [(0,_),(3,_),(4,_)] ⟨rfl,rfl,rfl,trivial⟩ ?_
    by_cases h0:e=0
    · refine WL.sr<|WOL.mv rfl<|WOL.bf rfl rfl rfl (bne_eq_false_iff_eq.2 h0)<|WOL.nil<|keep [(0,_),(3,_),(20,_)] ⟨rfl,rfl,rfl,trivial⟩<|WL.no rfl<|WL.skip fun a q=>⟨(),⟨rfl,fun i hi=>?_⟩,q.sub ⟨rfl,rfl,trivial⟩⟩
      by_cases e':i=j
      · subst e'
        rw [List.getD_eq_getElem?_getD,he]
        exact h0
      · exact hz i (by omega)
    · refine WL.sr<|WOL.mv rfl<|WOL.bt rfl rfl rfl (bne_iff_ne.2 h0)<|WOL.nil<|keep [(4,_),(20,_)] ⟨rfl,rfl,trivial⟩ ?_
      refine WL.yes rfl<|WL.sr<|WOL.mv rfl<|WOL.as rfl<|WOL.nil ?_
      exact WL.ret (WL.end_ rfl ⟨by rw [fNZ_at hz he h0];rfl,rfl⟩)
  · rintro _ g ⟨rfl,hz⟩
    refine WL.sr<|WOL.as rfl<|WOL.nil ?_
    exact WL.ret (WL.end_ rfl ⟨by rw [fNZ_all (fun i hi=>hz i (by rw [hE.1];exact hi))];rfl,rfl⟩)
theorem shB_le {m:Nat} (h:shB m=true):m≤4097:=by
 unfold shB at h
 by_cases c:(m:Int)≤24
 ·omega
 ·rw [decide_eq_false c] at h
  have:=beq_iff_eq.1 (show ((m:Int) == 4097)=true from h)
  omega
theorem k1258 (H:Has tp) (s:SlL encF 1 h v F) (hF:F.length≤1000000) :
  CallW Tryz.prog tp (.func (.func 29) #[] #[]) #[v] h fun u h'=>HX h h'∧∃ b m k,u=.slice b m k∧SlL encF 1 h' u F∧∀ z,bl u=some z→h.next≤z:=by
 refine CallW.fnL (H.fn 29 f1258 rfl rfl) ?_
 refine WL.sr<|WOL.as rfl<|WOL.nil ?_
 refine WL.sr<|WOL.bs0 u43 tp25 (by decide) (by decide) fun h1 N1=>WOL.mv rfl ?_
 obtain ⟨u2,h7,ap7,X7,s7,b7,rfl,hb7,F7⟩:=append_own u43 tp25 N1.at_ (s.hx N1.hx) (by omega) (eF.all _)
 exact WOL.ap rfl rfl ap7<|WOL.as rfl<|WOL.nil<|WL.ret (WL.end_ rfl ⟨N1.hx.trans X7,_,_,_,rfl,s7,fun z hz=>by have:b7=z:=Option.some.inj hz;omega⟩)
theorem k1313 (H:Has tp) (s:SlL encF 1 h v F) (hL:Lev F L) (hF:F.length≤1000000) (f:Free0 h.next h) :
  CallW Tryz.prog tp (.func (.func 94) #[] #[]) #[v] h fun w h'=>HX h h'∧∃ c,w=slA c L.length∧h.next≤c∧At h' c (.cells (cat encI L) true true 3):=by
 refine CallW.fnL (H.fn 94 f1313 rfl rfl) ?_
 refine WL.sr<|WOL.as rfl<|WOL.nil<|keep [(0,_)] ⟨rfl,trivial⟩ ?_
 refine WL.sr<|WOL.mv rfl<|WOL.cl2 rfl rfl rfl ((k1206 H s hL hF f).mono ?_)
 rintro u g ⟨X,c,rfl,hc,A⟩
 rw [hL.1]
 exact WOL.as rfl<|WOL.nil<|WL.ret (WL.end_ rfl ⟨X,c,rfl,hc,A⟩)
theorem k1353 (H:Has tp) (s:SlL encI 1 h v L) (hl:L.length≤1000000) (f:Free0 h.next h) (hL:∀ x,x ∈ L→okI x=true) :
  CallW Tryz.prog tp (.func (.func 163) #[] #[]) #[v,.func (.func 79) #[] #[]] h fun w h'=>HX h h'∧∃ c,w=slA c L.length∧h.next≤c∧At h' c (.cells (cat encF (L.map smp)) true true 76):=by
 refine CallW.fnL (H.fn 163 f1353 rfl rfl) ?_
 refine WL.sr<|WOL.as rfl<|WOL.nil ?_
 have lE:(L.map smp).length=L.length:=List.length_map ..
 refine WL.sr<|WOL.mv rfl<|WOL.len rfl s u29<|WOL.ms (m:=L.length) rfl rfl u43 tp25 (by decide) (by omega) fun h1 N1=>WOL.as rfl<|WOL.nil<|keep [(0,_),(1,_),(5,_)] ⟨rfl,rfl,rfl,trivial⟩ ?_
 have q1:=N1.next
 have W0:=N1.at_
 rw [rep_flat,← cat_rep (enc:=encF) (x:=0) rfl,← lE,← fill_zero (L.map smp)] at W0
 refine WL.seq<|WL.sr<|WOL.mv rfl<|WOL.len rfl (s.hx N1.hx) u29<|WOL.mv rfl<|WOL.nil<|keep [(1,_),(5,_),(11,_),(12,_),(13,_)] ⟨rfl,rfl,rfl,rfl,rfl,trivial⟩ ?_
 refine WL.upto (α:=Unit) L.length (fun j _ g'=>HX h g'∧At g' h.next (.cells (cat encF ((L.map smp).take j ++ List.replicate ((L.map smp).length - j) 0)) true true 76)) (fun _ _=>[(1,.func (.func 79) #[] #[]),(5,slA h.next L.length),(11,v),(12,zi (L.length:Nat))]) () rfl rfl (by omega) ⟨N1.hx,W0⟩ ⟨rfl,rfl,rfl,rfl,rfl,trivial⟩ (fun _ _=>rfl) (fun _ _ _=>⟨rfl,rfl,rfl,rfl,rfl,trivial⟩) (fun _ _ _=>⟨rfl,rfl,rfl,rfl,rfl,trivial⟩) ?_ ?_
 ·rintro i _ g' hi ⟨X,Wd⟩
  have hp:L[i]?=some L[i]:=List.getElem?_eq_getElem hi
  have hi':i < (L.map smp).length:=by omega
  have hm:(L.map smp)[i]=smp L[i]:=List.getElem_map ..
  obtain ⟨_,_,cc,fix,wr,el,g1,g2,g3,g4,g5⟩:=(s.hx X).at eI u29 tp3 hp .i64
  have gx:=g5 0 (by decide)
  rw [Nat.add_zero] at gx
  refine WL.sr<|WOL.mv rfl<|WOL.ix rfl rfl g1<|WOL.ld rfl (load_one tp3 g2 gx)<|WOL.as rfl<|WOL.as rfl<|WOL.nil<|keep [(1,_),(5,_),(6,_),(7,_),(11,_),(12,_),(13,_)] ⟨rfl,rfl,rfl,rfl,rfl,rfl,rfl,trivial⟩ ?_
  refine WL.reg<|WOL.mv rfl<|WOL.mv rfl<|WOL.mv rfl<|WOL.mv rfl<|WOL.cl1 rfl rfl ((k86 H (okI_iff.1 (hL _ (List.mem_of_getElem? hp))) g').mono ?_)
  rintro u g' ⟨rfl,rfl⟩
  refine WOL.ix rfl rfl (indexAddr_tp (j:=i) u43 tp25 hi)<|WOL.sto (vs:=encF (smp L[i])) rfl rfl tp25 Wd rfl rfl (by rw [eF.cat_len,fill_len _ _ _ (by omega)];omega) rfl (f.hx X) (by omega) fun h5 P5=>WOL.nil fun y k=>⟨(),⟨P5.hx _ X (by omega),?_⟩,k.sub ⟨rfl,rfl,rfl,rfl,rfl,trivial⟩⟩
  have:=P5.at_
  rw [Nat.zero_add,eF.set (by rw [fill_len _ _ _ (by omega)];omega),← hm,fill_set (L.map smp) _ i hi'] at this
  exact this
 ·rintro _ g' ⟨X,Wd⟩
  rw [← lE,fill_all] at Wd
  exact WL.sr<|WOL.mv rfl<|WOL.as rfl<|WOL.nil<|WL.ret (WL.end_ rfl ⟨X,_,rfl,by omega,Wd⟩)
theorem k1352 (H:Has tp) (x:Int) (h:TH):CallW Tryz.prog tp (.func (.func 160) #[] #[]) #[zi x] h fun v h'=>v=zi (cond (!okI x) 4 0)∧h'=h:=by
 refine CallW.fnL (H.fn 160 f1352 rfl rfl) ?_
 refine WL.sr<|WOL.as rfl<|WOL.nil<|keep [(0,_)] ⟨rfl,trivial⟩ ?_
 refine WL.sr<|WOL.mv rfl<|WOL.cl1 rfl rfl ((k147 H x _).mono ?_)
 rintro v h2 ⟨rfl,rfl⟩
 refine WOL.nt rfl<|WOL.cl2 rfl rfl rfl ((k77 H _ _ _).mono ?_)
 rintro v h3 ⟨rfl,rfl⟩
 exact WOL.as rfl<|WOL.nil<|WL.ret (WL.end_ rfl ⟨rfl,rfl⟩)
theorem k1311 (H:Has tp) (s:SlL encI 1 h v L) (hl:L.length≤1000000) (f:Free0 h.next h) :
  CallW Tryz.prog tp (.func (.func 90) #[] #[]) #[v] h fun u h'=>HX h h'∧AnsF (sgE L) (sgL L) h.next h' u:=by
 refine CallW.fnL (H.fn 90 f1311 rfl rfl) ?_
 refine WL.sr<|WOL.as rfl<|WOL.as rfl<|WOL.nil<|keep [(0,_)] ⟨rfl,trivial⟩ ?_
 refine WL.sr<|WOL.as rfl<|WOL.nil<|keep [(0,_),(4,_)] ⟨rfl,rfl,trivial⟩ ?_
 refine WL.seq<|WL.sr<|WOL.mv rfl<|WOL.mv rfl<|WOL.cl2 rfl rfl rfl ((k1190 H s hl (fun x=>k1352 H x h)).mono ?_)
 rintro u g ⟨rfl,rfl⟩
 rw [fNZ_const (c:=4) (by decide)]
 refine WOL.as rfl<|WOL.nil<|keep [(0,_),(5,_)] ⟨rfl,rfl,trivial⟩ ?_
 unfold sgE sgL
 cases hb:L.any fun n=>!okI n with
 | true =>
  refine WL.sr<|WOL.mv rfl<|WOL.bt rfl rfl rfl rfl<|WOL.nil<|WL.yes rfl<|WL.sr<|WOL.mv rfl<|WOL.as rfl<|WOL.as rfl<|WOL.nil ?_
  exact WL.ret (WL.end_ rfl ⟨HX.refl _,AnsF.err⟩)
 | false =>
  refine WL.sr<|WOL.mv rfl<|WOL.bf rfl rfl rfl rfl<|WOL.nil<|WL.no rfl<|WL.skip ?_
  refine WL.sr<|WOL.mv rfl<|WOL.cl2 rfl rfl rfl ((k1353 H s hl f (any_notI hb)).mono ?_)
  rintro u g2 ⟨X,c,rfl,hc,A⟩
  exact WOL.as rfl<|WOL.as rfl<|WOL.nil<|WL.ret (WL.end_ rfl ⟨X,_,_,_,L.map smp,rfl,SlL.own eF A (List.length_map ..),lev_smpI (any_notI hb),fun z hz=>by cases hz;exact hc⟩)
end
end Go.Tidy
namespace Go.Tidy
open Go Go.Proofs Tab
variable {tp:TProg}
def pairE (m n:Nat) (es es':List Int):Int:=firstNZ [sigE m es,sigE n es',cond ((m:Int) != (n:Int)) 2 0]
def RF (h:TH) (v:Value) (L:List Int):Prop:=∃ F,SlL encF 1 h v F∧Lev F L
theorem RF.hx {h h':TH} {v:Value} {L:List Int} (r:RF h v L) (x:HX h h'):RF h' v L:=by
 obtain ⟨F,h1,h2⟩:=r
 exact ⟨F,h1.hx x,h2⟩
theorem RF.nil {h:TH}:RF h (.slice none 0 0) []:=⟨[],SlL.nil,rfl,fun i b n h=>by cases h⟩
theorem AnsF.form {e:Int} {L:List Int} {n0:Nat} {h':TH} {v:Value} (a:AnsF e L n0 h' v):∃ u,v=.tuple #[u,zi e]∧RF h' u L:=by
 obtain ⟨b,m,c,F,h1,h2,h3,_⟩:=a
 exact ⟨_,h1,F,h2,h3⟩
section
variable {h:TH} {v w fv:Value} {F G:List Nat} {es es' L M A B:List Int} {φ:Int→Int→Int}
theorem zw_get {i:Nat} {x y:Int} (h1:A[i]?=some x) (h2:B[i]?=some y):(List.zipWith φ A B)[i]?=some (φ x y):=by
 rw [List.getElem?_zipWith,h1,h2]
theorem k1332 (H:Has tp) (s:SlL encI 1 h v A) (t:SlL encI 1 h w B) (hl:A.length≤1000000) (hab:A.length≤B.length) (f:Free0 h.next h) (hf:∀ x y,x ∈ A→y ∈ B→∀ g,HX h g→CallW Tryz.prog tp fv #[zi x,zi y] g fun u g'=>u=zi (φ x y)∧HX g g') :
  CallW Tryz.prog tp (.func (.func 123) #[] #[]) #[v,w,fv] h fun w h'=>HX h h'∧∃ c,w=slA c A.length∧h.next≤c∧At h' c (.cells (cat encI (List.zipWith φ A B)) true true 3):=by
 refine CallW.fnL (H.fn 123 f1332 rfl rfl) ?_
 refine WL.sr<|WOL.as rfl<|WOL.nil ?_
 have lE:(List.zipWith φ A B).length=A.length:=by rw [List.length_zipWith];omega
 refine WL.sr<|WOL.mv rfl<|WOL.len rfl s u29<|WOL.ms (m:=A.length) rfl rfl u29 tp3 (by decide) (by omega) fun h1 N1=>WOL.as rfl<|WOL.nil<|keep [(0,_),(1,_),(2,_),(7,_)] ⟨rfl,rfl,rfl,rfl,trivial⟩ ?_
 have q1:=N1.next
 have W0:=N1.at_
 rw [rep_flat,← cat_rep (enc:=encI) (x:=0) rfl,← lE,← fill_zero (List.zipWith φ A B)] at W0
 refine WL.seq<|WL.sr<|WOL.mv rfl<|WOL.len rfl (s.hx N1.hx) u29<|WOL.mv rfl<|WOL.nil<|keep [(1,_),(2,_),(7,_),(13,_),(14,_),(15,_)] ⟨rfl,rfl,rfl,rfl,rfl,rfl,trivial⟩ ?_
 refine WL.upto (α:=Unit) A.length (fun j _ g'=>HX h g'∧h1.next≤g'.next∧At g' h.next (.cells (cat encI ((List.zipWith φ A B).take j ++ List.replicate ((List.zipWith φ A B).length - j) 0)) true true 3)) (fun _ _=>[(1,w),(2,fv),(7,slA h.next A.length),(13,v),(14,zi (A.length:Nat))]) () rfl rfl (by omega) ⟨N1.hx,Nat.le_refl _,W0⟩ ⟨rfl,rfl,rfl,rfl,rfl,rfl,trivial⟩ (fun _ _=>rfl) (fun _ _ _=>⟨rfl,rfl,rfl,rfl,rfl,rfl,trivial⟩) (fun _ _ _=>⟨rfl,rfl,rfl,rfl,rfl,rfl,trivial⟩) ?_ ?_
 ·rintro i _ g' hi ⟨X,nx,Wd⟩
  have hp:A[i]?=some A[i]:=List.getElem?_eq_getElem hi
  have hq:B[i]?=some (B[i]'(by omega)):=List.getElem?_eq_getElem _
  have hi':i < (List.zipWith φ A B).length:=by omega
  have hm:(List.zipWith φ A B)[i]=φ A[i] (B[i]'(by omega)):=List.getElem_zipWith ..
  obtain ⟨_,_,cc,fix,wr,el,g1,g2,g3,g4,g5⟩:=(s.hx X).at eI u29 tp3 hp .i64
  obtain ⟨_,_,cc',fix',wr',el',e1,e2,e3,e4,e5⟩:=(t.hx X).at eI u29 tp3 hq .i64
  have gx:=g5 0 (by decide)
  have gy:=e5 0 (by decide)
  rw [Nat.add_zero] at gx gy
  refine WL.sr<|WOL.mv rfl<|WOL.ix rfl rfl g1<|WOL.ld rfl (load_one tp3 g2 gx)<|WOL.as rfl<|WOL.as rfl<|WOL.nil<|keep [(1,_),(2,_),(7,_),(8,_),(9,_),(13,_),(14,_),(15,_)] ⟨rfl,rfl,rfl,rfl,rfl,rfl,rfl,rfl,trivial⟩ ?_
  refine WL.reg<|WOL.mv rfl<|WOL.mv rfl<|WOL.mv rfl<|WOL.mv rfl<|WOL.mv rfl<|WOL.mv rfl<|WOL.ix rfl rfl e1<|WOL.ld rfl (load_one tp3 e2 gy)<|WOL.cl2 rfl rfl rfl ((hf _ _ (List.mem_of_getElem? hp) (List.mem_of_getElem? hq) g' X).mono ?_)
  rintro u g2 ⟨rfl,X2⟩
  have n2:=X2.next
  refine WOL.ix rfl rfl (indexAddr_tp (j:=i) u29 tp3 hi)<|WOL.sto (vs:=encI (φ A[i] (B[i]'(by omega)))) rfl rfl tp3 (Wd.hx X2) rfl rfl (by rw [eI.cat_len,fill_len _ _ _ (by omega)];omega) rfl (f.hx (X.trans X2)) (by omega) fun h5 P5=>WOL.nil fun y k=>⟨(),⟨P5.hx _ (X.trans X2) (by omega),by rw [P5.next];omega,?_⟩,k.sub ⟨rfl,rfl,rfl,rfl,rfl,rfl,trivial⟩⟩
  have:=P5.at_
  rw [Nat.zero_add,eI.set (by rw [fill_len _ _ _ (by omega)];omega),← hm,fill_set (List.zipWith φ A B) _ i hi'] at this
  exact this
 ·rintro _ g' ⟨X,nx,Wd⟩
  rw [← lE,fill_all] at Wd
  exact WL.sr<|WOL.mv rfl<|WOL.as rfl<|WOL.nil<|WL.ret (WL.end_ rfl ⟨X,_,rfl,by omega,Wd⟩)
theorem k1342 (H:Has tp) (m n:Int) (h:TH):CallW Tryz.prog tp (.func (.func 127) #[] #[]) #[zi m,zi n] h fun v h'=>v=zi (cond (m != n) 2 0)∧h'=h:=by
 refine CallW.fnL (H.fn 127 f1342 rfl rfl) ?_
 refine WL.sr<|WOL.as rfl<|WOL.nil<|keep [(0,_),(1,_)] ⟨rfl,rfl,trivial⟩ ?_
 refine WL.sr<|WOL.mv rfl<|WOL.mv rfl<|WOL.bi (v:=.bool (m != n)) rfl rfl rfl<|WOL.cl2 rfl rfl rfl ((k77 H _ _ _).mono ?_)
 rintro v h2 ⟨rfl,rfl⟩
 exact WOL.as rfl<|WOL.nil<|WL.ret (WL.end_ rfl ⟨rfl,rfl⟩)
theorem k1316 (H:Has tp) (X:HasX tp) (s:SlL encF 1 h v F) (t:SlL encF 1 h w G) (hE:SErr F es) (hE':SErr G es') (hF:F.length≤1000000) (hG:G.length≤1000000):CallW Tryz.prog tp (.func (.func 125) #[] #[]) #[v,w] h fun u h'=>u=zi (pairE F.length G.length es es')∧HX h h':=by
 refine CallW.fnL (H.fn 125 f1316 rfl rfl) ?_
 refine WL.sr<|WOL.as rfl<|WOL.nil<|keep [(0,_),(1,_)] ⟨rfl,rfl,trivial⟩ ?_
 refine WL.sr<|WOL.mv rfl<|WOL.cl1 rfl rfl ((k1268 H X s hE hF).mono ?_)
 rintro u h2 ⟨rfl,rfl⟩
 refine WOL.mv rfl<|WOL.cl1 rfl rfl ((k1268 H X t hE' hG).mono ?_)
 rintro u h3 ⟨rfl,rfl⟩
 refine WOL.mv rfl<|WOL.len rfl s u43<|WOL.mv rfl<|WOL.len rfl t u43<|WOL.cl2 rfl rfl rfl ((k1342 H _ _ _).mono ?_)
 rintro u h4 ⟨rfl,rfl⟩
 refine WOL.bsl rfl u166 tp30 (by decide) (by decide) (by decide) (filled_ints3 _ _ _) fun h5 N5=>WOL.cl1 rfl rfl ((k71 H (l:=[_,_,_]) N5.at_.get (by simp)).mono ?_)
 rintro v h6 ⟨rfl,rfl⟩
 exact WOL.as rfl<|WOL.nil<|WL.ret (WL.end_ rfl ⟨rfl,N5.hx⟩)
end
end Go.Tidy
namespace Go.Tidy
open Go Go.Proofs Tab
variable {tp:TProg}
theorem at_getD {w:List Int} {i:Nat} (hi:i < w.length):w[i]?=some (w.getD i 0):=by
 rw [List.getD_eq_getElem?_getD,List.getElem?_eq_getElem hi];rfl
section
variable {h:TH} {v w:Value} {L M:List Int}
end
end Go.Tidy
namespace Go.Tidy
open Go Go.Proofs Tab
variable {tp:TProg}
theorem TrcO.relock {n0 bv:Nat} {g:TH} {w:Value} {L:List Int} {S:List (Int × Int)} (r:TrcO n0 g bv w L S) (M:List Nat):TrcO n0 (g.withLock M) bv w L S:=⟨r.v.relock _,r.s.keep fun z y hz a=>a.relock _⟩
section
variable {h:TH} {n n' a b:Int} {v1 v2 w1 w2:Value} {L L':List Int} {S S':List (Int × Int)}
end
end Go.Tidy
namespace Go.Tidy
open Go Go.Proofs Tab
section
variable {C:List (Int × Bool)} {n:Int}
end
section
variable {L:List Int} {S:List (Int × Int)} {M c p q j:Nat}
theorem mulb {w x:Int} {a b:Nat} (h1:w.natAbs≤a) (h2:x.natAbs≤b):(w*x).natAbs≤a*b:=by
 rw [Int.natAbs_mul]
 exact Nat.mul_le_mul h1 h2
end
end Go.Tidy
namespace Go.Tidy
open Go Go.Proofs Tab
variable {tp:TProg}
def z4:List (Int × Int):=[(0,0),(0,0),(0,0),(0,0)]
section
variable {h:TH} {n z:Int} {v1 v2:Value} {L:List Int} {S:List (Int × Int)}
end
end Go.Tidy
namespace Go.Tidy
open Go Go.Proofs Tab
variable {tp:TProg}
theorem ProgR.ok {n e:Int} {C:List (Int × Bool)} {n0:Nat} {g:TH} {v:Value} (r:ProgR n e C n0 g v) (he:e=0) (hb:bigC C=false):∃ bv b2 m2 k2,v=.tuple #[trcV n (slA bv C.length) (.slice b2 m2 k2),zi 0]∧n0≤bv∧TrcO n0 g bv (.slice b2 m2 k2) (valC C) (holesOf (C.map fun c=>c.2)):=by
 rcases r with ⟨h1,_⟩ | ⟨_,h1,_⟩ | ⟨_,_,bv,w,h2,h3,h4⟩
 ·exact absurd he h1
 ·rw [hb] at h1;cases h1
 ·obtain ⟨b2,m2,k2,rfl⟩:=h4.form
  exact ⟨bv,b2,m2,k2,h2,h3,h4⟩
section
variable {h h0:TH} {n:Int} {v1 v2:Value} {L:List Int} {S:List (Int × Int)} {c3 c4 p q z:Nat}
end
end Go.Tidy
namespace Go.Tidy
open Go Go.Proofs Tab
variable {tp:TProg}
theorem ProgR.err {n e:Int} {C:List (Int × Bool)} {n0:Nat} {g:TH} {v:Value} (r:ProgR n e C n0 g v) (he:e≠0):v=.tuple #[trcV 0 (.slice none 0 0) (.slice none 0 0),zi e]:=by
 rcases r with ⟨_,h⟩ | ⟨h,_⟩ | ⟨h,_⟩
 ·exact h
 ·exact absurd h he
 ·exact absurd h he
section
variable {hb h0:TH} {n:Int} {v1 v2 w1 w2 y1 y2:Value} {L1 L2:List Int} {S1 S2:List (Int × Int)} {p j c4 c20 cf k cc wd:Nat} {T:List (Nat × Int)} {lf:List Value} {fix wr:Bool} {Q:Exit→Regs→TH→Prop} {z5 z22:Value}
end
end Go.Tidy
namespace Go.Tidy
open Go Go.Proofs Tab
variable {tp:TProg}
theorem RevR.ok {n p e:Int} {L:List Int} {S:List (Int × Int)} {n0:Nat} {g:TH} {v:Value} (r:RevR n p e L S n0 g v) (he:e=0) (h0:0≤2*p+1 - (n+L.length)) (h1:2*p+1 - (n+L.length)+L.length≤100000000):∃ bv b2 m2 k2,v=.tuple #[trcV (2*p+1 - (n+L.length)) (slA bv L.length) (.slice b2 m2 k2),zi 0]∧n0≤bv∧TrcO n0 g bv (.slice b2 m2 k2) L.reverse (holesOf (knownL S L.length).reverse):=by
 rcases r with ⟨q,_⟩ | ⟨_,q,_⟩ | ⟨_,_,_,bv,w,q2,q3,q4⟩
 ·exact absurd he q
 ·omega
 ·obtain ⟨b2,m2,k2,rfl⟩:=q4.form
  exact ⟨bv,b2,m2,k2,q2,q3,q4⟩
section
variable {h h0:TH} {x y n:Int} {p q c3 c4 c5:Nat} {v1 v2 w1 w2:Value} {L1 L2:List Int} {S1 S2:List (Int × Int)}
end
end Go.Tidy
namespace Go.Tidy
open Go Go.Proofs Tab
variable {tp:TProg}
section
variable {h h0:TH} {v w fv:Value} {L M:List Int} {p:Int→Bool}
theorem SlL.front {α:Type} {enc:α→List Value} {n b m i:Nat} {A R:List α} {fix wr:Bool} {el:TypeId} (E:Enc enc n) (hb:At h b (.cells (cat enc (A ++ R)) fix wr el)) (hi:A.length=i) (hm:i≤m):SlL enc n h (.slice (some ⟨b,0,none⟩) i m) A:=by
 subst hi
 refine ⟨_,m,rfl,hm,E.cat_len A,.inr ⟨b,0,_,_,_,_,rfl,hb,?_,?_⟩⟩
 ·rw [List.drop_zero,cat_append,← E.cat_len A,List.take_left]
 ·rw [cat_append,List.length_append,E.cat_len A];omega
end
end Go.Tidy
namespace Go.Tidy
open Go Go.Proofs Tab
variable {tp:TProg}
def cE (E:Int) (D:List Int):Int:=if E≠0 then E else sgE D
def cL (E:Int) (D:List Int):List Int:=if E≠0 then [] else sgL D
theorem cE_no {E:Int} {D:List Int} (h:E≠0):cE E D=E:=if_pos h
theorem cL_no {E:Int} {D:List Int} (h:E≠0):cL E D=[]:=if_pos h
theorem cE_0 {D:List Int}:cE 0 D=sgE D:=rfl
theorem cL_0 {D:List Int}:cL 0 D=sgL D:=rfl
def dif (x y:Int):Int:=y - x
def twL (n:Nat) (L:List Int):List Int:=(List.range (L.length - n)).map fun k=>L.getD (k+n) 0 - L.getD k 0
def twE (m:Nat) (es:List Int) (z:Int):Int:=firstNZ [sigE m es,outB z 1 64]
def gauE (m n:Nat) (es es':List Int) (z:Int):Int:=firstNZ [sigE m es,sigE n es',outB z 0 16384,cond ((m:Int) != (n:Int)) 2 0]
theorem pair_ok {m n:Nat} {es es':List Int} (h:pairE m n es es'=0):(m≤4096∧firstNZ es=0)∧firstNZ es'=0∧m=n:=by
 have z:=firstNZ_zero h
 have z1:=sigE_short (z _ (List.mem_cons_self ..))
 have z2:=sigE_short (z (sigE n es') (by simp))
 have z3:=z (cond ((m:Int) != (n:Int)) 2 0) (by simp)
 refine ⟨z1,z2.2,?_⟩
 by_cases c:(m:Int)=(n:Int)
 ·omega
 ·rw [bne_iff_ne.2 c] at z3;exact absurd (show (2:Int)=0 from z3) (by decide)
theorem lev_limI {F:List Nat} {L:List Int} (h:Lev F L):∀ x,x ∈ L→x.natAbs≤16384:=fun x hx=>by
 obtain ⟨i,hi⟩:=List.mem_iff_getElem?.1 hx
 have hlt:=(List.getElem?_eq_some_iff.1 hi).1
 have hF:i < F.length:=by rw [h.1];exact hlt
 exact (h.2 i _ _ (List.getElem?_eq_getElem hF) hi).lim
section
variable {h:TH} {v w fv:Value} {F G:List Nat} {es es' L M A B D:List Int} {n z:Int}
theorem k1346 (H:Has tp) (x y:Int) (hx:x.natAbs≤100000) (hy:y.natAbs≤100000) (h:TH):CallW Tryz.prog tp (.func (.func 126) #[] #[]) #[zi x,zi y] h fun v h'=>v=zi (dif x y)∧h'=h:=by
 refine CallW.fnL (H.fn 126 f1346 rfl rfl) ?_
 exact WL.sr<|WOL.as rfl<|WOL.nil<|WL.sr<|WOL.mv rfl<|WOL.mv rfl<|WOL.sub (m:=y) (n:=x) rfl rfl (by omega) (by omega)<|WOL.as rfl<|WOL.nil<|WL.ret (WL.end_ rfl ⟨rfl,rfl⟩)
theorem k1348 (H:Has tp) (x y:Int) (hx:x.natAbs≤100000) (hy:y.natAbs≤100000) (h:TH):CallW Tryz.prog tp (.func (.func 124) #[] #[]) #[zi x,zi y] h fun v h'=>v=zi (dif x y)∧h'=h:=by
 refine CallW.fnL (H.fn 124 f1348 rfl rfl) ?_
 exact WL.sr<|WOL.as rfl<|WOL.nil<|WL.sr<|WOL.mv rfl<|WOL.mv rfl<|WOL.sub (m:=y) (n:=x) rfl rfl (by omega) (by omega)<|WOL.as rfl<|WOL.nil<|WL.ret (WL.end_ rfl ⟨rfl,rfl⟩)
theorem k1301 (H:Has tp) (X:HasX tp) (s:SlL encF 1 h v F) (t:SlL encF 1 h w G) (hE:SErr F es) (hE':SErr G es') (hL:firstNZ es=0→Lev F L) (hM:firstNZ es'=0→Lev G M) (hF:F.length≤900000) (hG:G.length≤900000) (f:Free0 h.next h) :
  CallW Tryz.prog tp (.func (.func 51) #[] #[]) #[v,w] h fun u h'=>HX h h'∧AnsF (cE (pairE F.length G.length es es') (List.zipWith dif L M)) (cL (pairE F.length G.length es es') (List.zipWith dif L M)) h.next h' u:=by
 refine CallW.fnL (H.fn 51 f1301 rfl rfl) ?_
 refine WL.sr<|WOL.as rfl<|WOL.as rfl<|WOL.nil<|keep [(0,_),(1,_)] ⟨rfl,rfl,trivial⟩ ?_
 refine WL.seq<|WL.sr<|WOL.mv rfl<|WOL.mv rfl<|WOL.cl2 rfl rfl rfl ((k1316 H X s t hE hE' (by omega) (by omega)).mono ?_)
 rintro u h2 ⟨rfl,X2⟩
 refine WOL.as rfl<|WOL.nil<|keep [(0,_),(1,_),(6,_)] ⟨rfl,rfl,rfl,trivial⟩ ?_
 generalize hp:pairE F.length G.length es es'=E
 by_cases e0:E≠0
 ·rw [cE_no e0,cL_no e0]
  refine WL.sr<|WOL.mv rfl<|WOL.bt rfl rfl rfl (bne_iff_ne.2 e0)<|WOL.nil<|WL.yes rfl<|WL.sr<|WOL.mv rfl<|WOL.as rfl<|WOL.as rfl<|WOL.nil ?_
  exact WL.ret (WL.end_ rfl ⟨X2,AnsF.err⟩)
 have e0:E=0:=Classical.not_not.1 e0
 subst e0
 rw [cE_0,cL_0]
 obtain ⟨⟨l1,z1⟩,z2,l2⟩:=pair_ok hp
 have lv:=hL z1
 have lw:=hM z2
 refine WL.sr<|WOL.mv rfl<|WOL.bf rfl rfl rfl rfl<|WOL.nil<|WL.no rfl<|WL.skip ?_
 refine WL.sr<|WOL.mv rfl<|WOL.cl1 rfl rfl ((k1313 H (s.hx X2) lv (by omega) (f.on X2)).mono ?_)
 rintro u h3 ⟨X3,c,rfl,hc,Ac⟩
 have Y3:=X2.trans X3
 have y3:=X3.next
 refine WOL.mv rfl<|WOL.cl1 rfl rfl ((k1313 H (t.hx Y3) lw (by omega) (f.on Y3)).mono ?_)
 rintro u h4 ⟨X4,d,rfl,hd,Ad⟩
 have Y4:=Y3.trans X4
 have y4:=X4.next
 have ll:=lv.1
 have lm:=lw.1
 have y2:=X2.next
 refine WOL.cl3 rfl rfl rfl rfl ((k1332 (φ:=dif) H (SlL.own eI (Ac.hx X4) rfl) (SlL.own eI Ad rfl) (by omega) (by omega) (f.on Y4) (fun x y hx hy g _=>(k1346 H x y (by have:=lev_limI lv x hx;omega) (by have:=lev_limI lw y hy;omega) g).mono fun v h' q=>⟨q.1,by rw [q.2];exact HX.refl _⟩)).mono ?_)
 rintro u h5 ⟨X5,c2,rfl,hc2,A5⟩
 have Y5:=Y4.trans X5
 have y5:=X5.next
 have lz:(List.zipWith dif L M).length=L.length:=by rw [List.length_zipWith];omega
 refine WOL.cl1 rfl rfl ((k1311 H (SlL.own eI A5 lz) (by omega) (f.on Y5)).mono ?_)
 rintro u h6 ⟨X6,R⟩
 have R:=R.low (n0:=h.next) (by omega)
 obtain ⟨b,m,k,F',rfl,r1,r2,r3⟩:=R
 exact WOL.ex rfl rfl<|WOL.ex rfl rfl<|WOL.as rfl<|WOL.as rfl<|WOL.nil<|WL.ret (WL.end_ rfl ⟨Y5.trans X6,b,m,k,F',rfl,r1,r2,r3⟩)
theorem k1347 (H:Has tp) (X:HasX tp) (s:SlL encF 1 h v F) (hE:SErr F es) (hF:F.length≤1000000):CallW Tryz.prog tp (.func (.func 122) #[] #[]) #[v,zi z] h fun u h'=>u=zi (twE F.length es z)∧HX h h':=by
 refine CallW.fnL (H.fn 122 f1347 rfl rfl) ?_
 refine WL.sr<|WOL.as rfl<|WOL.nil<|keep [(0,_),(1,_)] ⟨rfl,rfl,trivial⟩ ?_
 refine WL.sr<|WOL.mv rfl<|WOL.cl1 rfl rfl ((k1268 H X s hE hF).mono ?_)
 rintro u h2 ⟨rfl,rfl⟩
 refine WOL.mv rfl<|WOL.cl3 rfl rfl rfl rfl ((k72 H z 1 64 _).mono ?_)
 rintro u h3 ⟨rfl,rfl⟩
 refine WOL.bsl rfl u166 tp30 (by decide) (by decide) (by decide) (filled_ints _ _) fun h5 N5=>WOL.cl1 rfl rfl ((k71 H (l:=[_,_]) N5.at_.get (by simp)).mono ?_)
 rintro v h6 ⟨rfl,rfl⟩
 exact WOL.as rfl<|WOL.nil<|WL.ret (WL.end_ rfl ⟨rfl,N5.hx⟩)
theorem tw_zip {n:Nat}:List.zipWith dif (L.take (L.length - n)) (L.drop n)=twL n L:=by
 refine List.ext_getElem? fun i=>?_
 unfold twL
 rw [tbl_get]
 by_cases hi:i < L.length - n
 ·rw [if_pos hi]
  have e1:(L.take (L.length - n))[i]?=some (L.getD i 0):=by rw [List.getElem?_take_of_lt hi];exact at_getD (by omega)
  have e2:(L.drop n)[i]?=some (L.getD (i+n) 0):=by rw [List.getElem?_drop,Nat.add_comm n i];exact at_getD (by omega)
  rw [zw_get e1 e2];rfl
 ·rw [if_neg hi,List.getElem?_eq_none (by rw [List.length_zipWith,List.length_take];omega)]
theorem twE_ok {m:Nat} (h:twE m es z=0):(m≤4096∧firstNZ es=0)∧1≤z∧z≤64:=by
 have q:=firstNZ_zero h
 refine ⟨sigE_short (q _ (List.mem_cons_self ..)),?_⟩
 have:=q (outB z 1 64) (by simp)
 unfold outB at this
 by_cases c1:z < 1
 ·rw [decide_eq_true c1] at this;exact absurd (show (3:Int)=0 from this) (by decide)
 ·by_cases c2:z > 64
  ·rw [decide_eq_true c2,Bool.or_true] at this;exact absurd (show (3:Int)=0 from this) (by decide)
  ·omega
theorem k1302 (H:Has tp) (X:HasX tp) (s:SlL encF 1 h v F) (hE:SErr F es) (hL:firstNZ es=0→Lev F L) (hF:F.length≤900000) (f:Free0 h.next h) :
  CallW Tryz.prog tp (.func (.func 50) #[] #[]) #[v,zi z] h fun u h'=>HX h h'∧AnsF (cE (twE F.length es z) (twL z.toNat L)) (cL (twE F.length es z) (twL z.toNat L)) h.next h' u:=by
 refine CallW.fnL (H.fn 50 f1302 rfl rfl) ?_
 refine WL.sr<|WOL.as rfl<|WOL.as rfl<|WOL.nil<|keep [(0,_),(1,_)] ⟨rfl,rfl,trivial⟩ ?_
 refine WL.seq<|WL.sr<|WOL.mv rfl<|WOL.mv rfl<|WOL.cl2 rfl rfl rfl ((k1347 H X s hE (by omega)).mono ?_)
 rintro u h2 ⟨rfl,X2⟩
 refine WOL.as rfl<|WOL.nil<|keep [(0,_),(1,_),(6,_)] ⟨rfl,rfl,rfl,trivial⟩ ?_
 generalize hp:twE F.length es z=E
 by_cases e0:E≠0
 ·rw [cE_no e0,cL_no e0]
  refine WL.sr<|WOL.mv rfl<|WOL.bt rfl rfl rfl (bne_iff_ne.2 e0)<|WOL.nil<|WL.yes rfl<|WL.sr<|WOL.mv rfl<|WOL.as rfl<|WOL.as rfl<|WOL.nil ?_
  exact WL.ret (WL.end_ rfl ⟨X2,AnsF.err⟩)
 have e0:E=0:=Classical.not_not.1 e0
 subst e0
 rw [cE_0,cL_0]
 obtain ⟨⟨l1,z1⟩,z2,z3⟩:=twE_ok hp
 obtain ⟨n,rfl⟩:∃ n:Nat,z=n:=⟨z.toNat,by omega⟩
 rw [Int.toNat_natCast]
 have lv:=hL z1
 have ll:=lv.1
 have y2:=X2.next
 refine WL.sr<|WOL.mv rfl<|WOL.bf rfl rfl rfl rfl<|WOL.nil<|WL.no rfl<|WL.skip<|keep [(0,_),(1,_)] ⟨rfl,rfl,trivial⟩ ?_
 by_cases cn:(n:Int) ≥ (F.length:Int)
 ·have e:twL n L=[]:=by unfold twL;rw [show L.length - n=0 by omega];rfl
  rw [e]
  refine WL.seq<|WL.sr<|WOL.mv rfl<|WOL.mv rfl<|WOL.len rfl (s.hx X2) u43<|WOL.bt rfl rfl rfl (decide_eq_true cn)<|WOL.nil<|WL.yes rfl<|WL.sr<|WOL.as rfl<|WOL.as rfl<|WOL.nil ?_
  exact WL.ret (WL.end_ rfl ⟨X2,AnsF.err⟩)
 refine WL.seq<|WL.sr<|WOL.mv rfl<|WOL.mv rfl<|WOL.len rfl (s.hx X2) u43<|WOL.bf rfl rfl rfl (decide_eq_false cn)<|WOL.nil<|WL.no rfl<|WL.skip<|keep [(0,_),(1,_)] ⟨rfl,rfl,trivial⟩ ?_
 refine WL.sr<|WOL.mv rfl<|WOL.cl1 rfl rfl ((k1313 H (s.hx X2) lv (by omega) (f.on X2)).mono ?_)
 rintro u h3 ⟨X3,c,rfl,hc,Ac⟩
 have Y3:=X2.trans X3
 have y3:=X3.next
 refine WOL.as rfl<|WOL.nil<|keep [(1,_),(7,_)] ⟨rfl,rfl,trivial⟩ ?_
 have sl:SlL encI 1 h3 (slA c L.length) L:=SlL.own eI Ac rfl
 refine WL.sr<|WOL.mv rfl<|WOL.mv rfl<|WOL.len rfl sl u29<|WOL.mv rfl<|WOL.sub (m:=((L.length:Nat):Int)) (n:=((n:Nat):Int)) rfl rfl (by omega) (by omega) ?_
 rw [show ((L.length:Nat):Int) - ((n:Nat):Int)=((L.length - n:Nat):Int) by omega]
 have sf:=sliceT_from (off:=0) (k:=.i64) (lo:=n) u29 tp3 (Nat.le_refl L.length) (by omega) Ac (.inl rfl)
 have p2:=SlL.part (lo:=n) (hi:=L.length) eI sl (by omega) (Nat.le_refl _)
 rw [List.take_of_length_le (by rw [List.length_drop];omega)] at p2
 have p1:SlL encI 1 h3 (.slice (some ⟨c,0,none⟩) (L.length - n) L.length) (L.take (L.length - n)):=by
  have Ac':=Ac
  rw [← List.take_append_drop (L.length - n) L] at Ac'
  exact SlL.front eI Ac' (by rw [List.length_take];omega) (by omega)
 refine WOL.slG rfl rfl rfl rfl (sliceT_to (k:=.i64) (hi:=L.length - n) u29 tp3 (Nat.le_refl L.length) (by omega) Ac (.inl rfl))<|WOL.mv rfl<|WOL.mv rfl<|WOL.slG rfl rfl rfl rfl sf ?_
 refine WOL.cl3 rfl rfl rfl rfl ((k1332 (φ:=dif) H p1 p2 (by rw [List.length_take];omega) (by rw [List.length_take,List.length_drop];omega) (f.on Y3) (fun x y hx hy g _=>(k1348 H x y (by have:=lev_limI lv x (List.mem_of_mem_take hx);omega) (by have:=lev_limI lv y (List.mem_of_mem_drop hy);omega) g).mono fun v h' q=>⟨q.1,by rw [q.2];exact HX.refl _⟩)).mono ?_)
 rintro u h5 ⟨X5,c2,rfl,hc2,A5⟩
 rw [tw_zip] at A5
 have Y5:=Y3.trans X5
 have y5:=X5.next
 have lz:(twL n L).length=(L.take (L.length - n)).length:=by unfold twL;rw [List.length_map,List.length_range,List.length_take];omega
 refine WOL.cl1 rfl rfl ((k1311 H (SlL.own eI A5 lz) (by rw [lz,List.length_take];omega) (f.on Y5)).mono ?_)
 rintro u h6 ⟨X6,R⟩
 have R:=R.low (n0:=h.next) (by omega)
 obtain ⟨b,m,k,F',rfl,r1,r2,r3⟩:=R
 exact WOL.ex rfl rfl<|WOL.ex rfl rfl<|WOL.as rfl<|WOL.as rfl<|WOL.nil<|WL.ret (WL.end_ rfl ⟨Y5.trans X6,b,m,k,F',rfl,r1,r2,r3⟩)
end
end Go.Tidy
namespace Go.Tidy
open Go Go.Proofs Tab
variable {tp:TProg}
def mxL (D M:List Int) (j:Nat):List Int:=(List.range M.length).map fun i=>if i < j then D.getD i 0 else M.getD i 0
section
variable {D M:List Int} {i j:Nat}
theorem mx_len:(mxL D M j).length=M.length:=by unfold mxL;rw [List.length_map,List.length_range]
theorem mx_get (h:i < M.length):(mxL D M j)[i]?=some (if i < j then D.getD i 0 else M.getD i 0):=by
 unfold mxL
 rw [tbl_get,if_pos h]
theorem mx_zero:mxL D M 0=M:=List.ext_getElem? fun i=>by
 by_cases h:i < M.length
 ·rw [mx_get h,if_neg (by omega),← at_getD h]
 ·rw [List.getElem?_eq_none (by rw [mx_len];omega),List.getElem?_eq_none (by omega)]
theorem mx_all (e:D.length=M.length):mxL D M M.length=D:=List.ext_getElem? fun i=>by
 by_cases h:i < M.length
 ·rw [mx_get h,if_pos h,← at_getD (by omega)]
 ·rw [List.getElem?_eq_none (by rw [mx_len];omega),List.getElem?_eq_none (by omega)]
theorem mx_set (h:j < M.length):(mxL D M j).set j (D.getD j 0)=mxL D M (j+1):=List.ext_getElem? fun i=>by
 by_cases e:i=j
 ·subst e
  rw [List.getElem?_set_self (by rw [mx_len];exact h),mx_get h,if_pos (by omega)]
 ·rw [List.getElem?_set_ne (fun c=>e c.symm)]
  by_cases h':i < M.length
  ·rw [mx_get h',mx_get h']
   by_cases c:i < j
   ·rw [if_pos c,if_pos (by omega)]
   ·rw [if_neg c,if_neg (by omega)]
  ·rw [List.getElem?_eq_none (by rw [mx_len];omega),List.getElem?_eq_none (by rw [mx_len];omega)]
end
section
variable {h:TH} {v w fv:Value} {F G:List Nat} {es es' L M A B D:List Int} {n z:Int}
def gauL (z:Int) (L M:List Int):List Int:=List.zipWith (fun x y=>z+x+y) L M
theorem k1349 (H:Has tp) {c:Nat} {x y:Int} (A:At h c (.cells [zi z] true true 3)) (hz:z.natAbs≤100000) (hx:x.natAbs≤100000) (hy:y.natAbs≤100000):CallW Tryz.prog tp (.func (.func 128) #[] #[ptr c]) #[zi x,zi y] h fun v h'=>v=zi (z+x+y)∧h'=h:=by
 refine CallW.fnC (H.fn 128 f1349 rfl rfl) ?_
 exact WL.sr<|WOL.as rfl<|WOL.nil<|WL.sr<|WOL.ld rfl (load_one tp3 A rfl)<|WOL.mv rfl<|WOL.add (m:=z) (n:=x) rfl rfl (by omega) (by omega)<|WOL.mv rfl<|WOL.add (m:=z+x) (n:=y) rfl rfl (by omega) (by omega)<|WOL.as rfl<|WOL.nil<|WL.ret (WL.end_ rfl ⟨rfl,rfl⟩)
end
end Go.Tidy
namespace Go.Tidy
open Go Go.Proofs Tab
variable {tp:TProg}
section
variable {h:TH} {v w v7 v9 v11 v16 v17 v18:Value} {F G:List Nat} {es es' L M D1 D2 D3:List Int} {n0 n1 z e1 e2 e3 E1 E2 E3:Int} {c5:Nat}
def gaO (E:Int) (D:List Int):List Int:=if E≠0 then [] else D
theorem gau_ok {m n:Nat} (h:gauE m n es es' z=0):(m≤4096∧firstNZ es=0)∧firstNZ es'=0∧m=n∧0≤z∧z≤16384:=by
 have q:=firstNZ_zero h
 have z1:=sigE_short (q _ (List.mem_cons_self ..))
 have z2:=sigE_short (q (sigE n es') (by simp))
 have z3:=q (cond ((m:Int) != (n:Int)) 2 0) (by simp)
 have z4:=q (outB z 0 16384) (by simp)
 refine ⟨z1,z2.2,?_,?_⟩
 ·by_cases c:(m:Int)=(n:Int)
  ·omega
  ·rw [bne_iff_ne.2 c] at z3;exact absurd (show (2:Int)=0 from z3) (by decide)
 ·unfold outB at z4
  by_cases c1:z < 0
  ·rw [decide_eq_true c1] at z4;exact absurd (show (3:Int)=0 from z4) (by decide)
  ·by_cases c2:z > 16384
   ·rw [decide_eq_true c2,Bool.or_true] at z4;exact absurd (show (3:Int)=0 from z4) (by decide)
   ·omega
theorem k1303 (H:Has tp) (X:HasX tp) (s:SlL encF 1 h v F) (t:SlL encF 1 h w G) (hE:SErr F es) (hE':SErr G es') (hL:firstNZ es=0→Lev F L) (hM:firstNZ es'=0→Lev G M) (hF:F.length≤900000) (hG:G.length≤900000) (f:Free0 h.next h) :
  CallW Tryz.prog tp (.func (.func 52) #[] #[]) #[v,w,zi z] h fun u h'=>HX h h'∧∃ v',u=.tuple #[v',zi (gauE F.length G.length es es' z)]∧SlL encI 1 h' v' (gaO (gauE F.length G.length es es' z) (gauL z L M)):=by
 refine CallW.fnL (H.fn 52 f1303 rfl rfl) ?_
 refine WL.sr<|WOL.box rfl fun h1 N1=>WOL.as rfl<|WOL.as rfl<|WOL.nil<|keep [(0,_),(1,_),(5,_)] ⟨rfl,rfl,rfl,trivial⟩ ?_
 have n1:=N1.next
 have A5:At h1 h.next (.cells [zi z] true true 3):=N1.at_
 have s1:=s.hx N1.hx
 have t1:=t.hx N1.hx
 refine WL.sr<|WOL.mv rfl<|WOL.mv rfl<|WOL.ld rfl (load_one tp3 A5 rfl)<|WOL.mv rfl<|WOL.len rfl s1 u43<|WOL.mv rfl<|WOL.len rfl t1 u43<|WOL.lk1 rfl rfl fun ml=>((k1268 H X (s1.relock ml) hE (by omega)).mono ?_)
 rintro u h2 ⟨rfl,rfl⟩
 rw [TH.relock]
 refine WOL.lk1 rfl rfl fun ml=>((k1268 H X (t1.relock ml) hE' (by omega)).mono ?_)
 rintro u h2 ⟨rfl,rfl⟩
 rw [TH.relock]
 refine WOL.cl3 rfl rfl rfl rfl ((k72 H z 0 16384 _).mono ?_)
 rintro u h3 ⟨rfl,rfl⟩
 refine WOL.cl2 rfl rfl rfl ((k1342 H _ _ _).mono ?_)
 rintro u h4 ⟨rfl,rfl⟩
 refine WOL.bsl rfl u166 tp30 (by decide) (by decide) (by decide) (filled_ints4 _ _ _ _) fun h5 N5=>WOL.cl1 rfl rfl ((k71 H (l:=[_,_,_,_]) N5.at_.get (by simp)).mono ?_)
 rintro u h6 ⟨rfl,rfl⟩
 have X2:=N1.hx.trans N5.hx
 have y2:=X2.next
 refine WOL.as rfl<|WOL.nil<|keep [(0,_),(1,_),(5,_),(8,_)] ⟨rfl,rfl,rfl,rfl,trivial⟩ ?_
 generalize hp:firstNZ [sigE F.length es,sigE G.length es',outB z 0 16384,cond ((F.length:Int) != (G.length:Int)) 2 0]=E
 replace hp:gauE F.length G.length es es' z=E:=hp
 rw [hp]
 by_cases e0:E≠0
 ·refine WL.seq<|WL.sr<|WOL.mv rfl<|WOL.bt rfl rfl rfl (bne_iff_ne.2 e0)<|WOL.nil<|WL.yes rfl<|WL.sr<|WOL.mv rfl<|WOL.as rfl<|WOL.as rfl<|WOL.nil ?_
  exact WL.ret (WL.end_ rfl ⟨X2,_,rfl,by unfold gaO;rw [if_pos e0];exact SlL.nil⟩)
 have e0:E=0:=Classical.not_not.1 e0
 subst e0
 obtain ⟨⟨l1,z1⟩,z2,l2,z3,z4⟩:=gau_ok hp
 have lv:=hL z1
 have lw:=hM z2
 have ll:=lv.1
 have lm:=lw.1
 refine WL.seq<|WL.sr<|WOL.mv rfl<|WOL.bf rfl rfl rfl rfl<|WOL.nil<|WL.no rfl<|WL.skip ?_
 refine WL.sr<|WOL.mv rfl<|WOL.cl1 rfl rfl ((k1313 H (s.hx X2) lv (by omega) (f.on X2)).mono ?_)
 rintro u h3 ⟨X3,c,rfl,hc,Ac⟩
 have Y3:=X2.trans X3
 refine WOL.mv rfl<|WOL.cl1 rfl rfl ((k1313 H (t.hx Y3) lw (by omega) (f.on Y3)).mono ?_)
 rintro u h4 ⟨X4,d,rfl,hd,Ad⟩
 have Y4:=Y3.trans X4
 have A5':=((A5.hx N5.hx).hx X3).hx X4
 refine WOL.mf rfl<|WOL.cl3 rfl rfl rfl rfl ((k1332 (φ:=fun x y=>z+x+y) H (SlL.own eI (Ac.hx X4) rfl) (SlL.own eI Ad rfl) (by omega) (by omega) (f.on Y4) (fun x y hx hy g Xg=>(k1349 H (A5'.hx Xg) (by omega) (by have:=lev_limI lv x hx;omega) (by have:=lev_limI lw y hy;omega)).mono fun v h' q=>⟨q.1,by rw [q.2];exact HX.refl _⟩)).mono ?_)
 rintro u h5 ⟨X5,c2,rfl,hc2,A6⟩
 refine WOL.as rfl<|WOL.as rfl<|WOL.nil<|WL.ret (WL.end_ rfl ⟨Y4.trans X5,_,rfl,?_⟩)
 unfold gaO
 rw [if_neg (by decide)]
 exact SlL.own eI A6 (by show (List.zipWith _ L M).length=L.length;rw [List.length_zipWith];omega)
end
theorem val_fls {v:Value}:valOf Tryz.prog 25 [v]=v:=by unfold valOf;rw [Tryz.underlying25];rfl
end Go.Tidy
namespace Go.Tidy
open Go Go.Proofs Tab
variable {tp:TProg}
def benL (L:List Int):List Int:=(List.range (L.length - 2)).map fun k=>L.getD k 0 - 2*L.getD (k+1) 0+L.getD (k+2) 0
def wtI:Nat→Int
 | 0=>1
 | 1=>-2
 | _=>1
def bp (L:List Int) (i:Nat):Nat→Int
 | 0=>0
 | k+1=>bp L i k+wtI k*L.getD (i+k) 0
section
variable {L D Z:List Int} {i k:Nat}
theorem ben_len:(benL L).length=L.length - 2:=by unfold benL;rw [List.length_map,List.length_range]
theorem ben_get (h:i < L.length - 2):(benL L).getD i 0=L.getD i 0 - 2*L.getD (i+1) 0+L.getD (i+2) 0:=by
 rw [List.getD_eq_getElem?_getD];unfold benL;rw [tbl_get,if_pos h];rfl
theorem bp3 (h:i < L.length - 2):bp L i 3=(benL L).getD i 0:=by
 rw [ben_get h]
 show 0+1*L.getD (i+0) 0+(-2)*L.getD (i+1) 0+1*L.getD (i+2) 0=_
 rw [Nat.add_zero];omega
theorem bp_lim (hl:∀ j,(L.getD j 0).natAbs≤16384) (hk:k≤3):(bp L i k).natAbs≤100000:=by
 have a0:=hl (i+0)
 have a1:=hl (i+1)
 have a2:=hl (i+2)
 match k,hk with
 | 0,_=>show (0:Int).natAbs≤_;omega
 | 1,_=>show (0+1*L.getD (i+0) 0).natAbs≤_;omega
 | 2,_=>show (0+1*L.getD (i+0) 0+(-2)*L.getD (i+1) 0).natAbs≤_;omega
 | 3,_=>show (0+1*L.getD (i+0) 0+(-2)*L.getD (i+1) 0+1*L.getD (i+2) 0).natAbs≤_;omega
theorem lev_getD {F:List Nat} (h:Lev F L) (j:Nat):(L.getD j 0).natAbs≤16384:=by
 by_cases hj:j < L.length
 ·exact lev_limI h _ (List.mem_of_getElem? (at_getD hj))
 ·rw [List.getD_eq_getElem?_getD,List.getElem?_eq_none (by omega)];decide
theorem set_same {l:List Int} {i:Nat} {x:Int} (h:l[i]?=some x):l.set i x=l:=List.ext_getElem? fun j=>by
 have hlt:=(List.getElem?_eq_some_iff.1 h).1
 by_cases e:i=j
 ·subst e;rw [List.getElem?_set_self hlt,h]
 ·rw [List.getElem?_set_ne e]
theorem wt_0:indexT Tryz.prog 183 (.agg #[zi 1,zi (-2),zi 1]) (zi 0)=some (zi 1):=by kernel_rfl
theorem wt_1:indexT Tryz.prog 183 (.agg #[zi 1,zi (-2),zi 1]) (zi 1)=some (zi (-2)):=by kernel_rfl
theorem wt_2:indexT Tryz.prog 183 (.agg #[zi 1,zi (-2),zi 1]) (zi 2)=some (zi 1):=by kernel_rfl
theorem wt_ix (hk:k < 3):indexT Tryz.prog 183 (.agg #[zi 1,zi (-2),zi 1]) (zi (k:Nat))=some (zi (wtI k)):=by
 match k,hk with
 | 0,_=>exact wt_0
 | 1,_=>exact wt_1
 | 2,_=>exact wt_2
end
section
variable {h:TH} {v w fv:Value} {F G:List Nat} {es es' L M A B D:List Int} {n z:Int}
set_option maxHeartbeats 4000000 in
set_option maxRecDepth 10000 in
theorem k1329 (H:Has tp) (G:Glob h) (s:SlL encI 1 h v L) (hl:L.length≤900000) (h2:2≤L.length) (lim:∀ j,(L.getD j 0).natAbs≤16384) (f:Free0 h.next h) :
  CallW Tryz.prog tp (.func (.func 129) #[] #[]) #[v] h fun w h'=>HX h h'∧∃ c,w=slA c (L.length - 2)∧h.next≤c∧At h' c (.cells (cat encI (benL L)) true true 3):=by
 refine CallW.fnL (H.fn 129 f1329 rfl rfl) ?_
 obtain ⟨N,hN⟩:∃ N:Nat,L.length=N+2:=⟨L.length - 2,by omega⟩
 have lb:(benL L).length=N:=by rw [ben_len];omega
 refine WL.sr<|WOL.as rfl<|WOL.nil<|keep [(0,_)] ⟨rfl,trivial⟩ ?_
 refine WL.sr<|WOL.mv rfl<|WOL.len rfl s u29<|WOL.add (m:=((L.length:Nat):Int)) (n:=1) rfl rfl (by omega) (by omega)<|WOL.sub (m:=((L.length:Nat):Int)+1) (n:=3) rfl rfl (by omega) (by omega) ?_
 rw [show ((L.length:Nat):Int)+1 - 3=((N:Nat):Int) by omega]
 refine WOL.ms (m:=N) rfl rfl u29 tp3 (by decide) (by omega) fun h1 N1=>WOL.as rfl<|WOL.nil<|keep [(0,_),(3,_)] ⟨rfl,rfl,trivial⟩ ?_
 have q1:=N1.next
 have W0:=N1.at_
 rw [rep_flat,← cat_rep (enc:=encI) (x:=0) rfl] at W0
 have lZ:(List.replicate N (0:Int)).length=N:=List.length_replicate
 have zg:∀ i,(List.replicate N (0:Int)).getD i 0=0:=fun i=>by
  rw [List.getD_eq_getElem?_getD,List.getElem?_replicate]
  by_cases c:i < N
  ·rw [if_pos c];rfl
  ·rw [if_neg c];rfl
 generalize hZ:List.replicate N (0:Int)=Z at *
 refine WL.seq<|WL.sr<|WOL.mv rfl<|WOL.len rfl (SlL.own eI W0 lZ:SlL encI 1 h1 (slA h.next N) Z) u29<|WOL.mv rfl<|WOL.nil ?_
 rw [lZ]
 refine keep [(0,_),(3,_),(13,_),(14,_)] ⟨rfl,rfl,rfl,rfl,trivial⟩ ?_
 refine WL.upto (α:=Unit) N (fun j _ g=>HX h g∧h1.next≤g.next∧At g h.next (.cells (cat encI (mxL (benL L) Z j)) true true 3)) (fun _ _=>[(0,v),(3,slA h.next N),(13,zi (N:Nat))]) () rfl rfl (by omega) ⟨N1.hx,Nat.le_refl _,by rw [mx_zero];exact W0⟩ ⟨rfl,rfl,rfl,rfl,trivial⟩ (fun _ _=>rfl) (fun _ _ _=>⟨rfl,rfl,rfl,rfl,trivial⟩) (fun _ _ _=>⟨rfl,rfl,rfl,rfl,trivial⟩) ?_ ?_
 ·rintro i _ g hi ⟨X,nx,Wd⟩
  refine WL.sr<|WOL.mv rfl<|WOL.as rfl<|WOL.nil<|keep [(0,_),(3,_),(4,_),(13,_),(14,_)] ⟨rfl,rfl,rfl,rfl,rfl,trivial⟩ ?_
  obtain ⟨ge,Ag⟩:=(G.hx X).wghtL
  refine WL.sr<|WOL.ld (v:=.agg #[zi 1,zi (-2),zi 1]) rfl (load_row tp83 Ag (l:=[zi 1,zi (-2),zi 1]) rfl (Nat.le_of_ble_eq_true rfl))<|WOL.mv rfl<|WOL.nil<|keep [(0,_),(3,_),(4,_),(13,_),(14,_),(17,_),(18,_)] ⟨rfl,rfl,rfl,rfl,rfl,rfl,rfl,trivial⟩ ?_
  have hiZ:i < Z.length:=by omega
  have e0:(mxL (benL L) Z i)[i]?=some 0:=by rw [mx_get hiZ,if_neg (by omega),zg]
  refine WL.upto (α:=Unit) 3 (fun k _ g=>HX h g∧h1.next≤g.next∧At g h.next (.cells (cat encI ((mxL (benL L) Z i).set i (bp L i k))) true true 3)) (fun _ _=>[(0,v),(3,slA h.next N),(4,zi (i:Nat)),(13,zi (N:Nat)),(14,zi (i:Nat)),(17,.agg #[zi 1,zi (-2),zi 1])]) () rfl rfl (by decide) ⟨X,nx,by rw [show bp L i 0=0 from rfl,set_same e0];exact Wd⟩ ⟨rfl,rfl,rfl,rfl,rfl,rfl,rfl,trivial⟩ (fun _ _=>rfl) (fun _ _ _=>⟨rfl,rfl,rfl,rfl,rfl,rfl,rfl,trivial⟩) (fun _ _ _=>⟨rfl,rfl,rfl,rfl,rfl,rfl,rfl,trivial⟩) ?_ ?_
  ·rintro k _ g hk ⟨X,nx,Wd⟩
   have ls:((mxL (benL L) Z i).set i (bp L i k)).length=N:=by rw [List.length_set,mx_len,lZ]
   have es:((mxL (benL L) Z i).set i (bp L i k))[i]?=some (bp L i k):=List.getElem?_set_self (by rw [mx_len];omega)
   have e1:L[i+k]?=some (L.getD (i+k) 0):=at_getD (by omega)
   have b1:=lim (i+k)
   have b2:=bp_lim (i:=i) (k:=k) lim (by omega)
   have b3:=bp_lim (i:=i) (k:=k+1) lim (by omega)
   have b4:(wtI k).natAbs≤2:=by match k,hk with | 0,_=>decide | 1,_=>decide | 2,_=>decide
   have b5:=mulb b4 b1
   have bd:bp L i (k+1)=bp L i k+wtI k*L.getD (i+k) 0:=rfl
   obtain ⟨_,_,ca,fa,wa,ela,a1,a2,a3,a4,a5⟩:=(s.hx X).at eI u29 tp3 e1 .i64
   obtain ⟨_,_,cb,fb,wb,elb,c1,c2,c3,c4,c5⟩:=(SlL.own eI Wd ls:SlL encI 1 g (slA h.next N) _).at eI u29 tp3 es .i64
   have gxa:=a5 0 (by decide)
   have gxb:=c5 0 (by decide)
   rw [Nat.add_zero] at gxa gxb
   refine WL.sr<|WOL.mv rfl<|WOL.idx rfl rfl (wt_ix hk)<|WOL.as rfl<|WOL.as rfl<|WOL.nil<|keep [(0,_),(3,_),(4,_),(5,_),(6,_),(13,_),(14,_),(17,_),(18,_)] ⟨rfl,rfl,rfl,rfl,rfl,rfl,rfl,rfl,rfl,trivial⟩ ?_
   refine WL.reg<|WOL.mv rfl<|WOL.mv rfl<|WOL.ix rfl rfl c1<|WOL.ld rfl (load_one tp3 c2 gxb)<|WOL.mv rfl<|WOL.mv rfl<|WOL.mv rfl<|WOL.mv rfl<|WOL.add (m:=((i:Nat):Int)) (n:=((k:Nat):Int)) rfl rfl (by omega) (by omega) ?_
   rw [show ((i:Nat):Int)+((k:Nat):Int)=((i+k:Nat):Int) by omega]
   refine WOL.ix rfl rfl a1<|WOL.ld rfl (load_one tp3 a2 gxa)<|WOL.mul (m:=wtI k) (n:=L.getD (i+k) 0) rfl rfl (by omega) (by omega)<|WOL.add (m:=bp L i k) (n:=wtI k*L.getD (i+k) 0) rfl rfl (by omega) (by omega) ?_
   rw [← bd]
   refine WOL.ix rfl rfl (indexAddr_tp (j:=i) u29 tp3 hi)<|WOL.sto (vs:=encI (bp L i (k+1))) rfl rfl tp3 Wd rfl rfl (by rw [eI.cat_len,ls];omega) rfl (f.hx X) (Nat.le_refl _) fun g5 P5=>WOL.nil fun y q=>⟨(),⟨P5.hx _ X (Nat.le_refl _),by rw [P5.next];exact nx,?_⟩,q.sub ⟨rfl,rfl,rfl,rfl,rfl,rfl,rfl,trivial⟩⟩
   have:=P5.at_
   rw [Nat.zero_add,eI.set (by rw [ls];exact hi),List.set_set] at this
   exact this
  ·rintro _ g ⟨X,nx,Wd⟩
   rw [bp3 (by omega),mx_set hiZ] at Wd
   exact fun a q=>⟨(),⟨X,nx,Wd⟩,q.sub ⟨rfl,rfl,rfl,rfl,trivial⟩⟩
 ·rintro _ g ⟨X,nx,Wd⟩
  have e:mxL (benL L) Z N=benL L:=by
   have:=mx_all (D:=benL L) (M:=Z) (by omega)
   rwa [lZ] at this
  rw [e] at Wd
  exact WL.sr<|WOL.mv rfl<|WOL.as rfl<|WOL.nil<|WL.ret (WL.end_ rfl ⟨X,h.next,by rw [show L.length - 2=N by omega];rfl,Nat.le_refl _,Wd⟩)
def lineE (m:Nat) (es:List Int):Int:=firstNZ [sigE m es,cond (decide ((m:Int) < 2)) 16 0]
theorem line_ok {m:Nat} (h:lineE m es=0):(m≤4096∧firstNZ es=0)∧2≤m:=by
 have q:=firstNZ_zero h
 refine ⟨sigE_short (q _ (List.mem_cons_self ..)),?_⟩
 have:=q (cond (decide ((m:Int) < 2)) 16 0) (by simp)
 by_cases c:(m:Int) < 2
 ·rw [decide_eq_true c] at this;exact absurd (show (16:Int)=0 from this) (by decide)
 ·omega
theorem k1341 (H:Has tp) (s:SlL encF 1 h v F):CallW Tryz.prog tp (.func (.func 138) #[] #[]) #[v] h fun u h'=>u=zi (cond (decide ((F.length:Int) < 2)) 16 0)∧h'=h:=by
 refine CallW.fnL (H.fn 138 f1341 rfl rfl) ?_
 refine WL.sr<|WOL.as rfl<|WOL.nil<|keep [(0,_)] ⟨rfl,trivial⟩ ?_
 refine WL.sr<|WOL.mv rfl<|WOL.len rfl s u43<|WOL.bi (v:=.bool (decide ((F.length:Int) < 2))) rfl rfl rfl<|WOL.cl2 rfl rfl rfl ((k77 H _ _ _).mono ?_)
 rintro u g ⟨rfl,rfl⟩
 exact WOL.as rfl<|WOL.nil<|WL.ret (WL.end_ rfl ⟨rfl,rfl⟩)
theorem k1328 (H:Has tp) (X:HasX tp) (s:SlL encF 1 h v F) (hE:SErr F es) (hF:F.length≤1000000):CallW Tryz.prog tp (.func (.func 92) #[] #[]) #[v] h fun u h'=>u=zi (lineE F.length es)∧HX h h':=by
 refine CallW.fnL (H.fn 92 f1328 rfl rfl) ?_
 refine WL.sr<|WOL.as rfl<|WOL.nil<|keep [(0,_)] ⟨rfl,trivial⟩ ?_
 refine WL.sr<|WOL.mv rfl<|WOL.cl1 rfl rfl ((k1268 H X s hE hF).mono ?_)
 rintro u h2 ⟨rfl,rfl⟩
 refine WOL.mv rfl<|WOL.cl1 rfl rfl ((k1341 H s).mono ?_)
 rintro u h3 ⟨rfl,rfl⟩
 refine WOL.bsl rfl u166 tp30 (by decide) (by decide) (by decide) (filled_ints _ _) fun h5 N5=>WOL.cl1 rfl rfl ((k71 H (l:=[_,_]) N5.at_.get (by simp)).mono ?_)
 rintro v h6 ⟨rfl,rfl⟩
 exact WOL.as rfl<|WOL.nil<|WL.ret (WL.end_ rfl ⟨rfl,N5.hx⟩)
theorem k1277 (H:Has tp) (X:HasX tp) (G:Glob h) (s:SlL encF 1 h v F) (hE:SErr F es) (hL:firstNZ es=0→Lev F L) (hF:F.length≤900000) (f:Free0 h.next h) :
  CallW Tryz.prog tp (.func (.func 53) #[] #[]) #[v] h fun u h'=>HX h h'∧AnsF (cE (lineE F.length es) (benL L)) (cL (lineE F.length es) (benL L)) h.next h' u:=by
 refine CallW.fnL (H.fn 53 f1277 rfl rfl) ?_
 refine WL.sr<|WOL.as rfl<|WOL.as rfl<|WOL.nil<|keep [(0,_)] ⟨rfl,trivial⟩ ?_
 refine WL.seq<|WL.sr<|WOL.mv rfl<|WOL.cl1 rfl rfl ((k1328 H X s hE (by omega)).mono ?_)
 rintro u h2 ⟨rfl,X2⟩
 refine WOL.as rfl<|WOL.nil<|keep [(0,_),(4,_)] ⟨rfl,rfl,trivial⟩ ?_
 generalize hp:lineE F.length es=E
 by_cases e0:E≠0
 ·rw [cE_no e0,cL_no e0]
  refine WL.sr<|WOL.mv rfl<|WOL.bt rfl rfl rfl (bne_iff_ne.2 e0)<|WOL.nil<|WL.yes rfl<|WL.sr<|WOL.mv rfl<|WOL.as rfl<|WOL.as rfl<|WOL.nil ?_
  exact WL.ret (WL.end_ rfl ⟨X2,AnsF.err⟩)
 have e0:E=0:=Classical.not_not.1 e0
 subst e0
 rw [cE_0,cL_0]
 obtain ⟨⟨l1,z1⟩,z2⟩:=line_ok hp
 have lv:=hL z1
 have ll:=lv.1
 have y2:=X2.next
 refine WL.sr<|WOL.mv rfl<|WOL.bf rfl rfl rfl rfl<|WOL.nil<|WL.no rfl<|WL.skip ?_
 refine WL.sr<|WOL.mv rfl<|WOL.cl1 rfl rfl ((k1313 H (s.hx X2) lv (by omega) (f.on X2)).mono ?_)
 rintro u h3 ⟨X3,c,rfl,hc,Ac⟩
 have Y3:=X2.trans X3
 have y3:=X3.next
 refine WOL.cl1 rfl rfl ((k1329 H (G.hx Y3) (SlL.own eI Ac rfl) (by omega) (by omega) (lev_getD lv) (f.on Y3)).mono ?_)
 rintro u h5 ⟨X5,c2,rfl,hc2,A5⟩
 have Y5:=Y3.trans X5
 have y5:=X5.next
 refine WOL.cl1 rfl rfl ((k1311 H (SlL.own eI A5 ben_len) (by rw [ben_len];omega) (f.on Y5)).mono ?_)
 rintro u h6 ⟨X6,R⟩
 have R:=R.low (n0:=h.next) (by omega)
 obtain ⟨b,m,k,F',rfl,r1,r2,r3⟩:=R
 exact WOL.ex rfl rfl<|WOL.ex rfl rfl<|WOL.as rfl<|WOL.as rfl<|WOL.nil<|WL.ret (WL.end_ rfl ⟨Y5.trans X6,b,m,k,F',rfl,r1,r2,r3⟩)
end
end Go.Tidy
namespace Go.Tidy
open Go Go.Proofs Tab
variable {tp:TProg}
section
variable {L M D:List Int} {F:List Nat} {x y:Int}
theorem sg_ok (h:∀ x,x ∈ D→okI x=true):sgE D=0∧sgL D=D:=by
 have e:(D.any fun n=>!okI n)=false:=List.any_eq_false.2 fun x hx=>by rw [h x hx];decide
 unfold sgE sgL
 rw [e];exact ⟨rfl,rfl⟩
end
section
variable {h:TH} {v w fv:Value} {F G:List Nat} {es es' ee L M D:List Int} {x y:Int} {fa fb:Nat}
end
end Go.Tidy
namespace Go.Tidy
open Go Go.Proofs Tab
variable {tp:TProg}
theorem sh24 {m:Nat} (hF:shB m=true) (h:m≤4096):m≤24:=by
 unfold shB at hF
 by_cases c:(m:Int)≤24
 ·omega
 ·rw [decide_eq_false c] at hF
  have:=beq_iff_eq.1 (show ((m:Int) == 4097)=true from hF)
  omega
section
variable {h:TH} {v w fv:Value} {F G:List Nat} {es es' ee L M D:List Int} {x y:Int} {fa fb:Nat}
end
end Go.Tidy
namespace Go.Tidy
open Go Go.Proofs Tab
variable {tp:TProg}
structure Sx (b:Nat) (n:Int):Prop where
 ok:∃ neg q,V32 b neg q∧(∀ D,2 ^ 149=D→q*16=n.natAbs*D)∧sg neg n.natAbs=n
theorem Samp.x {b:Nat} {n:Int} (s:Samp b n):Sx b n:=⟨s.ok⟩
theorem Sx.nan {b:Nat} {n:Int} (s:Sx b n):nanB .f32 b=false:=by
 obtain ⟨neg,q,h,_⟩:=s.ok
 exact h.nan
theorem Sx.order {b c:Nat} {n m:Int} (s:Sx b n) (t:Sx c m):Ieee.single.order b c=some (compare n m):=by
 obtain ⟨neg,q,h1,h2,h3⟩:=s.ok
 obtain ⟨neg',q',g1,g2,g3⟩:=t.ok
 obtain ⟨D,hD⟩:∃ D:Nat,2 ^ 149=D:=⟨_,rfl⟩
 have hDp:0 < D:=by rw [← hD];exact two_pow_pos 149
 have e1:=h2 D hD
 have e2:=g2 D hD
 have a1:sg neg q*(16:Nat)=n*(D:Nat):=by rw [← sg_mul,e1,sg_mul,h3]
 have a2:sg neg' q'*(16:Nat)=m*(D:Nat):=by rw [← sg_mul,e2,sg_mul,g3]
 rw [h1.order g1]
 generalize sg neg q=x at *
 generalize sg neg' q'=y at *
 have hDi:(0:Int) < (D:Int):=by omega
 have hlt:x < y ↔ n < m:=by
  constructor
  ·intro hq
   have:n*(D:Int) < m*(D:Int):=by rw [← a1,← a2];omega
   exact Int.lt_of_mul_lt_mul_right this (by omega)
  ·intro hq
   have:n*(D:Int) < m*(D:Int):=Int.mul_lt_mul_of_pos_right hq hDi
   rw [← a1,← a2] at this
   omega
 have heq:x=y ↔ n=m:=by
  constructor
  ·intro hq
   rw [hq,a2] at a1
   exact (Int.eq_of_mul_eq_mul_right (by omega) a1).symm
  ·intro hq
   rw [hq,← a2] at a1
   omega
 congr 1
 show compareOfLessAndEq _ _=compareOfLessAndEq _ _
 unfold compareOfLessAndEq
 simp only [hlt,heq]
theorem sg_not (s:Bool) (q:Nat):sg (!s) q=-sg s q:=by
 unfold sg
 cases s <;> simp
theorem sg_sign {z:Int} {P:Nat} {w:Int} {s t:Bool} (hP:0 < P) (h:w=z*(P:Int)∨z=w*(P:Int)):sg (if z=0 then s && t else decide (z < 0)) w.natAbs=w:=by
  by_cases hz:z=0
  · have hw:w=0:=by
      rcases h with h | h
      · rw [h,hz,Int.zero_mul]
      · rw [hz] at h
        rcases Int.mul_eq_zero.1 h.symm with h | h
        · exact h
        · omega
    rw [if_pos hz,hw]
    cases s && t <;> rfl
  · rw [if_neg hz]
    have hPi:(0:Int) < (P:Int):=by omega
    have key:z < 0 ↔ w < 0:=by
      rcases h with h | h
      · rw [h]
        constructor
        · intro hl
          have:=Int.mul_lt_mul_of_pos_right hl hPi
          omega
        · intro hl
          have:z*(P:Int) < 0*(P:Int):=by omega
          exact Int.lt_of_mul_lt_mul_right this (by omega)
      · rw [h]
        constructor
        · intro hl
          have:w*(P:Int) < 0*(P:Int):=by omega
          exact Int.lt_of_mul_lt_mul_right this (by omega)
        · intro hl
          have:=Int.mul_lt_mul_of_pos_right hl hPi
          omega
    unfold sg
    by_cases hl:w < 0
    · rw [decide_eq_true (key.2 hl),if_pos rfl];omega
    · rw [decide_eq_false (fun q=>hl (key.1 q)),if_neg (by decide)];omega
theorem arr1 {z w:Int} {P Q D:Nat} (hP:0 < P) (h:z*(P:Int)*16=w*(D:Int)) (hq:Q*P*16=D):z=w*(Q:Int):=by
 subst hq
 refine Int.eq_of_mul_eq_mul_right (a:=(P:Int)*16) (by omega) ?_
 rw [← Int.mul_assoc,h,Int.natCast_mul,Int.natCast_mul,Int.mul_assoc,Int.mul_assoc]
 rfl
theorem arr2 {z w:Int} {P Q D:Nat} (hD:0 < D) (h:z*(P:Int)*16=w*(D:Int)) (hq:D*Q=P*16):w=z*(Q:Int):=by
 refine Int.eq_of_mul_eq_mul_right (a:=(D:Int)) (by omega) ?_
 rw [← h,Int.mul_assoc,Int.mul_assoc]
 have e:(P:Int)*16=((P*16:Nat):Int):=by rw [Int.natCast_mul];rfl
 rw [e,← hq,Int.natCast_mul,Int.mul_comm (D:Int)]
theorem arr3 {Z P Q D:Nat} (hq:D*Q=P*16):Z*P*16=Z*Q*D:=by
 rw [Nat.mul_assoc,← hq,Nat.mul_assoc,Nat.mul_comm D]
theorem Sx.sub {b c:Nat} {n m:Int} (s:Sx b n) (t:Sx c m) (hn:n.natAbs≤100000) (hm:m.natAbs≤100000):∃ r,Ieee.single.sub b c=some r∧Sx r (n - m):=by
 obtain ⟨s1,q1,⟨m1,k1,r1,p1,l1⟩,h2,h3⟩:=s.ok
 obtain ⟨s2,q2,⟨m2,k2,r2,p2,l2⟩,g2,g3⟩:=t.ok
 obtain ⟨D,hD⟩:∃ D:Nat,2 ^ 149=D:=⟨_,rfl⟩
 have hDp:0 < D:=by rw [← hD];exact two_pow_pos 149
 have e1:=h2 D hD
 have e2:=g2 D hD
 have a1:sg s1 q1*(16:Nat)=n*(D:Nat):=by rw [← sg_mul,e1,sg_mul,h3]
 have a2:sg s2 q2*(16:Nat)=m*(D:Nat):=by rw [← sg_mul,e2,sg_mul,g3]
 obtain ⟨K,hK⟩:∃ K,min k1 k2=K:=⟨_,rfl⟩
 have hmin:min ((-149:Int)+(k1:Int)) (-149+(k2:Int))=-149+(K:Int):=by omega
 obtain ⟨z,hz⟩:∃ z:Int,sg s1 (m1*2 ^ (k1 - K))+sg (!s2) (m2*2 ^ (k2 - K))=z:=⟨_,rfl⟩
 have hsub:Ieee.single.sub b c=some (Ieee.single.nearest (if z=0 then s1 && !s2 else decide (z < 0)) z.natAbs (-149+(K:Int))):=by
  unfold Ieee.Format.sub
  rw [r1,r2]
  show (Ieee.Datum.sum (.number s1 m1 (-149+(k1:Int))) (.number (!s2) m2 (-149+(k2:Int)))).map _=_
  unfold Ieee.Datum.sum
  simp only [hmin,signed_sg]
  rw [show ((-149:Int)+(k1:Int) - (-149+(K:Int))).toNat=k1 - K by omega,show ((-149:Int)+(k2:Int) - (-149+(K:Int))).toNat=k2 - K by omega,hz]
  rfl
 have pk1:m1*2 ^ (k1 - K)*2 ^ K=q1:=by rw [Nat.mul_assoc,← Nat.pow_add,show k1 - K+K=k1 by omega,p1]
 have pk2:m2*2 ^ (k2 - K)*2 ^ K=q2:=by rw [Nat.mul_assoc,← Nat.pow_add,show k2 - K+K=k2 by omega,p2]
 have hzP:z*((2 ^ K:Nat):Int)*16=(n - m)*(D:Int):=by
  rw [← hz,Int.add_mul,← sg_mul,← sg_mul,pk1,pk2,sg_not,Int.sub_mul,← a1,← a2]
  omega
 by_cases hK2:K≤145
 ·have hpw:2 ^ (145 - K)*2 ^ K*16=D:=by
   rw [← Nat.pow_add,show 145 - K+K=145 by omega,← hD]
  have hzz:z=(n - m)*((2 ^ (145 - K):Nat):Int):=arr1 (two_pow_pos K) hzP hpw
  have hab:z.natAbs=(n - m).natAbs*2 ^ (145 - K):=by rw [hzz,Int.natAbs_mul,Int.natAbs_natCast]
  refine ⟨_,hsub,⟨⟨(if z=0 then s1 && !s2 else decide (z < 0)),(n - m).natAbs*2 ^ 145,?_,?_,sg_sign (s:=s1) (t:=!s2) (P:=2 ^ (145 - K)) (two_pow_pos _) (.inr hzz)⟩⟩⟩
  ·rw [hab,nearest_shift Ieee.single _ (n - m).natAbs (145 - K) _ (by show _ < 2 ^ 24;omega) (by rw [lp32];omega)]
   exact near32 (by omega) _ (by omega) (by decide)
  ·intro D' hD'
   rw [Nat.mul_assoc,← hD']
 ·have hpw:D*2 ^ (K - 145)=2 ^ K*16:=by
   rw [← hD]
   exact (Nat.pow_add 2 149 (K - 145)).symm.trans ((congrArg (fun x=>2 ^ x) (show 149+(K - 145)=K+4 by omega)).trans (Nat.pow_add 2 K 4))
  have hzz:n - m=z*((2 ^ (K - 145):Nat):Int):=arr2 hDp hzP hpw
  have hab:(n - m).natAbs=z.natAbs*2 ^ (K - 145):=by rw [hzz,Int.natAbs_mul,Int.natAbs_natCast]
  have hle:z.natAbs≤(n - m).natAbs:=by rw [hab];exact Nat.le_mul_of_pos_right _ (two_pow_pos _)
  refine ⟨_,hsub,⟨⟨(if z=0 then s1 && !s2 else decide (z < 0)),_,near32 (m:=z.natAbs) (k:=K) (by omega) _ rfl (by omega),?_,sg_sign (s:=s1) (t:=!s2) (P:=2 ^ (K - 145)) (two_pow_pos _) (.inl hzz)⟩⟩⟩
  intro D' hD'
  rw [hab,← hD',hD]
  exact arr3 hpw
end Go.Tidy
namespace Go.Tidy
open Go Go.Proofs Tab
variable {tp:TProg}
theorem read2':Ieee.single.read 1073741824=.number false 8388608 (-22):=by decide
theorem mul2' {b:Nat} {neg:Bool} {m k:Nat} (N:N32 b neg m k) (hk:k≤200):∃ c,Ieee.single.mul 1073741824 b=some c∧V32 c neg (m*2 ^ (k+1)):=by
 have e0:(-22:Int)+(-149+(k:Int))+(23:Nat)=-148+k:=by omega
 have hsh:=nearest_shift Ieee.single neg m 23 (-22+(-149+(k:Int))) N.hm (by rw [lp32,e0];omega)
 rw [e0] at hsh
 refine ⟨Ieee.single.nearest neg m (-148+k),?_,near32 N.hm _ (by omega) (by omega)⟩
 unfold Ieee.Format.mul
 rw [read2',N.read]
 show some (Ieee.single.nearest (false ^^ neg) (8388608*m) (-22+(-149+(k:Int))))=_
 rw [← hsh,Nat.mul_comm]
 congr 1
 cases neg <;> rfl
theorem Samp.two {b:Nat} {n:Int} (s:Samp b n):∃ r,Ieee.single.mul 1073741824 b=some r∧Sx r (2*n):=by
  obtain ⟨neg,q,hV,h2,h3⟩:=s.ok
  obtain ⟨D,hD⟩:∃ D:Nat,2 ^ 149=D:=⟨_,rfl⟩
  have hDp:0 < D:=by rw [← hD];exact two_pow_pos 149
  have e1:=h2 D hD
  have hlim:=s.lim
  rcases single_cases b with h | ⟨s',h⟩ | ⟨neg',m,k,N⟩
  · rw [s.nan] at h;cases h
  · obtain ⟨m',k',r,_⟩:=hV.ok
    rw [h] at r;cases r
  · obtain ⟨m',k',r1,r2,r3⟩:=hV.ok
    rw [N.read] at r1
    simp only [Ieee.Datum.number.injEq] at r1
    obtain ⟨e2,e3,r4⟩:=r1
    subst e2 e3
    obtain rfl:k=k':=by omega
    have hk:k≤200:=by
      by_cases hm0:m=0
      · rw [N.hz hm0];omega
      · by_cases hk:k≤200
        · exact hk
        · have h1:2 ^ k≤m*2 ^ k:=Nat.le_mul_of_pos_left _ (by omega)
          have h2:2 ^ 201≤2 ^ k:=Nat.pow_le_pow_right (by decide) (by omega)
          have h3:16384*D < 2 ^ 201:=by rw [← hD];decide
          have h4:n.natAbs*D≤16384*D:=Nat.mul_le_mul_right _ hlim
          omega
    obtain ⟨c,c1,c2⟩:=mul2' N hk
    refine ⟨c,c1,⟨neg',_,c2,?_,?_⟩⟩
    · intro D' hD'
      rw [Int.natAbs_mul,show (2:Int).natAbs=2 from rfl,Nat.mul_assoc 2,← h2 D' hD',← r2,Nat.pow_succ,Nat.mul_comm (2 ^ k) 2,Nat.mul_left_comm m 2,Nat.mul_assoc 2]
    · rw [Int.natAbs_mul,show (2:Int).natAbs=2 from rfl,Nat.mul_comm,sg_mul,h3]
      omega
section
variable {P:Program} {h:TH} {K:Regs→TH→Prop} {rest:List TOper} {d:Option Tmp} {ty:TypeId} {i:Nat} {x y:Operand} {t u:TypeId} {L:Rg}
theorem WO.fsub {a:Regs} {k:FloatKind} {b c r:Nat} (hx:getO a x=some (.float k b)) (hy:getO a y=some (.float k c)) (hb:nanB k b=false) (hc:nanB k c=false) (hr:k.format.sub b c=some r) (hn:nanB k r=false)
  (w:WO P tp rest (a.put d (.float k r)) h K):WO P tp (⟨d,.binOp .sub t x y u,ty,none,[],i⟩::rest) a h K:=by
 have ex:=getO_eval hx
 have ey:=getO_eval hy
 refine WO.plainly rfl rfl rfl (by simp [fastOp,fastBin,ex,ey,hb,hc]) rfl (plainOp_of (by rfl) (fun q hq=>?_) ?_ (plain_float hn)) w
 ·simp only [Op.operands] at hq
  simp at hq
  rcases hq with rfl | rfl
  ·rw [ex];exact plain_float hb
  ·rw [ey];exact plain_float hc
 ·simp [toOper,execOp,pv_bind,pv_map,pv_pure,ex,ey,eqGuard,binOp,Op.floatArith,hr]
theorem WOL.fsub {b c:Nat} {m n:Int} (s:Sx b m) (s':Sx c n) (hm:m.natAbs≤100000) (hn:n.natAbs≤100000) (hx:getL L x=some (.float .f32 b)) (hy:getL L y=some (.float .f32 c)) (w:∀ r,Sx r (m - n)→∀ a,Kn (putL L d (.float .f32 r)) a→WO P tp rest a h K):∀ a,Kn L a→WO P tp (⟨d,.binOp .sub t x y u,ty,none,[],i⟩::rest) a h K:=by
 obtain ⟨r,hr,q⟩:=s.sub s' hm hn
 exact fun a k=>WO.fsub (k.o hx) (k.o hy) s.nan s'.nan hr q.nan (w r q _ (k.put d _))
theorem WOL.ftwo {b:Nat} {n:Int} (s:Samp b n) (hx:getL L x=some (.float .f32 1073741824)) (hy:getL L y=some (.float .f32 b)) (w:∀ r,Sx r (2*n)→∀ a,Kn (putL L d (.float .f32 r)) a→WO P tp rest a h K):∀ a,Kn L a→WO P tp (⟨d,.binOp .mul t x y u,ty,none,[],i⟩::rest) a h K:=by
 obtain ⟨r,hr,q⟩:=s.two
 exact fun a k=>WO.fmul (k.o hx) (k.o hy) (by decide) s.nan hr q.nan (w r q _ (k.put d _))
theorem WOL.fgx {b c:Nat} {m n:Int} (s:Sx b m) (s':Sx c n) (hx:getL L x=some (.float .f32 b)) (hy:getL L y=some (.float .f32 c)) (w:∀ a,Kn (putL L d (.bool (decide (n < m)))) a→WO P tp rest a h K):∀ a,Kn L a→WO P tp (⟨d,.binOp .gtr t x y u,ty,none,[],i⟩::rest) a h K:=fun a k=>WO.fcmp (k.o hx) (k.o hy) s.nan s'.nan (by show some (Ieee.single.order b c == some .gt)=some (decide (n < m));rw [s.order s',cmp_gt]) (w _ (k.put d _))
end
section
variable {m:Int}
end
end Go.Tidy
namespace Go.Tidy
open Go Go.Proofs Tab
variable {tp:TProg}
section
variable {P:Program} {h:TH} {K:Regs→TH→Prop} {rest:List TOper} {d:Option Tmp} {ty:TypeId} {i:Nat} {x:Operand} {t:TypeId} {L:Rg}
theorem WOL.negP {vx v:Value} (hx:getL L x=some vx) (hp:plain vx=true) (hv:pv P (Op.unary .neg vx)=some v) (hq:plain v=true) (w:∀ a,Kn (putL L d v) a→WO P tp rest a h K):∀ a,Kn L a→WO P tp (⟨d,.unOp .neg t x,ty,none,[],i⟩::rest) a h K:=fun a k=>by
 have ex:=getO_eval (k.o hx)
 refine WO.plainly rfl rfl rfl rfl rfl (plainOp_of rfl (fun q hq=>?_) ?_ hq) (w _ (k.put d _))
 ·simp only [Op.operands] at hq
  simp at hq
  rw [hq,ex];exact hp
 ·simp [toOper,execOp,pv_map,pv_pure,ex,hv]
end
section
variable {h:TH} {s:ByteArray} {n:Int} {v1 v2:Value} {F:List Nat} {S:List (Int × Int)} {es L:List Int}
end
end Go.Tidy
namespace Go.Tidy
open Go Go.Proofs Tab
variable {tp:TProg}
theorem Sx.add {b c:Nat} {n m:Int} (s:Sx b n) (t:Sx c m) (hn:n.natAbs≤100000) (hm:m.natAbs≤100000):∃ r,Ieee.single.add b c=some r∧Sx r (n+m):=by
 obtain ⟨s1,q1,⟨m1,k1,r1,p1,l1⟩,h2,h3⟩:=s.ok
 obtain ⟨s2,q2,⟨m2,k2,r2,p2,l2⟩,g2,g3⟩:=t.ok
 obtain ⟨D,hD⟩:∃ D:Nat,2 ^ 149=D:=⟨_,rfl⟩
 have hDp:0 < D:=by rw [← hD];exact two_pow_pos 149
 have e1:=h2 D hD
 have e2:=g2 D hD
 have a1:sg s1 q1*(16:Nat)=n*(D:Nat):=by rw [← sg_mul,e1,sg_mul,h3]
 have a2:sg s2 q2*(16:Nat)=m*(D:Nat):=by rw [← sg_mul,e2,sg_mul,g3]
 obtain ⟨K,hK⟩:∃ K,min k1 k2=K:=⟨_,rfl⟩
 have hmin:min ((-149:Int)+(k1:Int)) (-149+(k2:Int))=-149+(K:Int):=by omega
 obtain ⟨z,hz⟩:∃ z:Int,sg s1 (m1*2 ^ (k1 - K))+sg s2 (m2*2 ^ (k2 - K))=z:=⟨_,rfl⟩
 have hadd:Ieee.single.add b c=some (Ieee.single.nearest (if z=0 then s1 && s2 else decide (z < 0)) z.natAbs (-149+(K:Int))):=by
  unfold Ieee.Format.add
  rw [r1,r2]
  show (Ieee.Datum.sum (.number s1 m1 (-149+(k1:Int))) (.number s2 m2 (-149+(k2:Int)))).map _=_
  unfold Ieee.Datum.sum
  simp only [hmin,signed_sg]
  rw [show ((-149:Int)+(k1:Int) - (-149+(K:Int))).toNat=k1 - K by omega,show ((-149:Int)+(k2:Int) - (-149+(K:Int))).toNat=k2 - K by omega,hz]
  rfl
 have pk1:m1*2 ^ (k1 - K)*2 ^ K=q1:=by rw [Nat.mul_assoc,← Nat.pow_add,show k1 - K+K=k1 by omega,p1]
 have pk2:m2*2 ^ (k2 - K)*2 ^ K=q2:=by rw [Nat.mul_assoc,← Nat.pow_add,show k2 - K+K=k2 by omega,p2]
 have hzP:z*((2 ^ K:Nat):Int)*16=(n+m)*(D:Int):=by
  rw [← hz,Int.add_mul,← sg_mul,← sg_mul,pk1,pk2,Int.add_mul,Int.add_mul n m,← a1,← a2] <;> omega
 by_cases hK2:K≤145
 ·have hpw:2 ^ (145 - K)*2 ^ K*16=D:=by
   rw [← Nat.pow_add,show 145 - K+K=145 by omega,← hD]
  have hzz:z=(n+m)*((2 ^ (145 - K):Nat):Int):=arr1 (two_pow_pos K) hzP hpw
  have hab:z.natAbs=(n+m).natAbs*2 ^ (145 - K):=by rw [hzz,Int.natAbs_mul,Int.natAbs_natCast]
  refine ⟨_,hadd,⟨⟨(if z=0 then s1 && s2 else decide (z < 0)),(n+m).natAbs*2 ^ 145,?_,?_,sg_sign (s:=s1) (t:=s2) (P:=2 ^ (145 - K)) (two_pow_pos _) (.inr hzz)⟩⟩⟩
  ·rw [hab,nearest_shift Ieee.single _ (n+m).natAbs (145 - K) _ (by show _ < 2 ^ 24;omega) (by rw [lp32];omega)]
   exact near32 (by omega) _ (by omega) (by decide)
  ·intro D' hD'
   rw [Nat.mul_assoc,← hD']
 ·have hpw:D*2 ^ (K - 145)=2 ^ K*16:=by
   rw [← hD]
   exact (Nat.pow_add 2 149 (K - 145)).symm.trans ((congrArg (fun x=>2 ^ x) (show 149+(K - 145)=K+4 by omega)).trans (Nat.pow_add 2 K 4))
  have hzz:n+m=z*((2 ^ (K - 145):Nat):Int):=arr2 hDp hzP hpw
  have hab:(n+m).natAbs=z.natAbs*2 ^ (K - 145):=by rw [hzz,Int.natAbs_mul,Int.natAbs_natCast]
  have hle:z.natAbs≤(n+m).natAbs:=by rw [hab];exact Nat.le_mul_of_pos_right _ (two_pow_pos _)
  refine ⟨_,hadd,⟨⟨(if z=0 then s1 && s2 else decide (z < 0)),_,near32 (m:=z.natAbs) (k:=K) (by omega) _ rfl (by omega),?_,sg_sign (s:=s1) (t:=s2) (P:=2 ^ (K - 145)) (two_pow_pos _) (.inl hzz)⟩⟩⟩
  intro D' hD'
  rw [hab,← hD',hD]
  exact arr3 hpw
section
variable {P:Program} {h:TH} {K:Regs→TH→Prop} {rest:List TOper} {d:Option Tmp} {ty:TypeId} {i:Nat} {x y:Operand} {t u:TypeId} {L:Rg}
theorem WO.fadd {a:Regs} {k:FloatKind} {b c r:Nat} (hx:getO a x=some (.float k b)) (hy:getO a y=some (.float k c)) (hb:nanB k b=false) (hc:nanB k c=false) (hr:k.format.add b c=some r) (hn:nanB k r=false)
  (w:WO P tp rest (a.put d (.float k r)) h K):WO P tp (⟨d,.binOp .add t x y u,ty,none,[],i⟩::rest) a h K:=by
 have ex:=getO_eval hx
 have ey:=getO_eval hy
 refine WO.plainly rfl rfl rfl (by simp [fastOp,fastBin,ex,ey,hb,hc]) rfl (plainOp_of (by rfl) (fun q hq=>?_) ?_ (plain_float hn)) w
 ·simp only [Op.operands] at hq
  simp at hq
  rcases hq with rfl | rfl
  ·rw [ex];exact plain_float hb
  ·rw [ey];exact plain_float hc
 ·simp [toOper,execOp,pv_bind,pv_map,pv_pure,ex,ey,eqGuard,binOp,Op.floatArith,hr]
theorem WOL.fadd {b c:Nat} {m n:Int} (s:Sx b m) (s':Sx c n) (hm:m.natAbs≤100000) (hn:n.natAbs≤100000) (hx:getL L x=some (.float .f32 b)) (hy:getL L y=some (.float .f32 c)) (w:∀ r,Sx r (m+n)→∀ a,Kn (putL L d (.float .f32 r)) a→WO P tp rest a h K):∀ a,Kn L a→WO P tp (⟨d,.binOp .add t x y u,ty,none,[],i⟩::rest) a h K:=by
 obtain ⟨r,hr,q⟩:=s.add s' hm hn
 exact fun a k=>WO.fadd (k.o hx) (k.o hy) s.nan s'.nan hr q.nan (w r q _ (k.put d _))
theorem WOL.flx {b c:Nat} {m n:Int} (s:Sx b m) (s':Sx c n) (hx:getL L x=some (.float .f32 b)) (hy:getL L y=some (.float .f32 c)) (w:∀ a,Kn (putL L d (.bool (decide (m < n)))) a→WO P tp rest a h K):∀ a,Kn L a→WO P tp (⟨d,.binOp .lss t x y u,ty,none,[],i⟩::rest) a h K:=fun a k=>WO.fcmp (k.o hx) (k.o hy) s.nan s'.nan (by show some (Ieee.single.order b c == some .lt)=some (decide (m < n));rw [s.order s',cmp_lt]) (w _ (k.put d _))
end
section
variable {h:TH} {v w fv:Value} {F G:List Nat} {es es' ee L M D S:List Int} {x y m:Int} {fa fb fc:Nat}
theorem k1307 (H:Has tp) (s:SlL encF 1 h v F) (hE:SErr F es) (hL:firstNZ es=0→Lev F L) (hb:Sx fb m) (hc:Sx fc (-m)) (hn:pv Tryz.prog (Op.unary .neg (.float .f32 fb))=some (.float .f32 fc)) :
  CallW Tryz.prog tp (.func (.func 49) #[] #[]) #[v,.float .f32 fb] h fun u h'=>h'=h∧∃ b,u=.bool b∧(b=true→(2≤F.length∧F.length≤24)∧sigE F.length es=0∧∀ j,j < F.length→-m≤L.getD j 0∧L.getD j 0≤m):=by
 refine CallW.fnL (H.fn 49 f1307 rfl rfl) ?_
 refine WL.sr<|WOL.as rfl<|WOL.nil<|keep [(0,_),(1,_)] ⟨rfl,rfl,trivial⟩ ?_
 by_cases c1:(F.length:Int) < 2
 ·refine WL.seq<|WL.sr<|WOL.mv rfl<|WOL.len rfl s u43<|WOL.bt rfl rfl rfl (decide_eq_true c1)<|WOL.mv rfl<|WOL.skp (b:=true) rfl rfl<|WOL.skp (b:=true) rfl rfl<|WOL.skp (b:=true) rfl rfl<|WOL.pkt rfl rfl<|WOL.mv rfl<|WOL.skp (b:=true) rfl rfl<|WOL.skp (b:=true) rfl rfl<|WOL.skp (b:=true) rfl rfl<|WOL.pkt rfl rfl<|WOL.nil<|WL.yes rfl<|WL.sr<|WOL.as rfl<|WOL.nil ?_
  exact WL.ret (WL.end_ rfl ⟨rfl,false,rfl,fun c=>nomatch c⟩)
 by_cases c2:(F.length:Int) > 24
 ·refine WL.seq<|WL.sr<|WOL.mv rfl<|WOL.len rfl s u43<|WOL.bf rfl rfl rfl (decide_eq_false c1)<|WOL.mv rfl<|WOL.now (b:=false) rfl rfl<|WOL.mv rfl<|WOL.now (b:=false) rfl rfl<|WOL.len rfl s u43<|WOL.now (b:=false) rfl rfl<|WOL.bt rfl rfl rfl (decide_eq_true c2)<|WOL.pkf rfl rfl<|WOL.mv rfl<|WOL.skp (b:=true) rfl rfl<|WOL.skp (b:=true) rfl rfl<|WOL.skp (b:=true) rfl rfl<|WOL.pkt rfl rfl<|WOL.nil<|WL.yes rfl<|WL.sr<|WOL.as rfl<|WOL.nil ?_
  exact WL.ret (WL.end_ rfl ⟨rfl,false,rfl,fun c=>nomatch c⟩)
 refine WL.seq<|WL.sr<|WOL.mv rfl<|WOL.len rfl s u43<|WOL.bf rfl rfl rfl (decide_eq_false c1)<|WOL.mv rfl<|WOL.now (b:=false) rfl rfl<|WOL.mv rfl<|WOL.now (b:=false) rfl rfl<|WOL.len rfl s u43<|WOL.now (b:=false) rfl rfl<|WOL.bf rfl rfl rfl (decide_eq_false c2)<|WOL.pkf rfl rfl<|WOL.mv rfl<|WOL.now (b:=false) rfl rfl<|WOL.mv rfl<|WOL.now (b:=false) rfl rfl<|WOL.cl1 rfl rfl ((k1261 H s hE (by omega)).mono ?_)
 rintro u h ⟨rfl,rfl⟩
 generalize hp:sigE F.length es=E
 by_cases e0:E≠0
 ·refine WOL.now (b:=false) rfl rfl<|WOL.bt rfl rfl rfl (bne_iff_ne.2 e0)<|WOL.pkf rfl rfl<|WOL.nil<|WL.yes rfl<|WL.sr<|WOL.as rfl<|WOL.nil ?_
  exact WL.ret (WL.end_ rfl ⟨rfl,false,rfl,fun c=>nomatch c⟩)
 have e0:E=0:=Classical.not_not.1 e0
 subst e0
 obtain ⟨l1,z1⟩:=sigE_short hp
 have lv:=hL z1
 have ll:=lv.1
 refine WOL.now (b:=false) rfl rfl<|WOL.bf rfl rfl rfl rfl<|WOL.pkf rfl rfl<|WOL.nil<|WL.no rfl<|WL.skip<|keep [(0,_),(1,_)] ⟨rfl,rfl,trivial⟩ ?_
 refine WL.seq<|WL.sr<|WOL.mv rfl<|WOL.len rfl s u43<|WOL.mv rfl<|WOL.nil<|keep [(1,_),(20,_),(21,_),(22,_)] ⟨rfl,rfl,rfl,rfl,trivial⟩ ?_
 refine WL.upto (α:=Unit) F.length (fun j _ g=>g=h∧∀ i,i < j→-m≤L.getD i 0∧L.getD i 0≤m) (fun _ _=>[(1,.float .f32 fb),(20,v),(21,zi (F.length:Nat))]) () rfl rfl (by omega) ⟨rfl,fun i hi=>absurd hi (by omega)⟩ ⟨rfl,rfl,rfl,rfl,trivial⟩ (fun _ _=>rfl) (fun _ _ _=>⟨rfl,rfl,rfl,rfl,trivial⟩) (fun _ _ _=>⟨rfl,rfl,rfl,rfl,trivial⟩) ?_ ?_
 ·rintro j _ g hj ⟨rfl,hz⟩
  have hq:F[j]?=some F[j]:=List.getElem?_eq_getElem _
  have eL:L[j]?=some (L.getD j 0):=at_getD (by omega)
  have sm:=(lv.2 j _ _ hq eL).x
  obtain ⟨_,_,cb,fb',wb,elb,c1,c2,c3,c4,c5⟩:=s.at eF u43 tp25 hq .i64
  have gxb:=c5 0 (by decide)
  rw [Nat.add_zero] at gxb
  refine WL.sr<|WOL.ix rfl rfl c1<|WOL.ld rfl (load_one tp25 c2 gxb)<|WOL.as rfl<|WOL.nil<|keep [(1,_),(6,_),(20,_),(21,_),(22,_)] ⟨rfl,rfl,rfl,rfl,rfl,trivial⟩ ?_
  by_cases d1:m < L.getD j 0
  ·refine WL.sr<|WOL.mv rfl<|WOL.mv rfl<|WOL.fgx sm hb rfl rfl ?_
   rw [decide_eq_true d1]
   refine WOL.mv rfl<|WOL.skp (b:=true) rfl rfl<|WOL.skp (b:=true) rfl rfl<|WOL.skp (b:=true) rfl rfl<|WOL.skp (b:=true) rfl rfl<|WOL.pkt rfl rfl<|WOL.nil<|WL.yes rfl<|WL.sr<|WOL.as rfl<|WOL.nil ?_
   exact WL.ret (WL.end_ rfl ⟨rfl,false,rfl,fun c=>nomatch c⟩)
  by_cases d2:L.getD j 0 < -m
  ·refine WL.sr<|WOL.mv rfl<|WOL.mv rfl<|WOL.fgx sm hb rfl rfl ?_
   rw [decide_eq_false d1]
   refine WOL.mv rfl<|WOL.now (b:=false) rfl rfl<|WOL.mv rfl<|WOL.now (b:=false) rfl rfl<|WOL.mv rfl<|WOL.now (b:=false) rfl rfl<|WOL.negP rfl (plain_float hb.nan) hn (plain_float hc.nan)<|WOL.now (b:=false) rfl rfl<|WOL.flx sm hc rfl rfl ?_
   rw [decide_eq_true d2]
   refine WOL.pkf rfl rfl<|WOL.nil<|WL.yes rfl<|WL.sr<|WOL.as rfl<|WOL.nil ?_
   exact WL.ret (WL.end_ rfl ⟨rfl,false,rfl,fun c=>nomatch c⟩)
  refine WL.sr<|WOL.mv rfl<|WOL.mv rfl<|WOL.fgx sm hb rfl rfl ?_
  rw [decide_eq_false d1]
  refine WOL.mv rfl<|WOL.now (b:=false) rfl rfl<|WOL.mv rfl<|WOL.now (b:=false) rfl rfl<|WOL.mv rfl<|WOL.now (b:=false) rfl rfl<|WOL.negP rfl (plain_float hb.nan) hn (plain_float hc.nan)<|WOL.now (b:=false) rfl rfl<|WOL.flx sm hc rfl rfl ?_
  rw [decide_eq_false d2]
  refine WOL.pkf rfl rfl<|WOL.nil<|WL.no rfl<|WL.skip fun a q=>⟨(),⟨rfl,fun i hi=>?_⟩,q.sub ⟨rfl,rfl,rfl,rfl,trivial⟩⟩
  by_cases e:i=j
  ·subst e;omega
  ·exact hz i (by omega)
 ·rintro _ g ⟨rfl,hz⟩
  refine WL.sr<|WOL.as rfl<|WOL.nil ?_
  exact WL.ret (WL.end_ rfl ⟨rfl,true,rfl,fun _=>⟨⟨by omega,by omega⟩,rfl,hz⟩⟩)
end
end Go.Tidy
namespace Go.Tidy
open Go Go.Proofs Tab
section
variable {L M B S:List Int} {i:Nat} {m a b:Int}
theorem list_ext {L M:List Int} (hl:L.length=M.length) (h:∀ i,i < L.length→L.getD i 0=M.getD i 0):L=M:=by
 refine List.ext_getElem? fun i=>?_
 by_cases hi:i < L.length
 ·rw [at_getD hi,at_getD (w:=M) (by omega),h i hi]
 ·rw [List.getElem?_eq_none (by omega),List.getElem?_eq_none (by omega)]
end
end Go.Tidy
namespace Go.Tidy
open Go Go.Proofs Tab
variable {tp:TProg}
theorem u8_fin {z:Int} (h:(Lit.int .u8 z).wf=true):∃ b:_root_.Fin 256,z=(b.val:Nat):=by
 have h:(decide (0≤z) && decide (z≤255))=true:=h
 rw [Bool.and_eq_true] at h
 have h1:=of_decide_eq_true h.1
 have h2:=of_decide_eq_true h.2
 exact ⟨⟨z.toNat,by omega⟩,by show z=(z.toNat:Int);omega⟩
section
variable {h:TH} {v w fv:Value} {F G:List Nat} {es es' ee L M D S:List Int} {x y m:Int} {fa fb fc:Nat}
theorem k1258o (H:Has tp) (s:SlL encF 1 h v F) (h0:0 < F.length) (hF:F.length≤1000000) :
  CallW Tryz.prog tp (.func (.func 29) #[] #[]) #[v] h fun u h'=>HX h h'∧∃ b,u=slA b F.length∧h.next≤b∧At h' b (.cells (cat encF F) false true 76):=by
 refine CallW.fnL (H.fn 29 f1258 rfl rfl) ?_
 refine WL.sr<|WOL.as rfl<|WOL.nil ?_
 refine WL.sr<|WOL.bs0 u43 tp25 (by decide) (by decide) fun h1 N1=>WOL.mv rfl ?_
 have n1:=N1.next
 exact WOL.ap rfl rfl (append_all u43 tp25 N1.at_ (s.hx N1.hx) h0 (by omega) (eF.all _))<|WOL.as rfl<|WOL.nil<|WL.ret (WL.end_ rfl ⟨N1.hx.trans (HX.new _ _),_,rfl,by omega,At.new _ _⟩)
theorem sig0 {m:Nat} (hm:m≤4096) (z:firstNZ es=0):sigE m es=0:=by
 unfold sigE;rw [decide_eq_false (by omega),z];rfl
theorem k1261o (H:Has tp) (s:SlL encF 1 h v F) (lv:Lev F L) (hF:F.length≤4096):CallW Tryz.prog tp (.func (.func 32) #[] #[]) #[v] h fun u h'=>u=zi 0∧h'=h:=by
 obtain ⟨es,hE,z⟩:=serr_zero lv
 have:=k1261 H s hE (by omega)
 rwa [sig0 hF z] at this
theorem k1277o (H:Has tp) (X:HasX tp) (Gl:Glob h) (s:SlL encF 1 h v F) (lv:Lev F L) (h2:2≤F.length) (hF:F.length≤4096) (ok:∀ x,x ∈ benL L→okI x=true) (f:Free0 h.next h) :
  CallW Tryz.prog tp (.func (.func 53) #[] #[]) #[v] h fun u h'=>HX h h'∧∃ u',u=.tuple #[u',zi 0]∧RF h' u' (benL L):=by
 obtain ⟨es,hE,z⟩:=serr_zero lv
 have:=k1277 H X Gl s hE (fun _=>lv) (by omega) f
 rw [show lineE F.length es=0 by unfold lineE;rw [sig0 hF z,decide_eq_false (by omega)];rfl,cE_0,cL_0,(sg_ok ok).1,(sg_ok ok).2] at this
 exact this.mono fun u h' ⟨X',R⟩=>⟨X',R.form⟩
end
end Go.Tidy
namespace Go.Tidy
section
variable {keep:Nat→Bool} {x:Nat→Int}
def celJ (keep:Nat→Bool) (x:Nat→Int) (p:Nat):Int × Bool:=if keep (p / 3) then (x p,true) else (0,false)
def rowJ (keep:Nat→Bool) (x:Nat→Int) (lo hi:Nat):List (Int × Bool):=(List.range' lo (hi - lo)).map (celJ keep x)
end
def keptJ (keep:Nat→Bool) (n:Nat):List Nat:=(List.range n).filter keep
end Go.Tidy
namespace Go.Tidy
open Go Go.Proofs Tab
variable {tp:TProg}
def lane (s:Nat→ByteArray) (n:Int) (h:TH) (v1 v2:Nat→Value) (C:Nat→List (Int × Bool)) (N:Nat):Prop:=∀ k,RunC (s k) n h (v1 k) (v2 k) (C k)∧(C k).length=N
theorem lane.hx {s:Nat→ByteArray} {n:Int} {h h':TH} {v1 v2:Nat→Value} {C:Nat→List (Int × Bool)} {N:Nat} (l:lane s n h v1 v2 C N) (x:HX h h'):lane s n h' v1 v2 C N:=fun k=>⟨(l k).1.hx x,(l k).2⟩
section
variable {s:Nat→ByteArray} {n:Int} {v1 v2:Nat→Value} {C:Nat→List (Int × Bool)} {N lb c2 c7:Nat} {m:Int} {hb g:TH} {Q:Exit→Regs→TH→Prop} {gx:Nat} {p126 p127 p128:Value}
end
end Go.Tidy
namespace Go.Tidy
open Go Go.Proofs Tab
variable {tp:TProg}
section
variable {src n:Nat} {kp:Nat→Bool} {x:Nat→Int}
end
abbrev rN:ByteArray:=⟨#[114]⟩
theorem Above.none {n0 m c:Nat}:Above n0 (.slice .none m c):=fun b off sp m c h=>by cases h
theorem Above.of {n0 b m c:Nat} (h:n0≤b):Above n0 (.slice (some ⟨b,0,.none⟩) m c):=fun b off sp m c e=>by cases e;exact h
def JRun (kp:Nat→Bool) (x:Nat→Int) (n j:Nat) (s:Int × Value × Value) (g:TH):Prop :=
 (j=0∧s=(0,.slice none 0 0,.slice none 0 0))∨∃ k c0 cl,j=k+1∧(keptJ kp n)[0]?=some c0∧(keptJ kp n)[k]?=some cl∧c0≤cl∧s.1=((3*c0:Nat):Int)∧RunC rN ((3*c0:Nat):Int) g s.2.1 s.2.2 (rowJ kp x (3*c0) (3*(cl+1)))
theorem JRun.hx {kp:Nat→Bool} {x:Nat→Int} {n j:Nat} {s:Int × Value × Value} {g g':TH} (q:JRun kp x n j s g) (X:HX g g'):JRun kp x n j s g':=by
 rcases q with q | ⟨k,c0,cl,q1,q2,q3,q4,q5,q6⟩
 ·exact .inl q
 ·exact .inr ⟨k,c0,cl,q1,q2,q3,q4,q5,q6.hx X⟩
section
variable {hB i7:TH} {n:Nat} {kp:Nat→Bool} {x:Nat→Int} {c7 c10 c0 cl c N:Nat} {p2 v1 v2 u1 u2 w17:Value} {j:Int}
end
end Go.Tidy
namespace Go.Tidy
open Go Go.Proofs Tab
variable {tp:TProg}
section
variable {kp:Nat→Bool} {x:Nat→Int} {n j:Nat}
end
section
variable {P:Program} {h:TH} {K:Regs→TH→Prop} {rest:List TOper} {d:Option Tmp} {ty t u:TypeId} {i:Nat} {x y:Operand} {L:Rg}
theorem WOL.fdiv {k:FloatKind} {b c r:Nat} (hx:getL L x=some (.float k b)) (hy:getL L y=some (.float k c)) (hb:nanB k b=false) (hc:nanB k c=false) (hr:k.format.div b c=some r) (hn:nanB k r=false)
  (w:∀ a,Kn (putL L d (.float k r)) a→WO P tp rest a h K):∀ a,Kn L a→WO P tp (⟨d,.binOp .quo t x y u,ty,none,[],i⟩::rest) a h K:=fun a k=>WO.fdiv (k.o hx) (k.o hy) hb hc hr hn (w _ (k.put d _))
end
end Go.Tidy
namespace Go.Tidy
open Go Go.Proofs Tab
variable {tp:TProg}
section
variable {P:Program} {h:TH} {K:Regs→TH→Prop} {rest:List TOper} {d:Option Tmp} {ty:TypeId} {i:Nat} {x y:Operand} {t u:TypeId} {L:Rg}
end
theorem u5i:Tryz.prog.underlying 5=some (.int .u8):=by kernel_rfl
theorem tp5i:Tp Tryz.prog 5 1 [.int .u8 0] false:=tp_of (by kernel_rfl) (by kernel_rfl) rfl
section
variable {h:TH} {v w v1 v8 v21 v23 v25 v27:Value} {F G R:List Nat} {es es' ee L M D S:List Int} {x y m p q:Int} {n c5 fa fb:Nat} {U:List (_root_.Fin 256)}
end
end Go.Tidy
namespace Go.Tidy
open Go Go.Proofs Tab
variable {tp:TProg}
structure RowsI (h:TH) (b:Nat) (Xs:List Value) (Cs:List (List Int)):Prop where
 at_:At h b (.cells Xs true true 35)
 len:Xs.length=Cs.length
 sl:∀ (i:Nat) (x:Value) (C:List Int),Xs[i]?=some x→Cs[i]?=some C→SlL encI 1 h x C
theorem RowsI.hx {h h':TH} {b:Nat} {Xs:List Value} {Cs:List (List Int)} (r:RowsI h b Xs Cs) (x:HX h h'):RowsI h' b Xs Cs:=⟨r.at_.hx x,r.len,fun i y C h1 h2=>(r.sl i y C h1 h2).hx x⟩
end Go.Tidy
namespace Go.Tidy
open Go Go.Proofs Tab
variable {tp:TProg}
theorem sum_lim:∀ {l:List Int},(∀ x,x ∈ l→x.natAbs≤16384)→l.sum.natAbs≤16384*l.length
 | [],_=>by simp
 | a::l,h=>by
  have h1:=h a (by simp)
  have h2:=sum_lim (l:=l) fun x hx=>h x (by simp [hx])
  rw [List.sum_cons,List.length_cons]
  omega
theorem sum_take {l:List Int} {j:Nat} (hj:j < l.length):(l.take (j+1)).sum=(l.take j).sum+l.getD j 0:=by
 rw [take_succ_get (at_getD hj),List.sum_append,List.sum_cons,List.sum_nil,Int.add_zero]
section
variable {h:TH} {v w v1 v8:Value} {F G:List Nat} {es es' L M D S:List Int} {x y z n d ez:Int} {fz c2 c7:Nat} {s:ByteArray}
end
end Go.Tidy
namespace Go.Tidy
open Go Go.Proofs Tab
variable {tp:TProg}
section
variable {h:TH} {v w v7 v9 v16 v17:Value} {F G:List Nat} {es es' L M D1 D2:List Int} {x y z n d ez e1 e2 e3 mm E13 E14 E15:Int} {fz c3 b1 b2:Nat} {s:ByteArray}
theorem zero_s:Samp 0 0:=by
 have h:=(smp_ok (n:=0) (by decide)).2.2
 have e:smp 0=0:=by kernel_rfl
 rwa [e] at h
end
end Go.Tidy
namespace Go.Tidy
open Go Go.Proofs Tab
variable {tp:TProg}
section
variable {P:Program} {h:TH} {K:Regs→TH→Prop} {rest:List TOper} {d:Option Tmp} {ty:TypeId} {i:Nat} {x y:Operand} {t u:TypeId} {L:Rg}
end
section
variable {h:TH} {v w v8 v9 v14 v16 v22:Value} {F G:List Nat} {es es' L M D:List Int} {x y z n d ez o:Int} {fz c3:Nat} {s:ByteArray}
def addLI (L:List Int) (o:Int):List Int:=L.map fun x=>x+o
theorem add_len:(addLI L o).length=L.length:=List.length_map ..
theorem add_get {i:Nat} (h:i < L.length):(addLI L o).getD i 0=L.getD i 0+o:=by
 unfold addLI
 rw [List.getD_eq_getElem?_getD,List.getElem?_map,at_getD h];rfl
end
end Go.Tidy
namespace Go.Tidy
open Go Go.Proofs Tab
variable {tp:TProg}
theorem big_x:Sx 1128792064 3200:=by
 have h:=(smp_ok (n:=3200) (by decide)).2.2.x
 have e:smp 3200=1128792064:=by kernel_rfl
 rwa [e] at h
theorem bigm_x:Sx 3276275712 (-3200):=by
 have h:=(smp_ok (n:=-3200) (by decide)).2.2.x
 have e:smp (-3200)=3276275712:=by kernel_rfl
 rwa [e] at h
theorem big_n:pv Tryz.prog (Op.unary .neg (.float .f32 1128792064))=some (.float .f32 3276275712):=by kernel_rfl
section
variable {h:TH} {v w v5 v6 v8 v9 v14 v18 v22:Value} {F G R Q T:List Nat} {es es' L M D:List Int} {x y z n d ez o p:Int} {fz fo c13 c8 c9:Nat} {s:ByteArray}
def MixS (j:Nat) (o:Int) (F:List Nat) (L:List Int) (R:List Nat):Prop:=R.length=F.length∧(∀ i,i < j→Samp (R.getD i 0) (L.getD i 0+o))∧∀ i,j≤i→R[i]?=F[i]?
theorem MixS.set {j r:Nat} (m:MixS j o F L R) (hj:j < F.length) (sr:Samp r (L.getD j 0+o)):MixS (j+1) o F L (R.set j r):=by
 obtain ⟨h1,h2,h3⟩:=m
 refine ⟨by rw [List.length_set];exact h1,fun i hi=>?_,fun i hi=>?_⟩
 ·by_cases e:i=j
  ·subst e
   rw [List.getD_eq_getElem?_getD,List.getElem?_set_self (by omega)]
   exact sr
  ·rw [List.getD_eq_getElem?_getD,List.getElem?_set_ne (Ne.symm e),← List.getD_eq_getElem?_getD]
   exact h2 i (by omega)
 ·rw [List.getElem?_set_ne (by omega)]
  exact h3 i (by omega)
theorem MixS.lev (m:MixS F.length o F L R) (ll:F.length=L.length):Lev R (addLI L o):=by
 obtain ⟨h1,h2,h3⟩:=m
 refine ⟨by rw [add_len];omega,fun i bb nn e1 e2=>?_⟩
 have hi:i < R.length:=(List.getElem?_eq_some_iff.1 e1).1
 have q1:=h2 i (by omega)
 rw [List.getD_eq_getElem?_getD (l:=R),e1] at q1
 have q2:=add_get (L:=L) (o:=o) (i:=i) (by omega)
 rw [List.getD_eq_getElem?_getD,e2] at q2
 replace q2:nn=_:=q2
 rw [q2];exact q1
end
end Go.Tidy
namespace Go.Tidy
open Go Go.Proofs Tab
variable {tp:TProg}
theorem k103w (H:Has tp) {a b:Int} {h:TH} (ha:a.natAbs≤1000000000000000000) (hb:0 < b) (hb2:b≤1000000000000000000):CallW Tryz.prog tp (.func (.func 141) #[] #[]) #[.int .i64 a,.int .i64 b] h fun v h'=>v=.int .i64 (rnd a b)∧h'=h:=by
 refine CallW.fnL (H.fn 141 f103 rfl rfl) ?_
 refine WL.sr<|WOL.as rfl<|WOL.nil<|keep [(0,_),(1,_)] ⟨rfl,rfl,trivial⟩ ?_
 refine WL.sr<|WOL.mv rfl<|WOL.mul rfl rfl (by omega) (by omega)<|WOL.mv rfl<|WOL.add rfl rfl (by omega) (by omega)<|WOL.mv rfl<|WOL.mul rfl rfl (by omega) (by omega)<|WOL.as rfl<|WOL.as rfl<|WOL.nil<|keep [(0,_),(1,_)] ⟨rfl,rfl,trivial⟩ ?_
 refine WL.seq<|WL.sr<|WOL.mv rfl<|WOL.bi (v:=.bool (decide (2*a+b < 0))) rfl rfl rfl<|WOL.nil<|keep [(0,_),(1,_),(12,_)] ⟨rfl,rfl,rfl,trivial⟩ ?_
 by_cases hn:2*a+b < 0
 ·rw [decide_eq_true hn]
  refine WL.yes rfl<|WL.sr<|WOL.mv rfl<|WOL.sub rfl rfl (by omega) (by omega)<|WOL.mv rfl<|WOL.sub rfl rfl (by omega) (by omega)<|WOL.mv rfl<|WOL.quo rfl rfl (by omega) (by omega) (by omega) ?_
  have h1:(2*b - 1 - (2*a+b)) / (2*b)≤2*b - 1 - (2*a+b):=Int.ediv_le_self _ (by omega)
  have h2:0≤(2*b - 1 - (2*a+b)) / (2*b):=Int.ediv_nonneg (by omega) (by omega)
  refine WOL.neg rfl (by omega) (by omega)<|WOL.as rfl<|WOL.nil<|keep [(4,_)] ⟨rfl,trivial⟩ ?_
  exact WL.ret (WL.end_ rfl ⟨congrArg (Value.int .i64) (by show -((2*b - 1 - (2*a+b)) / (2*b))=(2*a+b) / (2*b);exact (floor_neg (by omega)).symm),rfl⟩)
 ·rw [decide_eq_false hn]
  refine WL.no rfl<|WL.skip ?_
  refine WL.sr<|WOL.mv rfl<|WOL.mv rfl<|WOL.quo rfl rfl (by omega) (by omega) (by omega)<|WOL.as rfl<|WOL.nil<|keep [(4,_)] ⟨rfl,trivial⟩ ?_
  exact WL.ret (WL.end_ rfl ⟨rfl,rfl⟩)
def wsm (L:List Int):Nat→Int
 | 0=>0
 | j+1=>wsm L j+(j:Int)*L.getD j 0
def fitA (L:List Int):Int:=((4*(L.length:Int) - 2)*L.sum - 6*wsm L L.length)*((L.length:Int) - 1)
def fitB (L:List Int):Int:=12*wsm L L.length - 6*((L.length:Int) - 1)*L.sum
def fitC (L:List Int):Int:=(L.length:Int)*((L.length:Int) - 1)*((L.length:Int)+1)
def fitV (L:List Int):Value:=.agg #[zi (fitA L),zi (fitB L),zi (fitC L)]
theorem wsm_lim {L:List Int} (hl:∀ j,(L.getD j 0).natAbs≤16384):∀ j,j≤24→(wsm L j).natAbs≤393216*j
 | 0,_=>by show (0:Int).natAbs≤_;simp
 | j+1,h=>by
  have ih:=wsm_lim hl j (by omega)
  have m:=mulb (w:=(j:Int)) (x:=L.getD j 0) (a:=24) (b:=16384) (by omega) (hl j)
  show (wsm L j+(j:Int)*L.getD j 0).natAbs≤_
  omega
theorem bd1359 {a b c:Int}:buildT Tryz.prog 165 [(0,zi a),(1,zi b),(2,zi c)]=some (.agg #[zi a,zi b,zi c]):=by kernel_rfl
theorem tp1359:Tp Tryz.prog 165 3 [.int .i64 0,.int .i64 0,.int .i64 0] true:=tp_of (by kernel_rfl) (by kernel_rfl) rfl
theorem fo1359_0:fieldOff Tryz.prog 165 0=some 0:=by kernel_rfl
theorem fo1359_1:fieldOff Tryz.prog 165 1=some 1:=by kernel_rfl
theorem fo1359_2:fieldOff Tryz.prog 165 2=some 2:=by kernel_rfl
section
variable {h:TH} {v:Value} {L:List Int} {a b c:Int}
theorem fit_lim (hl:∀ j,(L.getD j 0).natAbs≤16384) (hL:L.length≤24):L.sum.natAbs≤393216∧(wsm L L.length).natAbs≤9437184:=by
 have h1:=sum_lim (l:=L) fun x hx=>by
  obtain ⟨i,hi⟩:=List.mem_iff_getElem?.1 hx
  have:=hl i
  rw [List.getD_eq_getElem?_getD,hi] at this
  exact this
 have h2:=wsm_lim hl L.length hL
 omega
set_option maxHeartbeats 2000000 in
theorem k1336 (H:Has tp) (s:SlL encI 1 h v L) (hl:∀ j,(L.getD j 0).natAbs≤16384) (hL:L.length≤24) (f:Free0 h.next h) :
  CallW Tryz.prog tp (.func (.func 93) #[] #[]) #[v] h fun u h'=>HX h h'∧u=fitV L:=by
 refine CallW.fnL (H.fn 93 f1336 rfl rfl) ?_
 refine WL.sr<|WOL.al tp1359 fun h1 N1=>WOL.nil<|keep [(0,_),(2,_)] ⟨rfl,rfl,trivial⟩ ?_
 have n1:=N1.next
 have s1:=s.hx N1.hx
 refine WL.sr<|WOL.mv rfl<|WOL.len rfl s1 u29<|WOL.as rfl<|WOL.as rfl<|WOL.as rfl<|WOL.nil<|keep [(0,_),(2,_),(3,_),(4,_),(5,_)] ⟨rfl,rfl,rfl,rfl,rfl,trivial⟩ ?_
 refine WL.seq<|WL.sr<|WOL.mv rfl<|WOL.len rfl s1 u29<|WOL.mv rfl<|WOL.nil<|keep [(2,_),(3,_),(4,_),(5,_),(10,_),(11,_),(12,_)] ⟨rfl,rfl,rfl,rfl,rfl,rfl,rfl,trivial⟩ ?_
 refine WL.upto (α:=Unit) L.length (fun _ _ g=>g=h1) (fun j _=>[(2,ptr h.next),(3,zi (L.length:Nat)),(4,zi (L.take j).sum),(5,zi (wsm L j)),(10,v),(11,zi (L.length:Nat))]) () rfl rfl (by omega) rfl ⟨rfl,rfl,rfl,rfl,rfl,rfl,rfl,trivial⟩ (fun _ _=>rfl) (fun _ _ _=>⟨rfl,rfl,rfl,rfl,rfl,rfl,rfl,trivial⟩) (fun _ _ _=>⟨rfl,rfl,rfl,rfl,rfl,rfl,rfl,trivial⟩) ?_ ?_
 ·rintro j _ g hj rfl
  have eL:L[j]?=some (L.getD j 0):=at_getD hj
  have b1:=hl j
  have b2:=sum_lim (l:=L.take j) fun x hx=>by
   obtain ⟨i,hi⟩:=List.mem_iff_getElem?.1 (List.mem_of_mem_take hx)
   have:=hl i
   rw [List.getD_eq_getElem?_getD,hi] at this
   exact this
  rw [List.length_take] at b2
  have b3:=wsm_lim hl j (by omega)
  have m:=mulb (w:=(j:Int)) (x:=L.getD j 0) (a:=24) (b:=16384) (by omega) b1
  obtain ⟨_,_,cb,fb',wb,elb,c1,c2,c3,c4,c5'⟩:=s1.at eI u29 tp3 eL .i64
  have gxb:=c5' 0 (by decide)
  rw [Nat.add_zero] at gxb
  refine WL.sr<|WOL.mv rfl<|WOL.ix rfl rfl c1<|WOL.ld rfl (load_one tp3 c2 gxb)<|WOL.as rfl<|WOL.as rfl<|WOL.nil<|keep [(2,_),(3,_),(4,_),(5,_),(6,_),(7,_),(10,_),(11,_),(12,_)] ⟨rfl,rfl,rfl,rfl,rfl,rfl,rfl,rfl,rfl,trivial⟩ ?_
  refine WL.sr<|WOL.mv rfl<|WOL.mv rfl<|WOL.add (m:=(L.take j).sum) (n:=L.getD j 0) rfl rfl (by omega) (by omega) ?_
  rw [← sum_take hj]
  refine WOL.as rfl<|WOL.nil<|keep [(2,_),(3,_),(4,_),(5,_),(6,_),(7,_),(10,_),(11,_),(12,_)] ⟨rfl,rfl,rfl,rfl,rfl,rfl,rfl,rfl,rfl,trivial⟩ ?_
  refine WL.reg<|WOL.mv rfl<|WOL.mv rfl<|WOL.mv rfl<|WOL.mul (m:=(j:Int)) (n:=L.getD j 0) rfl rfl (by omega) (by omega)<|WOL.add (m:=wsm L j) (n:=(j:Int)*L.getD j 0) rfl rfl (by omega) (by omega) ?_
  exact WOL.as rfl<|WOL.nil fun y k=>⟨(),rfl,k.sub ⟨rfl,rfl,rfl,rfl,rfl,rfl,rfl,trivial⟩⟩
 ·rintro _ g rfl
  rw [List.take_of_length_le (Nat.le_refl _)]
  obtain ⟨b1,b2⟩:=fit_lim hl hL
  unfold fitV fitA fitB fitC
  generalize L.sum=S at *
  generalize wsm L L.length=T at *
  have m1:=mulb (w:=4*(L.length:Int) - 2) (x:=S) (a:=94) (b:=393216) (by omega) b1
  have m2:=mulb (w:=(4*(L.length:Int) - 2)*S - 6*T) (x:=(L.length:Int) - 1) (a:=93585408) (b:=24) (by omega) (by omega)
  have m3:=mulb (w:=6*((L.length:Int) - 1)) (x:=S) (a:=138) (b:=393216) (by omega) b1
  have m4:=mulb (w:=(L.length:Int)) (x:=(L.length:Int) - 1) (a:=24) (b:=24) (by omega) (by omega)
  have m5:=mulb (w:=(L.length:Int)*((L.length:Int) - 1)) (x:=(L.length:Int)+1) (a:=576) (b:=25) m4 (by omega)
  refine WL.sr<|WOL.mv rfl<|WOL.mul (m:=4) (n:=(L.length:Int)) rfl rfl (by omega) (by omega)<|WOL.sub (m:=4*(L.length:Int)) (n:=2) rfl rfl (by omega) (by omega)<|WOL.mv rfl<|WOL.mul (m:=4*(L.length:Int) - 2) (n:=S) rfl rfl (by omega) (by omega)<|WOL.mv rfl<|WOL.mul (m:=6) (n:=T) rfl rfl (by omega) (by omega)<|WOL.sub (m:=(4*(L.length:Int) - 2)*S) (n:=6*T) rfl rfl (by omega) (by omega)<|WOL.mv rfl<|WOL.sub (m:=(L.length:Int)) (n:=1) rfl rfl (by omega) (by omega)<|WOL.mul (m:=(4*(L.length:Int) - 2)*S - 6*T) (n:=(L.length:Int) - 1) rfl rfl (by omega) (by omega) ?_
  refine WOL.mv rfl<|WOL.mul (m:=12) (n:=T) rfl rfl (by omega) (by omega)<|WOL.mv rfl<|WOL.sub (m:=(L.length:Int)) (n:=1) rfl rfl (by omega) (by omega)<|WOL.mul (m:=6) (n:=(L.length:Int) - 1) rfl rfl (by omega) (by omega)<|WOL.mv rfl<|WOL.mul (m:=6*((L.length:Int) - 1)) (n:=S) rfl rfl (by omega) (by omega)<|WOL.sub (m:=12*T) (n:=6*((L.length:Int) - 1)*S) rfl rfl (by omega) (by omega) ?_
  refine WOL.mv rfl<|WOL.mv rfl<|WOL.sub (m:=(L.length:Int)) (n:=1) rfl rfl (by omega) (by omega)<|WOL.mul (m:=(L.length:Int)) (n:=(L.length:Int) - 1) rfl rfl (by omega) (by omega)<|WOL.mv rfl<|WOL.add (m:=(L.length:Int)) (n:=1) rfl rfl (by omega) (by omega)<|WOL.mul (m:=(L.length:Int)*((L.length:Int) - 1)) (n:=(L.length:Int)+1) rfl rfl (by omega) (by omega) ?_
  refine WOL.bd rfl bd1359<|WOL.sto (vs:=[zi _,zi _,zi _]) rfl rfl tp1359 N1.at_ rfl rfl (Nat.le_of_ble_eq_true rfl) rfl (f.hx N1.hx) (Nat.le_refl _) fun h3 P3=>WOL.nil ?_
  exact WL.ret (WL.endC rfl (load_row tp1359 P3.at_ rfl (Nat.le_of_ble_eq_true rfl)) ⟨P3.hx _ N1.hx (Nat.le_refl _),rfl⟩)
end
end Go.Tidy
namespace Go.Tidy
open Go Go.Proofs Tab
variable {tp:TProg}
section
variable {h:TH} {v:Value} {F:List Nat} {es L:List Int} {a b c:Int}
def linF (a b c:Int) (L:List Int) (i:Nat):Int:=rnd (L.getD i 0*c - a - b*(i:Int)) c
def linI (a b c:Int) (L:List Int):List Int:=(List.range L.length).map (linF a b c L)
theorem lin_len:(linI a b c L).length=L.length:=by unfold linI;rw [List.length_map,List.length_range]
theorem lin_get {i:Nat} (h:i < L.length):(linI a b c L).getD i 0=linF a b c L i:=by
 rw [List.getD_eq_getElem?_getD];unfold linI;rw [tbl_get,if_pos h];rfl
theorem k1338 (H:Has tp) (s:SlL encI 1 h v L) (hl:∀ j,(L.getD j 0).natAbs≤16384) (hL:L.length≤4096) (ha:a.natAbs≤10000000000) (hb:b.natAbs≤1000000000) (hc:1≤c∧c≤100000) (f:Free0 h.next h) :
  CallW Tryz.prog tp (.func (.func 97) #[] #[]) #[.agg #[zi a,zi b,zi c],v] h fun u h'=>HX h h'∧∃ e,u=slA e L.length∧h.next≤e∧At h' e (.cells (cat encI (linI a b c L)) true true 3):=by
 refine CallW.fnL (H.fn 97 f1338 rfl rfl) ?_
 refine WL.sr<|WOL.box rfl fun h1 N1=>WOL.as rfl<|WOL.nil<|keep [(1,_),(2,_)] ⟨rfl,rfl,trivial⟩ ?_
 have n1:=N1.next
 have A2:At h1 h.next (.cells [zi a,zi b,zi c] true true 165):=N1.at_
 have s1:=s.hx N1.hx
 refine WL.sr<|WOL.mv rfl<|WOL.len rfl s1 u29<|WOL.ms (m:=L.length) rfl rfl u29 tp3 (by decide) (by omega) fun h2 N2=>WOL.as rfl<|WOL.nil<|keep [(1,_),(2,_),(5,_)] ⟨rfl,rfl,rfl,trivial⟩ ?_
 have n2:=N2.next
 have X2:=N1.hx.trans N2.hx
 have W0:=N2.at_
 rw [rep_flat,← cat_rep (enc:=encI) (x:=0) rfl] at W0
 have lz:(linI a b c L).length=(List.replicate L.length (0:Int)).length:=by rw [lin_len,List.length_replicate]
 have gz:∀ j,j < L.length→(linI a b c L).getD j 0=rnd (L.getD j 0*c - a - b*(j:Int)) c:=fun j hj=>lin_get hj
 have l0:(List.replicate L.length (0:Int)).length=L.length:=List.length_replicate ..
 generalize linI a b c L=D at *
 generalize List.replicate L.length (0:Int)=Z at *
 refine WL.seq<|WL.sr<|WOL.mv rfl<|WOL.len rfl (s.hx X2) u29<|WOL.mv rfl<|WOL.nil<|keep [(2,_),(5,_),(11,_),(12,_),(13,_)] ⟨rfl,rfl,rfl,rfl,rfl,trivial⟩ ?_
 refine WL.upto (α:=Unit) L.length (fun j _ g=>HX h g∧HX h1 g∧h2.next≤g.next∧At g h1.next (.cells (cat encI (mxL D Z j)) true true 3)) (fun _ _=>[(2,ptr h.next),(5,slA h1.next L.length),(11,v),(12,zi (L.length:Nat))]) () rfl rfl (by omega) ⟨X2,N2.hx,Nat.le_refl _,by rw [mx_zero];exact W0⟩ ⟨rfl,rfl,rfl,rfl,rfl,trivial⟩ (fun _ _=>rfl) (fun _ _ _=>⟨rfl,rfl,rfl,rfl,rfl,trivial⟩) (fun _ _ _=>⟨rfl,rfl,rfl,rfl,rfl,trivial⟩) ?_ ?_
 ·rintro j _ g hj ⟨X,Xg,nx,Wd⟩
  have eL:L[j]?=some (L.getD j 0):=at_getD hj
  have b1:=hl j
  have m1:=mulb (w:=L.getD j 0) (x:=c) (a:=16384) (b:=100000) b1 (by omega)
  have m2:=mulb (w:=b) (x:=(j:Int)) (a:=1000000000) (b:=4096) hb (by omega)
  have Ag:=A2.hx Xg
  obtain ⟨_,_,cb,fb',wb,elb,c1,c2,c3,c4,c5'⟩:=(s.hx X).at eI u29 tp3 eL .i64
  have gxb:=c5' 0 (by decide)
  rw [Nat.add_zero] at gxb
  refine WL.sr<|WOL.mv rfl<|WOL.ix rfl rfl c1<|WOL.ld rfl (load_one tp3 c2 gxb)<|WOL.as rfl<|WOL.as rfl<|WOL.nil<|keep [(2,_),(5,_),(6,_),(7,_),(11,_),(12,_),(13,_)] ⟨rfl,rfl,rfl,rfl,rfl,rfl,rfl,trivial⟩ ?_
  refine WL.reg<|WOL.mv rfl<|WOL.mv rfl<|WOL.mv rfl<|WOL.fa rfl (fa_of fo1359_2)<|WOL.ld rfl (load_one tp3 Ag rfl)<|WOL.mul (m:=L.getD j 0) (n:=c) rfl rfl (by omega) (by omega)<|WOL.fa rfl (fa_of fo1359_0)<|WOL.ld rfl (load_one tp3 Ag rfl)<|WOL.sub (m:=L.getD j 0*c) (n:=a) rfl rfl (by omega) (by omega)<|WOL.fa rfl (fa_of fo1359_1)<|WOL.ld rfl (load_one tp3 Ag rfl)<|WOL.mv rfl<|WOL.mul (m:=b) (n:=(j:Int)) rfl rfl (by omega) (by omega)<|WOL.sub (m:=L.getD j 0*c - a) (n:=b*(j:Int)) rfl rfl (by omega) (by omega)<|WOL.fa rfl (fa_of fo1359_2)<|WOL.ld rfl (load_one tp3 Ag rfl)<|WOL.cl2 rfl rfl rfl ((k103w H (a:=L.getD j 0*c - a - b*(j:Int)) (b:=c) (by omega) (by omega) (by omega)).mono ?_)
  rintro u g' ⟨rfl,rfl⟩
  rw [← gz j hj]
  refine WOL.ix rfl rfl (indexAddr_tp (j:=j) u29 tp3 hj)<|WOL.sto (vs:=encI (D.getD j 0)) rfl rfl tp3 Wd rfl rfl (by rw [eI.cat_len,mx_len];omega) rfl (f.hx X) (by omega) fun g5 P5=>WOL.nil fun y k=>⟨(),⟨P5.hx _ X (by omega),P5.hx _ Xg (by omega),by rw [P5.next];exact nx,?_⟩,k.sub ⟨rfl,rfl,rfl,rfl,rfl,trivial⟩⟩
  have:=P5.at_
  rw [Nat.zero_add,eI.set (by rw [mx_len];omega),mx_set (by omega)] at this
  exact this
 ·rintro _ g ⟨X,Xg,nx,Wd⟩
  rw [show L.length=Z.length by omega,mx_all lz] at Wd
  exact WL.sr<|WOL.mv rfl<|WOL.as rfl<|WOL.nil<|WL.ret (WL.end_ rfl ⟨X,_,rfl,by omega,Wd⟩)
def twsL (L:List Int):List Int:=linI (L.getD 0 0*((L.length - 1:Nat):Int)) (L.getD (L.length - 1) 0 - L.getD 0 0) ((L.length - 1:Nat):Int) L
theorem k1287 (H:Has tp) (X:HasX tp) (s:SlL encF 1 h v F) (hE:SErr F es) (hL:firstNZ es=0→Lev F L) (hF:F.length≤900000) (f:Free0 h.next h) :
  CallW Tryz.prog tp (.func (.func 31) #[] #[]) #[v] h fun u h'=>HX h h'∧AnsF (cE (lineE F.length es) (twsL L)) (cL (lineE F.length es) (twsL L)) h.next h' u:=by
 refine CallW.fnL (H.fn 31 f1287 rfl rfl) ?_
 refine WL.sr<|WOL.as rfl<|WOL.as rfl<|WOL.nil<|keep [(0,_)] ⟨rfl,trivial⟩ ?_
 refine WL.seq<|WL.sr<|WOL.mv rfl<|WOL.cl1 rfl rfl ((k1328 H X s hE (by omega)).mono ?_)
 rintro u g1 ⟨rfl,X1⟩
 refine WOL.as rfl<|WOL.nil<|keep [(0,_),(4,_)] ⟨rfl,rfl,trivial⟩ ?_
 generalize hp:lineE F.length es=E
 by_cases e0:E≠0
 ·rw [cE_no e0,cL_no e0]
  refine WL.sr<|WOL.mv rfl<|WOL.bt rfl rfl rfl (bne_iff_ne.2 e0)<|WOL.nil<|WL.yes rfl<|WL.sr<|WOL.mv rfl<|WOL.as rfl<|WOL.as rfl<|WOL.nil ?_
  exact WL.ret (WL.end_ rfl ⟨X1,AnsF.err⟩)
 have e0:E=0:=Classical.not_not.1 e0
 subst e0
 rw [cE_0,cL_0]
 obtain ⟨⟨l1,z1⟩,l2⟩:=line_ok hp
 have lv:=hL z1
 have ll:=lv.1
 have hl:=lev_getD lv
 refine WL.sr<|WOL.mv rfl<|WOL.bf rfl rfl rfl rfl<|WOL.nil<|WL.no rfl<|WL.skip<|keep [(0,_)] ⟨rfl,trivial⟩ ?_
 refine WL.sr<|WOL.mv rfl<|WOL.cl1 rfl rfl ((k1313 H (s.hx X1) lv (by omega) (f.on X1)).mono ?_)
 rintro u g2 ⟨X2,c,rfl,hc,Ac⟩
 have Y2:=X1.trans X2
 have sI:SlL encI 1 g2 (slA c L.length) L:=SlL.own eI Ac rfl
 refine WOL.as rfl<|WOL.nil<|keep [(0,_),(5,_)] ⟨rfl,rfl,trivial⟩ ?_
 refine WL.sr<|WOL.mv rfl<|WOL.len rfl (s.hx Y2) u43<|WOL.sub (m:=((F.length:Nat):Int)) (n:=1) rfl rfl (by omega) (by omega) ?_
 rw [show ((F.length:Nat):Int) - 1=((L.length - 1:Nat):Int) by omega]
 refine WOL.as rfl<|WOL.nil<|keep [(5,_),(6,_)] ⟨rfl,rfl,trivial⟩ ?_
 obtain ⟨m,hm⟩:∃ m,L.length - 1=m:=⟨_,rfl⟩
 unfold twsL
 rw [hm]
 have e1:L[0]?=some (L.getD 0 0):=at_getD (by omega)
 have e2:L[m]?=some (L.getD m 0):=at_getD (by omega)
 have b1:=hl 0
 have b2:=hl m
 obtain ⟨_,_,ca,fa',wa,ela,a1,a2,a3,a4,a5⟩:=sI.at eI u29 tp3 e1 .i64
 obtain ⟨_,_,cb,fb',wb,elb,c1,c2,c3,c4,c5⟩:=sI.at eI u29 tp3 e2 .i64
 have gxa:=a5 0 (by decide)
 have gxb:=c5 0 (by decide)
 rw [Nat.add_zero] at gxa gxb
 have m1:=mulb (w:=L.getD 0 0) (x:=(m:Int)) (a:=16384) (b:=4096) b1 (by omega)
 refine WL.sr<|WOL.mv rfl<|WOL.ix rfl rfl a1<|WOL.ld rfl (load_one tp3 a2 gxa)<|WOL.mv rfl<|WOL.mv rfl<|WOL.ix rfl rfl c1<|WOL.ld rfl (load_one tp3 c2 gxb)<|WOL.as rfl<|WOL.as rfl<|WOL.nil<|keep [(5,_),(6,_),(7,_),(8,_)] ⟨rfl,rfl,rfl,rfl,trivial⟩ ?_
 refine WL.sr<|WOL.mv rfl<|WOL.mv rfl<|WOL.mul (m:=L.getD 0 0) (n:=(m:Int)) rfl rfl (by omega) (by omega)<|WOL.mv rfl<|WOL.mv rfl<|WOL.sub (m:=L.getD m 0) (n:=L.getD 0 0) rfl rfl (by omega) (by omega)<|WOL.mv rfl<|WOL.bd rfl bd1359<|WOL.mv rfl<|WOL.cl2 rfl rfl rfl ((k1338 H sI hl (by omega) (by omega) (by omega) ⟨by omega,by omega⟩ (f.on Y2)).mono ?_)
 rintro u g3 ⟨X3,e,rfl,he,Ae⟩
 have Y3:=Y2.trans X3
 have y2:=Y2.next
 refine WOL.cl1 rfl rfl ((k1311 H (SlL.own eI Ae lin_len) (by rw [lin_len];omega) (f.on Y3)).mono ?_)
 rintro u g4 ⟨X4,R⟩
 have y3:=Y3.next
 have R:=R.low (n0:=h.next) (by omega)
 obtain ⟨b,m',k,F',rfl,r1,r2,r3⟩:=R
 exact WOL.ex rfl rfl<|WOL.ex rfl rfl<|WOL.as rfl<|WOL.as rfl<|WOL.nil<|WL.ret (WL.end_ rfl ⟨Y3.trans X4,b,m',k,F',rfl,r1,r2,r3⟩)
end
end Go.Tidy
namespace Go.Tidy
open Go Go.Proofs Tab
variable {tp:TProg}
def trdL (L:List Int):List Int:=linI (fitA L) (fitB L) (fitC L) L
theorem trd_len {L:List Int}:(trdL L).length=L.length:=lin_len
section
variable {h:TH} {v:Value} {F:List Nat} {es L:List Int}
end
end Go.Tidy
namespace Go.Tidy
open Go Go.Proofs Tab
variable {tp:TProg}
theorem k78w (H:Has tp) {m:Int} {n:Nat} {h:TH} (hm1:-1000000000000000≤m) (hm2:m≤1000000000000000) (hn1:1≤n) (hn2:n≤1000000000000000) :
  CallW Tryz.prog tp (.func (.func 166) #[] #[]) #[.int .i64 m,.int .i64 n] h fun v h'=>v=.int .i64 (Nat.gcd m.natAbs n:Nat)∧h'=h:=by
 refine CallW.full (H.fn 166 f78 rfl rfl) rfl ?_
 refine W.seq (W.reg (WO.as rfl (WO.nil ?_)))
 refine W.seq (W.reg (WO.mv rfl (WO.mv rfl (WO.neg rfl (WO.max rfl rfl (WO.as rfl (WO.nil ?_)))))))
 refine W.seq (W.block (W.loop (fun k a h1=>h1=h∧∃ x y:Nat,k=x∧x≤1000000000000000∧y≤1000000000000000∧Nat.gcd x y=Nat.gcd m.natAbs n∧Full 16 a∧Tr.get a 0=some (.int .i64 (x:Nat))∧Tr.get a 1=some (.int .i64 (y:Nat)))
  ?_ m.natAbs _ h ⟨rfl,m.natAbs,n,rfl,by omega,by omega,rfl,(by repeat (first | with_reducible refine Full.put ?_ (by decide) _ | with_reducible refine Full.putn ?_ _ | with_reducible exact Full.of _ _ rfl | with_reducible exact Full.start _ _ (Nat.le_of_ble_eq_true rfl) | exact Full.start _ _ (Nat.le_of_ble_eq_true rfl))),?_,rfl⟩))
 rotate_left
 ·show some (Value.int .i64 (max m (IntKind.i64.wrap (-m))))=_
  rw [IntWalk.i64_in _ (by omega)]
  congr 2
  omega
 rintro k a h1 ⟨rfl,x,y,rfl,hx,hy,hg,hf,h0,h1⟩
 (obtain ⟨rl0,hrl0,rfl⟩:=hf;obtain ⟨s0,s1,s2,s3,s4,s5,s6,s7,rl1,rfl,hrl1⟩:=cons8 hrl0;obtain ⟨s8,s9,s10,s11,s12,s13,s14,s15,rl2,rfl,hrl2⟩:=cons8 hrl1;obtain rfl:=nil_of hrl2;clear hrl0 hrl1 hrl2;obtain rfl:s0=_:=Option.some.inj (show some s0=some _ from h0);clear h0;obtain rfl:s1=_:=Option.some.inj (show some s1=some _ from h1);clear h1)
 refine W.seq (W.seq (W.reg (WO.mv rfl (WO.bi rfl rfl rfl (WO.nil ?_)))))
 refine W.cd rfl ?_
 by_cases hz:k=0
 ·subst hz
  refine OnB.no (W.exit ?_)
  repeat' (first
  | refine WO.mv rfl ?_ | refine WO.as rfl ?_ | refine WO.bi rfl rfl rfl ?_
  | refine WO.nil ?_
  | refine W.seq ?_ | refine W.reg ?_ | refine W.ret ?_ | refine W.skip ?_ | refine W.exit ?_ | refine W.block ?_
  | refine WO.nt rfl ?_
  | with_reducible refine OnB.yes ?_ | with_reducible refine OnB.no ?_ | with_reducible refine OnB.way (fun hb=>?_) (fun hb=>?_)
  | refine WO.gu rfl rfl ?_ | refine WO.gt rfl rfl ?_ | refine WO.gf rfl rfl ?_
  | refine WO.pk rfl rfl rfl ?_
  | refine W.cd rfl ?_)
  refine ⟨.inr rfl,_,rfl,?_,rfl⟩
  show Value.int _ _=Value.int _ _
  rw [← hg,Nat.gcd_zero_left]
 ·have hd:((k:Int) != 0)=true:=by simpa using hz
  rw [hd]
  refine OnB.yes (W.skip ?_)
  refine W.block (W.reg (WO.mv rfl (WO.mv rfl (WO.rem rfl rfl (by omega) (WO.mv rfl (WO.as rfl (WO.as rfl (WO.nil ?_))))))))
  have hlt:y % k < k:=Nat.mod_lt _ (by omega)
  refine ⟨y % k,hlt,rfl,y % k,k,rfl,by omega,by omega,?_,(by repeat (first | with_reducible refine Full.put ?_ (by decide) _ | with_reducible refine Full.putn ?_ _ | with_reducible exact Full.of _ _ rfl | with_reducible exact Full.start _ _ (Nat.le_of_ble_eq_true rfl) | exact Full.start _ _ (Nat.le_of_ble_eq_true rfl))),?_,rfl⟩
  ·rw [← hg,← Nat.gcd_rec]
  ·show some (Value.int .i64 (Int.tmod (y:Int) (k:Int)))=_
   rw [Int.tmod_eq_emod_of_nonneg (by omega)]
   rfl
theorem k91w (H:Has tp) {m:Int} {n:Nat} {h:TH} (hm1:-1000000000000000≤m) (hm2:m≤1000000000000000) (hn1:1≤n) (hn2:n≤1000000000000000) (f:Free0 h.next h) :
  CallW Tryz.prog tp (.func (.func 165) #[] #[]) #[.int .i64 m,.int .i64 n] h fun v h'=>v=.agg #[.int .i64 (fwrap .i64 (m.tdiv (Nat.gcd m.natAbs n:Nat))),.int .i64 (fwrap .i64 ((n:Int).tdiv (Nat.gcd m.natAbs n:Nat)))]∧HX h h':=by
 have hg:0 < Nat.gcd m.natAbs n:=Nat.gcd_pos_of_pos_right _ (by omega)
 refine CallW.fnL (H.fn 165 f91 rfl rfl) ?_
 refine WL.sr<|WOL.al tp24 fun h1 N1=>?_
 refine WOL.nil<|keep [(0,_),(1,_),(4,_)] ⟨rfl,rfl,rfl,trivial⟩ ?_
 refine WL.sr<|WOL.mv rfl<|WOL.mv rfl ?_
 refine WOL.cl2 rfl rfl rfl ((k78w H hm1 hm2 hn1 hn2).mono ?_)
 rintro v h2 ⟨rfl,rfl⟩
 refine WOL.as rfl<|WOL.nil<|keep [(0,_),(1,_),(4,_),(5,_)] ⟨rfl,rfl,rfl,rfl,trivial⟩ ?_
 refine WL.sr<|WOL.mv rfl<|WOL.mv rfl ?_
 refine fun a q=>WO.quoI (q.o rfl) (q.o rfl) (by omega) (q.nx ?_)
 refine WOL.mv rfl<|WOL.mv rfl ?_
 refine fun a q=>WO.quoI (q.o rfl) (q.o rfl) (by omega) (q.nx ?_)
 refine WOL.bd rfl bd24 ?_
 refine WOL.sto rfl rfl tp24 N1.at_ rfl rfl (Nat.le_of_ble_eq_true rfl) rfl (f.hx N1.hx) (Nat.le_refl _) fun h3 P3=>?_
 refine WOL.nil<|keep [(4,_)] ⟨rfl,trivial⟩ ?_
 exact WL.ret (WL.endC (t:=4) rfl (load_row tp24 P3.at_ rfl (Nat.le_of_ble_eq_true rfl)) ⟨rfl,P3.hx _ N1.hx (Nat.le_refl _)⟩)
end Go.Tidy
namespace Go.Tidy
open Go Go.Proofs Tab
variable {tp:TProg}
def rtN (m:Int) (n:Nat):Int:=fwrap .i64 (m.tdiv (Nat.gcd m.natAbs n:Nat))
def rtD (m:Int) (n:Nat):Int:=fwrap .i64 ((n:Int).tdiv (Nat.gcd m.natAbs n:Nat))
theorem tp1302:Tp Tryz.prog 54 4 [.int .i64 0,.int .i64 0,.int .i64 0,.int .i64 0] true:=tp_of (by kernel_rfl) (by kernel_rfl) rfl
theorem bd1302 {a b c d:Int}:buildT Tryz.prog 54 [(0,.agg #[zi a,zi b]),(1,.agg #[zi c,zi d])]=some (.agg #[zi a,zi b,zi c,zi d]):=by kernel_rfl
section
variable {h:TH} {a b:Int} {n:Nat}
theorem k1337 (H:Has tp) (ha:a.natAbs≤1000000000000000) (hb:b.natAbs≤1000000000000000) (h1:1≤n) (h2:n≤1000000000000000) (f:Free0 h.next h) :
  CallW Tryz.prog tp (.func (.func 95) #[] #[]) #[.agg #[zi a,zi b,zi (n:Nat)]] h fun u h'=>u=.agg #[zi (rtN a n),zi (rtD a n),zi (rtN b n),zi (rtD b n)]∧HX h h':=by
 refine CallW.fnL (H.fn 95 f1337 rfl rfl) ?_
 refine WL.sr<|WOL.box rfl fun h1 N1=>WOL.al tp1302 fun h2 N2=>WOL.nil<|keep [(1,_),(2,_)] ⟨rfl,rfl,trivial⟩ ?_
 have n1:=N1.next
 have n2:=N2.next
 have A1:At h1 h.next (.cells [zi a,zi b,zi (n:Nat)] true true 165):=N1.at_
 have A1':=A1.hx N2.hx
 have X2:=N1.hx.trans N2.hx
 refine WL.sr<|WOL.fa rfl (fa_of fo1359_0)<|WOL.ld rfl (load_one tp3 A1' rfl)<|WOL.fa rfl (fa_of fo1359_2)<|WOL.ld rfl (load_one tp3 A1' rfl)<|WOL.fa rfl (fa_of fo1359_1)<|WOL.ld rfl (load_one tp3 A1' rfl)<|WOL.fa rfl (fa_of fo1359_2)<|WOL.ld rfl (load_one tp3 A1' rfl)<|WOL.lv2 [some h.next,some h.next] rfl rfl rfl rfl fun ml hl=>((k91w (h:=TH.withLock _ ml) (n:=n) H (by omega) (by omega) (by omega) (by omega) ((f.on X2).heldO hl (fun b hb=>by simp at hb;omega))).mono ?_)
 rintro u g ⟨rfl,Xg⟩
 replace Xg:=Xg.relock
 generalize g.withLock h2.lock=g at *
 have Y:=X2.trans Xg
 refine WOL.cl2 rfl rfl rfl ((k91w (n:=n) H (by omega) (by omega) (by omega) (by omega) (f.on Y)).mono ?_)
 rintro u g3 ⟨rfl,X3⟩
 have Z3:=Xg.trans X3
 refine WOL.bd rfl bd1302<|WOL.sto (vs:=[zi _,zi _,zi _,zi _]) rfl rfl tp1302 (N2.at_.hx Z3) rfl rfl (Nat.le_of_ble_eq_true rfl) rfl ((f.on N1.hx).hx (N2.hx.trans Z3)) (Nat.le_refl _) fun h4 P4=>WOL.nil ?_
 exact WL.ret (WL.endC rfl (load_row tp1302 P4.at_ rfl (Nat.le_of_ble_eq_true rfl)) ⟨rfl,N1.hx.trans (P4.hx _ (N2.hx.trans Z3) (Nat.le_refl _))⟩)
end
end Go.Tidy
namespace Go.Tidy
open Go Go.Proofs Tab
variable {tp:TProg}
section
variable {P:Program}
theorem pv_eqJ {t:TypeId} {d:Nat} {k:IntKind} {a b:Int} (hu:P.underlying t=some (.int k)):pv P (Op.equalIn (d+1) t (.int k a) (.int k b))=some (a == b):=by
 rw [Op.equalIn,pv_bind,pv_underlying hu]
 simp [pv_pure]
variable {h:TH} {K:Regs→TH→Prop} {rest:List TOper} {d:Option Tmp} {ty:TypeId} {i:Nat} {x y:Operand} {t u:TypeId} {L:Rg}
end
section
variable {h:TH} {p q r s k:Nat} {a b c d:Int}
end
end Go.Tidy
namespace Go.Tidy
open Go Go.Proofs Tab
variable {tp:TProg}
section
variable {P:Program}
theorem pv_eqr2d {t : TypeId} {n : Nat} {f1 f2 : Field} {a b c d : Int} (hu : P.underlying t = some (.struct #[f1, f2])) (hs : P.stoodInHeld t = false) (h1 : f1.offset = 0) (h2 : f2.offset = 1) (m1 : f1.name ≠ "_") (m2 : f2.name ≠ "_") (u1 : P.underlying f1.type = some (.int .i64)) (u2 : P.underlying f2.type = some (.int .i64)) :
    pv P (Op.equalIn (n+1+1) t (.agg #[.int .i64 a,.int .i64 b]) (.agg #[.int .i64 c,.int .i64 d]))=some (cond (a == c) (b == d) false):=by
  rw [Op.equalIn,pv_bind,pv_underlying hu]
  simp only [Option.bind_some]
  rw [pv_bind,pv_program]
  simp only [Option.bind_some,hs]
  have e1:=pv_eqJ (d:=n) (a:=a) (b:=c) u1
  have e2:=pv_eqJ (d:=n) (a:=b) (b:=d) u2
  have q1:=pv_part0 (v:=Value.int .i64 a) (w:=Value.int .i64 b) u1
  have q2:=pv_part1 (v:=Value.int .i64 a) (w:=Value.int .i64 b) u2
  have r1:=pv_part0 (v:=Value.int .i64 c) (w:=Value.int .i64 d) u1
  have r2:=pv_part1 (v:=Value.int .i64 c) (w:=Value.int .i64 d) u2
  cases ha:(a == c) <;> cases hb:(b == d) <;> simp [pv_bind,pv_pure,h1,h2,m1,m2,e1,e2,q1,q2,r1,r2,ha,hb]
end
theorem pt24_0 {a b c d:Int}:pv Tryz.prog (Go.part 52 #[zi a,zi b,zi c,zi d] 0)=some (.agg #[zi a,zi b]):=by kernel_rfl
theorem pt24_2 {a b c d:Int}:pv Tryz.prog (Go.part 52 #[zi a,zi b,zi c,zi d] 2)=some (.agg #[zi c,zi d]):=by kernel_rfl
theorem rat24':Rat2 Tryz.prog 52:=⟨⟨_,_,Tryz.underlying52,rfl,rfl,by decide,by decide,Tryz.underlying3,Tryz.underlying3⟩,by kernel_rfl,by kernel_rfl⟩
theorem so1302:Tryz.prog.stoodInHeld 54=false:=by kernel_rfl
theorem eg1302:Tryz.prog.eqGuardType Tryz.prog.depth 54=false:=by kernel_rfl
theorem pv_eq1302 {a b c d e f g h:Int}:pv Tryz.prog (Op.equal 54 (.agg #[zi a,zi b,zi c,zi d]) (.agg #[zi e,zi f,zi g,zi h]))=some (cond (cond (a == e) (b == f) false) (cond (c == g) (d == h) false) false):=by
 show pv Tryz.prog (Op.equalIn (9997+1+1+1) 54 _ _)=_
 obtain ⟨f1,f2,e1,e2,e3,e4,e5,e6,e7⟩:=rat24'.u
 have q1:=pv_eqr2d (n:=9997) (a:=a) (b:=b) (c:=e) (d:=f) e1 rat24'.s e2 e3 e4 e5 e6 e7
 have q2:=pv_eqr2d (n:=9997) (a:=c) (b:=d) (c:=g) (d:=h) e1 rat24'.s e2 e3 e4 e5 e6 e7
 rw [Op.equalIn,pv_bind,pv_underlying Tryz.underlying54]
 simp only [Option.bind_some]
 rw [pv_bind,pv_program]
 simp only [Option.bind_some,so1302]
 cases ha:(cond (a == e) (b == f) false) <;> cases hb:(cond (c == g) (d == h) false) <;> simp [pv_bind,pv_pure,q1,q2,pt24_0,pt24_2,ha,hb]
section
variable {hp:TH} {K:Regs→TH→Prop} {rest:List TOper} {dd:Option Tmp} {ty:TypeId} {i:Nat} {x y:Operand} {u:TypeId} {L:Rg}
theorem WOL.eq1302 {a b c d e f g h:Int} (hx:getL L x=some (.agg #[zi a,zi b,zi c,zi d])) (hy:getL L y=some (.agg #[zi e,zi f,zi g,zi h])) (w:∀ r,Kn (putL L dd (.bool (cond (cond (a == e) (b == f) false) (cond (c == g) (d == h) false) false))) r→WO Tryz.prog tp rest r hp K):∀ r,Kn L r→WO Tryz.prog tp (⟨dd,.binOp .eql 54 x y u,ty,none,[],i⟩::rest) r hp K:=by
  intro r k
  have ex:=getO_eval (k.o hx)
  have ey:=getO_eval (k.o hy)
  refine WO.plainly rfl rfl rfl (by simp [fastOp,fastBin,ex,ey]) (by simp [valueOp,ex,ey,eqT_aggs]) (plainOp_of (by rfl) (fun q hq=>?_) ?_ rfl) (w _ (k.put dd _))
  · simp only [Op.operands] at hq
    simp at hq
    rcases hq with rfl | rfl
    · rw [ex];rfl
    · rw [ey];rfl
  · show pv Tryz.prog (execOp r.eval ⟨dd, .binOp .eql 54 x y u, ty, "", #[], none⟩) = _
    simp [execOp,pv_bind,pv_map,pv_pure,pv_program,ex,ey,eqGuard,binOp,eg1302,pv_eq1302]
end
end Go.Tidy
