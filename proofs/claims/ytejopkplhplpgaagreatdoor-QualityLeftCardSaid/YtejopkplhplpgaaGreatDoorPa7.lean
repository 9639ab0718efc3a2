/- A part of the proof. -/
import Derived.Test.YtejopkplhplpgaaGreatDoorPa6
import Derived.Test.YtejopkplhplpgaaGreatDoorPa2
import Derived.Test.YtejopkplhplpgaaGreatDoorPa1
import Derived.Test.YtejopkplhplpgaaGreatDoorProg
set_option linter.all false
namespace Go.Tidy
open Go Go.Proofs Tab
variable {tp:TProg}
def smp (n:Int):Nat:=(Ieee.single.div (FloatKind.f32.nearest n) 1098907648).getD 0
theorem smp_ok {n:Int} (hn:n.natAbs≤16384):Ieee.single.div (FloatKind.f32.nearest n) 1098907648=some (smp n)∧nanB .f32 (FloatKind.f32.nearest n)=false∧Samp (smp n) n:=by
 obtain ⟨r,h1,h2,h3⟩:=sample_of hn
 have:smp n=r:=by unfold smp;rw [h1];rfl
 rw [this]
 exact ⟨h1,h2,h3⟩
end Go.Tidy
namespace Go.Tidy
open Go Go.Proofs Tab
variable {tp:TProg}
def Lev (F:List Nat) (L:List Int):Prop:=F.length=L.length∧∀ (i b:Nat) (n:Int),F[i]?=some b→L[i]?=some n→Samp b n
def all1 (L:List Int):List (Int × Bool):=L.map fun n=>(n,true)
end Go.Tidy
namespace Go.Tidy
open Go Go.Proofs Tab
variable {tp:TProg}
def clrL (C:List (Int × Bool)) (p:Int × Int):List (Int × Bool):=C.take p.1.toNat ++ (List.replicate (p.2.toNat - p.1.toNat) (0,false) ++ C.drop p.2.toNat)
def cellsL (L:List Int) (S:List (Int × Int)):List (Int × Bool):=S.foldl clrL (all1 L)
def In (m:Nat) (S:List (Int × Int)):Prop:=∀ p,p ∈ S→0≤p.1∧p.1≤p.2∧p.2≤m
theorem clrL_len {C:List (Int × Bool)} {p:Int × Int} (h1:0≤p.1) (h2:p.1≤p.2) (h3:p.2≤C.length):(clrL C p).length=C.length:=by
 unfold clrL;simp;omega
theorem foldl_len {m:Nat}:∀ (S:List (Int × Int)) (C:List (Int × Bool)),C.length=m→In m S→(S.foldl clrL C).length=m
 | [],C,h,_=>h
 | p::S,C,h,hin=>by
  obtain ⟨h1,h2,h3⟩:=hin p (by simp)
  exact foldl_len S (clrL C p) (by rw [clrL_len h1 h2 (by omega)];exact h) fun q hq=>hin q (by simp [hq])
end Go.Tidy
namespace Go.Tidy
open Go Go.Proofs Tab
variable {tp:TProg}
def hstep (B:List Bool) (acc:List (Int × Int)) (i:Nat):List (Int × Int) :=
 if B.getD i false=true then acc
 else if 0 < i∧B.getD (i - 1) false=false then acc.set (acc.length - 1) ((acc.getD (acc.length - 1) (0,0)).1,(i:Int)+1)
 else acc ++ [((i:Int),(i:Int)+1)]
def holesN (B:List Bool):Nat→List (Int × Int)
 | 0=>[]
 | i+1=>hstep B (holesN B i) i
def holesOf (B:List Bool):List (Int × Int):=holesN B B.length
end Go.Tidy
namespace Go.Tidy
open Go Go.Proofs Tab
variable {tp:TProg}
def SErr (F:List Nat) (es:List Int):Prop:=F.length=es.length∧∀ (i b:Nat) (e:Int),F[i]?=some b→es[i]?=some e→SampleE b e
theorem firstNZ_zero:∀ {l:List Int},firstNZ l=0→∀ x,x ∈ l→x=0
  | [],_,_,h=>by cases h
  | y::l,h,x,hx=>by
    unfold firstNZ at h
    by_cases hy:y=0
    · subst hy
      rcases List.mem_cons.1 hx with rfl | hx
      · rfl
      · exact firstNZ_zero (by simpa using h) x hx
    · have:(y != 0)=true:=by simpa using hy
      rw [this] at h
      exact absurd h hy
end Go.Tidy
namespace Go.Tidy
open Go Go.Proofs Tab
variable {tp:TProg}
def badS (m:Nat) (p:Int × Int):Bool:=decide (p.1 < 0) || (decide (p.2≤p.1) || decide ((m:Int) < p.2))
def holeE (m:Nat):Int→List (Int × Int)→Int
 | _,[]=>0
 | prev,p::r=>cond (badS m p) 14 (cond (decide (p.1≤prev)) 11 (holeE m p.2 r))
theorem holeE_cons (m:Nat) (prev:Int) (p:Int × Int) (r:List (Int × Int)):holeE m prev (p::r)=cond (badS m p) 14 (cond (decide (p.1≤prev)) 11 (holeE m p.2 r)):=rfl
theorem holeE_in {m:Nat}:∀ {S:List (Int × Int)} {prev:Int},holeE m prev S=0→In m S
  | [],_,_=>fun p hp=>by cases hp
  | p::r,prev,h=>by
    unfold holeE at h
    cases hb:badS m p with
    | true=>rw [hb] at h;cases h
    | false =>
      rw [hb] at h
      cases hc:decide (p.1≤prev) with
      | true=>rw [hc] at h;cases h
      | false =>
        rw [hc] at h
        have ih:=holeE_in (S:=r) h
        unfold badS at hb
        simp only [Bool.or_eq_false_iff,decide_eq_false_iff_not] at hb
        intro q hq
        rcases List.mem_cons.1 hq with rfl | hq
        · omega
        · exact ih q hq
end Go.Tidy
namespace Go.Tidy
open Go Go.Proofs Tab
variable {tp:TProg}
def anyIn (L:List Int) (p:Int × Int):Bool:=((L.drop p.1.toNat).take (p.2.toNat - p.1.toNat)).any (· != 0)
def formE (L:List Int) (S:List (Int × Int)):Int:=cond (S.any (anyIn L)) 1 0
end Go.Tidy
namespace Go.Tidy
open Go Go.Proofs Tab
variable {tp:TProg}
theorem Lev.part {F:List Nat} {L:List Int} (h:Lev F L) (lo k:Nat):Lev ((F.drop lo).take k) ((L.drop lo).take k):=by
 refine ⟨by simp [h.1],fun i b n hb hn=>?_⟩
 by_cases hi:i < k
 ·rw [List.getElem?_take_of_lt hi,List.getElem?_drop] at hb hn
  exact h.2 _ b n hb hn
 ·rw [List.getElem?_eq_none (by simp;omega)] at hb
  cases hb
theorem Lev.get {F:List Nat} {L:List Int} (h:Lev F L) {i:Nat} {b:Nat} (hb:F[i]?=some b):∃ n,L[i]?=some n∧Samp b n:=by
 have hlt:=(List.getElem?_eq_some_iff.1 hb).1
 have:i < L.length:=by rw [← h.1];exact hlt
 exact ⟨L[i],List.getElem?_eq_getElem this,h.2 i b _ hb (List.getElem?_eq_getElem this)⟩
theorem holeE_lt {m:Nat}:∀ {S:List (Int × Int)} {prev:Int},holeE m prev S=0→∀ p,p ∈ S→p.1 < p.2
  | [],_,_=>fun p hp=>by cases hp
  | p::r,prev,h=>by
    rw [holeE_cons] at h
    cases hb:badS m p with
    | true=>rw [hb] at h;cases h
    | false =>
      rw [hb] at h
      cases hc:decide (p.1≤prev) with
      | true=>rw [hc] at h;cases h
      | false =>
        rw [hc] at h
        have ih:=holeE_lt (S:=r) h
        unfold badS at hb
        simp only [Bool.or_eq_false_iff,decide_eq_false_iff_not] at hb
        intro q hq
        rcases List.mem_cons.1 hq with rfl | hq
        · omega
        · exact ih q hq
end Go.Tidy
namespace Go.Tidy
open Go Go.Proofs Tab
variable {tp:TProg}
def headE (s:ByteArray) (n:Int) (m:Nat):Int:=firstNZ [cond (!nameB s) 8 0,outB n 0 100000000,cond (decide ((m:Int) > 4096)) 5 0]
def tailE (m:Nat) (S:List (Int × Int)) (L:List Int):Int:=cond (holeE m (-1) S != 0) (holeE m (-1) S) (formE L S)
def runE (s:ByteArray) (n:Int) (m:Nat) (S:List (Int × Int)) (es L:List Int):Int :=
 cond (headE s n m != 0) (headE s n m) (firstNZ [firstNZ es,cond (decide (n+m > 100000000)) 4 0,tailE m S L])
theorem headE_zero {s:ByteArray} {n:Int} {m:Nat} (h:headE s n m=0):nameB s=true∧0≤n∧n≤100000000∧m≤4096:=by
  have hz:=firstNZ_zero h
  have h1:=hz _ (List.mem_cons_self ..)
  have h2:=hz (outB n 0 100000000) (by simp)
  have h3:=hz (cond (decide ((m:Int) > 4096)) 5 0) (by simp)
  refine ⟨?_,?_⟩
  · cases hb:nameB s with
    | true=>rfl
    | false=>rw [hb] at h1;cases h1
  · unfold outB at h2
    by_cases a1:n < 0
    · rw [decide_eq_true a1] at h2;cases h2
    · by_cases a2:n > 100000000
      · rw [decide_eq_true a2,Bool.or_true] at h2;cases h2
      · by_cases a3:(m:Int) > 4096
        · rw [decide_eq_true a3] at h3;cases h3
        · omega
end Go.Tidy
namespace Go.Tidy
open Go Go.Proofs Tab
variable {tp:TProg}
theorem k92 (H:Has tp) {s:ByteArray} {h:TH}:CallW Tryz.prog tp (.func (.func 78) #[] #[]) #[.string s] h fun v h'=>v=.int .i64 (cond (!nameB s) 8 0)∧h'=h:=by
 refine CallW.full (H.fn 78 f92 rfl rfl) rfl ?_
 refine W.seq (W.reg (WO.as rfl (WO.nil ?_)))
 refine W.seq (W.reg (WO.mv rfl (WO.cl1 rfl rfl ((k17 H s h).mono ?_))))
 rintro v2 h2 ⟨rfl,rfl⟩
 refine WO.nt rfl (WO.cl2 rfl rfl rfl ((k32 H _ _ _).mono ?_))
 rintro v2 h3 ⟨rfl,rfl⟩
 exact WO.as rfl (WO.nil (W.ret ⟨.inr rfl,_,rfl,rfl,rfl⟩))
end Go.Tidy
namespace Go.Tidy
open Go Go.Proofs Tab
variable {tp:TProg}
def inS (x:Int) (p:Int × Int):Bool:=decide (x ≥ p.1) && decide (x < p.2)
def knownB (S:List (Int × Int)) (x:Int):Bool:=!S.any (inS x)
end Go.Tidy
namespace Go.Tidy
open Go Go.Proofs Tab
variable {tp:TProg}
theorem anyIn_iff {L:List Int} {p:Int × Int} (h1:0≤p.1) (h2:p.1≤p.2):anyIn L p=true ↔ ∃ (j:Nat) (x:Int),L[j]?=some x∧x≠0∧inS j p=true:=by
 unfold anyIn
 rw [List.any_eq_true]
 constructor
 ·rintro ⟨x,hx,h0⟩
  obtain ⟨k,hk⟩:=List.mem_iff_getElem?.1 hx
  have hlt:k < p.2.toNat - p.1.toNat:=by
   have:=(List.getElem?_eq_some_iff.1 hk).1
   simp at this
   omega
  rw [List.getElem?_take_of_lt hlt,List.getElem?_drop] at hk
  refine ⟨p.1.toNat+k,x,hk,by simpa using h0,?_⟩
  unfold inS
  rw [decide_eq_true (by omega),decide_eq_true (by omega)];rfl
 ·rintro ⟨j,x,hj,h0,hin⟩
  unfold inS at hin
  simp only [Bool.and_eq_true,decide_eq_true_eq] at hin
  refine ⟨x,List.mem_iff_getElem?.2 ⟨j - p.1.toNat,?_⟩,by simpa using h0⟩
  rw [List.getElem?_take_of_lt (by omega),List.getElem?_drop,show p.1.toNat+(j - p.1.toNat)=j by omega]
  exact hj
theorem form_iff {L:List Int} {S:List (Int × Int)} {m:Nat} (hin:In m S):S.any (anyIn L)=true ↔ ∃ (j:Nat) (x:Int),L[j]?=some x∧x≠0∧knownB S j=false:=by
 rw [List.any_eq_true]
 constructor
 ·rintro ⟨p,hp,ha⟩
  obtain ⟨g1,g2,g3⟩:=hin p hp
  obtain ⟨j,x,hj,h0,hk⟩:=(anyIn_iff g1 g2).1 ha
  refine ⟨j,x,hj,h0,?_⟩
  unfold knownB
  rw [List.any_eq_true.2 ⟨p,hp,hk⟩];rfl
 ·rintro ⟨j,x,hj,h0,hk⟩
  unfold knownB at hk
  have hk:S.any (inS j)=true:=by simpa using hk
  obtain ⟨p,hp,hpj⟩:=List.any_eq_true.1 hk
  obtain ⟨g1,g2,g3⟩:=hin p hp
  exact ⟨p,hp,(anyIn_iff g1 g2).2 ⟨j,x,hj,h0,hpj⟩⟩
theorem nz_cases (a:Int):a=0∨(a != 0)=true:=by
 by_cases h:a=0
 ·exact .inl h
 ·exact .inr (by simpa using h)
end Go.Tidy
namespace Go.Tidy
open Go Go.Proofs Tab
variable {tp:TProg}
def knownL (S:List (Int × Int)) (m:Nat):List Bool:=(List.range m).map fun (i:Nat)=>knownB S (i:Int)
theorem knownL_len (S:List (Int × Int)) (m:Nat):(knownL S m).length=m:=by simp [knownL]
end Go.Tidy
namespace Go.Tidy
open Go Go.Proofs Tab
variable {tp:TProg}
def cellsK (L:List Int) (K:List Bool):List (Int × Bool):=List.zipWith (fun l k=>if k=true then (l,true) else (0,false)) L K
end Go.Tidy
namespace Go.Tidy
open Go Go.Proofs Tab
variable {tp:TProg}
def knownV (C:List (Int × Bool)):List Int:=(C.filter (·.2)).map (·.1)
structure Valid (s:ByteArray) (n:Int) (F:List Nat) (S:List (Int × Int)) (L:List Int):Prop where
 lev:Lev F L
 n0:0≤n
 n1:n+F.length≤100000000
 m:F.length≤4096
 hole:holeE F.length (-1) S=0
 form:S.any (anyIn L)=false
theorem valid_of {s:ByteArray} {n:Int} {F:List Nat} {S:List (Int × Int)} {es L:List Int} (hL:firstNZ es=0→Lev F L) (h:runE s n F.length S es L=0):Valid s n F S L:=by
 unfold runE at h
 rcases nz_cases (headE s n F.length) with h1 | h1
 ·rw [h1] at h
  have h:firstNZ [firstNZ es,cond (decide (n+F.length > 100000000)) 4 0,tailE F.length S L]=0:=h
  obtain ⟨_,n0,n1,hm⟩:=headE_zero h1
  have e0:=firstNZ_zero h (firstNZ es) (by simp)
  have e1:=firstNZ_zero h (cond (decide (n+F.length > 100000000)) 4 0) (by simp)
  have e2:=firstNZ_zero h (tailE F.length S L) (by simp)
  have e3:holeE F.length (-1) S=0:=by
   rcases nz_cases (holeE F.length (-1) S) with h2 | h2
   ·exact h2
   ·unfold tailE at e2;rw [h2] at e2;exact e2
  refine ⟨hL e0,n0,?_,hm,e3,?_⟩
  ·by_cases hc:n+F.length > 100000000
   ·rw [decide_eq_true hc] at e1;cases e1
   ·omega
  ·unfold tailE at e2
   rw [e3] at e2
   cases hf:S.any (anyIn L) with
   | false=>rfl
   | true=>unfold formE at e2;rw [hf] at e2;cases e2
 ·rw [h1] at h
  have:headE s n F.length=0:=h
  rw [this] at h1;cases h1
theorem Valid.in_ {s:ByteArray} {n:Int} {F:List Nat} {S:List (Int × Int)} {L:List Int} (v:Valid s n F S L):In F.length S:=holeE_in v.hole
end Go.Tidy
namespace Go.Tidy
open Go Go.Proofs Tab
variable {tp:TProg}
theorem lev_lim {F:List Nat} {L:List Int} (h:Lev F L):∀ x,x ∈ L→x.natAbs≤16384:=fun x hx=>by
 obtain ⟨i,hi⟩:=List.mem_iff_getElem?.1 hx
 have hlt:=(List.getElem?_eq_some_iff.1 hi).1
 have:i < F.length:=by rw [h.1];exact hlt
 exact (h.2 i _ x (List.getElem?_eq_getElem this) hi).lim
theorem clr_lim {C:List (Int × Bool)} {p:Int × Int} (h:∀ c,c ∈ C→c.1.natAbs≤16384):∀ c,c ∈ clrL C p→c.1.natAbs≤16384:=fun c hc=>by
 unfold clrL at hc
 rcases List.mem_append.1 hc with hc | hc
 ·exact h c (List.mem_of_mem_take hc)
 ·rcases List.mem_append.1 hc with hc | hc
  ·rw [(List.mem_replicate.1 hc).2];decide
  ·exact h c (List.mem_of_mem_drop hc)
theorem foldl_lim:∀ (S:List (Int × Int)) (C:List (Int × Bool)),(∀ c,c ∈ C→c.1.natAbs≤16384)→∀ c,c ∈ S.foldl clrL C→c.1.natAbs≤16384
 | [],_,h=>h
 | p::S,C,h=>foldl_lim S (clrL C p) (clr_lim h)
theorem cells_lim {F:List Nat} {L:List Int} (h:Lev F L) (S:List (Int × Int)):∀ c,c ∈ cellsL L S→c.1.natAbs≤16384 :=
 foldl_lim S _ fun c hc=>by
  obtain ⟨x,hx,rfl⟩:=List.mem_map.1 hc
  exact lev_lim h x hx
theorem cells_len {F:List Nat} {L:List Int} {S:List (Int × Int)} (h:Lev F L) (hin:In F.length S):(cellsL L S).length=F.length:=foldl_len S _ (by simp [all1,h.1]) hin
def sumL:List Int→Int
 | []=>0
 | x::l=>x+sumL l
end Go.Tidy
namespace Go.Tidy
open Go Go.Proofs Tab
variable {tp:TProg}
theorem clr_get {C:List (Int × Bool)} {p:Int × Int} (h1:0≤p.1) (h2:p.1≤p.2) (h3:p.2≤C.length) {i:Nat} (hi:i < C.length):(clrL C p)[i]?=if inS i p=true then some (0,false) else C[i]?:=by
 unfold clrL inS
 by_cases a1:i < p.1.toNat
 ·rw [List.getElem?_append_left (by simp;omega),List.getElem?_take_of_lt a1,if_neg (by simp;omega)]
 ·have e1:(C.take p.1.toNat).length=p.1.toNat:=by simp;omega
  rw [List.getElem?_append_right (by omega),e1]
  by_cases a2:i < p.2.toNat
  ·rw [List.getElem?_append_left (by simp;omega),List.getElem?_replicate,if_pos (by omega),if_pos (by simp;omega)]
  ·rw [List.getElem?_append_right (by simp;omega),List.getElem?_drop,if_neg (by simp;omega),List.length_replicate]
   congr 1
   omega
theorem foldl_get {m:Nat}:∀ (S:List (Int × Int)) (C:List (Int × Bool)),C.length=m→In m S→∀ i:Nat,i < m→(S.foldl clrL C)[i]?=if knownB S i=true then C[i]? else some (0,false)
 | [],C,hC,_,i,hi=>by simp [knownB]
 | p::S,C,hC,hin,i,hi=>by
  obtain ⟨h1,h2,h3⟩:=hin p (by simp)
  have hl:=clrL_len h1 h2 (show p.2≤C.length by omega)
  rw [List.foldl_cons,foldl_get S (clrL C p) (by rw [hl];exact hC) (fun q hq=>hin q (by simp [hq])) i hi,clr_get h1 h2 (by omega) (by omega)]
  unfold knownB
  rw [List.any_cons]
  cases inS i p <;> cases S.any (inS i) <;> simp
theorem cells_eq {F:List Nat} {L:List Int} {S:List (Int × Int)} (hL:Lev F L) (hin:In F.length S):cellsL L S=cellsK L (knownL S F.length):=by
 apply List.ext_getElem?
 intro i
 by_cases hi:i < F.length
 ·have hiL:i < L.length:=by rw [← hL.1];exact hi
  unfold cellsL
  rw [foldl_get S _ (by simp [all1,hL.1]) hin i hi]
  unfold cellsK knownL all1
  rw [List.getElem?_zipWith,List.getElem?_map,List.getElem?_map,List.getElem?_range hi,List.getElem?_eq_getElem hiL]
  cases hk:knownB S i <;> simp [hk]
 ·rw [List.getElem?_eq_none (by rw [cells_len hL hin];omega),List.getElem?_eq_none (by have:=hL.1;simp [cellsK,knownL];omega)]
def Dark (L:List Int) (K:List Bool):Prop:=L.length=K.length∧∀ (i:Nat) (x:Int),L[i]?=some x→K[i]?=some false→x=0
theorem Valid.dark {s:ByteArray} {n:Int} {F:List Nat} {S:List (Int × Int)} {L:List Int} (v:Valid s n F S L):Dark L (knownL S F.length):=by
 refine ⟨by rw [knownL_len,v.lev.1],fun i x hx hk=>?_⟩
 have hi:i < F.length:=by rw [v.lev.1];exact (List.getElem?_eq_some_iff.1 hx).1
 unfold knownL at hk
 rw [List.getElem?_map,List.getElem?_range hi] at hk
 have hk:knownB S i=false:=by simpa using hk
 by_cases h0:x=0
 ·exact h0
 ·have:=(form_iff v.in_).2 ⟨i,x,hx,h0,hk⟩
  rw [v.form] at this;cases this
theorem Dark.tail {l:Int} {k:Bool} {L:List Int} {K:List Bool} (d:Dark (l::L) (k::K)):Dark L K∧(k=false→l=0) :=
 ⟨⟨by have:=d.1;simpa using this,fun i x h1 h2=>d.2 (i+1) x (by simpa using h1) (by simpa using h2)⟩,fun hk=>d.2 0 l rfl (by rw [hk];rfl)⟩
theorem cellsK_cons (l:Int) (k:Bool) (L:List Int) (K:List Bool):cellsK (l::L) (k::K)=(if k=true then (l,true) else (0,false))::cellsK L K:=rfl
theorem dark_sum:∀ {L:List Int} {K:List Bool},Dark L K→sumL (knownV (cellsK L K))=sumL L
  | [],K,d=>by
    have:K=[]:=List.eq_nil_of_length_eq_zero d.1.symm
    subst this;rfl
  | l::L,[],d=>by have:=d.1;simp at this
  | l::L,k::K,d=>by
    obtain ⟨d1,d2⟩:=d.tail
    have ih:=dark_sum d1
    rw [cellsK_cons]
    cases k with
    | true=>simp only [knownV,List.filter_cons,List.map_cons,sumL,if_true] at ih ⊢;rw [ih]
    | false =>
      rw [d2 rfl]
      simp only [knownV,List.filter_cons,List.map_cons,sumL] at ih ⊢
      simpa using ih
end Go.Tidy
namespace Go.Tidy
open Go Go.Proofs Tab
variable {tp:TProg}
theorem tp24:Tp Tryz.prog 30 2 [.int .i64 0,.int .i64 0] true:=tp_of (by kernel_rfl) (by kernel_rfl) rfl
theorem bd24 {n m:Int}:buildT Tryz.prog 30 [(0,.int .i64 n),(1,.int .i64 m)]=some (.agg #[.int .i64 n,.int .i64 m]):=by kernel_rfl
theorem bd24z:buildT Tryz.prog 30 []=some (.agg #[.int .i64 0,.int .i64 0]):=by kernel_rfl
theorem WO.quoI {P:Program} {a:Regs} {h:TH} {K:Regs→TH→Prop} {rest:List TOper} {d:Option Tmp} {ty:TypeId} {i:Nat} {x y:Operand} {t u:TypeId} {m n:Int} (hx:getO a x=some (.int .i64 m)) (hy:getO a y=some (.int .i64 n)) (hn:n≠0)
  (w:WO P tp rest (a.put d (.int .i64 (fwrap .i64 (m.tdiv n)))) h K):WO P tp (⟨d,.binOp .quo t x y u,ty,none,[],i⟩::rest) a h K:=by
 refine WO.bi hx hy ?_ w
 have hk:Nat.beq (kindNo .i64) (kindNo .i64)=true:=Nat.beq_refl _
 have hb:(n == 0)=false:=by simpa using hn
 simp only [fastBin,hk,fastInt,hb,Bool.cond_true,Bool.cond_false]
end Go.Tidy
namespace Go.Tidy
open Go Go.Proofs Tab
variable {tp:TProg}
def Swapped {α:Type} (C D:List α) (i:Nat):Prop:=D.length=C.length∧∀ x,x < C.length→D[x]?=if x < i∨C.length≤x+i then C[C.length - 1 - x]? else C[x]?
theorem Swapped.zero {α:Type} (C:List α):Swapped C C 0:=⟨rfl,fun x hx=>by rw [if_neg (by omega)]⟩
theorem Swapped.step {α:Type} {C D:List α} {i:Nat} (s:Swapped C D i) (hi:i+i+1 < C.length) {x y:α} (hx:D[i]?=some x) (hy:D[C.length - 1 - i]?=some y):Swapped C ((D.set i y).set (C.length - 1 - i) x) (i+1):=by
 have e1:=s.2 i (by omega)
 have e2:=s.2 (C.length - 1 - i) (by omega)
 rw [if_neg (by omega),hx] at e1
 rw [if_neg (by omega),hy] at e2
 refine ⟨by rw [List.length_set,List.length_set,s.1],fun z hz=>?_⟩
 by_cases h1:z=C.length - 1 - i
 ·subst h1
  rw [List.getElem?_set_self (by rw [List.length_set,s.1];exact hz),if_pos (by omega),show C.length - 1 - (C.length - 1 - i)=i by omega]
  exact e1
 ·rw [List.getElem?_set_ne (by omega)]
  by_cases h2:z=i
  ·subst h2
   rw [List.getElem?_set_self (by rw [s.1];exact hz),if_pos (by omega)]
   exact e2
  ·rw [List.getElem?_set_ne (by omega),s.2 z hz]
   by_cases h3:z < i∨C.length≤z+i
   ·rw [if_pos h3,if_pos (by omega)]
   ·rw [if_neg h3,if_neg (by omega)]
theorem Swapped.done {α:Type} {C D:List α} {i:Nat} (s:Swapped C D i) (hi:C.length≤i+i+1):D=C.reverse:=by
 apply List.ext_getElem?
 intro x
 by_cases hx:x < C.length
 ·rw [s.2 x hx,List.getElem?_reverse hx]
  by_cases h:x < i∨C.length≤x+i
  ·rw [if_pos h]
  ·rw [if_neg h];congr 1;omega
 ·rw [List.getElem?_eq_none (by rw [s.1];omega),List.getElem?_eq_none (by simp;omega)]
end Go.Tidy
namespace Go.Tidy
open Go Go.Proofs Tab
variable {tp:TProg}
def run0:Value:=runV ⟨#[]⟩ 0 (.slice none 0 0) (.slice none 0 0)
def RunR (h h':TH) (v:Value) (s:ByteArray) (n:Int) (C:List (Int × Bool)) (e:Int):Prop :=
 HX h h'∧((e≠0∧v=.tuple #[run0,.int .i64 e])∨(e=0∧∃ w1 w2,v=.tuple #[runV s n w1 w2,.int .i64 0]∧RunO h.next h' w1 w2 (C.map fun c=>smp c.1) (holesOf (C.map fun c=>c.2))))
end Go.Tidy
namespace Go.Tidy
open Go Go.Proofs Tab
variable {tp:TProg}
theorem cellsK_snd:∀ {L:List Int} {K:List Bool},K.length=L.length→(cellsK L K).map (fun c=>c.2)=K
 | [],[],_=>rfl
 | [],_::_,h=>by simp at h
 | _::_,[],h=>by simp at h
 | l::L,k::K,h=>by
  rw [cellsK_cons,List.map_cons,cellsK_snd (by simpa using h)]
  cases k <;> rfl
theorem OwnL.some {α:Type} {enc:α→List Value} {n0:Nat} {h:TH} {v:Value} {e:TypeId} {l:List α} (o:OwnL enc n0 h v e l) (hl:0 < l.length):∃ b,v=.slice (Option.some ⟨b,0,none⟩) l.length l.length∧n0≤b∧At h b (.cells (cat enc l) false true e):=by
 rcases o with ⟨_,rfl⟩ | ⟨_,h⟩
 ·simp at hl
 ·exact h
end Go.Tidy
namespace Go.Tidy
open Go Go.Proofs Tab
variable {tp:TProg}
section rules
variable {P:Program} {tp:TProg} {h:TH} {K:Regs→TH→Prop} {rest:List TOper} {d:Option Tmp} {ty:TypeId} {i:Nat} {x y:Operand} {t u:TypeId} {L:Rg}
theorem WOL.add {m n:Int} (hx:getL L x=some (.int .i64 m)) (hy:getL L y=some (.int .i64 n)) (h1:-9223372036854775808≤m+n) (h2:m+n≤9223372036854775807) (w:∀ a,Kn (putL L d (.int .i64 (m+n))) a→WO P tp rest a h K):∀ a,Kn L a→WO P tp (⟨d,.binOp .add t x y u,ty,none,[],i⟩::rest) a h K :=
 WOL.bi hx hy (by show some (Value.int .i64 (fwrap .i64 (m+n)))=_;rw [fwrap_i64 h1 h2]) w
theorem WOL.sub {m n:Int} (hx:getL L x=some (.int .i64 m)) (hy:getL L y=some (.int .i64 n)) (h1:-9223372036854775808≤m - n) (h2:m - n≤9223372036854775807) (w:∀ a,Kn (putL L d (.int .i64 (m - n))) a→WO P tp rest a h K):∀ a,Kn L a→WO P tp (⟨d,.binOp .sub t x y u,ty,none,[],i⟩::rest) a h K :=
 WOL.bi hx hy (by show some (Value.int .i64 (fwrap .i64 (m - n)))=_;rw [fwrap_i64 h1 h2]) w
theorem WOL.mul {m n:Int} (hx:getL L x=some (.int .i64 m)) (hy:getL L y=some (.int .i64 n)) (h1:-9223372036854775808≤m*n) (h2:m*n≤9223372036854775807) (w:∀ a,Kn (putL L d (.int .i64 (m*n))) a→WO P tp rest a h K):∀ a,Kn L a→WO P tp (⟨d,.binOp .mul t x y u,ty,none,[],i⟩::rest) a h K :=
 WOL.bi hx hy (by show some (Value.int .i64 (fwrap .i64 (m*n)))=_;rw [fwrap_i64 h1 h2]) w
theorem WOL.quo {m n:Int} (hx:getL L x=some (.int .i64 m)) (hy:getL L y=some (.int .i64 n)) (hm:0≤m) (hn:0 < n) (h2:m≤9223372036854775807) (w:∀ a,Kn (putL L d (.int .i64 (m / n))) a→WO P tp rest a h K):∀ a,Kn L a→WO P tp (⟨d,.binOp .quo t x y u,ty,none,[],i⟩::rest) a h K:=fun a k=>by
 refine WO.quoI (k.o hx) (k.o hy) (by omega) ?_
 have h3:m / n≤m:=Int.ediv_le_self n hm
 have h4:0≤m / n:=Int.ediv_nonneg hm (by omega)
 rw [Int.tdiv_eq_ediv_of_nonneg hm,fwrap_i64 (by omega) (by omega)]
 exact w _ (k.put d _)
theorem WOL.neg {m:Int} (hx:getL L x=some (.int .i64 m)) (h1:-9223372036854775808≤-m) (h2:-m≤9223372036854775807) (w:∀ a,Kn (putL L d (.int .i64 (-m))) a→WO P tp rest a h K):∀ a,Kn L a→WO P tp (⟨d,.unOp .neg t x,ty,none,[],i⟩::rest) a h K:=fun a k=>by
 refine WO.neg (k.o hx) ?_
 rw [show IntKind.i64.wrap (-m)=-m from IntWalk.i64_in _ (by omega)]
 exact w _ (k.put d _)
end rules
end Go.Tidy
namespace Go.Tidy
open Go Go.Proofs Tab
theorem lev_smp {C:List (Int × Bool)} (h:∀ c,c ∈ C→c.1.natAbs≤16384):Lev (C.map fun c=>smp c.1) (C.map fun c=>c.1):=by
 refine ⟨by simp,fun i b n hb hn=>?_⟩
 rw [List.getElem?_map] at hb hn
 cases hc:C[i]? with
 | none=>rw [hc] at hb;simp at hb
 | some c =>
  rw [hc] at hb hn
  simp only [Option.map_some,Option.some.injEq] at hb hn
  subst hb;subst hn
  exact (smp_ok (h c (List.mem_of_getElem? hc))).2.2
section
variable {s:ByteArray} {n:Int} {F:List Nat} {S:List (Int × Int)} {L:List Int}
theorem Valid.cells (V:Valid s n F S L):cellsL L S=cellsK L (knownL S F.length):=cells_eq V.lev V.in_
theorem Valid.lim (V:Valid s n F S L):∀ c,c ∈ cellsL L S→c.1.natAbs≤16384:=cells_lim V.lev S
theorem Valid.kl (V:Valid s n F S L):(knownL S F.length).length=L.length:=by rw [knownL_len,V.lev.1]
theorem Valid.sum (V:Valid s n F S L):sumL (knownV (cellsL L S))=sumL L:=by rw [V.cells,dark_sum V.dark]
theorem Valid.at_ (V:Valid s n F S L) {i b:Nat} (hb:F[i]?=some b):∃ x,L[i]?=some x∧Samp b x∧(cellsL L S)[i]?=some (x,knownB S i):=by
 obtain ⟨x,hx,sx⟩:=V.lev.get hb
 have hi:i < F.length:=(List.getElem?_eq_some_iff.1 hb).1
 have hk:(knownL S F.length)[i]?=some (knownB S (i:Int)):=by
  unfold knownL
  rw [List.getElem?_map,List.getElem?_range hi];rfl
 refine ⟨x,hx,sx,?_⟩
 rw [V.cells]
 unfold cellsK
 rw [List.getElem?_zipWith,hx,hk]
 cases hq:knownB S (i:Int)
 ·have:=V.dark.2 i x hx (by rw [hk,hq])
  subst this
  rfl
 ·rfl
end
end Go.Tidy
namespace Go.Tidy
open Go Go.Proofs Tab
section
variable {P:Program}
theorem pv_isAggI {t:TypeId} {k:IntKind} (hu:P.underlying t=some (.int k)):pv P (isAgg t)=some false:=by
 unfold isAgg
 rw [pv_bind,pv_underlying hu]
 rfl
theorem pv_part0 {t:TypeId} {k:IntKind} {v w:Value} (hu:P.underlying t=some (.int k)):pv P (Go.part t #[v,w] 0)=some v:=by
 unfold Go.part
 rw [pv_bind,pv_isAggI hu]
 rfl
theorem pv_part1 {t:TypeId} {k:IntKind} {v w:Value} (hu:P.underlying t=some (.int k)):pv P (Go.part t #[v,w] 1)=some w:=by
 unfold Go.part
 rw [pv_bind,pv_isAggI hu]
 rfl
end
structure Rat2 (P:Program) (t:TypeId):Prop where
  u : ∃ f1 f2 : Field, P.underlying t = some (.struct #[f1, f2]) ∧ f1.offset = 0 ∧ f2.offset = 1 ∧ f1.name ≠ "_" ∧ f2.name ≠ "_" ∧ P.underlying f1.type = some (.int .i64) ∧ P.underlying f2.type = some (.int .i64)
  s:P.stoodInHeld t=false
  g:P.eqGuardType P.depth t=false
section rules
variable {P:Program} {tp:TProg} {a:Regs} {h:TH} {K:Regs→TH→Prop} {rest:List TOper} {d:Option Tmp} {ty:TypeId} {i:Nat} {x y:Operand} {t u:TypeId}
theorem eqT_aggs {b c:Array Value}:eqT P t (.agg b) (.agg c)=none:=by
 unfold eqT ptrEq nilEq
 cases P.underlying t with
 | none=>rfl
 | some d=>cases d <;> rfl
end rules
end Go.Tidy
namespace Go.Tidy
open Go Go.Proofs Tab
variable {tp:TProg}
abbrev ptr (c:Nat):Value:=.pointer (some ⟨c,0,none⟩)
abbrev zi (z:Int):Value:=.int .i64 z
end Go.Tidy
namespace Go.Tidy
open Go Go.Proofs Tab
variable {tp:TProg}
def RX (n0:Nat) (h:TH) (sx:ByteArray) (nx:Int) (x1 x2:Value) (s:ByteArray) (n:Int) (C:List (Int × Bool)) (e:Int):Prop :=
 (e≠0∧sx=⟨#[]⟩∧nx=0∧x1=.slice none 0 0∧x2=.slice none 0 0)∨(e=0∧sx=s∧nx=n∧RunO n0 h x1 x2 (C.map fun c=>smp c.1) (holesOf (C.map fun c=>c.2)))
theorem RunO.relock' {n0:Nat} {h:TH} {v1 v2:Value} {F:List Nat} {S:List (Int × Int)} (r:RunO n0 h v1 v2 F S) (L:List Nat):RunO n0 (h.withLock L) v1 v2 F S:=⟨⟨r.r.f.relock L,r.r.s.relock L,r.r.g.relock L⟩,r.o1,r.o2⟩
theorem RunH.relock' {h:TH} {v1 v2:Value} {F:List Nat} {S:List (Int × Int)} (r:RunH h v1 v2 F S) (L:List Nat):RunH (h.withLock L) v1 v2 F S:=⟨r.f.relock L,r.s.relock L,r.g.relock L⟩
section
variable {n0 c:Nat} {h h':TH} {sx:ByteArray} {nx:Int} {x1 x2:Value} {s:ByteArray} {n:Int} {C:List (Int × Bool)} {e:Int}
theorem RX.hx (r:RX n0 h sx nx x1 x2 s n C e) (x:HX h h'):RX n0 h' sx nx x1 x2 s n C e:=by
 rcases r with r | ⟨a,b,d,r⟩
 ·exact .inl r
 ·exact .inr ⟨a,b,d,r.hx x⟩
theorem RX.up {m:Nat} (r:RX n0 h sx nx x1 x2 s n C e) (hm:m≤n0):RX m h sx nx x1 x2 s n C e:=by
 rcases r with r | ⟨a,b,d,r⟩
 ·exact .inl r
 ·exact .inr ⟨a,b,d,r.le hm⟩
theorem RX.relock (r:RX n0 h sx nx x1 x2 s n C e) (L:List Nat):RX n0 (h.withLock L) sx nx x1 x2 s n C e:=by
 rcases r with r | ⟨a,b,d,r⟩
 ·exact .inl r
 ·exact .inr ⟨a,b,d,r.relock' L⟩
end
end Go.Tidy
namespace Go.Tidy
open Go Go.Proofs Tab
variable {tp:TProg}
theorem Free0.on {h h':TH} (f:Free0 h.next h) (x:HX h h'):Free0 h'.next h':=f.next x x.next
end Go.Tidy
namespace Go.Tidy
open Go Go.Proofs Tab
variable {tp:TProg}
theorem cellsK_get {L:List Int} {K:List Bool} {i:Nat} {x:Int} {p:Bool} (hx:L[i]?=some x) (hp:K[i]?=some p):(cellsK L K)[i]?=some (if p=true then (x,true) else (0,false)):=by
 unfold cellsK;rw [List.getElem?_zipWith,hx,hp]
theorem cellsK_ln {L:List Int} {K:List Bool} (h:K.length=L.length):(cellsK L K).length=L.length:=by simp [cellsK,h]
end Go.Tidy
namespace Go.Tidy
open Go Go.Proofs Tab
variable {tp:TProg}
section
variable {P:Program} {α:Type} {enc:α→List Value} {n n0:Nat} {h:TH} {v:Value} {e:TypeId} {l:List α} {z:List Value} {row:Bool}
theorem slC_keep {h h':TH} {v:Value} {sz m:Nat} {c:List Value} (s:SlC h v sz m c) (k:∀ b y,bl v=some b→At h b y→At h' b y):SlC h' v sz m c:=by
 obtain ⟨bo,cap,rfl,h2,h3,h4⟩:=s
 exact ⟨bo,cap,rfl,h2,h3,h4.imp id fun ⟨b,off,cc,fix,wr,el,q1,q2,q3,q4⟩=>by subst q1;exact ⟨b,off,cc,fix,wr,el,rfl,k b _ rfl q2,q3,q4⟩⟩
theorem HX.locked {h h':TH} (x:HX h h') (M:List Nat):HX (h.withLock M) (h'.withLock M):=⟨x.next,x.floor,rfl,x.old⟩
end
end Go.Tidy
namespace Go.Tidy
open Go Go.Proofs Tab
variable {tp:TProg}
section
variable {α:Type} {k:Nat} {l:List α}
end
theorem WO.remI {P:Program} {tp:TProg} {a:Regs} {h:TH} {K:Regs→TH→Prop} {rest:List TOper} {d:Option Tmp} {ty:TypeId} {i:Nat} {x y:Operand} {t u:TypeId} {m n:Int} (hx:getO a x=some (.int .i64 m)) (hy:getO a y=some (.int .i64 n)) (hn:n≠0)
  (w:WO P tp rest (a.put d (.int .i64 (m.tmod n))) h K):WO P tp (⟨d,.binOp .rem t x y u,ty,none,[],i⟩::rest) a h K:=by
 refine WO.bi hx hy ?_ w
 have hk:Nat.beq (kindNo .i64) (kindNo .i64)=true:=Nat.beq_refl _
 have hb:(n == 0)=false:=by simpa using hn
 simp only [fastBin,hk,fastInt,hb,Bool.cond_true,Bool.cond_false]
theorem WOL.rem {P:Program} {tp:TProg} {h:TH} {K:Regs→TH→Prop} {rest:List TOper} {d:Option Tmp} {ty:TypeId} {i:Nat} {x y:Operand} {t u:TypeId} {L:Rg} {m n:Int} (hx:getL L x=some (.int .i64 m)) (hy:getL L y=some (.int .i64 n)) (hm:0≤m) (hn:0 < n) (w:∀ a,Kn (putL L d (.int .i64 (m % n))) a→WO P tp rest a h K):∀ a,Kn L a→WO P tp (⟨d,.binOp .rem t x y u,ty,none,[],i⟩::rest) a h K:=fun a k=>by
 refine WO.remI (k.o hx) (k.o hy) (by omega) ?_
 rw [Int.tmod_eq_emod_of_nonneg hm]
 exact w _ (k.put d _)
end Go.Tidy
namespace Go.Tidy
open Go Go.Proofs Tab
variable {tp:TProg}
section
variable {P:Program} {h:TH} {v:Value} {t e:TypeId} {n:Nat} {z:List Value} {row:Bool} {K:Regs→TH→Prop} {rest:List TOper} {d:Option Tmp} {ty:TypeId} {i:Nat} {x y lo hi:Operand} {L:Rg}
theorem WOL.sl {q:Addr} {m cap:Nat} {vlo vhi:Value} (hx:getL L x=some (.slice (some q) m cap)) (hl:getL L lo=some vlo) (hh:getL L hi=some vhi) (hv:sliceT P t (.slice (some q) m cap) (some vlo) (some vhi) none h=some v) (w:∀ a,Kn (putL L d v) a→WO P tp rest a h K):∀ a,Kn L a→WO P tp (⟨d,.slice t x (some lo) (some hi) none,ty,none,[],i⟩::rest) a h K :=
 fun a k=>WO.sl (k.o hx) (k.o hl) (k.o hh) hv (k.nx w)
end
def setN {α:Type} (l:List α) (p:Nat) (g:Nat→α):Nat→List α
 | 0=>l
 | i+1=>(setN l p g i).set (p+i) (g i)
section
variable {α:Type} {l:List α} {p:Nat} {g:Nat→α}
end
theorem Free0.of {n:Nat} {hb h h':TH} (f:Free0 n h) (x:HX hb h) (y:HX hb h'):Free0 n h':=⟨by rw [y.floor,← x.floor];exact f.floor,by rw [y.lock,← x.lock];exact f.lock⟩
end Go.Tidy
namespace Go.Tidy
open Go Go.Proofs Tab
variable {tp:TProg}
theorem Valid.cell {s:ByteArray} {n:Int} {F:List Nat} {S:List (Int × Int)} {L:List Int} (V:Valid s n F S L) {i:Nat} (hi:i < F.length):∃ k,(cellsL L S)[i]?=some (L.getD i 0,k):=by
 have kl:=V.kl
 have ll:=V.lev.1
 have hx:L[i]?=some L[i]:=List.getElem?_eq_getElem (by omega)
 have hp:(knownL S F.length)[i]?=some (knownL S F.length)[i]:=List.getElem?_eq_getElem (by omega)
 have hd:=V.dark.2 i _ hx
 have hg:L.getD i 0=L[i]:=by rw [List.getD_eq_getElem?_getD,hx];rfl
 rw [V.cells,cellsK_get hx hp,hg]
 generalize (knownL S F.length)[i]=k at *
 cases k with
 | true=>exact ⟨true,rfl⟩
 | false=>exact ⟨false,by rw [hd hp];rfl⟩
end Go.Tidy
namespace Go.Tidy
open Go Go.Proofs Tab
variable {tp:TProg}
theorem holeE_after {m:Nat}:∀ {S:List (Int × Int)} {prev:Int},holeE m prev S=0→∀ p,p ∈ S→prev < p.1
  | [],_,_=>fun p hp=>by cases hp
  | x::r,prev,h=>by
    have hlt:=holeE_lt h x (List.mem_cons_self ..)
    rw [holeE_cons] at h
    cases hb:badS m x with
    | true=>rw [hb] at h;cases h
    | false =>
      rw [hb] at h
      by_cases hc:x.1≤prev
      · rw [decide_eq_true hc] at h;cases h
      · rw [decide_eq_false hc] at h
        intro p hp
        rcases List.mem_cons.1 hp with rfl | hp
        · omega
        · have:=holeE_after (S:=r) (prev:=x.2) h p hp
          omega
end Go.Tidy
namespace Go.Tidy
open Go Go.Proofs Tab
theorem Samp.e0 {b:Nat} {n:Int} (s:Samp b n):SampleE b 0:=by
 obtain ⟨neg,q,h,h2,_⟩:=s.ok
 obtain ⟨m,k,hr,hq,hk⟩:=h
 obtain ⟨D,hD⟩:∃ D:Nat,2 ^ 149=D:=⟨_,rfl⟩
 have hDp:0 < D:=by rw [← hD];exact two_pow_pos 149
 have e1:=h2 D hD
 have hl:=s.lim
 have hU:m*2 ^ (k+4)=n.natAbs*D:=by rw [Nat.pow_add,← Nat.mul_assoc,← e1,hq]
 have ok:okU (m*2 ^ (k+4))=true:=by
  rw [okU_eq hD]
  unfold okD
  rw [hU,decide_eq_true (Nat.mul_le_mul_right D hl),Nat.mul_div_cancel _ hDp]
  simp
 rcases single_cases b with h | ⟨s',h⟩ | ⟨neg',m',k',N⟩
 ·rw [s.nan] at h;cases h
 ·rw [hr] at h;cases h
 ·have e:=hr.symm.trans N.read
  injection e with e1 e2 e3
  obtain rfl:k=k':=by omega
  subst e2
  have:=SampleE.num neg' m k N
  rw [ok] at this
  exact this
theorem serr_zero {F:List Nat} {L:List Int} (h:Lev F L):∃ es,SErr F es∧firstNZ es=0:=by
 refine ⟨List.replicate F.length 0,⟨by simp,fun i b e hb he=>?_⟩,?_⟩
 ·have hi:i < F.length:=(List.getElem?_eq_some_iff.1 hb).1
  have hiL:i < L.length:=by rw [← h.1];exact hi
  have hx:L[i]?=some L[i]:=List.getElem?_eq_getElem hiL
  rw [List.getElem?_replicate,if_pos hi] at he
  cases he
  exact (h.2 i b _ hb hx).e0
 ·have:∀ k,firstNZ (List.replicate k 0)=0:=by
   intro k
   induction k with
   | zero=>rfl
   | succ k ih=>rw [List.replicate_succ];show cond ((0:Int) != 0) 0 _=0;exact ih
  exact this _
def endOf (prev:Int):List (Int × Int)→Int
 | []=>prev
 | p::r=>endOf p.2 r
theorem endOf_le {i:Int}:∀ (S:List (Int × Int)) (prev:Int),prev≤i→(∀ p,p ∈ S→p.2≤i)→endOf prev S≤i
 | [],_,h,_=>h
 | x::r,prev,_,h=>endOf_le r x.2 (h x (List.mem_cons_self ..)) fun p hp=>h p (List.mem_cons_of_mem _ hp)
theorem holeE_snoc {m:Nat} (p:Int × Int):∀ (S:List (Int × Int)) (prev:Int),holeE m prev (S ++ [p])=0 ↔ holeE m prev S=0∧badS m p=false∧endOf prev S < p.1
  | [], prev => by
    show holeE m prev [p]=0 ↔ _
    rw [holeE_cons]
    cases hb:badS m p with
    | true=>simp
    | false =>
      by_cases hc:p.1≤prev
      · rw [decide_eq_true hc]
        simp only [Bool.cond_false,Bool.cond_true,endOf]
        constructor
        · intro h;cases h
        · rintro ⟨_,_,h⟩;omega
      · rw [decide_eq_false hc]
        simp only [Bool.cond_false,endOf]
        exact ⟨fun _=>⟨by trivial,by trivial,by omega⟩,fun _=>by trivial⟩
  | x::r,prev=>by
    show holeE m prev (x::(r ++ [p]))=0 ↔ _
    rw [holeE_cons,holeE_cons]
    cases hb:badS m x with
    | true=>simp
    | false =>
      by_cases hc:x.1≤prev
      · rw [decide_eq_true hc];simp
      · rw [decide_eq_false hc]
        exact holeE_snoc p r x.2
theorem badS_no {m:Nat} {p:Int × Int}:badS m p=false ↔ 0≤p.1∧p.1 < p.2∧p.2≤m:=by
 unfold badS
 simp only [Bool.or_eq_false_iff,decide_eq_false_iff_not]
 omega
structure HoleI (B:List Bool) (i:Nat) (S:List (Int × Int)):Prop where
 h0:holeE B.length (-1) S=0
 hi:∀ p,p ∈ S→p.2≤(i:Int)
 hk:∀ x:Nat,x < i→S.any (inS x)=!B.getD x false
 ho:0 < i∧B.getD (i - 1) false=false→∃ T a,S=T ++ [((a:Int),(i:Int))]
 hc:¬ (0 < i∧B.getD (i - 1) false=false)→endOf (-1) S < (i:Int)
theorem inS_past {S:List (Int × Int)} {i:Nat} (h:∀ p,p ∈ S→p.2≤(i:Int)):S.any (inS i)=false:=by
 rw [List.any_eq_false]
 intro p hp
 have:=h p hp
 unfold inS
 rw [decide_eq_false (by omega:¬ (i:Int) < p.2),Bool.and_false]
 decide
theorem holeI (B:List Bool):∀ i,i≤B.length→HoleI B i (holesN B i)
  | 0,_=>⟨rfl,fun p hp=>(by cases hp),fun x hx=>by omega,fun h=>by omega,fun _=>(by show (-1:Int) < 0;decide)⟩
  | i + 1, hle => by
    obtain ⟨h0,hi,hk,ho,hc⟩:=holeI B i (by omega)
    show HoleI B (i+1) (hstep B (holesN B i) i)
    generalize holesN B i=S at *
    have sub1:i+1 - 1=i:=by omega
    unfold hstep
    by_cases hb:B.getD i false=true
    · rw [if_pos hb]
      refine ⟨h0,fun p hp=>by have:=hi p hp;omega,fun x hx=>?_,fun h=>?_,fun _=>?_⟩
      · by_cases hxi:x < i
        · exact hk x hxi
        · obtain rfl:x=i:=by omega
          rw [inS_past hi,hb];rfl
      · rw [sub1,hb] at h;cases h.2
      · have:=endOf_le S (-1) (show (-1:Int)≤(i:Int) by omega) hi
        omega
    · have hb':B.getD i false=false:=by simpa using hb
      rw [if_neg hb]
      by_cases hp:0 < i∧B.getD (i - 1) false=false
      · rw [if_pos hp]
        obtain ⟨T,a,rfl⟩:=ho hp
        obtain ⟨t0,t1,t2⟩:=(holeE_snoc _ T (-1)).1 h0
        have t1':=badS_no.1 t1
        have hS:(T ++ [(a,(i:Int))]).set ((T ++ [(a,(i:Int))]).length - 1) (((T ++ [(a,(i:Int))]).getD ((T ++ [(a,(i:Int))]).length - 1) (0,0)).1,(i:Int)+1)=T ++ [(a,((i+1:Nat):Int))]:=by
          simp
        rw [hS]
        refine ⟨(holeE_snoc _ T (-1)).2 ⟨t0,badS_no.2 ⟨t1'.1,?_,?_⟩,t2⟩,fun p hp=>?_,fun x hx=>?_,fun _=>⟨T,a,rfl⟩,fun h=>?_⟩
        · have:a < (i:Int):=t1'.2.1
          show a < ((i+1:Nat):Int)
          omega
        · show ((i+1:Nat):Int)≤_
          omega
        · rcases List.mem_append.1 hp with hp | hp
          · have:=hi p (List.mem_append_left _ hp);omega
          · simp at hp;subst hp;exact Int.le_refl _
        · have ha:a < (i:Int):=t1'.2.1
          by_cases hxi:x < i
          · rw [← hk x hxi,List.any_append,List.any_append]
            congr 1
            simp only [List.any_cons,List.any_nil,Bool.or_false,inS]
            congr 1
            rw [decide_eq_true (by omega:(x:Int) < ((i+1:Nat):Int)),decide_eq_true (by omega:(x:Int) < (i:Int))]
          · obtain rfl:x=i:=by omega
            rw [hb',List.any_append]
            simp only [List.any_cons,List.any_nil,Bool.or_false,inS]
            rw [decide_eq_true (by omega:(x:Int) ≥ a),decide_eq_true (by omega:(x:Int) < ((x+1:Nat):Int))]
            simp
        · rw [sub1] at h
          exact absurd ⟨by omega,hb'⟩ h
      · rw [if_neg hp]
        have hc':=hc hp
        refine ⟨(holeE_snoc _ S (-1)).2 ⟨h0,badS_no.2 ⟨by show (0:Int)≤(i:Int);omega,by show (i:Int) < (i:Int)+1;omega,by show (i:Int)+1≤_;omega⟩,hc'⟩,fun p hp=>?_,fun x hx=>?_,fun _=>⟨S,(i:Int),rfl⟩,fun h=>?_⟩
        · rcases List.mem_append.1 hp with hp | hp
          · have:=hi p hp;omega
          · simp at hp;subst hp;show (i:Int)+1≤_;omega
        · rw [List.any_append]
          by_cases hxi:x < i
          · rw [← hk x hxi]
            simp only [List.any_cons,List.any_nil,Bool.or_false,inS]
            rw [decide_eq_false (by omega:¬ (x:Int) ≥ (i:Int))]
            simp
          · obtain rfl:x=i:=by omega
            rw [hb']
            simp only [List.any_cons,List.any_nil,Bool.or_false,inS]
            rw [decide_eq_true (by omega:(x:Int) ≥ (x:Int)),decide_eq_true (by omega:(x:Int) < (x:Int)+1)]
            simp
        · rw [sub1] at h
          exact absurd ⟨by omega,hb'⟩ h
theorem known_holes (B:List Bool):knownL (holesOf B) B.length=B:=by
 have H:=holeI B B.length (Nat.le_refl _)
 apply List.ext_getElem?
 intro x
 by_cases hx:x < B.length
 ·unfold knownL
  rw [List.getElem?_map,List.getElem?_range hx]
  show some (knownB (holesOf B) x)=_
  unfold knownB
  rw [show (holesOf B).any (inS x)=!B.getD x false from H.hk x hx,Bool.not_not,List.getD_eq_getElem?_getD,List.getElem?_eq_getElem hx]
  rfl
 ·rw [List.getElem?_eq_none (by rw [knownL_len];omega),List.getElem?_eq_none (by omega)]
theorem holes_ok (B:List Bool):holeE B.length (-1) (holesOf B)=0:=(holeI B B.length (Nat.le_refl _)).h0
def DarkC (C:List (Int × Bool)):Prop:=∀ c,c ∈ C→c.2=false→c.1=0
theorem made_run {s:ByteArray} {n:Int} {C:List (Int × Bool)} (hd:headE s n C.length=0) (hn:n+C.length≤100000000) (lim:∀ c,c ∈ C→c.1.natAbs≤16384) (dk:DarkC C) :
    ∃ es,SErr (C.map fun c=>smp c.1) es∧Lev (C.map fun c=>smp c.1) (C.map fun c=>c.1)∧runE s n (C.map fun c=>smp c.1).length (holesOf (C.map fun c=>c.2)) es (C.map fun c=>c.1)=0∧Valid s n (C.map fun c=>smp c.1) (holesOf (C.map fun c=>c.2)) (C.map fun c=>c.1)∧cellsL (C.map fun c=>c.1) (holesOf (C.map fun c=>c.2))=C:=by
  have hL:=lev_smp lim
  obtain ⟨es,hE,h0⟩:=serr_zero hL
  have hlen:(C.map fun c=>smp c.1).length=C.length:=by simp
  have hlen2:(C.map fun c=>c.2).length=C.length:=by simp
  have ho:holeE C.length (-1) (holesOf (C.map fun c=>c.2))=0:=by have:=holes_ok (C.map fun c=>c.2);rwa [hlen2] at this
  have hK:knownL (holesOf (C.map fun c=>c.2)) C.length=C.map fun c=>c.2:=by have:=known_holes (C.map fun c=>c.2);rwa [hlen2] at this
  have hin:=holeE_in ho
  have hform:(holesOf (C.map fun c=>c.2)).any (anyIn (C.map fun c=>c.1))=false:=by
    cases hb:(holesOf (C.map fun c=>c.2)).any (anyIn (C.map fun c=>c.1)) with
    | false=>rfl
    | true =>
      obtain ⟨j,x,hj,hx,hk⟩:=(form_iff hin).1 hb
      rw [List.getElem?_map] at hj
      cases hc:C[j]? with
      | none=>rw [hc] at hj;cases hj
      | some c =>
        have hjl:j < C.length:=(List.getElem?_eq_some_iff.1 hc).1
        have hkj:(knownL (holesOf (C.map fun c=>c.2)) C.length)[j]?=some (knownB (holesOf (C.map fun c=>c.2)) j):=by
          unfold knownL
          rw [List.getElem?_map,List.getElem?_range hjl];rfl
        rw [hK,List.getElem?_map,hc,hk] at hkj
        rw [hc] at hj
        exact absurd ((Option.some.inj hj).symm.trans (dk c (List.mem_of_getElem? hc) (Option.some.inj hkj))) hx
  obtain ⟨_,n0,n1,hm⟩:=headE_zero hd
  have hr:runE s n (C.map fun c=>smp c.1).length (holesOf (C.map fun c=>c.2)) es (C.map fun c=>c.1)=0:=by
    unfold runE tailE formE
    rw [hlen,hd,h0,ho,hform,decide_eq_false (by omega)]
    rfl
  refine ⟨es,hE,hL,hr,valid_of (fun _=>hL) hr,?_⟩
  rw [cells_eq hL (by rw [hlen];exact hin),hlen,hK]
  apply List.ext_getElem?
  intro i
  cases hc:C[i]? with
  | none =>
    have:C.length≤i:=List.getElem?_eq_none_iff.1 hc
    rw [List.getElem?_eq_none (by rw [cellsK_ln (by simp)];simp;omega)]
  | some c =>
    rw [cellsK_get (x:=c.1) (p:=c.2) (by rw [List.getElem?_map,hc];rfl) (by rw [List.getElem?_map,hc];rfl)]
    obtain ⟨x,k⟩:=c
    cases k with
    | true=>rfl
    | false =>
      have h1:x=0:=dk _ (List.mem_of_getElem? hc) rfl
      subst h1;rfl
end Go.Tidy
namespace Go.Tidy
open Go Go.Proofs Tab
theorem known_no {S:List (Int × Int)} {x:Int}:knownB S x=false ↔ ∃ p,p ∈ S∧p.1≤x∧x < p.2:=by
 unfold knownB
 rw [Bool.not_eq_false',List.any_eq_true]
 constructor
 ·rintro ⟨p,hp,h⟩
  unfold inS at h
  simp only [Bool.and_eq_true,decide_eq_true_eq] at h
  exact ⟨p,hp,h.1,h.2⟩
 ·rintro ⟨p,hp,h1,h2⟩
  refine ⟨p,hp,?_⟩
  unfold inS
  rw [decide_eq_true h1,decide_eq_true h2];rfl
theorem holeE_tail {m:Nat} {prev:Int} {p:Int × Int} {r:List (Int × Int)} (h:holeE m prev (p::r)=0):badS m p=false∧prev < p.1∧holeE m p.2 r=0:=by
 rw [holeE_cons] at h
 cases hb:badS m p with
 | true=>rw [hb] at h;cases h
 | false =>
  rw [hb] at h
  by_cases hc:p.1≤prev
  ·rw [decide_eq_true hc] at h;cases h
  ·rw [decide_eq_false hc] at h
   exact ⟨rfl,by omega,h⟩
theorem known_tail {p:Int × Int} {r:List (Int × Int)} {x:Int} (hx:p.2≤x):knownB (p::r) x=knownB r x:=by
 unfold knownB
 rw [List.any_cons]
 unfold inS
 rw [decide_eq_false (by omega:¬ x < p.2),Bool.and_false,Bool.false_or]
theorem holes_first {m:Nat} {prev:Int} {p:Int × Int} {r:List (Int × Int)} (h:holeE m prev (p::r)=0) {x:Int} (hx:knownB (p::r) x=false):p.1≤x:=by
 obtain ⟨q,hq,h1,_⟩:=known_no.1 hx
 obtain ⟨b,_,t⟩:=holeE_tail h
 have:=badS_no.1 b
 rcases List.mem_cons.1 hq with rfl | hq
 ·exact h1
 ·have:=holeE_after t q hq
  omega
theorem holes_end {m:Nat} {prev:Int} {p:Int × Int} {r:List (Int × Int)} (h:holeE m prev (p::r)=0):knownB (p::r) p.2=true:=by
 cases hb:knownB (p::r) p.2 with
 | true=>rfl
 | false =>
  rw [known_tail (Int.le_refl _)] at hb
  obtain ⟨q,hq,h1,_⟩:=known_no.1 hb
  have:=holeE_after (holeE_tail h).2.2 q hq
  omega
theorem holes_uniq {m:Nat}:∀ {S T:List (Int × Int)} {prev:Int},-1≤prev→holeE m prev S=0→holeE m prev T=0→(∀ x:Nat,prev < (x:Int)→knownB S x=knownB T x)→S=T
  | [],[],_,_,_,_,_=>rfl
  | [],q::t,prev,h0,_,hT,h=>by
    obtain ⟨b,a,_⟩:=holeE_tail hT
    have b':=badS_no.1 b
    obtain ⟨x,hx⟩:=Int.eq_ofNat_of_zero_le b'.1
    have h1:=h x (by omega)
    rw [show knownB (q::t) (x:Int)=false from known_no.2 ⟨q,List.mem_cons_self ..,by omega,by omega⟩] at h1
    cases h1
  | p::r,[],prev,h0,hS,_,h=>by
    obtain ⟨b,a,_⟩:=holeE_tail hS
    have b':=badS_no.1 b
    obtain ⟨x,hx⟩:=Int.eq_ofNat_of_zero_le b'.1
    have h1:=h x (by omega)
    rw [show knownB (p::r) (x:Int)=false from known_no.2 ⟨p,List.mem_cons_self ..,by omega,by omega⟩] at h1
    cases h1
  | p::r,q::t,prev,h0,hS,hT,h=>by
    obtain ⟨b,a,tS⟩:=holeE_tail hS
    obtain ⟨c,d,tT⟩:=holeE_tail hT
    have b':=badS_no.1 b
    have c':=badS_no.1 c
    obtain ⟨p1,p2⟩:=p
    obtain ⟨q1,q2⟩:=q
    simp only at b' c' a d
    obtain ⟨x,rfl⟩:=Int.eq_ofNat_of_zero_le b'.1
    obtain ⟨y,rfl⟩:=Int.eq_ofNat_of_zero_le c'.1
    obtain ⟨u,rfl⟩:=Int.eq_ofNat_of_zero_le (show 0≤p2 by omega)
    obtain ⟨v,rfl⟩:=Int.eq_ofNat_of_zero_le (show 0≤q2 by omega)
    have e1:(y:Int)≤x:=holes_first hT (x:=(x:Int)) (by rw [← h x a];exact known_no.2 ⟨_,List.mem_cons_self ..,Int.le_refl _,b'.2.1⟩)
    have e2:(x:Int)≤y:=holes_first hS (x:=(y:Int)) (by rw [h y d];exact known_no.2 ⟨_,List.mem_cons_self ..,Int.le_refl _,c'.2.1⟩)
    obtain rfl:x=y:=by omega
    have f1:¬ (u:Int) < v:=fun hl=>by
      have:=h u (by omega)
      rw [show knownB (((x:Int),(u:Int))::r) (u:Int)=true from holes_end hS,show knownB (((x:Int),(v:Int))::t) (u:Int)=false from known_no.2 ⟨_,List.mem_cons_self ..,by show (x:Int)≤u;omega,hl⟩] at this
      cases this
    have f2:¬ (v:Int) < u:=fun hl=>by
      have:=h v (by omega)
      rw [show knownB (((x:Int),(v:Int))::t) (v:Int)=true from holes_end hT,show knownB (((x:Int),(u:Int))::r) (v:Int)=false from known_no.2 ⟨_,List.mem_cons_self ..,by show (x:Int)≤v;omega,hl⟩] at this
      cases this
    obtain rfl:u=v:=by omega
    congr 1
    refine holes_uniq (prev:=(u:Int)) (by omega) tS tT fun z hz=>?_
    have:=h z (by omega)
    rwa [known_tail (by show (u:Int)≤z;omega),known_tail (by show (u:Int)≤z;omega)] at this
theorem known_past {m:Nat} {S:List (Int × Int)} (hin:In m S) {x:Int} (hx:(m:Int)≤x):knownB S x=true:=by
 cases hb:knownB S x with
 | true=>rfl
 | false =>
  obtain ⟨p,hp,h1,h2⟩:=known_no.1 hb
  have:=(hin p hp).2.2
  omega
theorem knownL_get {S:List (Int × Int)} {m i:Nat} (hi:i < m):(knownL S m)[i]?=some (knownB S i):=by
 unfold knownL
 rw [List.getElem?_map,List.getElem?_range hi];rfl
theorem holesOf_get {K:List Bool} {i:Nat} (hi:i < K.length):K[i]?=some (knownB (holesOf K) i):=by
 have:=knownL_get (S:=holesOf K) hi
 rwa [known_holes] at this
theorem holes_back {m:Nat} {S:List (Int × Int)} (h:holeE m (-1) S=0):holesOf (knownL S m)=S:=by
 have hl:=knownL_len S m
 have h2:=holes_ok (knownL S m)
 rw [hl] at h2
 refine holes_uniq (Int.le_refl _) h2 h fun x _=>?_
 by_cases hx:x < m
 ·have e1:=holesOf_get (K:=knownL S m) (i:=x) (by omega)
  rw [knownL_get hx] at e1
  exact (Option.some.inj e1).symm
 ·rw [known_past (holeE_in h2) (by omega),known_past (holeE_in h) (by omega)]
end Go.Tidy
namespace Go.Tidy
open Go Go.Proofs Tab
variable {tp:TProg}
structure Cel (s:ByteArray) (n:Int) (F:List Nat) (es:List Int) (C:List (Int × Bool)):Prop where
 len:F.length=C.length
 e:SErr F es
 lev:Lev F (C.map fun c=>c.1)
 r:runE s n F.length (holesOf (C.map fun c=>c.2)) es (C.map fun c=>c.1)=0
 v:Valid s n F (holesOf (C.map fun c=>c.2)) (C.map fun c=>c.1)
 c:cellsL (C.map fun c=>c.1) (holesOf (C.map fun c=>c.2))=C
def RunC (s:ByteArray) (n:Int) (h:TH) (v1 v2:Value) (C:List (Int × Bool)):Prop:=∃ F es,RunH h v1 v2 F (holesOf (C.map fun c=>c.2))∧Cel s n F es C
theorem RunC.hx {s:ByteArray} {n:Int} {h h':TH} {v1 v2:Value} {C:List (Int × Bool)} (r:RunC s n h v1 v2 C) (x:HX h h'):RunC s n h' v1 v2 C:=by
 obtain ⟨F,es,r,c⟩:=r
 exact ⟨F,es,r.hx x,c⟩
section
variable {s:ByteArray} {n:Int} {F:List Nat} {es L:List Int} {S:List (Int × Int)} {C:List (Int × Bool)}
theorem Cel.m (c:Cel s n F es C):C.length≤4096:=by have:=c.v.m;rw [c.len] at this;exact this
theorem Cel.lim (c:Cel s n F es C):∀ x,x ∈ C→x.1.natAbs≤16384:=by have:=c.v.lim;rwa [c.c] at this
theorem Cel.head (c:Cel s n F es C):headE s n C.length=0:=by
 have:=c.r
 unfold runE at this
 rw [c.len] at this
 rcases nz_cases (headE s n C.length) with h | h
 ·exact h
 ·rw [h] at this;rw [show headE s n C.length=0 from this] at h;cases h
theorem Valid.back (V:Valid s n F S L):((cellsL L S).map fun c=>c.1)=L∧holesOf ((cellsL L S).map fun c=>c.2)=S:=by
 have kl:=V.kl
 have ll:=V.lev.1
 constructor
 ·apply List.ext_getElem?
  intro i
  rw [List.getElem?_map]
  by_cases hi:i < F.length
  ·obtain ⟨k,hk⟩:=V.cell hi
   rw [hk,List.getElem?_eq_getElem (by omega:i < L.length)]
   simp [List.getD_eq_getElem?_getD,List.getElem?_eq_getElem (by omega:i < L.length)]
  ·rw [List.getElem?_eq_none (by rw [cells_len V.lev V.in_];omega),List.getElem?_eq_none (by omega)]
   rfl
 ·rw [V.cells,cellsK_snd kl,holes_back V.hole]
theorem Cel.of (V:Valid s n F S L) (hE:SErr F es) (h0:runE s n F.length S es L=0):Cel s n F es (cellsL L S):=by
 obtain ⟨b1,b2⟩:=V.back
 refine ⟨(cells_len V.lev V.in_).symm,hE,by rw [b1];exact V.lev,by rw [b1,b2];exact h0,by rw [b1,b2];exact V,by rw [b1,b2]⟩
theorem Cel.made (hd:headE s n C.length=0) (hn:n+C.length≤100000000) (lim:∀ c,c ∈ C→c.1.natAbs≤16384) (dk:DarkC C):∃ es,Cel s n (C.map fun c=>smp c.1) es C:=by
 obtain ⟨es,e1,e2,e3,e4,e5⟩:=made_run hd hn lim dk
 exact ⟨es,by simp,e1,e2,e3,e4,e5⟩
theorem RunO.cel {B:Nat} {h:TH} {w1 w2:Value} (o:RunO B h w1 w2 (C.map fun c=>smp c.1) (holesOf (C.map fun c=>c.2))) (hd:headE s n C.length=0) (hn:n+C.length≤100000000) (lim:∀ c,c ∈ C→c.1.natAbs≤16384) (dk:DarkC C):RunC s n h w1 w2 C:=by
 obtain ⟨es,c⟩:=Cel.made hd hn lim dk
 exact ⟨_,es,o.r,c⟩
end
section
variable {s:ByteArray} {n:Int} {h:TH} {v1 v2 w1 w2:Value} {C D:List (Int × Bool)}
def NewC (s:ByteArray) (n:Int) (C:List (Int × Bool)) (h:TH) (v:Value) (h':TH):Prop :=
 ∃ bo1 l1 k1 bo2 l2 k2,v=.tuple #[runV s n (.slice bo1 l1 k1) (.slice bo2 l2 k2),.int .i64 0]∧HX h h'∧RunC s n h' (.slice bo1 l1 k1) (.slice bo2 l2 k2) C∧Above h.next (.slice bo1 l1 k1)∧Above h.next (.slice bo2 l2 k2)
theorem RunR.new {h':TH} {v:Value} (r:RunR h h' v s n C 0) (hd:headE s n C.length=0) (hn:n+C.length≤100000000) (lim:∀ c,c ∈ C→c.1.natAbs≤16384) (dk:DarkC C):NewC s n C h v h':=by
 obtain ⟨X,⟨he,_⟩ | ⟨_,w1,w2,rfl,O⟩⟩:=r
 ·exact absurd rfl he
 ·obtain ⟨bo1,k1,rfl⟩:=O.r.f.form
  obtain ⟨bo2,k2,rfl⟩:=O.r.s.form
  exact ⟨_,_,_,_,_,_,rfl,X,O.cel hd hn lim dk,O.o1,O.o2⟩
end
end Go.Tidy
namespace Go.Tidy
open Go Go.Proofs Tab
variable {tp:TProg}
section
variable {s:ByteArray} {n:Int} {g:TH} {v1 v2 p1 p2:Value} {C:List (Int × Bool)} {c2 c3 c5':Nat}
theorem RunC.relock (r:RunC s n g v1 v2 C) (M:List Nat):RunC s n (g.withLock M) v1 v2 C:=by
 obtain ⟨F,es,r,c⟩:=r
 exact ⟨F,es,r.relock' M,c⟩
end
attribute [local irreducible] Ty valOf
end Go.Tidy
namespace Go.Tidy
open Go Go.Proofs Tab
variable {tp:TProg}
theorem Samp.order {b c:Nat} {n m:Int} (s:Samp b n) (t:Samp c m):Ieee.single.order b c=some (compare n m):=by
 obtain ⟨neg,q,h1,h2,h3⟩:=s.ok
 obtain ⟨neg',q',g1,g2,g3⟩:=t.ok
 obtain ⟨D,hD⟩:∃ D:Nat,2 ^ 149=D:=⟨_,rfl⟩
 have hDp:0 < D:=by rw [← hD];exact two_pow_pos 149
 have e1:=h2 D hD
 have e2:=g2 D hD
 have a1:sg neg q*(16:Nat)=n*(D:Nat):=by rw [← sg_mul,e1,sg_mul,h3]
 have a2:sg neg' q'*(16:Nat)=m*(D:Nat):=by rw [← sg_mul,e2,sg_mul,g3]
 rw [h1.order g1]
 generalize sg neg q=x at *
 generalize sg neg' q'=y at *
 have hDi:(0:Int) < (D:Int):=by omega
 have hlt:x < y ↔ n < m:=by
  constructor
  ·intro hq
   have:n*(D:Int) < m*(D:Int):=by rw [← a1,← a2];omega
   exact Int.lt_of_mul_lt_mul_right this (by omega)
  ·intro hq
   have:n*(D:Int) < m*(D:Int):=Int.mul_lt_mul_of_pos_right hq hDi
   rw [← a1,← a2] at this
   omega
 have heq:x=y ↔ n=m:=by
  constructor
  ·intro hq
   rw [hq,a2] at a1
   exact (Int.eq_of_mul_eq_mul_right (by omega) a1).symm
  ·intro hq
   rw [hq,← a2] at a1
   omega
 congr 1
 show compareOfLessAndEq _ _=compareOfLessAndEq _ _
 unfold compareOfLessAndEq
 simp only [hlt,heq]
section
variable {P:Program} {h:TH} {K:Regs→TH→Prop} {rest:List TOper} {d:Option Tmp} {ty:TypeId} {i:Nat} {x y:Operand} {t u:TypeId} {L:Rg}
end
end Go.Tidy
namespace Go.Tidy
open Go Go.Proofs Tab
variable {tp:TProg}
theorem WOL.si {P:Program} {tp:TProg} {h:TH} {K:Regs→TH→Prop} {rest:List TOper} {d:Option Tmp} {ty:TypeId} {i:Nat} {x y:Operand} {t:TypeId} {L:Rg} {s:ByteArray} {k:IntKind} {j:Nat} (hx:getL L x=some (.string s)) (hy:getL L y=some (.int k (j:Nat))) (hu:P.underlying t=some .string) (hj:j < s.size) (w:∀ a,Kn (putL L d (.int .u8 (s[j].toNat:Nat))) a→WO P tp rest a h K):∀ a,Kn L a→WO P tp (⟨d,.index t x y,ty,none,[],i⟩::rest) a h K:=fun a q=>WO.si (q.o hx) (q.o hy) hu hj (w _ (q.put d _))
end Go.Tidy
namespace Go.Tidy
open Go Go.Proofs Tab
variable {tp:TProg}
section
variable {P:Program} {h:TH} {K:Regs→TH→Prop} {rest:List TOper} {d:Option Tmp} {ty:TypeId} {i:Nat} {x y:Operand} {t u:TypeId} {L:Rg}
end
def encY (b:Nat):List Value:=[.int .u8 (b:Nat)]
theorem eY:Enc encY 1:=⟨fun _=>rfl,fun _=>rfl⟩
section
variable {h:TH} {v:Value} {l:List Nat} {c:Nat}
end
def Byt (l:List Nat):Prop:=∀ b,b ∈ l→b < 256
theorem Byt.at {l:List Nat} (h:Byt l) (j:Nat):l.getD j 0 < 256:=by
 rw [List.getD_eq_getElem?_getD]
 cases hj:l[j]? with
 | none=>show (0:Nat) < 256;decide
 | some b=>exact h b (List.mem_of_getElem? hj)
section
variable {h:TH} {l:List Nat} {bo:Option Addr} {n k:Nat}
end
end Go.Tidy
namespace Go.Tidy
open Go Go.Proofs Tab
variable {tp:TProg}
def trcV (n:Int) (v1 v2:Value):Value:=.agg #[.int .i64 n,v1,v2]
structure TrcH (h:TH) (v1 v2:Value) (L:List Int) (S:List (Int × Int)):Prop where
 l:SlL encI 1 h v1 L
 s:SlL encS 2 h v2 S
 g:Fits h v1 3
theorem TrcH.hx {h h':TH} {v1 v2:Value} {L:List Int} {S:List (Int × Int)} (r:TrcH h v1 v2 L S) (x:HX h h'):TrcH h' v1 v2 L S:=⟨r.l.hx x,r.s.hx x,r.g.hx x⟩
theorem TrcH.relock {h:TH} {v1 v2:Value} {L:List Int} {S:List (Int × Int)} (r:TrcH h v1 v2 L S) (M:List Nat):TrcH (h.withLock M) v1 v2 L S:=⟨r.l.relock M,r.s.relock M,fun b off m cap e=>by
 obtain ⟨cc,fix,wr,el,r1,r2⟩:=r.g b off m cap e
 exact ⟨cc,fix,wr,el,r1.relock _,r2⟩⟩
def readE (x:Int):Int:=outB x (-1073741824) 1073741824
section
variable {h:TH}
end
theorem fNZ_at {E:List Int} {j:Nat} {e:Int} (h1:∀ i,i < j→E.getD i 0=0) (h2:E[j]?=some e) (h3:e≠0):firstNZ E=e:=by
 rw [firstNZ_drop h1]
 have hj:=(List.getElem?_eq_some_iff.1 h2).1
 rw [List.drop_eq_getElem_cons hj,(List.getElem?_eq_some_iff.1 h2).2]
 show cond (e != 0) e _=e
 rw [bne_iff_ne.2 h3];rfl
theorem fNZ_all {E:List Int} (h:∀ i,i < E.length→E.getD i 0=0):firstNZ E=0:=by
 rw [firstNZ_drop h,List.drop_length];rfl
section
variable {h:TH} {v:Value} {L:List Int}
end
end Go.Tidy
namespace Go.Tidy
open Go Go.Proofs Tab
variable {tp:TProg}
theorem WOL.cut {P:Program} {tp:TProg} {h:TH} {K:Regs→TH→Prop} {ops:List TOper} {L:Rg} (n:Nat) (M:Rg) (w1:∀ a,Kn L a→WO P tp (ops.take n) a h (fun a' h'=>h'=h∧Kn M a')) (w2:∀ a,Kn M a→WO P tp (ops.drop n) a h K):∀ a,Kn L a→WO P tp ops a h K :=
 fun a k=>WO.cut n ((w1 a k).mono fun a' h' ⟨e,k'⟩=>by subst e;exact w2 a' k')
theorem SlL.part {α:Type} {enc:α→List Value} {n:Nat} {h:TH} {b off m cap lo hi:Nat} {l:List α} (E:Enc enc n) (s:SlL enc n h (.slice (some ⟨b,off,none⟩) m cap) l) (h1:lo≤hi) (h2:hi≤l.length):SlL enc n h (.slice (some ⟨b,off+lo*n,none⟩) (hi - lo) (cap - lo)) ((l.drop lo).take (hi - lo)):=by
 have e:((l.drop lo).take (hi - lo)).length=hi - lo:=by rw [List.length_take,List.length_drop];omega
 obtain ⟨bo,cap',e1,hc,hl,hh⟩:=s
 cases e1
 rcases hh with ⟨q,_⟩ | ⟨b',off',cc,fix,wr,el,q1,A,q2,q3⟩
 ·cases q
 ·cases q1
  have hm:hi*n≤l.length*n:=Nat.mul_le_mul_right _ h2
  have hlo:lo*n+(hi - lo)*n=hi*n:=by rw [← Nat.add_mul];congr 1;omega
  refine ⟨_,cap - lo,by rw [e],by rw [e];omega,by rw [E.cat_len],.inr ⟨b,off+lo*n,cc,fix,wr,el,rfl,A,?_,by rw [e];omega⟩⟩
  rw [e,← E.take,← E.drop,← q2,List.drop_take,List.take_take,List.drop_drop,Nat.min_eq_left (by omega)]
section
variable {h:TH} {n:Int} {v1 v2:Value} {L:List Int} {S:List (Int × Int)}
end
end Go.Tidy
namespace Go.Tidy
open Go Go.Proofs Tab
variable {tp:TProg}
structure RowA (g:TH) (bv bk:Nat) (L:List Int) (B:List Bool):Prop where
 v:At g bv (.cells (cat encI L) true true 3)
 k:At g bk (.cells (cat encB B) true true 4)
 e:B.length=L.length
 n:bv≠bk
theorem RowA.hx {g g':TH} {bv bk:Nat} {L:List Int} {B:List Bool} (r:RowA g bv bk L B) (x:HX g g'):RowA g' bv bk L B:=⟨r.v.hx x,r.k.hx x,r.e,r.n⟩
abbrev slA (b m:Nat):Value:=.slice (some ⟨b,0,none⟩) m m
def largeB (x:Int):Bool:=readE x != 0
section
variable {h:TH} {n:Int} {L:List Int} {B:List Bool}
end
end Go.Tidy
namespace Go.Tidy
open Go Go.Proofs Tab
variable {tp:TProg}
structure TrcO (n0:Nat) (g:TH) (bv:Nat) (w:Value) (L:List Int) (S:List (Int × Int)):Prop where
 v:At g bv (.cells (cat encI L) true true 3)
 s:OwnL encS n0 g w 87 S
theorem TrcO.hx {n0 bv:Nat} {g g':TH} {w:Value} {L:List Int} {S:List (Int × Int)} (r:TrcO n0 g bv w L S) (x:HX g g'):TrcO n0 g' bv w L S:=⟨r.v.hx x,r.s.hx x⟩
theorem TrcO.put {n0 bv c:Nat} {g g':TH} {w:Value} {L:List Int} {S:List (Int × Int)} {x:TB} (r:TrcO n0 g bv w L S) (p:Put g g' c x) (h1:bv≠c) (h2:c < n0):TrcO n0 g' bv w L S:=⟨p.oth _ _ h1 r.v,r.s.keep fun z y hz a=>p.oth _ _ (by have:=r.s.lt hz;omega) a⟩
theorem TrcO.form {n0 bv:Nat} {g:TH} {w:Value} {L:List Int} {S:List (Int × Int)} (r:TrcO n0 g bv w L S):∃ b m k,w=.slice b m k:=by
 rcases r.s with ⟨rfl,_⟩ | ⟨_,b,rfl,_⟩
 ·exact ⟨_,_,_,rfl⟩
 ·exact ⟨_,_,_,rfl⟩
theorem TrcO.low {n0 n1 bv:Nat} {g:TH} {w:Value} {L:List Int} {S:List (Int × Int)} (r:TrcO n1 g bv w L S) (h:n0≤n1):TrcO n0 g bv w L S:=⟨r.v,by
 rcases r.s with q | ⟨q1,b,q2,q3,q4⟩
 ·exact .inl q
 ·exact .inr ⟨q1,b,q2,by omega,q4⟩⟩
section
variable {h:TH} {n:Int} {L:List Int} {B:List Bool} {bv bk:Nat}
end
end Go.Tidy
namespace Go.Tidy
open Go Go.Proofs Tab
variable {tp:TProg}
section
variable {h:TH} {l:List Nat} {v:Value} {bo:Option Addr} {n k:Nat}
end
section
variable {h:TH} {l:List Nat} {bo:Option Addr} {n k:Nat}
end
def OwnF {α:Type} (enc:α→List Value) (n0:Nat) (h:TH) (v:Value) (e:TypeId) (l:List α):Prop :=
 OwnL enc n0 h v e l∨(∃ b,v=.slice (some ⟨b,0,none⟩) l.length l.length∧n0≤b∧At h b (.cells (cat enc l) true true e))
section
variable {P:Program} {h:TH} {α:Type} {enc:α→List Value} {n0 n:Nat} {v:Value} {e:TypeId} {l:List α} {z:List Value} {row:Bool}
theorem OwnF.hx {h':TH} (o:OwnF enc n0 h v e l) (x:HX h h'):OwnF enc n0 h' v e l:=o.imp (fun o=>o.hx x) fun ⟨b,h1,h2,h3⟩=>⟨b,h1,h2,h3.hx x⟩
theorem OwnF.sl (E:Enc enc n) (o:OwnF enc n0 h v e l):SlL enc n h v l:=by
 rcases o with o | ⟨b,rfl,_,h3⟩
 ·exact o.sl E
 ·exact SlL.own E h3 rfl
theorem OwnF.form (o:OwnF enc n0 h v e l):∃ bo,v=.slice bo l.length l.length:=by
 rcases o with (⟨rfl,rfl⟩ | ⟨_,b,rfl,_⟩) | ⟨b,rfl,_⟩
 ·exact ⟨_,rfl⟩
 ·exact ⟨_,rfl⟩
 ·exact ⟨_,rfl⟩
end
section
variable {P:Program} {h:TH} {K:Regs→TH→Prop} {rest:List TOper} {d:Option Tmp} {ty:TypeId} {i:Nat} {x:Operand} {L:Rg}
end
section
variable {h hb:TH} {l:List Nat} {v:Value} {n k n0:Nat}
end
end Go.Tidy
namespace Go.Tidy
open Go Go.Proofs Tab
variable {tp:TProg}
def Tail3 (s:Nat→ByteArray) (n:Nat→Int) (F:Nat→List Nat) (S:Nat→List (Int × Int)) (es L:Nat→List Int):Prop:=∀ k,2≤k→s k=s 2∧n k=n 2∧F k=F 2∧S k=S 2∧es k=es 2∧L k=L 2
section
variable {s:Nat→ByteArray} {n:Nat→Int} {v1 v2:Nat→Value} {F:Nat→List Nat} {S:Nat→List (Int × Int)} {es L:Nat→List Int} {h:TH} {lb:Nat} {el:Int}
theorem Tail3.some (t:Tail3 s n F S es L):∀ k,∃ j,j < 3∧s k=s j∧n k=n j∧F k=F j∧S k=S j∧es k=es j∧L k=L j:=by
 intro k
 by_cases h0:k=0
 ·subst h0;exact ⟨0,by decide,rfl,rfl,rfl,rfl,rfl,rfl⟩
 ·by_cases h1:k=1
  ·subst h1;exact ⟨1,by decide,rfl,rfl,rfl,rfl,rfl,rfl⟩
  ·exact ⟨2,by decide,t k (by omega)⟩
end
end Go.Tidy
namespace Go.Tidy
open Go Go.Proofs Tab
variable {tp:TProg}
section
variable {P:Program} {h:TH} {K:Regs→TH→Prop} {rest:List TOper} {d:Option Tmp} {ty:TypeId} {i:Nat} {x y:Operand} {t u e:TypeId} {L:Rg} {v vx:Value}
end
section
variable {h:TH} {s c:Int} {x y z:Nat} {es:List Int}
end
section
variable {P:Program} {h:TH} {K:Regs→TH→Prop} {rest:List TOper} {d:Option Tmp} {ty:TypeId} {i:Nat} {x:Operand} {t e:TypeId} {L:Rg}
end
def wd (x y z:Nat):Nat→Nat | 0=>x | 1=>y | _=>z
theorem OwnF.at_ {α:Type} {enc:α→List Value} {n0:Nat} {h:TH} {v:Value} {e:TypeId} {l:List α} (o:OwnF enc n0 h v e l) (hl:l≠[]):∃ b fix,v=.slice (some ⟨b,0,none⟩) l.length l.length∧At h b (.cells (cat enc l) fix true e):=by
 rcases o with (⟨_,rfl⟩ | ⟨_,b,rfl,_,h3⟩) | ⟨b,rfl,_,h3⟩
 ·exact absurd rfl hl
 ·exact ⟨b,_,rfl,h3⟩
 ·exact ⟨b,_,rfl,h3⟩
section
variable {h:TH} {s c x y z:Nat}
end
end Go.Tidy
namespace Go.Tidy
open Go Go.Proofs Tab
variable {tp:TProg}
theorem Free0.heldO {n:Nat} {M:List Nat} {h:TH} {os:List (Option Nat)} (f:Free0 n h) (hM:∀ l,l ∈ M→some l ∈ os∨l ∈ h.lock) (hb:∀ b,some b ∈ os→b < n):Free0 n (h.withLock M) :=
 ⟨f.floor,fun l hl=>(hM l hl).elim (hb l) (f.lock l)⟩
section
variable {P:Program} {h:TH} {K:Regs→TH→Prop} {rest:List TOper} {d:Option Tmp} {ty:TypeId} {i:Nat} {L:Rg} {f x0 l0:Operand} {ls:List Operand} {fv v0:Value} {ts:Array TypeId}
end
section
variable {h:TH} {s c:Int} {x y z:Nat} {es:List Int}
end
end Go.Tidy
namespace Go.Tidy
open Go Go.Proofs Tab
variable {tp:TProg}
theorem Byt.drop {l:List Nat} (h:Byt l) (k:Nat):Byt (l.drop k):=fun b hb=>h b (List.mem_of_mem_drop hb)
theorem Byt.take {l:List Nat} (h:Byt l) (k:Nat):Byt (l.take k):=fun b hb=>h b (List.mem_of_mem_take hb)
section
variable {h:TH} {l:List Nat} {b:Nat} {fix wr:Bool} {el:TypeId}
end
section
variable {h:TH} {l:List Nat} {es:List Int}
end
end Go.Tidy
namespace Go.Tidy
open Go Go.Proofs Tab
variable {tp:TProg}
section
variable {P:Program} {h:TH} {α:Type} {enc:α→List Value} {n0 n:Nat} {v v2:Value} {e:TypeId} {l m:List α} {z:List Value} {row:Bool}
end
section
variable {P:Program} {h:TH} {K:Regs→TH→Prop} {rest:List TOper} {d:Option Tmp} {ty:TypeId} {i:Nat} {L:Rg} {f x0 x1 l0:Operand} {ls:List Operand} {fv v0 v1:Value} {ts:Array TypeId}
end
theorem OwnL.relock {α:Type} {enc:α→List Value} {n0:Nat} {h:TH} {v:Value} {e:TypeId} {l:List α} (o:OwnL enc n0 h v e l) (M:List Nat):OwnL enc n0 (h.withLock M) v e l:=o.imp id fun ⟨h0,b,h1,h2,h3⟩=>⟨h0,b,h1,h2,h3.relock M⟩
section
variable {h:TH} {s c x y z:Nat}
end
end Go.Tidy
namespace Go.Tidy
open Go Go.Proofs Tab
variable {tp:TProg}
abbrev Pkt:=Int × Int × Nat × Nat × Nat
def encP (p:Pkt):List Value:=[zi p.1,zi p.2.1,.float .f32 p.2.2.1,.float .f32 p.2.2.2.1,.float .f32 p.2.2.2.2]
theorem eP:Enc encP 5:=⟨fun _=>rfl,fun _=>rfl⟩
section
variable {h:TH} {p:Pkt} {v:Value} {l:List Pkt} {E:List Int}
end
end Go.Tidy
namespace Go.Tidy
open Go Go.Proofs Tab
variable {tp:TProg}
section
variable {h:TH} {v:Value} {l:List Pkt} {src:Int}
def LostA (L:List Int) (n0:Nat) (h:TH) (w:Value) (e:Int):Prop:=(L.length≤256∧e=0∧OwnL encI n0 h w 3 L)∨(256 < L.length∧e=5∧w=.slice none 0 0)
end
end Go.Tidy
namespace Go.Tidy
open Go Go.Proofs Tab
variable {tp:TProg}
theorem outB_in {n l m:Int} (h:outB n l m=0):l≤n∧n≤m:=by
 unfold outB at h
 by_cases h1:n < l
 ·simp [h1] at h
 ·by_cases h2:n > m
  ·simp [h2] at h
  ·omega
section
variable {h:TH} {v:Value} {l:List Pkt} {E:List Int} {src:Int}
end
end Go.Tidy
namespace Go.Tidy
open Go Go.Proofs Tab
theorem LostA.hx {L:List Int} {n0:Nat} {g g':TH} {w:Value} {e:Int} (a:LostA L n0 g w e) (x:HX g g'):LostA L n0 g' w e :=
 a.imp (fun ⟨h1,h2,h3⟩=>⟨h1,h2,h3.hx x⟩) id
end Go.Tidy
namespace Go.Tidy
open Go Go.Proofs Tab
variable {tp:TProg}
section
variable {P:Program} {h:TH} {α:Type} {enc:α→List Value} {n0 n:Nat} {v:Value} {e:TypeId} {l:List α} {z:List Value} {row:Bool}
end
section
variable {h hb:TH} {l:List Nat} {v:Value} {n k n0:Nat}
end
theorem OwnF.lt {α:Type} {enc:α→List Value} {n0:Nat} {h:TH} {v:Value} {e:TypeId} {l:List α} (o:OwnF enc n0 h v e l) {c:Nat} (hc:bl v=some c):n0≤c∧c < h.next:=by
 rcases o with o | ⟨b,rfl,h2,h3⟩
 ·exact o.lt hc
 ·cases hc;exact ⟨h2,h3.lt⟩
section
variable {s:ByteArray} {n:Int} {v1 v2:Value} {F:List Nat} {S:List (Int × Int)} {es L:List Int} {h:TH}
end
end Go.Tidy
namespace Go.Tidy
open Go Go.Proofs Tab
variable {tp:TProg}
section
variable {P:Program} {h:TH} {K:Regs→TH→Prop} {rest:List TOper} {d:Option Tmp} {ty:TypeId} {i:Nat} {x:Operand} {L:Rg} {q:Addr} {t e:TypeId} {n:Nat} {z:List Value} {row:Bool}
theorem bound_in {q:IntKind} {r dflt upper:Nat} (hr:r≤upper):boundT (some (.int q (r:Nat))) dflt upper=some r:=by
 have d1:decide (0≤(r:Int))=true:=decide_eq_true (Int.natCast_nonneg _)
 have d2:decide ((r:Int)≤(upper:Int))=true:=decide_eq_true (Int.ofNat_le.2 hr)
 simp only [boundT,d1,d2,Bool.and_self,Bool.cond_true,Int.toNat_natCast]
theorem fits_of {b:Nat} {cc:List Value} {fix wr:Bool} {el:TypeId} (hb:At h b (.cells cc fix wr el)) (hf:fix=true∨el=e):elemFits h b e=true:=by
 unfold elemFits
 rw [hb.get]
 rcases hf with rfl | rfl
 ·rfl
 ·simp
end
structure Stm (h:TH) (b o cap:Nat) (l:List Nat):Prop where
 ex:∃ cc fix wr el,At h b (.cells cc fix wr el)∧(cc.drop o).take l.length=cat encY l∧o+l.length≤cc.length∧(fix=true∨el=5)
 cap:l.length≤cap
section
variable {h h':TH} {b o cap:Nat} {l:List Nat}
theorem Stm.hx (s:Stm h b o cap l) (x:HX h h'):Stm h' b o cap l:=⟨by
 obtain ⟨cc,fix,wr,el,a,r⟩:=s.ex
 exact ⟨cc,fix,wr,el,a.hx x,r⟩,s.cap⟩
theorem Stm.oth (s:Stm h b o cap l) {c:Nat} (k:∀ z y,z≠c→At h z y→At h' z y) (hb:b≠c):Stm h' b o cap l:=⟨by
 obtain ⟨cc,fix,wr,el,a,r⟩:=s.ex
 exact ⟨cc,fix,wr,el,k _ _ hb a,r⟩,s.cap⟩
theorem Stm.part (s:Stm h b o cap l) {p k c:Nat} (hpk:p+k≤l.length) (hc:k≤c):SlL encY 1 h (.slice (some ⟨b,o+p,none⟩) k c) ((l.drop p).take k):=by
 obtain ⟨cc,fix,wr,el,a,e1,e2,_⟩:=s.ex
 have hl:((l.drop p).take k).length=k:=by rw [List.length_take,List.length_drop];omega
 refine ⟨_,c,by rw [hl],by rw [hl];exact hc,by rw [eY.cat_len],.inr ⟨b,o+p,cc,fix,wr,el,rfl,a,?_,?_⟩⟩
 ·rw [hl,Nat.mul_one]
  have q:=eY.part l p k
  rw [Nat.mul_one,Nat.mul_one] at q
  rw [← q,← e1,List.drop_take,List.take_take,List.drop_drop,Nat.min_eq_left (by omega)]
 ·rw [hl];omega
end
abbrev Cu:=Nat × Bool
section
variable {h:TH} {b o cap c4 n0:Nat} {l:List Nat} {c:Cu}
end
end Go.Tidy
namespace Go.Tidy
open Go Go.Proofs Tab
variable {tp:TProg}
def valC (C:List (Int × Bool)):List Int:=C.map fun c=>cond c.2 c.1 0
def bigC (C:List (Int × Bool)):Bool:=C.any fun c=>c.2 && largeB c.1
section
variable {h g:TH} {n:Int} {v:Value} {C:List (Int × Bool)} {j:Nat}
end
end Go.Tidy
namespace Go.Tidy
open Go Go.Proofs Tab
variable {tp:TProg}
theorem OwnL.low {α:Type} {enc:α→List Value} {n0 n1:Nat} {h:TH} {v:Value} {e:TypeId} {l:List α} (o:OwnL enc n1 h v e l) (h0:n0≤n1):OwnL enc n0 h v e l:=by
 rcases o with q | ⟨q1,b,q2,q3,q4⟩
 ·exact .inl q
 ·exact .inr ⟨q1,b,q2,by omega,q4⟩
section
variable {h:TH} {n n':Int} {v1 v2 w1 w2:Value} {L1 L2:List Int} {S1 S2:List (Int × Int)}
end
end Go.Tidy
namespace Go.Tidy
open Go Go.Proofs Tab
variable {tp:TProg}
section
variable {α:Type} {z:α} {C:List α} {m j:Nat}
end
def ProgR (n:Int) (e:Int) (C:List (Int × Bool)) (n0:Nat) (h':TH) (v:Value):Prop :=
 (e≠0∧v=.tuple #[trcV 0 (.slice none 0 0) (.slice none 0 0),zi e])∨(e=0∧bigC C=true∧v=.tuple #[trcV 0 (.slice none 0 0) (.slice none 0 0),zi 4])∨(e=0∧bigC C=false∧∃ bv w,v=.tuple #[trcV n (slA bv C.length) w,zi 0]∧n0≤bv∧TrcO n0 h' bv w (valC C) (holesOf (C.map fun c=>c.2)))
section
variable {h:TH} {n n':Int} {v1 v2 w1 w2:Value} {L1 L2:List Int} {S1 S2:List (Int × Int)}
end
end Go.Tidy
namespace Go.Tidy
open Go Go.Proofs Tab
variable {tp:TProg}
def RevR (n p e:Int) (L:List Int) (S:List (Int × Int)) (n0:Nat) (h':TH) (v:Value):Prop :=
 (e≠0∧v=.tuple #[trcV 0 (.slice none 0 0) (.slice none 0 0),zi e])∨(e=0∧(2*p+1 - (n+L.length) < 0∨2*p+1 - (n+L.length)+L.length > 100000000)∧v=.tuple #[trcV 0 (.slice none 0 0) (.slice none 0 0),zi 14])∨(e=0∧0≤2*p+1 - (n+L.length)∧2*p+1 - (n+L.length)+L.length≤100000000∧∃ bv w,v=.tuple #[trcV (2*p+1 - (n+L.length)) (slA bv L.length) w,zi 0]∧n0≤bv∧TrcO n0 h' bv w L.reverse (holesOf (knownL S L.length).reverse))
section
variable {h:TH} {n p:Int} {v1 v2:Value} {L:List Int} {S:List (Int × Int)}
end
end Go.Tidy
namespace Go.Tidy
open Go Go.Proofs Tab
variable {tp:TProg}
section
variable {h:TH} {l:List Nat} {bo:Option Addr} {n k:Nat}
end
section
variable {h:TH} {K:Regs→TH→Prop} {rest:List TOper} {d:Option Tmp} {ty:TypeId} {i:Nat} {x:Operand} {L:Rg} {v:Value} {m:List Nat}
end
section
variable {hb h g g2 g':TH} {n b o cap c4 c2 c3 nB:Nat} {cur cur':Cu} {s s':ByteArray} {fi fi':Int} {w1 w2 w':Value} {F F':List Nat} {S S':List (Int × Int)}
theorem Put.relock {M:List Nat} {x:TB} {c:Nat} {h1:TH} (p:Put (h.withLock M) h1 c x):Put h (h1.withLock h.lock) c x :=
 ⟨p.at_.relock _,fun z y hz a=>(p.oth z y hz (a.relock M)).relock _,p.next,p.floor,rfl,fun h0 y hb=>by rw [y.lock];exact (p.hx _ (y.locked M) hb).relock⟩
end
end Go.Tidy
namespace Go.Tidy
open Go Go.Proofs Tab
variable {tp:TProg}
section
variable (l:List Nat) (c:Cu)
end
section
variable {h g:TH} {l:List Nat} {b o cap:Nat}
theorem Stm.relock (s:Stm h b o cap l) (M:List Nat):Stm (h.withLock M) b o cap l:=⟨by
 obtain ⟨cc,fix,wr,el,a,r⟩:=s.ex
 exact ⟨cc,fix,wr,el,a.relock M,r⟩,s.cap⟩
end
section
variable {hb h:TH} {l:List Nat} {b o cap c4:Nat} {c:Cu}
end
end Go.Tidy
namespace Go.Tidy
open Go Go.Proofs Tab
variable {tp:TProg}
section
variable {P:Program} {h:TH} {K:Regs→TH→Prop} {rest:List TOper} {d:Option Tmp} {ty:TypeId} {i:Nat} {x y:Operand} {t u:TypeId} {L:Rg} {s s':ByteArray}
end
section
variable (l:List Nat)
end
theorem RunH.relock {h:TH} {v1 v2:Value} {F:List Nat} {S:List (Int × Int)} (r:RunH h v1 v2 F S) (M:List Nat):RunH (h.withLock M) v1 v2 F S:=⟨r.f.relock M,r.s.relock M,r.g.relock M⟩
section
variable {h:TH} {l:List Nat} {b o n cap:Nat} {es L:List Int}
end
end Go.Tidy
namespace Go.Tidy
open Go Go.Proofs Tab
variable {tp:TProg}
theorem k11t (A:Awk tp) (h:TH):CallW Tryz.prog tp (.func (.func 9) #[] #[]) #[] h fun v h'=>v=.bool true∧h'=h:=by
 obtain ⟨e,e1,e2⟩:=A.e
 exact CallW.ext A.no e1 rfl e2 rfl ⟨rfl,rfl⟩
theorem IsInts.keep {g g':TH} {y:Value} {L:List Int} (i:IsInts g y L) (k:∀ b x,bl y=some b→At g b x→At g' b x):IsInts g' y L:=by
 rcases i with i | ⟨b,c,fix,wr,el,i1,i2,i3⟩
 ·exact .inl i
 ·subst i1
  have:=k b _ rfl ⟨i3,i2⟩
  exact .inr ⟨b,c,fix,wr,el,rfl,this.lt,this.get⟩
def CelA (ty:TypeId) (n:Int) (o:Int × List Int × List (Int × Int)) (g:TH) (c:Nat):Prop:=∃ z b1 m1 k1 b2 m2 k2,At g c (.cells [zi z,.slice b1 m1 k1,.slice b2 m2 k2] true true ty)∧IsInts g (.slice b1 m1 k1) o.2.1∧SlL encS 2 g (.slice b2 m2 k2) o.2.2∧((o.1≠0∧z=0∧o.2.1=[]∧o.2.2=[])∨(o.1=0∧z=n))
theorem CelA.hx {ty:TypeId} {n:Int} {o:Int × List Int × List (Int × Int)} {g g':TH} {c:Nat} (q:CelA ty n o g c) (x:HX g g'):CelA ty n o g' c:=by
 obtain ⟨z,b1,m1,k1,b2,m2,k2,A,i,s,e⟩:=q
 exact ⟨z,b1,m1,k1,b2,m2,k2,A.hx x,i.hx x,s.hx x,e⟩
section
variable {h h0:TH} {a b n1 n2 m1 m2 e1:Int} {v1 v2 w1 w2:Value} {L1:List Int} {S1:List (Int × Int)} {o1 o2:Int × List Int × List (Int × Int)} {c3 c4 c7 c9 c14 c15:Nat}
end
end Go.Tidy
namespace Go.Tidy
open Go Go.Proofs Tab
variable {tp:TProg}
theorem CelA.keep {ty:TypeId} {n:Int} {o:Int × List Int × List (Int × Int)} {g g':TH} {c:Nat} (q:CelA ty n o g c) (k:∀ b x,At g b x→At g' b x):CelA ty n o g' c:=by
 obtain ⟨z,b1,m1,k1,b2,m2,k2,A,i,s,e⟩:=q
 exact ⟨z,b1,m1,k1,b2,m2,k2,k _ _ A,i.keep fun b x _ a=>k _ _ a,slC_keep s fun b x _ a=>k _ _ a,e⟩
section
variable {h h0:TH} {a b n m1 m2 E1:Int} {v1 v2 w9 w16:Value} {L:List Int} {S:List (Int × Int)} {l3:List Int} {o1 o2:Int × List Int × List (Int × Int)} {c2 c3 c5 c7 c14 c15 p q:Nat}
end
end Go.Tidy
namespace Go.Tidy
open Go Go.Proofs Tab
variable {tp:TProg}
theorem out_mm {x l m:Int} (h:outB x l m=0):l≤x∧x≤m:=by
 unfold outB at h
 by_cases c1:x < l
 ·rw [decide_eq_true c1] at h;cases h
 ·by_cases c2:m < x
  ·rw [decide_eq_false c1,decide_eq_true c2] at h;cases h
  ·omega
section
variable {h:TH} {n a b s:Int} {v1 v2:Value} {L:List Int} {S:List (Int × Int)} {p q st:Nat}
end
end Go.Tidy
namespace Go.Tidy
open Go Go.Proofs Tab
variable {tp:TProg}
section
variable {P:Program} {h:TH} {K:Regs→TH→Prop} {rest:List TOper} {d:Option Tmp} {ty:TypeId} {i:Nat} {x y:Operand} {t u:TypeId} {L:Rg}
end
section
variable {p q:Nat} {E:List Int} {C:List (Int × Bool)} {j:Nat} {H:List (Int × Bool)}
def HFine (H:List (Int × Bool)):Prop:=∀ c,c ∈ H→(c.2=true→largeB c.1=false)∧(c.2=false→c.1=0)
theorem HFine.lim {H:List (Int × Bool)} (f:HFine H) (i:Nat):-1073741824≤(H.getD i (0,false)).1∧(H.getD i (0,false)).1≤1073741824:=by
  rw [List.getD_eq_getElem?_getD]
  cases hi:H[i]? with
  | none=>decide
  | some c =>
    obtain ⟨f1,f2⟩:=f c (List.mem_of_getElem? hi)
    show -1073741824≤c.1∧c.1≤1073741824
    cases hc:c.2 with
    | false=>rw [f2 hc];decide
    | true =>
      have:=f1 hc
      unfold largeB readE at this
      have h0:outB c.1 (-1073741824) 1073741824=0:=by
        by_cases q:outB c.1 (-1073741824) 1073741824=0
        · exact q
        · rw [bne_iff_ne.2 q] at this;cases this
      exact out_mm h0
theorem HFine.val {H:List (Int × Bool)} (f:HFine H):valC H=H.map fun c=>c.1:=by
 unfold valC
 refine List.map_congr_left fun c hc=>?_
 cases h:c.2 with
 | true=>rfl
 | false=>rw [(f c hc).2 h];rfl
end
section
variable {α:Type} {l:List α} {z x:α} {m:Nat}
end
section
variable {h:TH} {n:Int} {p q:Nat} {L E:List Int} {S:List (Int × Int)} {rv rk hv hk:Nat}
end
end Go.Tidy
namespace Go.Tidy
open Go Go.Proofs Tab
variable {tp:TProg}
theorem TrcO.relock {n0 bv:Nat} {g:TH} {w:Value} {L:List Int} {S:List (Int × Int)} (r:TrcO n0 g bv w L S) (M:List Nat):TrcO n0 (g.withLock M) bv w L S:=⟨r.v.relock _,r.s.keep fun z y hz a=>a.relock _⟩
section
variable {h:TH} {n n' a b:Int} {v1 v2 w1 w2:Value} {L L':List Int} {S S':List (Int × Int)}
end
end Go.Tidy
namespace Go.Tidy
open Go Go.Proofs Tab
variable {tp:TProg}
def AnsF (e:Int) (L:List Int) (n0:Nat) (h':TH) (v:Value):Prop:=∃ b m c F,v=.tuple #[.slice b m c,zi e]∧SlL encF 1 h' (.slice b m c) F∧Lev F L∧∀ z,bl (.slice b m c)=some z→n0≤z
theorem AnsF.low {e:Int} {L:List Int} {n0 n1:Nat} {g:TH} {v:Value} (a:AnsF e L n1 g v) (h:n0≤n1):AnsF e L n0 g v:=by
 obtain ⟨b,m,c,F,h1,h2,h3,h4⟩:=a
 exact ⟨b,m,c,F,h1,h2,h3,fun z hz=>Nat.le_trans h (h4 z hz)⟩
section
variable {h:TH} {v w fv:Value} {F:List Nat} {es L M:List Int}
end
end Go.Tidy
namespace Go.Tidy
open Go Go.Proofs Tab
variable {tp:TProg}
def RF (h:TH) (v:Value) (L:List Int):Prop:=∃ F,SlL encF 1 h v F∧Lev F L
theorem RF.hx {h h':TH} {v:Value} {L:List Int} (r:RF h v L) (x:HX h h'):RF h' v L:=by
 obtain ⟨F,h1,h2⟩:=r
 exact ⟨F,h1.hx x,h2⟩
theorem RF.nil {h:TH}:RF h (.slice none 0 0) []:=⟨[],SlL.nil,rfl,fun i b n h=>by cases h⟩
theorem AnsF.form {e:Int} {L:List Int} {n0:Nat} {h':TH} {v:Value} (a:AnsF e L n0 h' v):∃ u,v=.tuple #[u,zi e]∧RF h' u L:=by
 obtain ⟨b,m,c,F,h1,h2,h3,_⟩:=a
 exact ⟨_,h1,F,h2,h3⟩
section
variable {h:TH} {v w fv:Value} {F G:List Nat} {es es' L M A B:List Int} {φ:Int→Int→Int}
end
end Go.Tidy
namespace Go.Tidy
open Go Go.Proofs Tab
variable {tp:TProg}
theorem at_getD {w:List Int} {i:Nat} (hi:i < w.length):w[i]?=some (w.getD i 0):=by
 rw [List.getD_eq_getElem?_getD,List.getElem?_eq_getElem hi];rfl
section
variable {h:TH} {v w:Value} {L M:List Int}
end
end Go.Tidy
namespace Go.Tidy
open Go Go.Proofs Tab
variable {tp:TProg}
def z4:List (Int × Int):=[(0,0),(0,0),(0,0),(0,0)]
section
variable {h:TH} {n z:Int} {v1 v2:Value} {L:List Int} {S:List (Int × Int)}
end
end Go.Tidy
namespace Go.Tidy
open Go Go.Proofs Tab
variable {tp:TProg}
section
variable {P:Program} {h:TH} {K:Regs→TH→Prop} {rest:List TOper} {d:Option Tmp} {ty:TypeId} {i:Nat} {L:Rg} {f x0 x1 x2 l0:Operand} {ls:List Operand} {fv v0 v1 v2:Value} {ts:Array TypeId}
theorem WOL.lv3 (bs:List (Option Nat)) (hb:(l0::ls).map (fun x=>(getL L x).map blockOf)=bs.map some) (hf:getL L f=some fv) (h0:getL L x0=some v0) (h1:getL L x1=some v1) (h2:getL L x2=some v2) (w:∀ M,(∀ l,l ∈ M→some l ∈ bs∨l ∈ h.lock)→CallW P tp fv #[v0,v1,v2] (h.withLock M) fun v h1=>∀ a,Kn (putL L d v) a→WO P tp rest a (h1.withLock h.lock) K):∀ a,Kn L a→WO P tp (⟨d,.call ⟨.value f,#[x0,x1,x2],ts⟩,ty,none,l0::ls,i⟩::rest) a h K:=fun a k =>
 WO.cons_lock rfl rfl (StepW.call (by rw [getO_eval (k.o hf)];simpa [getO_eval (k.o h0),getO_eval (k.o h1),getO_eval (k.o h2)] using (w _ (lockOf_os _ a bs h.lock (locks_v k hb))).mono fun _ _ q=>k.nx q))
end
section
variable {h h0:TH} {a n z p e2:Int} {v v1 v2:Value} {w L:List Int} {S:List (Int × Int)} {o:Int × List Int × List (Int × Int)} {l:List (Int × Int)} {cs:List Value} {c4 c5 c7 c9 c13 c14:Nat}
end
end Go.Tidy
namespace Go.Tidy
open Go Go.Proofs Tab
attribute [local irreducible] Ty valOf
section
variable {h:TH} {n:Nat} {ps:List Value}
abbrev B8:={b:Nat // b < 256}
end
end Go.Tidy
namespace Go.Tidy
open Go Go.Proofs Tab
variable {tp:TProg}
theorem ProgR.ok {n e:Int} {C:List (Int × Bool)} {n0:Nat} {g:TH} {v:Value} (r:ProgR n e C n0 g v) (he:e=0) (hb:bigC C=false):∃ bv b2 m2 k2,v=.tuple #[trcV n (slA bv C.length) (.slice b2 m2 k2),zi 0]∧n0≤bv∧TrcO n0 g bv (.slice b2 m2 k2) (valC C) (holesOf (C.map fun c=>c.2)):=by
 rcases r with ⟨h1,_⟩ | ⟨_,h1,_⟩ | ⟨_,_,bv,w,h2,h3,h4⟩
 ·exact absurd he h1
 ·rw [hb] at h1;cases h1
 ·obtain ⟨b2,m2,k2,rfl⟩:=h4.form
  exact ⟨bv,b2,m2,k2,h2,h3,h4⟩
section
variable {h h0:TH} {n:Int} {v1 v2:Value} {L:List Int} {S:List (Int × Int)} {c3 c4 p q z:Nat}
end
end Go.Tidy
namespace Go.Tidy
open Go Go.Proofs Tab
variable {tp:TProg}
theorem RevR.ok {n p e:Int} {L:List Int} {S:List (Int × Int)} {n0:Nat} {g:TH} {v:Value} (r:RevR n p e L S n0 g v) (he:e=0) (h0:0≤2*p+1 - (n+L.length)) (h1:2*p+1 - (n+L.length)+L.length≤100000000):∃ bv b2 m2 k2,v=.tuple #[trcV (2*p+1 - (n+L.length)) (slA bv L.length) (.slice b2 m2 k2),zi 0]∧n0≤bv∧TrcO n0 g bv (.slice b2 m2 k2) L.reverse (holesOf (knownL S L.length).reverse):=by
 rcases r with ⟨q,_⟩ | ⟨_,q,_⟩ | ⟨_,_,_,bv,w,q2,q3,q4⟩
 ·exact absurd he q
 ·omega
 ·obtain ⟨b2,m2,k2,rfl⟩:=q4.form
  exact ⟨bv,b2,m2,k2,q2,q3,q4⟩
section
variable {h h0:TH} {x y n:Int} {p q c3 c4 c5:Nat} {v1 v2 w1 w2:Value} {L1 L2:List Int} {S1 S2:List (Int × Int)}
end
end Go.Tidy
namespace Go.Tidy
open Go Go.Proofs Tab
variable {tp:TProg}
structure Sx (b:Nat) (n:Int):Prop where
 ok:∃ neg q,V32 b neg q∧(∀ D,2 ^ 149=D→q*16=n.natAbs*D)∧sg neg n.natAbs=n
theorem Sx.nan {b:Nat} {n:Int} (s:Sx b n):nanB .f32 b=false:=by
 obtain ⟨neg,q,h,_⟩:=s.ok
 exact h.nan
theorem Sx.order {b c:Nat} {n m:Int} (s:Sx b n) (t:Sx c m):Ieee.single.order b c=some (compare n m):=by
 obtain ⟨neg,q,h1,h2,h3⟩:=s.ok
 obtain ⟨neg',q',g1,g2,g3⟩:=t.ok
 obtain ⟨D,hD⟩:∃ D:Nat,2 ^ 149=D:=⟨_,rfl⟩
 have hDp:0 < D:=by rw [← hD];exact two_pow_pos 149
 have e1:=h2 D hD
 have e2:=g2 D hD
 have a1:sg neg q*(16:Nat)=n*(D:Nat):=by rw [← sg_mul,e1,sg_mul,h3]
 have a2:sg neg' q'*(16:Nat)=m*(D:Nat):=by rw [← sg_mul,e2,sg_mul,g3]
 rw [h1.order g1]
 generalize sg neg q=x at *
 generalize sg neg' q'=y at *
 have hDi:(0:Int) < (D:Int):=by omega
 have hlt:x < y ↔ n < m:=by
  constructor
  ·intro hq
   have:n*(D:Int) < m*(D:Int):=by rw [← a1,← a2];omega
   exact Int.lt_of_mul_lt_mul_right this (by omega)
  ·intro hq
   have:n*(D:Int) < m*(D:Int):=Int.mul_lt_mul_of_pos_right hq hDi
   rw [← a1,← a2] at this
   omega
 have heq:x=y ↔ n=m:=by
  constructor
  ·intro hq
   rw [hq,a2] at a1
   exact (Int.eq_of_mul_eq_mul_right (by omega) a1).symm
  ·intro hq
   rw [hq,← a2] at a1
   omega
 congr 1
 show compareOfLessAndEq _ _=compareOfLessAndEq _ _
 unfold compareOfLessAndEq
 simp only [hlt,heq]
theorem sg_not (s:Bool) (q:Nat):sg (!s) q=-sg s q:=by
 unfold sg
 cases s <;> simp
theorem sg_sign {z:Int} {P:Nat} {w:Int} {s t:Bool} (hP:0 < P) (h:w=z*(P:Int)∨z=w*(P:Int)):sg (if z=0 then s && t else decide (z < 0)) w.natAbs=w:=by
  by_cases hz:z=0
  · have hw:w=0:=by
      rcases h with h | h
      · rw [h,hz,Int.zero_mul]
      · rw [hz] at h
        rcases Int.mul_eq_zero.1 h.symm with h | h
        · exact h
        · omega
    rw [if_pos hz,hw]
    cases s && t <;> rfl
  · rw [if_neg hz]
    have hPi:(0:Int) < (P:Int):=by omega
    have key:z < 0 ↔ w < 0:=by
      rcases h with h | h
      · rw [h]
        constructor
        · intro hl
          have:=Int.mul_lt_mul_of_pos_right hl hPi
          omega
        · intro hl
          have:z*(P:Int) < 0*(P:Int):=by omega
          exact Int.lt_of_mul_lt_mul_right this (by omega)
      · rw [h]
        constructor
        · intro hl
          have:w*(P:Int) < 0*(P:Int):=by omega
          exact Int.lt_of_mul_lt_mul_right this (by omega)
        · intro hl
          have:=Int.mul_lt_mul_of_pos_right hl hPi
          omega
    unfold sg
    by_cases hl:w < 0
    · rw [decide_eq_true (key.2 hl),if_pos rfl];omega
    · rw [decide_eq_false (fun q=>hl (key.1 q)),if_neg (by decide)];omega
theorem arr1 {z w:Int} {P Q D:Nat} (hP:0 < P) (h:z*(P:Int)*16=w*(D:Int)) (hq:Q*P*16=D):z=w*(Q:Int):=by
 subst hq
 refine Int.eq_of_mul_eq_mul_right (a:=(P:Int)*16) (by omega) ?_
 rw [← Int.mul_assoc,h,Int.natCast_mul,Int.natCast_mul,Int.mul_assoc,Int.mul_assoc]
 rfl
theorem arr2 {z w:Int} {P Q D:Nat} (hD:0 < D) (h:z*(P:Int)*16=w*(D:Int)) (hq:D*Q=P*16):w=z*(Q:Int):=by
 refine Int.eq_of_mul_eq_mul_right (a:=(D:Int)) (by omega) ?_
 rw [← h,Int.mul_assoc,Int.mul_assoc]
 have e:(P:Int)*16=((P*16:Nat):Int):=by rw [Int.natCast_mul];rfl
 rw [e,← hq,Int.natCast_mul,Int.mul_comm (D:Int)]
theorem arr3 {Z P Q D:Nat} (hq:D*Q=P*16):Z*P*16=Z*Q*D:=by
 rw [Nat.mul_assoc,← hq,Nat.mul_assoc,Nat.mul_comm D]
theorem Sx.sub {b c:Nat} {n m:Int} (s:Sx b n) (t:Sx c m) (hn:n.natAbs≤100000) (hm:m.natAbs≤100000):∃ r,Ieee.single.sub b c=some r∧Sx r (n - m):=by
 obtain ⟨s1,q1,⟨m1,k1,r1,p1,l1⟩,h2,h3⟩:=s.ok
 obtain ⟨s2,q2,⟨m2,k2,r2,p2,l2⟩,g2,g3⟩:=t.ok
 obtain ⟨D,hD⟩:∃ D:Nat,2 ^ 149=D:=⟨_,rfl⟩
 have hDp:0 < D:=by rw [← hD];exact two_pow_pos 149
 have e1:=h2 D hD
 have e2:=g2 D hD
 have a1:sg s1 q1*(16:Nat)=n*(D:Nat):=by rw [← sg_mul,e1,sg_mul,h3]
 have a2:sg s2 q2*(16:Nat)=m*(D:Nat):=by rw [← sg_mul,e2,sg_mul,g3]
 obtain ⟨K,hK⟩:∃ K,min k1 k2=K:=⟨_,rfl⟩
 have hmin:min ((-149:Int)+(k1:Int)) (-149+(k2:Int))=-149+(K:Int):=by omega
 obtain ⟨z,hz⟩:∃ z:Int,sg s1 (m1*2 ^ (k1 - K))+sg (!s2) (m2*2 ^ (k2 - K))=z:=⟨_,rfl⟩
 have hsub:Ieee.single.sub b c=some (Ieee.single.nearest (if z=0 then s1 && !s2 else decide (z < 0)) z.natAbs (-149+(K:Int))):=by
  unfold Ieee.Format.sub
  rw [r1,r2]
  show (Ieee.Datum.sum (.number s1 m1 (-149+(k1:Int))) (.number (!s2) m2 (-149+(k2:Int)))).map _=_
  unfold Ieee.Datum.sum
  simp only [hmin,signed_sg]
  rw [show ((-149:Int)+(k1:Int) - (-149+(K:Int))).toNat=k1 - K by omega,show ((-149:Int)+(k2:Int) - (-149+(K:Int))).toNat=k2 - K by omega,hz]
  rfl
 have pk1:m1*2 ^ (k1 - K)*2 ^ K=q1:=by rw [Nat.mul_assoc,← Nat.pow_add,show k1 - K+K=k1 by omega,p1]
 have pk2:m2*2 ^ (k2 - K)*2 ^ K=q2:=by rw [Nat.mul_assoc,← Nat.pow_add,show k2 - K+K=k2 by omega,p2]
 have hzP:z*((2 ^ K:Nat):Int)*16=(n - m)*(D:Int):=by
  rw [← hz,Int.add_mul,← sg_mul,← sg_mul,pk1,pk2,sg_not,Int.sub_mul,← a1,← a2]
  omega
 by_cases hK2:K≤145
 ·have hpw:2 ^ (145 - K)*2 ^ K*16=D:=by
   rw [← Nat.pow_add,show 145 - K+K=145 by omega,← hD]
  have hzz:z=(n - m)*((2 ^ (145 - K):Nat):Int):=arr1 (two_pow_pos K) hzP hpw
  have hab:z.natAbs=(n - m).natAbs*2 ^ (145 - K):=by rw [hzz,Int.natAbs_mul,Int.natAbs_natCast]
  refine ⟨_,hsub,⟨⟨(if z=0 then s1 && !s2 else decide (z < 0)),(n - m).natAbs*2 ^ 145,?_,?_,sg_sign (s:=s1) (t:=!s2) (P:=2 ^ (145 - K)) (two_pow_pos _) (.inr hzz)⟩⟩⟩
  ·rw [hab,nearest_shift Ieee.single _ (n - m).natAbs (145 - K) _ (by show _ < 2 ^ 24;omega) (by rw [lp32];omega)]
   exact near32 (by omega) _ (by omega) (by decide)
  ·intro D' hD'
   rw [Nat.mul_assoc,← hD']
 ·have hpw:D*2 ^ (K - 145)=2 ^ K*16:=by
   rw [← hD]
   exact (Nat.pow_add 2 149 (K - 145)).symm.trans ((congrArg (fun x=>2 ^ x) (show 149+(K - 145)=K+4 by omega)).trans (Nat.pow_add 2 K 4))
  have hzz:n - m=z*((2 ^ (K - 145):Nat):Int):=arr2 hDp hzP hpw
  have hab:(n - m).natAbs=z.natAbs*2 ^ (K - 145):=by rw [hzz,Int.natAbs_mul,Int.natAbs_natCast]
  have hle:z.natAbs≤(n - m).natAbs:=by rw [hab];exact Nat.le_mul_of_pos_right _ (two_pow_pos _)
  refine ⟨_,hsub,⟨⟨(if z=0 then s1 && !s2 else decide (z < 0)),_,near32 (m:=z.natAbs) (k:=K) (by omega) _ rfl (by omega),?_,sg_sign (s:=s1) (t:=!s2) (P:=2 ^ (K - 145)) (two_pow_pos _) (.inl hzz)⟩⟩⟩
  intro D' hD'
  rw [hab,← hD',hD]
  exact arr3 hpw
end Go.Tidy
namespace Go.Tidy
open Go Go.Proofs Tab
variable {tp:TProg}
theorem read2':Ieee.single.read 1073741824=.number false 8388608 (-22):=by decide
theorem mul2' {b:Nat} {neg:Bool} {m k:Nat} (N:N32 b neg m k) (hk:k≤200):∃ c,Ieee.single.mul 1073741824 b=some c∧V32 c neg (m*2 ^ (k+1)):=by
 have e0:(-22:Int)+(-149+(k:Int))+(23:Nat)=-148+k:=by omega
 have hsh:=nearest_shift Ieee.single neg m 23 (-22+(-149+(k:Int))) N.hm (by rw [lp32,e0];omega)
 rw [e0] at hsh
 refine ⟨Ieee.single.nearest neg m (-148+k),?_,near32 N.hm _ (by omega) (by omega)⟩
 unfold Ieee.Format.mul
 rw [read2',N.read]
 show some (Ieee.single.nearest (false ^^ neg) (8388608*m) (-22+(-149+(k:Int))))=_
 rw [← hsh,Nat.mul_comm]
 congr 1
 cases neg <;> rfl
theorem Samp.two {b:Nat} {n:Int} (s:Samp b n):∃ r,Ieee.single.mul 1073741824 b=some r∧Sx r (2*n):=by
  obtain ⟨neg,q,hV,h2,h3⟩:=s.ok
  obtain ⟨D,hD⟩:∃ D:Nat,2 ^ 149=D:=⟨_,rfl⟩
  have hDp:0 < D:=by rw [← hD];exact two_pow_pos 149
  have e1:=h2 D hD
  have hlim:=s.lim
  rcases single_cases b with h | ⟨s',h⟩ | ⟨neg',m,k,N⟩
  · rw [s.nan] at h;cases h
  · obtain ⟨m',k',r,_⟩:=hV.ok
    rw [h] at r;cases r
  · obtain ⟨m',k',r1,r2,r3⟩:=hV.ok
    rw [N.read] at r1
    simp only [Ieee.Datum.number.injEq] at r1
    obtain ⟨e2,e3,r4⟩:=r1
    subst e2 e3
    obtain rfl:k=k':=by omega
    have hk:k≤200:=by
      by_cases hm0:m=0
      · rw [N.hz hm0];omega
      · by_cases hk:k≤200
        · exact hk
        · have h1:2 ^ k≤m*2 ^ k:=Nat.le_mul_of_pos_left _ (by omega)
          have h2:2 ^ 201≤2 ^ k:=Nat.pow_le_pow_right (by decide) (by omega)
          have h3:16384*D < 2 ^ 201:=by rw [← hD];decide
          have h4:n.natAbs*D≤16384*D:=Nat.mul_le_mul_right _ hlim
          omega
    obtain ⟨c,c1,c2⟩:=mul2' N hk
    refine ⟨c,c1,⟨neg',_,c2,?_,?_⟩⟩
    · intro D' hD'
      rw [Int.natAbs_mul,show (2:Int).natAbs=2 from rfl,Nat.mul_assoc 2,← h2 D' hD',← r2,Nat.pow_succ,Nat.mul_comm (2 ^ k) 2,Nat.mul_left_comm m 2,Nat.mul_assoc 2]
    · rw [Int.natAbs_mul,show (2:Int).natAbs=2 from rfl,Nat.mul_comm,sg_mul,h3]
      omega
section
variable {P:Program} {h:TH} {K:Regs→TH→Prop} {rest:List TOper} {d:Option Tmp} {ty:TypeId} {i:Nat} {x y:Operand} {t u:TypeId} {L:Rg}
end
section
variable {m:Int}
end
end Go.Tidy
namespace Go.Tidy
open Go Go.Proofs Tab
variable {tp:TProg}
theorem Sx.add {b c:Nat} {n m:Int} (s:Sx b n) (t:Sx c m) (hn:n.natAbs≤100000) (hm:m.natAbs≤100000):∃ r,Ieee.single.add b c=some r∧Sx r (n+m):=by
 obtain ⟨s1,q1,⟨m1,k1,r1,p1,l1⟩,h2,h3⟩:=s.ok
 obtain ⟨s2,q2,⟨m2,k2,r2,p2,l2⟩,g2,g3⟩:=t.ok
 obtain ⟨D,hD⟩:∃ D:Nat,2 ^ 149=D:=⟨_,rfl⟩
 have hDp:0 < D:=by rw [← hD];exact two_pow_pos 149
 have e1:=h2 D hD
 have e2:=g2 D hD
 have a1:sg s1 q1*(16:Nat)=n*(D:Nat):=by rw [← sg_mul,e1,sg_mul,h3]
 have a2:sg s2 q2*(16:Nat)=m*(D:Nat):=by rw [← sg_mul,e2,sg_mul,g3]
 obtain ⟨K,hK⟩:∃ K,min k1 k2=K:=⟨_,rfl⟩
 have hmin:min ((-149:Int)+(k1:Int)) (-149+(k2:Int))=-149+(K:Int):=by omega
 obtain ⟨z,hz⟩:∃ z:Int,sg s1 (m1*2 ^ (k1 - K))+sg s2 (m2*2 ^ (k2 - K))=z:=⟨_,rfl⟩
 have hadd:Ieee.single.add b c=some (Ieee.single.nearest (if z=0 then s1 && s2 else decide (z < 0)) z.natAbs (-149+(K:Int))):=by
  unfold Ieee.Format.add
  rw [r1,r2]
  show (Ieee.Datum.sum (.number s1 m1 (-149+(k1:Int))) (.number s2 m2 (-149+(k2:Int)))).map _=_
  unfold Ieee.Datum.sum
  simp only [hmin,signed_sg]
  rw [show ((-149:Int)+(k1:Int) - (-149+(K:Int))).toNat=k1 - K by omega,show ((-149:Int)+(k2:Int) - (-149+(K:Int))).toNat=k2 - K by omega,hz]
  rfl
 have pk1:m1*2 ^ (k1 - K)*2 ^ K=q1:=by rw [Nat.mul_assoc,← Nat.pow_add,show k1 - K+K=k1 by omega,p1]
 have pk2:m2*2 ^ (k2 - K)*2 ^ K=q2:=by rw [Nat.mul_assoc,← Nat.pow_add,show k2 - K+K=k2 by omega,p2]
 have hzP:z*((2 ^ K:Nat):Int)*16=(n+m)*(D:Int):=by
  rw [← hz,Int.add_mul,← sg_mul,← sg_mul,pk1,pk2,Int.add_mul,Int.add_mul n m,← a1,← a2] <;> omega
 by_cases hK2:K≤145
 ·have hpw:2 ^ (145 - K)*2 ^ K*16=D:=by
   rw [← Nat.pow_add,show 145 - K+K=145 by omega,← hD]
  have hzz:z=(n+m)*((2 ^ (145 - K):Nat):Int):=arr1 (two_pow_pos K) hzP hpw
  have hab:z.natAbs=(n+m).natAbs*2 ^ (145 - K):=by rw [hzz,Int.natAbs_mul,Int.natAbs_natCast]
  refine ⟨_,hadd,⟨⟨(if z=0 then s1 && s2 else decide (z < 0)),(n+m).natAbs*2 ^ 145,?_,?_,sg_sign (s:=s1) (t:=s2) (P:=2 ^ (145 - K)) (two_pow_pos _) (.inr hzz)⟩⟩⟩
  ·rw [hab,nearest_shift Ieee.single _ (n+m).natAbs (145 - K) _ (by show _ < 2 ^ 24;omega) (by rw [lp32];omega)]
   exact near32 (by omega) _ (by omega) (by decide)
  ·intro D' hD'
   rw [Nat.mul_assoc,← hD']
 ·have hpw:D*2 ^ (K - 145)=2 ^ K*16:=by
   rw [← hD]
   exact (Nat.pow_add 2 149 (K - 145)).symm.trans ((congrArg (fun x=>2 ^ x) (show 149+(K - 145)=K+4 by omega)).trans (Nat.pow_add 2 K 4))
  have hzz:n+m=z*((2 ^ (K - 145):Nat):Int):=arr2 hDp hzP hpw
  have hab:(n+m).natAbs=z.natAbs*2 ^ (K - 145):=by rw [hzz,Int.natAbs_mul,Int.natAbs_natCast]
  have hle:z.natAbs≤(n+m).natAbs:=by rw [hab];exact Nat.le_mul_of_pos_right _ (two_pow_pos _)
  refine ⟨_,hadd,⟨⟨(if z=0 then s1 && s2 else decide (z < 0)),_,near32 (m:=z.natAbs) (k:=K) (by omega) _ rfl (by omega),?_,sg_sign (s:=s1) (t:=s2) (P:=2 ^ (K - 145)) (two_pow_pos _) (.inl hzz)⟩⟩⟩
  intro D' hD'
  rw [hab,← hD',hD]
  exact arr3 hpw
section
variable {P:Program} {h:TH} {K:Regs→TH→Prop} {rest:List TOper} {d:Option Tmp} {ty:TypeId} {i:Nat} {x y:Operand} {t u:TypeId} {L:Rg}
end
section
variable {h:TH} {v w fv:Value} {F G:List Nat} {es es' ee L M D S:List Int} {x y m:Int} {fa fb fc:Nat}
end
end Go.Tidy
namespace Go.Tidy
open Go Go.Proofs Tab
variable {tp:TProg}
def encU (b:_root_.Fin 256):List Value:=[.int .u8 (b.val:Nat)]
theorem eU:Enc encU 1:=⟨fun _=>rfl,fun _=>rfl⟩
theorem sl_toI {P:Program} {t e:TypeId} {z:List Value} {row:Bool} {α:Type} {enc:α→List Value} {n hi:Nat} {h:TH} {v:Value} {l:List α} {k:IntKind} (E:Enc enc n) (hu:P.underlying t=some (.slice e)) (he:Tp P e n z row) (s:SlL enc n h v l) (ft:Fits h v e) (h2:hi≤l.length) :
  ∃ v',sliceT P t v none (some (.int k (hi:Nat))) none h=some v'∧SlL enc n h v' (l.take hi):=by
 obtain ⟨inf,q1,q2,q3,_⟩:=he.i
 obtain ⟨bo,cap,rfl,hc,hl,hcase⟩:=s
 have hcut:cut3 l.length cap none (some (.int k (hi:Nat))) none=some (0,hi,cap):=by
  simp only [cut3,show boundT none cap cap=some cap from rfl,show ∀ x,boundT none 0 x=some 0 from fun _=>rfl,Option.bind_some,Option.isNone_some,Option.isSome_none,Bool.and_self,Bool.cond_false,bound_in (show hi≤cap by omega),Option.map_some]
 have lt:(l.take hi).length=hi:=by rw [List.length_take];omega
 rcases hcase with ⟨rfl,hz⟩ | ⟨b,off,cc,fix,wr,el,rfl,g1,g2,g3⟩
 ·have e0:l=[]:=List.eq_nil_of_length_eq_zero hz
  subst e0
  obtain rfl:hi=0:=by simp at h2;omega
  refine ⟨.slice none 0 (cap - 0),?_,none,cap - 0,rfl,Nat.zero_le _,by simp [cat],.inl ⟨rfl,rfl⟩⟩
  have hcut':=hcut
  simp only [sliceT,hu,ble_yes hc,Bool.cond_true,hcut,Option.bind_some,q1]
 ·obtain ⟨cc',fix',wr',el',gg,hf⟩:=ft b off l.length cap rfl
  have hle:hi*n≤l.length*n:=Nat.mul_le_mul_right _ h2
  refine ⟨.slice (some ⟨b,off+0*inf.size,none⟩) (hi - 0) (cap - 0),?_,some ⟨b,off+0*inf.size,none⟩,cap - 0,?_,?_,?_,.inr ⟨b,off+0*inf.size,cc,fix,wr,el,rfl,g1,?_,?_⟩⟩
  ·simp only [sliceT,hu,ble_yes hc,Bool.cond_true,hcut,Option.bind_some,q1,fits_of gg hf]
  ·rw [lt];rfl
  ·rw [lt];omega
  ·rw [E.cat_len]
  ·rw [lt,Nat.zero_mul,Nat.add_zero]
   have:(cc.drop off).take (hi*n)=((cc.drop off).take (l.length*n)).take (hi*n):=by rw [List.take_take,Nat.min_eq_left hle]
   rw [this,g2]
   have e:cat enc l=cat enc (l.take hi) ++ cat enc (l.drop hi):=by rw [← cat_append,List.take_append_drop]
   rw [e,List.take_left' (by rw [E.cat_len,lt])]
  ·rw [lt,Nat.zero_mul];omega
section
variable {h:TH} {v w fv:Value} {F G:List Nat} {es es' ee L M D S:List Int} {x y m:Int} {fa fb fc:Nat}
end
end Go.Tidy
namespace Go.Tidy
section
variable {keep:Nat→Bool} {x:Nat→Int}
def celJ (keep:Nat→Bool) (x:Nat→Int) (p:Nat):Int × Bool:=if keep (p / 3) then (x p,true) else (0,false)
def rowJ (keep:Nat→Bool) (x:Nat→Int) (lo hi:Nat):List (Int × Bool):=(List.range' lo (hi - lo)).map (celJ keep x)
end
def keptJ (keep:Nat→Bool) (n:Nat):List Nat:=(List.range n).filter keep
end Go.Tidy
namespace Go.Tidy
open Go Go.Proofs Tab
variable {tp:TProg}
def lane (s:Nat→ByteArray) (n:Int) (h:TH) (v1 v2:Nat→Value) (C:Nat→List (Int × Bool)) (N:Nat):Prop:=∀ k,RunC (s k) n h (v1 k) (v2 k) (C k)∧(C k).length=N
theorem lane.hx {s:Nat→ByteArray} {n:Int} {h h':TH} {v1 v2:Nat→Value} {C:Nat→List (Int × Bool)} {N:Nat} (l:lane s n h v1 v2 C N) (x:HX h h'):lane s n h' v1 v2 C N:=fun k=>⟨(l k).1.hx x,(l k).2⟩
section
variable {s:Nat→ByteArray} {n:Int} {v1 v2:Nat→Value} {C:Nat→List (Int × Bool)} {N lb c2 c7:Nat} {m:Int} {hb g:TH} {Q:Exit→Regs→TH→Prop} {gx:Nat} {p126 p127 p128:Value}
end
end Go.Tidy
namespace Go.Tidy
open Go Go.Proofs Tab
variable {tp:TProg}
section
variable {src n:Nat} {kp:Nat→Bool} {x:Nat→Int}
end
abbrev rN:ByteArray:=⟨#[114]⟩
theorem Above.none {n0 m c:Nat}:Above n0 (.slice .none m c):=fun b off sp m c h=>by cases h
theorem Above.of {n0 b m c:Nat} (h:n0≤b):Above n0 (.slice (some ⟨b,0,.none⟩) m c):=fun b off sp m c e=>by cases e;exact h
def JRun (kp:Nat→Bool) (x:Nat→Int) (n j:Nat) (s:Int × Value × Value) (g:TH):Prop :=
 (j=0∧s=(0,.slice none 0 0,.slice none 0 0))∨∃ k c0 cl,j=k+1∧(keptJ kp n)[0]?=some c0∧(keptJ kp n)[k]?=some cl∧c0≤cl∧s.1=((3*c0:Nat):Int)∧RunC rN ((3*c0:Nat):Int) g s.2.1 s.2.2 (rowJ kp x (3*c0) (3*(cl+1)))
theorem JRun.hx {kp:Nat→Bool} {x:Nat→Int} {n j:Nat} {s:Int × Value × Value} {g g':TH} (q:JRun kp x n j s g) (X:HX g g'):JRun kp x n j s g':=by
 rcases q with q | ⟨k,c0,cl,q1,q2,q3,q4,q5,q6⟩
 ·exact .inl q
 ·exact .inr ⟨k,c0,cl,q1,q2,q3,q4,q5,q6.hx X⟩
section
variable {hB i7:TH} {n:Nat} {kp:Nat→Bool} {x:Nat→Int} {c7 c10 c0 cl c N:Nat} {p2 v1 v2 u1 u2 w17:Value} {j:Int}
end
end Go.Tidy
namespace Go.Tidy
open Go Go.Proofs Tab
variable {tp:TProg}
abbrev Tri:=Int × Int × Int
def encT (t:Tri):List Value:=[.int .i8 t.1,.int .i8 t.2.1,.int .i8 t.2.2]
theorem eT:Enc encT 3:=⟨fun _=>rfl,fun _=>rfl⟩
section
variable {kp:Nat→Bool} {x:Nat→Int} {n j:Nat}
end
section
variable {P:Program} {h:TH} {K:Regs→TH→Prop} {rest:List TOper} {d:Option Tmp} {ty t u:TypeId} {i:Nat} {x y:Operand} {L:Rg}
end
end Go.Tidy
namespace Go.Tidy
open Go Go.Proofs Tab
variable {tp:TProg}
structure RowsI (h:TH) (b:Nat) (Xs:List Value) (Cs:List (List Int)):Prop where
 at_:At h b (.cells Xs true true 47)
 len:Xs.length=Cs.length
 sl:∀ (i:Nat) (x:Value) (C:List Int),Xs[i]?=some x→Cs[i]?=some C→SlL encI 1 h x C
theorem RowsI.hx {h h':TH} {b:Nat} {Xs:List Value} {Cs:List (List Int)} (r:RowsI h b Xs Cs) (x:HX h h'):RowsI h' b Xs Cs:=⟨r.at_.hx x,r.len,fun i y C h1 h2=>(r.sl i y C h1 h2).hx x⟩
end Go.Tidy
namespace Go.Tidy
open Go Go.Proofs Tab
variable {tp:TProg}
section
variable {P:Program} {h:TH} {K:Regs→TH→Prop} {rest:List TOper} {d:Option Tmp} {ty:TypeId} {i:Nat} {x y:Operand} {t u:TypeId} {L:Rg}
end
section
variable {h:TH} {v w v8 v9 v14 v16 v22:Value} {F G:List Nat} {es es' L M D:List Int} {x y z n d ez o:Int} {fz c3:Nat} {s:ByteArray}
def addLI (L:List Int) (o:Int):List Int:=L.map fun x=>x+o
theorem add_len:(addLI L o).length=L.length:=List.length_map ..
theorem add_get {i:Nat} (h:i < L.length):(addLI L o).getD i 0=L.getD i 0+o:=by
 unfold addLI
 rw [List.getD_eq_getElem?_getD,List.getElem?_map,at_getD h];rfl
end
end Go.Tidy
namespace Go.Tidy
open Go Go.Proofs Tab
variable {tp:TProg}
section
variable {h:TH} {v w v5 v6 v8 v9 v14 v18 v22:Value} {F G R Q T:List Nat} {es es' L M D:List Int} {x y z n d ez o p:Int} {fz fo c13 c8 c9:Nat} {s:ByteArray}
def MixS (j:Nat) (o:Int) (F:List Nat) (L:List Int) (R:List Nat):Prop:=R.length=F.length∧(∀ i,i < j→Samp (R.getD i 0) (L.getD i 0+o))∧∀ i,j≤i→R[i]?=F[i]?
theorem MixS.set {j r:Nat} (m:MixS j o F L R) (hj:j < F.length) (sr:Samp r (L.getD j 0+o)):MixS (j+1) o F L (R.set j r):=by
 obtain ⟨h1,h2,h3⟩:=m
 refine ⟨by rw [List.length_set];exact h1,fun i hi=>?_,fun i hi=>?_⟩
 ·by_cases e:i=j
  ·subst e
   rw [List.getD_eq_getElem?_getD,List.getElem?_set_self (by omega)]
   exact sr
  ·rw [List.getD_eq_getElem?_getD,List.getElem?_set_ne (Ne.symm e),← List.getD_eq_getElem?_getD]
   exact h2 i (by omega)
 ·rw [List.getElem?_set_ne (by omega)]
  exact h3 i (by omega)
theorem MixS.lev (m:MixS F.length o F L R) (ll:F.length=L.length):Lev R (addLI L o):=by
 obtain ⟨h1,h2,h3⟩:=m
 refine ⟨by rw [add_len];omega,fun i bb nn e1 e2=>?_⟩
 have hi:i < R.length:=(List.getElem?_eq_some_iff.1 e1).1
 have q1:=h2 i (by omega)
 rw [List.getD_eq_getElem?_getD (l:=R),e1] at q1
 have q2:=add_get (L:=L) (o:=o) (i:=i) (by omega)
 rw [List.getD_eq_getElem?_getD,e2] at q2
 replace q2:nn=_:=q2
 rw [q2];exact q1
end
end Go.Tidy
namespace Go.Tidy
open Go Go.Proofs Tab
variable {tp:TProg}
def rtN (m:Int) (n:Nat):Int:=fwrap .i64 (m.tdiv (Nat.gcd m.natAbs n:Nat))
def rtD (m:Int) (n:Nat):Int:=fwrap .i64 ((n:Int).tdiv (Nat.gcd m.natAbs n:Nat))
section
variable {h:TH} {a b:Int} {n:Nat}
end
end Go.Tidy
namespace Go.Tidy
open Go Go.Proofs Tab
variable {tp:TProg}
section
variable {P:Program}
theorem pv_eqJ {t:TypeId} {d:Nat} {k:IntKind} {a b:Int} (hu:P.underlying t=some (.int k)):pv P (Op.equalIn (d+1) t (.int k a) (.int k b))=some (a == b):=by
 rw [Op.equalIn,pv_bind,pv_underlying hu]
 simp [pv_pure]
variable {h:TH} {K:Regs→TH→Prop} {rest:List TOper} {d:Option Tmp} {ty:TypeId} {i:Nat} {x y:Operand} {t u:TypeId} {L:Rg}
end
section
variable {h:TH} {p q r s k:Nat} {a b c d:Int}
end
end Go.Tidy
namespace Go.Tidy
open Go Go.Proofs Tab
variable {tp:TProg}
section
variable {P:Program}
theorem pv_eqr2d {t : TypeId} {n : Nat} {f1 f2 : Field} {a b c d : Int} (hu : P.underlying t = some (.struct #[f1, f2])) (hs : P.stoodInHeld t = false) (h1 : f1.offset = 0) (h2 : f2.offset = 1) (m1 : f1.name ≠ "_") (m2 : f2.name ≠ "_") (u1 : P.underlying f1.type = some (.int .i64)) (u2 : P.underlying f2.type = some (.int .i64)) :
    pv P (Op.equalIn (n+1+1) t (.agg #[.int .i64 a,.int .i64 b]) (.agg #[.int .i64 c,.int .i64 d]))=some (cond (a == c) (b == d) false):=by
  rw [Op.equalIn,pv_bind,pv_underlying hu]
  simp only [Option.bind_some]
  rw [pv_bind,pv_program]
  simp only [Option.bind_some,hs]
  have e1:=pv_eqJ (d:=n) (a:=a) (b:=c) u1
  have e2:=pv_eqJ (d:=n) (a:=b) (b:=d) u2
  have q1:=pv_part0 (v:=Value.int .i64 a) (w:=Value.int .i64 b) u1
  have q2:=pv_part1 (v:=Value.int .i64 a) (w:=Value.int .i64 b) u2
  have r1:=pv_part0 (v:=Value.int .i64 c) (w:=Value.int .i64 d) u1
  have r2:=pv_part1 (v:=Value.int .i64 c) (w:=Value.int .i64 d) u2
  cases ha:(a == c) <;> cases hb:(b == d) <;> simp [pv_bind,pv_pure,h1,h2,m1,m2,e1,e2,q1,q2,r1,r2,ha,hb]
end
theorem pt24_0 {a b c d:Int}:pv Tryz.prog (Go.part 30 #[zi a,zi b,zi c,zi d] 0)=some (.agg #[zi a,zi b]):=by kernel_rfl
theorem pt24_2 {a b c d:Int}:pv Tryz.prog (Go.part 30 #[zi a,zi b,zi c,zi d] 2)=some (.agg #[zi c,zi d]):=by kernel_rfl
theorem rat24':Rat2 Tryz.prog 30:=⟨⟨_,_,Tryz.underlying30,rfl,rfl,by decide,by decide,Tryz.underlying3,Tryz.underlying3⟩,by kernel_rfl,by kernel_rfl⟩
section
variable {hp:TH} {K:Regs→TH→Prop} {rest:List TOper} {dd:Option Tmp} {ty:TypeId} {i:Nat} {x y:Operand} {u:TypeId} {L:Rg}
end
end Go.Tidy
namespace Go.Tidy
open Go Go.Proofs Tab
variable {tp:TProg}
theorem k78v (H:Has tp) {m:Int} {n:Nat} {h:TH} (hm1:-4000000000000000000≤m) (hm2:m≤4000000000000000000) (hn1:1≤n) (hn2:n≤4000000000000000000) :
  CallW Tryz.prog tp (.func (.func 127) #[] #[]) #[.int .i64 m,.int .i64 n] h fun v h'=>v=.int .i64 (Nat.gcd m.natAbs n:Nat)∧h'=h:=by
 refine CallW.full (H.fn 127 f78 rfl rfl) rfl ?_
 refine W.seq (W.reg (WO.as rfl (WO.nil ?_)))
 refine W.seq (W.reg (WO.mv rfl (WO.mv rfl (WO.neg rfl (WO.max rfl rfl (WO.as rfl (WO.nil ?_)))))))
 refine W.seq (W.block (W.loop (fun k a h1=>h1=h∧∃ x y:Nat,k=x∧x≤4000000000000000000∧y≤4000000000000000000∧Nat.gcd x y=Nat.gcd m.natAbs n∧Full 16 a∧Tr.get a 0=some (.int .i64 (x:Nat))∧Tr.get a 1=some (.int .i64 (y:Nat)))
  ?_ m.natAbs _ h ⟨rfl,m.natAbs,n,rfl,by omega,by omega,rfl,(by repeat (first | with_reducible refine Full.put ?_ (by decide) _ | with_reducible refine Full.putn ?_ _ | with_reducible exact Full.of _ _ rfl | with_reducible exact Full.start _ _ (Nat.le_of_ble_eq_true rfl) | exact Full.start _ _ (Nat.le_of_ble_eq_true rfl))),?_,rfl⟩))
 rotate_left
 ·show some (Value.int .i64 (max m (IntKind.i64.wrap (-m))))=_
  rw [IntWalk.i64_in _ (by omega)]
  congr 2
  omega
 rintro k a h1 ⟨rfl,x,y,rfl,hx,hy,hg,hf,h0,h1⟩
 (obtain ⟨rl0,hrl0,rfl⟩:=hf;obtain ⟨s0,s1,s2,s3,s4,s5,s6,s7,rl1,rfl,hrl1⟩:=cons8 hrl0;obtain ⟨s8,s9,s10,s11,s12,s13,s14,s15,rl2,rfl,hrl2⟩:=cons8 hrl1;obtain rfl:=nil_of hrl2;clear hrl0 hrl1 hrl2;obtain rfl:s0=_:=Option.some.inj (show some s0=some _ from h0);clear h0;obtain rfl:s1=_:=Option.some.inj (show some s1=some _ from h1);clear h1)
 refine W.seq (W.seq (W.reg (WO.mv rfl (WO.bi rfl rfl rfl (WO.nil ?_)))))
 refine W.cd rfl ?_
 by_cases hz:k=0
 ·subst hz
  refine OnB.no (W.exit ?_)
  repeat' (first
  | refine WO.mv rfl ?_ | refine WO.as rfl ?_ | refine WO.bi rfl rfl rfl ?_
  | refine WO.nil ?_
  | refine W.seq ?_ | refine W.reg ?_ | refine W.ret ?_ | refine W.skip ?_ | refine W.exit ?_ | refine W.block ?_
  | refine WO.nt rfl ?_
  | with_reducible refine OnB.yes ?_ | with_reducible refine OnB.no ?_ | with_reducible refine OnB.way (fun hb=>?_) (fun hb=>?_)
  | refine WO.gu rfl rfl ?_ | refine WO.gt rfl rfl ?_ | refine WO.gf rfl rfl ?_
  | refine WO.pk rfl rfl rfl ?_
  | refine W.cd rfl ?_)
  refine ⟨.inr rfl,_,rfl,?_,rfl⟩
  show Value.int _ _=Value.int _ _
  rw [← hg,Nat.gcd_zero_left]
 ·have hd:((k:Int) != 0)=true:=by simpa using hz
  rw [hd]
  refine OnB.yes (W.skip ?_)
  refine W.block (W.reg (WO.mv rfl (WO.mv rfl (WO.rem rfl rfl (by omega) (WO.mv rfl (WO.as rfl (WO.as rfl (WO.nil ?_))))))))
  have hlt:y % k < k:=Nat.mod_lt _ (by omega)
  refine ⟨y % k,hlt,rfl,y % k,k,rfl,by omega,by omega,?_,(by repeat (first | with_reducible refine Full.put ?_ (by decide) _ | with_reducible refine Full.putn ?_ _ | with_reducible exact Full.of _ _ rfl | with_reducible exact Full.start _ _ (Nat.le_of_ble_eq_true rfl) | exact Full.start _ _ (Nat.le_of_ble_eq_true rfl))),?_,rfl⟩
  ·rw [← hg,← Nat.gcd_rec]
  ·show some (Value.int .i64 (Int.tmod (y:Int) (k:Int)))=_
   rw [Int.tmod_eq_emod_of_nonneg (by omega)]
   rfl
theorem k79v (H:Has tp) {m:Int} {n:Nat} {h:TH} (hm1:-4000000000000000000≤m) (hm2:m≤4000000000000000000) (hn1:1≤n) (hn2:n≤4000000000000000000) :
  CallW Tryz.prog tp (.func (.func 102) #[] #[]) #[.int .i64 m,.int .i64 n] h fun v h'=>v=.int .i64 (Nat.gcd m.natAbs n:Nat)∧h'=h:=by
 refine CallW.full (H.fn 102 f79 rfl rfl) rfl ?_
 refine W.seq (W.reg (WO.as rfl (WO.nil ?_)))
 refine W.seq (W.reg (WO.mv rfl (WO.mv rfl (WO.bi rfl rfl rfl (WO.max rfl rfl (WO.mv rfl (WO.mv rfl (WO.bi rfl rfl rfl (WO.max rfl rfl (WO.as rfl (WO.as rfl (WO.nil ?_))))))))))))
 refine W.seq (W.block (W.loop (fun k a h1=>h1=h∧∃ x y:Nat,k=y∧x≤4000000000000000000∧y≤4000000000000000000∧Nat.gcd x y=Nat.gcd m.natAbs n∧Full 20 a∧Tr.get a 0=some (.int .i64 (x:Nat))∧Tr.get a 1=some (.int .i64 (y:Nat)))
  ?_ n _ h ⟨rfl,m.natAbs,n,rfl,by omega,by omega,rfl,(by repeat (first | with_reducible refine Full.put ?_ (by decide) _ | with_reducible refine Full.putn ?_ _ | with_reducible exact Full.of _ _ rfl | with_reducible exact Full.start _ _ (Nat.le_of_ble_eq_true rfl) | exact Full.start _ _ (Nat.le_of_ble_eq_true rfl))),?_,?_⟩))
 rotate_left
 ·show some (Value.int .i64 (max m (fwrap .i64 (0 - m))))=_
  rw [fwrap_i64 (by omega) (by omega)]
  congr 2
  omega
 ·show some (Value.int .i64 (max (n:Int) (fwrap .i64 (0 - (n:Int)))))=_
  rw [fwrap_i64 (by omega) (by omega)]
  congr 2
  omega
 rintro k a h1 ⟨rfl,x,y,rfl,hx,hy,hg,hf,h0,h1⟩
 (obtain ⟨rl0,hrl0,rfl⟩:=hf;obtain ⟨s0,s1,s2,s3,s4,s5,s6,s7,rl1,rfl,hrl1⟩:=cons8 hrl0;obtain ⟨s8,s9,s10,s11,s12,s13,s14,s15,rl2,rfl,hrl2⟩:=cons8 hrl1;obtain ⟨s16,rl3,rfl,hrl3⟩:=cons_of hrl2;obtain ⟨s17,rl4,rfl,hrl4⟩:=cons_of hrl3;obtain ⟨s18,rl5,rfl,hrl5⟩:=cons_of hrl4;obtain ⟨s19,rl6,rfl,hrl6⟩:=cons_of hrl5;obtain rfl:=nil_of hrl6;clear hrl0 hrl1 hrl2 hrl3 hrl4 hrl5 hrl6;obtain rfl:s0=_:=Option.some.inj (show some s0=some _ from h0);clear h0;obtain rfl:s1=_:=Option.some.inj (show some s1=some _ from h1);clear h1)
 refine W.seq (W.seq (W.reg (WO.mv rfl (WO.bi rfl rfl rfl (WO.nil ?_)))))
 refine W.cd rfl ?_
 by_cases hz:k=0
 ·subst hz
  refine OnB.no (W.exit ?_)
  repeat' (first
  | refine WO.mv rfl ?_ | refine WO.as rfl ?_ | refine WO.bi rfl rfl rfl ?_
  | refine WO.nil ?_
  | refine W.seq ?_ | refine W.reg ?_ | refine W.ret ?_ | refine W.skip ?_ | refine W.exit ?_ | refine W.block ?_
  | refine WO.nt rfl ?_
  | with_reducible refine OnB.yes ?_ | with_reducible refine OnB.no ?_ | with_reducible refine OnB.way (fun hb=>?_) (fun hb=>?_)
  | refine WO.gu rfl rfl ?_ | refine WO.gt rfl rfl ?_ | refine WO.gf rfl rfl ?_
  | refine WO.pk rfl rfl rfl ?_
  | refine W.cd rfl ?_)
  refine ⟨.inr rfl,_,rfl,?_,rfl⟩
  show Value.int _ _=Value.int _ _
  rw [← hg,Nat.gcd_zero_right]
 ·have hd:decide ((k:Int) > 0)=true:=by simp;omega
  rw [hd]
  refine OnB.yes (W.skip ?_)
  refine W.block (W.reg (WO.mv rfl (WO.mv rfl (WO.mv rfl (WO.rem rfl rfl (by omega) (WO.as rfl (WO.as rfl (WO.nil ?_))))))))
  have hlt:x % k < k:=Nat.mod_lt _ (by omega)
  refine ⟨x % k,hlt,rfl,k,x % k,rfl,by omega,by omega,?_,(by repeat (first | with_reducible refine Full.put ?_ (by decide) _ | with_reducible refine Full.putn ?_ _ | with_reducible exact Full.of _ _ rfl | with_reducible exact Full.start _ _ (Nat.le_of_ble_eq_true rfl) | exact Full.start _ _ (Nat.le_of_ble_eq_true rfl))),rfl,?_⟩
  ·rw [← hg,Nat.gcd_comm k,← Nat.gcd_rec,Nat.gcd_comm]
  ·show some (Value.int .i64 (Int.tmod (x:Int) (k:Int)))=_
   rw [Int.tmod_eq_emod_of_nonneg (by omega)]
   rfl
theorem k91v (H:Has tp) {m:Int} {n:Nat} {h:TH} (hm1:-4000000000000000000≤m) (hm2:m≤4000000000000000000) (hn1:1≤n) (hn2:n≤4000000000000000000) (f:Free0 h.next h) :
  CallW Tryz.prog tp (.func (.func 64) #[] #[]) #[.int .i64 m,.int .i64 n] h fun v h'=>v=.agg #[.int .i64 (fwrap .i64 (m.tdiv (Nat.gcd m.natAbs n:Nat))),.int .i64 (fwrap .i64 ((n:Int).tdiv (Nat.gcd m.natAbs n:Nat)))]∧HX h h':=by
 have hg:0 < Nat.gcd m.natAbs n:=Nat.gcd_pos_of_pos_right _ (by omega)
 refine CallW.fnL (H.fn 64 f91 rfl rfl) ?_
 refine WL.sr<|WOL.al tp24 fun h1 N1=>?_
 refine WOL.nil<|keep [(0,_),(1,_),(4,_)] ⟨rfl,rfl,rfl,trivial⟩ ?_
 refine WL.sr<|WOL.mv rfl<|WOL.mv rfl ?_
 refine WOL.cl2 rfl rfl rfl ((k78v H hm1 hm2 hn1 hn2).mono ?_)
 rintro v h2 ⟨rfl,rfl⟩
 refine WOL.as rfl<|WOL.nil<|keep [(0,_),(1,_),(4,_),(5,_)] ⟨rfl,rfl,rfl,rfl,trivial⟩ ?_
 refine WL.sr<|WOL.mv rfl<|WOL.mv rfl ?_
 refine fun a q=>WO.quoI (q.o rfl) (q.o rfl) (by omega) (q.nx ?_)
 refine WOL.mv rfl<|WOL.mv rfl ?_
 refine fun a q=>WO.quoI (q.o rfl) (q.o rfl) (by omega) (q.nx ?_)
 refine WOL.bd rfl bd24 ?_
 refine WOL.sto rfl rfl tp24 N1.at_ rfl rfl (Nat.le_of_ble_eq_true rfl) rfl (f.hx N1.hx) (Nat.le_refl _) fun h3 P3=>?_
 refine WOL.nil<|keep [(4,_)] ⟨rfl,trivial⟩ ?_
 exact WL.ret (WL.endC (t:=4) rfl (load_row tp24 P3.at_ rfl (Nat.le_of_ble_eq_true rfl)) ⟨rfl,P3.hx _ N1.hx (Nat.le_refl _)⟩)
section
variable {h:TH} {v:Value} {m:Int} {n:Nat}
theorem k98v (H:Has tp) (hm1:-4000000000000000000≤m) (hm2:m≤4000000000000000000) (hn1:1≤n) (hn2:n≤4000000000000000000) (f:Free0 h.next h) :
  CallW Tryz.prog tp (.func (.func 41) #[] #[]) #[.int .i64 m,.int .i64 n] h fun v h'=>v=.agg #[zi (rtN m n),zi (rtD m n)]∧HX h h':=by
 have hg:0 < Nat.gcd m.natAbs n:=Nat.gcd_pos_of_pos_right _ (by omega)
 refine CallW.fnL (H.fn 41 f98 rfl rfl) ?_
 refine WL.sr<|WOL.al tp24 fun h1 N1=>?_
 refine WOL.nil<|keep [(0,_),(1,_),(4,_)] ⟨rfl,rfl,rfl,trivial⟩ ?_
 refine WL.sr<|WOL.mv rfl<|WOL.mv rfl ?_
 refine WOL.cl2 rfl rfl rfl ((k79v H hm1 hm2 hn1 hn2).mono ?_)
 rintro v h2 ⟨rfl,rfl⟩
 refine WOL.as rfl<|WOL.nil<|keep [(0,_),(1,_),(4,_),(5,_)] ⟨rfl,rfl,rfl,rfl,trivial⟩ ?_
 refine WL.seq<|WL.sr<|WOL.mv rfl<|WOL.bf rfl rfl rfl (decide_eq_false (show ¬ ((n:Nat):Int) < 0 by omega))<|WOL.nil<|WL.no rfl<|WL.skip<|keep [(0,_),(1,_),(4,_),(5,_)] ⟨rfl,rfl,rfl,rfl,trivial⟩ ?_
 refine WL.sr<|WOL.mv rfl<|WOL.mv rfl ?_
 refine fun a q=>WO.quoI (q.o rfl) (q.o rfl) (by omega) (q.nx ?_)
 refine WOL.mv rfl<|WOL.mv rfl ?_
 refine fun a q=>WO.quoI (q.o rfl) (q.o rfl) (by omega) (q.nx ?_)
 refine WOL.bd rfl bd24 ?_
 refine WOL.sto rfl rfl tp24 N1.at_ rfl rfl (Nat.le_of_ble_eq_true rfl) rfl (f.hx N1.hx) (Nat.le_refl _) fun h3 P3=>?_
 refine WOL.nil<|keep [(4,_)] ⟨rfl,trivial⟩ ?_
 exact WL.ret (WL.endC (t:=4) rfl (load_row tp24 P3.at_ rfl (Nat.le_of_ble_eq_true rfl)) ⟨rfl,P3.hx _ N1.hx (Nat.le_refl _)⟩)
end
end Go.Tidy
namespace Go.Tidy
open Go Go.Proofs Tab
variable {tp:TProg}
theorem fz_cons {x:Int} {l:List Int}:firstNZ (x::l)=cond (x != 0) x (firstNZ l):=rfl
theorem bne_z {x:Int}:(x != 0)=false ↔ x=0:=by simp
section
variable {h:TH} {c s q c' s' q':Int}
end
end Go.Tidy
namespace Go.Tidy
open Go Go.Proofs Tab
section
variable {P:Program} {tp:TProg} {h:TH} {K:Regs→TH→Prop} {rest:List TOper} {d:Option Tmp} {ty:TypeId} {i:Nat} {x l0:Operand} {ls:List Operand} {L:Rg} {t:TypeId} {v w:Value} {name:String} {k:Nat} {ts:Array TypeId}
theorem StepW.inv0 {ρ:Operand→Value} {V:Value→TH→Prop} {g:Option (Tmp × Bool)} {ls:List Operand} (hr:ρ x=.iface t v) (hm:methodP P t name=some k) (w:CallW P tp (.func (.func k) #[] #[]) #[v] h V):StepW P tp ⟨d,.call ⟨.invoke x name,#[],ts⟩,ty,g,ls,i⟩ ρ h V:=by
 unfold CallW at w
 obtain ⟨n,u,h',e,q⟩:=w
 unfold StepW
 exact ⟨n,u,h',fun m hm'=>by simp [stepOp,heapFirst,fastOp,valueOp,plainOp,plainly,heapOp,hr,hm,e m hm'],q⟩
theorem WOL.inv0 (hx:getL L x=some (.iface t v)) (hm:methodP P t name=some k) (w:CallW P tp (.func (.func k) #[] #[]) #[v] h fun u h1=>∀ a,Kn (putL L d u) a→WO P tp rest a h1 K):∀ a,Kn L a→WO P tp (⟨d,.call ⟨.invoke x name,#[],ts⟩,ty,none,[],i⟩::rest) a h K :=
 fun _ q=>WO.cons rfl rfl (StepW.inv0 (getO_eval (q.o hx)) hm (w.mono fun _ _ z=>q.nx z))
theorem WOL.mi {u:TypeDesc} (hx:getL L x=some v) (hu:P.underlying t=some u) (hn:∀ z,u≠.interface z) (w:∀ a,Kn (putL L d (.iface t v)) a→WO P tp rest a h K):∀ a,Kn L a→WO P tp (⟨d,.makeInterface t x,ty,none,[],i⟩::rest) a h K:=fun a k=>by
 have ex:=getO_eval (k.o hx)
 refine WO.op (h1:=h) rfl rfl (fun call=>?_) (w _ (k.put d _))
 cases u with
 | interface z=>exact absurd rfl (hn z)
 | _=>simp [stepOp,heapFirst,fastOp,valueOp,ex,hu]
end
variable {tp:TProg}
theorem tp1671:Tp Tryz.prog 120 2 [.int .i64 0,.int .i64 0] true:=tp_of (by kernel_rfl) (by kernel_rfl) rfl
theorem tp1673:Tp Tryz.prog 128 2 [.int .i64 0,.string ⟨#[]⟩] true:=tp_of (by kernel_rfl) (by kernel_rfl) rfl
theorem tp1666:Tp Tryz.prog 77 2 [.int .i64 0,.int .i64 0] true:=tp_of (by kernel_rfl) (by kernel_rfl) rfl
theorem tp1668:Tp Tryz.prog 62 2 [.int .i64 0,.string ⟨#[]⟩] true:=tp_of (by kernel_rfl) (by kernel_rfl) rfl
theorem tp1660:Tp Tryz.prog 39 3 [.string ⟨#[]⟩,.slice none 0 0,.slice none 0 0] true:=tp_of (by kernel_rfl) (by kernel_rfl) rfl
theorem tp1654:Tp Tryz.prog 25 3 [.string ⟨#[]⟩,.slice none 0 0,.slice none 0 0] true:=tp_of (by kernel_rfl) (by kernel_rfl) rfl
theorem tp1657:Tp Tryz.prog 36 1 [.slice none 0 0] false:=tp_of (by kernel_rfl) (by kernel_rfl) rfl
theorem tp1658:Tp Tryz.prog 37 1 [.slice none 0 0] false:=tp_of (by kernel_rfl) (by kernel_rfl) rfl
theorem tp1651:Tp Tryz.prog 22 1 [.slice none 0 0] false:=tp_of (by kernel_rfl) (by kernel_rfl) rfl
theorem tp1652:Tp Tryz.prog 23 1 [.slice none 0 0] false:=tp_of (by kernel_rfl) (by kernel_rfl) rfl
theorem u1657:Tryz.prog.underlying 36=some (.slice 120):=by kernel_rfl
theorem u1658:Tryz.prog.underlying 37=some (.slice 128):=by kernel_rfl
theorem u1651:Tryz.prog.underlying 22=some (.slice 77):=by kernel_rfl
theorem u1652:Tryz.prog.underlying 23=some (.slice 62):=by kernel_rfl
theorem fo1671_0:fieldOff Tryz.prog 120 0=some 0:=by kernel_rfl
theorem fo1671_1:fieldOff Tryz.prog 120 1=some 1:=by kernel_rfl
theorem fo1673_0:fieldOff Tryz.prog 128 0=some 0:=by kernel_rfl
theorem fo1673_1:fieldOff Tryz.prog 128 1=some 1:=by kernel_rfl
theorem fo1666_0:fieldOff Tryz.prog 77 0=some 0:=by kernel_rfl
theorem fo1666_1:fieldOff Tryz.prog 77 1=some 1:=by kernel_rfl
theorem fo1668_0:fieldOff Tryz.prog 62 0=some 0:=by kernel_rfl
theorem fo1668_1:fieldOff Tryz.prog 62 1=some 1:=by kernel_rfl
theorem fo1660_0:fieldOff Tryz.prog 39 0=some 0:=by kernel_rfl
theorem fo1660_1:fieldOff Tryz.prog 39 1=some 1:=by kernel_rfl
theorem fo1660_2:fieldOff Tryz.prog 39 2=some 2:=by kernel_rfl
theorem fo1654_0:fieldOff Tryz.prog 25 0=some 0:=by kernel_rfl
theorem fo1654_1:fieldOff Tryz.prog 25 1=some 1:=by kernel_rfl
theorem fo1654_2:fieldOff Tryz.prog 25 2=some 2:=by kernel_rfl
theorem md1722 : methodP Tryz.prog 120 "versine/quality.day" = some 230 := by kernel_rfl
theorem md1723 : methodP Tryz.prog 128 "versine/quality.day" = some 232 := by kernel_rfl
theorem md1659 : methodP Tryz.prog 120 "versine/quality.check" = some 229 := by kernel_rfl
theorem md1662 : methodP Tryz.prog 128 "versine/quality.check" = some 231 := by kernel_rfl
def encA (a:Int × ByteArray):List Value:=[zi a.1,.string a.2]
theorem eA:Enc encA 2:=⟨fun _=>rfl,fun _=>rfl⟩
def mesE (p:Int × Int):Int:=firstNZ [outB p.1 0 100000,outB p.2 0 100000]
def actE (a:Int × ByteArray):Int:=firstNZ [outB a.1 0 100000,cond (!nameB a.2) 13 0]
def lastD (ds:List Int):Int:=cond (ds.length == 0) (-1) (ds.getD (ds.length - 1) 0)
def elP (ds es:List Int) (j:Nat):Int:=firstNZ [es.getD j 0,cond (decide (ds.getD j 0≤lastD (ds.take j))) 11 0]
def errL (ds es:List Int):List Int:=(List.range ds.length).map (elP ds es)
def entE (most:Nat) (ds es:List Int):Int:=cond (decide (ds.length > most)) 5 (firstNZ (errL ds es))
def secE (s:ByteArray) (M:List (Int × Int)) (A:List (Int × ByteArray)):Int:=firstNZ [cond (!nameB s) 8 0,entE 32 (M.map Prod.fst) (M.map mesE),entE 16 (A.map Prod.fst) (A.map actE)]
theorem errL_get {ds es:List Int} {j:Nat} (h:j < ds.length):(errL ds es)[j]?=some (elP ds es j):=by
 unfold errL
 rw [List.getElem?_map,List.getElem?_range h];rfl
section
variable {h:TH} {v:Value} {x y:Int} {s:ByteArray} {M:List (Int × Int)} {A:List (Int × ByteArray)}
theorem k1667 (H:Has tp):CallW Tryz.prog tp (.func (.func 66) #[] #[]) #[zi x] h fun v h'=>v=zi (outB x 0 100000)∧h'=h:=by
 refine CallW.fnL (H.fn 66 f1667 rfl rfl) ?_
 refine WL.sr<|WOL.as rfl<|WOL.nil ?_
 refine WL.sr<|WOL.mv rfl<|WOL.cl3 rfl rfl rfl rfl ((k72 H _ _ _ _).mono ?_)
 rintro v h' ⟨rfl,rfl⟩
 exact WOL.as rfl<|WOL.nil<|WL.ret (WL.end_ rfl ⟨rfl,rfl⟩)
theorem k1669 (H:Has tp):CallW Tryz.prog tp (.func (.func 68) #[] #[]) #[zi x] h fun v h'=>v=zi (outB x 0 100000)∧h'=h:=by
 refine CallW.fnL (H.fn 68 f1669 rfl rfl) ?_
 refine WL.sr<|WOL.as rfl<|WOL.nil ?_
 refine WL.sr<|WOL.mv rfl<|WOL.cl3 rfl rfl rfl rfl ((k72 H _ _ _ _).mono ?_)
 rintro v h' ⟨rfl,rfl⟩
 exact WOL.as rfl<|WOL.nil<|WL.ret (WL.end_ rfl ⟨rfl,rfl⟩)
theorem k1623 (H:Has tp):CallW Tryz.prog tp (.func (.func 18) #[] #[]) #[zi x] h fun v h'=>v=zi (outB x 0 100000)∧h'=h:=by
 refine CallW.fnL (H.fn 18 f1623 rfl rfl) ?_
 refine WL.sr<|WOL.as rfl<|WOL.nil ?_
 refine WL.sr<|WOL.mv rfl<|WOL.cl3 rfl rfl rfl rfl ((k14 H _ _ _ _).mono ?_)
 rintro v h' ⟨rfl,rfl⟩
 exact WOL.as rfl<|WOL.nil<|WL.ret (WL.end_ rfl ⟨rfl,rfl⟩)
theorem k1624 (H:Has tp):CallW Tryz.prog tp (.func (.func 19) #[] #[]) #[zi x] h fun v h'=>v=zi (outB x 0 100000)∧h'=h:=by
 refine CallW.fnL (H.fn 19 f1624 rfl rfl) ?_
 refine WL.sr<|WOL.as rfl<|WOL.nil ?_
 refine WL.sr<|WOL.mv rfl<|WOL.cl3 rfl rfl rfl rfl ((k14 H _ _ _ _).mono ?_)
 rintro v h' ⟨rfl,rfl⟩
 exact WOL.as rfl<|WOL.nil<|WL.ret (WL.end_ rfl ⟨rfl,rfl⟩)
theorem k1722 (H:Has tp):CallW Tryz.prog tp (.func (.func 230) #[] #[]) #[.agg #[zi x,zi y]] h fun v h'=>v=zi x∧HX h h':=by
 refine CallW.fnL (H.fn 230 f1722 rfl rfl) ?_
 refine WL.sr<|WOL.box rfl fun h1 N1=>WOL.as rfl<|WOL.nil<|keep [(1,_)] ⟨rfl,trivial⟩ ?_
 have A1:At h1 h.next (.cells [zi x,zi y] true true 120):=N1.at_
 exact WL.sr<|WOL.fa rfl (fa_of fo1671_0)<|WOL.ld rfl (load_one tp3 A1 rfl)<|WOL.as rfl<|WOL.nil<|WL.ret (WL.end_ rfl ⟨rfl,N1.hx⟩)
theorem k1723 (H:Has tp):CallW Tryz.prog tp (.func (.func 232) #[] #[]) #[.agg #[zi x,.string s]] h fun v h'=>v=zi x∧HX h h':=by
 refine CallW.fnL (H.fn 232 f1723 rfl rfl) ?_
 refine WL.sr<|WOL.box rfl fun h1 N1=>WOL.as rfl<|WOL.nil<|keep [(1,_)] ⟨rfl,trivial⟩ ?_
 have A1:At h1 h.next (.cells [zi x,.string s] true true 128):=N1.at_
 exact WL.sr<|WOL.fa rfl (fa_of fo1673_0)<|WOL.ld rfl (load_one tp3 A1 rfl)<|WOL.as rfl<|WOL.nil<|WL.ret (WL.end_ rfl ⟨rfl,N1.hx⟩)
theorem k1659 (H:Has tp):CallW Tryz.prog tp (.func (.func 229) #[] #[]) #[.agg #[zi x,zi y]] h fun v h'=>v=zi (mesE (x,y))∧HX h h':=by
 refine CallW.fnL (H.fn 229 f1659 rfl rfl) ?_
 refine WL.sr<|WOL.box rfl fun h1 N1=>WOL.as rfl<|WOL.nil<|keep [(1,_)] ⟨rfl,trivial⟩ ?_
 have A1:At h1 h.next (.cells [zi x,zi y] true true 120):=N1.at_
 refine WL.sr<|WOL.fa rfl (fa_of fo1671_0)<|WOL.ld rfl (load_one tp3 A1 rfl)<|WOL.fa rfl (fa_of fo1671_1)<|WOL.ld rfl (load_one tp3 A1 rfl)<|WOL.lk1 rfl rfl fun L=>((k1667 H).mono ?_)
 rintro v h2 ⟨rfl,rfl⟩
 rw [TH.relock]
 refine WOL.cl1 rfl rfl ((k1669 H).mono ?_)
 rintro v h2 ⟨rfl,rfl⟩
 refine WOL.bsl rfl u166 tp30 (by decide) (by decide) (by decide) (filled_ints _ _) fun h6 N6=>?_
 refine WOL.cl1 rfl rfl ((k71 H (l:=[_,_]) N6.at_.get (by simp)).mono ?_)
 rintro v h7 ⟨rfl,rfl⟩
 exact WOL.as rfl<|WOL.nil<|WL.ret (WL.end_ rfl ⟨rfl,N1.hx.trans N6.hx⟩)
theorem k1662 (H:Has tp) (f:Free0 h.next h):CallW Tryz.prog tp (.func (.func 231) #[] #[]) #[.agg #[zi x,.string s]] h fun v h'=>v=zi (actE (x,s))∧HX h h':=by
 refine CallW.fnL (H.fn 231 f1662 rfl rfl) ?_
 refine WL.sr<|WOL.box rfl fun h1 N1=>WOL.as rfl<|WOL.nil<|keep [(1,_)] ⟨rfl,trivial⟩ ?_
 have A1:At h1 h.next (.cells [zi x,.string s] true true 128):=N1.at_
 refine WL.sr<|WOL.fa rfl (fa_of fo1673_0)<|WOL.ld rfl (load_one tp3 A1 rfl)<|WOL.fa rfl (fa_of fo1673_1)<|WOL.ld rfl (load_one tp9 A1 rfl)<|WOL.lk1 rfl rfl fun L=>((k1667 H).mono ?_)
 rintro v h2 ⟨rfl,rfl⟩
 rw [TH.relock]
 refine WOL.cl1 rfl rfl ((k16 H s _ (f.on N1.hx)).mono ?_)
 rintro v h3 ⟨rfl,X3⟩
 refine WOL.nt rfl<|WOL.cl2 rfl rfl rfl ((k77 H _ _ _).mono ?_)
 rintro v h4 ⟨rfl,rfl⟩
 refine WOL.bsl rfl u166 tp30 (by decide) (by decide) (by decide) (filled_ints _ _) fun h6 N6=>?_
 refine WOL.cl1 rfl rfl ((k71 H (l:=[_,_]) N6.at_.get (by simp)).mono ?_)
 rintro v h7 ⟨rfl,rfl⟩
 exact WOL.as rfl<|WOL.nil<|WL.ret (WL.end_ rfl ⟨rfl,(N1.hx.trans X3).trans N6.hx⟩)
theorem k1612 (H:Has tp):CallW Tryz.prog tp (.func (.func 79) #[] #[]) #[.agg #[zi x,zi y]] h fun v h'=>v=zi (mesE (x,y))∧HX h h':=by
 refine CallW.fnL (H.fn 79 f1612 rfl rfl) ?_
 refine WL.sr<|WOL.box rfl fun h1 N1=>WOL.as rfl<|WOL.nil<|keep [(1,_)] ⟨rfl,trivial⟩ ?_
 have A1:At h1 h.next (.cells [zi x,zi y] true true 77):=N1.at_
 refine WL.sr<|WOL.fa rfl (fa_of fo1666_0)<|WOL.ld rfl (load_one tp3 A1 rfl)<|WOL.fa rfl (fa_of fo1666_1)<|WOL.ld rfl (load_one tp3 A1 rfl)<|WOL.lk1 rfl rfl fun L=>((k1623 H).mono ?_)
 rintro v h2 ⟨rfl,rfl⟩
 rw [TH.relock]
 refine WOL.cl1 rfl rfl ((k1624 H).mono ?_)
 rintro v h2 ⟨rfl,rfl⟩
 refine WOL.bsl rfl u29 tp3 (by decide) (by decide) (by decide) (filled_ints _ _) fun h6 N6=>?_
 refine WOL.cl1 rfl rfl ((k13 H (l:=[_,_]) N6.at_.get (by simp)).mono ?_)
 rintro v h7 ⟨rfl,rfl⟩
 exact WOL.as rfl<|WOL.nil<|WL.ret (WL.end_ rfl ⟨rfl,N1.hx.trans N6.hx⟩)
theorem k1613 (H:Has tp):CallW Tryz.prog tp (.func (.func 80) #[] #[]) #[.agg #[zi x,.string s]] h fun v h'=>v=zi (actE (x,s))∧HX h h':=by
 refine CallW.fnL (H.fn 80 f1613 rfl rfl) ?_
 refine WL.sr<|WOL.box rfl fun h1 N1=>WOL.as rfl<|WOL.nil<|keep [(1,_)] ⟨rfl,trivial⟩ ?_
 have A1:At h1 h.next (.cells [zi x,.string s] true true 62):=N1.at_
 refine WL.sr<|WOL.fa rfl (fa_of fo1668_0)<|WOL.ld rfl (load_one tp3 A1 rfl)<|WOL.fa rfl (fa_of fo1668_1)<|WOL.ld rfl (load_one tp9 A1 rfl)<|WOL.lk1 rfl rfl fun L=>((k1623 H).mono ?_)
 rintro v h2 ⟨rfl,rfl⟩
 rw [TH.relock]
 refine WOL.cl1 rfl rfl ((k92 H).mono ?_)
 rintro v h3 ⟨rfl,rfl⟩
 refine WOL.bi (v:=.bool (!nameB s)) rfl rfl (by cases nameB s <;> rfl)<|WOL.cl2 rfl rfl rfl ((k32 H _ _ _).mono ?_)
 rintro v h4 ⟨rfl,rfl⟩
 refine WOL.bsl rfl u29 tp3 (by decide) (by decide) (by decide) (filled_ints _ _) fun h6 N6=>?_
 refine WOL.cl1 rfl rfl ((k13 H (l:=[_,_]) N6.at_.get (by simp)).mono ?_)
 rintro v h7 ⟨rfl,rfl⟩
 exact WOL.as rfl<|WOL.nil<|WL.ret (WL.end_ rfl ⟨rfl,N1.hx.trans N6.hx⟩)
theorem lastD_map {α:Type} {l:List α} {g:α→Int} {a:α} (h:l[l.length - 1]?=some a):lastD (l.map g)=g a:=by
 have hl:=(List.getElem?_eq_some_iff.1 h).1
 unfold lastD
 rw [List.length_map,beq_eq_false_iff_ne.2 (by omega),List.getD_eq_getElem?_getD,List.getElem?_map,h]
 rfl
theorem k1664 (H:Has tp) (sl:SlL encS 2 h v M) (lM:M.length≤1000000):CallW Tryz.prog tp (.func (.func 129) #[] #[]) #[v] h fun u h'=>u=zi (lastD (M.map Prod.fst))∧HX h h':=by
 refine CallW.fnL (H.fn 129 f1664 rfl rfl) ?_
 refine WL.sr<|WOL.as rfl<|WOL.nil<|keep [(0,_)] ⟨rfl,trivial⟩ ?_
 refine WL.seq<|WL.sr<|WOL.mv rfl<|WOL.len rfl sl u1657 ?_
 by_cases c:M.length=0
 ·refine WOL.bt rfl rfl rfl (beq_iff_eq.2 (by omega))<|WOL.nil<|WL.yes rfl<|WL.sr<|WOL.as rfl<|WOL.nil<|WL.ret (WL.end_ rfl ⟨?_,HX.refl _⟩)
  unfold lastD
  rw [List.length_map,beq_iff_eq.2 c];rfl
 ·have hp:M[M.length - 1]?=some M[M.length - 1]:=List.getElem?_eq_getElem (by omega)
  rw [lastD_map hp]
  generalize M[M.length - 1]=p at *
  obtain ⟨_,_,_,_,_,_,g1,g2,g3,g4,g5⟩:=sl.at eS u1657 tp1671 hp .i64
  refine WOL.bf rfl rfl rfl (beq_eq_false_iff_ne.2 (by omega))<|WOL.nil<|WL.no rfl<|WL.skip<|WL.sr<|WOL.mv rfl<|WOL.mv rfl<|WOL.len rfl sl u1657<|WOL.sub rfl rfl (by omega) (by omega) ?_
  rw [show (M.length:Int) - 1=((M.length - 1:Nat):Int) by omega]
  refine WOL.ix rfl rfl g1<|WOL.ld rfl (load_row tp1671 g2 g4 g3)<|WOL.mi rfl Tryz.underlying120 (fun z=>by rintro ⟨⟩)<|WOL.inv0 rfl md1722 ((k1722 (x:=p.1) (y:=p.2) H).mono ?_)
  rintro u h2 ⟨rfl,X2⟩
  exact WOL.as rfl<|WOL.nil<|WL.ret (WL.end_ rfl ⟨rfl,X2⟩)
theorem k1700 (H:Has tp) (sl:SlL encA 2 h v A) (lM:A.length≤1000000):CallW Tryz.prog tp (.func (.func 184) #[] #[]) #[v] h fun u h'=>u=zi (lastD (A.map Prod.fst))∧HX h h':=by
 refine CallW.fnL (H.fn 184 f1700 rfl rfl) ?_
 refine WL.sr<|WOL.as rfl<|WOL.nil<|keep [(0,_)] ⟨rfl,trivial⟩ ?_
 refine WL.seq<|WL.sr<|WOL.mv rfl<|WOL.len rfl sl u1658 ?_
 by_cases c:A.length=0
 ·refine WOL.bt rfl rfl rfl (beq_iff_eq.2 (by omega))<|WOL.nil<|WL.yes rfl<|WL.sr<|WOL.as rfl<|WOL.nil<|WL.ret (WL.end_ rfl ⟨?_,HX.refl _⟩)
  unfold lastD
  rw [List.length_map,beq_iff_eq.2 c];rfl
 ·have hp:A[A.length - 1]?=some A[A.length - 1]:=List.getElem?_eq_getElem (by omega)
  rw [lastD_map hp]
  generalize A[A.length - 1]=p at *
  obtain ⟨_,_,_,_,_,_,g1,g2,g3,g4,g5⟩:=sl.at eA u1658 tp1673 hp .i64
  refine WOL.bf rfl rfl rfl (beq_eq_false_iff_ne.2 (by omega))<|WOL.nil<|WL.no rfl<|WL.skip<|WL.sr<|WOL.mv rfl<|WOL.mv rfl<|WOL.len rfl sl u1658<|WOL.sub rfl rfl (by omega) (by omega) ?_
  rw [show (A.length:Int) - 1=((A.length - 1:Nat):Int) by omega]
  refine WOL.ix rfl rfl g1<|WOL.ld rfl (load_row tp1673 g2 g4 g3)<|WOL.mi rfl Tryz.underlying128 (fun z=>by rintro ⟨⟩)<|WOL.inv0 rfl md1723 ((k1723 (x:=p.1) (s:=p.2) H).mono ?_)
  rintro u h2 ⟨rfl,X2⟩
  exact WOL.as rfl<|WOL.nil<|WL.ret (WL.end_ rfl ⟨rfl,X2⟩)
theorem k1660 (H:Has tp) (sl:SlL encS 2 h v M) (lM:M.length≤1000000):CallW Tryz.prog tp (.func (.func 164) #[] #[]) #[.agg #[zi x,zi y],v] h fun u h'=>u=zi (cond (decide (x≤lastD (M.map Prod.fst))) 11 0)∧HX h h':=by
 refine CallW.fnL (H.fn 164 f1660 rfl rfl) ?_
 refine WL.sr<|WOL.box rfl fun h1 N1=>WOL.as rfl<|WOL.nil<|keep [(1,_),(2,_)] ⟨rfl,rfl,trivial⟩ ?_
 have A1:At h1 h.next (.cells [zi x,zi y] true true 120):=N1.at_
 refine WL.sr<|WOL.ld rfl (load_row tp1671 A1 rfl (Nat.le_of_ble_eq_true rfl))<|WOL.mi rfl Tryz.underlying120 (fun z=>by rintro ⟨⟩)<|WOL.inv0 rfl md1722 ((k1722 (x:=x) (y:=y) H).mono ?_)
 rintro u h2 ⟨rfl,X2⟩
 refine WOL.mv rfl<|WOL.cl1 rfl rfl ((k1664 H (sl.hx (N1.hx.trans X2)) lM).mono ?_)
 rintro u h3 ⟨rfl,X3⟩
 refine WOL.bi rfl rfl rfl<|WOL.cl2 rfl rfl rfl ((k77 H _ _ _).mono ?_)
 rintro u h4 ⟨rfl,rfl⟩
 exact WOL.as rfl<|WOL.nil<|WL.ret (WL.end_ rfl ⟨rfl,(N1.hx.trans X2).trans X3⟩)
theorem k1663 (H:Has tp) (sl:SlL encA 2 h v A) (lM:A.length≤1000000):CallW Tryz.prog tp (.func (.func 165) #[] #[]) #[.agg #[zi x,.string s],v] h fun u h'=>u=zi (cond (decide (x≤lastD (A.map Prod.fst))) 11 0)∧HX h h':=by
 refine CallW.fnL (H.fn 165 f1663 rfl rfl) ?_
 refine WL.sr<|WOL.box rfl fun h1 N1=>WOL.as rfl<|WOL.nil<|keep [(1,_),(2,_)] ⟨rfl,rfl,trivial⟩ ?_
 have A1:At h1 h.next (.cells [zi x,.string s] true true 128):=N1.at_
 refine WL.sr<|WOL.ld rfl (load_row tp1673 A1 rfl (Nat.le_of_ble_eq_true rfl))<|WOL.mi rfl Tryz.underlying128 (fun z=>by rintro ⟨⟩)<|WOL.inv0 rfl md1723 ((k1723 (x:=x) (s:=s) H).mono ?_)
 rintro u h2 ⟨rfl,X2⟩
 refine WOL.mv rfl<|WOL.cl1 rfl rfl ((k1700 H (sl.hx (N1.hx.trans X2)) lM).mono ?_)
 rintro u h3 ⟨rfl,X3⟩
 refine WOL.bi rfl rfl rfl<|WOL.cl2 rfl rfl rfl ((k77 H _ _ _).mono ?_)
 rintro u h4 ⟨rfl,rfl⟩
 exact WOL.as rfl<|WOL.nil<|WL.ret (WL.end_ rfl ⟨rfl,(N1.hx.trans X2).trans X3⟩)
end
end Go.Tidy
namespace Go.Tidy
open Go Go.Proofs Tab
section
variable {P:Program} {tp:TProg} {h:TH} {K:Regs→TH→Prop} {rest:List TOper} {d:Option Tmp} {ty:TypeId} {i:Nat} {x l0:Operand} {ls:List Operand} {L:Rg} {t:TypeId} {v w:Value} {name:String} {k:Nat} {ts:Array TypeId}
theorem WOL.invQ (bs:List Nat) (hb:(l0::ls).map (fun x=>(getL L x).bind blockOf)=bs.map some) (hx:getL L x=some (.iface t v)) (hm:methodP P t name=some k) (w:∀ M,(∀ l,l ∈ M→l ∈ bs∨l ∈ h.lock)→CallW P tp (.func (.func k) #[] #[]) #[v] (h.withLock M) fun u h1=>∀ a,Kn (putL L d u) a→WO P tp rest a (h1.withLock h.lock) K):∀ a,Kn L a→WO P tp (⟨d,.call ⟨.invoke x name,#[],ts⟩,ty,none,l0::ls,i⟩::rest) a h K :=
 fun a q=>WO.cons_lock rfl rfl (StepW.inv0 (getO_eval (q.o hx)) hm ((w _ (lockOf_bs _ a bs h.lock (locks_o q hb))).mono fun _ _ z=>q.nx z))
end
variable {tp:TProg}
theorem last_take {ds:List Int} {j:Nat} (h0:0 < j) (h:j < ds.length):lastD (ds.take j)=ds.getD (j - 1) 0:=by
 have e:(ds.take j).length=j:=by rw [List.length_take];omega
 unfold lastD
 rw [e,beq_eq_false_iff_ne.2 (by omega),List.getD_eq_getElem?_getD,List.getElem?_take_of_lt (by omega),← List.getD_eq_getElem?_getD]
 rfl
theorem el_ref {ds es:List Int} {j:Nat} (hj:j < ds.length) (h:es.getD j 0=0→0≤ds.getD j 0):elP ds es j=firstNZ [es.getD j 0,cond (decide (0 < j) && decide (ds.getD j 0≤ds.getD (j - 1) 0)) 11 0]:=by
 unfold elP
 by_cases e:es.getD j 0=0
 ·rw [e]
  by_cases j0:0 < j
  ·rw [last_take j0 hj,decide_eq_true j0];rfl
  ·obtain rfl:j=0:=by omega
   have l:lastD (ds.take 0)=-1:=rfl
   have:=h e
   rw [l,decide_eq_false (by omega)];rfl
 ·rw [fz_cons,fz_cons (x:=es.getD j 0),bne_iff_ne.2 e];rfl
theorem mesE_day {p:Int × Int} (h:mesE p=0):0≤p.1:=(outB_in (firstNZ_zero h _ (by simp):outB p.1 0 100000=0)).1
theorem actE_day {p:Int × ByteArray} (h:actE p=0):0≤p.1:=(outB_in (firstNZ_zero h _ (by simp):outB p.1 0 100000=0)).1
theorem map_getD0 {α:Type} {l:List α} {g:α→Int} {j:Nat} {a:α} (h:l[j]?=some a):(l.map g).getD j 0=g a:=by
 rw [List.getD_eq_getElem?_getD,List.getElem?_map,h];rfl
section
variable {h:TH} {v:Value} {M:List (Int × Int)} {most:Nat}
set_option maxHeartbeats 4000000 in
set_option maxRecDepth 10000 in
theorem k1657 (H:Has tp) (sl:SlL encS 2 h v M) (ft:Fits h v 120) (lM:M.length≤1000000) (f:Free0 h.next h):CallW Tryz.prog tp (.func (.func 132) #[] #[]) #[v,zi (most:Nat)] h fun u h'=>u=zi (entE most (M.map Prod.fst) (M.map mesE))∧HX h h':=by
  refine CallW.fnL (H.fn 132 f1657 rfl rfl) ?_
  obtain ⟨bo,cap,rfl⟩:=sl.form
  refine WL.sr<|WOL.as rfl<|WOL.nil<|keep [(0,_),(1,_)] ⟨rfl,rfl,trivial⟩ ?_
  unfold entE
  rw [List.length_map]
  by_cases c:M.length > most
  · refine WL.seq<|WL.sr<|WOL.mv rfl<|WOL.len rfl sl u1657<|WOL.mv rfl<|WOL.bt rfl rfl rfl (decide_eq_true (by omega))<|WOL.nil<|WL.yes rfl<|WL.sr<|WOL.as rfl<|WOL.nil<|WL.ret (WL.end_ rfl ⟨?_,HX.refl _⟩)
    rw [decide_eq_true c];rfl
  rw [decide_eq_false c]
  refine WL.seq<|WL.sr<|WOL.mv rfl<|WOL.len rfl sl u1657<|WOL.mv rfl<|WOL.bf rfl rfl rfl (decide_eq_false (by omega))<|WOL.nil<|WL.no rfl<|WL.skip<|keep [(0,_)] ⟨rfl,trivial⟩ ?_
  refine WL.seq<|WL.sr<|WOL.mv rfl<|WOL.len rfl sl u1657<|WOL.mv rfl<|WOL.nil<|keep [(0,_),(12,_),(13,_),(14,_)] ⟨rfl,rfl,rfl,rfl,trivial⟩ ?_
  refine WL.upto (α:=Unit) M.length (fun j _ g=>HX h g∧∀ i,i < j→(errL (M.map Prod.fst) (M.map mesE)).getD i 0=0) (fun _ _=>[(0,.slice bo M.length cap),(12,.slice bo M.length cap),(13,zi (M.length:Nat))]) () rfl rfl (by omega) ⟨HX.refl _,fun i hi=>absurd hi (by omega)⟩ ⟨rfl,rfl,rfl,rfl,trivial⟩ (fun _ _=>rfl) (fun _ _ _=>⟨rfl,rfl,rfl,rfl,trivial⟩) (fun _ _ _=>⟨rfl,rfl,rfl,rfl,trivial⟩) ?_ ?_
  · rintro j _ g hj ⟨X,hz⟩
    have hp:M[j]?=some M[j]:=List.getElem?_eq_getElem hj
    have eg:=errL_get (ds:=M.map Prod.fst) (es:=M.map mesE) (j:=j) (by rw [List.length_map];exact hj)
    have ee:elP (M.map Prod.fst) (M.map mesE) j=firstNZ [mesE M[j],cond (decide (M[j].1≤lastD ((M.take j).map Prod.fst))) 11 0]:=by
      unfold elP
      rw [map_getD0 hp,map_getD0 hp,List.map_take]
    obtain ⟨b,o,cc,fix,wr,el,g1,g2,g3,g4,g5⟩:=(sl.hx X).at eS u1657 tp1671 hp .i64
    generalize M[j]=p at *
    obtain ⟨q,rfl⟩:∃ q,bo=some q:=by
      rcases sl with ⟨bo',cap',e1,_,_,h3⟩
      cases e1
      rcases h3 with ⟨_,hq⟩ | ⟨b,off,_,_,_,_,rfl,_⟩
      · omega
      · exact ⟨_,rfl⟩
    have xg:=X.next
    refine WL.sr<|WOL.mv rfl<|WOL.ix rfl rfl g1<|WOL.ld rfl (load_row tp1671 g2 g4 g3)<|WOL.al tp1671 fun i1 M1=>WOL.as rfl<|WOL.sto (vs:=[zi p.1,zi p.2]) rfl rfl tp1671 M1.at_ rfl rfl (Nat.le_of_ble_eq_true rfl) rfl ((f.on X).hx M1.hx) (Nat.le_refl _) fun i2 P2=>WOL.nil<|keep [(0,_),(5,_),(6,_),(12,_),(13,_),(14,_)] ⟨rfl,rfl,rfl,rfl,rfl,rfl,trivial⟩ ?_
    have m1:=M1.next
    have m2:=P2.next
    have Z2:HX g i2:=P2.hx _ M1.hx (Nat.le_refl _)
    have A6:At i2 g.next (.cells [zi p.1,zi p.2] true true 120):=P2.at_
    have X2:=X.trans Z2
    obtain ⟨v',hv,sv'⟩:=sl_toI (k:=.i64) (hi:=j) eS u1657 tp1671 (sl.hx X2) (ft.hx X2) (by omega)
    have lq:q.block < h.next:=by
      rcases sl with ⟨bo',cap',e1,_,_,h3⟩
      cases e1
      rcases h3 with ⟨h3,_⟩ | ⟨b,off,_,_,_,_,e2,A,_⟩
      · cases h3
      · cases e2;exact A.lt
    refine WL.sr<|WOL.ld rfl (load_row tp1671 A6 rfl (Nat.le_of_ble_eq_true rfl))<|WOL.mi rfl Tryz.underlying120 (fun z=>by rintro ⟨⟩)<|WOL.ld rfl (load_row tp1671 A6 rfl (Nat.le_of_ble_eq_true rfl))<|WOL.mv rfl<|WOL.mv rfl<|WOL.sl2 rfl rfl hv ?_
    refine WOL.invQ [q.block,g.next] rfl rfl md1659 fun L hL=>((k1659 (x:=p.1) (y:=p.2) H).mono ?_)
    rintro u i3 ⟨rfl,X3⟩
    replace X3:=X3.relock
    generalize i3.withLock i2.lock=i3 at *
    refine WOL.cl2 rfl rfl rfl ((k1660 (x:=p.1) (y:=p.2) H (sv'.hx X3) (by rw [List.length_take];omega)).mono ?_)
    rintro u i4 ⟨rfl,X4⟩
    refine WOL.bsl rfl u166 tp30 (by decide) (by decide) (by decide) (filled_ints _ _) fun i5 N5=>?_
    refine WOL.cl1 rfl rfl ((k71 H (l:=[_,_]) N5.at_.get (by simp)).mono ?_)
    rintro u i6 ⟨rfl,rfl⟩
    have X6:=((X2.trans X3).trans X4).trans N5.hx
    refine WOL.as rfl<|WOL.nil<|keep [(0,_),(7,_),(12,_),(13,_),(14,_)] ⟨rfl,rfl,rfl,rfl,rfl,trivial⟩ ?_
    rw [← show elP (M.map Prod.fst) (M.map mesE) j=firstNZ [mesE (p.1,p.2),cond (decide (p.1≤lastD ((M.take j).map Prod.fst))) 11 0] from ee]
    generalize elP (M.map Prod.fst) (M.map mesE) j=E at *
    by_cases h0:E=0
    · subst h0
      refine WL.sr<|WOL.mv rfl<|WOL.bf rfl rfl rfl rfl<|WOL.nil<|WL.no rfl<|WL.skip fun a k=>⟨(),⟨X6,fun i hi=>?_⟩,k.sub ⟨rfl,rfl,rfl,rfl,trivial⟩⟩
      by_cases e:i=j
      · subst e
        rw [List.getD_eq_getElem?_getD,eg];rfl
      · exact hz i (by omega)
    · refine WL.sr<|WOL.mv rfl<|WOL.bt rfl rfl rfl (bne_iff_ne.2 h0)<|WOL.nil<|WL.yes rfl<|WL.sr<|WOL.mv rfl<|WOL.as rfl<|WOL.nil<|WL.ret (WL.end_ rfl ⟨?_,X6⟩)
      rw [fNZ_at hz eg h0];rfl
  · rintro _ g ⟨X,hz⟩
    refine WL.sr<|WOL.as rfl<|WOL.nil<|WL.ret (WL.end_ rfl ⟨?_,X⟩)
    rw [fNZ_all fun i hi=>hz i (by unfold errL at hi;rw [List.length_map,List.length_range,List.length_map] at hi;exact hi)]
    rfl
end
section
variable {h:TH} {v:Value} {M:List (Int × ByteArray)} {most:Nat}
set_option maxHeartbeats 4000000 in
set_option maxRecDepth 10000 in
theorem k1658 (H:Has tp) (sl:SlL encA 2 h v M) (ft:Fits h v 128) (lM:M.length≤1000000) (f:Free0 h.next h):CallW Tryz.prog tp (.func (.func 133) #[] #[]) #[v,zi (most:Nat)] h fun u h'=>u=zi (entE most (M.map Prod.fst) (M.map actE))∧HX h h':=by
  refine CallW.fnL (H.fn 133 f1658 rfl rfl) ?_
  obtain ⟨bo,cap,rfl⟩:=sl.form
  refine WL.sr<|WOL.as rfl<|WOL.nil<|keep [(0,_),(1,_)] ⟨rfl,rfl,trivial⟩ ?_
  unfold entE
  rw [List.length_map]
  by_cases c:M.length > most
  · refine WL.seq<|WL.sr<|WOL.mv rfl<|WOL.len rfl sl u1658<|WOL.mv rfl<|WOL.bt rfl rfl rfl (decide_eq_true (by omega))<|WOL.nil<|WL.yes rfl<|WL.sr<|WOL.as rfl<|WOL.nil<|WL.ret (WL.end_ rfl ⟨?_,HX.refl _⟩)
    rw [decide_eq_true c];rfl
  rw [decide_eq_false c]
  refine WL.seq<|WL.sr<|WOL.mv rfl<|WOL.len rfl sl u1658<|WOL.mv rfl<|WOL.bf rfl rfl rfl (decide_eq_false (by omega))<|WOL.nil<|WL.no rfl<|WL.skip<|keep [(0,_)] ⟨rfl,trivial⟩ ?_
  refine WL.seq<|WL.sr<|WOL.mv rfl<|WOL.len rfl sl u1658<|WOL.mv rfl<|WOL.nil<|keep [(0,_),(12,_),(13,_),(14,_)] ⟨rfl,rfl,rfl,rfl,trivial⟩ ?_
  refine WL.upto (α:=Unit) M.length (fun j _ g=>HX h g∧∀ i,i < j→(errL (M.map Prod.fst) (M.map actE)).getD i 0=0) (fun _ _=>[(0,.slice bo M.length cap),(12,.slice bo M.length cap),(13,zi (M.length:Nat))]) () rfl rfl (by omega) ⟨HX.refl _,fun i hi=>absurd hi (by omega)⟩ ⟨rfl,rfl,rfl,rfl,trivial⟩ (fun _ _=>rfl) (fun _ _ _=>⟨rfl,rfl,rfl,rfl,trivial⟩) (fun _ _ _=>⟨rfl,rfl,rfl,rfl,trivial⟩) ?_ ?_
  · rintro j _ g hj ⟨X,hz⟩
    have hp:M[j]?=some M[j]:=List.getElem?_eq_getElem hj
    have eg:=errL_get (ds:=M.map Prod.fst) (es:=M.map actE) (j:=j) (by rw [List.length_map];exact hj)
    have ee:elP (M.map Prod.fst) (M.map actE) j=firstNZ [actE M[j],cond (decide (M[j].1≤lastD ((M.take j).map Prod.fst))) 11 0]:=by
      unfold elP
      rw [map_getD0 hp,map_getD0 hp,List.map_take]
    obtain ⟨b,o,cc,fix,wr,el,g1,g2,g3,g4,g5⟩:=(sl.hx X).at eA u1658 tp1673 hp .i64
    generalize M[j]=p at *
    obtain ⟨q,rfl⟩:∃ q,bo=some q:=by
      rcases sl with ⟨bo',cap',e1,_,_,h3⟩
      cases e1
      rcases h3 with ⟨_,hq⟩ | ⟨b,off,_,_,_,_,rfl,_⟩
      · omega
      · exact ⟨_,rfl⟩
    have xg:=X.next
    refine WL.sr<|WOL.mv rfl<|WOL.ix rfl rfl g1<|WOL.ld rfl (load_row tp1673 g2 g4 g3)<|WOL.al tp1673 fun i1 M1=>WOL.as rfl<|WOL.sto (vs:=[zi p.1,.string p.2]) rfl rfl tp1673 M1.at_ rfl rfl (Nat.le_of_ble_eq_true rfl) rfl ((f.on X).hx M1.hx) (Nat.le_refl _) fun i2 P2=>WOL.nil<|keep [(0,_),(5,_),(6,_),(12,_),(13,_),(14,_)] ⟨rfl,rfl,rfl,rfl,rfl,rfl,trivial⟩ ?_
    have m1:=M1.next
    have m2:=P2.next
    have Z2:HX g i2:=P2.hx _ M1.hx (Nat.le_refl _)
    have A6:At i2 g.next (.cells [zi p.1,.string p.2] true true 128):=P2.at_
    have X2:=X.trans Z2
    obtain ⟨v',hv,sv'⟩:=sl_toI (k:=.i64) (hi:=j) eA u1658 tp1673 (sl.hx X2) (ft.hx X2) (by omega)
    have lq:q.block < h.next:=by
      rcases sl with ⟨bo',cap',e1,_,_,h3⟩
      cases e1
      rcases h3 with ⟨h3,_⟩ | ⟨b,off,_,_,_,_,e2,A,_⟩
      · cases h3
      · cases e2;exact A.lt
    refine WL.sr<|WOL.ld rfl (load_row tp1673 A6 rfl (Nat.le_of_ble_eq_true rfl))<|WOL.mi rfl Tryz.underlying128 (fun z=>by rintro ⟨⟩)<|WOL.ld rfl (load_row tp1673 A6 rfl (Nat.le_of_ble_eq_true rfl))<|WOL.mv rfl<|WOL.mv rfl<|WOL.sl2 rfl rfl hv ?_
    refine WOL.invQ [q.block,g.next] rfl rfl md1662 fun L hL=>((k1662 (h:=i2.withLock L) (x:=p.1) (s:=p.2) H ((f.on X2).held hL (fun b hb=>by simp at hb;omega))).mono ?_)
    rintro u i3 ⟨rfl,X3⟩
    replace X3:=X3.relock
    generalize i3.withLock i2.lock=i3 at *
    refine WOL.cl2 rfl rfl rfl ((k1663 (x:=p.1) (s:=p.2) H (sv'.hx X3) (by rw [List.length_take];omega)).mono ?_)
    rintro u i4 ⟨rfl,X4⟩
    refine WOL.bsl rfl u166 tp30 (by decide) (by decide) (by decide) (filled_ints _ _) fun i5 N5=>?_
    refine WOL.cl1 rfl rfl ((k71 H (l:=[_,_]) N5.at_.get (by simp)).mono ?_)
    rintro u i6 ⟨rfl,rfl⟩
    have X6:=((X2.trans X3).trans X4).trans N5.hx
    refine WOL.as rfl<|WOL.nil<|keep [(0,_),(7,_),(12,_),(13,_),(14,_)] ⟨rfl,rfl,rfl,rfl,rfl,trivial⟩ ?_
    rw [← show elP (M.map Prod.fst) (M.map actE) j=firstNZ [actE (p.1,p.2),cond (decide (p.1≤lastD ((M.take j).map Prod.fst))) 11 0] from ee]
    generalize elP (M.map Prod.fst) (M.map actE) j=E at *
    by_cases h0:E=0
    · subst h0
      refine WL.sr<|WOL.mv rfl<|WOL.bf rfl rfl rfl rfl<|WOL.nil<|WL.no rfl<|WL.skip fun a k=>⟨(),⟨X6,fun i hi=>?_⟩,k.sub ⟨rfl,rfl,rfl,rfl,trivial⟩⟩
      by_cases e:i=j
      · subst e
        rw [List.getD_eq_getElem?_getD,eg];rfl
      · exact hz i (by omega)
    · refine WL.sr<|WOL.mv rfl<|WOL.bt rfl rfl rfl (bne_iff_ne.2 h0)<|WOL.nil<|WL.yes rfl<|WL.sr<|WOL.mv rfl<|WOL.as rfl<|WOL.nil<|WL.ret (WL.end_ rfl ⟨?_,X6⟩)
      rw [fNZ_at hz eg h0];rfl
  · rintro _ g ⟨X,hz⟩
    refine WL.sr<|WOL.as rfl<|WOL.nil<|WL.ret (WL.end_ rfl ⟨?_,X⟩)
    rw [fNZ_all fun i hi=>hz i (by unfold errL at hi;rw [List.length_map,List.length_range,List.length_map] at hi;exact hi)]
    rfl
end
end Go.Tidy
namespace Go.Tidy
open Go Go.Proofs Tab
variable {tp:TProg}
def secV (s:ByteArray) (v1 v2:Value):Value:=.agg #[.string s,v1,v2]
structure SecR (h:TH) (v1 v2:Value) (M:List (Int × Int)) (A:List (Int × ByteArray)):Prop where
 m:SlL encS 2 h v1 M
 a:SlL encA 2 h v2 A
structure SecH (h:TH) (v1 v2:Value) (M:List (Int × Int)) (A:List (Int × ByteArray)):Prop where
 m:SlL encS 2 h v1 M
 a:SlL encA 2 h v2 A
 fm:Fits h v1 120
 fa:Fits h v2 128
theorem SecR.hx {h h':TH} {v1 v2:Value} {M:List (Int × Int)} {A:List (Int × ByteArray)} (r:SecR h v1 v2 M A) (x:HX h h'):SecR h' v1 v2 M A:=⟨r.m.hx x,r.a.hx x⟩
theorem SecH.hx {h h':TH} {v1 v2:Value} {M:List (Int × Int)} {A:List (Int × ByteArray)} (r:SecH h v1 v2 M A) (x:HX h h'):SecH h' v1 v2 M A:=⟨r.m.hx x,r.a.hx x,r.fm.hx x,r.fa.hx x⟩
def bef (ds:List Int) (d:Int):Nat→Nat
 | 0=>0
 | j+1=>bef ds d j+cond (decide (ds.getD j 0 < d)) 1 0
theorem bef_le {ds:List Int} {d:Int}:∀ j,bef ds d j≤j
 | 0=>Nat.le_refl _
 | j+1=>by
  have:=bef_le (ds:=ds) (d:=d) j
  unfold bef
  cases decide (ds.getD j 0 < d) <;> simp only [cond_true,cond_false] <;> omega
def frm8 (ds as_:List Int):Nat→Nat
 | 0=>0
 | j+1=>bef ds (as_.getD j 0) ds.length
def perL (ds as_:List Int):Nat→List (Int × Int)
 | 0=>[]
 | j+1=>perL ds as_ j ++ [(((frm8 ds as_ j:Nat):Int),((frm8 ds as_ (j+1):Nat):Int))]
def perS (ds as_:List Int):List (Int × Int):=perL ds as_ as_.length ++ [(((frm8 ds as_ as_.length:Nat):Int),((ds.length:Nat):Int))]
theorem perL_len {ds as_:List Int}:∀ j,(perL ds as_ j).length=j
 | 0=>rfl
 | j+1=>by unfold perL;rw [List.length_append,perL_len j];rfl
theorem frm8_le {ds as_:List Int}:∀ j,frm8 ds as_ j≤ds.length
 | 0=>Nat.zero_le _
 | _+1=>bef_le _
section
variable {h:TH} {v v1 v2:Value} {x y d:Int} {s:ByteArray} {M:List (Int × Int)} {A:List (Int × ByteArray)}
set_option maxHeartbeats 4000000 in
set_option maxRecDepth 10000 in
theorem k1609 (H:Has tp) (r:SecH h v1 v2 M A) (lM:M.length≤100000) (lA:A.length≤100000) (f:Free0 h.next h):CallW Tryz.prog tp (.func (.func 76) #[] #[]) #[secV s v1 v2] h fun u h'=>u=zi (secE s M A)∧HX h h':=by
 refine CallW.fnL (H.fn 76 f1609 rfl rfl) ?_
 obtain ⟨b1,k1,rfl⟩:=r.m.form
 obtain ⟨b2,k2,rfl⟩:=r.a.form
 refine WL.sr<|WOL.box rfl fun h1 N1=>WOL.as rfl<|WOL.nil<|keep [(1,_)] ⟨rfl,trivial⟩ ?_
 have n1:=N1.next
 have A1:At h1 h.next (.cells [.string s,.slice b1 M.length k1,.slice b2 A.length k2] true true 39):=N1.at_
 refine WL.sr<|WOL.fa rfl (fa_of fo1660_0)<|WOL.ld rfl (load_one tp9 A1 rfl)<|WOL.fa rfl (fa_of fo1660_1)<|WOL.ld rfl (load_one tp1657 A1 rfl)<|WOL.fa rfl (fa_of fo1660_2)<|WOL.ld rfl (load_one tp1658 A1 rfl) ?_
 refine WOL.lq1 [h.next,h.next] rfl rfl rfl fun L hL=>((k16 H s (h1.withLock L) ((f.on N1.hx).held hL (fun b hb=>by simp at hb;omega))).mono ?_)
 rintro u h2 ⟨rfl,X2⟩
 replace X2:=X2.relock
 generalize h2.withLock h1.lock=h2 at *
 have Y2:=N1.hx.trans X2
 have y2:=X2.next
 refine WOL.nt rfl<|WOL.lk2 rfl rfl rfl fun L=>((k77 H _ _ _).mono ?_)
 rintro u h3 ⟨rfl,rfl⟩
 rw [TH.relock]
 refine WOL.lq2 [h.next] rfl rfl rfl rfl fun L hL=>((k1657 (h:=h2.withLock L) (most:=32) H ((r.m.hx Y2).relock L) ((r.fm.hx Y2).relock L) (by omega) ((f.on Y2).held hL (fun b hb=>by simp at hb;omega))).mono ?_)
 rintro u h3 ⟨rfl,X3⟩
 replace X3:=X3.relock
 generalize h3.withLock h2.lock=h3 at *
 have Y3:=Y2.trans X3
 refine WOL.cl2 rfl rfl rfl ((k1658 (most:=16) H (r.a.hx Y3) (r.fa.hx Y3) (by omega) (f.on Y3)).mono ?_)
 rintro u h4 ⟨rfl,X4⟩
 refine WOL.bsl rfl u166 tp30 (by decide) (by decide) (by decide) (filled_ints3 _ _ _) fun h6 N6=>?_
 refine WOL.cl1 rfl rfl ((k71 H (l:=[_,_,_]) N6.at_.get (by simp)).mono ?_)
 rintro u h7 ⟨rfl,rfl⟩
 exact WOL.as rfl<|WOL.nil<|WL.ret (WL.end_ rfl ⟨rfl,(Y3.trans X4).trans N6.hx⟩)
set_option maxHeartbeats 4000000 in
set_option maxRecDepth 10000 in
theorem k1697 (H:Has tp) (r:SecH h v1 v2 M A) (lM:M.length≤100000):CallW Tryz.prog tp (.func (.func 145) #[] #[]) #[secV s v1 v2,zi d] h fun u h'=>u=zi (bef (M.map Prod.fst) d M.length:Nat)∧HX h h':=by
 refine CallW.fnL (H.fn 145 f1697 rfl rfl) ?_
 obtain ⟨b1,k1,rfl⟩:=r.m.form
 obtain ⟨b2,k2,rfl⟩:=r.a.form
 refine WL.sr<|WOL.box rfl fun h1 N1=>WOL.as rfl<|WOL.nil<|keep [(1,_),(2,_)] ⟨rfl,rfl,trivial⟩ ?_
 have A1:At h1 h.next (.cells [.string s,.slice b1 M.length k1,.slice b2 A.length k2] true true 39):=N1.at_
 have sl:=r.m.hx N1.hx
 refine WL.sr<|WOL.as rfl<|WOL.nil ?_
 refine WL.seq<|WL.sr<|WOL.fa rfl (fa_of fo1660_1)<|WOL.ld rfl (load_one tp1657 A1 rfl)<|WOL.len rfl sl u1657<|WOL.mv rfl<|WOL.nil<|keep [(1,_),(2,_),(5,_),(9,_),(10,_)] ⟨rfl,rfl,rfl,rfl,rfl,trivial⟩ ?_
 refine WL.upto (α:=Unit) M.length (fun j _ g=>g=h1) (fun j _=>[(1,zi d),(2,ptr h.next),(5,zi (bef (M.map Prod.fst) d j:Nat)),(9,zi (M.length:Nat))]) () rfl rfl (by omega) rfl ⟨rfl,rfl,rfl,rfl,rfl,trivial⟩ (fun _ _=>rfl) (fun _ _ _=>⟨rfl,rfl,rfl,rfl,rfl,trivial⟩) (fun _ _ _=>⟨rfl,rfl,rfl,rfl,rfl,trivial⟩) ?_ ?_
 ·rintro j _ g hj rfl
  have hp:M[j]?=some M[j]:=List.getElem?_eq_getElem hj
  have eg:(M.map Prod.fst).getD j 0=M[j].1:=map_getD0 hp
  have eb:bef (M.map Prod.fst) d (j+1)=bef (M.map Prod.fst) d j+cond (decide (M[j].1 < d)) 1 0:=by rw [← eg];rfl
  have hb:=bef_le (ds:=M.map Prod.fst) (d:=d) j
  obtain ⟨b,o,cc,fix,wr,el,g1,g2,g3,g4,g5⟩:=sl.at eS u1657 tp1671 hp .i64
  generalize M[j]=p at *
  refine WL.sr<|WOL.mv rfl<|WOL.as rfl<|WOL.nil<|keep [(1,_),(2,_),(5,_),(6,_),(9,_),(10,_)] ⟨rfl,rfl,rfl,rfl,rfl,rfl,trivial⟩ ?_
  refine WL.sr<|WOL.fa rfl (fa_of fo1660_1)<|WOL.ld rfl (load_one tp1657 A1 rfl)<|WOL.mv rfl<|WOL.ix rfl rfl g1<|WOL.fa rfl (fa_of fo1671_0)<|WOL.ld rfl (load_one tp3 g2 (by have:=g5 0 (by decide);rwa [Nat.add_zero] at this))<|WOL.mv rfl ?_
  by_cases c:p.1 < d
  ·rw [decide_eq_true c] at eb
   refine WOL.bt rfl rfl rfl (decide_eq_true c)<|WOL.nil<|WL.yes rfl<|WL.reg<|WOL.mv rfl<|WOL.inc rfl (by omega)<|WOL.as rfl<|WOL.nil fun a q=>⟨(),rfl,?_⟩
   rw [eb]
   exact q.sub ⟨rfl,rfl,rfl,rfl,rfl,trivial⟩
  ·rw [decide_eq_false c] at eb
   refine WOL.bf rfl rfl rfl (decide_eq_false c)<|WOL.nil<|WL.no rfl<|WL.skip fun a q=>⟨(),rfl,?_⟩
   rw [eb]
   exact q.sub ⟨rfl,rfl,rfl,rfl,rfl,trivial⟩
 ·rintro _ g rfl
  exact WL.sr<|WOL.mv rfl<|WOL.as rfl<|WOL.nil<|WL.ret (WL.end_ rfl ⟨rfl,N1.hx⟩)
set_option maxHeartbeats 4000000 in
set_option maxRecDepth 10000 in
theorem k1656 (H:Has tp) (r:SecR h v1 v2 M A) (lM:M.length≤100000):CallW Tryz.prog tp (.func (.func 139) #[] #[]) #[secV s v1 v2,zi d] h fun u h'=>u=zi (bef (M.map Prod.fst) d M.length:Nat)∧HX h h':=by
 refine CallW.fnL (H.fn 139 f1656 rfl rfl) ?_
 obtain ⟨b1,k1,rfl⟩:=r.m.form
 obtain ⟨b2,k2,rfl⟩:=r.a.form
 refine WL.sr<|WOL.box rfl fun h1 N1=>WOL.as rfl<|WOL.nil<|keep [(1,_),(2,_)] ⟨rfl,rfl,trivial⟩ ?_
 have A1:At h1 h.next (.cells [.string s,.slice b1 M.length k1,.slice b2 A.length k2] true true 25):=N1.at_
 have sl:=r.m.hx N1.hx
 refine WL.sr<|WOL.as rfl<|WOL.nil ?_
 refine WL.seq<|WL.sr<|WOL.as rfl<|WOL.nil ?_
 refine WL.forz (α:=Unit) M.length (fun j _ g=>g=h1) (fun j _=>[(1,zi d),(2,ptr h.next),(5,zi (bef (M.map Prod.fst) d j:Nat)),(6,zi (j:Nat))]) (fun j _=>[(1,zi d),(2,ptr h.next),(5,zi (bef (M.map Prod.fst) d (j+1):Nat)),(6,zi (j:Nat))]) () rfl ⟨rfl,rfl,rfl,rfl,trivial⟩ ?_ ?_ (fun _ _ _=>⟨rfl,rfl,rfl,rfl,trivial⟩) ?_ ?_
 ·rintro j _ g hj rfl
  exact WOL.mv rfl<|WOL.fa rfl (fa_of fo1654_1)<|WOL.ld rfl (load_one tp1651 A1 rfl)<|WOL.len rfl sl u1651<|WOL.bi rfl rfl rfl<|WOL.nil fun a q=>⟨rfl,q.sub ⟨rfl,rfl,rfl,rfl,rfl,trivial⟩⟩
 ·rintro j _ g hj q1
  exact WOL.mv rfl<|WOL.inc rfl (by omega)<|WOL.as rfl<|WOL.nil fun a q=>⟨q1,q.sub ⟨rfl,rfl,rfl,rfl,trivial⟩⟩
 ·rintro j _ g hj rfl
  have hp:M[j]?=some M[j]:=List.getElem?_eq_getElem hj
  have eg:(M.map Prod.fst).getD j 0=M[j].1:=map_getD0 hp
  have eb:bef (M.map Prod.fst) d (j+1)=bef (M.map Prod.fst) d j+cond (decide (M[j].1 < d)) 1 0:=by rw [← eg];rfl
  have hb:=bef_le (ds:=M.map Prod.fst) (d:=d) j
  obtain ⟨b,o,cc,fix,wr,el,g1,g2,g3,g4,g5⟩:=sl.at eS u1651 tp1666 hp .i64
  generalize M[j]=p at *
  refine WL.sr<|WOL.fa rfl (fa_of fo1654_1)<|WOL.ld rfl (load_one tp1651 A1 rfl)<|WOL.mv rfl<|WOL.ix rfl rfl g1<|WOL.fa rfl (fa_of fo1666_0)<|WOL.ld rfl (load_one tp3 g2 (by have:=g5 0 (by decide);rwa [Nat.add_zero] at this))<|WOL.mv rfl ?_
  by_cases c:p.1 < d
  ·rw [decide_eq_true c] at eb
   refine WOL.bt rfl rfl rfl (decide_eq_true c)<|WOL.nil<|WL.yes rfl<|WL.reg<|WOL.mv rfl<|WOL.inc rfl (by omega)<|WOL.as rfl<|WOL.nil fun a q=>⟨(),rfl,?_⟩
   rw [eb]
   exact q.sub ⟨rfl,rfl,rfl,rfl,trivial⟩
  ·rw [decide_eq_false c] at eb
   refine WOL.bf rfl rfl rfl (decide_eq_false c)<|WOL.nil<|WL.no rfl<|WL.skip fun a q=>⟨(),rfl,?_⟩
   rw [eb]
   exact q.sub ⟨rfl,rfl,rfl,rfl,trivial⟩
 ·rintro _ g rfl
  exact WL.sr<|WOL.mv rfl<|WOL.as rfl<|WOL.nil<|WL.ret (WL.end_ rfl ⟨rfl,N1.hx⟩)
set_option maxHeartbeats 4000000 in
set_option maxRecDepth 10000 in
theorem k1655 (H:Has tp) (r:SecH h v1 v2 M A) (lM:M.length≤100000) (lA:A.length≤100000) (f:Free0 h.next h):CallW Tryz.prog tp (.func (.func 101) #[] #[]) #[secV s v1 v2] h fun u h'=>HX h h'∧OwnL encS h.next h' u 87 (perS (M.map Prod.fst) (A.map Prod.fst)):=by
 refine CallW.fnL (H.fn 101 f1655 rfl rfl) ?_
 obtain ⟨b1,k1,rfl⟩:=r.m.form
 obtain ⟨b2,k2,rfl⟩:=r.a.form
 refine WL.sr<|WOL.box rfl fun h1 N1=>WOL.as rfl<|WOL.nil<|keep [(1,_)] ⟨rfl,trivial⟩ ?_
 have n1:=N1.next
 have A1:At h1 h.next (.cells [.string s,.slice b1 M.length k1,.slice b2 A.length k2] true true 39):=N1.at_
 refine WL.sr<|WOL.as rfl<|WOL.nil ?_
 refine WL.sr<|WOL.as rfl<|WOL.nil ?_
 have e0:frm8 (M.map Prod.fst) (A.map Prod.fst) 0=0:=rfl
 refine WL.seq<|WL.sr<|WOL.fa rfl (fa_of fo1660_2)<|WOL.ld rfl (load_one tp1658 A1 rfl)<|WOL.len rfl (r.a.hx N1.hx) u1658<|WOL.mv rfl<|WOL.nil<|keep [(1,_),(3,_),(4,_),(9,_),(10,_),(11,_)] ⟨rfl,rfl,rfl,rfl,rfl,rfl,trivial⟩ ?_
 refine WL.upto (α:=Value) A.length (fun j u g=>HX h1 g∧OwnL encS h1.next g u 87 (perL (M.map Prod.fst) (A.map Prod.fst) j)) (fun j u=>[(1,ptr h.next),(3,u),(4,zi (frm8 (M.map Prod.fst) (A.map Prod.fst) j:Nat)),(9,.slice b2 A.length k2),(10,zi (A.length:Nat))]) (.slice none 0 0) rfl rfl (by omega) ⟨HX.refl _,OwnL.nil⟩ ⟨rfl,rfl,rfl,rfl,rfl,rfl,trivial⟩ (fun _ _=>rfl) (fun _ _ _=>⟨rfl,rfl,rfl,rfl,rfl,rfl,trivial⟩) (fun _ _ _=>⟨rfl,rfl,rfl,rfl,rfl,rfl,trivial⟩) ?_ ?_
 ·rintro j u g hj ⟨X,O⟩
  have hp:A[j]?=some A[j]:=List.getElem?_eq_getElem hj
  have eg:(A.map Prod.fst).getD j 0=A[j].1:=map_getD0 hp
  have Xh:=N1.hx.trans X
  have xg:=X.next
  obtain ⟨b,o,cc,fix,wr,el,g1,g2,g3,g4,g5⟩:=(r.a.hx Xh).at eA u1658 tp1673 hp .i64
  have ef:frm8 (M.map Prod.fst) (A.map Prod.fst) (j+1)=bef (M.map Prod.fst) A[j].1 M.length:=by
   show bef _ ((A.map Prod.fst).getD j 0) (M.map Prod.fst).length=_
   rw [eg,List.length_map]
  have ep:perL (M.map Prod.fst) (A.map Prod.fst) (j+1)=perL (M.map Prod.fst) (A.map Prod.fst) j ++ [(((frm8 (M.map Prod.fst) (A.map Prod.fst) j:Nat):Int),((frm8 (M.map Prod.fst) (A.map Prod.fst) (j+1):Nat):Int))]:=rfl
  generalize A[j]=p at *
  refine WL.sr<|WOL.ix rfl rfl g1<|WOL.ld rfl (load_row tp1673 g2 g4 g3)<|WOL.al tp1673 fun i1 M1=>WOL.sto (vs:=[zi p.1,.string p.2]) rfl rfl tp1673 M1.at_ rfl rfl (Nat.le_of_ble_eq_true rfl) rfl ((f.on Xh).hx M1.hx) (Nat.le_refl _) fun i2 P2=>WOL.nil<|keep [(1,_),(3,_),(4,_),(6,_),(9,_),(10,_),(11,_)] ⟨rfl,rfl,rfl,rfl,rfl,rfl,rfl,trivial⟩ ?_
  have m1:=M1.next
  have Z2:HX g i2:=P2.hx _ M1.hx (Nat.le_refl _)
  have A6:At i2 g.next (.cells [zi p.1,.string p.2] true true 128):=P2.at_
  have X2:=X.trans Z2
  refine WL.sr<|WOL.ld rfl (load_row tp1660 (A1.hx X2) rfl (Nat.le_of_ble_eq_true rfl))<|WOL.fa rfl (fa_of fo1673_0)<|WOL.ld rfl (load_one tp3 A6 rfl)<|WOL.cl2 rfl rfl rfl ((k1697 (s:=s) (d:=p.1) H (r.hx (N1.hx.trans X2)) lM).mono ?_)
  rintro w i3 ⟨rfl,X3⟩
  rw [← ef]
  have X3':=X2.trans X3
  have x3:=X3'.next
  refine WOL.as rfl<|WOL.nil<|keep [(1,_),(3,_),(4,_),(7,_),(9,_),(10,_),(11,_)] ⟨rfl,rfl,rfl,rfl,rfl,rfl,rfl,trivial⟩ ?_
  refine WL.sr<|WOL.mv rfl<|WOL.mv rfl<|WOL.mv rfl<|WOL.bd rfl bd48<|WOL.bs2 rfl u44 tp48 fun i4 M4=>?_
  have m4:=M4.next
  obtain ⟨w',i5,ap,O5,x5,_,_,_⟩:=own_push (sT:=83) (x:=(((frm8 (M.map Prod.fst) (A.map Prod.fst) j:Nat):Int),((frm8 (M.map Prod.fst) (A.map Prod.fst) (j+1):Nat):Int))) eS u44 tp48 (((O.hx Z2).hx X3).hx M4.hx) (SlC.own (sz:=2) (m:=1) rfl M4.at_) ((f.hx ((N1.hx.trans X3').trans M4.hx)).up (by omega)) (by rw [perL_len];omega) (by omega)
  rw [← ep] at O5
  refine WOL.ap rfl rfl ap<|WOL.as rfl<|WOL.nil<|WL.reg<|WOL.mv rfl<|WOL.as rfl<|WOL.nil fun a q=>⟨w',⟨x5 _ (X3'.trans M4.hx) (Nat.le_refl _),O5⟩,q.sub ⟨rfl,rfl,rfl,rfl,rfl,rfl,trivial⟩⟩
 ·rintro u g ⟨X,O⟩
  have Xh:=N1.hx.trans X
  have xg:=X.next
  refine WL.sr<|WOL.mv rfl<|WOL.mv rfl<|WOL.fa rfl (fa_of fo1660_1)<|WOL.ld rfl (load_one tp1657 (A1.hx X) rfl)<|WOL.len rfl (r.m.hx Xh) u1657<|WOL.bd rfl bd48<|WOL.bs2 rfl u44 tp48 fun i4 M4=>?_
  have m4:=M4.next
  obtain ⟨w',i5,ap,O5,x5,_,_,_⟩:=own_push (sT:=83) (x:=(((frm8 (M.map Prod.fst) (A.map Prod.fst) A.length:Nat):Int),((M.length:Nat):Int))) eS u44 tp48 (O.hx M4.hx) (SlC.own (sz:=2) (m:=1) rfl M4.at_) ((f.hx (Xh.trans M4.hx)).up (by omega)) (by rw [perL_len];omega) (by omega)
  refine WOL.ap rfl rfl ap<|WOL.as rfl<|WOL.nil<|WL.ret (WL.end_ rfl ⟨N1.hx.trans (x5 _ (X.trans M4.hx) (Nat.le_refl _)),?_⟩)
  unfold perS
  rw [List.length_map,List.length_map]
  exact O5.low (by omega)
set_option maxHeartbeats 4000000 in
set_option maxRecDepth 10000 in
theorem k1608 (H:Has tp) (r:SecR h v1 v2 M A) (lM:M.length≤100000) (lA:A.length≤100000) (f:Free0 h.next h):CallW Tryz.prog tp (.func (.func 87) #[] #[]) #[secV s v1 v2] h fun u h'=>HX h h'∧OwnL encS h.next h' u 87 (perS (M.map Prod.fst) (A.map Prod.fst)):=by
 refine CallW.fnL (H.fn 87 f1608 rfl rfl) ?_
 obtain ⟨b1,k1,rfl⟩:=r.m.form
 obtain ⟨b2,k2,rfl⟩:=r.a.form
 refine WL.sr<|WOL.box rfl fun h1 N1=>WOL.as rfl<|WOL.nil<|keep [(1,_)] ⟨rfl,trivial⟩ ?_
 have n1:=N1.next
 have A1:At h1 h.next (.cells [.string s,.slice b1 M.length k1,.slice b2 A.length k2] true true 25):=N1.at_
 refine WL.sr<|WOL.as rfl<|WOL.nil ?_
 refine WL.sr<|WOL.as rfl<|WOL.nil ?_
 have e0:frm8 (M.map Prod.fst) (A.map Prod.fst) 0=0:=rfl
 refine WL.seq<|WL.sr<|WOL.as rfl<|WOL.nil ?_
 refine WL.forz (α:=Value) A.length (fun j u g=>HX h1 g∧OwnL encS h1.next g u 87 (perL (M.map Prod.fst) (A.map Prod.fst) j)) (fun j u=>[(1,ptr h.next),(3,u),(4,zi (frm8 (M.map Prod.fst) (A.map Prod.fst) j:Nat)),(5,zi (j:Nat))]) (fun j u=>[(1,ptr h.next),(3,u),(4,zi (frm8 (M.map Prod.fst) (A.map Prod.fst) (j+1):Nat)),(5,zi (j:Nat))]) (.slice none 0 0) ⟨HX.refl _,OwnL.nil⟩ ⟨rfl,rfl,rfl,rfl,trivial⟩ ?_ ?_ (fun _ _ _=>⟨rfl,rfl,rfl,rfl,trivial⟩) ?_ ?_
 ·rintro j u g hj ⟨X,O⟩
  exact WOL.mv rfl<|WOL.fa rfl (fa_of fo1654_2)<|WOL.ld rfl (load_one tp1652 (A1.hx X) rfl)<|WOL.len rfl (r.a.hx (N1.hx.trans X)) u1652<|WOL.bi rfl rfl rfl<|WOL.nil fun a q=>⟨rfl,q.sub ⟨rfl,rfl,rfl,rfl,rfl,trivial⟩⟩
 ·rintro j u g hj q1
  exact WOL.mv rfl<|WOL.inc rfl (by omega)<|WOL.as rfl<|WOL.nil fun a q=>⟨q1,q.sub ⟨rfl,rfl,rfl,rfl,trivial⟩⟩
 ·rintro j u g hj ⟨X,O⟩
  have hp:A[j]?=some A[j]:=List.getElem?_eq_getElem hj
  have eg:(A.map Prod.fst).getD j 0=A[j].1:=map_getD0 hp
  have Xh:=N1.hx.trans X
  have xg:=X.next
  obtain ⟨b,o,cc,fix,wr,el,g1,g2,g3,g4,g5⟩:=(r.a.hx Xh).at eA u1652 tp1668 hp .i64
  have ef:frm8 (M.map Prod.fst) (A.map Prod.fst) (j+1)=bef (M.map Prod.fst) A[j].1 M.length:=by
   show bef _ ((A.map Prod.fst).getD j 0) (M.map Prod.fst).length=_
   rw [eg,List.length_map]
  have ep:perL (M.map Prod.fst) (A.map Prod.fst) (j+1)=perL (M.map Prod.fst) (A.map Prod.fst) j ++ [(((frm8 (M.map Prod.fst) (A.map Prod.fst) j:Nat):Int),((frm8 (M.map Prod.fst) (A.map Prod.fst) (j+1):Nat):Int))]:=rfl
  generalize A[j]=p at *
  refine WL.sr<|WOL.ld rfl (load_row tp1654 (A1.hx X) rfl (Nat.le_of_ble_eq_true rfl))<|WOL.fa rfl (fa_of fo1654_2)<|WOL.ld rfl (load_one tp1652 (A1.hx X) rfl)<|WOL.mv rfl<|WOL.ix rfl rfl g1<|WOL.fa rfl (fa_of fo1668_0)<|WOL.ld rfl (load_one tp3 g2 (by have:=g5 0 (by decide);rwa [Nat.add_zero] at this))<|WOL.cl2 rfl rfl rfl ((k1656 (s:=s) (d:=p.1) H (r.hx Xh) lM).mono ?_)
  rintro w i3 ⟨rfl,X3⟩
  rw [← ef]
  have X3':=X.trans X3
  have x3:=X3'.next
  refine WOL.as rfl<|WOL.nil<|keep [(1,_),(3,_),(4,_),(5,_),(6,_)] ⟨rfl,rfl,rfl,rfl,rfl,trivial⟩ ?_
  refine WL.sr<|WOL.mv rfl<|WOL.mv rfl<|WOL.mv rfl<|WOL.bd rfl bd48<|WOL.bs2 rfl u44 tp48 fun i4 M4=>?_
  have m4:=M4.next
  obtain ⟨w',i5,ap,O5,x5,_,_,_⟩:=own_push (sT:=83) (x:=(((frm8 (M.map Prod.fst) (A.map Prod.fst) j:Nat):Int),((frm8 (M.map Prod.fst) (A.map Prod.fst) (j+1):Nat):Int))) eS u44 tp48 ((O.hx X3).hx M4.hx) (SlC.own (sz:=2) (m:=1) rfl M4.at_) ((f.hx ((N1.hx.trans X3').trans M4.hx)).up (by omega)) (by rw [perL_len];omega) (by omega)
  rw [← ep] at O5
  refine WOL.ap rfl rfl ap<|WOL.as rfl<|WOL.nil<|WL.reg<|WOL.mv rfl<|WOL.as rfl<|WOL.nil fun a q=>⟨w',⟨x5 _ (X3'.trans M4.hx) (Nat.le_refl _),O5⟩,q.sub ⟨rfl,rfl,rfl,rfl,trivial⟩⟩
 ·rintro u g ⟨X,O⟩
  have Xh:=N1.hx.trans X
  have xg:=X.next
  refine WL.sr<|WOL.mv rfl<|WOL.mv rfl<|WOL.fa rfl (fa_of fo1654_1)<|WOL.ld rfl (load_one tp1651 (A1.hx X) rfl)<|WOL.len rfl (r.m.hx Xh) u1651<|WOL.bd rfl bd48<|WOL.bs2 rfl u44 tp48 fun i4 M4=>?_
  have m4:=M4.next
  obtain ⟨w',i5,ap,O5,x5,_,_,_⟩:=own_push (sT:=83) (x:=(((frm8 (M.map Prod.fst) (A.map Prod.fst) A.length:Nat):Int),((M.length:Nat):Int))) eS u44 tp48 (O.hx M4.hx) (SlC.own (sz:=2) (m:=1) rfl M4.at_) ((f.hx (Xh.trans M4.hx)).up (by omega)) (by rw [perL_len];omega) (by omega)
  refine WOL.ap rfl rfl ap<|WOL.as rfl<|WOL.nil<|WL.ret (WL.end_ rfl ⟨N1.hx.trans (x5 _ (X.trans M4.hx) (Nat.le_refl _)),?_⟩)
  unfold perS
  rw [List.length_map,List.length_map]
  exact O5.low (by omega)
end
end Go.Tidy
namespace Go.Tidy
open Go Go.Proofs Tab
variable {tp:TProg}
section
variable {P:Program} {h:TH} {K:Regs→TH→Prop} {rest:List TOper} {d:Option Tmp} {ty:TypeId} {i:Nat} {x y z:Operand} {t u s:TypeId} {L:Rg}
theorem WOL.imaxQ {m n:Int} (hx:getL L x=some (zi m)) (hy:getL L y=some (zi n)) (w:∀ a,Kn (putL L d (zi (max m n))) a→WO P tp rest a h K):∀ a,Kn L a→WO P tp (⟨d,.call ⟨.builtin .max,#[x,y],#[t,u]⟩,ty,none,[],i⟩::rest) a h K:=by
 intro a k
 have ex:=getO_eval (k.o hx)
 have ey:=getO_eval (k.o hy)
 have q:(if m < n then n else m)=max m n:=by rw [Int.max_def];split <;> split <;> omega
 refine WO.plainly rfl rfl rfl rfl rfl (plainOp_of rfl (fun p hp=>?_) ?_ rfl) (w _ (k.put d _))
 ·simp only [Op.operands,Call.operands] at hp
  simp at hp
  rcases hp with rfl | rfl
  ·rw [ex];rfl
  ·rw [ey];rfl
 ·simp [toOper,execOp,resolve,invoke,builtin,Builtin.max_,Builtin.max2,pv_bind,pv_map,pv_pure,ex,ey,q]
end
theorem OwnL.fits {α:Type} {enc:α→List Value} {n0:Nat} {h:TH} {v:Value} {e:TypeId} {l:List α} (o:OwnL enc n0 h v e l):Fits h v e:=by
 rcases o with ⟨rfl,_⟩ | ⟨_,b,rfl,_,A⟩
 ·intro b off m cap hv;cases hv
 ·intro b' off m cap hv
  cases hv
  exact ⟨_,_,_,_,A,.inr rfl⟩
theorem bd1660 {s:ByteArray}:buildT Tryz.prog 39 [(0,.string s)]=some (.agg #[.string s,.slice none 0 0,.slice none 0 0]):=by kernel_rfl
section
variable {h:TH} {v v1 v2:Value} {x y d:Int} {s:ByteArray} {M:List (Int × Int)} {A:List (Int × ByteArray)}
set_option maxHeartbeats 8000000 in
set_option maxRecDepth 10000 in
theorem k1607 (H:Has tp) (r:SecR h v1 v2 M A) (lM:M.length≤100000) (lA:A.length≤100000):CallW Tryz.prog tp (.func (.func 25) #[] #[]) #[secV s v1 v2] h fun u h'=>u=zi (secE s M A)∧HX h h':=by
  refine CallW.fnL (H.fn 25 f1607 rfl rfl) ?_
  obtain ⟨b1,k1,rfl⟩:=r.m.form
  obtain ⟨b2,k2,rfl⟩:=r.a.form
  refine WL.sr<|WOL.box rfl fun h1 N1=>WOL.as rfl<|WOL.nil<|keep [(1,_)] ⟨rfl,trivial⟩ ?_
  have A1:At h1 h.next (.cells [.string s,.slice b1 M.length k1,.slice b2 A.length k2] true true 25):=N1.at_
  have tp1666L:=tp1651
  have tp1668L:=tp1652
  refine WL.seq<|WL.sr<|WOL.fa rfl (fa_of fo1654_0)<|WOL.ld rfl (load_one tp9 A1 rfl)<|WOL.fa rfl (fa_of fo1654_1)<|WOL.ld rfl (load_one tp1651 A1 rfl)<|WOL.len rfl (r.m.hx N1.hx) u1651<|WOL.bi rfl rfl rfl<|WOL.lk1 rfl rfl fun L=>((k92 H).mono ?_)
  rintro w h2 ⟨rfl,rfl⟩
  rw [TH.relock]
  refine WOL.cl2 rfl rfl rfl ((k32 H _ _ _).mono ?_)
  rintro w h1 ⟨rfl,rfl⟩
  refine WOL.bsl rfl u29 tp3 (by decide) (by decide) (by decide) (filled_ints _ _) fun h3 N3=>?_
  refine WOL.cl1 rfl rfl ((k13 H (l:=[_,_]) N3.at_.get (by simp)).mono ?_)
  rintro w h4 ⟨rfl,rfl⟩
  have XX:=N3.hx
  have XX:=XX
  refine WOL.as rfl<|WOL.nil<|keep [(1,_),(3,_)] ⟨rfl,rfl,trivial⟩ ?_
  have eS0:secE s M A=firstNZ [cond (!nameB s) 8 0,entE 32 (M.map Prod.fst) (M.map mesE),entE 16 (A.map Prod.fst) (A.map actE)]:=rfl
  have eM:entE 32 (M.map Prod.fst) (M.map mesE)=cond (decide (M.length > 32)) 5 (firstNZ (errL (M.map Prod.fst) (M.map mesE))):=by unfold entE;rw [List.length_map]
  have eAA:entE 16 (A.map Prod.fst) (A.map actE)=cond (decide (A.length > 16)) 5 (firstNZ (errL (A.map Prod.fst) (A.map actE))):=by unfold entE;rw [List.length_map]
  by_cases cn:nameB s=true
  · rw [cn]
    rw [cn] at eS0
    by_cases c1:M.length > 32
    · rw [show decide ((M.length:Int) > 32)=true from decide_eq_true (by omega)]
      refine WL.sr<|WOL.mv rfl<|WOL.bt rfl rfl rfl rfl<|WOL.nil<|WL.yes rfl<|WL.sr<|WOL.mv rfl<|WOL.as rfl<|WOL.nil<|WL.ret (WL.end_ rfl ⟨?_,N1.hx.trans N3.hx⟩)
      rw [eS0,eM,decide_eq_true c1];rfl
    rw [show decide ((M.length:Int) > 32)=false from decide_eq_false (by omega)]
    have eT1:secE s M A=firstNZ [entE 32 (M.map Prod.fst) (M.map mesE),entE 16 (A.map Prod.fst) (A.map actE)]:=eS0
    rw [eM] at eT1
    refine WL.sr<|WOL.mv rfl<|WOL.bf rfl rfl rfl rfl<|WOL.nil<|WL.no rfl<|WL.skip<|keep [(1,_)] ⟨rfl,trivial⟩ ?_
    refine WL.seq<|WL.sr<|WOL.as rfl<|WOL.nil ?_
    refine WL.forz (α:=Unit) M.length (fun j _ g=>HX h1 g∧∀ i,i < j→(errL (M.map Prod.fst) (M.map mesE)).getD i 0=0) (fun j _=>[(1,ptr h.next),(4,zi (j:Nat))]) (fun j _=>[(1,ptr h.next),(4,zi (j:Nat))]) () ⟨XX,fun i hi=>absurd hi (by omega)⟩ ⟨rfl,rfl,trivial⟩ ?_ ?_ (fun _ _ _=>⟨rfl,rfl,trivial⟩) ?_ ?_
    · rintro j _ g hj ⟨X,hz⟩
      exact WOL.mv rfl<|WOL.fa rfl (fa_of fo1654_1)<|WOL.ld rfl (load_one tp1666L (A1.hx X) rfl)<|WOL.len rfl (r.m.hx (N1.hx.trans X)) u1651<|WOL.bi rfl rfl rfl<|WOL.nil fun a q=>⟨rfl,q.sub ⟨rfl,rfl,rfl,trivial⟩⟩
    · rintro j _ g hj q1
      exact WOL.mv rfl<|WOL.inc rfl (by omega)<|WOL.as rfl<|WOL.nil fun a q=>⟨q1,q.sub ⟨rfl,rfl,trivial⟩⟩
    · rintro j _ g hj ⟨X,hz⟩
      have hp:M[j]?=some M[j]:=List.getElem?_eq_getElem hj
      have eg:=errL_get (ds:=M.map Prod.fst) (es:=M.map mesE) (j:=j) (by rw [List.length_map];exact hj)
      have ed:(M.map Prod.fst).getD j 0=M[j].1:=map_getD0 hp
      have em:(M.map mesE).getD j 0=mesE M[j]:=map_getD0 hp
      have ee:=el_ref (ds:=M.map Prod.fst) (es:=M.map mesE) (j:=j) (by rw [List.length_map];exact hj) (by rw [ed,em];exact mesE_day)
      rw [ed,em] at ee
      obtain ⟨b,o,cc,fix,wr,el,g1,g2,g3,g4,g5⟩:=(r.m.hx (N1.hx.trans X)).at eS u1651 tp1666 hp .i64
      generalize M[j]=p at *
      refine WL.sr<|WOL.fa rfl (fa_of fo1654_1)<|WOL.ld rfl (load_one tp1666L (A1.hx X) rfl)<|WOL.mv rfl<|WOL.ix rfl rfl g1<|WOL.ld rfl (load_row tp1666 g2 g4 g3)<|WOL.mv rfl<|WOL.bi (v:=.bool (decide (0 < j))) rfl rfl (by show some (Value.bool (decide ((j:Int) > 0)))=_;rw [show decide ((j:Int) > 0)=decide (0 < j) from decide_eq_decide.2 (by omega)])<|WOL.cl1 rfl rfl ((k1612 (x:=p.1) (y:=p.2) H).mono ?_)
      rintro w g' ⟨rfl,X3⟩
      have X4:=X.trans X3
      have A1':=A1.hx X4
      refine WOL.cut 17 [(1,ptr h.next),(4,zi (j:Nat)),(33,zi (mesE (p.1,p.2))),(52,.bool (decide (0 < j) && decide (p.1≤(M.map Prod.fst).getD (j - 1) 0)))] ?_ ?_
      · by_cases c0:0 < j
        · have hq:M[j - 1]?=some M[j - 1]:=List.getElem?_eq_getElem (by omega)
          rw [show (M.map Prod.fst).getD (j - 1) 0=M[j - 1].1 from map_getD0 hq,decide_eq_true c0]
          obtain ⟨b',o',cc',fix',wr',el',k1',k2',k3',k4',k5'⟩:=(r.m.hx (N1.hx.trans X4)).at eS u1651 tp1666 hq .i64
          generalize M[j - 1]=pq at *
          refine WOL.mv rfl<|WOL.now (b:=true) rfl rfl<|WOL.fa rfl (fa_of fo1654_1)<|WOL.now (b:=true) rfl rfl<|WOL.ld rfl (load_one tp1666L A1' rfl)<|WOL.now (b:=true) rfl rfl<|WOL.mv rfl<|WOL.now (b:=true) rfl rfl<|WOL.ix rfl rfl g1<|WOL.now (b:=true) rfl rfl<|WOL.fa rfl (fa_of fo1666_0)<|WOL.now (b:=true) rfl rfl<|WOL.ld rfl (load_one tp3 (g2.hx X3) (by have:=g5 0 (by decide);rwa [Nat.add_zero] at this))<|WOL.now (b:=true) rfl rfl<|WOL.fa rfl (fa_of fo1654_1)<|WOL.now (b:=true) rfl rfl<|WOL.ld rfl (load_one tp1666L A1' rfl)<|WOL.now (b:=true) rfl rfl<|WOL.mv rfl<|WOL.now (b:=true) rfl rfl<|WOL.sub rfl rfl (by omega) (by omega)<|WOL.now (b:=true) rfl rfl<|WOL.imaxQ rfl rfl ?_
          rw [show max 0 ((j:Int) - 1)=((j - 1:Nat):Int) by omega]
          exact WOL.now (b:=true) rfl rfl<|WOL.ix rfl rfl k1'<|WOL.now (b:=true) rfl rfl<|WOL.fa rfl (fa_of fo1666_0)<|WOL.now (b:=true) rfl rfl<|WOL.ld rfl (load_one tp3 k2' (by have:=k5' 0 (by decide);rwa [Nat.add_zero] at this))<|WOL.now (b:=true) rfl rfl<|WOL.bi rfl rfl rfl<|WOL.pkt rfl rfl<|WOL.nil fun a q=>⟨rfl,q.sub ⟨rfl,rfl,rfl,rfl,trivial⟩⟩
        · rw [decide_eq_false c0]
          exact WOL.mv rfl<|WOL.skp (b:=false) rfl rfl<|WOL.skp (b:=false) rfl rfl<|WOL.skp (b:=false) rfl rfl<|WOL.skp (b:=false) rfl rfl<|WOL.skp (b:=false) rfl rfl<|WOL.skp (b:=false) rfl rfl<|WOL.skp (b:=false) rfl rfl<|WOL.skp (b:=false) rfl rfl<|WOL.skp (b:=false) rfl rfl<|WOL.skp (b:=false) rfl rfl<|WOL.skp (b:=false) rfl rfl<|WOL.skp (b:=false) rfl rfl<|WOL.skp (b:=false) rfl rfl<|WOL.skp (b:=false) rfl rfl<|WOL.skp (b:=false) rfl rfl<|WOL.pkf rfl rfl<|WOL.nil fun a q=>⟨rfl,q.sub ⟨rfl,rfl,rfl,rfl,trivial⟩⟩
      refine WOL.cl2 rfl rfl rfl ((k32 H _ _ _).mono ?_)
      rintro w g3 ⟨rfl,rfl⟩
      refine WOL.bsl rfl u29 tp3 (by decide) (by decide) (by decide) (filled_ints _ _) fun g4 N5=>?_
      refine WOL.cl1 rfl rfl ((k13 H (l:=[_,_]) N5.at_.get (by simp)).mono ?_)
      rintro w g6 ⟨rfl,rfl⟩
      have X6:=X4.trans N5.hx
      rw [← show elP (M.map Prod.fst) (M.map mesE) j=firstNZ [mesE (p.1,p.2),cond (decide (0 < j) && decide (p.1≤(M.map Prod.fst).getD (j - 1) 0)) 11 0] from ee]
      generalize elP (M.map Prod.fst) (M.map mesE) j=E at *
      refine WOL.as rfl<|WOL.nil ?_
      by_cases h0:E=0
      · subst h0
        refine WL.sr<|WOL.mv rfl<|WOL.bf rfl rfl rfl rfl<|WOL.nil<|WL.no rfl<|WL.skip fun a k=>⟨(),⟨X6,fun i hi=>?_⟩,k.sub ⟨rfl,rfl,trivial⟩⟩
        by_cases e:i=j
        · subst e
          rw [List.getD_eq_getElem?_getD,eg];rfl
        · exact hz i (by omega)
      · refine WL.sr<|WOL.mv rfl<|WOL.bt rfl rfl rfl (bne_iff_ne.2 h0)<|WOL.nil<|WL.yes rfl<|WL.sr<|WOL.mv rfl<|WOL.as rfl<|WOL.nil<|WL.ret (WL.end_ rfl ⟨?_,N1.hx.trans X6⟩)
        have eF:=fNZ_at hz eg h0
        rw [eT1,decide_eq_false c1,eF]
        show zi E=zi (cond (E != 0) E _)
        rw [bne_iff_ne.2 h0];rfl
    rintro _ g ⟨X,hz⟩
    rw [decide_eq_false c1,show cond false 5 (firstNZ (errL (M.map Prod.fst) (M.map mesE)))=0 from fNZ_all fun i hi=>hz i (by unfold errL at hi;rw [List.length_map,List.length_range,List.length_map] at hi;exact hi)] at eT1
    have eT1:secE s M A=firstNZ [entE 16 (A.map Prod.fst) (A.map actE)]:=eT1
    rw [eAA] at eT1
    by_cases c2:A.length > 16
    · refine WL.seq<|WL.sr<|WOL.fa rfl (fa_of fo1654_2)<|WOL.ld rfl (load_one tp1652 (A1.hx X) rfl)<|WOL.len rfl (r.a.hx (N1.hx.trans X)) u1652<|WOL.bt rfl rfl rfl (decide_eq_true (by omega))<|WOL.nil<|WL.yes rfl<|WL.sr<|WOL.as rfl<|WOL.nil<|WL.ret (WL.end_ rfl ⟨?_,N1.hx.trans X⟩)
      rw [eT1,decide_eq_true c2];rfl
    rw [decide_eq_false c2] at eT1
    have eT2:secE s M A=firstNZ (errL (A.map Prod.fst) (A.map actE)):=by
      rw [eT1]
      show cond (_ != 0) _ 0=_
      cases hc:(firstNZ (errL (A.map Prod.fst) (A.map actE)) != 0) with
      | true=>simp only [cond_false,hc,cond_true]
      | false=>simp only [cond_false,hc];exact (bne_z.1 hc).symm
    refine WL.seq<|WL.sr<|WOL.fa rfl (fa_of fo1654_2)<|WOL.ld rfl (load_one tp1652 (A1.hx X) rfl)<|WOL.len rfl (r.a.hx (N1.hx.trans X)) u1652<|WOL.bf rfl rfl rfl (decide_eq_false (by omega))<|WOL.nil<|WL.no rfl<|WL.skip<|keep [(1,_)] ⟨rfl,trivial⟩ ?_
    clear hz
    have XX:=X
    refine WL.seq<|WL.sr<|WOL.as rfl<|WOL.nil ?_
    refine WL.forz (α:=Unit) A.length (fun j _ g=>HX h1 g∧∀ i,i < j→(errL (A.map Prod.fst) (A.map actE)).getD i 0=0) (fun j _=>[(1,ptr h.next),(6,zi (j:Nat))]) (fun j _=>[(1,ptr h.next),(6,zi (j:Nat))]) () ⟨XX,fun i hi=>absurd hi (by omega)⟩ ⟨rfl,rfl,trivial⟩ ?_ ?_ (fun _ _ _=>⟨rfl,rfl,trivial⟩) ?_ ?_
    · rintro j _ g hj ⟨X,hz⟩
      exact WOL.mv rfl<|WOL.fa rfl (fa_of fo1654_2)<|WOL.ld rfl (load_one tp1668L (A1.hx X) rfl)<|WOL.len rfl (r.a.hx (N1.hx.trans X)) u1652<|WOL.bi rfl rfl rfl<|WOL.nil fun a q=>⟨rfl,q.sub ⟨rfl,rfl,rfl,trivial⟩⟩
    · rintro j _ g hj q1
      exact WOL.mv rfl<|WOL.inc rfl (by omega)<|WOL.as rfl<|WOL.nil fun a q=>⟨q1,q.sub ⟨rfl,rfl,trivial⟩⟩
    · rintro j _ g hj ⟨X,hz⟩
      have hp:A[j]?=some A[j]:=List.getElem?_eq_getElem hj
      have eg:=errL_get (ds:=A.map Prod.fst) (es:=A.map actE) (j:=j) (by rw [List.length_map];exact hj)
      have ed:(A.map Prod.fst).getD j 0=A[j].1:=map_getD0 hp
      have em:(A.map actE).getD j 0=actE A[j]:=map_getD0 hp
      have ee:=el_ref (ds:=A.map Prod.fst) (es:=A.map actE) (j:=j) (by rw [List.length_map];exact hj) (by rw [ed,em];exact actE_day)
      rw [ed,em] at ee
      obtain ⟨b,o,cc,fix,wr,el,g1,g2,g3,g4,g5⟩:=(r.a.hx (N1.hx.trans X)).at eA u1652 tp1668 hp .i64
      generalize A[j]=p at *
      refine WL.sr<|WOL.fa rfl (fa_of fo1654_2)<|WOL.ld rfl (load_one tp1668L (A1.hx X) rfl)<|WOL.mv rfl<|WOL.ix rfl rfl g1<|WOL.ld rfl (load_row tp1668 g2 g4 g3)<|WOL.mv rfl<|WOL.bi (v:=.bool (decide (0 < j))) rfl rfl (by show some (Value.bool (decide ((j:Int) > 0)))=_;rw [show decide ((j:Int) > 0)=decide (0 < j) from decide_eq_decide.2 (by omega)])<|WOL.cl1 rfl rfl ((k1613 (x:=p.1) (s:=p.2) H).mono ?_)
      rintro w g' ⟨rfl,X3⟩
      have X4:=X.trans X3
      have A1':=A1.hx X4
      refine WOL.cut 17 [(1,ptr h.next),(6,zi (j:Nat)),(75,zi (actE (p.1,p.2))),(94,.bool (decide (0 < j) && decide (p.1≤(A.map Prod.fst).getD (j - 1) 0)))] ?_ ?_
      · by_cases c0:0 < j
        · have hq:A[j - 1]?=some A[j - 1]:=List.getElem?_eq_getElem (by omega)
          rw [show (A.map Prod.fst).getD (j - 1) 0=A[j - 1].1 from map_getD0 hq,decide_eq_true c0]
          obtain ⟨b',o',cc',fix',wr',el',k1',k2',k3',k4',k5'⟩:=(r.a.hx (N1.hx.trans X4)).at eA u1652 tp1668 hq .i64
          generalize A[j - 1]=pq at *
          refine WOL.mv rfl<|WOL.now (b:=true) rfl rfl<|WOL.fa rfl (fa_of fo1654_2)<|WOL.now (b:=true) rfl rfl<|WOL.ld rfl (load_one tp1668L A1' rfl)<|WOL.now (b:=true) rfl rfl<|WOL.mv rfl<|WOL.now (b:=true) rfl rfl<|WOL.ix rfl rfl g1<|WOL.now (b:=true) rfl rfl<|WOL.fa rfl (fa_of fo1668_0)<|WOL.now (b:=true) rfl rfl<|WOL.ld rfl (load_one tp3 (g2.hx X3) (by have:=g5 0 (by decide);rwa [Nat.add_zero] at this))<|WOL.now (b:=true) rfl rfl<|WOL.fa rfl (fa_of fo1654_2)<|WOL.now (b:=true) rfl rfl<|WOL.ld rfl (load_one tp1668L A1' rfl)<|WOL.now (b:=true) rfl rfl<|WOL.mv rfl<|WOL.now (b:=true) rfl rfl<|WOL.sub rfl rfl (by omega) (by omega)<|WOL.now (b:=true) rfl rfl<|WOL.imaxQ rfl rfl ?_
          rw [show max 0 ((j:Int) - 1)=((j - 1:Nat):Int) by omega]
          exact WOL.now (b:=true) rfl rfl<|WOL.ix rfl rfl k1'<|WOL.now (b:=true) rfl rfl<|WOL.fa rfl (fa_of fo1668_0)<|WOL.now (b:=true) rfl rfl<|WOL.ld rfl (load_one tp3 k2' (by have:=k5' 0 (by decide);rwa [Nat.add_zero] at this))<|WOL.now (b:=true) rfl rfl<|WOL.bi rfl rfl rfl<|WOL.pkt rfl rfl<|WOL.nil fun a q=>⟨rfl,q.sub ⟨rfl,rfl,rfl,rfl,trivial⟩⟩
        · rw [decide_eq_false c0]
          exact WOL.mv rfl<|WOL.skp (b:=false) rfl rfl<|WOL.skp (b:=false) rfl rfl<|WOL.skp (b:=false) rfl rfl<|WOL.skp (b:=false) rfl rfl<|WOL.skp (b:=false) rfl rfl<|WOL.skp (b:=false) rfl rfl<|WOL.skp (b:=false) rfl rfl<|WOL.skp (b:=false) rfl rfl<|WOL.skp (b:=false) rfl rfl<|WOL.skp (b:=false) rfl rfl<|WOL.skp (b:=false) rfl rfl<|WOL.skp (b:=false) rfl rfl<|WOL.skp (b:=false) rfl rfl<|WOL.skp (b:=false) rfl rfl<|WOL.skp (b:=false) rfl rfl<|WOL.pkf rfl rfl<|WOL.nil fun a q=>⟨rfl,q.sub ⟨rfl,rfl,rfl,rfl,trivial⟩⟩
      refine WOL.cl2 rfl rfl rfl ((k32 H _ _ _).mono ?_)
      rintro w g3 ⟨rfl,rfl⟩
      refine WOL.bsl rfl u29 tp3 (by decide) (by decide) (by decide) (filled_ints _ _) fun g4 N5=>?_
      refine WOL.cl1 rfl rfl ((k13 H (l:=[_,_]) N5.at_.get (by simp)).mono ?_)
      rintro w g6 ⟨rfl,rfl⟩
      have X6:=X4.trans N5.hx
      rw [← show elP (A.map Prod.fst) (A.map actE) j=firstNZ [actE (p.1,p.2),cond (decide (0 < j) && decide (p.1≤(A.map Prod.fst).getD (j - 1) 0)) 11 0] from ee]
      generalize elP (A.map Prod.fst) (A.map actE) j=E at *
      refine WOL.as rfl<|WOL.nil ?_
      by_cases h0:E=0
      · subst h0
        refine WL.sr<|WOL.mv rfl<|WOL.bf rfl rfl rfl rfl<|WOL.nil<|WL.no rfl<|WL.skip fun a k=>⟨(),⟨X6,fun i hi=>?_⟩,k.sub ⟨rfl,rfl,trivial⟩⟩
        by_cases e:i=j
        · subst e
          rw [List.getD_eq_getElem?_getD,eg];rfl
        · exact hz i (by omega)
      · refine WL.sr<|WOL.mv rfl<|WOL.bt rfl rfl rfl (bne_iff_ne.2 h0)<|WOL.nil<|WL.yes rfl<|WL.sr<|WOL.mv rfl<|WOL.as rfl<|WOL.nil<|WL.ret (WL.end_ rfl ⟨?_,N1.hx.trans X6⟩)
        have eF:=fNZ_at hz eg h0
        rw [eT2,eF];rfl
    rintro _ g ⟨X,hz⟩
    refine WL.sr<|WOL.as rfl<|WOL.nil<|WL.ret (WL.end_ rfl ⟨?_,N1.hx.trans X⟩)
    rw [eT2,fNZ_all fun i hi=>hz i (by unfold errL at hi;rw [List.length_map,List.length_range,List.length_map] at hi;exact hi)]
    rfl
  · have cn:nameB s=false:=by simpa using cn
    rw [cn]
    rw [cn] at eS0
    refine WL.sr<|WOL.mv rfl<|WOL.bt rfl rfl rfl rfl<|WOL.nil<|WL.yes rfl<|WL.sr<|WOL.mv rfl<|WOL.as rfl<|WOL.nil<|WL.ret (WL.end_ rfl ⟨?_,N1.hx.trans N3.hx⟩)
    rw [eS0];rfl
end
end Go.Tidy
namespace Go.Tidy
open Go Go.Proofs Tab
variable {tp:TProg}
section
variable {h:TH} {v v1 v2:Value} {x y d:Int} {s:ByteArray} {M:List (Int × Int)} {A:List (Int × ByteArray)}
set_option maxHeartbeats 8000000 in
set_option maxRecDepth 10000 in
theorem k1606 (H:Has tp) (r:SecR h v1 v2 M A) (lM:M.length≤100000) (lA:A.length≤100000) (f:Free0 h.next h):CallW Tryz.prog tp (.func (.func 12) #[] #[]) #[secV s v1 v2] h fun u h'=>HX h h'∧∃ w1 w2,u=secV s w1 w2∧OwnL encS h.next h' w1 120 M∧OwnL encA h.next h' w2 128 A:=by
 refine CallW.fnL (H.fn 12 f1606 rfl rfl) ?_
 obtain ⟨b1,k1,rfl⟩:=r.m.form
 obtain ⟨b2,k2,rfl⟩:=r.a.form
 refine WL.sr<|WOL.box rfl fun h1 N1=>WOL.al tp1660 fun h2 N2=>WOL.nil<|keep [(1,_),(2,_)] ⟨rfl,rfl,trivial⟩ ?_
 have n1:=N1.next
 have n2:=N2.next
 have A1:At h2 h.next (.cells [.string s,.slice b1 M.length k1,.slice b2 A.length k2] true true 25):=N1.at_.hx N2.hx
 have A2:=N2.at_
 have X2:=N1.hx.trans N2.hx
 refine WL.sr<|WOL.fa rfl (fa_of fo1654_0)<|WOL.ld rfl (load_one tp9 A1 rfl)<|WOL.bd rfl bd1660<|WOL.al tp1660 fun h3 N3=>WOL.sto (vs:=[.string s,.slice none 0 0,.slice none 0 0]) rfl rfl tp1660 N3.at_ rfl rfl (Nat.le_of_ble_eq_true rfl) rfl (f.hx (X2.trans N3.hx)) (by omega) fun h4 P4=>WOL.nil<|keep [(1,_),(2,_),(3,_)] ⟨rfl,rfl,rfl,trivial⟩ ?_
 have n3:=N3.next
 have n4:=P4.next
 have Z4:HX h2 h4:=P4.hx _ N3.hx (Nat.le_refl _)
 have X4:=X2.trans Z4
 have A3:At h4 h2.next (.cells [.string s,.slice none 0 0,.slice none 0 0] true true 39):=P4.at_
 replace A1:=A1.hx Z4;replace A2:=A2.hx Z4
 clear P4
 refine WL.seq<|WL.sr<|WOL.fa rfl (fa_of fo1654_1)<|WOL.ld rfl (load_one tp1651 A1 rfl)<|WOL.len rfl (r.m.hx X4) u1651<|WOL.mv rfl<|WOL.nil<|keep [(1,_),(2,_),(3,_),(12,_),(13,_),(14,_)] ⟨rfl,rfl,rfl,rfl,rfl,rfl,trivial⟩ ?_
 refine WL.upto (α:=Value) M.length (fun j u g=>HX h g∧h4.next≤g.next∧(∀ b x,b < h4.next→b≠h2.next→At h4 b x→At g b x)∧At g h2.next (.cells [.string s,u,.slice none 0 0] true true 39)∧OwnL encS h4.next g u 120 (M.take j)) (fun _ _=>[(1,ptr h.next),(2,ptr h1.next),(3,ptr h2.next),(12,.slice b1 M.length k1),(13,zi (M.length:Nat))]) (.slice none 0 0) rfl rfl (by omega) ⟨X4,Nat.le_refl _,fun _ _ _ _ a=>a,A3,OwnL.nil⟩ ⟨rfl,rfl,rfl,rfl,rfl,rfl,trivial⟩ (fun _ _=>rfl) (fun _ _ _=>⟨rfl,rfl,rfl,rfl,rfl,rfl,trivial⟩) (fun _ _ _=>⟨rfl,rfl,rfl,rfl,rfl,rfl,trivial⟩) ?_ ?_
 ·rintro j u g hj ⟨X,nx,o,B3,O⟩
  have hp:M[j]?=some M[j]:=List.getElem?_eq_getElem hj
  have et:=List.take_append_getElem hj
  obtain ⟨b,o',cc,fix,wr,el,g1,g2,g3,g4,g5⟩:=(r.m.hx X).at eS u1651 tp1666 hp .i64
  generalize M[j]=p at *
  obtain ⟨z1,eu⟩:=OwnF.form (Or.inl O)
  refine WL.sr<|WOL.ix rfl rfl g1<|WOL.ld rfl (load_row tp1666 g2 g4 g3)<|WOL.al tp1666 fun i1 M1=>WOL.sto (vs:=[zi p.1,zi p.2]) rfl rfl tp1666 M1.at_ rfl rfl (Nat.le_of_ble_eq_true rfl) rfl ((f.on X).hx M1.hx) (Nat.le_refl _) fun i2 P2=>WOL.nil<|keep [(1,_),(2,_),(3,_),(5,_),(12,_),(13,_),(14,_)] ⟨rfl,rfl,rfl,rfl,rfl,rfl,rfl,trivial⟩ ?_
  have m1:=M1.next
  have m2:=P2.next
  have Z2:HX g i2:=P2.hx _ M1.hx (Nat.le_refl _)
  have A5:At i2 g.next (.cells [zi p.1,zi p.2] true true 77):=P2.at_
  clear P2
  refine WL.reg<|WOL.fa rfl (fa_of fo1660_1)<|WOL.ld rfl (load_one tp1657 (B3.hx Z2) rfl)<|WOL.ld rfl (load_row tp1666 A5 rfl (Nat.le_of_ble_eq_true rfl))<|WOL.bs2 rfl u1657 tp1671 fun i4 M4=>?_
  have m4:=M4.next
  have Z4':=Z2.trans M4.hx
  have lu:=fun z (hz:bl u=some z)=>O.lt hz
  obtain ⟨w',i5,ap,O5,x5,y5,_,s5⟩:=own_push (sT:=36) (x:=(p.1,p.2)) eS u1657 tp1671 (O.hx Z4') (SlC.own (sz:=2) (m:=1) rfl M4.at_) ((f.hx (X.trans Z4')).up (by omega)) (by rw [List.length_take];omega) (by omega)
  rw [et] at O5
  obtain ⟨z5,e5⟩:=OwnF.form (Or.inl O5)
  have B3':=y5 _ _ (fun e=>by have:=lu _ e;omega) (B3.hx Z4')
  have Xi:=x5 _ (X.trans Z4') (by omega)
  refine WOL.ap rfl rfl ap<|WOL.fa rfl (fa_of fo1660_1)<|WOL.sto (vs:=[w']) rfl rfl tp1657 B3' (by rw [e5];rfl) rfl (Nat.le_of_ble_eq_true rfl) (by rw [e5];rfl) (f.hx Xi) (by omega) fun i6 P6=>WOL.nil fun a q=>⟨w',⟨P6.hx _ Xi (by omega),by have:=P6.next;omega,fun b x hb hn a=>P6.oth _ _ hn (y5 _ _ (fun e=>by have:=lu _ e;omega) ((o b x hb hn a).hx Z4')),P6.at_,O5.keep fun z x hz a=>P6.oth _ _ (by have:=O5.lt hz;omega) a⟩,q.sub ⟨rfl,rfl,rfl,rfl,rfl,rfl,trivial⟩⟩
 rintro U g ⟨X,nx,o,B3,O1⟩
 have O1:OwnL encS h4.next g U 120 (M.take M.length):=O1
 rw [List.take_length] at O1
 have lA1:=A1.lt
 replace A1:=o _ _ (by omega) (by omega) A1
 replace A2:=o _ _ (by omega) (by omega) A2
 clear o
 obtain ⟨zU,eU⟩:=OwnF.form (Or.inl O1)
 have l3:=B3.lt
 have lU:=fun z (hz:bl U=some z)=>O1.lt hz
 refine WL.seq<|WL.sr<|WOL.fa rfl (fa_of fo1654_2)<|WOL.ld rfl (load_one tp1652 A1 rfl)<|WOL.len rfl (r.a.hx X) u1652<|WOL.mv rfl<|WOL.nil<|keep [(1,_),(2,_),(3,_),(26,_),(27,_),(28,_)] ⟨rfl,rfl,rfl,rfl,rfl,rfl,trivial⟩ ?_
 refine WL.upto (α:=Value) A.length (fun j u g'=>HX h g'∧g.next≤g'.next∧(∀ b x,b < g.next→b≠h2.next→At g b x→At g' b x)∧At g' h2.next (.cells [.string s,U,u] true true 39)∧OwnL encA g.next g' u 128 (A.take j)) (fun _ _=>[(1,ptr h.next),(2,ptr h1.next),(3,ptr h2.next),(26,.slice b2 A.length k2),(27,zi (A.length:Nat))]) (.slice none 0 0) rfl rfl (by omega) ⟨X,Nat.le_refl _,fun _ _ _ _ a=>a,B3,OwnL.nil⟩ ⟨rfl,rfl,rfl,rfl,rfl,rfl,trivial⟩ (fun _ _=>rfl) (fun _ _ _=>⟨rfl,rfl,rfl,rfl,rfl,rfl,trivial⟩) (fun _ _ _=>⟨rfl,rfl,rfl,rfl,rfl,rfl,trivial⟩) ?_ ?_
 ·rintro j u g' hj ⟨X',nx',o,B3',O⟩
  have hp:A[j]?=some A[j]:=List.getElem?_eq_getElem hj
  have et:=List.take_append_getElem hj
  obtain ⟨b,o',cc,fix,wr,el,g1,g2,g3,g4,g5⟩:=(r.a.hx X').at eA u1652 tp1668 hp .i64
  generalize A[j]=p at *
  obtain ⟨z1,eu⟩:=OwnF.form (Or.inl O)
  refine WL.sr<|WOL.ix rfl rfl g1<|WOL.ld rfl (load_row tp1668 g2 g4 g3)<|WOL.al tp1668 fun i1 M1=>WOL.sto (vs:=[zi p.1,.string p.2]) rfl rfl tp1668 M1.at_ rfl rfl (Nat.le_of_ble_eq_true rfl) rfl ((f.on X').hx M1.hx) (Nat.le_refl _) fun i2 P2=>WOL.nil<|keep [(1,_),(2,_),(3,_),(7,_),(26,_),(27,_),(28,_)] ⟨rfl,rfl,rfl,rfl,rfl,rfl,rfl,trivial⟩ ?_
  have m1:=M1.next
  have m2:=P2.next
  have Z2:HX g' i2:=P2.hx _ M1.hx (Nat.le_refl _)
  have A5:At i2 g'.next (.cells [zi p.1,.string p.2] true true 62):=P2.at_
  clear P2
  refine WL.reg<|WOL.fa rfl (fa_of fo1660_2)<|WOL.ld rfl (load_one tp1658 (B3'.hx Z2) rfl)<|WOL.ld rfl (load_row tp1668 A5 rfl (Nat.le_of_ble_eq_true rfl))<|WOL.bs2 rfl u1658 tp1673 fun i4 M4=>?_
  have m4:=M4.next
  have Z4':=Z2.trans M4.hx
  have lu:=fun z (hz:bl u=some z)=>O.lt hz
  obtain ⟨w',i5,ap,O5,x5,y5,_,s5⟩:=own_push (sT:=37) (x:=(p.1,p.2)) eA u1658 tp1673 (O.hx Z4') (SlC.own (sz:=2) (m:=1) rfl M4.at_) ((f.hx (X'.trans Z4')).up (by omega)) (by rw [List.length_take];omega) (by omega)
  rw [et] at O5
  obtain ⟨z5,e5⟩:=OwnF.form (Or.inl O5)
  have B3'':=y5 _ _ (fun e=>by have:=lu _ e;omega) (B3'.hx Z4')
  have Xi:=x5 _ (X'.trans Z4') (by omega)
  refine WOL.ap rfl rfl ap<|WOL.fa rfl (fa_of fo1660_2)<|WOL.sto (vs:=[w']) rfl rfl tp1658 B3'' (by rw [e5];rfl) rfl (Nat.le_of_ble_eq_true rfl) (by rw [e5];rfl) (f.hx Xi) (by omega) fun i6 P6=>WOL.nil fun a q=>⟨w',⟨P6.hx _ Xi (by omega),by have:=P6.next;omega,fun b x hb hn a=>P6.oth _ _ hn (y5 _ _ (fun e=>by have:=lu _ e;omega) ((o b x hb hn a).hx Z4')),P6.at_,O5.keep fun z x hz a=>P6.oth _ _ (by have:=O5.lt hz;omega) a⟩,q.sub ⟨rfl,rfl,rfl,rfl,rfl,rfl,trivial⟩⟩
 rintro u g' ⟨X',nx',o,B3',O⟩
 have O:OwnL encA g.next g' u 128 (A.take A.length):=O
 rw [List.take_length] at O
 obtain ⟨zu,eu⟩:=OwnF.form (Or.inl O)
 have l2:=A2.lt
 have O1':OwnL encS h4.next g' U 120 M:=O1.keep fun z x hz a=>o _ _ (lU z hz).2 (by have:=lU z hz;omega) a
 refine WL.sr<|WOL.ld rfl (load_row tp1660 B3' rfl (Nat.le_of_ble_eq_true rfl))<|WOL.sto (vs:=[.string s,U,u]) rfl rfl tp1660 (o _ _ l2 (by omega) A2) rfl rfl (Nat.le_of_ble_eq_true rfl) (by rw [eU,eu];rfl) (f.hx X') (by omega) fun g8 P8=>WOL.nil ?_
 exact WL.ret (WL.endC rfl (load_row tp1660 P8.at_ rfl (Nat.le_of_ble_eq_true rfl)) ⟨P8.hx _ X' (by omega),U,u,rfl,(O1'.keep fun z x hz a=>P8.oth _ _ (by have:=lU z hz;omega) a).low (by omega),(O.keep fun z x hz a=>P8.oth _ _ (by have:=O.lt hz;omega) a).low (by omega)⟩)
set_option maxHeartbeats 4000000 in
set_option maxRecDepth 10000 in
theorem k1604 (H:Has tp) (r:SecR h v1 v2 M A) (lA:A.length≤9223372036854775807):CallW Tryz.prog tp (.func (.func 10) #[] #[]) #[secV s v1 v2] h fun u h'=>HX h h'∧∃ b:Bool,u=.bool b∧(b=true→M.length≤33∧A.length≤17):=by
  refine CallW.fnL (H.fn 10 f1604 rfl rfl) ?_
  obtain ⟨b1,k1,rfl⟩:=r.m.form
  obtain ⟨b2,k2,rfl⟩:=r.a.form
  refine WL.sr<|WOL.box rfl fun h1 N1=>WOL.as rfl<|WOL.nil<|keep [(1,_)] ⟨rfl,trivial⟩ ?_
  have A1:At h1 h.next (.cells [.string s,.slice b1 M.length k1,.slice b2 A.length k2] true true 25):=N1.at_
  refine WL.seq<|WL.sr<|WOL.as rfl<|WOL.nil ?_
  refine WL.forz (α:=Unit) A.length (fun j _ g=>g=h1) (fun j _=>[(1,ptr h.next),(3,zi (j:Nat))]) (fun j _=>[(1,ptr h.next),(3,zi (j:Nat))]) () rfl ⟨rfl,rfl,trivial⟩ ?_ ?_ (fun _ _ _=>⟨rfl,rfl,trivial⟩) ?_ ?_
  · rintro j _ g hj rfl
    exact WOL.mv rfl<|WOL.fa rfl (fa_of fo1654_2)<|WOL.ld rfl (load_one tp1652 A1 rfl)<|WOL.len rfl (r.a.hx N1.hx) u1652<|WOL.bi rfl rfl rfl<|WOL.nil fun a q=>⟨rfl,q.sub ⟨rfl,rfl,rfl,trivial⟩⟩
  · rintro j _ g hj rfl
    exact WOL.mv rfl<|WOL.add (m:=((j:Nat):Int)) (n:=1) rfl rfl (by omega) (by omega)<|WOL.as rfl<|WOL.nil fun a q=>⟨rfl,q.sub ⟨rfl,rfl,trivial⟩⟩
  · rintro j _ g hj rfl
    have hp:A[j]?=some A[j]:=List.getElem?_eq_getElem hj
    generalize A[j]=p at hp
    obtain ⟨b,o,cc,fix,wr,el,g1,g2,g3,g4,g5⟩:=(r.a.hx N1.hx).at eA u1652 tp1668 hp .i64
    have e1:cc[o+1]?=some (.string p.2):=g5 1 (by decide)
    refine WL.sr<|WOL.fa rfl (fa_of fo1654_2)<|WOL.ld rfl (load_one tp1652 A1 rfl)<|WOL.mv rfl<|WOL.ix rfl rfl g1<|WOL.fa rfl (fa_of fo1668_1)<|WOL.ld rfl (load_one tp9 g2 e1)<|WOL.lenS rfl Tryz.underlying9 ?_
    by_cases c:p.2.size > 40
    · exact WOL.bt rfl rfl rfl (decide_eq_true (by omega))<|WOL.nil<|WL.yes rfl<|WL.sr<|WOL.as rfl<|WOL.nil<|WL.ret (WL.end_ rfl ⟨N1.hx,false,rfl,fun e=>by cases e⟩)
    · exact WOL.bf rfl rfl rfl (decide_eq_false (by omega))<|WOL.nil<|WL.no rfl<|WL.skip fun a q=>⟨(),rfl,q.sub ⟨rfl,rfl,trivial⟩⟩
  rintro _ g rfl
  have sm:=r.m.hx N1.hx
  have sa:=r.a.hx N1.hx
  refine WL.sr<|WOL.cut 16 [(1,ptr h.next),(34,.bool (decide (s.size≤40) && (decide (M.length≤12) || decide (M.length=33))))] ?_ ?_
  · refine WOL.fa rfl (fa_of fo1654_0)<|WOL.ld rfl (load_one tp9 A1 rfl)<|WOL.lenS rfl Tryz.underlying9 ?_
    by_cases c:s.size≤40
    · rw [decide_eq_true c]
      refine WOL.bt rfl rfl rfl (decide_eq_true (by omega))<|WOL.mv rfl<|WOL.now (b:=true) rfl rfl<|WOL.fa rfl (fa_of fo1654_1)<|WOL.now (b:=true) rfl rfl<|WOL.ld rfl (load_one tp1651 A1 rfl)<|WOL.now (b:=true) rfl rfl<|WOL.len rfl sm u1651<|WOL.now (b:=true) rfl rfl ?_
      by_cases c2:M.length≤12
      · rw [decide_eq_true c2]
        exact WOL.bt rfl rfl rfl (decide_eq_true (by omega))<|WOL.now (b:=true) rfl rfl<|WOL.mv rfl<|WOL.skp (b:=true) rfl rfl<|WOL.skp (b:=true) rfl rfl<|WOL.skp (b:=true) rfl rfl<|WOL.skp (b:=true) rfl rfl<|WOL.now (b:=true) rfl rfl<|WOL.pkt rfl rfl<|WOL.pkt rfl rfl<|WOL.nil fun a q=>⟨rfl,q.sub ⟨rfl,rfl,trivial⟩⟩
      · rw [decide_eq_false c2]
        refine WOL.bf rfl rfl rfl (decide_eq_false (by omega))<|WOL.now (b:=true) rfl rfl<|WOL.mv rfl<|WOL.now (b:=false) rfl rfl<|WOL.fa rfl (fa_of fo1654_1)<|WOL.now (b:=false) rfl rfl<|WOL.ld rfl (load_one tp1651 A1 rfl)<|WOL.now (b:=false) rfl rfl<|WOL.len rfl sm u1651<|WOL.now (b:=false) rfl rfl<|WOL.bi (v:=.bool (decide (M.length=33))) rfl rfl (by show some (Value.bool ((M.length:Int) == 33))=_;by_cases e:M.length=33 <;> simp [e] <;> omega)<|WOL.now (b:=true) rfl rfl<|WOL.pkf rfl rfl<|WOL.pkt rfl rfl<|WOL.nil fun a q=>⟨rfl,q.sub ⟨rfl,rfl,trivial⟩⟩
    · rw [decide_eq_false c]
      exact WOL.bf rfl rfl rfl (decide_eq_false (by omega))<|WOL.mv rfl<|WOL.skp (b:=false) rfl rfl<|WOL.skp (b:=false) rfl rfl<|WOL.skp (b:=false) rfl rfl<|WOL.skp (b:=false) rfl rfl<|WOL.skp (b:=false) rfl rfl<|WOL.gu rfl rfl<|WOL.gu rfl rfl<|WOL.gu rfl rfl<|WOL.gu rfl rfl<|WOL.skp (b:=false) rfl rfl<|WOL.pkf rfl rfl<|WOL.nil fun a q=>⟨rfl,q.sub ⟨rfl,rfl,trivial⟩⟩
  cases c:(decide (s.size≤40) && (decide (M.length≤12) || decide (M.length=33))) with
  | false =>
    exact WOL.mv rfl<|WOL.skp (b:=false) rfl rfl<|WOL.skp (b:=false) rfl rfl<|WOL.skp (b:=false) rfl rfl<|WOL.skp (b:=false) rfl rfl<|WOL.skp (b:=false) rfl rfl<|WOL.gu rfl rfl<|WOL.gu rfl rfl<|WOL.gu rfl rfl<|WOL.gu rfl rfl<|WOL.skp (b:=false) rfl rfl<|WOL.pkf rfl rfl<|WOL.as rfl<|WOL.nil<|WL.ret (WL.end_ rfl ⟨N1.hx,false,rfl,fun e=>by cases e⟩)
  | true =>
    have lm:M.length≤33:=by
      simp only [Bool.and_eq_true,Bool.or_eq_true,decide_eq_true_eq] at c
      omega
    refine WOL.mv rfl<|WOL.now (b:=true) rfl rfl<|WOL.fa rfl (fa_of fo1654_2)<|WOL.now (b:=true) rfl rfl<|WOL.ld rfl (load_one tp1652 A1 rfl)<|WOL.now (b:=true) rfl rfl<|WOL.len rfl sa u1652<|WOL.now (b:=true) rfl rfl ?_
    by_cases c2:A.length≤6
    · exact WOL.bt rfl rfl rfl (decide_eq_true (by omega))<|WOL.now (b:=true) rfl rfl<|WOL.mv rfl<|WOL.skp (b:=true) rfl rfl<|WOL.skp (b:=true) rfl rfl<|WOL.skp (b:=true) rfl rfl<|WOL.skp (b:=true) rfl rfl<|WOL.now (b:=true) rfl rfl<|WOL.pkt rfl rfl<|WOL.pkt rfl rfl<|WOL.as rfl<|WOL.nil<|WL.ret (WL.end_ rfl ⟨N1.hx,true,rfl,fun _=>⟨lm,by omega⟩⟩)
    · refine WOL.bf rfl rfl rfl (decide_eq_false (by omega))<|WOL.now (b:=true) rfl rfl<|WOL.mv rfl<|WOL.now (b:=false) rfl rfl<|WOL.fa rfl (fa_of fo1654_2)<|WOL.now (b:=false) rfl rfl<|WOL.ld rfl (load_one tp1652 A1 rfl)<|WOL.now (b:=false) rfl rfl<|WOL.len rfl sa u1652<|WOL.now (b:=false) rfl rfl<|WOL.bi (v:=.bool (decide (A.length=17))) rfl rfl (by show some (Value.bool ((A.length:Int) == 17))=_;by_cases e:A.length=17 <;> simp [e] <;> omega)<|WOL.now (b:=true) rfl rfl<|WOL.pkf rfl rfl<|WOL.pkt rfl rfl<|WOL.as rfl<|WOL.nil<|WL.ret (WL.end_ rfl ⟨N1.hx,_,rfl,fun e=>⟨lm,?_⟩⟩)
      have:=of_decide_eq_true e
      omega
end
end Go.Tidy
namespace Go.Tidy
open Go Go.Proofs Tab
variable {tp:TProg}
theorem SecH.of {h:TH} {v1 v2:Value} {M:List (Int × Int)} {A:List (Int × ByteArray)} {n m:Nat} (o1:OwnL encS n h v1 120 M) (o2:OwnL encA m h v2 128 A):SecH h v1 v2 M A:=⟨o1.sl eS,o2.sl eA,o1.fits,o2.fits⟩
set_option maxRecDepth 100000 in
theorem ty_mes {h:TH} {n:Nat} {ps:List Value} (y:Ty Tryz.prog h (n+2) 77 ps):∃ p:Int × Int,ps=encS p:=by
 obtain ⟨p,q,rfl,_,y1,p',q',rfl,_,y2,rfl⟩:=tyg_struct Tryz.underlying77 y
 obtain ⟨a,rfl,_⟩:=ty_int y1
 obtain ⟨b,rfl,_⟩:=ty_int y2
 exact ⟨(a,b),rfl⟩
set_option maxRecDepth 100000 in
theorem ty_act {h:TH} {n:Nat} {ps:List Value} (y:Ty Tryz.prog h (n+2) 62 ps):∃ p:Int × ByteArray,ps=encA p:=by
 obtain ⟨p,q,rfl,_,y1,p',q',rfl,_,y2,rfl⟩:=tyg_struct Tryz.underlying62 y
 obtain ⟨a,rfl,_⟩:=ty_int y1
 obtain ⟨b,rfl,_⟩:=ty_str y2
 exact ⟨(a,b),rfl⟩
theorem ty_sl_len {α:Type} {enc:α→List Value} {k n:Nat} {P:Program} {h:TH} {t e:TypeId} {v:Value} {l:List α} (hu:P.underlying t=some (.slice e)) (y:Ty P h (n+1) t [v]) (s:SlL enc k h v l):l.length≤maxLen:=by
 unfold Ty at y;rw [hu] at y
 obtain ⟨a,m,cap,e1,h1,h2,_⟩:=y
 obtain ⟨bo,c,rfl⟩:=s.form
 cases e1
 omega
section
variable {h:TH} {v v1 v2:Value} {s:ByteArray} {M:List (Int × Int)} {A:List (Int × ByteArray)}
end
theorem maxLen_le:maxLen≤9223372036854775807:=by unfold maxLen;decide
end Go.Tidy
namespace Go.Tidy
open Go Go.Proofs Tab
variable {tp:TProg}
def sms (d:Int) (M:List (Int × Int)):Nat→Int × Int × Int × Int
 | 0=>(0,0,0,0)
 | j+1=>((sms d M j).1+((M.getD j (0,0)).1 - d),(sms d M j).2.1+(M.getD j (0,0)).2,(sms d M j).2.2.1+((M.getD j (0,0)).1 - d)*((M.getD j (0,0)).1 - d),(sms d M j).2.2.2+((M.getD j (0,0)).1 - d)*(M.getD j (0,0)).2)
structure OkM (M:List (Int × Int)):Prop where
 n:M.length≤32
 b:∀ j,j < M.length→0≤(M.getD j (0,0)).1∧(M.getD j (0,0)).1≤100000∧0≤(M.getD j (0,0)).2∧(M.getD j (0,0)).2≤100000
 o:∀ i j,i < j→j < M.length→(M.getD i (0,0)).1 < (M.getD j (0,0)).1
def dM (M:List (Int × Int)):Int:=(M.getD 0 (0,0)).1
def lvM (M:List (Int × Int)):Int:=(sms (dM M) M M.length).2.1*(sms (dM M) M M.length).2.2.1 - (sms (dM M) M M.length).1*(sms (dM M) M M.length).2.2.2
def slM (M:List (Int × Int)):Int:=(M.length:Int)*(sms (dM M) M M.length).2.2.2 - (sms (dM M) M M.length).1*(sms (dM M) M M.length).2.1
def deM (M:List (Int × Int)):Int:=(M.length:Int)*(sms (dM M) M M.length).2.2.1 - (sms (dM M) M M.length).1*(sms (dM M) M M.length).1
theorem mul_in {a b:Int} {p q:Nat} (a0:0≤a) (a1:a≤(p:Nat)) (b0:0≤b) (b1:b≤(q:Nat)):0≤a*b∧a*b≤((p*q:Nat):Int):=by
 refine ⟨Int.mul_nonneg a0 b0,?_⟩
 have:=Int.mul_le_mul a1 b1 b0 (Int.natCast_nonneg p)
 rw [Int.natCast_mul]
 exact this
theorem OkM.t {M:List (Int × Int)} (ok:OkM M) {j:Nat} (hj:j < M.length):0≤(M.getD j (0,0)).1 - dM M∧(M.getD j (0,0)).1 - dM M≤100000:=by
 have b0:=ok.b 0 (by omega)
 have bj:=ok.b j hj
 unfold dM
 by_cases c:j=0
 ·subst c;omega
 ·have:=ok.o 0 j (by omega) hj
  omega
theorem sms_lim {M:List (Int × Int)} (ok:OkM M):∀ j,j≤M.length→0≤(sms (dM M) M j).1∧(sms (dM M) M j).1≤100000*j∧0≤(sms (dM M) M j).2.1∧(sms (dM M) M j).2.1≤100000*j∧0≤(sms (dM M) M j).2.2.1∧(sms (dM M) M j).2.2.1≤10000000000*j∧0≤(sms (dM M) M j).2.2.2∧(sms (dM M) M j).2.2.2≤10000000000*j
 | 0,_=>by unfold sms;decide
 | j+1,hj=>by
  have ih:=sms_lim ok j (by omega)
  have t:=ok.t (j:=j) (by omega)
  have b:=ok.b j (by omega)
  have q1:=mul_in (p:=100000) (q:=100000) t.1 (by omega) t.1 (by omega)
  have q2:=mul_in (p:=100000) (q:=100000) t.1 (by omega) b.2.2.1 (by omega)
  unfold sms
  generalize ((M.getD j (0,0)).1 - dM M)*((M.getD j (0,0)).1 - dM M)=a1 at *
  generalize ((M.getD j (0,0)).1 - dM M)*(M.getD j (0,0)).2=a2 at *
  refine ⟨?_,?_,?_,?_,?_,?_,?_,?_⟩ <;> simp only <;> omega
theorem quad_pos {M:List (Int × Int)} (t:Int):∀ j:Nat,t*t≤(sms (dM M) M (j+1)).2.2.1 - 2*(sms (dM M) M (j+1)).1*t+((j:Int)+1)*(t*t)
  | 0=>by
    have e:(M.getD 0 (0,0)).1 - dM M=0:=by unfold dM;omega
    have e1:(sms (dM M) M 1).1=0:=by show 0+((M.getD 0 (0,0)).1 - dM M)=0;rw [e];rfl
    have e2:(sms (dM M) M 1).2.2.1=0:=by show 0+((M.getD 0 (0,0)).1 - dM M)*((M.getD 0 (0,0)).1 - dM M)=0;rw [e];rfl
    rw [e1,e2]
    simp
  | j+1=>by
    have ih:=quad_pos (M:=M) t j
    have e1:(sms (dM M) M (j+1+1)).1=(sms (dM M) M (j+1)).1+((M.getD (j+1) (0,0)).1 - dM M):=rfl
    have e2:(sms (dM M) M (j+1+1)).2.2.1=(sms (dM M) M (j+1)).2.2.1+((M.getD (j+1) (0,0)).1 - dM M)*((M.getD (j+1) (0,0)).1 - dM M):=rfl
    rw [e1,e2]
    generalize (sms (dM M) M (j+1)).1=x at *
    generalize (sms (dM M) M (j+1)).2.2.1=xx at *
    generalize (M.getD (j+1) (0,0)).1 - dM M=u at *
    have sq:0≤(u - t)*(u - t):=by
      have:=Int.natAbs_mul_self (a:=u - t)
      omega
    have id:xx+u*u - 2*(x+u)*t+(((j+1:Nat):Int)+1)*(t*t)=(xx - 2*x*t+((j:Int)+1)*(t*t))+(u - t)*(u - t):=by
      have:((j+1:Nat):Int)=(j:Int)+1:=by omega
      rw [this]
      grind
    omega
theorem den_pos {M:List (Int × Int)} (ok:OkM M):∀ j:Nat,j+2≤M.length→1≤((j+2:Nat):Int)*(sms (dM M) M (j+2)).2.2.1 - (sms (dM M) M (j+2)).1*(sms (dM M) M (j+2)).1∧True:=by
 have step:∀ j:Nat,j+2≤M.length→((j+2:Nat):Int)*(sms (dM M) M (j+2)).2.2.1 - (sms (dM M) M (j+2)).1*(sms (dM M) M (j+2)).1 ≥ ((j+1:Nat):Int)*(sms (dM M) M (j+1)).2.2.1 - (sms (dM M) M (j+1)).1*(sms (dM M) M (j+1)).1+1:=by
  intro j hj
  have q:=quad_pos (M:=M) ((M.getD (j+1) (0,0)).1 - dM M) j
  have ho:=ok.o 0 (j+1) (by omega) (by omega)
  have e1:(sms (dM M) M (j+2)).1=(sms (dM M) M (j+1)).1+((M.getD (j+1) (0,0)).1 - dM M):=rfl
  have e2:(sms (dM M) M (j+2)).2.2.1=(sms (dM M) M (j+1)).2.2.1+((M.getD (j+1) (0,0)).1 - dM M)*((M.getD (j+1) (0,0)).1 - dM M):=rfl
  rw [e1,e2]
  have hu:1≤(M.getD (j+1) (0,0)).1 - dM M:=by unfold dM;omega
  generalize (sms (dM M) M (j+1)).1=x at *
  generalize (sms (dM M) M (j+1)).2.2.1=xx at *
  generalize (M.getD (j+1) (0,0)).1 - dM M=u at *
  have u2:1≤u*u:=by
   have:=Int.mul_le_mul hu hu (by omega) (by omega)
   omega
  have c1:((j+2:Nat):Int)=(j:Int)+2:=by omega
  have c2:((j+1:Nat):Int)=(j:Int)+1:=by omega
  rw [c1,c2]
  have id:((j:Int)+2)*(xx+u*u) - (x+u)*(x+u)=(((j:Int)+1)*xx - x*x)+(xx - 2*x*u+((j:Int)+1)*(u*u)):=by grind
  omega
 intro j
 induction j with
 | zero =>
  intro hj
  have s:=step 0 hj
  have e:(M.getD 0 (0,0)).1 - dM M=0:=by unfold dM;omega
  have e1:(sms (dM M) M 1).1=0:=by show 0+((M.getD 0 (0,0)).1 - dM M)=0;rw [e];rfl
  have e2:(sms (dM M) M 1).2.2.1=0:=by show 0+((M.getD 0 (0,0)).1 - dM M)*((M.getD 0 (0,0)).1 - dM M)=0;rw [e];rfl
  simp only [Nat.zero_add] at s ⊢
  rw [e1,e2] at s
  exact ⟨by omega,trivial⟩
 | succ j ih =>
  intro hj
  have s:((j+1+2:Nat):Int)*(sms (dM M) M (j+1+2)).2.2.1 - (sms (dM M) M (j+1+2)).1*(sms (dM M) M (j+1+2)).1 ≥ ((j+2:Nat):Int)*(sms (dM M) M (j+2)).2.2.1 - (sms (dM M) M (j+2)).1*(sms (dM M) M (j+2)).1+1:=step (j+1) hj
  have:=(ih (by omega)).1
  exact ⟨by omega,trivial⟩
structure OkS (d n r e:Int):Prop where
 d0:0≤d
 d1:d≤100000
 n1:n.natAbs≤1100000000000000000
 r1:r.natAbs≤11000000000000
 e0:1≤e
 e1:e≤11000000000000
theorem OkM.s {M:List (Int × Int)} (ok:OkM M) (h2:2≤M.length):OkS (dM M) (lvM M) (slM M) (deM M):=by
 have b0:=ok.b 0 (by omega)
 have l:=sms_lim ok M.length (Nat.le_refl _)
 have hn:=ok.n
 have dp:=(den_pos ok (M.length - 2) (by omega)).1
 rw [show M.length - 2+2=M.length by omega] at dp
 unfold lvM slM deM
 generalize sms (dM M) M M.length=s at *
 obtain ⟨x,y,xx,xy⟩:=s
 simp only at l dp ⊢
 have m1:=mul_in (p:=3200000) (q:=320000000000) l.2.2.1 (by omega) l.2.2.2.2.1 (by omega)
 have m2:=mul_in (p:=3200000) (q:=320000000000) l.1 (by omega) l.2.2.2.2.2.2.1 (by omega)
 have m3:=mul_in (p:=32) (q:=320000000000) (Int.natCast_nonneg M.length) (by omega) l.2.2.2.2.2.2.1 (by omega)
 have m4:=mul_in (p:=3200000) (q:=3200000) l.1 (by omega) l.2.2.1 (by omega)
 have m5:=mul_in (p:=32) (q:=320000000000) (Int.natCast_nonneg M.length) (by omega) l.2.2.2.2.1 (by omega)
 have m6:=mul_in (p:=3200000) (q:=3200000) l.1 (by omega) l.1 (by omega)
 exact ⟨b0.1,b0.2.1,by omega,by omega,dp,by omega⟩
def atS (d n r x:Int):Int:=n+r*(x - d)
theorem OkS.at_ {d n r e x:Int} (o:OkS d n r e) (x0:0≤x) (x1:x≤100000):(r*(x - d)).natAbs≤1100000000000000000:=by
 rw [Int.natAbs_mul]
 have:=Nat.mul_le_mul o.r1 (show (x - d).natAbs≤100000 by have:=o.d0;have:=o.d1;omega)
 omega
end Go.Tidy
namespace Go.Tidy
open Go Go.Proofs Tab
variable {tp:TProg}
theorem tp1732:Tp Tryz.prog 125 4 [.int .i64 0,.int .i64 0,.int .i64 0,.int .i64 0] true:=tp_of (by kernel_rfl) (by kernel_rfl) rfl
theorem fo1732_0:fieldOff Tryz.prog 125 0=some 0:=by kernel_rfl
theorem fo1732_1:fieldOff Tryz.prog 125 1=some 1:=by kernel_rfl
theorem fo1732_2:fieldOff Tryz.prog 125 2=some 2:=by kernel_rfl
theorem fo1732_3:fieldOff Tryz.prog 125 3=some 3:=by kernel_rfl
theorem bd1732 {a b c d:Int}:buildT Tryz.prog 125 [(0,zi a),(1,zi b),(2,zi c),(3,zi d)]=some (.agg #[zi a,zi b,zi c,zi d]):=by kernel_rfl
theorem bd1732z:buildT Tryz.prog 125 []=some (.agg #[zi 0,zi 0,zi 0,zi 0]):=by kernel_rfl
theorem tp1739:Tp Tryz.prog 136 3 [.int .i64 0,.int .i64 0,.int .i64 0] true:=tp_of (by kernel_rfl) (by kernel_rfl) rfl
theorem fo1739_0:fieldOff Tryz.prog 136 0=some 0:=by kernel_rfl
theorem fo1739_1:fieldOff Tryz.prog 136 1=some 1:=by kernel_rfl
theorem fo1739_2:fieldOff Tryz.prog 136 2=some 2:=by kernel_rfl
theorem bd1739 {a b c:Int}:buildT Tryz.prog 136 [(0,zi a),(1,zi b),(2,zi c)]=some (.agg #[zi a,zi b,zi c]):=by kernel_rfl
def strV (d n r e:Int):Value:=.agg #[zi d,zi n,zi r,zi e]
section
variable {h:TH} {v:Value} {d n r e x l a b:Int} {M:List (Int × Int)}
theorem k1704 (H:Has tp) (o:OkS d n r e) (x0:0≤x) (x1:x≤100000):CallW Tryz.prog tp (.func (.func 138) #[] #[]) #[strV d n r e,zi x] h fun u h'=>u=zi (atS d n r x)∧HX h h':=by
 have m:=o.at_ x0 x1
 have d0:=o.d0
 have d1:=o.d1
 have n1:=o.n1
 refine CallW.fnL (H.fn 138 f1704 rfl rfl) ?_
 refine WL.sr<|WOL.box rfl fun h1 N1=>WOL.as rfl<|WOL.nil<|keep [(1,_),(2,_)] ⟨rfl,rfl,trivial⟩ ?_
 have A1:At h1 h.next (.cells [zi d,zi n,zi r,zi e] true true 125):=N1.at_
 exact WL.sr<|WOL.fa rfl (fa_of fo1732_1)<|WOL.ld rfl (load_one tp3 A1 rfl)<|WOL.fa rfl (fa_of fo1732_2)<|WOL.ld rfl (load_one tp3 A1 rfl)<|WOL.mv rfl<|WOL.fa rfl (fa_of fo1732_0)<|WOL.ld rfl (load_one tp3 A1 rfl)<|WOL.sub rfl rfl (by omega) (by omega)<|WOL.mul rfl rfl (by omega) (by omega)<|WOL.add rfl rfl (by omega) (by omega)<|WOL.as rfl<|WOL.nil<|WL.ret (WL.end_ rfl ⟨rfl,N1.hx⟩)
theorem k1683 (H:Has tp) (o:OkS d n r e) (x0:0≤x) (x1:x≤100000) (f:Free0 h.next h):CallW Tryz.prog tp (.func (.func 90) #[] #[]) #[strV d n r e,zi x] h fun u h'=>u=.agg #[zi (rtN (atS d n r x) e.toNat),zi (rtD (atS d n r x) e.toNat)]∧HX h h':=by
 have m:=o.at_ x0 x1
 have n1:=o.n1
 have e0:=o.e0
 have e1:=o.e1
 obtain ⟨k,rfl⟩:∃ k:Nat,e=(k:Int):=⟨e.toNat,by omega⟩
 rw [Int.toNat_natCast]
 refine CallW.fnL (H.fn 90 f1683 rfl rfl) ?_
 refine WL.sr<|WOL.box rfl fun h1 N1=>WOL.al tp24 fun h2 N2=>WOL.nil<|keep [(1,_),(2,_),(4,_)] ⟨rfl,rfl,rfl,trivial⟩ ?_
 have n1':=N1.next
 have n2':=N2.next
 have A1:At h2 h.next (.cells [zi d,zi n,zi r,zi (k:Int)] true true 125):=N1.at_.hx N2.hx
 have X2:=N1.hx.trans N2.hx
 refine WL.sr<|WOL.ld rfl (load_row tp1732 A1 rfl (Nat.le_of_ble_eq_true rfl))<|WOL.mv rfl<|WOL.fa rfl (fa_of fo1732_3)<|WOL.ld rfl (load_one tp3 A1 rfl)<|WOL.lk2 rfl rfl rfl fun L=>((k1704 (d:=d) (n:=n) (r:=r) (e:=k) H o x0 x1).mono ?_)
 rintro u h3 ⟨rfl,X3⟩
 replace X3:=X3.relock
 generalize h3.withLock h2.lock=h3 at *
 have Y3:=X2.trans X3
 have la:(atS d n r x).natAbs≤2200000000000000000:=by unfold atS;omega
 generalize atS d n r x=z at *
 refine WOL.cl2 rfl rfl rfl ((k91v (m:=z) (n:=k) H (by omega) (by omega) (by omega) (by omega) (f.on Y3)).mono ?_)
 rintro u h4 ⟨rfl,X4⟩
 have x3:=X3.next
 have x4:=X4.next
 refine WOL.sto (vs:=[zi (rtN z k),zi (rtD z k)]) rfl rfl tp24 ((N2.at_.hx X3).hx X4) rfl rfl (Nat.le_of_ble_eq_true rfl) rfl (f.hx (Y3.trans X4)) (by omega) fun h5 P5=>WOL.nil ?_
 exact WL.ret (WL.endC rfl (load_row tp24 P5.at_ rfl (Nat.le_of_ble_eq_true rfl)) ⟨rfl,P5.hx _ (Y3.trans X4) (by omega)⟩)
set_option maxHeartbeats 4000000 in
set_option maxRecDepth 10000 in
theorem k1701 (H:Has tp) (s:SlL encS 2 h v M) (ok:OkM M) (h0:0 < M.length) (f:Free0 h.next h):CallW Tryz.prog tp (.func (.func 126) #[] #[]) #[v] h fun u h'=>u=strV (dM M) (lvM M) (slM M) (deM M)∧HX h h':=by
 have hn:=ok.n
 have hp0:M[0]?=some (M.getD 0 (0,0)):=by rw [List.getD_eq_getElem?_getD,List.getElem?_eq_getElem h0];rfl
 refine CallW.fnL (H.fn 126 f1701 rfl rfl) ?_
 refine WL.sr<|WOL.al tp1732 fun h1 N1=>WOL.nil<|keep [(0,_),(2,_)] ⟨rfl,rfl,trivial⟩ ?_
 have n1:=N1.next
 have s1:=s.hx N1.hx
 obtain ⟨_,_,_,_,_,_,g1,g2,g3,g4,g5⟩:=s1.at eS u1657 tp1671 hp0 .i64
 refine WL.sr<|WOL.mv rfl<|WOL.len rfl s1 u1657<|WOL.mv rfl<|WOL.ix rfl rfl g1<|WOL.fa rfl (fa_of fo1671_0)<|WOL.ld rfl (load_one tp3 g2 (by have:=g5 0 (by decide);rwa [Nat.add_zero] at this))<|WOL.as rfl<|WOL.as rfl<|WOL.nil<|keep [(0,_),(2,_),(3,_),(4,_)] ⟨rfl,rfl,rfl,rfl,trivial⟩ ?_
 change ∀ a,Kn [(0,_),(2,_),(3,_),(4,zi (dM M))] a→_
 refine WL.sr<|WOL.as rfl<|WOL.as rfl<|WOL.as rfl<|WOL.as rfl<|WOL.nil ?_
 refine WL.seq<|WL.sr<|WOL.mv rfl<|WOL.len rfl s1 u1657<|WOL.mv rfl<|WOL.nil ?_
 refine WL.upto (α:=Unit) M.length (fun j _ g=>HX h1 g) (fun j _=>[(2,ptr h.next),(3,zi (M.length:Nat)),(4,zi (dM M)),(5,zi (sms (dM M) M j).1),(6,zi (sms (dM M) M j).2.1),(7,zi (sms (dM M) M j).2.2.1),(8,zi (sms (dM M) M j).2.2.2),(18,v),(19,zi (M.length:Nat))]) () rfl rfl (by omega) (HX.refl _) ⟨rfl,rfl,rfl,rfl,rfl,rfl,rfl,rfl,rfl,rfl,trivial⟩ (fun _ _=>rfl) (fun _ _ _=>⟨rfl,rfl,rfl,rfl,rfl,rfl,rfl,rfl,rfl,rfl,trivial⟩) (fun _ _ _=>⟨rfl,rfl,rfl,rfl,rfl,rfl,rfl,rfl,rfl,rfl,trivial⟩) ?_ ?_
 ·rintro j _ g hj X
  have hp:M[j]?=some (M.getD j (0,0)):=by rw [List.getD_eq_getElem?_getD,List.getElem?_eq_getElem hj];rfl
  have l:=sms_lim ok j (by omega)
  have t:=ok.t hj
  have b:=ok.b j hj
  have q1:=mul_in (p:=100000) (q:=100000) t.1 (by omega) t.1 (by omega)
  have q2:=mul_in (p:=100000) (q:=100000) t.1 (by omega) b.2.2.1 (by omega)
  have e:sms (dM M) M (j+1)=((sms (dM M) M j).1+((M.getD j (0,0)).1 - dM M),(sms (dM M) M j).2.1+(M.getD j (0,0)).2,(sms (dM M) M j).2.2.1+((M.getD j (0,0)).1 - dM M)*((M.getD j (0,0)).1 - dM M),(sms (dM M) M j).2.2.2+((M.getD j (0,0)).1 - dM M)*(M.getD j (0,0)).2):=rfl
  obtain ⟨_,_,_,_,_,_,k1,k2,k3,k4,k5⟩:=(s1.hx X).at eS u1657 tp1671 hp .i64
  generalize M.getD j (0,0)=p at *
  have Xh:=N1.hx.trans X
  refine WL.sr<|WOL.ix rfl rfl k1<|WOL.ld rfl (load_row tp1671 k2 k4 k3)<|WOL.al tp1671 fun i1 M1=>WOL.sto (vs:=[zi p.1,zi p.2]) rfl rfl tp1671 M1.at_ rfl rfl (Nat.le_of_ble_eq_true rfl) rfl ((f.on Xh).hx M1.hx) (Nat.le_refl _) fun i2 P2=>WOL.nil ?_
  have Z2:HX g i2:=P2.hx _ M1.hx (Nat.le_refl _)
  have A10:At i2 g.next (.cells [zi p.1,zi p.2] true true 120):=P2.at_
  refine WL.sr<|WOL.fa rfl (fa_of fo1671_0)<|WOL.ld rfl (load_one tp3 A10 rfl)<|WOL.mv rfl<|WOL.sub rfl rfl (by omega) (by omega)<|WOL.as rfl<|WOL.nil<|keep [(2,_),(3,_),(4,_),(5,_),(6,_),(7,_),(8,_),(10,_),(11,_),(18,_),(19,_),(20,_)] ⟨rfl,rfl,rfl,rfl,rfl,rfl,rfl,rfl,rfl,rfl,rfl,rfl,trivial⟩ ?_
  refine WL.sr<|WOL.mv rfl<|WOL.mv rfl<|WOL.add rfl rfl (by omega) (by omega)<|WOL.as rfl<|WOL.nil ?_
  refine WL.sr<|WOL.mv rfl<|WOL.fa rfl (fa_of fo1671_1)<|WOL.ld rfl (load_one tp3 A10 rfl)<|WOL.add rfl rfl (by omega) (by omega)<|WOL.as rfl<|WOL.nil<|keep [(2,_),(3,_),(4,_),(5,_),(6,_),(7,_),(8,_),(10,_),(11,_),(18,_),(19,_),(20,_)] ⟨rfl,rfl,rfl,rfl,rfl,rfl,rfl,rfl,rfl,rfl,rfl,rfl,trivial⟩ ?_
  refine WL.sr<|WOL.mv rfl<|WOL.mv rfl<|WOL.mv rfl<|WOL.mul rfl rfl (by omega) (by omega)<|WOL.add rfl rfl (by omega) (by omega)<|WOL.as rfl<|WOL.nil<|keep [(2,_),(3,_),(4,_),(5,_),(6,_),(7,_),(8,_),(10,_),(11,_),(18,_),(19,_),(20,_)] ⟨rfl,rfl,rfl,rfl,rfl,rfl,rfl,rfl,rfl,rfl,rfl,rfl,trivial⟩ ?_
  refine WL.reg<|WOL.mv rfl<|WOL.mv rfl<|WOL.fa rfl (fa_of fo1671_1)<|WOL.ld rfl (load_one tp3 A10 rfl)<|WOL.mul rfl rfl (by omega) (by omega)<|WOL.add rfl rfl (by omega) (by omega)<|WOL.as rfl<|WOL.nil fun a q=>⟨(),X.trans Z2,?_⟩
  rw [e]
  exact q.sub ⟨rfl,rfl,rfl,rfl,rfl,rfl,rfl,rfl,rfl,rfl,trivial⟩
 ·rintro _ g X
  have l:=sms_lim ok M.length (Nat.le_refl _)
  have Xh:=N1.hx.trans X
  unfold lvM slM deM
  generalize sms (dM M) M M.length=z at *
  obtain ⟨x,y,xx,xy⟩:=z
  simp only at l ⊢
  have m1:=mul_in (p:=3200000) (q:=320000000000) l.2.2.1 (by omega) l.2.2.2.2.1 (by omega)
  have m2:=mul_in (p:=3200000) (q:=320000000000) l.1 (by omega) l.2.2.2.2.2.2.1 (by omega)
  have m3:=mul_in (p:=32) (q:=320000000000) (Int.natCast_nonneg M.length) (by omega) l.2.2.2.2.2.2.1 (by omega)
  have m4:=mul_in (p:=3200000) (q:=3200000) l.1 (by omega) l.2.2.1 (by omega)
  have m5:=mul_in (p:=32) (q:=320000000000) (Int.natCast_nonneg M.length) (by omega) l.2.2.2.2.1 (by omega)
  have m6:=mul_in (p:=3200000) (q:=3200000) l.1 (by omega) l.1 (by omega)
  refine WL.sr<|WOL.mv rfl<|WOL.mv rfl<|WOL.mv rfl<|WOL.mul rfl rfl (by omega) (by omega)<|WOL.mv rfl<|WOL.mv rfl<|WOL.mul rfl rfl (by omega) (by omega)<|WOL.sub rfl rfl (by omega) (by omega)<|WOL.mv rfl<|WOL.mv rfl<|WOL.mul rfl rfl (by omega) (by omega)<|WOL.mv rfl<|WOL.mv rfl<|WOL.mul rfl rfl (by omega) (by omega)<|WOL.sub rfl rfl (by omega) (by omega)<|WOL.mv rfl<|WOL.mv rfl<|WOL.mul rfl rfl (by omega) (by omega)<|WOL.mv rfl<|WOL.mv rfl<|WOL.mul rfl rfl (by omega) (by omega)<|WOL.sub rfl rfl (by omega) (by omega)<|WOL.bd rfl bd1732 ?_
  refine WOL.sto (vs:=[zi (dM M),zi (y*xx - x*xy),zi ((M.length:Int)*xy - x*y),zi ((M.length:Int)*xx - x*x)]) rfl rfl tp1732 (N1.at_.hx X) rfl rfl (Nat.le_of_ble_eq_true rfl) rfl (f.hx Xh) (by omega) fun h5 P5=>WOL.nil ?_
  exact WL.ret (WL.endC rfl (load_row tp1732 P5.at_ rfl (Nat.le_of_ble_eq_true rfl)) ⟨rfl,P5.hx _ Xh (by omega)⟩)
end
end Go.Tidy
namespace Go.Tidy
open Go Go.Proofs Tab
section
variable {P:Program}
end
variable {tp:TProg}
section
variable {hp:TH} {K:Regs→TH→Prop} {rest:List TOper} {dd:Option Tmp} {ty:TypeId} {i:Nat} {x y:Operand} {u:TypeId} {L:Rg}
end
section
variable {h:TH} {v v1 v2 w1 w2:Value} {x y d:Int} {s:ByteArray} {M:List (Int × Int)} {A:List (Int × ByteArray)}
end
section
variable {P:Program} {h:TH} {K:Regs→TH→Prop} {rest:List TOper} {dd:Option Tmp} {ty:TypeId} {i:Nat} {x y:Operand} {v:Value} {e sT:TypeId} {n n0 b m:Nat} {z:List Value} {row:Bool} {L:Rg} {α:Type} {enc:α→List Value} {l:List α} {l0:Operand} {ls:List Operand} {wr:Bool}
theorem OwnF.relock (o:OwnF enc n0 h v e l) (M:List Nat):OwnF enc n0 (h.withLock M) v e l:=o.imp (fun o=>o.relock M) fun ⟨b,h1,h2,h3⟩=>⟨b,h1,h2,h3.relock M⟩
theorem OwnF.low (o:OwnF enc n0 h v e l) {n1:Nat} (hn:n1≤n0):OwnF enc n1 h v e l:=o.imp (fun o=>o.low hn) fun ⟨b,h1,h2,h3⟩=>⟨b,h1,by omega,h3⟩
theorem append_ownF (E:Enc enc n) (hu:P.underlying sT=some (.slice e)) (he:Tp P e n z row) (hg:At h b (.cells [] true true e)) (s:SlL enc n h v l) (hm2:l.length≤1000000000) (hb:n0≤b) :
  ∃ v' h',appendT P #[sT,sT] #[.slice (some ⟨b,0,none⟩) 0 0,v] h=some (v',h')∧HX h h'∧OwnF enc n0 h' v' e l:=by
 by_cases hm:l=[]
 ·subst hm
  exact ⟨_,_,append_none hu he s (Nat.le_refl _),HX.refl h,.inr ⟨b,rfl,hb,hg⟩⟩
 ·have hp:0 < l.length:=List.length_pos_iff.2 hm
  exact ⟨_,_,append_all hu he hg s hp hm2 (E.all _),HX.new _ _,.inl (.inr ⟨hm,_,rfl,by have:=hg.lt;omega,At.new _ _⟩)⟩
end
section
variable {h:TH} {v:Value} {M:List (Int × Int)} {n0:Nat}
end
section
variable {h:TH} {v:Value} {A:List (Int × ByteArray)} {n0:Nat}
end
section
variable {h:TH} {v v1 v2:Value} {s:ByteArray} {M:List (Int × Int)} {A:List (Int × ByteArray)} {n0:Nat}
end
end Go.Tidy
