/- A part of the proof. -/
import Derived.Test.YtadfeepajmngiaaGreatDoorPa6
import Derived.Test.YtadfeepajmngiaaGreatDoorPa2
import Derived.Test.YtadfeepajmngiaaGreatDoorPa1
import Derived.Test.YtadfeepajmngiaaGreatDoorProg
set_option linter.all false
namespace Go.Tidy
open Go Go.Proofs Tab
variable {tp:TProg}
def smp (n:Int):Nat:=(Ieee.single.div (FloatKind.f32.nearest n) 1098907648).getD 0
theorem smp_ok {n:Int} (hn:n.natAbs≤16384):Ieee.single.div (FloatKind.f32.nearest n) 1098907648=some (smp n)∧nanB .f32 (FloatKind.f32.nearest n)=false∧Samp (smp n) n:=by
 obtain ⟨r,h1,h2,h3⟩:=sample_of hn
 have:smp n=r:=by unfold smp;rw [h1];rfl
 rw [this]
 exact ⟨h1,h2,h3⟩
end Go.Tidy
namespace Go.Tidy
open Go Go.Proofs Tab
variable {tp:TProg}
def Lev (F:List Nat) (L:List Int):Prop:=F.length=L.length∧∀ (i b:Nat) (n:Int),F[i]?=some b→L[i]?=some n→Samp b n
def all1 (L:List Int):List (Int × Bool):=L.map fun n=>(n,true)
end Go.Tidy
namespace Go.Tidy
open Go Go.Proofs Tab
variable {tp:TProg}
def clrL (C:List (Int × Bool)) (p:Int × Int):List (Int × Bool):=C.take p.1.toNat ++ (List.replicate (p.2.toNat - p.1.toNat) (0,false) ++ C.drop p.2.toNat)
def cellsL (L:List Int) (S:List (Int × Int)):List (Int × Bool):=S.foldl clrL (all1 L)
def In (m:Nat) (S:List (Int × Int)):Prop:=∀ p,p ∈ S→0≤p.1∧p.1≤p.2∧p.2≤m
theorem clrL_len {C:List (Int × Bool)} {p:Int × Int} (h1:0≤p.1) (h2:p.1≤p.2) (h3:p.2≤C.length):(clrL C p).length=C.length:=by
 unfold clrL;simp;omega
theorem foldl_len {m:Nat}:∀ (S:List (Int × Int)) (C:List (Int × Bool)),C.length=m→In m S→(S.foldl clrL C).length=m
 | [],C,h,_=>h
 | p::S,C,h,hin=>by
  obtain ⟨h1,h2,h3⟩:=hin p (by simp)
  exact foldl_len S (clrL C p) (by rw [clrL_len h1 h2 (by omega)];exact h) fun q hq=>hin q (by simp [hq])
end Go.Tidy
namespace Go.Tidy
open Go Go.Proofs Tab
variable {tp:TProg}
def hstep (B:List Bool) (acc:List (Int × Int)) (i:Nat):List (Int × Int) :=
 if B.getD i false=true then acc
 else if 0 < i∧B.getD (i - 1) false=false then acc.set (acc.length - 1) ((acc.getD (acc.length - 1) (0,0)).1,(i:Int)+1)
 else acc ++ [((i:Int),(i:Int)+1)]
def holesN (B:List Bool):Nat→List (Int × Int)
 | 0=>[]
 | i+1=>hstep B (holesN B i) i
def holesOf (B:List Bool):List (Int × Int):=holesN B B.length
end Go.Tidy
namespace Go.Tidy
open Go Go.Proofs Tab
variable {tp:TProg}
def SErr (F:List Nat) (es:List Int):Prop:=F.length=es.length∧∀ (i b:Nat) (e:Int),F[i]?=some b→es[i]?=some e→SampleE b e
theorem firstNZ_zero:∀ {l:List Int},firstNZ l=0→∀ x,x ∈ l→x=0
  | [],_,_,h=>by cases h
  | y::l,h,x,hx=>by
    unfold firstNZ at h
    by_cases hy:y=0
    · subst hy
      rcases List.mem_cons.1 hx with rfl | hx
      · rfl
      · exact firstNZ_zero (by simpa using h) x hx
    · have:(y != 0)=true:=by simpa using hy
      rw [this] at h
      exact absurd h hy
end Go.Tidy
namespace Go.Tidy
open Go Go.Proofs Tab
variable {tp:TProg}
def badS (m:Nat) (p:Int × Int):Bool:=decide (p.1 < 0) || (decide (p.2≤p.1) || decide ((m:Int) < p.2))
def holeE (m:Nat):Int→List (Int × Int)→Int
 | _,[]=>0
 | prev,p::r=>cond (badS m p) 14 (cond (decide (p.1≤prev)) 11 (holeE m p.2 r))
theorem holeE_cons (m:Nat) (prev:Int) (p:Int × Int) (r:List (Int × Int)):holeE m prev (p::r)=cond (badS m p) 14 (cond (decide (p.1≤prev)) 11 (holeE m p.2 r)):=rfl
theorem holeE_in {m:Nat}:∀ {S:List (Int × Int)} {prev:Int},holeE m prev S=0→In m S
  | [],_,_=>fun p hp=>by cases hp
  | p::r,prev,h=>by
    unfold holeE at h
    cases hb:badS m p with
    | true=>rw [hb] at h;cases h
    | false =>
      rw [hb] at h
      cases hc:decide (p.1≤prev) with
      | true=>rw [hc] at h;cases h
      | false =>
        rw [hc] at h
        have ih:=holeE_in (S:=r) h
        unfold badS at hb
        simp only [Bool.or_eq_false_iff,decide_eq_false_iff_not] at hb
        intro q hq
        rcases List.mem_cons.1 hq with rfl | hq
        · omega
        · exact ih q hq
end Go.Tidy
namespace Go.Tidy
open Go Go.Proofs Tab
variable {tp:TProg}
def anyIn (L:List Int) (p:Int × Int):Bool:=((L.drop p.1.toNat).take (p.2.toNat - p.1.toNat)).any (· != 0)
def formE (L:List Int) (S:List (Int × Int)):Int:=cond (S.any (anyIn L)) 1 0
end Go.Tidy
namespace Go.Tidy
open Go Go.Proofs Tab
variable {tp:TProg}
theorem Lev.part {F:List Nat} {L:List Int} (h:Lev F L) (lo k:Nat):Lev ((F.drop lo).take k) ((L.drop lo).take k):=by
 refine ⟨by simp [h.1],fun i b n hb hn=>?_⟩
 by_cases hi:i < k
 ·rw [List.getElem?_take_of_lt hi,List.getElem?_drop] at hb hn
  exact h.2 _ b n hb hn
 ·rw [List.getElem?_eq_none (by simp;omega)] at hb
  cases hb
theorem Lev.get {F:List Nat} {L:List Int} (h:Lev F L) {i:Nat} {b:Nat} (hb:F[i]?=some b):∃ n,L[i]?=some n∧Samp b n:=by
 have hlt:=(List.getElem?_eq_some_iff.1 hb).1
 have:i < L.length:=by rw [← h.1];exact hlt
 exact ⟨L[i],List.getElem?_eq_getElem this,h.2 i b _ hb (List.getElem?_eq_getElem this)⟩
theorem holeE_lt {m:Nat}:∀ {S:List (Int × Int)} {prev:Int},holeE m prev S=0→∀ p,p ∈ S→p.1 < p.2
  | [],_,_=>fun p hp=>by cases hp
  | p::r,prev,h=>by
    rw [holeE_cons] at h
    cases hb:badS m p with
    | true=>rw [hb] at h;cases h
    | false =>
      rw [hb] at h
      cases hc:decide (p.1≤prev) with
      | true=>rw [hc] at h;cases h
      | false =>
        rw [hc] at h
        have ih:=holeE_lt (S:=r) h
        unfold badS at hb
        simp only [Bool.or_eq_false_iff,decide_eq_false_iff_not] at hb
        intro q hq
        rcases List.mem_cons.1 hq with rfl | hq
        · omega
        · exact ih q hq
end Go.Tidy
namespace Go.Tidy
open Go Go.Proofs Tab
variable {tp:TProg}
def headE (s:ByteArray) (n:Int) (m:Nat):Int:=firstNZ [cond (!nameB s) 8 0,outB n 0 100000000,cond (decide ((m:Int) > 4096)) 5 0]
def tailE (m:Nat) (S:List (Int × Int)) (L:List Int):Int:=cond (holeE m (-1) S != 0) (holeE m (-1) S) (formE L S)
def runE (s:ByteArray) (n:Int) (m:Nat) (S:List (Int × Int)) (es L:List Int):Int :=
 cond (headE s n m != 0) (headE s n m) (firstNZ [firstNZ es,cond (decide (n+m > 100000000)) 4 0,tailE m S L])
theorem headE_zero {s:ByteArray} {n:Int} {m:Nat} (h:headE s n m=0):nameB s=true∧0≤n∧n≤100000000∧m≤4096:=by
  have hz:=firstNZ_zero h
  have h1:=hz _ (List.mem_cons_self ..)
  have h2:=hz (outB n 0 100000000) (by simp)
  have h3:=hz (cond (decide ((m:Int) > 4096)) 5 0) (by simp)
  refine ⟨?_,?_⟩
  · cases hb:nameB s with
    | true=>rfl
    | false=>rw [hb] at h1;cases h1
  · unfold outB at h2
    by_cases a1:n < 0
    · rw [decide_eq_true a1] at h2;cases h2
    · by_cases a2:n > 100000000
      · rw [decide_eq_true a2,Bool.or_true] at h2;cases h2
      · by_cases a3:(m:Int) > 4096
        · rw [decide_eq_true a3] at h3;cases h3
        · omega
end Go.Tidy
namespace Go.Tidy
open Go Go.Proofs Tab
variable {tp:TProg}
def inS (x:Int) (p:Int × Int):Bool:=decide (x ≥ p.1) && decide (x < p.2)
def knownB (S:List (Int × Int)) (x:Int):Bool:=!S.any (inS x)
end Go.Tidy
namespace Go.Tidy
open Go Go.Proofs Tab
variable {tp:TProg}
theorem anyIn_iff {L:List Int} {p:Int × Int} (h1:0≤p.1) (h2:p.1≤p.2):anyIn L p=true ↔ ∃ (j:Nat) (x:Int),L[j]?=some x∧x≠0∧inS j p=true:=by
 unfold anyIn
 rw [List.any_eq_true]
 constructor
 ·rintro ⟨x,hx,h0⟩
  obtain ⟨k,hk⟩:=List.mem_iff_getElem?.1 hx
  have hlt:k < p.2.toNat - p.1.toNat:=by
   have:=(List.getElem?_eq_some_iff.1 hk).1
   simp at this
   omega
  rw [List.getElem?_take_of_lt hlt,List.getElem?_drop] at hk
  refine ⟨p.1.toNat+k,x,hk,by simpa using h0,?_⟩
  unfold inS
  rw [decide_eq_true (by omega),decide_eq_true (by omega)];rfl
 ·rintro ⟨j,x,hj,h0,hin⟩
  unfold inS at hin
  simp only [Bool.and_eq_true,decide_eq_true_eq] at hin
  refine ⟨x,List.mem_iff_getElem?.2 ⟨j - p.1.toNat,?_⟩,by simpa using h0⟩
  rw [List.getElem?_take_of_lt (by omega),List.getElem?_drop,show p.1.toNat+(j - p.1.toNat)=j by omega]
  exact hj
theorem form_iff {L:List Int} {S:List (Int × Int)} {m:Nat} (hin:In m S):S.any (anyIn L)=true ↔ ∃ (j:Nat) (x:Int),L[j]?=some x∧x≠0∧knownB S j=false:=by
 rw [List.any_eq_true]
 constructor
 ·rintro ⟨p,hp,ha⟩
  obtain ⟨g1,g2,g3⟩:=hin p hp
  obtain ⟨j,x,hj,h0,hk⟩:=(anyIn_iff g1 g2).1 ha
  refine ⟨j,x,hj,h0,?_⟩
  unfold knownB
  rw [List.any_eq_true.2 ⟨p,hp,hk⟩];rfl
 ·rintro ⟨j,x,hj,h0,hk⟩
  unfold knownB at hk
  have hk:S.any (inS j)=true:=by simpa using hk
  obtain ⟨p,hp,hpj⟩:=List.any_eq_true.1 hk
  obtain ⟨g1,g2,g3⟩:=hin p hp
  exact ⟨p,hp,(anyIn_iff g1 g2).2 ⟨j,x,hj,h0,hpj⟩⟩
theorem nz_cases (a:Int):a=0∨(a != 0)=true:=by
 by_cases h:a=0
 ·exact .inl h
 ·exact .inr (by simpa using h)
end Go.Tidy
namespace Go.Tidy
open Go Go.Proofs Tab
variable {tp:TProg}
def knownL (S:List (Int × Int)) (m:Nat):List Bool:=(List.range m).map fun (i:Nat)=>knownB S (i:Int)
theorem knownL_len (S:List (Int × Int)) (m:Nat):(knownL S m).length=m:=by simp [knownL]
end Go.Tidy
namespace Go.Tidy
open Go Go.Proofs Tab
variable {tp:TProg}
def cellsK (L:List Int) (K:List Bool):List (Int × Bool):=List.zipWith (fun l k=>if k=true then (l,true) else (0,false)) L K
end Go.Tidy
namespace Go.Tidy
open Go Go.Proofs Tab
variable {tp:TProg}
def knownV (C:List (Int × Bool)):List Int:=(C.filter (·.2)).map (·.1)
structure Valid (s:ByteArray) (n:Int) (F:List Nat) (S:List (Int × Int)) (L:List Int):Prop where
 lev:Lev F L
 n0:0≤n
 n1:n+F.length≤100000000
 m:F.length≤4096
 hole:holeE F.length (-1) S=0
 form:S.any (anyIn L)=false
theorem valid_of {s:ByteArray} {n:Int} {F:List Nat} {S:List (Int × Int)} {es L:List Int} (hL:firstNZ es=0→Lev F L) (h:runE s n F.length S es L=0):Valid s n F S L:=by
 unfold runE at h
 rcases nz_cases (headE s n F.length) with h1 | h1
 ·rw [h1] at h
  have h:firstNZ [firstNZ es,cond (decide (n+F.length > 100000000)) 4 0,tailE F.length S L]=0:=h
  obtain ⟨_,n0,n1,hm⟩:=headE_zero h1
  have e0:=firstNZ_zero h (firstNZ es) (by simp)
  have e1:=firstNZ_zero h (cond (decide (n+F.length > 100000000)) 4 0) (by simp)
  have e2:=firstNZ_zero h (tailE F.length S L) (by simp)
  have e3:holeE F.length (-1) S=0:=by
   rcases nz_cases (holeE F.length (-1) S) with h2 | h2
   ·exact h2
   ·unfold tailE at e2;rw [h2] at e2;exact e2
  refine ⟨hL e0,n0,?_,hm,e3,?_⟩
  ·by_cases hc:n+F.length > 100000000
   ·rw [decide_eq_true hc] at e1;cases e1
   ·omega
  ·unfold tailE at e2
   rw [e3] at e2
   cases hf:S.any (anyIn L) with
   | false=>rfl
   | true=>unfold formE at e2;rw [hf] at e2;cases e2
 ·rw [h1] at h
  have:headE s n F.length=0:=h
  rw [this] at h1;cases h1
theorem Valid.in_ {s:ByteArray} {n:Int} {F:List Nat} {S:List (Int × Int)} {L:List Int} (v:Valid s n F S L):In F.length S:=holeE_in v.hole
end Go.Tidy
namespace Go.Tidy
open Go Go.Proofs Tab
variable {tp:TProg}
theorem lev_lim {F:List Nat} {L:List Int} (h:Lev F L):∀ x,x ∈ L→x.natAbs≤16384:=fun x hx=>by
 obtain ⟨i,hi⟩:=List.mem_iff_getElem?.1 hx
 have hlt:=(List.getElem?_eq_some_iff.1 hi).1
 have:i < F.length:=by rw [h.1];exact hlt
 exact (h.2 i _ x (List.getElem?_eq_getElem this) hi).lim
theorem clr_lim {C:List (Int × Bool)} {p:Int × Int} (h:∀ c,c ∈ C→c.1.natAbs≤16384):∀ c,c ∈ clrL C p→c.1.natAbs≤16384:=fun c hc=>by
 unfold clrL at hc
 rcases List.mem_append.1 hc with hc | hc
 ·exact h c (List.mem_of_mem_take hc)
 ·rcases List.mem_append.1 hc with hc | hc
  ·rw [(List.mem_replicate.1 hc).2];decide
  ·exact h c (List.mem_of_mem_drop hc)
theorem foldl_lim:∀ (S:List (Int × Int)) (C:List (Int × Bool)),(∀ c,c ∈ C→c.1.natAbs≤16384)→∀ c,c ∈ S.foldl clrL C→c.1.natAbs≤16384
 | [],_,h=>h
 | p::S,C,h=>foldl_lim S (clrL C p) (clr_lim h)
theorem cells_lim {F:List Nat} {L:List Int} (h:Lev F L) (S:List (Int × Int)):∀ c,c ∈ cellsL L S→c.1.natAbs≤16384 :=
 foldl_lim S _ fun c hc=>by
  obtain ⟨x,hx,rfl⟩:=List.mem_map.1 hc
  exact lev_lim h x hx
theorem cells_len {F:List Nat} {L:List Int} {S:List (Int × Int)} (h:Lev F L) (hin:In F.length S):(cellsL L S).length=F.length:=foldl_len S _ (by simp [all1,h.1]) hin
def sumL:List Int→Int
 | []=>0
 | x::l=>x+sumL l
end Go.Tidy
namespace Go.Tidy
open Go Go.Proofs Tab
variable {tp:TProg}
theorem clr_get {C:List (Int × Bool)} {p:Int × Int} (h1:0≤p.1) (h2:p.1≤p.2) (h3:p.2≤C.length) {i:Nat} (hi:i < C.length):(clrL C p)[i]?=if inS i p=true then some (0,false) else C[i]?:=by
 unfold clrL inS
 by_cases a1:i < p.1.toNat
 ·rw [List.getElem?_append_left (by simp;omega),List.getElem?_take_of_lt a1,if_neg (by simp;omega)]
 ·have e1:(C.take p.1.toNat).length=p.1.toNat:=by simp;omega
  rw [List.getElem?_append_right (by omega),e1]
  by_cases a2:i < p.2.toNat
  ·rw [List.getElem?_append_left (by simp;omega),List.getElem?_replicate,if_pos (by omega),if_pos (by simp;omega)]
  ·rw [List.getElem?_append_right (by simp;omega),List.getElem?_drop,if_neg (by simp;omega),List.length_replicate]
   congr 1
   omega
theorem foldl_get {m:Nat}:∀ (S:List (Int × Int)) (C:List (Int × Bool)),C.length=m→In m S→∀ i:Nat,i < m→(S.foldl clrL C)[i]?=if knownB S i=true then C[i]? else some (0,false)
 | [],C,hC,_,i,hi=>by simp [knownB]
 | p::S,C,hC,hin,i,hi=>by
  obtain ⟨h1,h2,h3⟩:=hin p (by simp)
  have hl:=clrL_len h1 h2 (show p.2≤C.length by omega)
  rw [List.foldl_cons,foldl_get S (clrL C p) (by rw [hl];exact hC) (fun q hq=>hin q (by simp [hq])) i hi,clr_get h1 h2 (by omega) (by omega)]
  unfold knownB
  rw [List.any_cons]
  cases inS i p <;> cases S.any (inS i) <;> simp
theorem cells_eq {F:List Nat} {L:List Int} {S:List (Int × Int)} (hL:Lev F L) (hin:In F.length S):cellsL L S=cellsK L (knownL S F.length):=by
 apply List.ext_getElem?
 intro i
 by_cases hi:i < F.length
 ·have hiL:i < L.length:=by rw [← hL.1];exact hi
  unfold cellsL
  rw [foldl_get S _ (by simp [all1,hL.1]) hin i hi]
  unfold cellsK knownL all1
  rw [List.getElem?_zipWith,List.getElem?_map,List.getElem?_map,List.getElem?_range hi,List.getElem?_eq_getElem hiL]
  cases hk:knownB S i <;> simp [hk]
 ·rw [List.getElem?_eq_none (by rw [cells_len hL hin];omega),List.getElem?_eq_none (by have:=hL.1;simp [cellsK,knownL];omega)]
def Dark (L:List Int) (K:List Bool):Prop:=L.length=K.length∧∀ (i:Nat) (x:Int),L[i]?=some x→K[i]?=some false→x=0
theorem Valid.dark {s:ByteArray} {n:Int} {F:List Nat} {S:List (Int × Int)} {L:List Int} (v:Valid s n F S L):Dark L (knownL S F.length):=by
 refine ⟨by rw [knownL_len,v.lev.1],fun i x hx hk=>?_⟩
 have hi:i < F.length:=by rw [v.lev.1];exact (List.getElem?_eq_some_iff.1 hx).1
 unfold knownL at hk
 rw [List.getElem?_map,List.getElem?_range hi] at hk
 have hk:knownB S i=false:=by simpa using hk
 by_cases h0:x=0
 ·exact h0
 ·have:=(form_iff v.in_).2 ⟨i,x,hx,h0,hk⟩
  rw [v.form] at this;cases this
theorem Dark.tail {l:Int} {k:Bool} {L:List Int} {K:List Bool} (d:Dark (l::L) (k::K)):Dark L K∧(k=false→l=0) :=
 ⟨⟨by have:=d.1;simpa using this,fun i x h1 h2=>d.2 (i+1) x (by simpa using h1) (by simpa using h2)⟩,fun hk=>d.2 0 l rfl (by rw [hk];rfl)⟩
theorem cellsK_cons (l:Int) (k:Bool) (L:List Int) (K:List Bool):cellsK (l::L) (k::K)=(if k=true then (l,true) else (0,false))::cellsK L K:=rfl
theorem dark_sum:∀ {L:List Int} {K:List Bool},Dark L K→sumL (knownV (cellsK L K))=sumL L
  | [],K,d=>by
    have:K=[]:=List.eq_nil_of_length_eq_zero d.1.symm
    subst this;rfl
  | l::L,[],d=>by have:=d.1;simp at this
  | l::L,k::K,d=>by
    obtain ⟨d1,d2⟩:=d.tail
    have ih:=dark_sum d1
    rw [cellsK_cons]
    cases k with
    | true=>simp only [knownV,List.filter_cons,List.map_cons,sumL,if_true] at ih ⊢;rw [ih]
    | false =>
      rw [d2 rfl]
      simp only [knownV,List.filter_cons,List.map_cons,sumL] at ih ⊢
      simpa using ih
end Go.Tidy
namespace Go.Tidy
open Go Go.Proofs Tab
variable {tp:TProg}
theorem tp24:Tp Tryz.prog 44 2 [.int .i64 0,.int .i64 0] true:=tp_of (by kernel_rfl) (by kernel_rfl) rfl
theorem bd24 {n m:Int}:buildT Tryz.prog 44 [(0,.int .i64 n),(1,.int .i64 m)]=some (.agg #[.int .i64 n,.int .i64 m]):=by kernel_rfl
theorem bd24z:buildT Tryz.prog 44 []=some (.agg #[.int .i64 0,.int .i64 0]):=by kernel_rfl
theorem WO.quoI {P:Program} {a:Regs} {h:TH} {K:Regs→TH→Prop} {rest:List TOper} {d:Option Tmp} {ty:TypeId} {i:Nat} {x y:Operand} {t u:TypeId} {m n:Int} (hx:getO a x=some (.int .i64 m)) (hy:getO a y=some (.int .i64 n)) (hn:n≠0)
  (w:WO P tp rest (a.put d (.int .i64 (fwrap .i64 (m.tdiv n)))) h K):WO P tp (⟨d,.binOp .quo t x y u,ty,none,[],i⟩::rest) a h K:=by
 refine WO.bi hx hy ?_ w
 have hk:Nat.beq (kindNo .i64) (kindNo .i64)=true:=Nat.beq_refl _
 have hb:(n == 0)=false:=by simpa using hn
 simp only [fastBin,hk,fastInt,hb,Bool.cond_true,Bool.cond_false]
end Go.Tidy
namespace Go.Tidy
open Go Go.Proofs Tab
variable {tp:TProg}
def Swapped {α:Type} (C D:List α) (i:Nat):Prop:=D.length=C.length∧∀ x,x < C.length→D[x]?=if x < i∨C.length≤x+i then C[C.length - 1 - x]? else C[x]?
theorem Swapped.zero {α:Type} (C:List α):Swapped C C 0:=⟨rfl,fun x hx=>by rw [if_neg (by omega)]⟩
theorem Swapped.step {α:Type} {C D:List α} {i:Nat} (s:Swapped C D i) (hi:i+i+1 < C.length) {x y:α} (hx:D[i]?=some x) (hy:D[C.length - 1 - i]?=some y):Swapped C ((D.set i y).set (C.length - 1 - i) x) (i+1):=by
 have e1:=s.2 i (by omega)
 have e2:=s.2 (C.length - 1 - i) (by omega)
 rw [if_neg (by omega),hx] at e1
 rw [if_neg (by omega),hy] at e2
 refine ⟨by rw [List.length_set,List.length_set,s.1],fun z hz=>?_⟩
 by_cases h1:z=C.length - 1 - i
 ·subst h1
  rw [List.getElem?_set_self (by rw [List.length_set,s.1];exact hz),if_pos (by omega),show C.length - 1 - (C.length - 1 - i)=i by omega]
  exact e1
 ·rw [List.getElem?_set_ne (by omega)]
  by_cases h2:z=i
  ·subst h2
   rw [List.getElem?_set_self (by rw [s.1];exact hz),if_pos (by omega)]
   exact e2
  ·rw [List.getElem?_set_ne (by omega),s.2 z hz]
   by_cases h3:z < i∨C.length≤z+i
   ·rw [if_pos h3,if_pos (by omega)]
   ·rw [if_neg h3,if_neg (by omega)]
theorem Swapped.done {α:Type} {C D:List α} {i:Nat} (s:Swapped C D i) (hi:C.length≤i+i+1):D=C.reverse:=by
 apply List.ext_getElem?
 intro x
 by_cases hx:x < C.length
 ·rw [s.2 x hx,List.getElem?_reverse hx]
  by_cases h:x < i∨C.length≤x+i
  ·rw [if_pos h]
  ·rw [if_neg h];congr 1;omega
 ·rw [List.getElem?_eq_none (by rw [s.1];omega),List.getElem?_eq_none (by simp;omega)]
end Go.Tidy
namespace Go.Tidy
open Go Go.Proofs Tab
variable {tp:TProg}
def run0:Value:=runV ⟨#[]⟩ 0 (.slice none 0 0) (.slice none 0 0)
def RunR (h h':TH) (v:Value) (s:ByteArray) (n:Int) (C:List (Int × Bool)) (e:Int):Prop :=
 HX h h'∧((e≠0∧v=.tuple #[run0,.int .i64 e])∨(e=0∧∃ w1 w2,v=.tuple #[runV s n w1 w2,.int .i64 0]∧RunO h.next h' w1 w2 (C.map fun c=>smp c.1) (holesOf (C.map fun c=>c.2))))
end Go.Tidy
namespace Go.Tidy
open Go Go.Proofs Tab
variable {tp:TProg}
theorem cellsK_snd:∀ {L:List Int} {K:List Bool},K.length=L.length→(cellsK L K).map (fun c=>c.2)=K
 | [],[],_=>rfl
 | [],_::_,h=>by simp at h
 | _::_,[],h=>by simp at h
 | l::L,k::K,h=>by
  rw [cellsK_cons,List.map_cons,cellsK_snd (by simpa using h)]
  cases k <;> rfl
theorem OwnL.some {α:Type} {enc:α→List Value} {n0:Nat} {h:TH} {v:Value} {e:TypeId} {l:List α} (o:OwnL enc n0 h v e l) (hl:0 < l.length):∃ b,v=.slice (Option.some ⟨b,0,none⟩) l.length l.length∧n0≤b∧At h b (.cells (cat enc l) false true e):=by
 rcases o with ⟨_,rfl⟩ | ⟨_,h⟩
 ·simp at hl
 ·exact h
end Go.Tidy
namespace Go.Tidy
open Go Go.Proofs Tab
variable {tp:TProg}
section rules
variable {P:Program} {tp:TProg} {h:TH} {K:Regs→TH→Prop} {rest:List TOper} {d:Option Tmp} {ty:TypeId} {i:Nat} {x y:Operand} {t u:TypeId} {L:Rg}
theorem WOL.add {m n:Int} (hx:getL L x=some (.int .i64 m)) (hy:getL L y=some (.int .i64 n)) (h1:-9223372036854775808≤m+n) (h2:m+n≤9223372036854775807) (w:∀ a,Kn (putL L d (.int .i64 (m+n))) a→WO P tp rest a h K):∀ a,Kn L a→WO P tp (⟨d,.binOp .add t x y u,ty,none,[],i⟩::rest) a h K :=
 WOL.bi hx hy (by show some (Value.int .i64 (fwrap .i64 (m+n)))=_;rw [fwrap_i64 h1 h2]) w
theorem WOL.sub {m n:Int} (hx:getL L x=some (.int .i64 m)) (hy:getL L y=some (.int .i64 n)) (h1:-9223372036854775808≤m - n) (h2:m - n≤9223372036854775807) (w:∀ a,Kn (putL L d (.int .i64 (m - n))) a→WO P tp rest a h K):∀ a,Kn L a→WO P tp (⟨d,.binOp .sub t x y u,ty,none,[],i⟩::rest) a h K :=
 WOL.bi hx hy (by show some (Value.int .i64 (fwrap .i64 (m - n)))=_;rw [fwrap_i64 h1 h2]) w
theorem WOL.mul {m n:Int} (hx:getL L x=some (.int .i64 m)) (hy:getL L y=some (.int .i64 n)) (h1:-9223372036854775808≤m*n) (h2:m*n≤9223372036854775807) (w:∀ a,Kn (putL L d (.int .i64 (m*n))) a→WO P tp rest a h K):∀ a,Kn L a→WO P tp (⟨d,.binOp .mul t x y u,ty,none,[],i⟩::rest) a h K :=
 WOL.bi hx hy (by show some (Value.int .i64 (fwrap .i64 (m*n)))=_;rw [fwrap_i64 h1 h2]) w
theorem WOL.quo {m n:Int} (hx:getL L x=some (.int .i64 m)) (hy:getL L y=some (.int .i64 n)) (hm:0≤m) (hn:0 < n) (h2:m≤9223372036854775807) (w:∀ a,Kn (putL L d (.int .i64 (m / n))) a→WO P tp rest a h K):∀ a,Kn L a→WO P tp (⟨d,.binOp .quo t x y u,ty,none,[],i⟩::rest) a h K:=fun a k=>by
 refine WO.quoI (k.o hx) (k.o hy) (by omega) ?_
 have h3:m / n≤m:=Int.ediv_le_self n hm
 have h4:0≤m / n:=Int.ediv_nonneg hm (by omega)
 rw [Int.tdiv_eq_ediv_of_nonneg hm,fwrap_i64 (by omega) (by omega)]
 exact w _ (k.put d _)
theorem WOL.neg {m:Int} (hx:getL L x=some (.int .i64 m)) (h1:-9223372036854775808≤-m) (h2:-m≤9223372036854775807) (w:∀ a,Kn (putL L d (.int .i64 (-m))) a→WO P tp rest a h K):∀ a,Kn L a→WO P tp (⟨d,.unOp .neg t x,ty,none,[],i⟩::rest) a h K:=fun a k=>by
 refine WO.neg (k.o hx) ?_
 rw [show IntKind.i64.wrap (-m)=-m from IntWalk.i64_in _ (by omega)]
 exact w _ (k.put d _)
end rules
end Go.Tidy
namespace Go.Tidy
open Go Go.Proofs Tab
theorem lev_smp {C:List (Int × Bool)} (h:∀ c,c ∈ C→c.1.natAbs≤16384):Lev (C.map fun c=>smp c.1) (C.map fun c=>c.1):=by
 refine ⟨by simp,fun i b n hb hn=>?_⟩
 rw [List.getElem?_map] at hb hn
 cases hc:C[i]? with
 | none=>rw [hc] at hb;simp at hb
 | some c =>
  rw [hc] at hb hn
  simp only [Option.map_some,Option.some.injEq] at hb hn
  subst hb;subst hn
  exact (smp_ok (h c (List.mem_of_getElem? hc))).2.2
section
variable {s:ByteArray} {n:Int} {F:List Nat} {S:List (Int × Int)} {L:List Int}
theorem Valid.cells (V:Valid s n F S L):cellsL L S=cellsK L (knownL S F.length):=cells_eq V.lev V.in_
theorem Valid.lim (V:Valid s n F S L):∀ c,c ∈ cellsL L S→c.1.natAbs≤16384:=cells_lim V.lev S
theorem Valid.kl (V:Valid s n F S L):(knownL S F.length).length=L.length:=by rw [knownL_len,V.lev.1]
theorem Valid.sum (V:Valid s n F S L):sumL (knownV (cellsL L S))=sumL L:=by rw [V.cells,dark_sum V.dark]
theorem Valid.at_ (V:Valid s n F S L) {i b:Nat} (hb:F[i]?=some b):∃ x,L[i]?=some x∧Samp b x∧(cellsL L S)[i]?=some (x,knownB S i):=by
 obtain ⟨x,hx,sx⟩:=V.lev.get hb
 have hi:i < F.length:=(List.getElem?_eq_some_iff.1 hb).1
 have hk:(knownL S F.length)[i]?=some (knownB S (i:Int)):=by
  unfold knownL
  rw [List.getElem?_map,List.getElem?_range hi];rfl
 refine ⟨x,hx,sx,?_⟩
 rw [V.cells]
 unfold cellsK
 rw [List.getElem?_zipWith,hx,hk]
 cases hq:knownB S (i:Int)
 ·have:=V.dark.2 i x hx (by rw [hk,hq])
  subst this
  rfl
 ·rfl
end
end Go.Tidy
namespace Go.Tidy
open Go Go.Proofs Tab
section
variable {P:Program}
theorem pv_isAggI {t:TypeId} {k:IntKind} (hu:P.underlying t=some (.int k)):pv P (isAgg t)=some false:=by
 unfold isAgg
 rw [pv_bind,pv_underlying hu]
 rfl
theorem pv_part0 {t:TypeId} {k:IntKind} {v w:Value} (hu:P.underlying t=some (.int k)):pv P (Go.part t #[v,w] 0)=some v:=by
 unfold Go.part
 rw [pv_bind,pv_isAggI hu]
 rfl
theorem pv_part1 {t:TypeId} {k:IntKind} {v w:Value} (hu:P.underlying t=some (.int k)):pv P (Go.part t #[v,w] 1)=some w:=by
 unfold Go.part
 rw [pv_bind,pv_isAggI hu]
 rfl
theorem pv_eqI {t:TypeId} {d:Nat} {k:IntKind} {a:Int} (hu:P.underlying t=some (.int k)):pv P (Op.equalIn (d+1) t (.int k a) (.int k a))=some true:=by
 rw [Op.equalIn,pv_bind,pv_underlying hu]
 simp [pv_pure]
theorem pv_eqr {t : TypeId} {f1 f2 : Field} {a b : Int} (hu : P.underlying t = some (.struct #[f1, f2])) (hs : P.stoodInHeld t = false) (h1 : f1.offset = 0) (h2 : f2.offset = 1) (m1 : f1.name ≠ "_") (m2 : f2.name ≠ "_") (u1 : P.underlying f1.type = some (.int .i64)) (u2 : P.underlying f2.type = some (.int .i64)) :
    pv P (Op.equal t (.agg #[.int .i64 a,.int .i64 b]) (.agg #[.int .i64 a,.int .i64 b]))=some true:=by
  show pv P (Op.equalIn (9998+1+1) t _ _)=_
  rw [Op.equalIn,pv_bind,pv_underlying hu]
  simp only [Option.bind_some]
  rw [pv_bind,pv_program]
  simp only [Option.bind_some,hs]
  have e1:=pv_eqI (d:=9998) (a:=a) u1
  have e2:=pv_eqI (d:=9998) (a:=b) u2
  have q1:=pv_part0 (v:=Value.int .i64 a) (w:=Value.int .i64 b) u1
  have q2:=pv_part1 (v:=Value.int .i64 a) (w:=Value.int .i64 b) u2
  simp [pv_bind,pv_pure,h1,h2,m1,m2,e1,e2,q1,q2]
end
structure Rat2 (P:Program) (t:TypeId):Prop where
  u : ∃ f1 f2 : Field, P.underlying t = some (.struct #[f1, f2]) ∧ f1.offset = 0 ∧ f2.offset = 1 ∧ f1.name ≠ "_" ∧ f2.name ≠ "_" ∧ P.underlying f1.type = some (.int .i64) ∧ P.underlying f2.type = some (.int .i64)
  s:P.stoodInHeld t=false
  g:P.eqGuardType P.depth t=false
section rules
variable {P:Program} {tp:TProg} {a:Regs} {h:TH} {K:Regs→TH→Prop} {rest:List TOper} {d:Option Tmp} {ty:TypeId} {i:Nat} {x y:Operand} {t u:TypeId}
theorem eqT_aggs {b c:Array Value}:eqT P t (.agg b) (.agg c)=none:=by
 unfold eqT ptrEq nilEq
 cases P.underlying t with
 | none=>rfl
 | some d=>cases d <;> rfl
theorem WO.eqr {p q:Int} (hu:Rat2 P t) (hx:getO a x=some (.agg #[.int .i64 p,.int .i64 q])) (hy:getO a y=some (.agg #[.int .i64 p,.int .i64 q])) (w:WO P tp rest (a.put d (.bool true)) h K):WO P tp (⟨d,.binOp .eql t x y u,ty,none,[],i⟩::rest) a h K:=by
  obtain ⟨f1,f2,e1,e2,e3,e4,e5,e6,e7⟩:=hu.u
  have ex:=getO_eval hx
  have ey:=getO_eval hy
  refine WO.plainly rfl rfl rfl (by simp [fastOp,fastBin,ex,ey]) (by simp [valueOp,ex,ey,eqT_aggs]) (plainOp_of (by rfl) (fun q hq=>?_) ?_ rfl) w
  · simp only [Op.operands] at hq
    simp at hq
    rcases hq with rfl | rfl
    · rw [ex];rfl
    · rw [ey];rfl
  · show pv P (execOp a.eval ⟨d, .binOp .eql t x y u, ty, "", #[], none⟩) = _
    simp [execOp,pv_bind,pv_map,pv_pure,pv_program,ex,ey,eqGuard,binOp,hu.g,pv_eqr e1 hu.s e2 e3 e4 e5 e6 e7]
end rules
end Go.Tidy
namespace Go.Tidy
open Go Go.Proofs Tab
variable {tp:TProg}
abbrev ptr (c:Nat):Value:=.pointer (some ⟨c,0,none⟩)
abbrev zi (z:Int):Value:=.int .i64 z
end Go.Tidy
namespace Go.Tidy
open Go Go.Proofs Tab
variable {tp:TProg}
def RX (n0:Nat) (h:TH) (sx:ByteArray) (nx:Int) (x1 x2:Value) (s:ByteArray) (n:Int) (C:List (Int × Bool)) (e:Int):Prop :=
 (e≠0∧sx=⟨#[]⟩∧nx=0∧x1=.slice none 0 0∧x2=.slice none 0 0)∨(e=0∧sx=s∧nx=n∧RunO n0 h x1 x2 (C.map fun c=>smp c.1) (holesOf (C.map fun c=>c.2)))
theorem RunO.relock' {n0:Nat} {h:TH} {v1 v2:Value} {F:List Nat} {S:List (Int × Int)} (r:RunO n0 h v1 v2 F S) (L:List Nat):RunO n0 (h.withLock L) v1 v2 F S:=⟨⟨r.r.f.relock L,r.r.s.relock L,r.r.g.relock L⟩,r.o1,r.o2⟩
theorem RunH.relock' {h:TH} {v1 v2:Value} {F:List Nat} {S:List (Int × Int)} (r:RunH h v1 v2 F S) (L:List Nat):RunH (h.withLock L) v1 v2 F S:=⟨r.f.relock L,r.s.relock L,r.g.relock L⟩
section
variable {n0 c:Nat} {h h':TH} {sx:ByteArray} {nx:Int} {x1 x2:Value} {s:ByteArray} {n:Int} {C:List (Int × Bool)} {e:Int}
theorem RX.hx (r:RX n0 h sx nx x1 x2 s n C e) (x:HX h h'):RX n0 h' sx nx x1 x2 s n C e:=by
 rcases r with r | ⟨a,b,d,r⟩
 ·exact .inl r
 ·exact .inr ⟨a,b,d,r.hx x⟩
theorem RX.relock (r:RX n0 h sx nx x1 x2 s n C e) (L:List Nat):RX n0 (h.withLock L) sx nx x1 x2 s n C e:=by
 rcases r with r | ⟨a,b,d,r⟩
 ·exact .inl r
 ·exact .inr ⟨a,b,d,r.relock' L⟩
end
end Go.Tidy
namespace Go.Tidy
open Go Go.Proofs Tab
variable {tp:TProg}
theorem Free0.on {h h':TH} (f:Free0 h.next h) (x:HX h h'):Free0 h'.next h':=f.next x x.next
end Go.Tidy
namespace Go.Tidy
open Go Go.Proofs Tab
variable {tp:TProg}
theorem cellsK_get {L:List Int} {K:List Bool} {i:Nat} {x:Int} {p:Bool} (hx:L[i]?=some x) (hp:K[i]?=some p):(cellsK L K)[i]?=some (if p=true then (x,true) else (0,false)):=by
 unfold cellsK;rw [List.getElem?_zipWith,hx,hp]
theorem cellsK_ln {L:List Int} {K:List Bool} (h:K.length=L.length):(cellsK L K).length=L.length:=by simp [cellsK,h]
end Go.Tidy
namespace Go.Tidy
open Go Go.Proofs Tab
variable {tp:TProg}
structure Rows3 (h:TH) (b:Nat) (Xs:List Value) (Cs:List (List (Int × Bool))):Prop where
 at_:At h b (.cells Xs true true 158)
 len:Xs.length=Cs.length
 sl:∀ (i:Nat) (x:Value) (C:List (Int × Bool)),Xs[i]?=some x→Cs[i]?=some C→SlL encC 2 h x C
theorem Rows3.hx {h h':TH} {b:Nat} {Xs:List Value} {Cs:List (List (Int × Bool))} (r:Rows3 h b Xs Cs) (x:HX h h'):Rows3 h' b Xs Cs:=⟨r.at_.hx x,r.len,fun i y C h1 h2=>(r.sl i y C h1 h2).hx x⟩
end Go.Tidy
namespace Go.Tidy
open Go Go.Proofs Tab
variable {tp:TProg}
theorem Rows3.relock {h:TH} {b:Nat} {Xs:List Value} {Cs:List (List (Int × Bool))} (r:Rows3 h b Xs Cs) (M:List Nat):Rows3 (h.withLock M) b Xs Cs:=⟨r.at_.relock M,r.len,fun i y C h1 h2=>(r.sl i y C h1 h2).relock M⟩
end Go.Tidy
namespace Go.Tidy
open Go Go.Proofs Tab
variable {tp:TProg}
section
variable {P:Program} {α:Type} {enc:α→List Value} {n n0:Nat} {h:TH} {v:Value} {e:TypeId} {l:List α} {z:List Value} {row:Bool}
theorem slC_keep {h h':TH} {v:Value} {sz m:Nat} {c:List Value} (s:SlC h v sz m c) (k:∀ b y,bl v=some b→At h b y→At h' b y):SlC h' v sz m c:=by
 obtain ⟨bo,cap,rfl,h2,h3,h4⟩:=s
 exact ⟨bo,cap,rfl,h2,h3,h4.imp id fun ⟨b,off,cc,fix,wr,el,q1,q2,q3,q4⟩=>by subst q1;exact ⟨b,off,cc,fix,wr,el,rfl,k b _ rfl q2,q3,q4⟩⟩
theorem HX.locked {h h':TH} (x:HX h h') (M:List Nat):HX (h.withLock M) (h'.withLock M):=⟨x.next,x.floor,rfl,x.old⟩
end
end Go.Tidy
namespace Go.Tidy
open Go Go.Proofs Tab
variable {tp:TProg}
section
variable {α:Type} {k:Nat} {l:List α}
end
theorem WO.remI {P:Program} {tp:TProg} {a:Regs} {h:TH} {K:Regs→TH→Prop} {rest:List TOper} {d:Option Tmp} {ty:TypeId} {i:Nat} {x y:Operand} {t u:TypeId} {m n:Int} (hx:getO a x=some (.int .i64 m)) (hy:getO a y=some (.int .i64 n)) (hn:n≠0)
  (w:WO P tp rest (a.put d (.int .i64 (m.tmod n))) h K):WO P tp (⟨d,.binOp .rem t x y u,ty,none,[],i⟩::rest) a h K:=by
 refine WO.bi hx hy ?_ w
 have hk:Nat.beq (kindNo .i64) (kindNo .i64)=true:=Nat.beq_refl _
 have hb:(n == 0)=false:=by simpa using hn
 simp only [fastBin,hk,fastInt,hb,Bool.cond_true,Bool.cond_false]
theorem WOL.rem {P:Program} {tp:TProg} {h:TH} {K:Regs→TH→Prop} {rest:List TOper} {d:Option Tmp} {ty:TypeId} {i:Nat} {x y:Operand} {t u:TypeId} {L:Rg} {m n:Int} (hx:getL L x=some (.int .i64 m)) (hy:getL L y=some (.int .i64 n)) (hm:0≤m) (hn:0 < n) (w:∀ a,Kn (putL L d (.int .i64 (m % n))) a→WO P tp rest a h K):∀ a,Kn L a→WO P tp (⟨d,.binOp .rem t x y u,ty,none,[],i⟩::rest) a h K:=fun a k=>by
 refine WO.remI (k.o hx) (k.o hy) (by omega) ?_
 rw [Int.tmod_eq_emod_of_nonneg hm]
 exact w _ (k.put d _)
end Go.Tidy
namespace Go.Tidy
open Go Go.Proofs Tab
variable {tp:TProg}
section
variable {P:Program} {h:TH} {v:Value} {t e:TypeId} {n:Nat} {z:List Value} {row:Bool} {K:Regs→TH→Prop} {rest:List TOper} {d:Option Tmp} {ty:TypeId} {i:Nat} {x y lo hi:Operand} {L:Rg}
theorem WOL.sl {q:Addr} {m cap:Nat} {vlo vhi:Value} (hx:getL L x=some (.slice (some q) m cap)) (hl:getL L lo=some vlo) (hh:getL L hi=some vhi) (hv:sliceT P t (.slice (some q) m cap) (some vlo) (some vhi) none h=some v) (w:∀ a,Kn (putL L d v) a→WO P tp rest a h K):∀ a,Kn L a→WO P tp (⟨d,.slice t x (some lo) (some hi) none,ty,none,[],i⟩::rest) a h K :=
 fun a k=>WO.sl (k.o hx) (k.o hl) (k.o hh) hv (k.nx w)
end
def setN {α:Type} (l:List α) (p:Nat) (g:Nat→α):Nat→List α
 | 0=>l
 | i+1=>(setN l p g i).set (p+i) (g i)
section
variable {α:Type} {l:List α} {p:Nat} {g:Nat→α}
end
theorem Free0.of {n:Nat} {hb h h':TH} (f:Free0 n h) (x:HX hb h) (y:HX hb h'):Free0 n h':=⟨by rw [y.floor,← x.floor];exact f.floor,by rw [y.lock,← x.lock];exact f.lock⟩
end Go.Tidy
namespace Go.Tidy
open Go Go.Proofs Tab
variable {tp:TProg}
theorem Valid.cell {s:ByteArray} {n:Int} {F:List Nat} {S:List (Int × Int)} {L:List Int} (V:Valid s n F S L) {i:Nat} (hi:i < F.length):∃ k,(cellsL L S)[i]?=some (L.getD i 0,k):=by
 have kl:=V.kl
 have ll:=V.lev.1
 have hx:L[i]?=some L[i]:=List.getElem?_eq_getElem (by omega)
 have hp:(knownL S F.length)[i]?=some (knownL S F.length)[i]:=List.getElem?_eq_getElem (by omega)
 have hd:=V.dark.2 i _ hx
 have hg:L.getD i 0=L[i]:=by rw [List.getD_eq_getElem?_getD,hx];rfl
 rw [V.cells,cellsK_get hx hp,hg]
 generalize (knownL S F.length)[i]=k at *
 cases k with
 | true=>exact ⟨true,rfl⟩
 | false=>exact ⟨false,by rw [hd hp];rfl⟩
end Go.Tidy
namespace Go.Tidy
open Go Go.Proofs Tab
variable {tp:TProg}
theorem holeE_after {m:Nat}:∀ {S:List (Int × Int)} {prev:Int},holeE m prev S=0→∀ p,p ∈ S→prev < p.1
  | [],_,_=>fun p hp=>by cases hp
  | x::r,prev,h=>by
    have hlt:=holeE_lt h x (List.mem_cons_self ..)
    rw [holeE_cons] at h
    cases hb:badS m x with
    | true=>rw [hb] at h;cases h
    | false =>
      rw [hb] at h
      by_cases hc:x.1≤prev
      · rw [decide_eq_true hc] at h;cases h
      · rw [decide_eq_false hc] at h
        intro p hp
        rcases List.mem_cons.1 hp with rfl | hp
        · omega
        · have:=holeE_after (S:=r) (prev:=x.2) h p hp
          omega
end Go.Tidy
namespace Go.Tidy
open Go Go.Proofs Tab
theorem Samp.e0 {b:Nat} {n:Int} (s:Samp b n):SampleE b 0:=by
 obtain ⟨neg,q,h,h2,_⟩:=s.ok
 obtain ⟨m,k,hr,hq,hk⟩:=h
 obtain ⟨D,hD⟩:∃ D:Nat,2 ^ 149=D:=⟨_,rfl⟩
 have hDp:0 < D:=by rw [← hD];exact two_pow_pos 149
 have e1:=h2 D hD
 have hl:=s.lim
 have hU:m*2 ^ (k+4)=n.natAbs*D:=by rw [Nat.pow_add,← Nat.mul_assoc,← e1,hq]
 have ok:okU (m*2 ^ (k+4))=true:=by
  rw [okU_eq hD]
  unfold okD
  rw [hU,decide_eq_true (Nat.mul_le_mul_right D hl),Nat.mul_div_cancel _ hDp]
  simp
 rcases single_cases b with h | ⟨s',h⟩ | ⟨neg',m',k',N⟩
 ·rw [s.nan] at h;cases h
 ·rw [hr] at h;cases h
 ·have e:=hr.symm.trans N.read
  injection e with e1 e2 e3
  obtain rfl:k=k':=by omega
  subst e2
  have:=SampleE.num neg' m k N
  rw [ok] at this
  exact this
theorem serr_zero {F:List Nat} {L:List Int} (h:Lev F L):∃ es,SErr F es∧firstNZ es=0:=by
 refine ⟨List.replicate F.length 0,⟨by simp,fun i b e hb he=>?_⟩,?_⟩
 ·have hi:i < F.length:=(List.getElem?_eq_some_iff.1 hb).1
  have hiL:i < L.length:=by rw [← h.1];exact hi
  have hx:L[i]?=some L[i]:=List.getElem?_eq_getElem hiL
  rw [List.getElem?_replicate,if_pos hi] at he
  cases he
  exact (h.2 i b _ hb hx).e0
 ·have:∀ k,firstNZ (List.replicate k 0)=0:=by
   intro k
   induction k with
   | zero=>rfl
   | succ k ih=>rw [List.replicate_succ];show cond ((0:Int) != 0) 0 _=0;exact ih
  exact this _
def endOf (prev:Int):List (Int × Int)→Int
 | []=>prev
 | p::r=>endOf p.2 r
theorem endOf_le {i:Int}:∀ (S:List (Int × Int)) (prev:Int),prev≤i→(∀ p,p ∈ S→p.2≤i)→endOf prev S≤i
 | [],_,h,_=>h
 | x::r,prev,_,h=>endOf_le r x.2 (h x (List.mem_cons_self ..)) fun p hp=>h p (List.mem_cons_of_mem _ hp)
theorem holeE_snoc {m:Nat} (p:Int × Int):∀ (S:List (Int × Int)) (prev:Int),holeE m prev (S ++ [p])=0 ↔ holeE m prev S=0∧badS m p=false∧endOf prev S < p.1
  | [], prev => by
    show holeE m prev [p]=0 ↔ _
    rw [holeE_cons]
    cases hb:badS m p with
    | true=>simp
    | false =>
      by_cases hc:p.1≤prev
      · rw [decide_eq_true hc]
        simp only [Bool.cond_false,Bool.cond_true,endOf]
        constructor
        · intro h;cases h
        · rintro ⟨_,_,h⟩;omega
      · rw [decide_eq_false hc]
        simp only [Bool.cond_false,endOf]
        exact ⟨fun _=>⟨by trivial,by trivial,by omega⟩,fun _=>by trivial⟩
  | x::r,prev=>by
    show holeE m prev (x::(r ++ [p]))=0 ↔ _
    rw [holeE_cons,holeE_cons]
    cases hb:badS m x with
    | true=>simp
    | false =>
      by_cases hc:x.1≤prev
      · rw [decide_eq_true hc];simp
      · rw [decide_eq_false hc]
        exact holeE_snoc p r x.2
theorem badS_no {m:Nat} {p:Int × Int}:badS m p=false ↔ 0≤p.1∧p.1 < p.2∧p.2≤m:=by
 unfold badS
 simp only [Bool.or_eq_false_iff,decide_eq_false_iff_not]
 omega
structure HoleI (B:List Bool) (i:Nat) (S:List (Int × Int)):Prop where
 h0:holeE B.length (-1) S=0
 hi:∀ p,p ∈ S→p.2≤(i:Int)
 hk:∀ x:Nat,x < i→S.any (inS x)=!B.getD x false
 ho:0 < i∧B.getD (i - 1) false=false→∃ T a,S=T ++ [((a:Int),(i:Int))]
 hc:¬ (0 < i∧B.getD (i - 1) false=false)→endOf (-1) S < (i:Int)
theorem inS_past {S:List (Int × Int)} {i:Nat} (h:∀ p,p ∈ S→p.2≤(i:Int)):S.any (inS i)=false:=by
 rw [List.any_eq_false]
 intro p hp
 have:=h p hp
 unfold inS
 rw [decide_eq_false (by omega:¬ (i:Int) < p.2),Bool.and_false]
 decide
theorem holeI (B:List Bool):∀ i,i≤B.length→HoleI B i (holesN B i)
  | 0,_=>⟨rfl,fun p hp=>(by cases hp),fun x hx=>by omega,fun h=>by omega,fun _=>(by show (-1:Int) < 0;decide)⟩
  | i + 1, hle => by
    obtain ⟨h0,hi,hk,ho,hc⟩:=holeI B i (by omega)
    show HoleI B (i+1) (hstep B (holesN B i) i)
    generalize holesN B i=S at *
    have sub1:i+1 - 1=i:=by omega
    unfold hstep
    by_cases hb:B.getD i false=true
    · rw [if_pos hb]
      refine ⟨h0,fun p hp=>by have:=hi p hp;omega,fun x hx=>?_,fun h=>?_,fun _=>?_⟩
      · by_cases hxi:x < i
        · exact hk x hxi
        · obtain rfl:x=i:=by omega
          rw [inS_past hi,hb];rfl
      · rw [sub1,hb] at h;cases h.2
      · have:=endOf_le S (-1) (show (-1:Int)≤(i:Int) by omega) hi
        omega
    · have hb':B.getD i false=false:=by simpa using hb
      rw [if_neg hb]
      by_cases hp:0 < i∧B.getD (i - 1) false=false
      · rw [if_pos hp]
        obtain ⟨T,a,rfl⟩:=ho hp
        obtain ⟨t0,t1,t2⟩:=(holeE_snoc _ T (-1)).1 h0
        have t1':=badS_no.1 t1
        have hS:(T ++ [(a,(i:Int))]).set ((T ++ [(a,(i:Int))]).length - 1) (((T ++ [(a,(i:Int))]).getD ((T ++ [(a,(i:Int))]).length - 1) (0,0)).1,(i:Int)+1)=T ++ [(a,((i+1:Nat):Int))]:=by
          simp
        rw [hS]
        refine ⟨(holeE_snoc _ T (-1)).2 ⟨t0,badS_no.2 ⟨t1'.1,?_,?_⟩,t2⟩,fun p hp=>?_,fun x hx=>?_,fun _=>⟨T,a,rfl⟩,fun h=>?_⟩
        · have:a < (i:Int):=t1'.2.1
          show a < ((i+1:Nat):Int)
          omega
        · show ((i+1:Nat):Int)≤_
          omega
        · rcases List.mem_append.1 hp with hp | hp
          · have:=hi p (List.mem_append_left _ hp);omega
          · simp at hp;subst hp;exact Int.le_refl _
        · have ha:a < (i:Int):=t1'.2.1
          by_cases hxi:x < i
          · rw [← hk x hxi,List.any_append,List.any_append]
            congr 1
            simp only [List.any_cons,List.any_nil,Bool.or_false,inS]
            congr 1
            rw [decide_eq_true (by omega:(x:Int) < ((i+1:Nat):Int)),decide_eq_true (by omega:(x:Int) < (i:Int))]
          · obtain rfl:x=i:=by omega
            rw [hb',List.any_append]
            simp only [List.any_cons,List.any_nil,Bool.or_false,inS]
            rw [decide_eq_true (by omega:(x:Int) ≥ a),decide_eq_true (by omega:(x:Int) < ((x+1:Nat):Int))]
            simp
        · rw [sub1] at h
          exact absurd ⟨by omega,hb'⟩ h
      · rw [if_neg hp]
        have hc':=hc hp
        refine ⟨(holeE_snoc _ S (-1)).2 ⟨h0,badS_no.2 ⟨by show (0:Int)≤(i:Int);omega,by show (i:Int) < (i:Int)+1;omega,by show (i:Int)+1≤_;omega⟩,hc'⟩,fun p hp=>?_,fun x hx=>?_,fun _=>⟨S,(i:Int),rfl⟩,fun h=>?_⟩
        · rcases List.mem_append.1 hp with hp | hp
          · have:=hi p hp;omega
          · simp at hp;subst hp;show (i:Int)+1≤_;omega
        · rw [List.any_append]
          by_cases hxi:x < i
          · rw [← hk x hxi]
            simp only [List.any_cons,List.any_nil,Bool.or_false,inS]
            rw [decide_eq_false (by omega:¬ (x:Int) ≥ (i:Int))]
            simp
          · obtain rfl:x=i:=by omega
            rw [hb']
            simp only [List.any_cons,List.any_nil,Bool.or_false,inS]
            rw [decide_eq_true (by omega:(x:Int) ≥ (x:Int)),decide_eq_true (by omega:(x:Int) < (x:Int)+1)]
            simp
        · rw [sub1] at h
          exact absurd ⟨by omega,hb'⟩ h
theorem known_holes (B:List Bool):knownL (holesOf B) B.length=B:=by
 have H:=holeI B B.length (Nat.le_refl _)
 apply List.ext_getElem?
 intro x
 by_cases hx:x < B.length
 ·unfold knownL
  rw [List.getElem?_map,List.getElem?_range hx]
  show some (knownB (holesOf B) x)=_
  unfold knownB
  rw [show (holesOf B).any (inS x)=!B.getD x false from H.hk x hx,Bool.not_not,List.getD_eq_getElem?_getD,List.getElem?_eq_getElem hx]
  rfl
 ·rw [List.getElem?_eq_none (by rw [knownL_len];omega),List.getElem?_eq_none (by omega)]
theorem holes_ok (B:List Bool):holeE B.length (-1) (holesOf B)=0:=(holeI B B.length (Nat.le_refl _)).h0
def DarkC (C:List (Int × Bool)):Prop:=∀ c,c ∈ C→c.2=false→c.1=0
theorem made_run {s:ByteArray} {n:Int} {C:List (Int × Bool)} (hd:headE s n C.length=0) (hn:n+C.length≤100000000) (lim:∀ c,c ∈ C→c.1.natAbs≤16384) (dk:DarkC C) :
    ∃ es,SErr (C.map fun c=>smp c.1) es∧Lev (C.map fun c=>smp c.1) (C.map fun c=>c.1)∧runE s n (C.map fun c=>smp c.1).length (holesOf (C.map fun c=>c.2)) es (C.map fun c=>c.1)=0∧Valid s n (C.map fun c=>smp c.1) (holesOf (C.map fun c=>c.2)) (C.map fun c=>c.1)∧cellsL (C.map fun c=>c.1) (holesOf (C.map fun c=>c.2))=C:=by
  have hL:=lev_smp lim
  obtain ⟨es,hE,h0⟩:=serr_zero hL
  have hlen:(C.map fun c=>smp c.1).length=C.length:=by simp
  have hlen2:(C.map fun c=>c.2).length=C.length:=by simp
  have ho:holeE C.length (-1) (holesOf (C.map fun c=>c.2))=0:=by have:=holes_ok (C.map fun c=>c.2);rwa [hlen2] at this
  have hK:knownL (holesOf (C.map fun c=>c.2)) C.length=C.map fun c=>c.2:=by have:=known_holes (C.map fun c=>c.2);rwa [hlen2] at this
  have hin:=holeE_in ho
  have hform:(holesOf (C.map fun c=>c.2)).any (anyIn (C.map fun c=>c.1))=false:=by
    cases hb:(holesOf (C.map fun c=>c.2)).any (anyIn (C.map fun c=>c.1)) with
    | false=>rfl
    | true =>
      obtain ⟨j,x,hj,hx,hk⟩:=(form_iff hin).1 hb
      rw [List.getElem?_map] at hj
      cases hc:C[j]? with
      | none=>rw [hc] at hj;cases hj
      | some c =>
        have hjl:j < C.length:=(List.getElem?_eq_some_iff.1 hc).1
        have hkj:(knownL (holesOf (C.map fun c=>c.2)) C.length)[j]?=some (knownB (holesOf (C.map fun c=>c.2)) j):=by
          unfold knownL
          rw [List.getElem?_map,List.getElem?_range hjl];rfl
        rw [hK,List.getElem?_map,hc,hk] at hkj
        rw [hc] at hj
        exact absurd ((Option.some.inj hj).symm.trans (dk c (List.mem_of_getElem? hc) (Option.some.inj hkj))) hx
  obtain ⟨_,n0,n1,hm⟩:=headE_zero hd
  have hr:runE s n (C.map fun c=>smp c.1).length (holesOf (C.map fun c=>c.2)) es (C.map fun c=>c.1)=0:=by
    unfold runE tailE formE
    rw [hlen,hd,h0,ho,hform,decide_eq_false (by omega)]
    rfl
  refine ⟨es,hE,hL,hr,valid_of (fun _=>hL) hr,?_⟩
  rw [cells_eq hL (by rw [hlen];exact hin),hlen,hK]
  apply List.ext_getElem?
  intro i
  cases hc:C[i]? with
  | none =>
    have:C.length≤i:=List.getElem?_eq_none_iff.1 hc
    rw [List.getElem?_eq_none (by rw [cellsK_ln (by simp)];simp;omega)]
  | some c =>
    rw [cellsK_get (x:=c.1) (p:=c.2) (by rw [List.getElem?_map,hc];rfl) (by rw [List.getElem?_map,hc];rfl)]
    obtain ⟨x,k⟩:=c
    cases k with
    | true=>rfl
    | false =>
      have h1:x=0:=dk _ (List.mem_of_getElem? hc) rfl
      subst h1;rfl
end Go.Tidy
namespace Go.Tidy
open Go Go.Proofs Tab
theorem known_no {S:List (Int × Int)} {x:Int}:knownB S x=false ↔ ∃ p,p ∈ S∧p.1≤x∧x < p.2:=by
 unfold knownB
 rw [Bool.not_eq_false',List.any_eq_true]
 constructor
 ·rintro ⟨p,hp,h⟩
  unfold inS at h
  simp only [Bool.and_eq_true,decide_eq_true_eq] at h
  exact ⟨p,hp,h.1,h.2⟩
 ·rintro ⟨p,hp,h1,h2⟩
  refine ⟨p,hp,?_⟩
  unfold inS
  rw [decide_eq_true h1,decide_eq_true h2];rfl
theorem holeE_tail {m:Nat} {prev:Int} {p:Int × Int} {r:List (Int × Int)} (h:holeE m prev (p::r)=0):badS m p=false∧prev < p.1∧holeE m p.2 r=0:=by
 rw [holeE_cons] at h
 cases hb:badS m p with
 | true=>rw [hb] at h;cases h
 | false =>
  rw [hb] at h
  by_cases hc:p.1≤prev
  ·rw [decide_eq_true hc] at h;cases h
  ·rw [decide_eq_false hc] at h
   exact ⟨rfl,by omega,h⟩
theorem known_tail {p:Int × Int} {r:List (Int × Int)} {x:Int} (hx:p.2≤x):knownB (p::r) x=knownB r x:=by
 unfold knownB
 rw [List.any_cons]
 unfold inS
 rw [decide_eq_false (by omega:¬ x < p.2),Bool.and_false,Bool.false_or]
theorem holes_first {m:Nat} {prev:Int} {p:Int × Int} {r:List (Int × Int)} (h:holeE m prev (p::r)=0) {x:Int} (hx:knownB (p::r) x=false):p.1≤x:=by
 obtain ⟨q,hq,h1,_⟩:=known_no.1 hx
 obtain ⟨b,_,t⟩:=holeE_tail h
 have:=badS_no.1 b
 rcases List.mem_cons.1 hq with rfl | hq
 ·exact h1
 ·have:=holeE_after t q hq
  omega
theorem holes_end {m:Nat} {prev:Int} {p:Int × Int} {r:List (Int × Int)} (h:holeE m prev (p::r)=0):knownB (p::r) p.2=true:=by
 cases hb:knownB (p::r) p.2 with
 | true=>rfl
 | false =>
  rw [known_tail (Int.le_refl _)] at hb
  obtain ⟨q,hq,h1,_⟩:=known_no.1 hb
  have:=holeE_after (holeE_tail h).2.2 q hq
  omega
theorem holes_uniq {m:Nat}:∀ {S T:List (Int × Int)} {prev:Int},-1≤prev→holeE m prev S=0→holeE m prev T=0→(∀ x:Nat,prev < (x:Int)→knownB S x=knownB T x)→S=T
  | [],[],_,_,_,_,_=>rfl
  | [],q::t,prev,h0,_,hT,h=>by
    obtain ⟨b,a,_⟩:=holeE_tail hT
    have b':=badS_no.1 b
    obtain ⟨x,hx⟩:=Int.eq_ofNat_of_zero_le b'.1
    have h1:=h x (by omega)
    rw [show knownB (q::t) (x:Int)=false from known_no.2 ⟨q,List.mem_cons_self ..,by omega,by omega⟩] at h1
    cases h1
  | p::r,[],prev,h0,hS,_,h=>by
    obtain ⟨b,a,_⟩:=holeE_tail hS
    have b':=badS_no.1 b
    obtain ⟨x,hx⟩:=Int.eq_ofNat_of_zero_le b'.1
    have h1:=h x (by omega)
    rw [show knownB (p::r) (x:Int)=false from known_no.2 ⟨p,List.mem_cons_self ..,by omega,by omega⟩] at h1
    cases h1
  | p::r,q::t,prev,h0,hS,hT,h=>by
    obtain ⟨b,a,tS⟩:=holeE_tail hS
    obtain ⟨c,d,tT⟩:=holeE_tail hT
    have b':=badS_no.1 b
    have c':=badS_no.1 c
    obtain ⟨p1,p2⟩:=p
    obtain ⟨q1,q2⟩:=q
    simp only at b' c' a d
    obtain ⟨x,rfl⟩:=Int.eq_ofNat_of_zero_le b'.1
    obtain ⟨y,rfl⟩:=Int.eq_ofNat_of_zero_le c'.1
    obtain ⟨u,rfl⟩:=Int.eq_ofNat_of_zero_le (show 0≤p2 by omega)
    obtain ⟨v,rfl⟩:=Int.eq_ofNat_of_zero_le (show 0≤q2 by omega)
    have e1:(y:Int)≤x:=holes_first hT (x:=(x:Int)) (by rw [← h x a];exact known_no.2 ⟨_,List.mem_cons_self ..,Int.le_refl _,b'.2.1⟩)
    have e2:(x:Int)≤y:=holes_first hS (x:=(y:Int)) (by rw [h y d];exact known_no.2 ⟨_,List.mem_cons_self ..,Int.le_refl _,c'.2.1⟩)
    obtain rfl:x=y:=by omega
    have f1:¬ (u:Int) < v:=fun hl=>by
      have:=h u (by omega)
      rw [show knownB (((x:Int),(u:Int))::r) (u:Int)=true from holes_end hS,show knownB (((x:Int),(v:Int))::t) (u:Int)=false from known_no.2 ⟨_,List.mem_cons_self ..,by show (x:Int)≤u;omega,hl⟩] at this
      cases this
    have f2:¬ (v:Int) < u:=fun hl=>by
      have:=h v (by omega)
      rw [show knownB (((x:Int),(v:Int))::t) (v:Int)=true from holes_end hT,show knownB (((x:Int),(u:Int))::r) (v:Int)=false from known_no.2 ⟨_,List.mem_cons_self ..,by show (x:Int)≤v;omega,hl⟩] at this
      cases this
    obtain rfl:u=v:=by omega
    congr 1
    refine holes_uniq (prev:=(u:Int)) (by omega) tS tT fun z hz=>?_
    have:=h z (by omega)
    rwa [known_tail (by show (u:Int)≤z;omega),known_tail (by show (u:Int)≤z;omega)] at this
theorem known_past {m:Nat} {S:List (Int × Int)} (hin:In m S) {x:Int} (hx:(m:Int)≤x):knownB S x=true:=by
 cases hb:knownB S x with
 | true=>rfl
 | false =>
  obtain ⟨p,hp,h1,h2⟩:=known_no.1 hb
  have:=(hin p hp).2.2
  omega
theorem knownL_get {S:List (Int × Int)} {m i:Nat} (hi:i < m):(knownL S m)[i]?=some (knownB S i):=by
 unfold knownL
 rw [List.getElem?_map,List.getElem?_range hi];rfl
theorem holesOf_get {K:List Bool} {i:Nat} (hi:i < K.length):K[i]?=some (knownB (holesOf K) i):=by
 have:=knownL_get (S:=holesOf K) hi
 rwa [known_holes] at this
theorem holes_back {m:Nat} {S:List (Int × Int)} (h:holeE m (-1) S=0):holesOf (knownL S m)=S:=by
 have hl:=knownL_len S m
 have h2:=holes_ok (knownL S m)
 rw [hl] at h2
 refine holes_uniq (Int.le_refl _) h2 h fun x _=>?_
 by_cases hx:x < m
 ·have e1:=holesOf_get (K:=knownL S m) (i:=x) (by omega)
  rw [knownL_get hx] at e1
  exact (Option.some.inj e1).symm
 ·rw [known_past (holeE_in h2) (by omega),known_past (holeE_in h) (by omega)]
end Go.Tidy
namespace Go.Tidy
open Go Go.Proofs Tab
variable {tp:TProg}
structure Cel (s:ByteArray) (n:Int) (F:List Nat) (es:List Int) (C:List (Int × Bool)):Prop where
 len:F.length=C.length
 e:SErr F es
 lev:Lev F (C.map fun c=>c.1)
 r:runE s n F.length (holesOf (C.map fun c=>c.2)) es (C.map fun c=>c.1)=0
 v:Valid s n F (holesOf (C.map fun c=>c.2)) (C.map fun c=>c.1)
 c:cellsL (C.map fun c=>c.1) (holesOf (C.map fun c=>c.2))=C
def RunC (s:ByteArray) (n:Int) (h:TH) (v1 v2:Value) (C:List (Int × Bool)):Prop:=∃ F es,RunH h v1 v2 F (holesOf (C.map fun c=>c.2))∧Cel s n F es C
theorem RunC.hx {s:ByteArray} {n:Int} {h h':TH} {v1 v2:Value} {C:List (Int × Bool)} (r:RunC s n h v1 v2 C) (x:HX h h'):RunC s n h' v1 v2 C:=by
 obtain ⟨F,es,r,c⟩:=r
 exact ⟨F,es,r.hx x,c⟩
section
variable {s:ByteArray} {n:Int} {F:List Nat} {es L:List Int} {S:List (Int × Int)} {C:List (Int × Bool)}
theorem Cel.lim (c:Cel s n F es C):∀ x,x ∈ C→x.1.natAbs≤16384:=by have:=c.v.lim;rwa [c.c] at this
theorem Cel.head (c:Cel s n F es C):headE s n C.length=0:=by
 have:=c.r
 unfold runE at this
 rw [c.len] at this
 rcases nz_cases (headE s n C.length) with h | h
 ·exact h
 ·rw [h] at this;rw [show headE s n C.length=0 from this] at h;cases h
theorem Valid.back (V:Valid s n F S L):((cellsL L S).map fun c=>c.1)=L∧holesOf ((cellsL L S).map fun c=>c.2)=S:=by
 have kl:=V.kl
 have ll:=V.lev.1
 constructor
 ·apply List.ext_getElem?
  intro i
  rw [List.getElem?_map]
  by_cases hi:i < F.length
  ·obtain ⟨k,hk⟩:=V.cell hi
   rw [hk,List.getElem?_eq_getElem (by omega:i < L.length)]
   simp [List.getD_eq_getElem?_getD,List.getElem?_eq_getElem (by omega:i < L.length)]
  ·rw [List.getElem?_eq_none (by rw [cells_len V.lev V.in_];omega),List.getElem?_eq_none (by omega)]
   rfl
 ·rw [V.cells,cellsK_snd kl,holes_back V.hole]
theorem Cel.of (V:Valid s n F S L) (hE:SErr F es) (h0:runE s n F.length S es L=0):Cel s n F es (cellsL L S):=by
 obtain ⟨b1,b2⟩:=V.back
 refine ⟨(cells_len V.lev V.in_).symm,hE,by rw [b1];exact V.lev,by rw [b1,b2];exact h0,by rw [b1,b2];exact V,by rw [b1,b2]⟩
theorem Cel.made (hd:headE s n C.length=0) (hn:n+C.length≤100000000) (lim:∀ c,c ∈ C→c.1.natAbs≤16384) (dk:DarkC C):∃ es,Cel s n (C.map fun c=>smp c.1) es C:=by
 obtain ⟨es,e1,e2,e3,e4,e5⟩:=made_run hd hn lim dk
 exact ⟨es,by simp,e1,e2,e3,e4,e5⟩
theorem RunO.cel {B:Nat} {h:TH} {w1 w2:Value} (o:RunO B h w1 w2 (C.map fun c=>smp c.1) (holesOf (C.map fun c=>c.2))) (hd:headE s n C.length=0) (hn:n+C.length≤100000000) (lim:∀ c,c ∈ C→c.1.natAbs≤16384) (dk:DarkC C):RunC s n h w1 w2 C:=by
 obtain ⟨es,c⟩:=Cel.made hd hn lim dk
 exact ⟨_,es,o.r,c⟩
end
section
variable {s:ByteArray} {n:Int} {h:TH} {v1 v2 w1 w2:Value} {C D:List (Int × Bool)}
def NewC (s:ByteArray) (n:Int) (C:List (Int × Bool)) (h:TH) (v:Value) (h':TH):Prop :=
 ∃ bo1 l1 k1 bo2 l2 k2,v=.tuple #[runV s n (.slice bo1 l1 k1) (.slice bo2 l2 k2),.int .i64 0]∧HX h h'∧RunC s n h' (.slice bo1 l1 k1) (.slice bo2 l2 k2) C∧Above h.next (.slice bo1 l1 k1)∧Above h.next (.slice bo2 l2 k2)
theorem RunR.new {h':TH} {v:Value} (r:RunR h h' v s n C 0) (hd:headE s n C.length=0) (hn:n+C.length≤100000000) (lim:∀ c,c ∈ C→c.1.natAbs≤16384) (dk:DarkC C):NewC s n C h v h':=by
 obtain ⟨X,⟨he,_⟩ | ⟨_,w1,w2,rfl,O⟩⟩:=r
 ·exact absurd rfl he
 ·obtain ⟨bo1,k1,rfl⟩:=O.r.f.form
  obtain ⟨bo2,k2,rfl⟩:=O.r.s.form
  exact ⟨_,_,_,_,_,_,rfl,X,O.cel hd hn lim dk,O.o1,O.o2⟩
end
end Go.Tidy
namespace Go.Tidy
open Go Go.Proofs Tab
variable {tp:TProg}
section
variable {s:ByteArray} {n:Int} {g:TH} {v1 v2 p1 p2:Value} {C:List (Int × Bool)} {c2 c3 c5':Nat}
theorem RunC.relock (r:RunC s n g v1 v2 C) (M:List Nat):RunC s n (g.withLock M) v1 v2 C:=by
 obtain ⟨F,es,r,c⟩:=r
 exact ⟨F,es,r.relock' M,c⟩
end
attribute [local irreducible] Ty valOf
end Go.Tidy
namespace Go.Tidy
open Go Go.Proofs Tab
variable {tp:TProg}
theorem Samp.order {b c:Nat} {n m:Int} (s:Samp b n) (t:Samp c m):Ieee.single.order b c=some (compare n m):=by
 obtain ⟨neg,q,h1,h2,h3⟩:=s.ok
 obtain ⟨neg',q',g1,g2,g3⟩:=t.ok
 obtain ⟨D,hD⟩:∃ D:Nat,2 ^ 149=D:=⟨_,rfl⟩
 have hDp:0 < D:=by rw [← hD];exact two_pow_pos 149
 have e1:=h2 D hD
 have e2:=g2 D hD
 have a1:sg neg q*(16:Nat)=n*(D:Nat):=by rw [← sg_mul,e1,sg_mul,h3]
 have a2:sg neg' q'*(16:Nat)=m*(D:Nat):=by rw [← sg_mul,e2,sg_mul,g3]
 rw [h1.order g1]
 generalize sg neg q=x at *
 generalize sg neg' q'=y at *
 have hDi:(0:Int) < (D:Int):=by omega
 have hlt:x < y ↔ n < m:=by
  constructor
  ·intro hq
   have:n*(D:Int) < m*(D:Int):=by rw [← a1,← a2];omega
   exact Int.lt_of_mul_lt_mul_right this (by omega)
  ·intro hq
   have:n*(D:Int) < m*(D:Int):=Int.mul_lt_mul_of_pos_right hq hDi
   rw [← a1,← a2] at this
   omega
 have heq:x=y ↔ n=m:=by
  constructor
  ·intro hq
   rw [hq,a2] at a1
   exact (Int.eq_of_mul_eq_mul_right (by omega) a1).symm
  ·intro hq
   rw [hq,← a2] at a1
   omega
 congr 1
 show compareOfLessAndEq _ _=compareOfLessAndEq _ _
 unfold compareOfLessAndEq
 simp only [hlt,heq]
section
variable {P:Program} {h:TH} {K:Regs→TH→Prop} {rest:List TOper} {d:Option Tmp} {ty:TypeId} {i:Nat} {x y:Operand} {t u:TypeId} {L:Rg}
end
end Go.Tidy
namespace Go.Tidy
open Go Go.Proofs Tab
variable {tp:TProg}
section
variable {P:Program} {h:TH} {K:Regs→TH→Prop} {rest:List TOper} {d:Option Tmp} {ty:TypeId} {i:Nat} {x y:Operand} {t u:TypeId} {L:Rg}
end
def encY (b:Nat):List Value:=[.int .u8 (b:Nat)]
theorem eY:Enc encY 1:=⟨fun _=>rfl,fun _=>rfl⟩
section
variable {h:TH} {v:Value} {l:List Nat} {c:Nat}
end
def Byt (l:List Nat):Prop:=∀ b,b ∈ l→b < 256
theorem Byt.at {l:List Nat} (h:Byt l) (j:Nat):l.getD j 0 < 256:=by
 rw [List.getD_eq_getElem?_getD]
 cases hj:l[j]? with
 | none=>show (0:Nat) < 256;decide
 | some b=>exact h b (List.mem_of_getElem? hj)
section
variable {h:TH} {l:List Nat} {bo:Option Addr} {n k:Nat}
end
end Go.Tidy
namespace Go.Tidy
open Go Go.Proofs Tab
variable {tp:TProg}
def trcV (n:Int) (v1 v2:Value):Value:=.agg #[.int .i64 n,v1,v2]
structure TrcH (h:TH) (v1 v2:Value) (L:List Int) (S:List (Int × Int)):Prop where
 l:SlL encI 1 h v1 L
 s:SlL encS 2 h v2 S
 g:Fits h v1 3
theorem TrcH.hx {h h':TH} {v1 v2:Value} {L:List Int} {S:List (Int × Int)} (r:TrcH h v1 v2 L S) (x:HX h h'):TrcH h' v1 v2 L S:=⟨r.l.hx x,r.s.hx x,r.g.hx x⟩
theorem TrcH.relock {h:TH} {v1 v2:Value} {L:List Int} {S:List (Int × Int)} (r:TrcH h v1 v2 L S) (M:List Nat):TrcH (h.withLock M) v1 v2 L S:=⟨r.l.relock M,r.s.relock M,fun b off m cap e=>by
 obtain ⟨cc,fix,wr,el,r1,r2⟩:=r.g b off m cap e
 exact ⟨cc,fix,wr,el,r1.relock _,r2⟩⟩
def readE (x:Int):Int:=outB x (-1073741824) 1073741824
section
variable {h:TH}
end
section
variable {h:TH} {v:Value} {L:List Int}
end
end Go.Tidy
namespace Go.Tidy
open Go Go.Proofs Tab
variable {tp:TProg}
theorem WOL.cut {P:Program} {tp:TProg} {h:TH} {K:Regs→TH→Prop} {ops:List TOper} {L:Rg} (n:Nat) (M:Rg) (w1:∀ a,Kn L a→WO P tp (ops.take n) a h (fun a' h'=>h'=h∧Kn M a')) (w2:∀ a,Kn M a→WO P tp (ops.drop n) a h K):∀ a,Kn L a→WO P tp ops a h K :=
 fun a k=>WO.cut n ((w1 a k).mono fun a' h' ⟨e,k'⟩=>by subst e;exact w2 a' k')
theorem SlL.part {α:Type} {enc:α→List Value} {n:Nat} {h:TH} {b off m cap lo hi:Nat} {l:List α} (E:Enc enc n) (s:SlL enc n h (.slice (some ⟨b,off,none⟩) m cap) l) (h1:lo≤hi) (h2:hi≤l.length):SlL enc n h (.slice (some ⟨b,off+lo*n,none⟩) (hi - lo) (cap - lo)) ((l.drop lo).take (hi - lo)):=by
 have e:((l.drop lo).take (hi - lo)).length=hi - lo:=by rw [List.length_take,List.length_drop];omega
 obtain ⟨bo,cap',e1,hc,hl,hh⟩:=s
 cases e1
 rcases hh with ⟨q,_⟩ | ⟨b',off',cc,fix,wr,el,q1,A,q2,q3⟩
 ·cases q
 ·cases q1
  have hm:hi*n≤l.length*n:=Nat.mul_le_mul_right _ h2
  have hlo:lo*n+(hi - lo)*n=hi*n:=by rw [← Nat.add_mul];congr 1;omega
  refine ⟨_,cap - lo,by rw [e],by rw [e];omega,by rw [E.cat_len],.inr ⟨b,off+lo*n,cc,fix,wr,el,rfl,A,?_,by rw [e];omega⟩⟩
  rw [e,← E.take,← E.drop,← q2,List.drop_take,List.take_take,List.drop_drop,Nat.min_eq_left (by omega)]
section
variable {h:TH} {n:Int} {v1 v2:Value} {L:List Int} {S:List (Int × Int)}
end
end Go.Tidy
namespace Go.Tidy
open Go Go.Proofs Tab
variable {tp:TProg}
structure RowA (g:TH) (bv bk:Nat) (L:List Int) (B:List Bool):Prop where
 v:At g bv (.cells (cat encI L) true true 3)
 k:At g bk (.cells (cat encB B) true true 4)
 e:B.length=L.length
 n:bv≠bk
theorem RowA.hx {g g':TH} {bv bk:Nat} {L:List Int} {B:List Bool} (r:RowA g bv bk L B) (x:HX g g'):RowA g' bv bk L B:=⟨r.v.hx x,r.k.hx x,r.e,r.n⟩
abbrev slA (b m:Nat):Value:=.slice (some ⟨b,0,none⟩) m m
def largeB (x:Int):Bool:=readE x != 0
section
variable {h:TH} {n:Int} {L:List Int} {B:List Bool}
end
end Go.Tidy
namespace Go.Tidy
open Go Go.Proofs Tab
variable {tp:TProg}
section
variable {P:Program} {a:Regs} {h:TH} {K:Regs→TH→Prop} {rest:List TOper} {d:Option Tmp} {ty:TypeId} {i:Nat} {f x0 x1 x2 l0:Operand} {ls:List Operand} {fv v0 v1 v2:Value} {ts:Array TypeId}
end
def RefS (B:Nat) (g:TH) (c:Nat) (s:ByteArray) (n:Int) (C:List (Int × Bool)) (e:Int):Prop :=
  ∃ sz nz w1 w2,At g c (.cells (runV sz nz w1 w2).cells.toList true true 25)∧(e≠0→w1=.slice none 0 0∧w2=.slice none 0 0) ∧
    (e=0→(sz=s∧nz=n)∧RunO B g w1 w2 (C.map fun c=>smp c.1) (holesOf (C.map fun c=>c.2))∧Lev (C.map fun c=>smp c.1) (C.map fun c=>c.1)∧C.length≤4096)
section
variable {B c c':Nat} {g g':TH} {s:ByteArray} {n:Int} {C:List (Int × Bool)} {e:Int}
theorem RefS.hx (q:RefS B g c s n C e) (x:HX g g'):RefS B g' c s n C e:=by
 obtain ⟨sz,nz,w1,w2,a,q1,q2⟩:=q
 exact ⟨sz,nz,w1,w2,a.hx x,q1,fun h=>⟨(q2 h).1,(q2 h).2.1.hx x,(q2 h).2.2⟩⟩
end
end Go.Tidy
namespace Go.Tidy
open Go Go.Proofs Tab
variable {tp:TProg}
structure TrcO (n0:Nat) (g:TH) (bv:Nat) (w:Value) (L:List Int) (S:List (Int × Int)):Prop where
 v:At g bv (.cells (cat encI L) true true 3)
 s:OwnL encS n0 g w 27 S
theorem TrcO.hx {n0 bv:Nat} {g g':TH} {w:Value} {L:List Int} {S:List (Int × Int)} (r:TrcO n0 g bv w L S) (x:HX g g'):TrcO n0 g' bv w L S:=⟨r.v.hx x,r.s.hx x⟩
theorem TrcO.put {n0 bv c:Nat} {g g':TH} {w:Value} {L:List Int} {S:List (Int × Int)} {x:TB} (r:TrcO n0 g bv w L S) (p:Put g g' c x) (h1:bv≠c) (h2:c < n0):TrcO n0 g' bv w L S:=⟨p.oth _ _ h1 r.v,r.s.keep fun z y hz a=>p.oth _ _ (by have:=r.s.lt hz;omega) a⟩
theorem TrcO.form {n0 bv:Nat} {g:TH} {w:Value} {L:List Int} {S:List (Int × Int)} (r:TrcO n0 g bv w L S):∃ b m k,w=.slice b m k:=by
 rcases r.s with ⟨rfl,_⟩ | ⟨_,b,rfl,_⟩
 ·exact ⟨_,_,_,rfl⟩
 ·exact ⟨_,_,_,rfl⟩
theorem TrcO.low {n0 n1 bv:Nat} {g:TH} {w:Value} {L:List Int} {S:List (Int × Int)} (r:TrcO n1 g bv w L S) (h:n0≤n1):TrcO n0 g bv w L S:=⟨r.v,by
 rcases r.s with q | ⟨q1,b,q2,q3,q4⟩
 ·exact .inl q
 ·exact .inr ⟨q1,b,q2,by omega,q4⟩⟩
section
variable {h:TH} {n:Int} {L:List Int} {B:List Bool} {bv bk:Nat}
end
end Go.Tidy
namespace Go.Tidy
open Go Go.Proofs Tab
variable {tp:TProg}
section
variable {h:TH} {l:List Nat} {v:Value} {bo:Option Addr} {n k:Nat}
end
section
variable {h:TH} {l:List Nat} {bo:Option Addr} {n k:Nat}
end
def OwnF {α:Type} (enc:α→List Value) (n0:Nat) (h:TH) (v:Value) (e:TypeId) (l:List α):Prop :=
 OwnL enc n0 h v e l∨(∃ b,v=.slice (some ⟨b,0,none⟩) l.length l.length∧n0≤b∧At h b (.cells (cat enc l) true true e))
section
variable {P:Program} {h:TH} {α:Type} {enc:α→List Value} {n0 n:Nat} {v:Value} {e:TypeId} {l:List α} {z:List Value} {row:Bool}
theorem OwnF.hx {h':TH} (o:OwnF enc n0 h v e l) (x:HX h h'):OwnF enc n0 h' v e l:=o.imp (fun o=>o.hx x) fun ⟨b,h1,h2,h3⟩=>⟨b,h1,h2,h3.hx x⟩
theorem OwnF.sl (E:Enc enc n) (o:OwnF enc n0 h v e l):SlL enc n h v l:=by
 rcases o with o | ⟨b,rfl,_,h3⟩
 ·exact o.sl E
 ·exact SlL.own E h3 rfl
theorem OwnF.form (o:OwnF enc n0 h v e l):∃ bo,v=.slice bo l.length l.length:=by
 rcases o with (⟨rfl,rfl⟩ | ⟨_,b,rfl,_⟩) | ⟨b,rfl,_⟩
 ·exact ⟨_,rfl⟩
 ·exact ⟨_,rfl⟩
 ·exact ⟨_,rfl⟩
end
section
variable {P:Program} {h:TH} {K:Regs→TH→Prop} {rest:List TOper} {d:Option Tmp} {ty:TypeId} {i:Nat} {x:Operand} {L:Rg}
end
section
variable {h hb:TH} {l:List Nat} {v:Value} {n k n0:Nat}
end
end Go.Tidy
namespace Go.Tidy
open Go Go.Proofs Tab
variable {tp:TProg}
def Tail3 (s:Nat→ByteArray) (n:Nat→Int) (F:Nat→List Nat) (S:Nat→List (Int × Int)) (es L:Nat→List Int):Prop:=∀ k,2≤k→s k=s 2∧n k=n 2∧F k=F 2∧S k=S 2∧es k=es 2∧L k=L 2
section
variable {s:Nat→ByteArray} {n:Nat→Int} {v1 v2:Nat→Value} {F:Nat→List Nat} {S:Nat→List (Int × Int)} {es L:Nat→List Int} {h:TH} {lb:Nat} {el:Int}
theorem Tail3.some (t:Tail3 s n F S es L):∀ k,∃ j,j < 3∧s k=s j∧n k=n j∧F k=F j∧S k=S j∧es k=es j∧L k=L j:=by
 intro k
 by_cases h0:k=0
 ·subst h0;exact ⟨0,by decide,rfl,rfl,rfl,rfl,rfl,rfl⟩
 ·by_cases h1:k=1
  ·subst h1;exact ⟨1,by decide,rfl,rfl,rfl,rfl,rfl,rfl⟩
  ·exact ⟨2,by decide,t k (by omega)⟩
end
end Go.Tidy
namespace Go.Tidy
open Go Go.Proofs Tab
variable {tp:TProg}
section
variable {P:Program} {h:TH} {K:Regs→TH→Prop} {rest:List TOper} {d:Option Tmp} {ty:TypeId} {i:Nat} {x y:Operand} {t u e:TypeId} {L:Rg} {v vx:Value}
end
section
variable {h:TH} {s c:Int} {x y z:Nat} {es:List Int}
end
section
variable {P:Program} {h:TH} {K:Regs→TH→Prop} {rest:List TOper} {d:Option Tmp} {ty:TypeId} {i:Nat} {x:Operand} {t e:TypeId} {L:Rg}
end
def wd (x y z:Nat):Nat→Nat | 0=>x | 1=>y | _=>z
theorem OwnF.at_ {α:Type} {enc:α→List Value} {n0:Nat} {h:TH} {v:Value} {e:TypeId} {l:List α} (o:OwnF enc n0 h v e l) (hl:l≠[]):∃ b fix,v=.slice (some ⟨b,0,none⟩) l.length l.length∧At h b (.cells (cat enc l) fix true e):=by
 rcases o with (⟨_,rfl⟩ | ⟨_,b,rfl,_,h3⟩) | ⟨b,rfl,_,h3⟩
 ·exact absurd rfl hl
 ·exact ⟨b,_,rfl,h3⟩
 ·exact ⟨b,_,rfl,h3⟩
section
variable {h:TH} {s c x y z:Nat}
end
end Go.Tidy
namespace Go.Tidy
open Go Go.Proofs Tab
variable {tp:TProg}
theorem Byt.drop {l:List Nat} (h:Byt l) (k:Nat):Byt (l.drop k):=fun b hb=>h b (List.mem_of_mem_drop hb)
theorem Byt.take {l:List Nat} (h:Byt l) (k:Nat):Byt (l.take k):=fun b hb=>h b (List.mem_of_mem_take hb)
section
variable {h:TH} {l:List Nat} {b:Nat} {fix wr:Bool} {el:TypeId}
end
section
variable {h:TH} {l:List Nat} {es:List Int}
end
end Go.Tidy
namespace Go.Tidy
open Go Go.Proofs Tab
variable {tp:TProg}
section
variable {P:Program} {h:TH} {α:Type} {enc:α→List Value} {n0 n:Nat} {v v2:Value} {e:TypeId} {l m:List α} {z:List Value} {row:Bool}
end
section
variable {P:Program} {h:TH} {K:Regs→TH→Prop} {rest:List TOper} {d:Option Tmp} {ty:TypeId} {i:Nat} {L:Rg} {f x0 x1 l0:Operand} {ls:List Operand} {fv v0 v1:Value} {ts:Array TypeId}
end
theorem OwnL.relock {α:Type} {enc:α→List Value} {n0:Nat} {h:TH} {v:Value} {e:TypeId} {l:List α} (o:OwnL enc n0 h v e l) (M:List Nat):OwnL enc n0 (h.withLock M) v e l:=o.imp id fun ⟨h0,b,h1,h2,h3⟩=>⟨h0,b,h1,h2,h3.relock M⟩
section
variable {h:TH} {s c x y z:Nat}
end
end Go.Tidy
namespace Go.Tidy
open Go Go.Proofs Tab
variable {tp:TProg}
abbrev Pkt:=Int × Int × Nat × Nat × Nat
section
variable {h:TH} {p:Pkt} {v:Value} {l:List Pkt} {E:List Int}
end
end Go.Tidy
namespace Go.Tidy
open Go Go.Proofs Tab
variable {tp:TProg}
section
variable {h:TH} {v:Value} {l:List Pkt} {src:Int}
def LostA (L:List Int) (n0:Nat) (h:TH) (w:Value) (e:Int):Prop:=(L.length≤256∧e=0∧OwnL encI n0 h w 3 L)∨(256 < L.length∧e=5∧w=.slice none 0 0)
end
end Go.Tidy
namespace Go.Tidy
open Go Go.Proofs Tab
theorem LostA.hx {L:List Int} {n0:Nat} {g g':TH} {w:Value} {e:Int} (a:LostA L n0 g w e) (x:HX g g'):LostA L n0 g' w e :=
 a.imp (fun ⟨h1,h2,h3⟩=>⟨h1,h2,h3.hx x⟩) id
end Go.Tidy
namespace Go.Tidy
open Go Go.Proofs Tab
variable {tp:TProg}
section
variable {P:Program} {h:TH} {α:Type} {enc:α→List Value} {n0 n:Nat} {v:Value} {e:TypeId} {l:List α} {z:List Value} {row:Bool}
end
section
variable {h hb:TH} {l:List Nat} {v:Value} {n k n0:Nat}
end
theorem OwnF.lt {α:Type} {enc:α→List Value} {n0:Nat} {h:TH} {v:Value} {e:TypeId} {l:List α} (o:OwnF enc n0 h v e l) {c:Nat} (hc:bl v=some c):n0≤c∧c < h.next:=by
 rcases o with o | ⟨b,rfl,h2,h3⟩
 ·exact o.lt hc
 ·cases hc;exact ⟨h2,h3.lt⟩
section
variable {s:ByteArray} {n:Int} {v1 v2:Value} {F:List Nat} {S:List (Int × Int)} {es L:List Int} {h:TH}
end
end Go.Tidy
namespace Go.Tidy
open Go Go.Proofs Tab
variable {tp:TProg}
section
variable {P:Program} {h:TH} {K:Regs→TH→Prop} {rest:List TOper} {d:Option Tmp} {ty:TypeId} {i:Nat} {x:Operand} {L:Rg} {q:Addr} {t e:TypeId} {n:Nat} {z:List Value} {row:Bool}
end
structure Stm (h:TH) (b o cap:Nat) (l:List Nat):Prop where
 ex:∃ cc fix wr el,At h b (.cells cc fix wr el)∧(cc.drop o).take l.length=cat encY l∧o+l.length≤cc.length∧(fix=true∨el=5)
 cap:l.length≤cap
section
variable {h h':TH} {b o cap:Nat} {l:List Nat}
theorem Stm.hx (s:Stm h b o cap l) (x:HX h h'):Stm h' b o cap l:=⟨by
 obtain ⟨cc,fix,wr,el,a,r⟩:=s.ex
 exact ⟨cc,fix,wr,el,a.hx x,r⟩,s.cap⟩
theorem Stm.oth (s:Stm h b o cap l) {c:Nat} (k:∀ z y,z≠c→At h z y→At h' z y) (hb:b≠c):Stm h' b o cap l:=⟨by
 obtain ⟨cc,fix,wr,el,a,r⟩:=s.ex
 exact ⟨cc,fix,wr,el,k _ _ hb a,r⟩,s.cap⟩
theorem Stm.part (s:Stm h b o cap l) {p k c:Nat} (hpk:p+k≤l.length) (hc:k≤c):SlL encY 1 h (.slice (some ⟨b,o+p,none⟩) k c) ((l.drop p).take k):=by
 obtain ⟨cc,fix,wr,el,a,e1,e2,_⟩:=s.ex
 have hl:((l.drop p).take k).length=k:=by rw [List.length_take,List.length_drop];omega
 refine ⟨_,c,by rw [hl],by rw [hl];exact hc,by rw [eY.cat_len],.inr ⟨b,o+p,cc,fix,wr,el,rfl,a,?_,?_⟩⟩
 ·rw [hl,Nat.mul_one]
  have q:=eY.part l p k
  rw [Nat.mul_one,Nat.mul_one] at q
  rw [← q,← e1,List.drop_take,List.take_take,List.drop_drop,Nat.min_eq_left (by omega)]
 ·rw [hl];omega
end
abbrev Cu:=Nat × Bool
section
variable {h:TH} {b o cap c4 n0:Nat} {l:List Nat} {c:Cu}
end
end Go.Tidy
namespace Go.Tidy
open Go Go.Proofs Tab
variable {tp:TProg}
def valC (C:List (Int × Bool)):List Int:=C.map fun c=>cond c.2 c.1 0
def bigC (C:List (Int × Bool)):Bool:=C.any fun c=>c.2 && largeB c.1
section
variable {h g:TH} {n:Int} {v:Value} {C:List (Int × Bool)} {j:Nat}
end
end Go.Tidy
namespace Go.Tidy
open Go Go.Proofs Tab
variable {tp:TProg}
theorem OwnL.low {α:Type} {enc:α→List Value} {n0 n1:Nat} {h:TH} {v:Value} {e:TypeId} {l:List α} (o:OwnL enc n1 h v e l) (h0:n0≤n1):OwnL enc n0 h v e l:=by
 rcases o with q | ⟨q1,b,q2,q3,q4⟩
 ·exact .inl q
 ·exact .inr ⟨q1,b,q2,by omega,q4⟩
section
variable {h:TH} {n n':Int} {v1 v2 w1 w2:Value} {L1 L2:List Int} {S1 S2:List (Int × Int)}
end
end Go.Tidy
namespace Go.Tidy
open Go Go.Proofs Tab
variable {tp:TProg}
section
variable {α:Type} {z:α} {C:List α} {m j:Nat}
end
def ProgR (n:Int) (e:Int) (C:List (Int × Bool)) (n0:Nat) (h':TH) (v:Value):Prop :=
 (e≠0∧v=.tuple #[trcV 0 (.slice none 0 0) (.slice none 0 0),zi e])∨(e=0∧bigC C=true∧v=.tuple #[trcV 0 (.slice none 0 0) (.slice none 0 0),zi 4])∨(e=0∧bigC C=false∧∃ bv w,v=.tuple #[trcV n (slA bv C.length) w,zi 0]∧n0≤bv∧TrcO n0 h' bv w (valC C) (holesOf (C.map fun c=>c.2)))
section
variable {h:TH} {n n':Int} {v1 v2 w1 w2:Value} {L1 L2:List Int} {S1 S2:List (Int × Int)}
end
end Go.Tidy
namespace Go.Tidy
open Go Go.Proofs Tab
variable {tp:TProg}
def RevR (n p e:Int) (L:List Int) (S:List (Int × Int)) (n0:Nat) (h':TH) (v:Value):Prop :=
 (e≠0∧v=.tuple #[trcV 0 (.slice none 0 0) (.slice none 0 0),zi e])∨(e=0∧(2*p+1 - (n+L.length) < 0∨2*p+1 - (n+L.length)+L.length > 100000000)∧v=.tuple #[trcV 0 (.slice none 0 0) (.slice none 0 0),zi 14])∨(e=0∧0≤2*p+1 - (n+L.length)∧2*p+1 - (n+L.length)+L.length≤100000000∧∃ bv w,v=.tuple #[trcV (2*p+1 - (n+L.length)) (slA bv L.length) w,zi 0]∧n0≤bv∧TrcO n0 h' bv w L.reverse (holesOf (knownL S L.length).reverse))
section
variable {h:TH} {n p:Int} {v1 v2:Value} {L:List Int} {S:List (Int × Int)}
end
end Go.Tidy
namespace Go.Tidy
open Go Go.Proofs Tab
variable {tp:TProg}
section
variable {h:TH} {l:List Nat} {bo:Option Addr} {n k:Nat}
end
section
variable {h:TH} {K:Regs→TH→Prop} {rest:List TOper} {d:Option Tmp} {ty:TypeId} {i:Nat} {x:Operand} {L:Rg} {v:Value} {m:List Nat}
end
section
variable {hb h g g2 g':TH} {n b o cap c4 c2 c3 nB:Nat} {cur cur':Cu} {s s':ByteArray} {fi fi':Int} {w1 w2 w':Value} {F F':List Nat} {S S':List (Int × Int)}
theorem Put.relock {M:List Nat} {x:TB} {c:Nat} {h1:TH} (p:Put (h.withLock M) h1 c x):Put h (h1.withLock h.lock) c x :=
 ⟨p.at_.relock _,fun z y hz a=>(p.oth z y hz (a.relock M)).relock _,p.next,p.floor,rfl,fun h0 y hb=>by rw [y.lock];exact (p.hx _ (y.locked M) hb).relock⟩
end
end Go.Tidy
namespace Go.Tidy
open Go Go.Proofs Tab
variable {tp:TProg}
section
variable (l:List Nat) (c:Cu)
end
section
variable {h g:TH} {l:List Nat} {b o cap:Nat}
theorem Stm.relock (s:Stm h b o cap l) (M:List Nat):Stm (h.withLock M) b o cap l:=⟨by
 obtain ⟨cc,fix,wr,el,a,r⟩:=s.ex
 exact ⟨cc,fix,wr,el,a.relock M,r⟩,s.cap⟩
end
section
variable {hb h:TH} {l:List Nat} {b o cap c4:Nat} {c:Cu}
end
end Go.Tidy
namespace Go.Tidy
open Go Go.Proofs Tab
variable {tp:TProg}
section
variable {P:Program} {h:TH} {K:Regs→TH→Prop} {rest:List TOper} {d:Option Tmp} {ty:TypeId} {i:Nat} {x y:Operand} {t u:TypeId} {L:Rg} {s s':ByteArray}
end
section
variable (l:List Nat)
end
theorem RunH.relock {h:TH} {v1 v2:Value} {F:List Nat} {S:List (Int × Int)} (r:RunH h v1 v2 F S) (M:List Nat):RunH (h.withLock M) v1 v2 F S:=⟨r.f.relock M,r.s.relock M,r.g.relock M⟩
section
variable {h:TH} {l:List Nat} {b o n cap:Nat} {es L:List Int}
end
end Go.Tidy
namespace Go.Tidy
open Go Go.Proofs Tab
variable {tp:TProg}
section
variable {P:Program} {h:TH} {K:Regs→TH→Prop} {rest:List TOper} {d:Option Tmp} {ty:TypeId} {i:Nat} {x y:Operand} {t u:TypeId} {L:Rg}
end
structure RrU (h g:TH) (c2 c7 nB:Nat) (s:ByteArray) (fi:Int) (w1 w2:Value) (F:List Nat) (S:List (Int × Int)):Prop where
 x:HX h g
 nx:nB≤g.next
 a2:At g c2 (.cells [.string ⟨#[]⟩,zi 0,.slice none 0 0,.slice none 0 0] true true 25)
 a7:At g c7 (.cells [.string s,zi fi,w1,w2] true true 25)
 o1:OwnL encF nB g w1 71 F
 o2:OwnL encS nB g w2 27 S
 ne:∀ x,bl w1=some x→bl w2≠some x
section
variable {h g g2 g':TH} {c2 c7 nB:Nat} {s:ByteArray} {fi:Int} {w1 w2 w':Value} {F F':List Nat} {S S':List (Int × Int)}
theorem RrU.hx (q:RrU h g c2 c7 nB s fi w1 w2 F S) (x:HX g g'):RrU h g' c2 c7 nB s fi w1 w2 F S:=⟨q.x.trans x,Nat.le_trans q.nx x.next,q.a2.hx x,q.a7.hx x,q.o1.hx x,q.o2.hx x,q.ne⟩
end
end Go.Tidy
namespace Go.Tidy
open Go Go.Proofs Tab
variable {tp:TProg}
theorem k11t (A:Awk tp) (h:TH):CallW Tryz.prog tp (.func (.func 9) #[] #[]) #[] h fun v h'=>v=.bool true∧h'=h:=by
 obtain ⟨e,e1,e2⟩:=A.e
 exact CallW.ext A.no e1 rfl e2 rfl ⟨rfl,rfl⟩
theorem IsInts.keep {g g':TH} {y:Value} {L:List Int} (i:IsInts g y L) (k:∀ b x,bl y=some b→At g b x→At g' b x):IsInts g' y L:=by
 rcases i with i | ⟨b,c,fix,wr,el,i1,i2,i3⟩
 ·exact .inl i
 ·subst i1
  have:=k b _ rfl ⟨i3,i2⟩
  exact .inr ⟨b,c,fix,wr,el,rfl,this.lt,this.get⟩
def CelA (ty:TypeId) (n:Int) (o:Int × List Int × List (Int × Int)) (g:TH) (c:Nat):Prop:=∃ z b1 m1 k1 b2 m2 k2,At g c (.cells [zi z,.slice b1 m1 k1,.slice b2 m2 k2] true true ty)∧IsInts g (.slice b1 m1 k1) o.2.1∧SlL encS 2 g (.slice b2 m2 k2) o.2.2∧((o.1≠0∧z=0∧o.2.1=[]∧o.2.2=[])∨(o.1=0∧z=n))
theorem CelA.hx {ty:TypeId} {n:Int} {o:Int × List Int × List (Int × Int)} {g g':TH} {c:Nat} (q:CelA ty n o g c) (x:HX g g'):CelA ty n o g' c:=by
 obtain ⟨z,b1,m1,k1,b2,m2,k2,A,i,s,e⟩:=q
 exact ⟨z,b1,m1,k1,b2,m2,k2,A.hx x,i.hx x,s.hx x,e⟩
section
variable {h h0:TH} {a b n1 n2 m1 m2 e1:Int} {v1 v2 w1 w2:Value} {L1:List Int} {S1:List (Int × Int)} {o1 o2:Int × List Int × List (Int × Int)} {c3 c4 c7 c9 c14 c15:Nat}
end
end Go.Tidy
namespace Go.Tidy
open Go Go.Proofs Tab
variable {tp:TProg}
theorem CelA.keep {ty:TypeId} {n:Int} {o:Int × List Int × List (Int × Int)} {g g':TH} {c:Nat} (q:CelA ty n o g c) (k:∀ b x,At g b x→At g' b x):CelA ty n o g' c:=by
 obtain ⟨z,b1,m1,k1,b2,m2,k2,A,i,s,e⟩:=q
 exact ⟨z,b1,m1,k1,b2,m2,k2,k _ _ A,i.keep fun b x _ a=>k _ _ a,slC_keep s fun b x _ a=>k _ _ a,e⟩
section
variable {h h0:TH} {a b n m1 m2 E1:Int} {v1 v2 w9 w16:Value} {L:List Int} {S:List (Int × Int)} {l3:List Int} {o1 o2:Int × List Int × List (Int × Int)} {c2 c3 c5 c7 c14 c15 p q:Nat}
end
end Go.Tidy
namespace Go.Tidy
open Go Go.Proofs Tab
variable {tp:TProg}
section
variable {h h0 hb:TH} {a b n:Int} {v1 v2 w9:Value} {L:List Int} {S:List (Int × Int)} {o1 o2:Int × List Int × List (Int × Int)} {c2 c3 c5 c7 c14 c15:Nat}
end
theorem args2 {P:Program} {h:TH} {m:Nat} {t0 t1:TypeId} {us:List Value} (ha:Args P h m [t0,t1] us):∃ x0 x1,us=[x0,x1]∧(∃ ps,Ty P h m t0 ps∧x0=valOf P t0 ps)∧∃ ps,Ty P h m t1 ps∧x1=valOf P t1 ps:=by
 match us,ha with
 | [x0,x1],⟨a0,a1,_⟩=>exact ⟨x0,x1,rfl,a0,a1⟩
end Go.Tidy
namespace Go.Tidy
open Go Go.Proofs Tab
variable {tp:TProg}
theorem out_mm {x l m:Int} (h:outB x l m=0):l≤x∧x≤m:=by
 unfold outB at h
 by_cases c1:x < l
 ·rw [decide_eq_true c1] at h;cases h
 ·by_cases c2:m < x
  ·rw [decide_eq_false c1,decide_eq_true c2] at h;cases h
  ·omega
section
variable {h:TH} {n a b s:Int} {v1 v2:Value} {L:List Int} {S:List (Int × Int)} {p q st:Nat}
end
end Go.Tidy
namespace Go.Tidy
open Go Go.Proofs Tab
variable {tp:TProg}
section
variable {P:Program} {h:TH} {K:Regs→TH→Prop} {rest:List TOper} {d:Option Tmp} {ty:TypeId} {i:Nat} {x y:Operand} {v vx vy:Value} {t u e:TypeId} {n:Nat} {z:List Value} {row:Bool} {L:Rg}
theorem WOL.eqr {p q:Int} (hu:Rat2 P t) (hx:getL L x=some (.agg #[.int .i64 p,.int .i64 q])) (hy:getL L y=some (.agg #[.int .i64 p,.int .i64 q])) (w:∀ a,Kn (putL L d (.bool true)) a→WO P tp rest a h K):∀ a,Kn L a→WO P tp (⟨d,.binOp .eql t x y u,ty,none,[],i⟩::rest) a h K :=
 fun _ k=>WO.eqr hu (k.o hx) (k.o hy) (k.nx w)
end
section
variable {h:TH} {s:ByteArray} {n a b:Int} {v v1 v2:Value} {F:List Nat} {S:List (Int × Int)} {es L:List Int}
end
end Go.Tidy
namespace Go.Tidy
open Go Go.Proofs Tab
variable {tp:TProg}
theorem tp1629:Tp Tryz.prog 31 3 [.int .i64 0,.int .i64 0,.int .i64 0] true:=tp_of (by kernel_rfl) (by kernel_rfl) rfl
theorem fo1629_0:fieldOff Tryz.prog 31 0=some 0:=by kernel_rfl
theorem fo1629_1:fieldOff Tryz.prog 31 1=some 1:=by kernel_rfl
theorem fo1629_2:fieldOff Tryz.prog 31 2=some 2:=by kernel_rfl
theorem bd1629 {a b c:Int}:buildT Tryz.prog 31 [(0,zi a),(1,zi b),(2,zi c)]=some (.agg #[zi a,zi b,zi c]):=by kernel_rfl
def momV (a b c:Int):Value:=.agg #[zi a,zi b,zi c]
section
variable {h:TH} {a b c d e g:Int}
set_option maxHeartbeats 2000000 in
set_option maxRecDepth 10000 in
theorem k1638 (H:Has tp) (f:Free0 h.next h) (h1:a.natAbs≤4000000000000) (h2:b.natAbs≤4000000000000) (h3:c.natAbs≤4000000000000) (h4:d.natAbs≤4000000000000) (h5:e.natAbs≤4000000000000) (h6:g.natAbs≤4000000000000) :
  CallW Tryz.prog tp (.func (.func 80) #[] #[]) #[momV a b c,momV d e g] h fun v h'=>v=momV (a+d) (b+e) (c+g)∧HX h h':=by
 refine CallW.fnL (H.fn 80 f1638 rfl rfl) ?_
 refine WL.sr<|WOL.box rfl fun g1 N1=>WOL.box rfl fun g2 N2=>WOL.al tp1629 fun g3 N3=>WOL.nil<|keep [(2,_),(3,_),(4,_)] ⟨rfl,rfl,rfl,trivial⟩ ?_
 have A2:At g3 h.next (.cells [zi a,zi b,zi c] true true 31):=(N1.at_.hx N2.hx).hx N3.hx
 have A3:At g3 g1.next (.cells [zi d,zi e,zi g] true true 31):=N2.at_.hx N3.hx
 have A4:=N3.at_
 have X3:=(N1.hx.trans N2.hx).trans N3.hx
 have n1:=N1.next
 have n2:=N2.next
 refine WL.sr<|WOL.fa rfl (fa_of fo1629_0)<|WOL.ld rfl (load_one tp3 A2 rfl)<|WOL.fa rfl (fa_of fo1629_0)<|WOL.ld rfl (load_one tp3 A3 rfl)<|WOL.add rfl rfl (by omega) (by omega) ?_
 refine WOL.fa rfl (fa_of fo1629_1)<|WOL.ld rfl (load_one tp3 A2 rfl)<|WOL.fa rfl (fa_of fo1629_1)<|WOL.ld rfl (load_one tp3 A3 rfl)<|WOL.add rfl rfl (by omega) (by omega) ?_
 refine WOL.fa rfl (fa_of fo1629_2)<|WOL.ld rfl (load_one tp3 A2 rfl)<|WOL.fa rfl (fa_of fo1629_2)<|WOL.ld rfl (load_one tp3 A3 rfl)<|WOL.add rfl rfl (by omega) (by omega) ?_
 refine WOL.bd rfl bd1629<|WOL.sto (vs:=[zi (a+d),zi (b+e),zi (c+g)]) rfl rfl tp1629 A4 rfl rfl (Nat.le_of_ble_eq_true rfl) rfl (f.hx X3) (show h.next≤g2.next by omega) fun g4 P4=>WOL.nil ?_
 exact WL.ret (WL.endC rfl (load_row tp1629 P4.at_ rfl (Nat.le_of_ble_eq_true rfl)) ⟨rfl,P4.hx _ X3 (by omega)⟩)
end
section
variable {h:TH} {L:List Int} {B:List Bool} {b1 b2:Option Addr} {m1 m2 x N:Nat}
end
end Go.Tidy
namespace Go.Tidy
open Go Go.Proofs Tab
variable {tp:TProg}
section
variable {P:Program} {h:TH} {K:Regs→TH→Prop} {rest:List TOper} {d:Option Tmp} {ty:TypeId} {i:Nat} {x y:Operand} {t u:TypeId} {L:Rg}
end
section
variable {p q:Nat} {E:List Int} {C:List (Int × Bool)} {j:Nat} {H:List (Int × Bool)}
def HFine (H:List (Int × Bool)):Prop:=∀ c,c ∈ H→(c.2=true→largeB c.1=false)∧(c.2=false→c.1=0)
theorem HFine.lim {H:List (Int × Bool)} (f:HFine H) (i:Nat):-1073741824≤(H.getD i (0,false)).1∧(H.getD i (0,false)).1≤1073741824:=by
  rw [List.getD_eq_getElem?_getD]
  cases hi:H[i]? with
  | none=>decide
  | some c =>
    obtain ⟨f1,f2⟩:=f c (List.mem_of_getElem? hi)
    show -1073741824≤c.1∧c.1≤1073741824
    cases hc:c.2 with
    | false=>rw [f2 hc];decide
    | true =>
      have:=f1 hc
      unfold largeB readE at this
      have h0:outB c.1 (-1073741824) 1073741824=0:=by
        by_cases q:outB c.1 (-1073741824) 1073741824=0
        · exact q
        · rw [bne_iff_ne.2 q] at this;cases this
      exact out_mm h0
theorem HFine.val {H:List (Int × Bool)} (f:HFine H):valC H=H.map fun c=>c.1:=by
 unfold valC
 refine List.map_congr_left fun c hc=>?_
 cases h:c.2 with
 | true=>rfl
 | false=>rw [(f c hc).2 h];rfl
end
section
variable {α:Type} {l:List α} {z x:α} {m:Nat}
end
section
variable {h:TH} {n:Int} {p q:Nat} {L E:List Int} {S:List (Int × Int)} {rv rk hv hk:Nat}
end
end Go.Tidy
namespace Go.Tidy
open Go Go.Proofs Tab
variable {tp:TProg}
theorem TrcO.relock {n0 bv:Nat} {g:TH} {w:Value} {L:List Int} {S:List (Int × Int)} (r:TrcO n0 g bv w L S) (M:List Nat):TrcO n0 (g.withLock M) bv w L S:=⟨r.v.relock _,r.s.keep fun z y hz a=>a.relock _⟩
section
variable {h:TH} {n n' a b:Int} {v1 v2 w1 w2:Value} {L L':List Int} {S S':List (Int × Int)}
end
end Go.Tidy
namespace Go.Tidy
open Go Go.Proofs Tab
variable {tp:TProg}
def AnsF (e:Int) (L:List Int) (n0:Nat) (h':TH) (v:Value):Prop:=∃ b m c F,v=.tuple #[.slice b m c,zi e]∧SlL encF 1 h' (.slice b m c) F∧Lev F L∧∀ z,bl (.slice b m c)=some z→n0≤z
theorem AnsF.low {e:Int} {L:List Int} {n0 n1:Nat} {g:TH} {v:Value} (a:AnsF e L n1 g v) (h:n0≤n1):AnsF e L n0 g v:=by
 obtain ⟨b,m,c,F,h1,h2,h3,h4⟩:=a
 exact ⟨b,m,c,F,h1,h2,h3,fun z hz=>Nat.le_trans h (h4 z hz)⟩
section
variable {h:TH} {v w fv:Value} {F:List Nat} {es L M:List Int}
end
end Go.Tidy
namespace Go.Tidy
open Go Go.Proofs Tab
variable {tp:TProg}
def RF (h:TH) (v:Value) (L:List Int):Prop:=∃ F,SlL encF 1 h v F∧Lev F L
theorem RF.hx {h h':TH} {v:Value} {L:List Int} (r:RF h v L) (x:HX h h'):RF h' v L:=by
 obtain ⟨F,h1,h2⟩:=r
 exact ⟨F,h1.hx x,h2⟩
theorem RF.nil {h:TH}:RF h (.slice none 0 0) []:=⟨[],SlL.nil,rfl,fun i b n h=>by cases h⟩
theorem AnsF.form {e:Int} {L:List Int} {n0:Nat} {h':TH} {v:Value} (a:AnsF e L n0 h' v):∃ u,v=.tuple #[u,zi e]∧RF h' u L:=by
 obtain ⟨b,m,c,F,h1,h2,h3,_⟩:=a
 exact ⟨_,h1,F,h2,h3⟩
section
variable {h:TH} {v w fv:Value} {F G:List Nat} {es es' L M A B:List Int} {φ:Int→Int→Int}
end
end Go.Tidy
namespace Go.Tidy
open Go Go.Proofs Tab
variable {tp:TProg}
theorem at_getD {w:List Int} {i:Nat} (hi:i < w.length):w[i]?=some (w.getD i 0):=by
 rw [List.getD_eq_getElem?_getD,List.getElem?_eq_getElem hi];rfl
section
variable {h:TH} {v w:Value} {L M:List Int}
end
end Go.Tidy
namespace Go.Tidy
open Go Go.Proofs Tab
variable {tp:TProg}
def z4:List (Int × Int):=[(0,0),(0,0),(0,0),(0,0)]
section
variable {h:TH} {n z:Int} {v1 v2:Value} {L:List Int} {S:List (Int × Int)}
end
end Go.Tidy
namespace Go.Tidy
open Go Go.Proofs Tab
variable {tp:TProg}
theorem ProgR.ok {n e:Int} {C:List (Int × Bool)} {n0:Nat} {g:TH} {v:Value} (r:ProgR n e C n0 g v) (he:e=0) (hb:bigC C=false):∃ bv b2 m2 k2,v=.tuple #[trcV n (slA bv C.length) (.slice b2 m2 k2),zi 0]∧n0≤bv∧TrcO n0 g bv (.slice b2 m2 k2) (valC C) (holesOf (C.map fun c=>c.2)):=by
 rcases r with ⟨h1,_⟩ | ⟨_,h1,_⟩ | ⟨_,_,bv,w,h2,h3,h4⟩
 ·exact absurd he h1
 ·rw [hb] at h1;cases h1
 ·obtain ⟨b2,m2,k2,rfl⟩:=h4.form
  exact ⟨bv,b2,m2,k2,h2,h3,h4⟩
section
variable {h h0:TH} {n:Int} {v1 v2:Value} {L:List Int} {S:List (Int × Int)} {c3 c4 p q z:Nat}
end
end Go.Tidy
namespace Go.Tidy
open Go Go.Proofs Tab
variable {tp:TProg}
theorem RevR.ok {n p e:Int} {L:List Int} {S:List (Int × Int)} {n0:Nat} {g:TH} {v:Value} (r:RevR n p e L S n0 g v) (he:e=0) (h0:0≤2*p+1 - (n+L.length)) (h1:2*p+1 - (n+L.length)+L.length≤100000000):∃ bv b2 m2 k2,v=.tuple #[trcV (2*p+1 - (n+L.length)) (slA bv L.length) (.slice b2 m2 k2),zi 0]∧n0≤bv∧TrcO n0 g bv (.slice b2 m2 k2) L.reverse (holesOf (knownL S L.length).reverse):=by
 rcases r with ⟨q,_⟩ | ⟨_,q,_⟩ | ⟨_,_,_,bv,w,q2,q3,q4⟩
 ·exact absurd he q
 ·omega
 ·obtain ⟨b2,m2,k2,rfl⟩:=q4.form
  exact ⟨bv,b2,m2,k2,q2,q3,q4⟩
section
variable {h h0:TH} {x y n:Int} {p q c3 c4 c5:Nat} {v1 v2 w1 w2:Value} {L1 L2:List Int} {S1 S2:List (Int × Int)}
end
end Go.Tidy
namespace Go.Tidy
open Go Go.Proofs Tab
variable {tp:TProg}
structure Sx (b:Nat) (n:Int):Prop where
 ok:∃ neg q,V32 b neg q∧(∀ D,2 ^ 149=D→q*16=n.natAbs*D)∧sg neg n.natAbs=n
theorem Samp.x {b:Nat} {n:Int} (s:Samp b n):Sx b n:=⟨s.ok⟩
theorem Sx.nan {b:Nat} {n:Int} (s:Sx b n):nanB .f32 b=false:=by
 obtain ⟨neg,q,h,_⟩:=s.ok
 exact h.nan
theorem Sx.order {b c:Nat} {n m:Int} (s:Sx b n) (t:Sx c m):Ieee.single.order b c=some (compare n m):=by
 obtain ⟨neg,q,h1,h2,h3⟩:=s.ok
 obtain ⟨neg',q',g1,g2,g3⟩:=t.ok
 obtain ⟨D,hD⟩:∃ D:Nat,2 ^ 149=D:=⟨_,rfl⟩
 have hDp:0 < D:=by rw [← hD];exact two_pow_pos 149
 have e1:=h2 D hD
 have e2:=g2 D hD
 have a1:sg neg q*(16:Nat)=n*(D:Nat):=by rw [← sg_mul,e1,sg_mul,h3]
 have a2:sg neg' q'*(16:Nat)=m*(D:Nat):=by rw [← sg_mul,e2,sg_mul,g3]
 rw [h1.order g1]
 generalize sg neg q=x at *
 generalize sg neg' q'=y at *
 have hDi:(0:Int) < (D:Int):=by omega
 have hlt:x < y ↔ n < m:=by
  constructor
  ·intro hq
   have:n*(D:Int) < m*(D:Int):=by rw [← a1,← a2];omega
   exact Int.lt_of_mul_lt_mul_right this (by omega)
  ·intro hq
   have:n*(D:Int) < m*(D:Int):=Int.mul_lt_mul_of_pos_right hq hDi
   rw [← a1,← a2] at this
   omega
 have heq:x=y ↔ n=m:=by
  constructor
  ·intro hq
   rw [hq,a2] at a1
   exact (Int.eq_of_mul_eq_mul_right (by omega) a1).symm
  ·intro hq
   rw [hq,← a2] at a1
   omega
 congr 1
 show compareOfLessAndEq _ _=compareOfLessAndEq _ _
 unfold compareOfLessAndEq
 simp only [hlt,heq]
theorem sg_not (s:Bool) (q:Nat):sg (!s) q=-sg s q:=by
 unfold sg
 cases s <;> simp
theorem sg_sign {z:Int} {P:Nat} {w:Int} {s t:Bool} (hP:0 < P) (h:w=z*(P:Int)∨z=w*(P:Int)):sg (if z=0 then s && t else decide (z < 0)) w.natAbs=w:=by
  by_cases hz:z=0
  · have hw:w=0:=by
      rcases h with h | h
      · rw [h,hz,Int.zero_mul]
      · rw [hz] at h
        rcases Int.mul_eq_zero.1 h.symm with h | h
        · exact h
        · omega
    rw [if_pos hz,hw]
    cases s && t <;> rfl
  · rw [if_neg hz]
    have hPi:(0:Int) < (P:Int):=by omega
    have key:z < 0 ↔ w < 0:=by
      rcases h with h | h
      · rw [h]
        constructor
        · intro hl
          have:=Int.mul_lt_mul_of_pos_right hl hPi
          omega
        · intro hl
          have:z*(P:Int) < 0*(P:Int):=by omega
          exact Int.lt_of_mul_lt_mul_right this (by omega)
      · rw [h]
        constructor
        · intro hl
          have:w*(P:Int) < 0*(P:Int):=by omega
          exact Int.lt_of_mul_lt_mul_right this (by omega)
        · intro hl
          have:=Int.mul_lt_mul_of_pos_right hl hPi
          omega
    unfold sg
    by_cases hl:w < 0
    · rw [decide_eq_true (key.2 hl),if_pos rfl];omega
    · rw [decide_eq_false (fun q=>hl (key.1 q)),if_neg (by decide)];omega
theorem arr1 {z w:Int} {P Q D:Nat} (hP:0 < P) (h:z*(P:Int)*16=w*(D:Int)) (hq:Q*P*16=D):z=w*(Q:Int):=by
 subst hq
 refine Int.eq_of_mul_eq_mul_right (a:=(P:Int)*16) (by omega) ?_
 rw [← Int.mul_assoc,h,Int.natCast_mul,Int.natCast_mul,Int.mul_assoc,Int.mul_assoc]
 rfl
theorem arr2 {z w:Int} {P Q D:Nat} (hD:0 < D) (h:z*(P:Int)*16=w*(D:Int)) (hq:D*Q=P*16):w=z*(Q:Int):=by
 refine Int.eq_of_mul_eq_mul_right (a:=(D:Int)) (by omega) ?_
 rw [← h,Int.mul_assoc,Int.mul_assoc]
 have e:(P:Int)*16=((P*16:Nat):Int):=by rw [Int.natCast_mul];rfl
 rw [e,← hq,Int.natCast_mul,Int.mul_comm (D:Int)]
theorem arr3 {Z P Q D:Nat} (hq:D*Q=P*16):Z*P*16=Z*Q*D:=by
 rw [Nat.mul_assoc,← hq,Nat.mul_assoc,Nat.mul_comm D]
theorem Sx.sub {b c:Nat} {n m:Int} (s:Sx b n) (t:Sx c m) (hn:n.natAbs≤100000) (hm:m.natAbs≤100000):∃ r,Ieee.single.sub b c=some r∧Sx r (n - m):=by
 obtain ⟨s1,q1,⟨m1,k1,r1,p1,l1⟩,h2,h3⟩:=s.ok
 obtain ⟨s2,q2,⟨m2,k2,r2,p2,l2⟩,g2,g3⟩:=t.ok
 obtain ⟨D,hD⟩:∃ D:Nat,2 ^ 149=D:=⟨_,rfl⟩
 have hDp:0 < D:=by rw [← hD];exact two_pow_pos 149
 have e1:=h2 D hD
 have e2:=g2 D hD
 have a1:sg s1 q1*(16:Nat)=n*(D:Nat):=by rw [← sg_mul,e1,sg_mul,h3]
 have a2:sg s2 q2*(16:Nat)=m*(D:Nat):=by rw [← sg_mul,e2,sg_mul,g3]
 obtain ⟨K,hK⟩:∃ K,min k1 k2=K:=⟨_,rfl⟩
 have hmin:min ((-149:Int)+(k1:Int)) (-149+(k2:Int))=-149+(K:Int):=by omega
 obtain ⟨z,hz⟩:∃ z:Int,sg s1 (m1*2 ^ (k1 - K))+sg (!s2) (m2*2 ^ (k2 - K))=z:=⟨_,rfl⟩
 have hsub:Ieee.single.sub b c=some (Ieee.single.nearest (if z=0 then s1 && !s2 else decide (z < 0)) z.natAbs (-149+(K:Int))):=by
  unfold Ieee.Format.sub
  rw [r1,r2]
  show (Ieee.Datum.sum (.number s1 m1 (-149+(k1:Int))) (.number (!s2) m2 (-149+(k2:Int)))).map _=_
  unfold Ieee.Datum.sum
  simp only [hmin,signed_sg]
  rw [show ((-149:Int)+(k1:Int) - (-149+(K:Int))).toNat=k1 - K by omega,show ((-149:Int)+(k2:Int) - (-149+(K:Int))).toNat=k2 - K by omega,hz]
  rfl
 have pk1:m1*2 ^ (k1 - K)*2 ^ K=q1:=by rw [Nat.mul_assoc,← Nat.pow_add,show k1 - K+K=k1 by omega,p1]
 have pk2:m2*2 ^ (k2 - K)*2 ^ K=q2:=by rw [Nat.mul_assoc,← Nat.pow_add,show k2 - K+K=k2 by omega,p2]
 have hzP:z*((2 ^ K:Nat):Int)*16=(n - m)*(D:Int):=by
  rw [← hz,Int.add_mul,← sg_mul,← sg_mul,pk1,pk2,sg_not,Int.sub_mul,← a1,← a2]
  omega
 by_cases hK2:K≤145
 ·have hpw:2 ^ (145 - K)*2 ^ K*16=D:=by
   rw [← Nat.pow_add,show 145 - K+K=145 by omega,← hD]
  have hzz:z=(n - m)*((2 ^ (145 - K):Nat):Int):=arr1 (two_pow_pos K) hzP hpw
  have hab:z.natAbs=(n - m).natAbs*2 ^ (145 - K):=by rw [hzz,Int.natAbs_mul,Int.natAbs_natCast]
  refine ⟨_,hsub,⟨⟨(if z=0 then s1 && !s2 else decide (z < 0)),(n - m).natAbs*2 ^ 145,?_,?_,sg_sign (s:=s1) (t:=!s2) (P:=2 ^ (145 - K)) (two_pow_pos _) (.inr hzz)⟩⟩⟩
  ·rw [hab,nearest_shift Ieee.single _ (n - m).natAbs (145 - K) _ (by show _ < 2 ^ 24;omega) (by rw [lp32];omega)]
   exact near32 (by omega) _ (by omega) (by decide)
  ·intro D' hD'
   rw [Nat.mul_assoc,← hD']
 ·have hpw:D*2 ^ (K - 145)=2 ^ K*16:=by
   rw [← hD]
   exact (Nat.pow_add 2 149 (K - 145)).symm.trans ((congrArg (fun x=>2 ^ x) (show 149+(K - 145)=K+4 by omega)).trans (Nat.pow_add 2 K 4))
  have hzz:n - m=z*((2 ^ (K - 145):Nat):Int):=arr2 hDp hzP hpw
  have hab:(n - m).natAbs=z.natAbs*2 ^ (K - 145):=by rw [hzz,Int.natAbs_mul,Int.natAbs_natCast]
  have hle:z.natAbs≤(n - m).natAbs:=by rw [hab];exact Nat.le_mul_of_pos_right _ (two_pow_pos _)
  refine ⟨_,hsub,⟨⟨(if z=0 then s1 && !s2 else decide (z < 0)),_,near32 (m:=z.natAbs) (k:=K) (by omega) _ rfl (by omega),?_,sg_sign (s:=s1) (t:=!s2) (P:=2 ^ (K - 145)) (two_pow_pos _) (.inl hzz)⟩⟩⟩
  intro D' hD'
  rw [hab,← hD',hD]
  exact arr3 hpw
end Go.Tidy
namespace Go.Tidy
open Go Go.Proofs Tab
variable {tp:TProg}
theorem read2':Ieee.single.read 1073741824=.number false 8388608 (-22):=by decide
theorem mul2' {b:Nat} {neg:Bool} {m k:Nat} (N:N32 b neg m k) (hk:k≤200):∃ c,Ieee.single.mul 1073741824 b=some c∧V32 c neg (m*2 ^ (k+1)):=by
 have e0:(-22:Int)+(-149+(k:Int))+(23:Nat)=-148+k:=by omega
 have hsh:=nearest_shift Ieee.single neg m 23 (-22+(-149+(k:Int))) N.hm (by rw [lp32,e0];omega)
 rw [e0] at hsh
 refine ⟨Ieee.single.nearest neg m (-148+k),?_,near32 N.hm _ (by omega) (by omega)⟩
 unfold Ieee.Format.mul
 rw [read2',N.read]
 show some (Ieee.single.nearest (false ^^ neg) (8388608*m) (-22+(-149+(k:Int))))=_
 rw [← hsh,Nat.mul_comm]
 congr 1
 cases neg <;> rfl
theorem Samp.two {b:Nat} {n:Int} (s:Samp b n):∃ r,Ieee.single.mul 1073741824 b=some r∧Sx r (2*n):=by
  obtain ⟨neg,q,hV,h2,h3⟩:=s.ok
  obtain ⟨D,hD⟩:∃ D:Nat,2 ^ 149=D:=⟨_,rfl⟩
  have hDp:0 < D:=by rw [← hD];exact two_pow_pos 149
  have e1:=h2 D hD
  have hlim:=s.lim
  rcases single_cases b with h | ⟨s',h⟩ | ⟨neg',m,k,N⟩
  · rw [s.nan] at h;cases h
  · obtain ⟨m',k',r,_⟩:=hV.ok
    rw [h] at r;cases r
  · obtain ⟨m',k',r1,r2,r3⟩:=hV.ok
    rw [N.read] at r1
    simp only [Ieee.Datum.number.injEq] at r1
    obtain ⟨e2,e3,r4⟩:=r1
    subst e2 e3
    obtain rfl:k=k':=by omega
    have hk:k≤200:=by
      by_cases hm0:m=0
      · rw [N.hz hm0];omega
      · by_cases hk:k≤200
        · exact hk
        · have h1:2 ^ k≤m*2 ^ k:=Nat.le_mul_of_pos_left _ (by omega)
          have h2:2 ^ 201≤2 ^ k:=Nat.pow_le_pow_right (by decide) (by omega)
          have h3:16384*D < 2 ^ 201:=by rw [← hD];decide
          have h4:n.natAbs*D≤16384*D:=Nat.mul_le_mul_right _ hlim
          omega
    obtain ⟨c,c1,c2⟩:=mul2' N hk
    refine ⟨c,c1,⟨neg',_,c2,?_,?_⟩⟩
    · intro D' hD'
      rw [Int.natAbs_mul,show (2:Int).natAbs=2 from rfl,Nat.mul_assoc 2,← h2 D' hD',← r2,Nat.pow_succ,Nat.mul_comm (2 ^ k) 2,Nat.mul_left_comm m 2,Nat.mul_assoc 2]
    · rw [Int.natAbs_mul,show (2:Int).natAbs=2 from rfl,Nat.mul_comm,sg_mul,h3]
      omega
section
variable {P:Program} {h:TH} {K:Regs→TH→Prop} {rest:List TOper} {d:Option Tmp} {ty:TypeId} {i:Nat} {x y:Operand} {t u:TypeId} {L:Rg}
end
section
variable {m:Int}
end
end Go.Tidy
namespace Go.Tidy
open Go Go.Proofs Tab
variable {tp:TProg}
theorem Sx.add {b c:Nat} {n m:Int} (s:Sx b n) (t:Sx c m) (hn:n.natAbs≤100000) (hm:m.natAbs≤100000):∃ r,Ieee.single.add b c=some r∧Sx r (n+m):=by
 obtain ⟨s1,q1,⟨m1,k1,r1,p1,l1⟩,h2,h3⟩:=s.ok
 obtain ⟨s2,q2,⟨m2,k2,r2,p2,l2⟩,g2,g3⟩:=t.ok
 obtain ⟨D,hD⟩:∃ D:Nat,2 ^ 149=D:=⟨_,rfl⟩
 have hDp:0 < D:=by rw [← hD];exact two_pow_pos 149
 have e1:=h2 D hD
 have e2:=g2 D hD
 have a1:sg s1 q1*(16:Nat)=n*(D:Nat):=by rw [← sg_mul,e1,sg_mul,h3]
 have a2:sg s2 q2*(16:Nat)=m*(D:Nat):=by rw [← sg_mul,e2,sg_mul,g3]
 obtain ⟨K,hK⟩:∃ K,min k1 k2=K:=⟨_,rfl⟩
 have hmin:min ((-149:Int)+(k1:Int)) (-149+(k2:Int))=-149+(K:Int):=by omega
 obtain ⟨z,hz⟩:∃ z:Int,sg s1 (m1*2 ^ (k1 - K))+sg s2 (m2*2 ^ (k2 - K))=z:=⟨_,rfl⟩
 have hadd:Ieee.single.add b c=some (Ieee.single.nearest (if z=0 then s1 && s2 else decide (z < 0)) z.natAbs (-149+(K:Int))):=by
  unfold Ieee.Format.add
  rw [r1,r2]
  show (Ieee.Datum.sum (.number s1 m1 (-149+(k1:Int))) (.number s2 m2 (-149+(k2:Int)))).map _=_
  unfold Ieee.Datum.sum
  simp only [hmin,signed_sg]
  rw [show ((-149:Int)+(k1:Int) - (-149+(K:Int))).toNat=k1 - K by omega,show ((-149:Int)+(k2:Int) - (-149+(K:Int))).toNat=k2 - K by omega,hz]
  rfl
 have pk1:m1*2 ^ (k1 - K)*2 ^ K=q1:=by rw [Nat.mul_assoc,← Nat.pow_add,show k1 - K+K=k1 by omega,p1]
 have pk2:m2*2 ^ (k2 - K)*2 ^ K=q2:=by rw [Nat.mul_assoc,← Nat.pow_add,show k2 - K+K=k2 by omega,p2]
 have hzP:z*((2 ^ K:Nat):Int)*16=(n+m)*(D:Int):=by
  rw [← hz,Int.add_mul,← sg_mul,← sg_mul,pk1,pk2,Int.add_mul,Int.add_mul n m,← a1,← a2] <;> omega
 by_cases hK2:K≤145
 ·have hpw:2 ^ (145 - K)*2 ^ K*16=D:=by
   rw [← Nat.pow_add,show 145 - K+K=145 by omega,← hD]
  have hzz:z=(n+m)*((2 ^ (145 - K):Nat):Int):=arr1 (two_pow_pos K) hzP hpw
  have hab:z.natAbs=(n+m).natAbs*2 ^ (145 - K):=by rw [hzz,Int.natAbs_mul,Int.natAbs_natCast]
  refine ⟨_,hadd,⟨⟨(if z=0 then s1 && s2 else decide (z < 0)),(n+m).natAbs*2 ^ 145,?_,?_,sg_sign (s:=s1) (t:=s2) (P:=2 ^ (145 - K)) (two_pow_pos _) (.inr hzz)⟩⟩⟩
  ·rw [hab,nearest_shift Ieee.single _ (n+m).natAbs (145 - K) _ (by show _ < 2 ^ 24;omega) (by rw [lp32];omega)]
   exact near32 (by omega) _ (by omega) (by decide)
  ·intro D' hD'
   rw [Nat.mul_assoc,← hD']
 ·have hpw:D*2 ^ (K - 145)=2 ^ K*16:=by
   rw [← hD]
   exact (Nat.pow_add 2 149 (K - 145)).symm.trans ((congrArg (fun x=>2 ^ x) (show 149+(K - 145)=K+4 by omega)).trans (Nat.pow_add 2 K 4))
  have hzz:n+m=z*((2 ^ (K - 145):Nat):Int):=arr2 hDp hzP hpw
  have hab:(n+m).natAbs=z.natAbs*2 ^ (K - 145):=by rw [hzz,Int.natAbs_mul,Int.natAbs_natCast]
  have hle:z.natAbs≤(n+m).natAbs:=by rw [hab];exact Nat.le_mul_of_pos_right _ (two_pow_pos _)
  refine ⟨_,hadd,⟨⟨(if z=0 then s1 && s2 else decide (z < 0)),_,near32 (m:=z.natAbs) (k:=K) (by omega) _ rfl (by omega),?_,sg_sign (s:=s1) (t:=s2) (P:=2 ^ (K - 145)) (two_pow_pos _) (.inl hzz)⟩⟩⟩
  intro D' hD'
  rw [hab,← hD',hD]
  exact arr3 hpw
section
variable {P:Program} {h:TH} {K:Regs→TH→Prop} {rest:List TOper} {d:Option Tmp} {ty:TypeId} {i:Nat} {x y:Operand} {t u:TypeId} {L:Rg}
end
section
variable {h:TH} {v w fv:Value} {F G:List Nat} {es es' ee L M D S:List Int} {x y m:Int} {fa fb fc:Nat}
end
end Go.Tidy
namespace Go.Tidy
section
variable {keep:Nat→Bool} {x:Nat→Int}
def celJ (keep:Nat→Bool) (x:Nat→Int) (p:Nat):Int × Bool:=if keep (p / 3) then (x p,true) else (0,false)
def rowJ (keep:Nat→Bool) (x:Nat→Int) (lo hi:Nat):List (Int × Bool):=(List.range' lo (hi - lo)).map (celJ keep x)
end
def keptJ (keep:Nat→Bool) (n:Nat):List Nat:=(List.range n).filter keep
end Go.Tidy
namespace Go.Tidy
open Go Go.Proofs Tab
variable {tp:TProg}
def lane (s:Nat→ByteArray) (n:Int) (h:TH) (v1 v2:Nat→Value) (C:Nat→List (Int × Bool)) (N:Nat):Prop:=∀ k,RunC (s k) n h (v1 k) (v2 k) (C k)∧(C k).length=N
theorem lane.hx {s:Nat→ByteArray} {n:Int} {h h':TH} {v1 v2:Nat→Value} {C:Nat→List (Int × Bool)} {N:Nat} (l:lane s n h v1 v2 C N) (x:HX h h'):lane s n h' v1 v2 C N:=fun k=>⟨(l k).1.hx x,(l k).2⟩
section
variable {s:Nat→ByteArray} {n:Int} {v1 v2:Nat→Value} {C:Nat→List (Int × Bool)} {N lb c2 c7:Nat} {m:Int} {hb g:TH} {Q:Exit→Regs→TH→Prop} {gx:Nat} {p126 p127 p128:Value}
end
end Go.Tidy
namespace Go.Tidy
open Go Go.Proofs Tab
variable {tp:TProg}
section
variable {src n:Nat} {kp:Nat→Bool} {x:Nat→Int}
end
abbrev rN:ByteArray:=⟨#[114]⟩
theorem Above.none {n0 m c:Nat}:Above n0 (.slice .none m c):=fun b off sp m c h=>by cases h
theorem Above.of {n0 b m c:Nat} (h:n0≤b):Above n0 (.slice (some ⟨b,0,.none⟩) m c):=fun b off sp m c e=>by cases e;exact h
def JRun (kp:Nat→Bool) (x:Nat→Int) (n j:Nat) (s:Int × Value × Value) (g:TH):Prop :=
 (j=0∧s=(0,.slice none 0 0,.slice none 0 0))∨∃ k c0 cl,j=k+1∧(keptJ kp n)[0]?=some c0∧(keptJ kp n)[k]?=some cl∧c0≤cl∧s.1=((3*c0:Nat):Int)∧RunC rN ((3*c0:Nat):Int) g s.2.1 s.2.2 (rowJ kp x (3*c0) (3*(cl+1)))
theorem JRun.hx {kp:Nat→Bool} {x:Nat→Int} {n j:Nat} {s:Int × Value × Value} {g g':TH} (q:JRun kp x n j s g) (X:HX g g'):JRun kp x n j s g':=by
 rcases q with q | ⟨k,c0,cl,q1,q2,q3,q4,q5,q6⟩
 ·exact .inl q
 ·exact .inr ⟨k,c0,cl,q1,q2,q3,q4,q5,q6.hx X⟩
section
variable {hB i7:TH} {n:Nat} {kp:Nat→Bool} {x:Nat→Int} {c7 c10 c0 cl c N:Nat} {p2 v1 v2 u1 u2 w17:Value} {j:Int}
end
end Go.Tidy
namespace Go.Tidy
open Go Go.Proofs Tab
variable {tp:TProg}
structure RowsI (h:TH) (b:Nat) (Xs:List Value) (Cs:List (List Int)):Prop where
 at_:At h b (.cells Xs true true 49)
 len:Xs.length=Cs.length
 sl:∀ (i:Nat) (x:Value) (C:List Int),Xs[i]?=some x→Cs[i]?=some C→SlL encI 1 h x C
theorem RowsI.hx {h h':TH} {b:Nat} {Xs:List Value} {Cs:List (List Int)} (r:RowsI h b Xs Cs) (x:HX h h'):RowsI h' b Xs Cs:=⟨r.at_.hx x,r.len,fun i y C h1 h2=>(r.sl i y C h1 h2).hx x⟩
end Go.Tidy
namespace Go.Tidy
open Go Go.Proofs Tab
variable {tp:TProg}
section
variable {P:Program} {h:TH} {K:Regs→TH→Prop} {rest:List TOper} {d:Option Tmp} {ty:TypeId} {i:Nat} {x y:Operand} {t u:TypeId} {L:Rg}
end
section
variable {h:TH} {v w v8 v9 v14 v16 v22:Value} {F G:List Nat} {es es' L M D:List Int} {x y z n d ez o:Int} {fz c3:Nat} {s:ByteArray}
def addLI (L:List Int) (o:Int):List Int:=L.map fun x=>x+o
theorem add_len:(addLI L o).length=L.length:=List.length_map ..
theorem add_get {i:Nat} (h:i < L.length):(addLI L o).getD i 0=L.getD i 0+o:=by
 unfold addLI
 rw [List.getD_eq_getElem?_getD,List.getElem?_map,at_getD h];rfl
end
end Go.Tidy
namespace Go.Tidy
open Go Go.Proofs Tab
variable {tp:TProg}
section
variable {h:TH} {v w v5 v6 v8 v9 v14 v18 v22:Value} {F G R Q T:List Nat} {es es' L M D:List Int} {x y z n d ez o p:Int} {fz fo c13 c8 c9:Nat} {s:ByteArray}
def MixS (j:Nat) (o:Int) (F:List Nat) (L:List Int) (R:List Nat):Prop:=R.length=F.length∧(∀ i,i < j→Samp (R.getD i 0) (L.getD i 0+o))∧∀ i,j≤i→R[i]?=F[i]?
theorem MixS.set {j r:Nat} (m:MixS j o F L R) (hj:j < F.length) (sr:Samp r (L.getD j 0+o)):MixS (j+1) o F L (R.set j r):=by
 obtain ⟨h1,h2,h3⟩:=m
 refine ⟨by rw [List.length_set];exact h1,fun i hi=>?_,fun i hi=>?_⟩
 ·by_cases e:i=j
  ·subst e
   rw [List.getD_eq_getElem?_getD,List.getElem?_set_self (by omega)]
   exact sr
  ·rw [List.getD_eq_getElem?_getD,List.getElem?_set_ne (Ne.symm e),← List.getD_eq_getElem?_getD]
   exact h2 i (by omega)
 ·rw [List.getElem?_set_ne (by omega)]
  exact h3 i (by omega)
theorem MixS.lev (m:MixS F.length o F L R) (ll:F.length=L.length):Lev R (addLI L o):=by
 obtain ⟨h1,h2,h3⟩:=m
 refine ⟨by rw [add_len];omega,fun i bb nn e1 e2=>?_⟩
 have hi:i < R.length:=(List.getElem?_eq_some_iff.1 e1).1
 have q1:=h2 i (by omega)
 rw [List.getD_eq_getElem?_getD (l:=R),e1] at q1
 have q2:=add_get (L:=L) (o:=o) (i:=i) (by omega)
 rw [List.getD_eq_getElem?_getD,e2] at q2
 replace q2:nn=_:=q2
 rw [q2];exact q1
end
end Go.Tidy
namespace Go.Tidy
open Go Go.Proofs Tab
variable {tp:TProg}
def rtN (m:Int) (n:Nat):Int:=fwrap .i64 (m.tdiv (Nat.gcd m.natAbs n:Nat))
def rtD (m:Int) (n:Nat):Int:=fwrap .i64 ((n:Int).tdiv (Nat.gcd m.natAbs n:Nat))
section
variable {h:TH} {a b:Int} {n:Nat}
end
end Go.Tidy
namespace Go.Tidy
open Go Go.Proofs Tab
variable {tp:TProg}
section
variable {P:Program}
theorem pv_eqJ {t:TypeId} {d:Nat} {k:IntKind} {a b:Int} (hu:P.underlying t=some (.int k)):pv P (Op.equalIn (d+1) t (.int k a) (.int k b))=some (a == b):=by
 rw [Op.equalIn,pv_bind,pv_underlying hu]
 simp [pv_pure]
variable {h:TH} {K:Regs→TH→Prop} {rest:List TOper} {d:Option Tmp} {ty:TypeId} {i:Nat} {x y:Operand} {t u:TypeId} {L:Rg}
end
section
variable {h:TH} {p q r s k:Nat} {a b c d:Int}
end
end Go.Tidy
namespace Go.Tidy
open Go Go.Proofs Tab
variable {tp:TProg}
section
variable {P:Program}
end
theorem rat24':Rat2 Tryz.prog 44:=⟨⟨_,_,Tryz.underlying44,rfl,rfl,by decide,by decide,Tryz.underlying3,Tryz.underlying3⟩,by kernel_rfl,by kernel_rfl⟩
section
variable {hp:TH} {K:Regs→TH→Prop} {rest:List TOper} {dd:Option Tmp} {ty:TypeId} {i:Nat} {x y:Operand} {u:TypeId} {L:Rg}
end
end Go.Tidy
namespace Go.Tidy
open Go Go.Proofs Tab
variable {tp:TProg}
theorem tp1628:Tp Tryz.prog 38 3 [.int .i64 0,.int .i64 0,.int .i64 0] true:=tp_of (by kernel_rfl) (by kernel_rfl) rfl
theorem fo1628_0:fieldOff Tryz.prog 38 0=some 0:=by kernel_rfl
theorem fo1628_1:fieldOff Tryz.prog 38 1=some 1:=by kernel_rfl
theorem fo1628_2:fieldOff Tryz.prog 38 2=some 2:=by kernel_rfl
theorem bd1628 {a b c:Int}:buildT Tryz.prog 38 [(0,zi a),(1,zi b),(2,zi c)]=some (.agg #[zi a,zi b,zi c]):=by kernel_rfl
theorem bd1629z:buildT Tryz.prog 31 []=some (.agg #[zi 0,zi 0,zi 0]):=by kernel_rfl
theorem pt1628_0 {a b c:Int}:pv Tryz.prog (Go.part 3 #[zi a,zi b,zi c] 0)=some (zi a):=by kernel_rfl
theorem pt1628_1 {a b c:Int}:pv Tryz.prog (Go.part 3 #[zi a,zi b,zi c] 1)=some (zi b):=by kernel_rfl
theorem pt1628_2 {a b c:Int}:pv Tryz.prog (Go.part 3 #[zi a,zi b,zi c] 2)=some (zi c):=by kernel_rfl
theorem so1628:Tryz.prog.stoodInHeld 38=false:=by kernel_rfl
theorem eg1628:Tryz.prog.eqGuardType Tryz.prog.depth 38=false:=by kernel_rfl
theorem pv_eq1628 {a b c d e f:Int}:pv Tryz.prog (Op.equal 38 (.agg #[zi a,zi b,zi c]) (.agg #[zi d,zi e,zi f]))=some (cond (a == d) (cond (b == e) (c == f) false) false):=by
 show pv Tryz.prog (Op.equalIn (9998+1+1) 38 _ _)=_
 have q1:=pv_eqJ (P:=Tryz.prog) (d:=9998) (a:=a) (b:=d) Tryz.underlying3
 have q2:=pv_eqJ (P:=Tryz.prog) (d:=9998) (a:=b) (b:=e) Tryz.underlying3
 have q3:=pv_eqJ (P:=Tryz.prog) (d:=9998) (a:=c) (b:=f) Tryz.underlying3
 rw [Op.equalIn,pv_bind,pv_underlying Tryz.underlying38]
 simp only [Option.bind_some]
 rw [pv_bind,pv_program]
 simp only [Option.bind_some,so1628]
 cases ha:(a == d) <;> cases hb:(b == e) <;> cases hc:(c == f) <;> simp [pv_bind,pv_pure,q1,q2,q3,pt1628_0,pt1628_1,pt1628_2,ha,hb,hc]
section
variable {hp:TH} {K:Regs→TH→Prop} {rest:List TOper} {dd:Option Tmp} {ty:TypeId} {i:Nat} {x y:Operand} {u:TypeId} {L:Rg}
theorem WOL.eq1628 {a b c d e f:Int} (hx:getL L x=some (.agg #[zi a,zi b,zi c])) (hy:getL L y=some (.agg #[zi d,zi e,zi f])) (w:∀ r,Kn (putL L dd (.bool (cond (a == d) (cond (b == e) (c == f) false) false))) r→WO Tryz.prog tp rest r hp K):∀ r,Kn L r→WO Tryz.prog tp (⟨dd,.binOp .eql 38 x y u,ty,none,[],i⟩::rest) r hp K:=by
  intro r k
  have ex:=getO_eval (k.o hx)
  have ey:=getO_eval (k.o hy)
  refine WO.plainly rfl rfl rfl (by simp [fastOp,fastBin,ex,ey]) (by simp [valueOp,ex,ey,eqT_aggs]) (plainOp_of (by rfl) (fun q hq=>?_) ?_ rfl) (w _ (k.put dd _))
  · simp only [Op.operands] at hq
    simp at hq
    rcases hq with rfl | rfl
    · rw [ex];rfl
    · rw [ey];rfl
  · show pv Tryz.prog (execOp r.eval ⟨dd, .binOp .eql 38 x y u, ty, "", #[], none⟩) = _
    simp [execOp,pv_bind,pv_map,pv_pure,pv_program,ex,ey,eqGuard,binOp,eg1628,pv_eq1628]
end
section
variable {h:TH} {s:ByteArray} {n p q:Int} {v v1 v2:Value} {F:List Nat} {S:List (Int × Int)} {es L:List Int} {x N:Nat}
end
end Go.Tidy
namespace Go.Tidy
open Go Go.Proofs Tab
variable {tp:TProg}
theorem k78v (H:Has tp) {m:Int} {n:Nat} {h:TH} (hm1:-4000000000000000000≤m) (hm2:m≤4000000000000000000) (hn1:1≤n) (hn2:n≤4000000000000000000) :
  CallW Tryz.prog tp (.func (.func 151) #[] #[]) #[.int .i64 m,.int .i64 n] h fun v h'=>v=.int .i64 (Nat.gcd m.natAbs n:Nat)∧h'=h:=by
 refine CallW.full (H.fn 151 f78 rfl rfl) rfl ?_
 refine W.seq (W.reg (WO.as rfl (WO.nil ?_)))
 refine W.seq (W.reg (WO.mv rfl (WO.mv rfl (WO.neg rfl (WO.max rfl rfl (WO.as rfl (WO.nil ?_)))))))
 refine W.seq (W.block (W.loop (fun k a h1=>h1=h∧∃ x y:Nat,k=x∧x≤4000000000000000000∧y≤4000000000000000000∧Nat.gcd x y=Nat.gcd m.natAbs n∧Full 16 a∧Tr.get a 0=some (.int .i64 (x:Nat))∧Tr.get a 1=some (.int .i64 (y:Nat)))
  ?_ m.natAbs _ h ⟨rfl,m.natAbs,n,rfl,by omega,by omega,rfl,(by repeat (first | with_reducible refine Full.put ?_ (by decide) _ | with_reducible refine Full.putn ?_ _ | with_reducible exact Full.of _ _ rfl | with_reducible exact Full.start _ _ (Nat.le_of_ble_eq_true rfl) | exact Full.start _ _ (Nat.le_of_ble_eq_true rfl))),?_,rfl⟩))
 rotate_left
 ·show some (Value.int .i64 (max m (IntKind.i64.wrap (-m))))=_
  rw [IntWalk.i64_in _ (by omega)]
  congr 2
  omega
 rintro k a h1 ⟨rfl,x,y,rfl,hx,hy,hg,hf,h0,h1⟩
 (obtain ⟨rl0,hrl0,rfl⟩:=hf;obtain ⟨s0,s1,s2,s3,s4,s5,s6,s7,rl1,rfl,hrl1⟩:=cons8 hrl0;obtain ⟨s8,s9,s10,s11,s12,s13,s14,s15,rl2,rfl,hrl2⟩:=cons8 hrl1;obtain rfl:=nil_of hrl2;clear hrl0 hrl1 hrl2;obtain rfl:s0=_:=Option.some.inj (show some s0=some _ from h0);clear h0;obtain rfl:s1=_:=Option.some.inj (show some s1=some _ from h1);clear h1)
 refine W.seq (W.seq (W.reg (WO.mv rfl (WO.bi rfl rfl rfl (WO.nil ?_)))))
 refine W.cd rfl ?_
 by_cases hz:k=0
 ·subst hz
  refine OnB.no (W.exit ?_)
  repeat' (first
  | refine WO.mv rfl ?_ | refine WO.as rfl ?_ | refine WO.bi rfl rfl rfl ?_
  | refine WO.nil ?_
  | refine W.seq ?_ | refine W.reg ?_ | refine W.ret ?_ | refine W.skip ?_ | refine W.exit ?_ | refine W.block ?_
  | refine WO.nt rfl ?_
  | with_reducible refine OnB.yes ?_ | with_reducible refine OnB.no ?_ | with_reducible refine OnB.way (fun hb=>?_) (fun hb=>?_)
  | refine WO.gu rfl rfl ?_ | refine WO.gt rfl rfl ?_ | refine WO.gf rfl rfl ?_
  | refine WO.pk rfl rfl rfl ?_
  | refine W.cd rfl ?_)
  refine ⟨.inr rfl,_,rfl,?_,rfl⟩
  show Value.int _ _=Value.int _ _
  rw [← hg,Nat.gcd_zero_left]
 ·have hd:((k:Int) != 0)=true:=by simpa using hz
  rw [hd]
  refine OnB.yes (W.skip ?_)
  refine W.block (W.reg (WO.mv rfl (WO.mv rfl (WO.rem rfl rfl (by omega) (WO.mv rfl (WO.as rfl (WO.as rfl (WO.nil ?_))))))))
  have hlt:y % k < k:=Nat.mod_lt _ (by omega)
  refine ⟨y % k,hlt,rfl,y % k,k,rfl,by omega,by omega,?_,(by repeat (first | with_reducible refine Full.put ?_ (by decide) _ | with_reducible refine Full.putn ?_ _ | with_reducible exact Full.of _ _ rfl | with_reducible exact Full.start _ _ (Nat.le_of_ble_eq_true rfl) | exact Full.start _ _ (Nat.le_of_ble_eq_true rfl))),?_,rfl⟩
  ·rw [← hg,← Nat.gcd_rec]
  ·show some (Value.int .i64 (Int.tmod (y:Int) (k:Int)))=_
   rw [Int.tmod_eq_emod_of_nonneg (by omega)]
   rfl
theorem k79v (H:Has tp) {m:Int} {n:Nat} {h:TH} (hm1:-4000000000000000000≤m) (hm2:m≤4000000000000000000) (hn1:1≤n) (hn2:n≤4000000000000000000) :
  CallW Tryz.prog tp (.func (.func 152) #[] #[]) #[.int .i64 m,.int .i64 n] h fun v h'=>v=.int .i64 (Nat.gcd m.natAbs n:Nat)∧h'=h:=by
 refine CallW.full (H.fn 152 f79 rfl rfl) rfl ?_
 refine W.seq (W.reg (WO.as rfl (WO.nil ?_)))
 refine W.seq (W.reg (WO.mv rfl (WO.mv rfl (WO.bi rfl rfl rfl (WO.max rfl rfl (WO.mv rfl (WO.mv rfl (WO.bi rfl rfl rfl (WO.max rfl rfl (WO.as rfl (WO.as rfl (WO.nil ?_))))))))))))
 refine W.seq (W.block (W.loop (fun k a h1=>h1=h∧∃ x y:Nat,k=y∧x≤4000000000000000000∧y≤4000000000000000000∧Nat.gcd x y=Nat.gcd m.natAbs n∧Full 20 a∧Tr.get a 0=some (.int .i64 (x:Nat))∧Tr.get a 1=some (.int .i64 (y:Nat)))
  ?_ n _ h ⟨rfl,m.natAbs,n,rfl,by omega,by omega,rfl,(by repeat (first | with_reducible refine Full.put ?_ (by decide) _ | with_reducible refine Full.putn ?_ _ | with_reducible exact Full.of _ _ rfl | with_reducible exact Full.start _ _ (Nat.le_of_ble_eq_true rfl) | exact Full.start _ _ (Nat.le_of_ble_eq_true rfl))),?_,?_⟩))
 rotate_left
 ·show some (Value.int .i64 (max m (fwrap .i64 (0 - m))))=_
  rw [fwrap_i64 (by omega) (by omega)]
  congr 2
  omega
 ·show some (Value.int .i64 (max (n:Int) (fwrap .i64 (0 - (n:Int)))))=_
  rw [fwrap_i64 (by omega) (by omega)]
  congr 2
  omega
 rintro k a h1 ⟨rfl,x,y,rfl,hx,hy,hg,hf,h0,h1⟩
 (obtain ⟨rl0,hrl0,rfl⟩:=hf;obtain ⟨s0,s1,s2,s3,s4,s5,s6,s7,rl1,rfl,hrl1⟩:=cons8 hrl0;obtain ⟨s8,s9,s10,s11,s12,s13,s14,s15,rl2,rfl,hrl2⟩:=cons8 hrl1;obtain ⟨s16,rl3,rfl,hrl3⟩:=cons_of hrl2;obtain ⟨s17,rl4,rfl,hrl4⟩:=cons_of hrl3;obtain ⟨s18,rl5,rfl,hrl5⟩:=cons_of hrl4;obtain ⟨s19,rl6,rfl,hrl6⟩:=cons_of hrl5;obtain rfl:=nil_of hrl6;clear hrl0 hrl1 hrl2 hrl3 hrl4 hrl5 hrl6;obtain rfl:s0=_:=Option.some.inj (show some s0=some _ from h0);clear h0;obtain rfl:s1=_:=Option.some.inj (show some s1=some _ from h1);clear h1)
 refine W.seq (W.seq (W.reg (WO.mv rfl (WO.bi rfl rfl rfl (WO.nil ?_)))))
 refine W.cd rfl ?_
 by_cases hz:k=0
 ·subst hz
  refine OnB.no (W.exit ?_)
  repeat' (first
  | refine WO.mv rfl ?_ | refine WO.as rfl ?_ | refine WO.bi rfl rfl rfl ?_
  | refine WO.nil ?_
  | refine W.seq ?_ | refine W.reg ?_ | refine W.ret ?_ | refine W.skip ?_ | refine W.exit ?_ | refine W.block ?_
  | refine WO.nt rfl ?_
  | with_reducible refine OnB.yes ?_ | with_reducible refine OnB.no ?_ | with_reducible refine OnB.way (fun hb=>?_) (fun hb=>?_)
  | refine WO.gu rfl rfl ?_ | refine WO.gt rfl rfl ?_ | refine WO.gf rfl rfl ?_
  | refine WO.pk rfl rfl rfl ?_
  | refine W.cd rfl ?_)
  refine ⟨.inr rfl,_,rfl,?_,rfl⟩
  show Value.int _ _=Value.int _ _
  rw [← hg,Nat.gcd_zero_right]
 ·have hd:decide ((k:Int) > 0)=true:=by simp;omega
  rw [hd]
  refine OnB.yes (W.skip ?_)
  refine W.block (W.reg (WO.mv rfl (WO.mv rfl (WO.mv rfl (WO.rem rfl rfl (by omega) (WO.as rfl (WO.as rfl (WO.nil ?_))))))))
  have hlt:x % k < k:=Nat.mod_lt _ (by omega)
  refine ⟨x % k,hlt,rfl,k,x % k,rfl,by omega,by omega,?_,(by repeat (first | with_reducible refine Full.put ?_ (by decide) _ | with_reducible refine Full.putn ?_ _ | with_reducible exact Full.of _ _ rfl | with_reducible exact Full.start _ _ (Nat.le_of_ble_eq_true rfl) | exact Full.start _ _ (Nat.le_of_ble_eq_true rfl))),rfl,?_⟩
  ·rw [← hg,Nat.gcd_comm k,← Nat.gcd_rec,Nat.gcd_comm]
  ·show some (Value.int .i64 (Int.tmod (x:Int) (k:Int)))=_
   rw [Int.tmod_eq_emod_of_nonneg (by omega)]
   rfl
theorem k91v (H:Has tp) {m:Int} {n:Nat} {h:TH} (hm1:-4000000000000000000≤m) (hm2:m≤4000000000000000000) (hn1:1≤n) (hn2:n≤4000000000000000000) (f:Free0 h.next h) :
  CallW Tryz.prog tp (.func (.func 81) #[] #[]) #[.int .i64 m,.int .i64 n] h fun v h'=>v=.agg #[.int .i64 (fwrap .i64 (m.tdiv (Nat.gcd m.natAbs n:Nat))),.int .i64 (fwrap .i64 ((n:Int).tdiv (Nat.gcd m.natAbs n:Nat)))]∧HX h h':=by
 have hg:0 < Nat.gcd m.natAbs n:=Nat.gcd_pos_of_pos_right _ (by omega)
 refine CallW.fnL (H.fn 81 f91 rfl rfl) ?_
 refine WL.sr<|WOL.al tp24 fun h1 N1=>?_
 refine WOL.nil<|keep [(0,_),(1,_),(4,_)] ⟨rfl,rfl,rfl,trivial⟩ ?_
 refine WL.sr<|WOL.mv rfl<|WOL.mv rfl ?_
 refine WOL.cl2 rfl rfl rfl ((k78v H hm1 hm2 hn1 hn2).mono ?_)
 rintro v h2 ⟨rfl,rfl⟩
 refine WOL.as rfl<|WOL.nil<|keep [(0,_),(1,_),(4,_),(5,_)] ⟨rfl,rfl,rfl,rfl,trivial⟩ ?_
 refine WL.sr<|WOL.mv rfl<|WOL.mv rfl ?_
 refine fun a q=>WO.quoI (q.o rfl) (q.o rfl) (by omega) (q.nx ?_)
 refine WOL.mv rfl<|WOL.mv rfl ?_
 refine fun a q=>WO.quoI (q.o rfl) (q.o rfl) (by omega) (q.nx ?_)
 refine WOL.bd rfl bd24 ?_
 refine WOL.sto rfl rfl tp24 N1.at_ rfl rfl (Nat.le_of_ble_eq_true rfl) rfl (f.hx N1.hx) (Nat.le_refl _) fun h3 P3=>?_
 refine WOL.nil<|keep [(4,_)] ⟨rfl,trivial⟩ ?_
 exact WL.ret (WL.endC (t:=4) rfl (load_row tp24 P3.at_ rfl (Nat.le_of_ble_eq_true rfl)) ⟨rfl,P3.hx _ N1.hx (Nat.le_refl _)⟩)
section
variable {h:TH} {v:Value} {m:Int} {n:Nat}
theorem k98v (H:Has tp) (hm1:-4000000000000000000≤m) (hm2:m≤4000000000000000000) (hn1:1≤n) (hn2:n≤4000000000000000000) (f:Free0 h.next h) :
  CallW Tryz.prog tp (.func (.func 83) #[] #[]) #[.int .i64 m,.int .i64 n] h fun v h'=>v=.agg #[zi (rtN m n),zi (rtD m n)]∧HX h h':=by
 have hg:0 < Nat.gcd m.natAbs n:=Nat.gcd_pos_of_pos_right _ (by omega)
 refine CallW.fnL (H.fn 83 f98 rfl rfl) ?_
 refine WL.sr<|WOL.al tp24 fun h1 N1=>?_
 refine WOL.nil<|keep [(0,_),(1,_),(4,_)] ⟨rfl,rfl,rfl,trivial⟩ ?_
 refine WL.sr<|WOL.mv rfl<|WOL.mv rfl ?_
 refine WOL.cl2 rfl rfl rfl ((k79v H hm1 hm2 hn1 hn2).mono ?_)
 rintro v h2 ⟨rfl,rfl⟩
 refine WOL.as rfl<|WOL.nil<|keep [(0,_),(1,_),(4,_),(5,_)] ⟨rfl,rfl,rfl,rfl,trivial⟩ ?_
 refine WL.seq<|WL.sr<|WOL.mv rfl<|WOL.bf rfl rfl rfl (decide_eq_false (show ¬ ((n:Nat):Int) < 0 by omega))<|WOL.nil<|WL.no rfl<|WL.skip<|keep [(0,_),(1,_),(4,_),(5,_)] ⟨rfl,rfl,rfl,rfl,trivial⟩ ?_
 refine WL.sr<|WOL.mv rfl<|WOL.mv rfl ?_
 refine fun a q=>WO.quoI (q.o rfl) (q.o rfl) (by omega) (q.nx ?_)
 refine WOL.mv rfl<|WOL.mv rfl ?_
 refine fun a q=>WO.quoI (q.o rfl) (q.o rfl) (by omega) (q.nx ?_)
 refine WOL.bd rfl bd24 ?_
 refine WOL.sto rfl rfl tp24 N1.at_ rfl rfl (Nat.le_of_ble_eq_true rfl) rfl (f.hx N1.hx) (Nat.le_refl _) fun h3 P3=>?_
 refine WOL.nil<|keep [(4,_)] ⟨rfl,trivial⟩ ?_
 exact WL.ret (WL.endC (t:=4) rfl (load_row tp24 P3.at_ rfl (Nat.le_of_ble_eq_true rfl)) ⟨rfl,P3.hx _ N1.hx (Nat.le_refl _)⟩)
end
end Go.Tidy
namespace Go.Tidy
open Go Go.Proofs Tab
variable {tp:TProg}
def momE (c s q:Int):Int:=cond (outB c 0 4096 != 0) (outB c 0 4096) (firstNZ [outB s (-(c*16384)) (c*16384),outB q 0 (c*268435456),cond (decide (s*s > c*q)) 24 0])
theorem outQ_in {x a b:Int} (h1:a≤x) (h2:x≤b):outB x a b=0:=by
 unfold outB
 rw [decide_eq_false (by omega),decide_eq_false (by omega)];rfl
theorem outQ_out {x a b:Int} (h:¬ (a≤x∧x≤b)):outB x a b=3:=by
 unfold outB
 by_cases h1:x < a
 ·rw [decide_eq_true h1];rfl
 ·rw [decide_eq_false h1,decide_eq_true (show x > b by omega)];rfl
theorem sq_limQ {s:Int} {k:Nat} (h:s.natAbs≤k):0≤s*s∧s*s≤((k*k:Nat):Int):=by
 have e:s*s=((s.natAbs*s.natAbs:Nat):Int):=by rw [Int.natAbs_mul_self' s |>.symm];rfl
 rw [e]
 have:=Nat.mul_le_mul h h
 omega
theorem pr_lim {c q k:Int} (h0:0≤c) (h1:c≤4096) (q0:0≤q) (q1:q≤k):0≤c*q∧c*q≤4096*k:=by
 refine ⟨Int.mul_nonneg h0 q0,?_⟩
 have:=Int.mul_le_mul h1 q1 q0 (by decide)
 exact this
theorem mom_firstP {c s q w1 w2 w3:Int} {b:Bool} (h1:0≤c→c≤4096→w1=-(c*16384)∧w2=c*16384∧w3=c*268435456) (h2:0≤c→c≤4096→-(c*16384)≤s→s≤c*16384→0≤q→q≤c*268435456→b=decide (s*s > c*q)) :
  firstNZ [outB c 0 4096,outB s w1 w2,outB q 0 w3,cond b 24 0]=momE c s q:=by
 unfold momE
 by_cases hc:0≤c∧c≤4096
 ·obtain ⟨e1,e2,e3⟩:=h1 hc.1 hc.2
  subst e1 e2 e3
  rw [outQ_in hc.1 hc.2]
  show firstNZ [0,_,_,_]=firstNZ _
  by_cases hs:-(c*16384)≤s∧s≤c*16384
  ·by_cases hq:0≤q∧q≤c*268435456
   ·rw [h2 hc.1 hc.2 hs.1 hs.2 hq.1 hq.2];rfl
   ·rw [outQ_in hs.1 hs.2,outQ_out hq];rfl
  ·rw [outQ_out hs];rfl
 ·rw [outQ_out hc];rfl
theorem mom_prod {c s q:Int} (h0:0≤c) (h1:c≤4096) (h2:-(c*16384)≤s) (h3:s≤c*16384) (h4:0≤q) (h5:q≤c*268435456):0≤s*s∧s*s≤4503599627370496∧0≤c*q∧c*q≤4503599627370496:=by
 have a:=sq_limQ (s:=s) (k:=67108864) (by omega)
 have b:=pr_lim (k:=1099511627776) h0 h1 h4 (by omega)
 exact ⟨a.1,by have:=a.2;omega,b.1,by have:=b.2;omega⟩
theorem mom_wrap {c s q:Int}:firstNZ [outB c 0 4096,outB s (fwrap .i64 (IntKind.i64.wrap (-c)*16384)) (fwrap .i64 (c*16384)),outB q 0 (fwrap .i64 (fwrap .i64 (c*16384)*16384)),cond (decide (fwrap .i64 (s*s) > fwrap .i64 (c*q))) 24 0]=momE c s q:=by
 refine mom_firstP (fun h0 h1=>?_) (fun h0 h1 h2 h3 h4 h5=>?_)
 ·rw [IntWalk.i64_in _ (by omega),fwrap_i64 (n:=-c*16384) (by omega) (by omega),fwrap_i64 (n:=c*16384) (by omega) (by omega),fwrap_i64 (n:=c*16384*16384) (by omega) (by omega)]
  exact ⟨by omega,rfl,by omega⟩
 ·have p:=mom_prod h0 h1 h2 h3 h4 h5
  rw [fwrap_i64 (by omega) (by omega),fwrap_i64 (by omega) (by omega)]
theorem mom_ok {c s q:Int} (h:momE c s q=0):0≤c∧c≤4096∧-(c*16384)≤s∧s≤c*16384∧0≤q∧q≤c*268435456∧s*s≤c*q:=by
  unfold momE at h
  by_cases hc:0≤c∧c≤4096
  · rw [outQ_in hc.1 hc.2] at h
    replace h:firstNZ _=0:=h
    by_cases hs:-(c*16384)≤s∧s≤c*16384
    · rw [outQ_in hs.1 hs.2] at h
      by_cases hq:0≤q∧q≤c*268435456
      · rw [outQ_in hq.1 hq.2] at h
        by_cases hp:s*s > c*q
        · rw [decide_eq_true hp] at h;cases h
        · exact ⟨hc.1,hc.2,hs.1,hs.2,hq.1,hq.2,Int.not_lt.1 hp⟩
      · rw [outQ_out hq] at h;cases h
    · rw [outQ_out hs] at h;cases h
  · rw [outQ_out hc] at h;cases h
section
variable {P:Program} {h:TH} {K:Regs→TH→Prop} {rest:List TOper} {d:Option Tmp} {ty:TypeId} {i:Nat} {x:Operand} {L:Rg} {t:TypeId}
theorem WOL.negW {m:Int} (hx:getL L x=some (.int .i64 m)) (w:∀ a,Kn (putL L d (.int .i64 (IntKind.i64.wrap (-m)))) a→WO P tp rest a h K):∀ a,Kn L a→WO P tp (⟨d,.unOp .neg t x,ty,none,[],i⟩::rest) a h K:=fun _ k=>WO.neg (k.o hx) (k.nx w)
end
section
variable {h:TH} {c s q c' s' q':Int}
set_option maxHeartbeats 4000000 in
set_option maxRecDepth 10000 in
theorem k1591 (H:Has tp):CallW Tryz.prog tp (.func (.func 23) #[] #[]) #[.agg #[zi c,zi s,zi q]] h fun v h'=>v=zi (momE c s q)∧HX h h':=by
 refine CallW.fnL (H.fn 23 f1591 rfl rfl) ?_
 refine WL.sr<|WOL.box rfl fun h1 N1=>WOL.as rfl<|WOL.nil<|keep [(1,_)] ⟨rfl,trivial⟩ ?_
 have A1:At h1 h.next (.cells [zi c,zi s,zi q] true true 31):=N1.at_
 refine WL.sr<|WOL.fa rfl (fa_of fo1629_0)<|WOL.ld rfl (load_one tp3 A1 rfl)<|WOL.fa rfl (fa_of fo1629_1)<|WOL.ld rfl (load_one tp3 A1 rfl)<|WOL.fa rfl (fa_of fo1629_0)<|WOL.ld rfl (load_one tp3 A1 rfl)<|WOL.negW rfl<|WOL.bi rfl rfl rfl ?_
 refine WOL.fa rfl (fa_of fo1629_0)<|WOL.ld rfl (load_one tp3 A1 rfl)<|WOL.bi rfl rfl rfl<|WOL.fa rfl (fa_of fo1629_2)<|WOL.ld rfl (load_one tp3 A1 rfl)<|WOL.fa rfl (fa_of fo1629_0)<|WOL.ld rfl (load_one tp3 A1 rfl)<|WOL.bi rfl rfl rfl<|WOL.bi rfl rfl rfl ?_
 refine WOL.fa rfl (fa_of fo1629_1)<|WOL.ld rfl (load_one tp3 A1 rfl)<|WOL.fa rfl (fa_of fo1629_1)<|WOL.ld rfl (load_one tp3 A1 rfl)<|WOL.bi rfl rfl rfl<|WOL.fa rfl (fa_of fo1629_0)<|WOL.ld rfl (load_one tp3 A1 rfl)<|WOL.fa rfl (fa_of fo1629_2)<|WOL.ld rfl (load_one tp3 A1 rfl)<|WOL.bi rfl rfl rfl<|WOL.bi rfl rfl rfl ?_
 refine WOL.lk3 rfl rfl rfl rfl fun M=>((k72 H _ _ _ _).mono ?_)
 rintro v h2 ⟨rfl,rfl⟩
 rw [TH.relock]
 refine WOL.lk3 rfl rfl rfl rfl fun M=>((k72 H _ _ _ _).mono ?_)
 rintro v h2 ⟨rfl,rfl⟩
 rw [TH.relock]
 refine WOL.lk3 rfl rfl rfl rfl fun M=>((k72 H _ _ _ _).mono ?_)
 rintro v h2 ⟨rfl,rfl⟩
 rw [TH.relock]
 refine WOL.cl2 rfl rfl rfl ((k77 H _ _ _).mono ?_)
 rintro v h2 ⟨rfl,rfl⟩
 refine WOL.bsl rfl u166 tp30 (by decide) (by decide) (by decide) (filled_ints4 _ _ _ _) fun h6 N6=>?_
 refine WOL.cl1 rfl rfl ((k71 H (l:=[_,_,_,_]) N6.at_.get (by simp)).mono ?_)
 rintro v h7 ⟨rfl,rfl⟩
 rw [mom_wrap]
 exact WOL.as rfl<|WOL.nil<|WL.ret (WL.end_ rfl ⟨rfl,N1.hx.trans N6.hx⟩)
set_option maxHeartbeats 4000000 in
set_option maxRecDepth 10000 in
theorem k1639 (H:Has tp) (h0:momE c s q=0):CallW Tryz.prog tp (.func (.func 82) #[] #[]) #[.agg #[zi c,zi s,zi q]] h fun v h'=>v=.tuple #[zi (c*q - s*s),zi (c*c)]∧HX h h':=by
 obtain ⟨a1,a2,a3,a4,a5,a6,a7⟩:=mom_ok h0
 have p:=mom_prod a1 a2 a3 a4 a5 a6
 have pc:=sq_limQ (s:=c) (k:=4096) (by omega)
 refine CallW.fnL (H.fn 82 f1639 rfl rfl) ?_
 refine WL.sr<|WOL.box rfl fun h1 N1=>WOL.as rfl<|WOL.as rfl<|WOL.nil<|keep [(1,_)] ⟨rfl,trivial⟩ ?_
 have A1:At h1 h.next (.cells [zi c,zi s,zi q] true true 31):=N1.at_
 refine WL.sr<|WOL.fa rfl (fa_of fo1629_0)<|WOL.ld rfl (load_one tp3 A1 rfl)<|WOL.fa rfl (fa_of fo1629_2)<|WOL.ld rfl (load_one tp3 A1 rfl)<|WOL.mul rfl rfl (by omega) (by omega)<|WOL.fa rfl (fa_of fo1629_1)<|WOL.ld rfl (load_one tp3 A1 rfl)<|WOL.fa rfl (fa_of fo1629_1)<|WOL.ld rfl (load_one tp3 A1 rfl)<|WOL.mul rfl rfl (by omega) (by omega)<|WOL.sub rfl rfl (by omega) (by omega) ?_
 refine WOL.fa rfl (fa_of fo1629_0)<|WOL.ld rfl (load_one tp3 A1 rfl)<|WOL.fa rfl (fa_of fo1629_0)<|WOL.ld rfl (load_one tp3 A1 rfl)<|WOL.mul rfl rfl (by omega) (by omega)<|WOL.as rfl<|WOL.as rfl<|WOL.nil ?_
 exact WL.ret (WL.end_ rfl ⟨rfl,N1.hx⟩)
set_option maxHeartbeats 4000000 in
set_option maxRecDepth 10000 in
theorem k1588 (H:Has tp):CallW Tryz.prog tp (.func (.func 18) #[] #[]) #[.agg #[zi c,zi s,zi q]] h fun v h'=>v=zi (momE c s q)∧HX h h':=by
  unfold momE
  refine CallW.fnL (H.fn 18 f1588 rfl rfl) ?_
  refine WL.sr<|WOL.box rfl fun h1 N1=>WOL.as rfl<|WOL.nil<|keep [(1,_)] ⟨rfl,trivial⟩ ?_
  have A1:At h1 h.next (.cells [zi c,zi s,zi q] true true 38):=N1.at_
  refine WL.seq<|WL.sr<|WOL.fa rfl (fa_of fo1628_0)<|WOL.ld rfl (load_one tp3 A1 rfl)<|WOL.cl3 rfl rfl rfl rfl ((k14 H _ _ _ _).mono ?_)
  rintro v h2 ⟨rfl,rfl⟩
  refine WOL.as rfl<|WOL.nil<|keep [(1,_),(3,_)] ⟨rfl,rfl,trivial⟩ ?_
  by_cases hc:0≤c∧c≤4096
  · rw [outQ_in hc.1 hc.2]
    refine WL.sr<|WOL.mv rfl<|WOL.bf rfl rfl rfl rfl<|WOL.nil<|WL.no rfl<|WL.skip<|keep [(1,_)] ⟨rfl,trivial⟩ ?_
    have c1:=hc.1
    have c2:=hc.2
    refine WL.seq<|WL.sr<|WOL.fa rfl (fa_of fo1628_1)<|WOL.ld rfl (load_one tp3 A1 rfl)<|WOL.fa rfl (fa_of fo1628_0)<|WOL.ld rfl (load_one tp3 A1 rfl)<|WOL.mul rfl rfl (by omega) (by omega)<|WOL.sub rfl rfl (by omega) (by omega)<|WOL.fa rfl (fa_of fo1628_0)<|WOL.ld rfl (load_one tp3 A1 rfl)<|WOL.mul rfl rfl (by omega) (by omega)<|WOL.fa rfl (fa_of fo1628_2)<|WOL.ld rfl (load_one tp3 A1 rfl)<|WOL.fa rfl (fa_of fo1628_0)<|WOL.ld rfl (load_one tp3 A1 rfl)<|WOL.mul rfl rfl (by omega) (by omega) ?_
    refine WOL.lk3 rfl rfl rfl rfl fun M=>((k14 H _ _ _ _).mono ?_)
    rintro v h2 ⟨rfl,rfl⟩
    rw [TH.relock]
    refine WOL.cl3 rfl rfl rfl rfl ((k14 H _ _ _ _).mono ?_)
    rintro v h2 ⟨rfl,rfl⟩
    refine WOL.bsl rfl u29 tp3 (by decide) (by decide) (by decide) (filled_ints _ _) fun h6 N6=>?_
    refine WOL.cl1 rfl rfl ((k13 H (l:=[_,_]) N6.at_.get (by simp)).mono ?_)
    rintro v h7 ⟨rfl,rfl⟩
    refine WOL.as rfl<|WOL.nil<|keep [(1,_),(4,_)] ⟨rfl,rfl,trivial⟩ ?_
    rw [show (0:Int) - c*16384=-(c*16384) by omega]
    by_cases hs:-(c*16384)≤s∧s≤c*16384
    · rw [outQ_in hs.1 hs.2]
      by_cases hq:0≤q∧q≤c*268435456
      · rw [outQ_in hq.1 hq.2]
        have p:=mom_prod c1 c2 hs.1 hs.2 hq.1 hq.2
        have A1':=A1.hx N6.hx
        refine WL.sr<|WOL.mv rfl<|WOL.bf rfl rfl rfl rfl<|WOL.nil<|WL.no rfl<|WL.skip<|keep [(1,_)] ⟨rfl,trivial⟩ ?_
        refine WL.sr<|WOL.fa rfl (fa_of fo1628_1)<|WOL.ld rfl (load_one tp3 A1' rfl)<|WOL.fa rfl (fa_of fo1628_1)<|WOL.ld rfl (load_one tp3 A1' rfl)<|WOL.mul rfl rfl (by omega) (by omega)<|WOL.fa rfl (fa_of fo1628_0)<|WOL.ld rfl (load_one tp3 A1' rfl)<|WOL.fa rfl (fa_of fo1628_2)<|WOL.ld rfl (load_one tp3 A1' rfl)<|WOL.mul rfl rfl (by omega) (by omega)<|WOL.bi rfl rfl rfl<|WOL.cl2 rfl rfl rfl ((k32 H _ _ _).mono ?_)
        rintro v h8 ⟨rfl,rfl⟩
        refine WOL.as rfl<|WOL.nil<|WL.ret (WL.end_ rfl ⟨?_,N1.hx.trans N6.hx⟩)
        cases decide (s*s > c*q) <;> rfl
      · rw [outQ_out hq]
        exact WL.sr<|WOL.mv rfl<|WOL.bt rfl rfl rfl rfl<|WOL.nil<|WL.yes rfl<|WL.sr<|WOL.mv rfl<|WOL.as rfl<|WOL.nil<|WL.ret (WL.end_ rfl ⟨rfl,N1.hx.trans N6.hx⟩)
    · rw [outQ_out hs]
      exact WL.sr<|WOL.mv rfl<|WOL.bt rfl rfl rfl rfl<|WOL.nil<|WL.yes rfl<|WL.sr<|WOL.mv rfl<|WOL.as rfl<|WOL.nil<|WL.ret (WL.end_ rfl ⟨rfl,N1.hx.trans N6.hx⟩)
  · rw [outQ_out hc]
    exact WL.sr<|WOL.mv rfl<|WOL.bt rfl rfl rfl rfl<|WOL.nil<|WL.yes rfl<|WL.sr<|WOL.mv rfl<|WOL.as rfl<|WOL.nil<|WL.ret (WL.end_ rfl ⟨rfl,N1.hx⟩)
end
end Go.Tidy
namespace Go.Tidy
open Go Go.Proofs Tab
variable {tp:TProg}
theorem fz_cons {x:Int} {l:List Int}:firstNZ (x::l)=cond (x != 0) x (firstNZ l):=rfl
def addE (c s q c' s' q':Int):Int:=firstNZ [momE c s q,momE c' s' q',cond (decide (c+c' > 4096)) 5 0]
def addM (e c s q c' s' q':Int):Int × Int × Int:=cond (e != 0) (0,0,0) (c+c',s+s',q+q')
def varE (c s q:Int):Int:=firstNZ [momE c s q,cond (c == 0) 12 0]
def varA (e c s q:Int):Int × Int:=cond (e != 0) (0,0) (rtN (c*q - s*s) (c*c).toNat,rtD (c*q - s*s) (c*c).toNat)
theorem bne_z {x:Int}:(x != 0)=false ↔ x=0:=by simp
theorem addE_wrap {c s q c' s' q':Int}:firstNZ [momE c s q,momE c' s' q',cond (decide (fwrap .i64 (c+c') > 4096)) 5 0]=addE c s q c' s' q':=by
 unfold addE
 rw [fz_cons,fz_cons,fz_cons (x:=momE c s q),fz_cons (x:=momE c' s' q')]
 cases h1:(momE c s q != 0) with
 | true=>rfl
 | false =>
  cases h2:(momE c' s' q' != 0) with
  | true=>rfl
  | false =>
   have a:=mom_ok (bne_z.1 h1)
   have b:=mom_ok (bne_z.1 h2)
   rw [fwrap_i64 (by omega) (by omega)]
theorem addE_ok {c s q c' s' q':Int} (h:addE c s q c' s' q'=0):momE c s q=0∧momE c' s' q'=0∧c+c'≤4096:=by
 unfold addE at h
 rw [fz_cons,fz_cons,fz_cons] at h
 cases h1:(momE c s q != 0) with
 | true=>rw [h1] at h;simp only [cond_true] at h;rw [h] at h1;cases h1
 | false =>
  rw [h1] at h
  cases h2:(momE c' s' q' != 0) with
  | true=>rw [h2] at h;simp only [cond_true,cond_false] at h;rw [h] at h2;cases h2
  | false =>
   rw [h2] at h
   refine ⟨bne_z.1 h1,bne_z.1 h2,?_⟩
   by_cases h3:c+c' > 4096
   ·rw [decide_eq_true h3] at h;cases h
   ·omega
theorem varE_ok {c s q:Int} (h:varE c s q=0):momE c s q=0∧c≠0:=by
 unfold varE at h
 rw [fz_cons,fz_cons] at h
 cases h1:(momE c s q != 0) with
 | true=>rw [h1] at h;simp only [cond_true] at h;rw [h] at h1;cases h1
 | false =>
  rw [h1] at h
  refine ⟨bne_z.1 h1,fun hc=>?_⟩
  subst hc
  cases h
theorem law_first {a b e:Int}:(cond (firstNZ [a,b] == 0) e (firstNZ [a,b]))=firstNZ [a,b,e]:=by
 rw [fz_cons,fz_cons,fz_cons (x:=a),fz_cons (x:=b),fz_cons]
 cases h1:(a != 0) with
 | true =>
  simp only [cond_true]
  have:(a == 0)=false:=by simpa using h1
  rw [this];rfl
 | false =>
  cases h2:(b != 0) with
  | true =>
   simp only [cond_true,cond_false]
   have:(b == 0)=false:=by simpa using h2
   rw [this];rfl
  | false =>
   simp only [cond_false]
   cases h3:(e != 0) with
   | true=>rfl
   | false=>rw [bne_z.1 h3];rfl
section
variable {h:TH} {c s q c' s' q':Int}
set_option maxHeartbeats 4000000 in
set_option maxRecDepth 10000 in
theorem k1586 (H:Has tp) (f:Free0 h.next h):CallW Tryz.prog tp (.func (.func 16) #[] #[]) #[.agg #[zi c,zi s,zi q],.agg #[zi c',zi s',zi q']] h fun v h'=>HX h h'∧v=.tuple #[.agg #[zi (addM (addE c s q c' s' q') c s q c' s' q').1,zi (addM (addE c s q c' s' q') c s q c' s' q').2.1,zi (addM (addE c s q c' s' q') c s q c' s' q').2.2],zi (addE c s q c' s' q')]:=by
 refine CallW.fnL (H.fn 16 f1586 rfl rfl) ?_
 refine WL.sr<|WOL.box rfl fun h1 N1=>WOL.box rfl fun h2 N2=>WOL.al tp1629 fun h3 N3=>WOL.as rfl<|WOL.nil<|keep [(2,_),(3,_),(4,_)] ⟨rfl,rfl,rfl,trivial⟩ ?_
 have n1:=N1.next
 have n2:=N2.next
 have n3:=N3.next
 have A2:At h3 h.next (.cells [zi c,zi s,zi q] true true 31):=(N1.at_.hx N2.hx).hx N3.hx
 have A3:At h3 h1.next (.cells [zi c',zi s',zi q'] true true 31):=N2.at_.hx N3.hx
 have A4:=N3.at_
 have X3:=(N1.hx.trans N2.hx).trans N3.hx
 refine WL.sr<|WOL.ld rfl (load_row tp1629 A2 rfl (Nat.le_of_ble_eq_true rfl))<|WOL.ld rfl (load_row tp1629 A3 rfl (Nat.le_of_ble_eq_true rfl))<|WOL.fa rfl (fa_of fo1629_0)<|WOL.ld rfl (load_one tp3 A2 rfl)<|WOL.fa rfl (fa_of fo1629_0)<|WOL.ld rfl (load_one tp3 A3 rfl)<|WOL.bi rfl rfl rfl<|WOL.bi rfl rfl rfl ?_
 refine WOL.lk1 rfl rfl fun M=>((k1591 (c:=c) (s:=s) (q:=q) H).mono ?_)
 rintro v h4 ⟨rfl,X4⟩
 replace X4:=X4.relock
 generalize h4.withLock h3.lock=h4 at *
 refine WOL.lk1 rfl rfl fun M=>((k1591 (c:=c') (s:=s') (q:=q') H).mono ?_)
 rintro v h5 ⟨rfl,X5⟩
 replace X5:=X5.relock
 generalize h5.withLock h4.lock=h5 at *
 refine WOL.cl2 rfl rfl rfl ((k77 H _ _ _).mono ?_)
 rintro v h2 ⟨rfl,rfl⟩
 refine WOL.bsl rfl u166 tp30 (by decide) (by decide) (by decide) (filled_ints3 _ _ _) fun h6 N6=>?_
 refine WOL.cl1 rfl rfl ((k71 H (l:=[_,_,_]) N6.at_.get (by simp)).mono ?_)
 rintro v h7 ⟨rfl,rfl⟩
 rw [addE_wrap]
 have Z:=(X4.trans X5).trans N6.hx
 have Y:=X3.trans Z
 have z:=Z.next
 replace A2:=A2.hx Z;replace A3:=A3.hx Z;replace A4:=A4.hx Z
 refine WOL.as rfl<|WOL.nil<|keep [(2,_),(3,_),(4,_),(6,_)] ⟨rfl,rfl,rfl,rfl,trivial⟩ ?_
 generalize hE:addE c s q c' s' q'=E
 by_cases e0:E≠0
 ·refine WL.seq<|WL.sr<|WOL.mv rfl<|WOL.bt rfl rfl rfl (bne_iff_ne.2 e0)<|WOL.nil<|WL.yes rfl<|WL.sr<|WOL.bd rfl bd1629z<|WOL.mv rfl<|WOL.sto (vs:=[zi 0,zi 0,zi 0]) rfl rfl tp1629 A4 rfl rfl (Nat.le_of_ble_eq_true rfl) rfl (f.hx Y) (by omega) fun i1 M1=>WOL.as rfl<|WOL.nil ?_
  refine WL.ret (WL.endC1 rfl rfl (load_row tp1629 M1.at_ rfl (Nat.le_of_ble_eq_true rfl)) ⟨M1.hx _ Y (by omega),?_⟩)
  unfold addM
  rw [bne_iff_ne.2 e0]
  rfl
 have e0:E=0:=Classical.not_not.1 e0
 subst e0
 obtain ⟨o1,o2,o3⟩:=addE_ok hE
 have a:=mom_ok o1
 have b:=mom_ok o2
 refine WL.seq<|WL.sr<|WOL.mv rfl<|WOL.bf rfl rfl rfl rfl<|WOL.nil<|WL.no rfl<|WL.skip<|keep [(2,_),(3,_),(4,_)] ⟨rfl,rfl,rfl,trivial⟩ ?_
 refine WL.sr<|WOL.ld rfl (load_row tp1629 A2 rfl (Nat.le_of_ble_eq_true rfl))<|WOL.ld rfl (load_row tp1629 A3 rfl (Nat.le_of_ble_eq_true rfl))<|WOL.cl2 rfl rfl rfl ((k1638 (a:=c) (b:=s) (c:=q) (d:=c') (e:=s') (g:=q') H (f.on Y) (by omega) (by omega) (by omega) (by omega) (by omega) (by omega)).mono ?_)
 rintro v h8 ⟨rfl,X8⟩
 refine WOL.sto (vs:=[zi (c+c'),zi (s+s'),zi (q+q')]) rfl rfl tp1629 (A4.hx X8) rfl rfl (Nat.le_of_ble_eq_true rfl) rfl (f.hx (Y.trans X8)) (by omega) fun i1 M1=>WOL.as rfl<|WOL.nil ?_
 exact WL.ret (WL.endC1 rfl rfl (load_row tp1629 M1.at_ rfl (Nat.le_of_ble_eq_true rfl)) ⟨M1.hx _ (Y.trans X8) (by omega),rfl⟩)
theorem var_lim (o1:momE c s q=0) (o2:c≠0):∃ k:Nat,c*c=(k:Int)∧1≤k∧k≤4000000000000000000∧-4000000000000000000≤c*q - s*s∧c*q - s*s≤4000000000000000000:=by
 obtain ⟨a1,a2,a3,a4,a5,a6,a7⟩:=mom_ok o1
 have p:=mom_prod a1 a2 a3 a4 a5 a6
 have pc:=sq_limQ (s:=c) (k:=4096) (by omega)
 have pp:0 < c*c:=Int.mul_pos (by omega) (by omega)
 exact ⟨(c*c).toNat,by omega,by omega,by omega,by omega,by omega⟩
set_option maxHeartbeats 4000000 in
set_option maxRecDepth 10000 in
theorem k1587 (H:Has tp) (f:Free0 h.next h):CallW Tryz.prog tp (.func (.func 17) #[] #[]) #[.agg #[zi c,zi s,zi q]] h fun v h'=>HX h h'∧v=.tuple #[.agg #[zi (varA (varE c s q) c s q).1,zi (varA (varE c s q) c s q).2],zi (varE c s q)]:=by
 refine CallW.fnL (H.fn 17 f1587 rfl rfl) ?_
 refine WL.sr<|WOL.box rfl fun h1 N1=>WOL.al tp24 fun h2 N2=>WOL.as rfl<|WOL.nil<|keep [(1,_),(2,_)] ⟨rfl,rfl,trivial⟩ ?_
 have n1:=N1.next
 have n2:=N2.next
 have A1:At h2 h.next (.cells [zi c,zi s,zi q] true true 31):=N1.at_.hx N2.hx
 have A2:=N2.at_
 have X2:=N1.hx.trans N2.hx
 refine WL.seq<|WL.sr<|WOL.ld rfl (load_row tp1629 A1 rfl (Nat.le_of_ble_eq_true rfl))<|WOL.fa rfl (fa_of fo1629_0)<|WOL.ld rfl (load_one tp3 A1 rfl)<|WOL.bi rfl rfl rfl ?_
 refine WOL.lk1 rfl rfl fun M=>((k1591 (c:=c) (s:=s) (q:=q) H).mono ?_)
 rintro v h4 ⟨rfl,X4⟩
 replace X4:=X4.relock
 generalize h4.withLock h2.lock=h4 at *
 refine WOL.cl2 rfl rfl rfl ((k77 H _ _ _).mono ?_)
 rintro v h5 ⟨rfl,rfl⟩
 refine WOL.bsl rfl u166 tp30 (by decide) (by decide) (by decide) (filled_ints _ _) fun h6 N6=>?_
 refine WOL.cl1 rfl rfl ((k71 H (l:=[_,_]) N6.at_.get (by simp)).mono ?_)
 rintro v h7 ⟨rfl,rfl⟩
 have Z:=X4.trans N6.hx
 have Y:=X2.trans Z
 have z:=Z.next
 replace A1:=A1.hx Z;replace A2:=A2.hx Z
 refine WOL.as rfl<|WOL.nil<|keep [(1,_),(2,_),(4,_)] ⟨rfl,rfl,rfl,trivial⟩ ?_
 change ∀ a,Kn [(1,_),(2,_),(4,zi (varE c s q))] a→_
 generalize hE:varE c s q=E
 by_cases e0:E≠0
 ·refine WL.sr<|WOL.mv rfl<|WOL.bt rfl rfl rfl (bne_iff_ne.2 e0)<|WOL.nil<|WL.yes rfl<|WL.sr<|WOL.bd rfl bd24z<|WOL.mv rfl<|WOL.sto (vs:=[zi 0,zi 0]) rfl rfl tp24 A2 rfl rfl (Nat.le_of_ble_eq_true rfl) rfl (f.hx Y) (by omega) fun i1 M1=>WOL.as rfl<|WOL.nil ?_
  refine WL.ret (WL.endC1 rfl rfl (load_row tp24 M1.at_ rfl (Nat.le_of_ble_eq_true rfl)) ⟨M1.hx _ Y (by omega),?_⟩)
  unfold varA
  rw [bne_iff_ne.2 e0]
  rfl
 have e0:E=0:=Classical.not_not.1 e0
 subst e0
 obtain ⟨o1,o2⟩:=varE_ok hE
 obtain ⟨k,hk,k1,k2,k3,k4⟩:=var_lim o1 o2
 refine WL.sr<|WOL.mv rfl<|WOL.bf rfl rfl rfl rfl<|WOL.nil<|WL.no rfl<|WL.skip<|keep [(1,_),(2,_)] ⟨rfl,rfl,trivial⟩ ?_
 refine WL.sr<|WOL.ld rfl (load_row tp1629 A1 rfl (Nat.le_of_ble_eq_true rfl))<|WOL.cl1 rfl rfl ((k1639 (c:=c) (s:=s) (q:=q) H o1).mono ?_)
 rintro v h8 ⟨rfl,X8⟩
 rw [hk]
 refine WOL.ex rfl rfl<|WOL.ex rfl rfl<|WOL.cl2 rfl rfl rfl ((k91v (m:=c*q - s*s) (n:=k) H k3 k4 k1 k2 (f.on (Y.trans X8))).mono ?_)
 rintro v h9 ⟨rfl,X9⟩
 have Y9:=(Y.trans X8).trans X9
 refine WOL.sto (vs:=[zi (rtN (c*q - s*s) k),zi (rtD (c*q - s*s) k)]) rfl rfl tp24 ((A2.hx X8).hx X9) rfl rfl (Nat.le_of_ble_eq_true rfl) rfl (f.hx Y9) (by omega) fun i1 M1=>WOL.as rfl<|WOL.nil ?_
 refine WL.ret (WL.endC1 rfl rfl (load_row tp24 M1.at_ rfl (Nat.le_of_ble_eq_true rfl)) ⟨M1.hx _ Y9 (by omega),?_⟩)
 unfold varA
 rw [hk]
 rfl
set_option maxHeartbeats 4000000 in
set_option maxRecDepth 10000 in
theorem k1590 (H:Has tp) (o1:momE c s q=0) (o2:c≠0) (f:Free0 h.next h):CallW Tryz.prog tp (.func (.func 22) #[] #[]) #[.agg #[zi c,zi s,zi q]] h fun v h'=>HX h h'∧v=.agg #[zi (varA 0 c s q).1,zi (varA 0 c s q).2]:=by
 obtain ⟨k,hk,k1,k2,k3,k4⟩:=var_lim o1 o2
 obtain ⟨a1,a2,a3,a4,a5,a6,a7⟩:=mom_ok o1
 have p:=mom_prod a1 a2 a3 a4 a5 a6
 refine CallW.fnL (H.fn 22 f1590 rfl rfl) ?_
 refine WL.sr<|WOL.box rfl fun h1 N1=>WOL.al tp24 fun h2 N2=>WOL.nil<|keep [(1,_),(2,_)] ⟨rfl,rfl,trivial⟩ ?_
 have n1:=N1.next
 have n2:=N2.next
 have A1:At h2 h.next (.cells [zi c,zi s,zi q] true true 38):=N1.at_.hx N2.hx
 have A2:=N2.at_
 have X2:=N1.hx.trans N2.hx
 refine WL.sr<|WOL.fa rfl (fa_of fo1628_0)<|WOL.ld rfl (load_one tp3 A1 rfl)<|WOL.fa rfl (fa_of fo1628_2)<|WOL.ld rfl (load_one tp3 A1 rfl)<|WOL.mul rfl rfl (by omega) (by omega)<|WOL.fa rfl (fa_of fo1628_1)<|WOL.ld rfl (load_one tp3 A1 rfl)<|WOL.fa rfl (fa_of fo1628_1)<|WOL.ld rfl (load_one tp3 A1 rfl)<|WOL.mul rfl rfl (by omega) (by omega)<|WOL.sub rfl rfl (by omega) (by omega) ?_
 refine WOL.fa rfl (fa_of fo1628_0)<|WOL.ld rfl (load_one tp3 A1 rfl)<|WOL.fa rfl (fa_of fo1628_0)<|WOL.ld rfl (load_one tp3 A1 rfl)<|WOL.mul rfl rfl (by omega) (by omega) ?_
 rw [hk]
 refine WOL.cl2 rfl rfl rfl ((k98v (m:=c*q - s*s) (n:=k) H k3 k4 k1 k2 (f.on X2)).mono ?_)
 rintro v h9 ⟨rfl,X9⟩
 refine WOL.sto (vs:=[zi (rtN (c*q - s*s) k),zi (rtD (c*q - s*s) k)]) rfl rfl tp24 (A2.hx X9) rfl rfl (Nat.le_of_ble_eq_true rfl) rfl (f.hx (X2.trans X9)) (by omega) fun i1 M1=>WOL.nil ?_
 refine WL.ret (WL.endC rfl (load_row tp24 M1.at_ rfl (Nat.le_of_ble_eq_true rfl)) ⟨M1.hx _ (X2.trans X9) (by omega),?_⟩)
 unfold varA
 rw [hk]
 rfl
theorem k1589 (H:Has tp) (o1:momE c s q=0) (o2:momE c' s' q'=0) (f:Free0 h.next h):CallW Tryz.prog tp (.func (.func 21) #[] #[]) #[.agg #[zi c,zi s,zi q],.agg #[zi c',zi s',zi q']] h fun v h'=>HX h h'∧v=.agg #[zi (c+c'),zi (s+s'),zi (q+q')]:=by
 have a:=mom_ok o1
 have b:=mom_ok o2
 refine CallW.fnL (H.fn 21 f1589 rfl rfl) ?_
 refine WL.sr<|WOL.box rfl fun h1 N1=>WOL.box rfl fun h2 N2=>WOL.al tp1628 fun h3 N3=>WOL.nil<|keep [(2,_),(3,_),(4,_)] ⟨rfl,rfl,rfl,trivial⟩ ?_
 have n1:=N1.next
 have n2:=N2.next
 have n3:=N3.next
 have A2:At h3 h.next (.cells [zi c,zi s,zi q] true true 38):=(N1.at_.hx N2.hx).hx N3.hx
 have A3:At h3 h1.next (.cells [zi c',zi s',zi q'] true true 38):=N2.at_.hx N3.hx
 have A4:=N3.at_
 have X3:=(N1.hx.trans N2.hx).trans N3.hx
 refine WL.sr<|WOL.fa rfl (fa_of fo1628_0)<|WOL.ld rfl (load_one tp3 A2 rfl)<|WOL.fa rfl (fa_of fo1628_0)<|WOL.ld rfl (load_one tp3 A3 rfl)<|WOL.add rfl rfl (by omega) (by omega)<|WOL.fa rfl (fa_of fo1628_1)<|WOL.ld rfl (load_one tp3 A2 rfl)<|WOL.fa rfl (fa_of fo1628_1)<|WOL.ld rfl (load_one tp3 A3 rfl)<|WOL.add rfl rfl (by omega) (by omega)<|WOL.fa rfl (fa_of fo1628_2)<|WOL.ld rfl (load_one tp3 A2 rfl)<|WOL.fa rfl (fa_of fo1628_2)<|WOL.ld rfl (load_one tp3 A3 rfl)<|WOL.add rfl rfl (by omega) (by omega)<|WOL.bd rfl bd1628 ?_
 refine WOL.sto (vs:=[zi (c+c'),zi (s+s'),zi (q+q')]) rfl rfl tp1628 A4 rfl rfl (Nat.le_of_ble_eq_true rfl) rfl (f.hx X3) (by omega) fun i1 M1=>WOL.nil ?_
 exact WL.ret (WL.endC rfl (load_row tp1628 M1.at_ rfl (Nat.le_of_ble_eq_true rfl)) ⟨M1.hx _ X3 (by omega),rfl⟩)
end
end Go.Tidy
namespace Go.Tidy
open Go Go.Proofs Tab
variable {tp:TProg}
section
variable {h:TH} {c s q c' s' q':Int}
set_option maxHeartbeats 8000000 in
set_option maxRecDepth 10000 in
theorem k1576 (H:Has tp) (K:Awk tp) (f:Free0 h.next h):CallW Tryz.prog tp (.func (.func 4) #[] #[]) #[.agg #[zi c,zi s,zi q],.agg #[zi c',zi s',zi q']] h fun v _=>v=.bool true:=by
  refine CallW.fnL (H.fn 4 f1576 rfl rfl) ?_
  refine WL.sr<|WOL.box rfl fun h1 N1=>WOL.box rfl fun h2 N2=>WOL.as rfl<|WOL.nil<|keep [(2,_),(3,_)] ⟨rfl,rfl,trivial⟩ ?_
  have n1:=N1.next
  have n2:=N2.next
  have A2:At h2 h.next (.cells [zi c,zi s,zi q] true true 38):=N1.at_.hx N2.hx
  have A3:At h2 h1.next (.cells [zi c',zi s',zi q'] true true 38):=N2.at_
  have X2:=N1.hx.trans N2.hx
  refine WL.sr<|WOL.ld rfl (load_row tp1628 A2 rfl (Nat.le_of_ble_eq_true rfl))<|WOL.ld rfl (load_row tp1628 A3 rfl (Nat.le_of_ble_eq_true rfl))<|WOL.cl2 rfl rfl rfl ((k1586 (c:=c) (s:=s) (q:=q) (c':=c') (s':=s') (q':=q') H (f.on X2)).mono ?_)
  rintro v h3 ⟨X3,rfl⟩
  generalize hM:addM (addE c s q c' s' q') c s q c' s' q'=MM
  obtain ⟨m1,m2,m3⟩:=MM
  have Y3:=X2.trans X3
  have y3:=X3.next
  refine WOL.mv rfl<|WOL.ex rfl rfl<|WOL.ex rfl rfl<|WOL.al tp1629 fun h4 N4=>WOL.sto (vs:=[zi m1,zi m2,zi m3]) rfl rfl tp1629 N4.at_ rfl rfl (Nat.le_of_ble_eq_true rfl) rfl (f.hx (Y3.trans N4.hx)) (by omega) fun h5 P5=>WOL.as rfl<|WOL.nil<|keep [(2,_),(3,_),(5,_),(6,_)] ⟨rfl,rfl,rfl,rfl,trivial⟩ ?_
  have n4:=N4.next
  have p5:=P5.next
  have Z5:HX h3 h5:=P5.hx _ N4.hx (by omega)
  have A5:At h5 h3.next (.cells [zi m1,zi m2,zi m3] true true 31):=P5.at_
  have W5:=X3.trans Z5
  have Y5:=Y3.trans Z5
  replace A2:=A2.hx W5;replace A3:=A3.hx W5
  refine WL.sr<|WOL.ld rfl (load_row tp1628 A2 rfl (Nat.le_of_ble_eq_true rfl))<|WOL.cl1 rfl rfl ((k1587 (c:=c) (s:=s) (q:=q) H (f.on Y5)).mono ?_)
  rintro v h6 ⟨X6,rfl⟩
  generalize hR:varA (varE c s q) c s q=RR
  obtain ⟨r1,r2⟩:=RR
  have Y6:=Y5.trans X6
  have y6:=X6.next
  refine WOL.mv rfl<|WOL.ex rfl rfl<|WOL.ex rfl rfl<|WOL.al tp24 fun h7 N7=>WOL.sto (vs:=[zi r1,zi r2]) rfl rfl tp24 N7.at_ rfl rfl (Nat.le_of_ble_eq_true rfl) rfl (f.hx (Y6.trans N7.hx)) (by omega) fun h8 P8=>WOL.as rfl<|WOL.nil<|keep [(2,_),(3,_),(5,_),(6,_),(7,_),(8,_)] ⟨rfl,rfl,rfl,rfl,rfl,rfl,trivial⟩ ?_
  have n7:=N7.next
  have p8:=P8.next
  have Z8:HX h6 h8:=P8.hx _ N7.hx (by omega)
  have A7:At h8 h6.next (.cells [zi r1,zi r2] true true 44):=P8.at_
  have W8:=X6.trans Z8
  have Y8:=Y6.trans Z8
  replace A2:=A2.hx W8;replace A3:=A3.hx W8;replace A5:=A5.hx W8
  refine WL.sr<|WOL.ld rfl (load_row tp1628 A2 rfl (Nat.le_of_ble_eq_true rfl))<|WOL.cl1 rfl rfl ((k1588 (c:=c) (s:=s) (q:=q) H).mono ?_)
  rintro v h9 ⟨rfl,X9⟩
  refine WOL.as rfl<|WOL.nil<|keep [(2,_),(3,_),(5,_),(6,_),(7,_),(8,_),(9,_)] ⟨rfl,rfl,rfl,rfl,rfl,rfl,rfl,trivial⟩ ?_
  replace A2:=A2.hx X9;replace A3:=A3.hx X9;replace A5:=A5.hx X9;replace A7:=A7.hx X9
  have Y9:=Y8.trans X9
  refine WL.sr<|WOL.mv rfl<|WOL.ld rfl (load_row tp1628 A3 rfl (Nat.le_of_ble_eq_true rfl))<|WOL.cl1 rfl rfl ((k1588 (c:=c') (s:=s') (q:=q') H).mono ?_)
  rintro v h10 ⟨rfl,X10⟩
  refine WOL.bsl rfl u29 tp3 (by decide) (by decide) (by decide) (filled_ints _ _) fun h11 N11=>?_
  refine WOL.cl1 rfl rfl ((k13 H (l:=[_,_]) N11.at_.get (by simp)).mono ?_)
  rintro v h12 ⟨rfl,rfl⟩
  have Z12:=X10.trans N11.hx
  have Y12:=Y9.trans Z12
  replace A2:=A2.hx Z12;replace A3:=A3.hx Z12;replace A5:=A5.hx Z12;replace A7:=A7.hx Z12
  refine WOL.as rfl<|WOL.nil<|keep [(2,_),(3,_),(5,_),(6,_),(7,_),(8,_),(9,_),(10,_)] ⟨rfl,rfl,rfl,rfl,rfl,rfl,rfl,rfl,trivial⟩ ?_
  have l2:=law_first (a:=momE c s q) (b:=momE c' s' q') (e:=cond (decide (c+c' > 4096)) 5 0)
  rw [show firstNZ [momE c s q,momE c' s' q',cond (decide (c+c' > 4096)) 5 0]=addE c s q c' s' q' from rfl] at l2
  have key:∀ g,HX h g→At g h.next (.cells [zi c,zi s,zi q] true true 38)→At g h1.next (.cells [zi c',zi s',zi q'] true true 38)→At g h3.next (.cells [zi m1,zi m2,zi m3] true true 31)→At g h6.next (.cells [zi r1,zi r2] true true 44)→∀ a,Kn [(2,ptr h.next),(3,ptr h1.next),(5,ptr h3.next),(6,zi (addE c s q c' s' q')),(7,ptr h6.next),(8,zi (varE c s q)),(9,zi (momE c s q)),(10,zi (addE c s q c' s' q'))] a →
      W Tryz.prog tp false (.seq (.reg r1576_7) (.seq (.reg r1576_8) (.seq (.reg r1576_9) (.seq (.seq (.reg r1576_10) (.cond (.tmp 49) (.reg r1576_11) .skip)) (.seq (.seq (.reg r1576_12) (.cond (.tmp 54) (.reg r1576_13) .skip)) (.seq (.reg r1576_14) .ret)))))) a g (Fin Tryz.prog [.tmp 4] fun v _=>v=.bool true):=by
    clear A2 A3 A5 A7 P5 P8
    intro g Yg A2 A3 A5 A7
    have lg:=A7.lt
    have l5:=A5.lt
    refine WL.sr<|WOL.mv rfl<|WOL.fa rfl (fa_of fo1628_0)<|WOL.ld rfl (load_one tp3 A2 rfl)<|WOL.bi rfl rfl rfl<|WOL.cl2 rfl rfl rfl ((k32 H _ _ _).mono ?_)
    rintro v g1 ⟨rfl,rfl⟩
    refine WOL.bsl rfl u29 tp3 (by decide) (by decide) (by decide) (filled_ints _ _) fun g2 M2=>?_
    refine WOL.cl1 rfl rfl ((k13 H (l:=[_,_]) M2.at_.get (by simp)).mono ?_)
    rintro v g3 ⟨rfl,rfl⟩
    refine WOL.as rfl<|WOL.nil<|keep [(2,_),(3,_),(5,_),(6,_),(7,_),(8,_),(9,_),(10,_),(11,_)] ⟨rfl,rfl,rfl,rfl,rfl,rfl,rfl,rfl,rfl,trivial⟩ ?_
    change ∀ a,Kn [(2,_),(3,_),(5,_),(6,_),(7,_),(8,_),(9,_),(10,_),(11,zi (varE c s q))] a→_
    have w2:=M2.next
    refine WL.sr<|WOL.al tp1628 fun g4 M4=>WOL.nil<|keep [(2,_),(3,_),(5,_),(6,_),(7,_),(8,_),(9,_),(10,_),(11,_),(12,_)] ⟨rfl,rfl,rfl,rfl,rfl,rfl,rfl,rfl,rfl,rfl,trivial⟩ ?_
    have w4:=M4.next
    refine WL.sr<|WOL.al tp24 fun g5 M5=>WOL.nil<|keep [(2,_),(3,_),(5,_),(6,_),(7,_),(8,_),(9,_),(10,_),(11,_),(12,_),(13,_)] ⟨rfl,rfl,rfl,rfl,rfl,rfl,rfl,rfl,rfl,rfl,rfl,trivial⟩ ?_
    have w5:=M5.next
    have Zg:=(M2.hx.trans M4.hx).trans M5.hx
    have Yg5:=Yg.trans Zg
    replace A2:=A2.hx Zg;replace A3:=A3.hx Zg;replace A5:=A5.hx Zg;replace A7:=A7.hx Zg
    have A12:=M4.at_.hx M5.hx
    have A13:=M5.at_
    have yg:=Yg.next
    have tail2:∀ k,At k h.next (.cells [zi c,zi s,zi q] true true 38)→At k h3.next (.cells [zi m1,zi m2,zi m3] true true 31)→At k h6.next (.cells [zi r1,zi r2] true true 44)→At k g3.next (.cells [zi m1,zi m2,zi m3] true true 38)→At k g4.next (.cells [zi r1,zi r2] true true 44)→∀ a,Kn [(2,ptr h.next),(5,ptr h3.next),(6,zi (addE c s q c' s' q')),(7,ptr h6.next),(8,zi (varE c s q)),(9,zi (momE c s q)),(10,zi (addE c s q c' s' q')),(11,zi (varE c s q)),(12,ptr g3.next),(13,ptr g4.next)] a →
        W Tryz.prog tp false (.seq (.reg r1576_14) .ret) a k (Fin Tryz.prog [.tmp 4] fun v _=>v=.bool true):=by
      clear A2 A3 A5 A7 A12 A13
      intro k A2 A5 A7 A12 A13
      refine WL.sr<|WOL.ld rfl (load_row tp1628 A2 rfl (Nat.le_of_ble_eq_true rfl))<|WOL.cl1 rfl rfl ((k1591 (c:=c) (s:=s) (q:=q) H).mono ?_)
      rintro v k1 ⟨rfl,X1⟩
      replace A2:=A2.hx X1;replace A5:=A5.hx X1;replace A7:=A7.hx X1;replace A12:=A12.hx X1;replace A13:=A13.hx X1
      refine WOL.mv rfl<|WOL.bt rfl rfl rfl (beq_self_eq_true _)<|WOL.mv rfl<|WOL.now (b:=true) rfl rfl<|WOL.ld rfl (load_row tp1629 A5 rfl (Nat.le_of_ble_eq_true rfl))<|WOL.now (b:=true) rfl rfl<|WOL.ld rfl (load_row tp1628 A12 rfl (Nat.le_of_ble_eq_true rfl))<|WOL.now (b:=true) rfl rfl<|WOL.eq1628 rfl rfl ?_
      rw [beq_self_eq_true,beq_self_eq_true,beq_self_eq_true]
      refine WOL.pkt rfl rfl<|WOL.mv rfl<|WOL.now (b:=true) rfl rfl<|WOL.mv rfl<|WOL.now (b:=true) rfl rfl<|WOL.mv rfl<|WOL.now (b:=true) rfl rfl<|WOL.bt rfl rfl rfl (beq_self_eq_true _)<|WOL.pkt rfl rfl<|WOL.mv rfl ?_
      refine WOL.now (b:=true) rfl rfl<|WOL.ld rfl (load_row tp24 A7 rfl (Nat.le_of_ble_eq_true rfl))<|WOL.now (b:=true) rfl rfl<|WOL.ld rfl (load_row tp24 A13 rfl (Nat.le_of_ble_eq_true rfl))<|WOL.now (b:=true) rfl rfl<|WOL.eqr rat24' rfl rfl<|WOL.pkt rfl rfl<|WOL.mv rfl ?_
      refine WOL.now (b:=true) rfl rfl<|WOL.mv rfl<|WOL.now (b:=true) rfl rfl<|WOL.mv rfl<|WOL.now (b:=true) rfl rfl<|WOL.bt rfl rfl rfl (beq_self_eq_true _)<|WOL.pkt rfl rfl<|WOL.mv rfl<|WOL.now (b:=true) rfl rfl<|WOL.cl0 rfl ((k11t K _).mono ?_)
      rintro v k2 ⟨rfl,rfl⟩
      exact WOL.pkt rfl rfl<|WOL.as rfl<|WOL.nil<|WL.ret (WL.end_ rfl rfl)
    have tail1:∀ k,HX h k→At k h.next (.cells [zi c,zi s,zi q] true true 38)→At k h3.next (.cells [zi m1,zi m2,zi m3] true true 31)→At k h6.next (.cells [zi r1,zi r2] true true 44)→At k g3.next (.cells [zi m1,zi m2,zi m3] true true 38)→At k g4.next (.cells [zi 0,zi 0] true true 44)→∀ a,Kn [(2,ptr h.next),(5,ptr h3.next),(6,zi (addE c s q c' s' q')),(7,ptr h6.next),(8,zi (varE c s q)),(9,zi (momE c s q)),(10,zi (addE c s q c' s' q')),(11,zi (varE c s q)),(12,ptr g3.next),(13,ptr g4.next)] a →
        W Tryz.prog tp false (.seq (.seq (.reg r1576_12) (.cond (.tmp 54) (.reg r1576_13) .skip)) (.seq (.reg r1576_14) .ret)) a k (Fin Tryz.prog [.tmp 4] fun v _=>v=.bool true):=by
      clear A2 A3 A5 A7 A12 A13
      intro k Yk A2 A5 A7 A12 A13
      by_cases e0:varE c s q=0
      · obtain ⟨o1,o2⟩:=varE_ok e0
        rw [e0] at hR
        rw [e0] at tail2 ⊢
        refine WL.seq<|WL.sr<|WOL.mv rfl<|WOL.bt rfl rfl rfl rfl<|WOL.nil<|WL.yes rfl<|WL.reg<|WOL.ld rfl (load_row tp1628 A2 rfl (Nat.le_of_ble_eq_true rfl))<|WOL.cl1 rfl rfl ((k1590 (c:=c) (s:=s) (q:=q) H o1 o2 (f.on Yk)).mono ?_)
        rintro v k1 ⟨X1,rfl⟩
        rw [hR]
        have l13:=A13.lt
        have x1:=X1.next
        refine WOL.sto (vs:=[zi r1,zi r2]) rfl rfl tp24 (A13.hx X1) rfl rfl (Nat.le_of_ble_eq_true rfl) rfl (f.hx (Yk.trans X1)) (by omega) fun k2 Q2=>WOL.nil ?_
        exact kto (tail2 _ (Q2.oth _ _ (by omega) (A2.hx X1)) (Q2.oth _ _ (by omega) (A5.hx X1)) (Q2.oth _ _ (by omega) (A7.hx X1)) (Q2.oth _ _ (by omega) (A12.hx X1)) Q2.at_) ⟨rfl,rfl,rfl,rfl,rfl,rfl,rfl,rfl,rfl,rfl,trivial⟩
      · unfold varA at hR
        rw [bne_iff_ne.2 e0] at hR
        cases hR
        refine WL.seq<|WL.sr<|WOL.mv rfl<|WOL.bf rfl rfl rfl (beq_eq_false_iff_ne.2 e0)<|WOL.nil<|WL.no rfl<|WL.skip ?_
        exact kto (tail2 _ A2 A5 A7 A12 A13) ⟨rfl,rfl,rfl,rfl,rfl,rfl,rfl,rfl,rfl,rfl,trivial⟩
    by_cases e0:addE c s q c' s' q'=0
    · obtain ⟨o1,o2,_⟩:=addE_ok e0
      rw [e0] at hM
      cases hM
      rw [e0] at tail1 ⊢
      refine WL.seq<|WL.sr<|WOL.mv rfl<|WOL.bt rfl rfl rfl rfl<|WOL.nil<|WL.yes rfl<|WL.reg<|WOL.ld rfl (load_row tp1628 A2 rfl (Nat.le_of_ble_eq_true rfl))<|WOL.ld rfl (load_row tp1628 A3 rfl (Nat.le_of_ble_eq_true rfl))<|WOL.cl2 rfl rfl rfl ((k1589 (c:=c) (s:=s) (q:=q) (c':=c') (s':=s') (q':=q') H o1 o2 (f.on Yg5)).mono ?_)
      rintro v k1 ⟨X1,rfl⟩
      have l13:=A13.lt
      have x1:=X1.next
      refine WOL.sto (vs:=[zi (c+c'),zi (s+s'),zi (q+q')]) rfl rfl tp1628 (A12.hx X1) rfl rfl (Nat.le_of_ble_eq_true rfl) rfl (f.hx (Yg5.trans X1)) (by omega) fun k2 Q2=>WOL.nil ?_
      exact kto (tail1 _ (Q2.hx _ (Yg5.trans X1) (by omega)) (Q2.oth _ _ (by omega) (A2.hx X1)) (Q2.oth _ _ (by omega) (A5.hx X1)) (Q2.oth _ _ (by omega) (A7.hx X1)) Q2.at_ (Q2.oth _ _ (by omega) (A13.hx X1))) ⟨rfl,rfl,rfl,rfl,rfl,rfl,rfl,rfl,rfl,rfl,trivial⟩
    · unfold addM at hM
      rw [bne_iff_ne.2 e0] at hM
      cases hM
      refine WL.seq<|WL.sr<|WOL.mv rfl<|WOL.bf rfl rfl rfl (beq_eq_false_iff_ne.2 e0)<|WOL.nil<|WL.no rfl<|WL.skip ?_
      exact kto (tail1 _ Yg5 A2 A5 A7 A12 A13) ⟨rfl,rfl,rfl,rfl,rfl,rfl,rfl,rfl,rfl,rfl,trivial⟩
  cases hf:(firstNZ [momE c s q,momE c' s' q'] == 0) with
  | true =>
    rw [hf] at l2
    refine WL.seq<|WL.sr<|WOL.mv rfl<|WOL.bt rfl rfl rfl hf<|WOL.nil<|WL.yes rfl<|WL.reg<|WOL.fa rfl (fa_of fo1628_0)<|WOL.ld rfl (load_one tp3 A2 rfl)<|WOL.fa rfl (fa_of fo1628_0)<|WOL.ld rfl (load_one tp3 A3 rfl) ?_
    have z0:firstNZ [momE c s q,momE c' s' q']=0:=by simpa using hf
    have z1:=mom_ok (firstNZ_zero z0 _ (by simp):momE c s q=0)
    have z2:=mom_ok (firstNZ_zero z0 _ (by simp):momE c' s' q'=0)
    refine WOL.add rfl rfl (by omega) (by omega)<|WOL.bi rfl rfl rfl<|WOL.cl2 rfl rfl rfl ((k32 H _ _ _).mono ?_)
    rintro v h13 ⟨rfl,rfl⟩
    refine WOL.as rfl<|WOL.nil ?_
    rw [show cond (decide (c+c' > 4096)) 5 0=addE c s q c' s' q' from l2]
    exact kto (key _ Y12 A2 A3 A5 A7) ⟨rfl,rfl,rfl,rfl,rfl,rfl,rfl,rfl,trivial⟩
  | false =>
    rw [hf] at l2
    refine WL.seq<|WL.sr<|WOL.mv rfl<|WOL.bf rfl rfl rfl hf<|WOL.nil<|WL.no rfl<|WL.skip ?_
    rw [show firstNZ [momE c s q,momE c' s' q']=addE c s q c' s' q' from l2]
    exact kto (key _ Y12 A2 A3 A5 A7) ⟨rfl,rfl,rfl,rfl,rfl,rfl,rfl,rfl,trivial⟩
end
set_option maxRecDepth 100000 in
theorem law1576:Law tpE 4 5 [38,38]:=by
 intro h us f ha
 obtain ⟨x0,x1,rfl,⟨p0,y0,e0⟩,⟨p1,y1,e1⟩⟩:=args2 ha
 have q0:=tyg_struct Tryz.underlying38 y0
 have q1:=tyg_struct Tryz.underlying38 y1
 rw [val_agg (.inl ⟨_,Tryz.underlying38⟩)] at e0 e1
 obtain ⟨a0,b0,rfl,_,t0,a1,b1,rfl,_,t1,a2,b2,rfl,_,t2,rfl⟩:=q0
 obtain ⟨d0,g0,rfl,_,s0,d1,g1,rfl,_,s1,d2,g2,rfl,_,s2,rfl⟩:=q1
 obtain ⟨a,rfl,_⟩:=ty_int t0
 obtain ⟨b,rfl,_⟩:=ty_int t1
 obtain ⟨c,rfl,_⟩:=ty_int t2
 obtain ⟨d,rfl,_⟩:=ty_int s0
 obtain ⟨e,rfl,_⟩:=ty_int s1
 obtain ⟨g,rfl,_⟩:=ty_int s2
 subst e0 e1
 exact k1576 hasE awkE f
end Go.Tidy
