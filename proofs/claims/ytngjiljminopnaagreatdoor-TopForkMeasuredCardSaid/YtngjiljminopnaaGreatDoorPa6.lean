/- A part of the proof. -/
import Derived.Test.YtngjiljminopnaaGreatDoorPa5
import Derived.Test.YtngjiljminopnaaGreatDoorPa4
import Derived.Test.YtngjiljminopnaaGreatDoorPa2
set_option linter.all false
namespace Go.Tidy
open Go Go.Proofs Tab
theorem known_no {S:List (Int × Int)} {x:Int}:qam S x=false ↔ ∃ p,p ∈ S∧p.1≤x∧x < p.2:=by
 unfold qam
 rw [Bool.not_eq_false',List.any_eq_true]
 constructor
 ·rintro ⟨p,hp,h⟩
  unfold inS at h
  simp only [Bool.and_eq_true,decide_eq_true_eq] at h
  exact ⟨p,hp,h.1,h.2⟩
 ·rintro ⟨p,hp,h1,h2⟩
  refine ⟨p,hp,?_⟩
  unfold inS
  rw [decide_eq_true h1,decide_eq_true h2];rfl
theorem holeE_tail {m:Nat} {prev:Int} {p:Int × Int} {r:List (Int × Int)} (h:qay m prev (p::r)=0):badS m p=false∧prev < p.1∧qay m p.2 r=0:=by
 rw [qcz] at h
 cases hb:badS m p with
 | true=>rw [hb] at h;cases h
 | false =>
  rw [hb] at h
  by_cases hc:p.1≤prev
  ·rw [decide_eq_true hc] at h;cases h
  ·rw [decide_eq_false hc] at h
   exact ⟨rfl,by omega,h⟩
theorem known_tail {p:Int × Int} {r:List (Int × Int)} {x:Int} (hx:p.2≤x):qam (p::r) x=qam r x:=by
 unfold qam
 rw [List.any_cons]
 unfold inS
 rw [decide_eq_false (by omega:¬ x < p.2),Bool.and_false,Bool.false_or]
theorem holes_first {m:Nat} {prev:Int} {p:Int × Int} {r:List (Int × Int)} (h:qay m prev (p::r)=0) {x:Int} (hx:qam (p::r) x=false):p.1≤x:=by
 obtain ⟨q,hq,h1,_⟩:=known_no.1 hx
 obtain ⟨b,_,t⟩:=holeE_tail h
 have:=badS_no.1 b
 rcases List.mem_cons.1 hq with rfl | hq
 ·exact h1
 ·have:=holeE_after t q hq
  omega
theorem holes_end {m:Nat} {prev:Int} {p:Int × Int} {r:List (Int × Int)} (h:qay m prev (p::r)=0):qam (p::r) p.2=true:=by
 cases hb:qam (p::r) p.2 with
 | true=>rfl
 | false =>
  rw [known_tail (Int.le_refl _)] at hb
  obtain ⟨q,hq,h1,_⟩:=known_no.1 hb
  have:=holeE_after (holeE_tail h).2.2 q hq
  omega
theorem holes_uniq {m:Nat}:∀ {S T:List (Int × Int)} {prev:Int},-1≤prev→qay m prev S=0→qay m prev T=0→(∀ x:Nat,prev < (x:Int)→qam S x=qam T x)→S=T
  | [],[],_,_,_,_,_=>rfl
  | [],q::t,prev,h0,_,hT,h=>by
    obtain ⟨b,a,_⟩:=holeE_tail hT
    have b':=badS_no.1 b
    obtain ⟨x,hx⟩:=Int.eq_ofNat_of_zero_le b'.1
    have h1:=h x (by omega)
    rw [show qam (q::t) (x:Int)=false from known_no.2 ⟨q,List.mem_cons_self ..,by omega,by omega⟩] at h1
    cases h1
  | p::r,[],prev,h0,hS,_,h=>by
    obtain ⟨b,a,_⟩:=holeE_tail hS
    have b':=badS_no.1 b
    obtain ⟨x,hx⟩:=Int.eq_ofNat_of_zero_le b'.1
    have h1:=h x (by omega)
    rw [show qam (p::r) (x:Int)=false from known_no.2 ⟨p,List.mem_cons_self ..,by omega,by omega⟩] at h1
    cases h1
  | p::r,q::t,prev,h0,hS,hT,h=>by
    obtain ⟨b,a,tS⟩:=holeE_tail hS
    obtain ⟨c,d,tT⟩:=holeE_tail hT
    have b':=badS_no.1 b
    have c':=badS_no.1 c
    obtain ⟨p1,p2⟩:=p
    obtain ⟨q1,q2⟩:=q
    simp only at b' c' a d
    obtain ⟨x,rfl⟩:=Int.eq_ofNat_of_zero_le b'.1
    obtain ⟨y,rfl⟩:=Int.eq_ofNat_of_zero_le c'.1
    obtain ⟨u,rfl⟩:=Int.eq_ofNat_of_zero_le (show 0≤p2 by omega)
    obtain ⟨v,rfl⟩:=Int.eq_ofNat_of_zero_le (show 0≤q2 by omega)
    have e1:(y:Int)≤x:=holes_first hT (x:=(x:Int)) (by rw [← h x a];exact known_no.2 ⟨_,List.mem_cons_self ..,Int.le_refl _,b'.2.1⟩)
    have e2:(x:Int)≤y:=holes_first hS (x:=(y:Int)) (by rw [h y d];exact known_no.2 ⟨_,List.mem_cons_self ..,Int.le_refl _,c'.2.1⟩)
    obtain rfl:x=y:=by omega
    have f1:¬ (u:Int) < v:=fun hl=>by
      have:=h u (by omega)
      rw [show qam (((x:Int),(u:Int))::r) (u:Int)=true from holes_end hS,show qam (((x:Int),(v:Int))::t) (u:Int)=false from known_no.2 ⟨_,List.mem_cons_self ..,by show (x:Int)≤u;omega,hl⟩] at this
      cases this
    have f2:¬ (v:Int) < u:=fun hl=>by
      have:=h v (by omega)
      rw [show qam (((x:Int),(v:Int))::t) (v:Int)=true from holes_end hT,show qam (((x:Int),(u:Int))::r) (v:Int)=false from known_no.2 ⟨_,List.mem_cons_self ..,by show (x:Int)≤v;omega,hl⟩] at this
      cases this
    obtain rfl:u=v:=by omega
    congr 1
    refine holes_uniq (prev:=(u:Int)) (by omega) tS tT fun z hz=>?_
    have:=h z (by omega)
    rwa [known_tail (by show (u:Int)≤z;omega),known_tail (by show (u:Int)≤z;omega)] at this
theorem known_past {m:Nat} {S:List (Int × Int)} (hin:In m S) {x:Int} (hx:(m:Int)≤x):qam S x=true:=by
 cases hb:qam S x with
 | true=>rfl
 | false =>
  obtain ⟨p,hp,h1,h2⟩:=known_no.1 hb
  have:=(hin p hp).2.2
  omega
theorem qea {S:List (Int × Int)} {m i:Nat} (hi:i < m):(qav S m)[i]?=some (qam S i):=by
 unfold qav
 rw [List.getElem?_map,List.getElem?_range hi];rfl
theorem holesOf_get {K:List Bool} {i:Nat} (hi:i < K.length):K[i]?=some (qam (qah K) i):=by
 have:=qea (S:=qah K) hi
 rwa [known_holes] at this
theorem holes_back {m:Nat} {S:List (Int × Int)} (h:qay m (-1) S=0):qah (qav S m)=S:=by
 have hl:=qcb S m
 have h2:=holes_ok (qav S m)
 rw [hl] at h2
 refine holes_uniq (Int.le_refl _) h2 h fun x _=>?_
 by_cases hx:x < m
 ·have e1:=holesOf_get (K:=qav S m) (i:=x) (by omega)
  rw [qea hx] at e1
  exact (Option.some.inj e1).symm
 ·rw [known_past (qct h2) (by omega),known_past (qct h) (by omega)]
end Go.Tidy
namespace Go.Tidy
open Go Go.Proofs Tab
variable {tp:TProg}
theorem short_small {s:ByteArray} {m k:Nat} (h:shortB s m k=true):m≤4097∧k≤12:=by
 simp only [shortB,Bool.and_eq_true,Bool.or_eq_true,decide_eq_true_eq,beq_iff_eq] at h
 omega
end Go.Tidy
namespace Go.Tidy
open Go Go.Proofs Tab
variable {tp:TProg}
theorem JoinR.out {h h':TH} {v:Value} {s:ByteArray} {n:Int} {Z:List Int} {Y:List Bool} {e:Int} (r:JoinR h h' v s n Z Y e):∃ sz nz bo1 l1 k1 bo2 l2 k2,v=.tuple #[runV sz nz (.slice bo1 l1 k1) (.slice bo2 l2 k2),.int .i64 e]∧HX h h'∧(e≠0→(Value.slice bo1 l1 k1=.slice none 0 0∧Value.slice bo2 l2 k2=.slice none 0 0))∧(e=0→(sz=s∧nz=n)∧RunO h.next h' (.slice bo1 l1 k1) (.slice bo2 l2 k2) (madeF Z Y) (qah Y)):=by
 obtain ⟨X,⟨he,rfl⟩ | ⟨rfl,w1,w2,rfl,O⟩⟩:=r
 ·exact ⟨_,_,_,_,_,_,_,_,rfl,X,fun _=>⟨rfl,rfl⟩,fun h=>absurd h he⟩
 ·obtain ⟨bo1,k1,rfl⟩:=O.r.f.form
  obtain ⟨bo2,k2,rfl⟩:=O.r.s.form
  exact ⟨_,_,_,_,_,_,_,_,rfl,X,fun h=>absurd rfl h,fun _=>⟨⟨rfl,rfl⟩,O⟩⟩
theorem SumR.out {h h':TH} {v:Value} {s:ByteArray} {n:Int} {Z:List Int} {Y:List Bool} {sh:Bool} (hY:sh=true→Y.length=Z.length) (r:SumR h h' v s n Z Y sh):JoinR h h' v s n Z Y (cond (!sh) 2 (cond (allOk (cellsK Z Y)) 0 4)):=by
 obtain ⟨X,⟨rfl,rfl⟩ | ⟨rfl,no,rfl⟩ | ⟨rfl,ok,w1,w2,rfl,O⟩⟩:=r
 ·exact ⟨X,.inl ⟨by simp,rfl⟩⟩
 ·have:allOk (cellsK Z Y)=false:=by
   cases hb:allOk (cellsK Z Y) with
   | false=>rfl
   | true=>exact absurd ((ok_cells (hY rfl)).1 hb) no
  rw [this]
  exact ⟨X,.inl ⟨by decide,rfl⟩⟩
 ·rw [(ok_cells (hY rfl)).2 ok]
  exact ⟨X,.inr ⟨rfl,w1,w2,rfl,O⟩⟩
end Go.Tidy
namespace Go.Tidy
open Go Go.Proofs Tab
variable {tp:TProg}
structure Cel (s:ByteArray) (n:Int) (F:List Nat) (es:List Int) (C:List (Int × Bool)):Prop where
 len:F.length=C.length
 e:SErr F es
 lev:Lev F (C.map fun c=>c.1)
 r:runE s n F.length (qah (C.map fun c=>c.2)) es (C.map fun c=>c.1)=0
 v:Valid s n F (qah (C.map fun c=>c.2)) (C.map fun c=>c.1)
 c:qbj (C.map fun c=>c.1) (qah (C.map fun c=>c.2))=C
def RunC (s:ByteArray) (n:Int) (h:TH) (v1 v2:Value) (C:List (Int × Bool)):Prop:=∃ F es,RunH h v1 v2 F (qah (C.map fun c=>c.2))∧Cel s n F es C
theorem RunC.hx {s:ByteArray} {n:Int} {h h':TH} {v1 v2:Value} {C:List (Int × Bool)} (r:RunC s n h v1 v2 C) (x:HX h h'):RunC s n h' v1 v2 C:=by
 obtain ⟨F,es,r,c⟩:=r
 exact ⟨F,es,r.hx x,c⟩
section
variable {s:ByteArray} {n:Int} {F:List Nat} {es L:List Int} {S:List (Int × Int)} {C:List (Int × Bool)}
theorem Cel.m (c:Cel s n F es C):C.length≤4096:=by have:=c.v.m;rw [c.len] at this;exact this
theorem Cel.lim (c:Cel s n F es C):∀ x,x ∈ C→x.1.natAbs≤16384:=by have:=c.v.lim;rwa [c.c] at this
theorem Cel.dk (c:Cel s n F es C):DarkC C:=by have:=c.v.darkC;rwa [c.c] at this
theorem Cel.holes (_:Cel s n F es C):(qah (C.map fun c=>c.2)).length≤C.length:=by
 have:=holesN_len (C.map fun c=>c.2) (C.map fun c=>c.2).length
 show (qcx _ _).length≤_
 rwa [List.length_map] at this ⊢
theorem Cel.head (c:Cel s n F es C):headE s n C.length=0:=by
 have:=c.r
 unfold runE at this
 rw [c.len] at this
 rcases qdt (headE s n C.length) with h | h
 ·exact h
 ·rw [h] at this;rw [show headE s n C.length=0 from this] at h;cases h
theorem Cel.top (c:Cel s n F es C):n+C.length≤100000000:=by have:=c.v.n1;rw [c.len] at this;exact this
theorem Valid.back (V:Valid s n F S L):((qbj L S).map fun c=>c.1)=L∧qah ((qbj L S).map fun c=>c.2)=S:=by
 have kl:=V.kl
 have ll:=V.lev.1
 constructor
 ·apply List.ext_getElem?
  intro i
  rw [List.getElem?_map]
  by_cases hi:i < F.length
  ·obtain ⟨k,hk⟩:=V.cell hi
   rw [hk,List.getElem?_eq_getElem (by omega:i < L.length)]
   simp [List.getD_eq_getElem?_getD,List.getElem?_eq_getElem (by omega:i < L.length)]
  ·rw [List.getElem?_eq_none (by rw [cells_len V.lev V.in_];omega),List.getElem?_eq_none (by omega)]
   rfl
 ·rw [V.cells,cellsK_snd kl,holes_back V.hole]
theorem Cel.of (V:Valid s n F S L) (hE:SErr F es) (h0:runE s n F.length S es L=0):Cel s n F es (qbj L S):=by
 obtain ⟨b1,b2⟩:=V.back
 refine ⟨(cells_len V.lev V.in_).symm,hE,by rw [b1];exact V.lev,by rw [b1,b2];exact h0,by rw [b1,b2];exact V,by rw [b1,b2]⟩
theorem Cel.made (hd:headE s n C.length=0) (hn:n+C.length≤100000000) (lim:∀ c,c ∈ C→c.1.natAbs≤16384) (dk:DarkC C):∃ es,Cel s n (C.map fun c=>smp c.1) es C:=by
 obtain ⟨es,e1,e2,e3,e4,e5⟩:=made_run hd hn lim dk
 exact ⟨es,by simp,e1,e2,e3,e4,e5⟩
theorem RunO.cel {B:Nat} {h:TH} {w1 w2:Value} (o:RunO B h w1 w2 (C.map fun c=>smp c.1) (qah (C.map fun c=>c.2))) (hd:headE s n C.length=0) (hn:n+C.length≤100000000) (lim:∀ c,c ∈ C→c.1.natAbs≤16384) (dk:DarkC C):RunC s n h w1 w2 C:=by
 obtain ⟨es,c⟩:=Cel.made hd hn lim dk
 exact ⟨_,es,o.r,c⟩
end
section
variable {s:ByteArray} {n:Int} {h:TH} {v1 v2 w1 w2:Value} {C D:List (Int × Bool)}
def NewC (s:ByteArray) (n:Int) (C:List (Int × Bool)) (h:TH) (v:Value) (h':TH):Prop :=
 ∃ bo1 l1 k1 bo2 l2 k2,v=.tuple #[runV s n (.slice bo1 l1 k1) (.slice bo2 l2 k2),.int .i64 0]∧HX h h'∧RunC s n h' (.slice bo1 l1 k1) (.slice bo2 l2 k2) C∧Above h.next (.slice bo1 l1 k1)∧Above h.next (.slice bo2 l2 k2)
theorem RunR.new {h':TH} {v:Value} (r:RunR h h' v s n C 0) (hd:headE s n C.length=0) (hn:n+C.length≤100000000) (lim:∀ c,c ∈ C→c.1.natAbs≤16384) (dk:DarkC C):NewC s n C h v h':=by
 obtain ⟨X,⟨he,_⟩ | ⟨_,w1,w2,rfl,O⟩⟩:=r
 ·exact absurd rfl he
 ·obtain ⟨bo1,k1,rfl⟩:=O.r.f.form
  obtain ⟨bo2,k2,rfl⟩:=O.r.s.form
  exact ⟨_,_,_,_,_,_,rfl,X,O.cel hd hn lim dk,O.o1,O.o2⟩
theorem c28 (H:Has tp) (X:HasX tp) (r:RunC s n h v1 v2 C) (f:Free0 h.next h):qad Tryz.prog tp (.func (.func 51) #[] #[]) #[runV s n v1 v2] h fun v h'=>NewC s n C.reverse h v h':=by
 obtain ⟨F,es,r,c⟩:=r
 have m:=c.m
 have l:=c.len
 have q:=c.holes
 refine (k28 H X r c.e (fun _=>c.lev) (by omega) (by omega) f).mono ?_
 intro v h' R
 rw [c.r,c.c] at R
 exact R.new (by rw [List.length_reverse];exact c.head) (by rw [List.length_reverse];exact c.top) (fun x hx=>c.lim x (List.mem_reverse.1 hx)) (fun x hx=>c.dk x (List.mem_reverse.1 hx))
end
end Go.Tidy
namespace Go.Tidy
open Go Go.Proofs Tab
variable {tp:TProg}
theorem lev_some (F:List Nat):∃ es L,SErr F es∧(qae es=0→Lev F L):=by
 obtain ⟨es,hE⟩:=serr_ex F
 by_cases h0:qae es=0
 ·obtain ⟨L,hL⟩:=lev_ex F es hE (qbb h0)
  exact ⟨es,L,hE,fun _=>hL⟩
 ·exact ⟨es,[],hE,fun h=>absurd h h0⟩
attribute [local irreducible] Ty valOf
end Go.Tidy
namespace Go.Tidy
open Go Go.Proofs Tab
variable {tp:TProg}
section
variable {P:Program} {h:TH} {K:qan→TH→Prop} {rest:List TOper} {d:Option Tmp} {ty:TypeId} {i:Nat} {x y:Operand} {t u:TypeId} {L:Rg}
theorem WO.neb {a:qan} {b c:Bool} (hu:P.underlying t=some .bool) (hx:qbn a x=some (.bool b)) (hy:qbn a y=some (.bool c)) (w:WO P tp rest (a.put d (.bool (b != c))) h K):WO P tp (⟨d,.binOp .neq t x y u,ty,none,[],i⟩::rest) a h K:=by
  have ex:=qac hx
  have ey:=qac hy
  refine WO.plainly rfl rfl rfl (by simp [qbw,qcj,ex,ey]) (by simp [qbp,ex,ey,eqT_bool]) (qca (by rfl) (fun q hq=>?_) ?_ rfl) w
  · simp only [Op.operands] at hq
    simp at hq
    rcases hq with rfl | rfl
    · rw [ex];rfl
    · rw [ey];rfl
  · show pv P (execOp a.eval ⟨d, .binOp .neq t x y u, ty, "", #[], none⟩) = _
    simp [execOp,qch,pv_map,qcs,ex,ey,eqGuard,binOp,pv_eqb hu]
    cases b <;> cases c <;> rfl
theorem WOL.neb {b c:Bool} (hu:P.underlying t=some .bool) (hx:qbi L x=some (.bool b)) (hy:qbi L y=some (.bool c)) (w:∀ a,Kn (qdh L d (.bool (b != c))) a→WO P tp rest a h K):∀ a,Kn L a→WO P tp (⟨d,.binOp .neq t x y u,ty,none,[],i⟩::rest) a h K:=fun a k=>WO.neb hu (k.o hx) (k.o hy) (w _ (k.put d _))
theorem WOL.fne {b c:Nat} {m n:Int} (s:Samp b m) (s':Samp c n) (hx:qbi L x=some (.float .f32 b)) (hy:qbi L y=some (.float .f32 c)) (w:∀ a,Kn (qdh L d (.bool (!decide (m=n)))) a→WO P tp rest a h K):∀ a,Kn L a→WO P tp (⟨d,.binOp .neq t x y u,ty,none,[],i⟩::rest) a h K:=fun a k=>WO.fcmp (k.o hx) (k.o hy) s.nan s'.nan (s.cmp s').2 (w _ (k.put d _))
end
section
variable {s:ByteArray} {n:Int} {g:TH} {v1 v2 p1 p2:Value} {C:List (Int × Bool)} {c2 c3 c5':Nat}
end
end Go.Tidy
namespace Go.Tidy
open Go Go.Proofs Tab
variable {tp:TProg}
section
variable {s:ByteArray} {n:Int} {g:TH} {v1 v2 p1 p2:Value} {C:List (Int × Bool)} {c2 c3 c5':Nat}
theorem RunC.relock (r:RunC s n g v1 v2 C) (M:List Nat):RunC s n (g.withLock M) v1 v2 C:=by
 obtain ⟨F,es,r,c⟩:=r
 exact ⟨F,es,r.relock' M,c⟩
end
attribute [local irreducible] Ty valOf
end Go.Tidy
namespace Go.Tidy
open Go Go.Proofs Tab
variable {tp:TProg}
theorem RunC.away {s:ByteArray} {n:Int} {h h':TH} {v1 v2:Value} {C:List (Int × Bool)} {n0 c:Nat} {x:TB} (r:RunC s n h v1 v2 C) (a1:Above n0 v1) (a2:Above n0 v2) (p:Put h h' c x) (hc:c < n0):RunC s n h' v1 v2 C:=by
 obtain ⟨F,es,r,q⟩:=r
 exact ⟨F,es,(RunO.away (n0:=n0) ⟨r,a1,a2⟩ p hc).r,q⟩
theorem u5:Tryz.prog.underlying 5=some (.int .u8):=by kernel_rfl
section
variable {s:ByteArray} {n:Int} {g:TH} {v1 v2:Value} {C:List (Int × Bool)} {c2 c3:Nat}
end
end Go.Tidy
namespace Go.Tidy
open Go Go.Proofs Tab
variable {tp:TProg}
theorem Samp.order {b c:Nat} {n m:Int} (s:Samp b n) (t:Samp c m):Ieee.single.order b c=some (compare n m):=by
 obtain ⟨neg,q,h1,h2,h3⟩:=s.ok
 obtain ⟨neg',q',g1,g2,g3⟩:=t.ok
 obtain ⟨D,hD⟩:∃ D:Nat,2 ^ 149=D:=⟨_,rfl⟩
 have hDp:0 < D:=by rw [← hD];exact qar 149
 have e1:=h2 D hD
 have e2:=g2 D hD
 have a1:sg neg q*(16:Nat)=n*(D:Nat):=by rw [← qdz,e1,qdz,h3]
 have a2:sg neg' q'*(16:Nat)=m*(D:Nat):=by rw [← qdz,e2,qdz,g3]
 rw [h1.order g1]
 generalize sg neg q=x at *
 generalize sg neg' q'=y at *
 have hDi:(0:Int) < (D:Int):=by omega
 have hlt:x < y ↔ n < m:=by
  constructor
  ·intro hq
   have:n*(D:Int) < m*(D:Int):=by rw [← a1,← a2];omega
   exact Int.lt_of_mul_lt_mul_right this (by omega)
  ·intro hq
   have:n*(D:Int) < m*(D:Int):=Int.mul_lt_mul_of_pos_right hq hDi
   rw [← a1,← a2] at this
   omega
 have heq:x=y ↔ n=m:=by
  constructor
  ·intro hq
   rw [hq,a2] at a1
   exact (Int.eq_of_mul_eq_mul_right (by omega) a1).symm
  ·intro hq
   rw [hq,← a2] at a1
   omega
 congr 1
 show compareOfLessAndEq _ _=compareOfLessAndEq _ _
 unfold compareOfLessAndEq
 simp only [hlt,heq]
theorem cmp_lt {n m:Int}:(some (compare n m) == some Ordering.lt)=decide (n < m):=by
 show (some (compareOfLessAndEq n m) == some Ordering.lt)=_
 unfold compareOfLessAndEq
 by_cases h:n < m
 ·simp [h]
 ·by_cases h2:n=m
  ·simp [h2]
  ·simp [h,h2]
theorem cmp_gt {n m:Int}:(some (compare n m) == some Ordering.gt)=decide (m < n):=by
 show (some (compareOfLessAndEq n m) == some Ordering.gt)=_
 unfold compareOfLessAndEq
 by_cases h:n < m
 ·simp [h];omega
 ·by_cases h2:n=m
  ·simp [h2]
  ·have:m < n:=by omega
   simp [h,h2,this]
section
variable {P:Program} {h:TH} {K:qan→TH→Prop} {rest:List TOper} {d:Option Tmp} {ty:TypeId} {i:Nat} {x y:Operand} {t u:TypeId} {L:Rg}
theorem WOL.flt {b c:Nat} {m n:Int} (s:Samp b m) (s':Samp c n) (hx:qbi L x=some (.float .f32 b)) (hy:qbi L y=some (.float .f32 c)) (w:∀ a,Kn (qdh L d (.bool (decide (m < n)))) a→WO P tp rest a h K):∀ a,Kn L a→WO P tp (⟨d,.binOp .lss t x y u,ty,none,[],i⟩::rest) a h K:=fun a k=>WO.fcmp (k.o hx) (k.o hy) s.nan s'.nan (by show some (Ieee.single.order b c == some .lt)=some (decide (m < n));rw [s.order s',cmp_lt]) (w _ (k.put d _))
theorem WOL.fgt {b c:Nat} {m n:Int} (s:Samp b m) (s':Samp c n) (hx:qbi L x=some (.float .f32 b)) (hy:qbi L y=some (.float .f32 c)) (w:∀ a,Kn (qdh L d (.bool (decide (n < m)))) a→WO P tp rest a h K):∀ a,Kn L a→WO P tp (⟨d,.binOp .gtr t x y u,ty,none,[],i⟩::rest) a h K:=fun a k=>WO.fcmp (k.o hx) (k.o hy) s.nan s'.nan (by show some (Ieee.single.order b c == some .gt)=some (decide (n < m));rw [s.order s',cmp_gt]) (w _ (k.put d _))
end
end Go.Tidy
namespace Go.Tidy
open Go Go.Proofs Tab
variable {tp:TProg}
theorem WOL.si {P:Program} {tp:TProg} {h:TH} {K:qan→TH→Prop} {rest:List TOper} {d:Option Tmp} {ty:TypeId} {i:Nat} {x y:Operand} {t:TypeId} {L:Rg} {s:ByteArray} {k:IntKind} {j:Nat} (hx:qbi L x=some (.string s)) (hy:qbi L y=some (.int k (j:Nat))) (hu:P.underlying t=some .string) (hj:j < s.size) (w:∀ a,Kn (qdh L d (.int .u8 (s[j].toNat:Nat))) a→WO P tp rest a h K):∀ a,Kn L a→WO P tp (⟨d,.index t x y,ty,none,[],i⟩::rest) a h K:=fun a q=>WO.si (q.o hx) (q.o hy) hu hj (w _ (q.put d _))
theorem u228:Tryz.prog.underlying 253=some (.int .u64):=by kernel_rfl
end Go.Tidy
namespace Go.Tidy
open Go Go.Proofs Tab
variable {tp:TProg}
section
variable {P:Program} {h:TH} {K:qan→TH→Prop} {rest:List TOper} {d:Option Tmp} {ty:TypeId} {i:Nat} {x y:Operand} {t u:TypeId} {L:Rg}
theorem pv_shr {n:Int} {s:Nat} {yk:IntKind} {t:TypeId} (hs:s≤64) (h0:0≤n):pv P (binOp .shr t (.int .i64 n) (.int yk (s:Nat)))=some (.int .i64 (n / 2 ^ s)):=by
 show pv P (Op.shift .shr .i64 n yk s)=_
 unfold Op.shift
 rw [if_neg (by omega)]
 show some (Value.int .i64 (n.fdiv (2 ^ (min (s:Int).toNat IntKind.i64.bits))))=_
 have e:min (s:Int).toNat IntKind.i64.bits=s:=by
  have:IntKind.i64.bits=64:=rfl
  rw [this];omega
 rw [e,Int.fdiv_eq_ediv_of_nonneg _ (Int.le_of_lt (Int.pow_pos (by decide)))]
theorem WOL.pbin {op:BinOp} {vx vy v:Value} (hx:qbi L x=some vx) (hy:qbi L y=some vy) (px:plain vx=true) (py:plain vy=true) (hf:qcj op vx vy=none) (hq:op≠.eql∧op≠.neq) (hv:pv P (binOp op t vx vy)=some v) (hp:plain v=true) (w:∀ a,Kn (qdh L d v) a→WO P tp rest a h K):∀ a,Kn L a→WO P tp (⟨d,.binOp op t x y u,ty,none,[],i⟩::rest) a h K:=fun a k=>by
 have ex:=qac (k.o hx)
 have ey:=qac (k.o hy)
 refine WO.plainly rfl rfl rfl (by simp only [qbw,ex,ey];exact hf) (by cases op <;> first | rfl | exact absurd rfl hq.1 | exact absurd rfl hq.2) (qca (by rfl) (fun q hq=>?_) ?_ hp) (w _ (k.put d _))
 ·simp only [Op.operands] at hq
  simp at hq
  rcases hq with rfl | rfl
  ·rw [ex];exact px
  ·rw [ey];exact py
 ·have e:eqGuard op t x y vx vy=(pure ():Sem Unit):=by
   unfold eqGuard
   cases op <;> first | rfl | exact absurd rfl hq.1 | exact absurd rfl hq.2
  simp [toOper,execOp,qch,pv_map,qcs,ex,ey,e,hv]
theorem WOL.shr {n:Int} {s:Nat} {yk:IntKind} (hx:qbi L x=some (zi n)) (hy:qbi L y=some (.int yk (s:Nat))) (hs:s≤64) (h0:0≤n) (w:∀ a,Kn (qdh L d (zi (n / 2 ^ s))) a→WO P tp rest a h K):∀ a,Kn L a→WO P tp (⟨d,.binOp .shr t x y u,ty,none,[],i⟩::rest) a h K :=
 WOL.pbin hx hy rfl rfl (by show cond _ (fastInt .shr _ _ _) none=none;cases Nat.beq _ _ <;> rfl) ⟨by decide,by decide⟩ (pv_shr hs h0) rfl w
end
def encY (b:Nat):List Value:=[.int .u8 (b:Nat)]
theorem eY:Enc encY 1:=⟨fun _=>rfl,fun _=>rfl⟩
section
variable {h:TH} {v:Value} {l:List Nat} {c:Nat}
end
def totStep (x:Int) (b:Nat):Int:=(271*x+(b:Int)) % 16777213
def tot (l:List Nat):Int:=l.foldl totStep 1
def Byt (l:List Nat):Prop:=∀ b,b ∈ l→b < 256
theorem Byt.at {l:List Nat} (h:Byt l) (j:Nat):l.getD j 0 < 256:=by
 rw [List.getD_eq_getElem?_getD]
 cases hj:l[j]? with
 | none=>show (0:Nat) < 256;decide
 | some b=>exact h b (List.mem_of_getElem? hj)
section
variable {h:TH} {l:List Nat} {bo:Option Addr} {n k:Nat}
end
end Go.Tidy
namespace Go.Tidy
open Go Go.Proofs Tab
variable {tp:TProg}
def trcV (n:Int) (v1 v2:Value):Value:=.agg #[.int .i64 n,v1,v2]
structure TrcH (h:TH) (v1 v2:Value) (L:List Int) (S:List (Int × Int)):Prop where
 l:SlL encI 1 h v1 L
 s:SlL encS 2 h v2 S
 g:Fits h v1 3
theorem TrcH.hx {h h':TH} {v1 v2:Value} {L:List Int} {S:List (Int × Int)} (r:TrcH h v1 v2 L S) (x:HX h h'):TrcH h' v1 v2 L S:=⟨r.l.hx x,r.s.hx x,r.g.hx x⟩
theorem TrcH.relock {h:TH} {v1 v2:Value} {L:List Int} {S:List (Int × Int)} (r:TrcH h v1 v2 L S) (M:List Nat):TrcH (h.withLock M) v1 v2 L S:=⟨r.l.relock M,r.s.relock M,fun b off m cap e=>by
 obtain ⟨cc,fix,wr,el,r1,r2⟩:=r.g b off m cap e
 exact ⟨cc,fix,wr,el,r1.relock _,r2⟩⟩
def readE (x:Int):Int:=outB x (-1073741824) 1073741824
def qbk (n:Int) (L:List Int) (S:List (Int × Int)):Int :=
 qae [outB n 0 100000000,cond (decide ((L.length:Int) > 4096)) 5 0,cond (decide (n+(L.length:Int) > 100000000)) 4 0,qae (L.map readE),cond (qay L.length (-1) S != 0) (qay L.length (-1) S) (formE L S)]
def chordE (a b:Int):Int:=qae [outB a 1 32,outB b 1 32]
theorem tp1114:Tp Tryz.prog 52 3 [.int .i64 0,.slice none 0 0,.slice none 0 0] true:=tp_of (by kernel_rfl) (by kernel_rfl) rfl
theorem tp1117:Tp Tryz.prog 55 3 [.int .i64 0,.slice none 0 0,.slice none 0 0] true:=tp_of (by kernel_rfl) (by kernel_rfl) rfl
theorem tp1112:Tp Tryz.prog 23 2 [.int .i64 0,.int .i64 0] true:=tp_of (by kernel_rfl) (by kernel_rfl) rfl
theorem tp1128:Tp Tryz.prog 31 2 [.int .i64 0,.int .i64 0] true:=tp_of (by kernel_rfl) (by kernel_rfl) rfl
theorem tp29:Tp Tryz.prog 24 1 [.slice none 0 0] false:=tp_of (by kernel_rfl) (by kernel_rfl) rfl
theorem fo1114_0:qbe Tryz.prog 52 0=some 0:=by kernel_rfl
theorem qcm:qbe Tryz.prog 52 1=some 1:=by kernel_rfl
theorem qdk:qbe Tryz.prog 52 2=some 2:=by kernel_rfl
theorem qcf:qbe Tryz.prog 55 0=some 0:=by kernel_rfl
theorem qau:qbe Tryz.prog 55 1=some 1:=by kernel_rfl
theorem fo1117_2:qbe Tryz.prog 55 2=some 2:=by kernel_rfl
theorem fo1112_0:qbe Tryz.prog 23 0=some 0:=by kernel_rfl
theorem fo1112_1:qbe Tryz.prog 23 1=some 1:=by kernel_rfl
theorem fo1128_0:qbe Tryz.prog 31 0=some 0:=by kernel_rfl
theorem fo1128_1:qbe Tryz.prog 31 1=some 1:=by kernel_rfl
section
variable {h:TH}
theorem k1191 (H:Has tp) (x:Int) (h:TH):qad Tryz.prog tp (.func (.func 99) #[] #[]) #[zi x] h fun v h'=>v=zi (readE x)∧h'=h:=by
 refine qad.fnL (H.fn 99 f1191 rfl rfl) ?_
 refine WL.sr<|WOL.as rfl<|WOL.nil ?_
 refine WL.sr<|WOL.mv rfl<|WOL.cl3 rfl rfl rfl rfl ((k72 H x _ _ _).mono ?_)
 rintro v h2 ⟨rfl,rfl⟩
 exact WOL.as rfl<|WOL.nil<|WL.ret (WL.end_ rfl ⟨rfl,rfl⟩)
theorem k1187 (H:Has tp) (x:Int) (h:TH):qad Tryz.prog tp (.func (.func 95) #[] #[]) #[zi x] h fun v h'=>v=zi (readE x)∧h'=h:=by
 refine qad.fnL (H.fn 95 f1187 rfl rfl) ?_
 refine WL.sr<|WOL.as rfl<|WOL.nil ?_
 refine WL.sr<|WOL.mv rfl<|WOL.cl3 rfl rfl rfl rfl ((k14 H x _ _ _).mono ?_)
 rintro v h2 ⟨rfl,rfl⟩
 exact WOL.as rfl<|WOL.nil<|WL.ret (WL.end_ rfl ⟨rfl,rfl⟩)
theorem k1121 (H:Has tp) (a b:Int) (h:TH):qad Tryz.prog tp (.func (.func 73) #[] #[]) #[.agg #[zi a,zi b]] h fun v h'=>v=zi (chordE a b)∧HX h h':=by
 refine qad.fnL (H.fn 73 f1121 rfl rfl) ?_
 refine WL.sr<|WOL.box rfl fun h1 N1=>WOL.as rfl<|WOL.nil<|keep [(1,_)] ⟨rfl,trivial⟩ ?_
 have A1:At h1 h.next (.cells [zi a,zi b] true true 31):=N1.at_
 refine WL.sr<|WOL.fa rfl (qaf fo1128_0)<|WOL.ld rfl (qaa tp3 A1 rfl)<|WOL.fa rfl (qaf fo1128_1)<|WOL.ld rfl (qaa tp3 A1 rfl) ?_
 refine WOL.lk3 rfl rfl rfl rfl fun M=>((k72 H a 1 32 _).mono ?_)
 rintro v h2 ⟨rfl,rfl⟩
 refine WOL.cl3 rfl rfl rfl rfl ((k72 H b 1 32 _).mono ?_)
 rintro v h3 ⟨rfl,rfl⟩
 refine WOL.bsl rfl u166 tp30 (by decide) (by decide) (by decide) (qcn _ _) fun h5 N5=>?_
 refine WOL.cl1 rfl rfl ((k71 H (l:=[_,_]) N5.at_.get (by simp)).mono ?_)
 rintro v h6 ⟨rfl,rfl⟩
 exact WOL.as rfl<|WOL.nil<|WL.ret (WL.end_ rfl ⟨rfl,N1.hx.trans N5.hx⟩)
theorem k1122 (H:Has tp) (a b:Int) (h:TH):qad Tryz.prog tp (.func (.func 15) #[] #[]) #[.agg #[zi a,zi b]] h fun v h'=>v=zi (chordE a b)∧HX h h':=by
 refine qad.fnL (H.fn 15 f1122 rfl rfl) ?_
 refine WL.sr<|WOL.box rfl fun h1 N1=>WOL.as rfl<|WOL.nil<|keep [(1,_)] ⟨rfl,trivial⟩ ?_
 have A1:At h1 h.next (.cells [zi a,zi b] true true 23):=N1.at_
 refine WL.sr<|WOL.fa rfl (qaf fo1112_0)<|WOL.ld rfl (qaa tp3 A1 rfl)<|WOL.fa rfl (qaf fo1112_1)<|WOL.ld rfl (qaa tp3 A1 rfl) ?_
 refine WOL.lk3 rfl rfl rfl rfl fun M=>((k14 H a 1 32 _).mono ?_)
 rintro v h2 ⟨rfl,rfl⟩
 refine WOL.cl3 rfl rfl rfl rfl ((k14 H b 1 32 _).mono ?_)
 rintro v h3 ⟨rfl,rfl⟩
 refine WOL.bsl rfl u29 tp3 (by decide) (by decide) (by decide) (qcn _ _) fun h5 N5=>?_
 refine WOL.cl1 rfl rfl ((k13 H (l:=[_,_]) N5.at_.get (by simp)).mono ?_)
 rintro v h6 ⟨rfl,rfl⟩
 exact WOL.as rfl<|WOL.nil<|WL.ret (WL.end_ rfl ⟨rfl,N1.hx.trans N5.hx⟩)
theorem k1183 (H:Has tp) {n:Int} {v1 v2:Value} {L:List Int} (s:SlL encI 1 h v1 L):qad Tryz.prog tp (.func (.func 91) #[] #[]) #[trcV n v1 v2] h fun v h'=>v=zi (qbm .i64 (n+L.length))∧HX h h':=by
 refine qad.fnL (H.fn 91 f1183 rfl rfl) ?_
 refine WL.sr<|WOL.box rfl fun h1 N1=>WOL.as rfl<|WOL.nil<|keep [(1,_)] ⟨rfl,trivial⟩ ?_
 have A1:At h1 h.next (.cells [zi n,v1,v2] true true 55):=N1.at_
 refine WL.sr<|WOL.fa rfl (qaf qcf)<|WOL.ld rfl (qaa tp3 A1 rfl)<|WOL.fa rfl (qaf qau)<|WOL.ld rfl (qaa tp29 A1 rfl)<|WOL.len rfl (s.hx N1.hx) u29<|WOL.bi (v:=zi (qbm .i64 (n+L.length))) rfl rfl rfl<|WOL.as rfl<|WOL.nil ?_
 exact WL.ret (WL.end_ rfl ⟨rfl,N1.hx⟩)
end
theorem fNZ_at {E:List Int} {j:Nat} {e:Int} (h1:∀ i,i < j→E.getD i 0=0) (h2:E[j]?=some e) (h3:e≠0):qae E=e:=by
 rw [qec h1]
 have hj:=(List.getElem?_eq_some_iff.1 h2).1
 rw [List.drop_eq_getElem_cons hj,(List.getElem?_eq_some_iff.1 h2).2]
 show cond (e != 0) e _=e
 rw [bne_iff_ne.2 h3];rfl
theorem fNZ_all {E:List Int} (h:∀ i,i < E.length→E.getD i 0=0):qae E=0:=by
 rw [qec h,List.drop_length];rfl
section
variable {h:TH} {v:Value} {L:List Int}
set_option maxHeartbeats 1000000 in
theorem k1190 (H:Has tp) (s:SlL encI 1 h v L) (hl:L.length≤1000000) {f:Int→Int} {fv:Value} (hf:∀ x,qad Tryz.prog tp fv #[zi x] h fun v h'=>v=zi (f x)∧h'=h):qad Tryz.prog tp (.func (.func 98) #[] #[]) #[v,fv] h fun w h'=>w=zi (qae (L.map f))∧h'=h:=by
  refine qad.fnL (H.fn 98 f1190 rfl rfl) ?_
  refine WL.sr<|WOL.as rfl<|WOL.nil ?_
  refine WL.seq<|WL.sr<|WOL.mv rfl<|WOL.len rfl s u29<|WOL.mv rfl<|WOL.nil<|keep [(1,_),(8,_),(9,_),(10,_)] ⟨rfl,rfl,rfl,rfl,trivial⟩ ?_
  refine WL.upto (α:=Unit) L.length (fun j _ g=>g=h∧∀ i,i < j→(L.map f).getD i 0=0) (fun _ _=>[(1,fv),(8,v),(9,zi (L.length:Nat))]) () rfl rfl (by omega) ⟨rfl,fun i hi=>absurd hi (by omega)⟩ ⟨rfl,rfl,rfl,rfl,trivial⟩ (fun _ _=>rfl) (fun _ _ _=>⟨rfl,rfl,rfl,rfl,trivial⟩) (fun _ _ _=>⟨rfl,rfl,rfl,rfl,trivial⟩) ?_ ?_
  · rintro j _ g hj ⟨rfl,hz⟩
    have hp:L[j]?=some L[j]:=List.getElem?_eq_getElem hj
    generalize L[j]=x at hp
    obtain ⟨b,o,cc,fix,wr,el,g1,g2,g3,g4,g5⟩:=s.at eI u29 tp3 hp .i64
    have he:(L.map f)[j]?=some (f x):=by rw [List.getElem?_map,hp];rfl
    refine WL.sr<|WOL.ix rfl rfl g1<|WOL.ld rfl (qaa tp3 g2 (by have:=g5 0 (by decide);rwa [Nat.add_zero] at this))<|WOL.as rfl<|WOL.nil<|keep [(1,_),(6,_),(8,_),(9,_),(10,_)] ⟨rfl,rfl,rfl,rfl,rfl,trivial⟩ ?_
    refine WL.sr<|WOL.mv rfl<|WOL.mv rfl<|WOL.cl1 rfl rfl ((hf x).mono ?_)
    rintro w g' ⟨rfl,rfl⟩
    refine WOL.as rfl<|WOL.nil<|keep [(1,_),(7,_),(8,_),(9,_),(10,_)] ⟨rfl,rfl,rfl,rfl,rfl,trivial⟩ ?_
    by_cases h0:f x=0
    · refine WL.sr<|WOL.mv rfl<|WOL.bf rfl rfl rfl (bne_eq_false_iff_eq.2 h0)<|WOL.nil<|keep [(1,_),(8,_),(9,_),(10,_),(18,_)] ⟨rfl,rfl,rfl,rfl,rfl,trivial⟩ ?_
      refine WL.no rfl<|WL.skip fun a q=>⟨(),⟨rfl,fun i hi=>?_⟩,q.sub ⟨rfl,rfl,rfl,rfl,trivial⟩⟩
      by_cases e:i=j
      · subst e
        rw [List.getD_eq_getElem?_getD,he]
        exact h0
      · exact hz i (by omega)
    · refine WL.sr<|WOL.mv rfl<|WOL.bt rfl rfl rfl (bne_iff_ne.2 h0)<|WOL.nil<|keep [(7,_),(18,_)] ⟨rfl,rfl,trivial⟩ ?_
      refine WL.yes rfl<|WL.sr<|WOL.mv rfl<|WOL.as rfl<|WOL.nil ?_
      exact WL.ret (WL.end_ rfl ⟨by rw [fNZ_at hz he h0];rfl,rfl⟩)
  · rintro _ g ⟨rfl,hz⟩
    refine WL.sr<|WOL.as rfl<|WOL.nil ?_
    exact WL.ret (WL.end_ rfl ⟨by rw [fNZ_all (fun i hi=>hz i (by rw [List.length_map] at hi;exact hi))];rfl,rfl⟩)
end
end Go.Tidy
namespace Go.Tidy
open Go Go.Proofs Tab
variable {tp:TProg}
theorem WOL.cut {P:Program} {tp:TProg} {h:TH} {K:qan→TH→Prop} {ops:List TOper} {L:Rg} (n:Nat) (M:Rg) (w1:∀ a,Kn L a→WO P tp (ops.take n) a h (fun a' h'=>h'=h∧Kn M a')) (w2:∀ a,Kn M a→WO P tp (ops.drop n) a h K):∀ a,Kn L a→WO P tp ops a h K :=
 fun a k=>WO.cut n ((w1 a k).mono fun a' h' ⟨e,k'⟩=>by subst e;exact w2 a' k')
theorem SlL.part {α:Type} {enc:α→List Value} {n:Nat} {h:TH} {b off m cap lo hi:Nat} {l:List α} (E:Enc enc n) (s:SlL enc n h (.slice (some ⟨b,off,none⟩) m cap) l) (h1:lo≤hi) (h2:hi≤l.length):SlL enc n h (.slice (some ⟨b,off+lo*n,none⟩) (hi - lo) (cap - lo)) ((l.drop lo).take (hi - lo)):=by
 have e:((l.drop lo).take (hi - lo)).length=hi - lo:=by rw [List.length_take,List.length_drop];omega
 obtain ⟨bo,cap',e1,hc,hl,hh⟩:=s
 cases e1
 rcases hh with ⟨q,_⟩ | ⟨b',off',cc,fix,wr,el,q1,A,q2,q3⟩
 ·cases q
 ·cases q1
  have hm:hi*n≤l.length*n:=Nat.mul_le_mul_right _ h2
  have hlo:lo*n+(hi - lo)*n=hi*n:=by rw [← Nat.add_mul];congr 1;omega
  refine ⟨_,cap - lo,by rw [e],by rw [e];omega,by rw [E.cat_len],.inr ⟨b,off+lo*n,cc,fix,wr,el,rfl,A,?_,by rw [e];omega⟩⟩
  rw [e,← E.take,← E.drop,← q2,List.drop_take,List.take_take,List.drop_drop,Nat.min_eq_left (by omega)]
theorem filled_ints5 (a b c d e:Int):filled 1 5 [.int .i64 0] [(0,.int .i64 a),(1,.int .i64 b),(2,.int .i64 c),(3,.int .i64 d),(4,.int .i64 e)]=some ([a,b,c,d,e].map (.int .i64)):=rfl
section
variable {h:TH} {n:Int} {v1 v2:Value} {L:List Int} {S:List (Int × Int)}
set_option maxHeartbeats 4000000 in
set_option maxRecDepth 10000 in
theorem k1192 (H:Has tp) (r:TrcH h v1 v2 L S) (hL:L.length≤1000000) (hS:S.length≤1000000) (f:Free0 h.next h):qad Tryz.prog tp (.func (.func 144) #[] #[]) #[v1,v2] h fun v h'=>v=zi (cond (qay L.length (-1) S != 0) (qay L.length (-1) S) (formE L S))∧HX h h':=by
  refine qad.fnL (H.fn 144 f1192 rfl rfl) ?_
  refine WL.sr<|WOL.as rfl<|WOL.nil ?_
  refine WL.sr<|WOL.as rfl<|WOL.nil<|keep [(0,_),(1,_),(4,_),(5,_)] ⟨rfl,rfl,rfl,rfl,trivial⟩ ?_
  refine WL.seq<|WL.sr<|WOL.mv rfl<|WOL.len rfl r.s u44<|WOL.mv rfl<|WOL.nil<|keep [(0,_),(1,_),(4,_),(5,_),(14,_),(15,_),(16,_)] ⟨rfl,rfl,rfl,rfl,rfl,rfl,rfl,trivial⟩ ?_
  refine WL.upto (α:=Int) S.length (fun j prev g=>HX h g∧qay L.length (-1) S=qay L.length prev (S.drop j)) (fun _ prev=>[(0,v1),(1,v2),(4,zi 0),(5,zi prev),(14,v2),(15,zi (S.length:Nat))]) (-1) rfl rfl (by omega) ⟨HX.refl _,rfl⟩ ⟨rfl,rfl,rfl,rfl,rfl,rfl,rfl,trivial⟩ (fun _ _=>rfl) (fun _ _ _=>⟨rfl,rfl,rfl,rfl,rfl,rfl,rfl,trivial⟩) (fun _ _ _=>⟨rfl,rfl,rfl,rfl,rfl,rfl,rfl,trivial⟩) ?_ ?_
  · rintro j prev g hj ⟨X,hE⟩
    have hp:S[j]?=some S[j]:=List.getElem?_eq_getElem hj
    have hd:S.drop j=S[j]::S.drop (j+1):=List.drop_eq_getElem_cons hj
    generalize S[j]=p at hp hd
    obtain ⟨p1,p2⟩:=p
    rw [hd,qcz] at hE
    obtain ⟨b,o,cc,fix,wr,el,g1,g2,g3,g4,g5⟩:=(r.s.hx X).at eS u44 tp48 hp .i64
    refine WL.sr<|WOL.ix rfl rfl g1<|WOL.ld rfl (qab tp48 g2 g4 g3)<|WOL.al tp48 fun i1 M1=>?_
    refine WOL.sto (vs:=encS (p1,p2)) rfl rfl tp48 M1.at_ rfl rfl (Nat.le_of_ble_eq_true rfl) rfl (f.hx (X.trans M1.hx)) X.next fun i2 M2=>?_
    have A7:At i2 g.next (.cells [zi p1,zi p2] true true 77):=M2.at_
    have XI:HX g i2:=M2.hx _ M1.hx (Nat.le_refl _)
    have r2:=r.hx (X.trans XI)
    refine WOL.nil<|keep [(0,_),(1,_),(4,_),(5,_),(7,_),(14,_),(15,_),(16,_)] ⟨rfl,rfl,rfl,rfl,rfl,rfl,rfl,rfl,trivial⟩ ?_
    refine WL.sr<|WOL.cut 17 [(0,v1),(1,v2),(4,zi 0),(5,zi prev),(7,ptr g.next),(14,v2),(15,zi (S.length:Nat)),(16,zi (j:Nat)),(36,.bool (badS L.length (p1,p2)))] ?_ ?_
    · by_cases c1:p1 < 0
      · rw [show badS L.length (p1,p2)=true by unfold badS;rw [decide_eq_true c1];rfl]
        repeat' (first
    | (refine WOL.fa rfl (qaf qcq) ?_)
    | (refine WOL.fa rfl (qaf qcl) ?_)
    | (refine WOL.ld rfl (qaa tp3 A7 rfl) ?_)
    | (refine WOL.bt rfl rfl rfl (by first | exact decide_eq_true (by omega) | exact beq_iff_eq.2 (by omega) | exact bne_iff_ne.2 (by omega)) ?_)
    | refine WOL.now (b:=true) rfl rfl ?_ | refine WOL.now (b:=false) rfl rfl ?_
    | refine WOL.skp (b:=true) rfl rfl ?_ | refine WOL.skp (b:=false) rfl rfl ?_ | refine WOL.gu rfl rfl ?_
    | refine WOL.mv rfl ?_ | refine WOL.as rfl ?_
    | refine WOL.bi rfl rfl rfl ?_ | refine WOL.nt rfl ?_
    | refine WOL.pkt rfl rfl ?_ | refine WOL.pkf rfl rfl ?_)
        exact WOL.nil fun a q=>⟨rfl,q.sub ⟨rfl,rfl,rfl,rfl,rfl,rfl,rfl,rfl,rfl,trivial⟩⟩
      · by_cases c2:p2≤p1
        · rw [show badS L.length (p1,p2)=true by unfold badS;rw [decide_eq_false c1,decide_eq_true c2];rfl]
          repeat' (first
    | (refine WOL.fa rfl (qaf qcq) ?_)
    | (refine WOL.fa rfl (qaf qcl) ?_)
    | (refine WOL.ld rfl (qaa tp3 A7 rfl) ?_)
    | (refine WOL.bf rfl rfl rfl (by first | exact decide_eq_false (by omega) | exact beq_eq_false_iff_ne.2 (by omega) | exact bne_eq_false_iff_eq.2 (by omega)) ?_)
    | (refine WOL.bt rfl rfl rfl (by first | exact decide_eq_true (by omega) | exact beq_iff_eq.2 (by omega) | exact bne_iff_ne.2 (by omega)) ?_)
    | refine WOL.now (b:=true) rfl rfl ?_ | refine WOL.now (b:=false) rfl rfl ?_
    | refine WOL.skp (b:=true) rfl rfl ?_ | refine WOL.skp (b:=false) rfl rfl ?_ | refine WOL.gu rfl rfl ?_
    | refine WOL.mv rfl ?_ | refine WOL.as rfl ?_
    | refine WOL.bi rfl rfl rfl ?_ | refine WOL.nt rfl ?_
    | refine WOL.pkt rfl rfl ?_ | refine WOL.pkf rfl rfl ?_)
          exact WOL.nil fun a q=>⟨rfl,q.sub ⟨rfl,rfl,rfl,rfl,rfl,rfl,rfl,rfl,rfl,trivial⟩⟩
        · by_cases c3:(L.length:Int) < p2
          · rw [show badS L.length (p1,p2)=true by unfold badS;rw [decide_eq_false c1,decide_eq_false c2,decide_eq_true c3];rfl]
            repeat' (first
    | (refine WOL.fa rfl (qaf qcq) ?_)
    | (refine WOL.fa rfl (qaf qcl) ?_)
    | (refine WOL.ld rfl (qaa tp3 A7 rfl) ?_)
    | (refine WOL.len rfl r2.l u29 ?_)
    | (refine WOL.bf rfl rfl rfl (by first | exact decide_eq_false (by omega) | exact beq_eq_false_iff_ne.2 (by omega) | exact bne_eq_false_iff_eq.2 (by omega)) ?_)
    | (refine WOL.bt rfl rfl rfl (by first | exact decide_eq_true (by omega) | exact beq_iff_eq.2 (by omega) | exact bne_iff_ne.2 (by omega)) ?_)
    | refine WOL.now (b:=true) rfl rfl ?_ | refine WOL.now (b:=false) rfl rfl ?_
    | refine WOL.skp (b:=true) rfl rfl ?_ | refine WOL.skp (b:=false) rfl rfl ?_ | refine WOL.gu rfl rfl ?_
    | refine WOL.mv rfl ?_ | refine WOL.as rfl ?_
    | refine WOL.bi rfl rfl rfl ?_ | refine WOL.nt rfl ?_
    | refine WOL.pkt rfl rfl ?_ | refine WOL.pkf rfl rfl ?_)
            exact WOL.nil fun a q=>⟨rfl,q.sub ⟨rfl,rfl,rfl,rfl,rfl,rfl,rfl,rfl,rfl,trivial⟩⟩
          · rw [show badS L.length (p1,p2)=false by unfold badS;rw [decide_eq_false c1,decide_eq_false c2,decide_eq_false c3];rfl]
            repeat' (first
    | (refine WOL.fa rfl (qaf qcq) ?_)
    | (refine WOL.fa rfl (qaf qcl) ?_)
    | (refine WOL.ld rfl (qaa tp3 A7 rfl) ?_)
    | (refine WOL.len rfl r2.l u29 ?_)
    | (refine WOL.bf rfl rfl rfl (by first | exact decide_eq_false (by omega) | exact beq_eq_false_iff_ne.2 (by omega) | exact bne_eq_false_iff_eq.2 (by omega)) ?_)
    | refine WOL.now (b:=true) rfl rfl ?_ | refine WOL.now (b:=false) rfl rfl ?_
    | refine WOL.skp (b:=true) rfl rfl ?_ | refine WOL.skp (b:=false) rfl rfl ?_ | refine WOL.gu rfl rfl ?_
    | refine WOL.mv rfl ?_ | refine WOL.as rfl ?_
    | refine WOL.bi rfl rfl rfl ?_ | refine WOL.nt rfl ?_
    | refine WOL.pkt rfl rfl ?_ | refine WOL.pkf rfl rfl ?_)
            exact WOL.nil fun a q=>⟨rfl,q.sub ⟨rfl,rfl,rfl,rfl,rfl,rfl,rfl,rfl,rfl,trivial⟩⟩
    · show ∀ a,Kn _ a→WO _ _ (r1192_5.drop 17) a i2 _
      refine WOL.fa rfl (qaf qcq)<|WOL.ld rfl (qaa tp3 A7 rfl)<|WOL.mv rfl<|WOL.bi (v:=.bool (decide (p1≤prev))) rfl rfl rfl ?_
      refine WOL.lk2 rfl rfl rfl fun M=>((k77 H _ _ _).mono ?_)
      rintro v h3 ⟨rfl,rfl⟩
      rw [TH.relock]
      refine WOL.cl2 rfl rfl rfl ((k77 H _ _ _).mono ?_)
      rintro v h4 ⟨rfl,rfl⟩
      refine WOL.bsl rfl u166 tp30 (by decide) (by decide) (by decide) (qcn _ _) fun h5 N5=>?_
      refine WOL.cl1 rfl rfl ((k71 H (l:=[_,_]) N5.at_.get (by simp)).mono ?_)
      rintro v h6 ⟨rfl,rfl⟩
      refine WOL.as rfl<|WOL.nil<|keep [(0,_),(1,_),(4,_),(5,_),(7,_),(8,_),(14,_),(15,_),(16,_)] ⟨rfl,rfl,rfl,rfl,rfl,rfl,rfl,rfl,rfl,trivial⟩ ?_
      replace A7:=A7.hx N5.hx
      have Z:=(X.trans XI).trans N5.hx
      have e2:qae [cond (badS L.length (p1,p2)) 14 0,cond (decide (p1≤prev)) 11 0]=cond (badS L.length (p1,p2)) 14 (cond (decide (p1≤prev)) 11 0):=by
        cases badS L.length (p1,p2) <;> cases decide (p1≤prev) <;> rfl
      rw [e2]
      cases hb:badS L.length (p1,p2) with
      | true =>
        rw [hb] at hE
        replace hE:qay L.length (-1) S=14:=hE
        refine WL.seq<|WL.sr<|WOL.mv rfl<|WOL.bt rfl rfl rfl rfl<|WOL.nil<|keep [(8,_),(46,_)] ⟨rfl,rfl,trivial⟩ ?_
        refine WL.yes rfl<|WL.sr<|WOL.mv rfl<|WOL.as rfl<|WOL.nil ?_
        exact WL.ret (WL.end_ rfl ⟨by rw [hE];rfl,Z⟩)
      | false =>
        rw [hb] at hE
        cases hc:decide (p1≤prev) with
        | true =>
          rw [hc] at hE
          replace hE:qay L.length (-1) S=11:=hE
          refine WL.seq<|WL.sr<|WOL.mv rfl<|WOL.bt rfl rfl rfl rfl<|WOL.nil<|keep [(8,_),(46,_)] ⟨rfl,rfl,trivial⟩ ?_
          refine WL.yes rfl<|WL.sr<|WOL.mv rfl<|WOL.as rfl<|WOL.nil ?_
          exact WL.ret (WL.end_ rfl ⟨by rw [hE];rfl,Z⟩)
        | false =>
          rw [hc] at hE
          refine WL.seq<|WL.sr<|WOL.mv rfl<|WOL.bf rfl rfl rfl rfl<|WOL.nil<|keep [(0,_),(1,_),(4,_),(5,_),(7,_),(14,_),(15,_),(16,_),(46,_)] ⟨rfl,rfl,rfl,rfl,rfl,rfl,rfl,rfl,rfl,trivial⟩ ?_
          refine WL.no rfl<|WL.skip ?_
          refine WL.reg<|WOL.fa rfl (qaf qcl)<|WOL.ld rfl (qaa tp3 A7 rfl)<|WOL.as rfl<|WOL.nil fun a q=>⟨p2,⟨Z,hE⟩,q.sub ⟨rfl,rfl,rfl,rfl,rfl,rfl,rfl,trivial⟩⟩
  · rintro prev g ⟨X,hE⟩
    rw [List.drop_length] at hE
    replace hE:qay L.length (-1) S=0:=hE
    have hin:=qct hE
    rw [hE]
    show ∀ a,_→W _ _ _ _ a g (Fin _ _ fun v h'=>v=zi (formE L S)∧HX h h')
    refine WL.sr<|WOL.as rfl<|WOL.nil<|keep [(0,_),(1,_),(9,_)] ⟨rfl,rfl,rfl,trivial⟩ ?_
    refine WL.seq<|WL.sr<|WOL.mv rfl<|WOL.len rfl (r.s.hx X) u44<|WOL.mv rfl<|WOL.nil<|keep [(0,_),(9,_),(51,_),(52,_),(53,_)] ⟨rfl,rfl,rfl,rfl,rfl,trivial⟩ ?_
    refine WL.upto (α:=Unit) S.length (fun j _ g=>HX h g∧(S.take j).any (qdo L)=false) (fun _ _=>[(0,v1),(9,zi 0),(51,v2),(52,zi (S.length:Nat))]) () rfl rfl (by omega) ⟨X,by simp⟩ ⟨rfl,rfl,rfl,rfl,rfl,trivial⟩ (fun _ _=>rfl) (fun _ _ _=>⟨rfl,rfl,rfl,rfl,rfl,trivial⟩) (fun _ _ _=>⟨rfl,rfl,rfl,rfl,rfl,trivial⟩) ?_ ?_
    · rintro j _ g hj ⟨X,hz⟩
      have hp:S[j]?=some S[j]:=List.getElem?_eq_getElem hj
      obtain ⟨q1,q2,q3⟩:=hin S[j] (List.getElem_mem hj)
      have hany:(S.take (j+1)).any (qdo L)=((S.take j).any (qdo L) || qdo L S[j]):=by
        rw [← List.take_append_getElem hj,List.any_append];simp
      rw [hz,Bool.false_or] at hany
      have hmem:S[j] ∈ S:=List.getElem_mem hj
      generalize S[j]=p at *
      obtain ⟨p1,p2⟩:=p
      replace q1:0≤p1:=q1
      replace q2:p1≤p2:=q2
      replace q3:p2≤(L.length:Int):=q3
      obtain ⟨lo,rfl⟩:∃ lo:Nat,p1=(lo:Int):=⟨p1.toNat,by omega⟩
      obtain ⟨hi,rfl⟩:∃ hi:Nat,p2=(hi:Int):=⟨p2.toNat,by omega⟩
      obtain ⟨b,o,cc,fix,wr,el,g1,g2,g3,g4,g5⟩:=(r.s.hx X).at eS u44 tp48 hp .i64
      refine WL.sr<|WOL.ix rfl rfl g1<|WOL.ld rfl (qab tp48 g2 g4 g3)<|WOL.al tp48 fun i1 M1=>?_
      refine WOL.sto (vs:=encS ((lo:Int),(hi:Int))) rfl rfl tp48 M1.at_ rfl rfl (Nat.le_of_ble_eq_true rfl) rfl (f.hx (X.trans M1.hx)) X.next fun i2 M2=>?_
      have A7:At i2 g.next (.cells [zi (lo:Nat),zi (hi:Nat)] true true 77):=M2.at_
      have XI:HX g i2:=M2.hx _ M1.hx (Nat.le_refl _)
      have r2:=r.hx (X.trans XI)
      refine WOL.nil<|keep [(0,_),(9,_),(11,_),(51,_),(52,_),(53,_)] ⟨rfl,rfl,rfl,rfl,rfl,rfl,trivial⟩ ?_
      have hlt:lo < hi:=by have:=holeE_lt hE _ hmem;replace this:(lo:Int) < (hi:Int):=this;omega
      obtain ⟨bo,cap,ev,hcap,hlen,hh⟩:=id r2.l
      subst ev
      rcases hh with ⟨rfl,hm⟩ | ⟨b',off,cc',fix',wr',el',rfl,AA,_,_⟩
      · omega
      obtain ⟨cc2,fix2,wr2,el2,A2,hf2⟩:=r2.g b' off _ cap rfl
      have sp:=SlL.part eI r2.l (lo:=lo) (hi:=hi) (by omega) (by omega)
      have lp:((L.drop lo).take (hi - lo)).length=hi - lo:=by rw [List.length_take,List.length_drop];omega
      have ea:qdo L ((lo:Int),(hi:Int))=((L.drop lo).take (hi - lo)).any (· != 0):=by unfold qdo;rfl
      refine WL.sr<|WOL.mv rfl<|WOL.fa rfl (qaf qcq)<|WOL.ld rfl (qaa tp3 A7 rfl)<|WOL.fa rfl (qaf qcl)<|WOL.ld rfl (qaa tp3 A7 rfl)<|WOL.sl rfl rfl rfl (sliceT_at u29 tp3 hcap (by omega) (by omega) A2 hf2)<|WOL.len rfl sp u29<|WOL.mv rfl<|WOL.nil<|keep [(0,_),(9,_),(51,_),(52,_),(53,_),(62,_),(63,_),(64,_)] ⟨rfl,rfl,rfl,rfl,rfl,rfl,rfl,rfl,trivial⟩ ?_
      generalize (L.drop lo).take (hi - lo)=PL at *
      refine WL.upto (α:=Unit) PL.length (fun k _ g=>g=i2∧∀ i,i < k→PL.getD i 0=0) (fun _ _=>[(0,_),(9,zi 0),(51,v2),(52,zi (S.length:Nat)),(53,zi (j:Nat)),(62,.slice (some ⟨b',off+lo*1,none⟩) (hi - lo) (cap - lo)),(63,zi (PL.length:Nat))]) () rfl rfl (by omega) ⟨rfl,fun i hi=>absurd hi (by omega)⟩ ⟨rfl,rfl,rfl,rfl,rfl,rfl,rfl,rfl,trivial⟩ (fun _ _=>rfl) (fun _ _ _=>⟨rfl,rfl,rfl,rfl,rfl,rfl,rfl,rfl,trivial⟩) (fun _ _ _=>⟨rfl,rfl,rfl,rfl,rfl,rfl,rfl,rfl,trivial⟩) ?_ ?_
      · rintro k _ g' hk ⟨rfl,hz'⟩
        have hq:PL[k]?=some PL[k]:=List.getElem?_eq_getElem hk
        generalize PL[k]=x at hq
        obtain ⟨b3,o3,cc3,fix3,wr3,el3,k1,k2,k3,k4,k5⟩:=sp.at eI u29 tp3 hq .i64
        refine WL.sr<|WOL.ix rfl rfl k1<|WOL.ld rfl (qaa tp3 k2 (by have:=k5 0 (by decide);rwa [Nat.add_zero] at this))<|WOL.as rfl<|WOL.nil<|keep [(0,_),(9,_),(13,_),(51,_),(52,_),(53,_),(62,_),(63,_),(64,_)] ⟨rfl,rfl,rfl,rfl,rfl,rfl,rfl,rfl,rfl,trivial⟩ ?_
        by_cases h0:x=0
        · refine WL.sr<|WOL.mv rfl<|WOL.mv rfl<|WOL.bf rfl rfl rfl (bne_eq_false_iff_eq.2 h0)<|WOL.nil<|keep [(0,_),(9,_),(51,_),(52,_),(53,_),(62,_),(63,_),(64,_),(70,_)] ⟨rfl,rfl,rfl,rfl,rfl,rfl,rfl,rfl,rfl,trivial⟩ ?_
          refine WL.no rfl<|WL.skip fun a q=>⟨(),⟨rfl,fun i hi=>?_⟩,q.sub ⟨rfl,rfl,rfl,rfl,rfl,rfl,rfl,rfl,trivial⟩⟩
          by_cases e:i=k
          · subst e
            rw [List.getD_eq_getElem?_getD,hq]
            exact h0
          · exact hz' i (by omega)
        · refine WL.sr<|WOL.mv rfl<|WOL.mv rfl<|WOL.bt rfl rfl rfl (bne_iff_ne.2 h0)<|WOL.nil<|keep [(70,_)] ⟨rfl,trivial⟩ ?_
          have ef:formE L S=1:=by
            unfold formE
            rw [List.any_eq_true.2 ⟨((lo:Int),(hi:Int)),hmem,by rw [ea];exact List.any_eq_true.2 ⟨x,List.mem_of_getElem? hq,bne_iff_ne.2 h0⟩⟩]
            rfl
          refine WL.yes rfl<|WL.sr<|WOL.as rfl<|WOL.nil ?_
          exact WL.ret (WL.end_ rfl ⟨by rw [ef];rfl,X.trans XI⟩)
      · rintro _ g' ⟨rfl,hz'⟩
        refine fun a q=>⟨(),⟨X.trans XI,?_⟩,q.sub ⟨rfl,rfl,rfl,rfl,rfl,trivial⟩⟩
        rw [hany,ea,List.any_eq_false]
        intro x hx
        obtain ⟨i,hi',rfl⟩:=List.getElem_of_mem hx
        have:=hz' i hi'
        rw [List.getD_eq_getElem?_getD,List.getElem?_eq_getElem hi'] at this
        replace this:PL[i]=0:=this
        rw [this];decide
    · rintro _ g ⟨X,hz⟩
      rw [List.take_length] at hz
      refine WL.sr<|WOL.as rfl<|WOL.nil ?_
      exact WL.ret (WL.end_ rfl ⟨by unfold formE;rw [hz];rfl,X⟩)
end
end Go.Tidy
namespace Go.Tidy
open Go Go.Proofs Tab
variable {tp:TProg}
theorem out_in {n:Int} (h:outB n 0 100000000=0):0≤n∧n≤100000000:=by
 unfold outB at h
 cases h1:decide (n < 0) with
 | true=>rw [h1] at h;cases h
 | false =>
  cases h2:decide (n > 100000000) with
  | true=>rw [h1,h2] at h;cases h
  | false =>
   have:=of_decide_eq_false h1
   have:=of_decide_eq_false h2
   omega
section
variable {h:TH} {n:Int} {v1 v2:Value} {L:List Int} {S:List (Int × Int)}
theorem wrap_end {l:List Int} (hL:L.length≤1000000):qae (outB n 0 100000000::cond (decide ((L.length:Int) > 4096)) 5 0::cond (decide (qbm .i64 (n+(L.length:Int)) > 100000000)) 4 0::l)=qae (outB n 0 100000000::cond (decide ((L.length:Int) > 4096)) 5 0::cond (decide (n+(L.length:Int) > 100000000)) 4 0::l):=by
 by_cases h0:outB n 0 100000000=0
 ·obtain ⟨h1,h2⟩:=out_in h0
  rw [qao (by omega) (by omega)]
 ·show cond (outB n 0 100000000 != 0) _ _=cond (outB n 0 100000000 != 0) _ _
  rw [bne_iff_ne.2 h0]
  rfl
set_option maxHeartbeats 2000000 in
set_option maxRecDepth 10000 in
theorem k1123 (H:Has tp) (r:TrcH h v1 v2 L S) (hL:L.length≤1000000) (hS:S.length≤1000000) (f:Free0 h.next h):qad Tryz.prog tp (.func (.func 90) #[] #[]) #[trcV n v1 v2] h fun v h'=>v=zi (qbk n L S)∧HX h h':=by
 obtain ⟨b1,k1,e1,_⟩:=id r.l
 obtain ⟨b2,k2,e2,_⟩:=id r.s
 subst e1 e2
 refine qad.fnL (H.fn 90 f1123 rfl rfl) ?_
 refine WL.sr<|WOL.box rfl fun h1 N1=>WOL.as rfl<|WOL.nil<|keep [(1,_)] ⟨rfl,trivial⟩ ?_
 have A1:At h1 h.next (.cells [zi n,.slice b1 L.length k1,.slice b2 S.length k2] true true 55):=N1.at_
 have X1:=N1.hx
 replace r:=r.hx X1
 have n1:=N1.next
 refine WL.sr<|WOL.fa rfl (qaf qcf)<|WOL.ld rfl (qaa tp3 A1 rfl)<|WOL.fa rfl (qaf qau)<|WOL.ld rfl (qaa tp29 A1 rfl)<|WOL.len rfl r.l u29<|WOL.bi (v:=.bool (decide ((L.length:Int) > 4096))) rfl rfl rfl<|WOL.ld rfl (qab tp1117 A1 rfl (Nat.le_of_ble_eq_true rfl))<|WOL.fa rfl (qaf qau)<|WOL.ld rfl (qaa tp29 A1 rfl)<|WOL.fa rfl (qaf qau)<|WOL.ld rfl (qaa tp29 A1 rfl)<|WOL.fa rfl (qaf fo1117_2)<|WOL.ld rfl (qaa tp44 A1 rfl) ?_
 refine WOL.lk3 rfl rfl rfl rfl fun M=>((k72 H n 0 100000000 _).mono ?_)
 rintro v h2 ⟨rfl,rfl⟩
 rw [TH.relock]
 refine WOL.lk2 rfl rfl rfl fun M=>((k77 H _ _ _).mono ?_)
 rintro v h3 ⟨rfl,rfl⟩
 rw [TH.relock]
 refine WOL.lk1 rfl rfl fun M=>((k1183 H (r.l.relock M)).mono ?_)
 rintro v h4 ⟨rfl,X4⟩
 replace X4:=X4.relock
 generalize h4.withLock h1.lock=h4 at *
 replace r:=r.hx X4
 refine WOL.bi (v:=.bool (decide (qbm .i64 (n+(L.length:Int)) > 100000000))) rfl rfl rfl ?_
 refine WOL.lk2 rfl rfl rfl fun M=>((k77 H _ _ _).mono ?_)
 rintro v h5 ⟨rfl,rfl⟩
 rw [TH.relock]
 refine WOL.lk2 rfl rfl rfl fun M=>((k1190 H (r.l.relock M) hL (fun x=>k1191 H x _)).mono ?_)
 rintro v h6 ⟨rfl,rfl⟩
 rw [TH.relock]
 refine WOL.cl2 rfl rfl rfl ((k1192 H r hL hS (f.on (X1.trans X4))).mono ?_)
 rintro v h7 ⟨rfl,X7⟩
 refine WOL.bsl rfl u166 tp30 (by decide) (by decide) (by decide) (filled_ints5 _ _ _ _ _) fun h8 N8=>?_
 refine WOL.cl1 rfl rfl ((k71 H (l:=[_,_,_,_,_]) N8.at_.get (by simp)).mono ?_)
 rintro v h9 ⟨rfl,rfl⟩
 refine WOL.as rfl<|WOL.nil<|WL.ret (WL.end_ rfl ⟨?_,((X1.trans X4).trans X7).trans N8.hx⟩)
 unfold qbk
 show zi _=zi _
 rw [wrap_end hL]
set_option maxHeartbeats 1000000 in
set_option maxRecDepth 10000 in
theorem k1154 (H:Has tp) {x:Int} (s:SlL encS 2 h v2 S) (hS:S.length≤1000000):qad Tryz.prog tp (.func (.func 39) #[] #[]) #[trcV n v1 v2,zi x] h fun v h'=>v=.bool (qam S x)∧HX h h':=by
  refine qad.fnL (H.fn 39 f1154 rfl rfl) ?_
  refine WL.sr<|WOL.box rfl fun h1 N1=>WOL.as rfl<|WOL.nil<|keep [(1,_),(2,_)] ⟨rfl,rfl,trivial⟩ ?_
  have A1:At h1 h.next (.cells [zi n,v1,v2] true true 52):=N1.at_
  have X1:=N1.hx
  replace s:=s.hx X1
  refine WL.seq<|WL.sr<|WOL.as rfl<|WOL.nil<|keep [(1,_),(2,_),(5,_)] ⟨rfl,rfl,rfl,trivial⟩ ?_
  refine WL.forz (α:=Unit) S.length (fun j _ g=>g=h1∧(S.take j).any (inS x)=false) (fun j _=>[(1,zi x),(2,ptr h.next),(5,zi (j:Nat))]) (fun j _=>[(1,zi x),(2,ptr h.next),(5,zi (j:Nat))]) () ⟨rfl,rfl⟩ ⟨rfl,rfl,rfl,trivial⟩ ?_ ?_ (fun _ _ _=>⟨rfl,rfl,rfl,trivial⟩) ?_ ?_
  · rintro j _ g hj ⟨rfl,hz⟩
    exact WOL.mv rfl<|WOL.fa rfl (qaf qdk)<|WOL.ld rfl (qaa tp44 A1 rfl)<|WOL.len rfl s u44<|WOL.bi rfl rfl rfl<|WOL.nil fun a q=>⟨rfl,q.sub ⟨rfl,rfl,rfl,rfl,trivial⟩⟩
  · rintro j _ g hj hH
    exact WOL.mv rfl<|WOL.inc rfl (by omega)<|WOL.as rfl<|WOL.nil fun a q=>⟨hH,q.sub ⟨rfl,rfl,rfl,trivial⟩⟩
  · rintro j _ g hj ⟨rfl,hz⟩
    have hp:S[j]?=some S[j]:=List.getElem?_eq_getElem hj
    have hany:(S.take (j+1)).any (inS x)=((S.take j).any (inS x) || inS x S[j]):=by
      rw [← List.take_append_getElem hj,List.any_append];simp
    rw [hz,Bool.false_or] at hany
    have hmem:S[j] ∈ S:=List.getElem_mem hj
    generalize S[j]=p at *
    obtain ⟨p1,p2⟩:=p
    obtain ⟨b,o,cc,fix,wr,el,g1,g2,g3,g4,g5⟩:=s.at eS u44 tp48 hp .i64
    have l0:=g5 0 (by decide)
    have l1:=g5 1 (by decide)
    rw [Nat.add_zero] at l0
    replace l0:cc[o]?=some (zi p1):=l0
    replace l1:cc[o+1]?=some (zi p2):=l1
    by_cases c1:p1≤x
    · by_cases c2:x < p2
      · refine WL.sr ?_
        repeat' (first
    | (refine WOL.fa rfl (qaf qdk) ?_)
    | (refine WOL.fa rfl (qaf qcq) ?_)
    | (refine WOL.fa rfl (qaf qcl) ?_)
    | (refine WOL.ld rfl (qaa tp44 A1 rfl) ?_)
    | (refine WOL.ld rfl (qaa tp3 g2 l0) ?_)
    | (refine WOL.ld rfl (qaa tp3 g2 l1) ?_)
    | (refine WOL.ix rfl rfl g1 ?_)
    | (refine WOL.bt rfl rfl rfl (by first | exact decide_eq_true (by omega) | exact beq_iff_eq.2 (by omega) | exact bne_iff_ne.2 (by omega)) ?_)
    | refine WOL.now (b:=true) rfl rfl ?_ | refine WOL.now (b:=false) rfl rfl ?_
    | refine WOL.skp (b:=true) rfl rfl ?_ | refine WOL.skp (b:=false) rfl rfl ?_ | refine WOL.gu rfl rfl ?_
    | refine WOL.mv rfl ?_ | refine WOL.as rfl ?_
    | refine WOL.bi rfl rfl rfl ?_ | refine WOL.nt rfl ?_
    | refine WOL.pkt rfl rfl ?_ | refine WOL.pkf rfl rfl ?_)
        refine WOL.nil<|keep [(30,_)] ⟨rfl,trivial⟩ ?_
        refine WL.yes rfl<|WL.sr<|WOL.as rfl<|WOL.nil ?_
        refine WL.ret (WL.end_ rfl ⟨?_,X1⟩)
        unfold qam
        rw [List.any_eq_true.2 ⟨_,hmem,by unfold inS;rw [decide_eq_true (show x ≥ p1 by omega),decide_eq_true c2];rfl⟩]
        rfl
      · refine WL.sr ?_
        repeat' (first
    | (refine WOL.fa rfl (qaf qdk) ?_)
    | (refine WOL.fa rfl (qaf qcq) ?_)
    | (refine WOL.fa rfl (qaf qcl) ?_)
    | (refine WOL.ld rfl (qaa tp44 A1 rfl) ?_)
    | (refine WOL.ld rfl (qaa tp3 g2 l0) ?_)
    | (refine WOL.ld rfl (qaa tp3 g2 l1) ?_)
    | (refine WOL.ix rfl rfl g1 ?_)
    | (refine WOL.bt rfl rfl rfl (by first | exact decide_eq_true (by omega) | exact beq_iff_eq.2 (by omega) | exact bne_iff_ne.2 (by omega)) ?_)
    | (refine WOL.bf rfl rfl rfl (by first | exact decide_eq_false (by omega) | exact beq_eq_false_iff_ne.2 (by omega) | exact bne_eq_false_iff_eq.2 (by omega)) ?_)
    | refine WOL.now (b:=true) rfl rfl ?_ | refine WOL.now (b:=false) rfl rfl ?_
    | refine WOL.skp (b:=true) rfl rfl ?_ | refine WOL.skp (b:=false) rfl rfl ?_ | refine WOL.gu rfl rfl ?_
    | refine WOL.mv rfl ?_ | refine WOL.as rfl ?_
    | refine WOL.bi rfl rfl rfl ?_ | refine WOL.nt rfl ?_
    | refine WOL.pkt rfl rfl ?_ | refine WOL.pkf rfl rfl ?_)
        refine WOL.nil<|keep [(1,_),(2,_),(5,_),(30,_)] ⟨rfl,rfl,rfl,rfl,trivial⟩ ?_
        refine WL.no rfl<|WL.skip fun a q=>⟨(),⟨rfl,?_⟩,q.sub ⟨rfl,rfl,rfl,trivial⟩⟩
        rw [hany]
        unfold inS
        rw [decide_eq_false c2,Bool.and_false]
    · refine WL.sr ?_
      repeat' (first
    | (refine WOL.fa rfl (qaf qdk) ?_)
    | (refine WOL.fa rfl (qaf qcq) ?_)
    | (refine WOL.ld rfl (qaa tp44 A1 rfl) ?_)
    | (refine WOL.ld rfl (qaa tp3 g2 l0) ?_)
    | (refine WOL.ix rfl rfl g1 ?_)
    | (refine WOL.bf rfl rfl rfl (by first | exact decide_eq_false (by omega) | exact beq_eq_false_iff_ne.2 (by omega) | exact bne_eq_false_iff_eq.2 (by omega)) ?_)
    | refine WOL.now (b:=true) rfl rfl ?_ | refine WOL.now (b:=false) rfl rfl ?_
    | refine WOL.skp (b:=true) rfl rfl ?_ | refine WOL.skp (b:=false) rfl rfl ?_ | refine WOL.gu rfl rfl ?_
    | refine WOL.mv rfl ?_ | refine WOL.as rfl ?_
    | refine WOL.bi rfl rfl rfl ?_ | refine WOL.nt rfl ?_
    | refine WOL.pkt rfl rfl ?_ | refine WOL.pkf rfl rfl ?_)
      refine WOL.nil<|keep [(1,_),(2,_),(5,_),(30,_)] ⟨rfl,rfl,rfl,rfl,trivial⟩ ?_
      refine WL.no rfl<|WL.skip fun a q=>⟨(),⟨rfl,?_⟩,q.sub ⟨rfl,rfl,rfl,trivial⟩⟩
      rw [hany]
      unfold inS
      rw [decide_eq_false (show ¬ x ≥ p1 by omega)]
      rfl
  · rintro _ g ⟨rfl,hz⟩
    rw [List.take_length] at hz
    refine WL.sr<|WOL.as rfl<|WOL.nil ?_
    exact WL.ret (WL.end_ rfl ⟨by unfold qam;rw [hz];rfl,X1⟩)
end
end Go.Tidy
namespace Go.Tidy
open Go Go.Proofs Tab
variable {tp:TProg}
theorem first_head {a b:Int} {l:List Int}:qae (a::b::l)=cond (qae [a,b] != 0) (qae [a,b]) (qae l):=by
 show cond (a != 0) a (cond (b != 0) b (qae l))=cond (cond (a != 0) a (cond (b != 0) b 0) != 0) (cond (a != 0) a (cond (b != 0) b 0)) (qae l)
 cases ha:(a != 0) with
 | true=>rw [show cond true a (cond (b != 0) b 0)=a from rfl,ha];rfl
 | false =>
  cases hb:(b != 0) with
  | true=>rw [show cond false a (cond true b 0)=b from rfl,hb];rfl
  | false=>rfl
theorem fst_zero {x:Int} {l:List Int} (h:qae (x::l)=0):x=0:=by
 replace h:cond (x != 0) x (qae l)=0:=h
 cases hx:(x != 0) with
 | true=>rw [hx] at h;exact h
 | false=>exact bne_eq_false_iff_eq.1 hx
theorem first_one {a:Int}:qae [a]=a:=by
 show cond (a != 0) a 0=a
 cases h:(a != 0) with
 | true=>rfl
 | false=>exact (bne_eq_false_iff_eq.1 h).symm
def cd1117b:TCode:=.seq (.seq (.reg r1117_12) (.block 2 (.loop (.seq (.seq (.reg r1117_13) (.cond (.tmp 49) .skip (.exit 2))) (.seq (.block 3 (.seq (.reg r1117_14) (.seq (.seq (.reg r1117_15) (.cond (.tmp 74) (.seq (.reg r1117_16) .ret) .skip)) (.seq (.reg r1117_17) (.cond (.tmp 88) (.seq (.reg r1117_18) .ret) .skip))))) (.reg r1117_19)))))) (.seq (.seq (.reg r1117_20) (.block 4 (.loop (.seq (.seq (.reg r1117_21) (.cond (.tmp 93) .skip (.exit 4))) (.seq (.block 5 (.seq (.reg r1117_22) (.cond (.tmp 107) (.seq (.reg r1117_23) .ret) .skip))) (.reg r1117_24)))))) (.seq (.reg r1117_25) .ret))
section
variable {h0 h:TH} {n:Int} {b1 b2:Option Addr} {k1 k2 cb:Nat} {L:List Int} {S:List (Int × Int)} {T:Int}
end
section
variable {h:TH} {n:Int} {v1 v2:Value} {L:List Int} {S:List (Int × Int)}
end
end Go.Tidy
namespace Go.Tidy
open Go Go.Proofs Tab
variable {tp:TProg}
theorem tp1194:Tp Tryz.prog 148 4 [.int .i64 0,.slice none 0 0,.slice none 0 0,.slice none 0 0] true:=tp_of (by kernel_rfl) (by kernel_rfl) rfl
theorem tp145:Tp Tryz.prog 78 1 [.slice none 0 0] false:=tp_of (by kernel_rfl) (by kernel_rfl) rfl
theorem qdc:qbe Tryz.prog 148 0=some 0:=by kernel_rfl
theorem fo1194_1:qbe Tryz.prog 148 1=some 3:=by kernel_rfl
theorem bd1117 {z:Int} {b1 b2:Option Addr} {m1 k1 m2 k2:Nat}:buildT Tryz.prog 55 [(0,zi z),(1,.slice b1 m1 k1),(2,.slice b2 m2 k2)]=some (trcV z (.slice b1 m1 k1) (.slice b2 m2 k2)):=by kernel_rfl
theorem bd1117a {z:Int} {b1:Option Addr} {m1 k1:Nat}:buildT Tryz.prog 55 [(0,zi z),(1,.slice b1 m1 k1)]=some (trcV z (.slice b1 m1 k1) (.slice none 0 0)):=by kernel_rfl
theorem bd1117z:buildT Tryz.prog 55 []=some (trcV 0 (.slice none 0 0) (.slice none 0 0)):=by kernel_rfl
def rowV (n:Int) (v k:Value):Value:=.agg #[.int .i64 n,v,.slice none 0 0,k]
theorem bd1194 {z:Int} {b1 b2:Option Addr} {m1 k1 m2 k2:Nat}:buildT Tryz.prog 148 [(0,trcV z (.slice b1 m1 k1) (.slice none 0 0)),(1,.slice b2 m2 k2)]=some (rowV z (.slice b1 m1 k1) (.slice b2 m2 k2)):=by kernel_rfl
structure RowA (g:TH) (bv bk:Nat) (L:List Int) (B:List Bool):Prop where
 v:At g bv (.cells (cat encI L) true true 3)
 k:At g bk (.cells (cat encB B) true true 4)
 e:B.length=L.length
 n:bv≠bk
theorem RowA.hx {g g':TH} {bv bk:Nat} {L:List Int} {B:List Bool} (r:RowA g bv bk L B) (x:HX g g'):RowA g' bv bk L B:=⟨r.v.hx x,r.k.hx x,r.e,r.n⟩
abbrev slA (b m:Nat):Value:=.slice (some ⟨b,0,none⟩) m m
def qcd (x:Int):Bool:=readE x != 0
section
variable {h:TH} {n:Int} {L:List Int} {B:List Bool}
theorem k1225 (H:Has tp) (x:Int) (h:TH):qad Tryz.prog tp (.func (.func 146) #[] #[]) #[zi x] h fun v h'=>v=.bool (qcd x)∧h'=h:=by
 refine qad.fnL (H.fn 146 f1225 rfl rfl) ?_
 refine WL.sr<|WOL.as rfl<|WOL.nil ?_
 refine WL.sr<|WOL.mv rfl<|WOL.cl1 rfl rfl ((k1191 H x _).mono ?_)
 rintro v h2 ⟨rfl,rfl⟩
 exact WOL.bi (v:=.bool (readE x != 0)) rfl rfl rfl<|WOL.as rfl<|WOL.nil<|WL.ret (WL.end_ rfl ⟨rfl,rfl⟩)
set_option maxHeartbeats 1000000 in
set_option maxRecDepth 10000 in
theorem k1071L (H:Has tp) {v:Value} (s:SlL encI 1 h v L) (hl:L.length≤1000000) {p:Int→Bool} {fv:Value} (hf:∀ x,qad Tryz.prog tp fv #[zi x] h fun v h'=>v=.bool (p x)∧h'=h):qad Tryz.prog tp (.func (.func 141) #[] #[]) #[v,fv] h fun w h'=>(∃ i:Int,w=zi i∧(i ≥ 0 ↔ L.any p=true))∧h'=h:=by
 refine qad.fnL (H.fn 141 f1071 rfl rfl) ?_
 refine WL.sr<|WOL.as rfl<|WOL.nil ?_
 refine WL.seq<|WL.sr<|WOL.mv rfl<|WOL.len rfl s u29<|WOL.mv rfl<|WOL.nil<|keep [(0,_),(1,_),(6,_),(7,_),(8,_)] ⟨rfl,rfl,rfl,rfl,rfl,trivial⟩ ?_
 refine WL.upto (α:=Unit) L.length (fun j _ g=>g=h∧(L.take j).any p=false) (fun _ _=>[(0,v),(1,fv),(6,v),(7,zi (L.length:Nat))]) () rfl rfl (by omega) ⟨rfl,rfl⟩ ⟨rfl,rfl,rfl,rfl,rfl,trivial⟩ (fun _ _=>rfl) (fun _ _ _=>⟨rfl,rfl,rfl,rfl,rfl,trivial⟩) (fun _ _ _=>⟨rfl,rfl,rfl,rfl,rfl,trivial⟩) ?_ ?_
 ·rintro j _ g hj ⟨rfl,hz⟩
  have hp:L[j]?=some L[j]:=List.getElem?_eq_getElem hj
  have hany:(L.take (j+1)).any p=((L.take j).any p || p L[j]):=by
   rw [← List.take_append_getElem hj,List.any_append];simp
  rw [hz,Bool.false_or] at hany
  have hm:L[j] ∈ L:=List.getElem_mem hj
  generalize L[j]=x at *
  obtain ⟨b,o,cc,fix,wr,el,g1,g2,g3,g4,g5⟩:=s.at eI u29 tp3 hp .i64
  refine WL.sr<|WOL.mv rfl<|WOL.as rfl<|WOL.nil<|keep [(0,_),(1,_),(5,_),(6,_),(7,_),(8,_)] ⟨rfl,rfl,rfl,rfl,rfl,rfl,trivial⟩ ?_
  refine WL.sr<|WOL.mv rfl<|WOL.mv rfl<|WOL.mv rfl<|WOL.ix rfl rfl g1<|WOL.ld rfl (qaa tp3 g2 (by have:=g5 0 (by decide);rwa [Nat.add_zero] at this))<|WOL.cl1 rfl rfl ((hf x).mono ?_)
  rintro w g' ⟨rfl,rfl⟩
  refine WOL.nil ?_
  cases hx:p x with
  | true =>
   refine WL.yes rfl<|WL.sr<|WOL.mv rfl<|WOL.as rfl<|WOL.nil ?_
   exact WL.ret (WL.end_ rfl ⟨⟨_,rfl,by rw [List.any_eq_true.2 ⟨x,hm,hx⟩];exact ⟨fun _=>rfl,fun _=>by omega⟩⟩,rfl⟩)
  | false=>exact WL.no rfl<|WL.skip fun a q=>⟨(),⟨rfl,by rw [hany,hx]⟩,q.sub ⟨rfl,rfl,rfl,rfl,rfl,trivial⟩⟩
 ·rintro _ g ⟨rfl,hz⟩
  rw [List.take_length] at hz
  refine WL.sr<|WOL.as rfl<|WOL.nil ?_
  exact WL.ret (WL.end_ rfl ⟨⟨-1,rfl,by rw [hz];exact ⟨fun h=>absurd h (by decide),fun h=>by cases h⟩⟩,rfl⟩)
theorem k1064L (H:Has tp) {v:Value} (s:SlL encI 1 h v L) (hl:L.length≤1000000) {p:Int→Bool} {fv:Value} (hf:∀ x,qad Tryz.prog tp fv #[zi x] h fun v h'=>v=.bool (p x)∧h'=h):qad Tryz.prog tp (.func (.func 83) #[] #[]) #[v,fv] h fun w h'=>w=.bool (L.any p)∧h'=h:=by
 refine qad.fnL (H.fn 83 f1064 rfl rfl) ?_
 refine WL.sr<|WOL.as rfl<|WOL.nil ?_
 refine WL.sr<|WOL.mv rfl<|WOL.mv rfl<|WOL.cl2 rfl rfl rfl ((k1071L H s hl hf).mono ?_)
 rintro w g ⟨⟨i,rfl,hi⟩,rfl⟩
 have e:L.any p=decide (i ≥ 0):=by
  cases h:L.any p with
  | true=>exact (decide_eq_true (hi.2 h)).symm
  | false=>exact (decide_eq_false fun q=>by rw [hi.1 q] at h;cases h).symm
 rw [e]
 exact WOL.bi (v:=.bool (decide (i ≥ 0))) rfl rfl rfl<|WOL.as rfl<|WOL.nil<|WL.ret (WL.end_ rfl ⟨rfl,rfl⟩)
theorem rep_flat {z:Value}:∀ m:Nat,(List.replicate m [z]).flatten=List.replicate m z
 | 0=>rfl
 | m+1=>by rw [List.replicate_succ,List.flatten_cons,rep_flat m];rfl
theorem cat_rep {α:Type} {enc:α→List Value} {x:α} {z:Value} (h:enc x=[z]):∀ m:Nat,cat enc (List.replicate m x)=List.replicate m z
 | 0=>rfl
 | m+1=>by
  rw [List.replicate_succ,List.replicate_succ]
  show enc x ++ cat enc (List.replicate m x)=_
  rw [h,cat_rep h m]
  rfl
set_option maxHeartbeats 1000000 in
theorem k1178 (H:Has tp) {m:Nat} (hm:m≤1000000) (f:Free0 h.next h):qad Tryz.prog tp (.func (.func 100) #[] #[]) #[zi n,zi (m:Nat)] h fun v h'=>HX h h'∧∃ bv bk,v=rowV n (slA bv m) (slA bk m)∧h.next≤bv∧h.next≤bk∧RowA h' bv bk (List.replicate m 0) (List.replicate m false):=by
 refine qad.fnL (H.fn 100 f1178 rfl rfl) ?_
 refine WL.sr<|WOL.al tp1194 fun h1 N1=>WOL.nil<|keep [(0,_),(1,_),(4,_)] ⟨rfl,rfl,rfl,trivial⟩ ?_
 have n1:=N1.next
 refine WL.sr<|WOL.mv rfl<|WOL.mv rfl<|WOL.ms (m:=m) rfl rfl u29 tp3 (by decide) (by omega) fun h2 N2=>WOL.bd rfl bd1117a<|WOL.mv rfl<|WOL.ms (m:=m) rfl rfl u145 tp4 (by decide) (by omega) fun h3 N3=>WOL.bd rfl bd1194 ?_
 have n2:=N2.next
 have n3:=N3.next
 have X3:=(N1.hx.trans N2.hx).trans N3.hx
 refine WOL.sto (vs:=[zi n,slA h1.next m,.slice none 0 0,slA h2.next m]) rfl rfl tp1194 ((N1.at_.hx N2.hx).hx N3.hx) rfl rfl (Nat.le_of_ble_eq_true rfl) rfl (f.hx X3) (Nat.le_refl _) fun h4 P4=>WOL.nil ?_
 have a2:=N2.at_
 have a3:=N3.at_
 rw [rep_flat,← cat_rep (enc:=encI) (x:=0) rfl] at a2
 rw [rep_flat,← cat_rep (enc:=encB) (x:=false) rfl] at a3
 refine WL.ret (WL.endC rfl (qab tp1194 P4.at_ rfl (Nat.le_of_ble_eq_true rfl)) ⟨P4.hx _ X3 (Nat.le_refl _),h1.next,h2.next,rfl,by omega,by omega,⟨P4.oth _ _ (by omega) (a2.hx N3.hx),P4.oth _ _ (by omega) a3,?_,by omega⟩⟩)
 rw [List.length_replicate,List.length_replicate]
theorem k1176 (H:Has tp) {n n':Int} {v1 v2 w1 w2:Value} {L M:List Int} (s:SlL encI 1 h v1 L) (t:SlL encI 1 h w1 M):qad Tryz.prog tp (.func (.func 104) #[] #[]) #[trcV n v1 v2,trcV n' w1 w2] h fun v h'=>v=.bool (decide (n=n'∧L.length=M.length))∧HX h h':=by
 refine qad.fnL (H.fn 104 f1176 rfl rfl) ?_
 refine WL.sr<|WOL.box rfl fun h1 N1=>WOL.box rfl fun h2 N2=>WOL.as rfl<|WOL.nil<|keep [(2,_),(3,_)] ⟨rfl,rfl,trivial⟩ ?_
 have A1:At h2 h.next (.cells [zi n,v1,v2] true true 55):=N1.at_.hx N2.hx
 have A2:At h2 h1.next (.cells [zi n',w1,w2] true true 55):=N2.at_
 have X2:=N1.hx.trans N2.hx
 refine WL.sr<|WOL.fa rfl (qaf qcf)<|WOL.ld rfl (qaa tp3 A1 rfl)<|WOL.fa rfl (qaf qcf)<|WOL.ld rfl (qaa tp3 A2 rfl) ?_
 by_cases c1:n=n'
 ·refine WOL.bt rfl rfl rfl (by first | exact decide_eq_true (by omega) | exact beq_iff_eq.2 (by omega) | exact bne_iff_ne.2 (by omega))<|WOL.mv rfl<|WOL.now (b:=true) rfl rfl<|WOL.fa rfl (qaf qau)<|WOL.now (b:=true) rfl rfl<|WOL.ld rfl (qaa tp29 A1 rfl)<|WOL.now (b:=true) rfl rfl<|WOL.len rfl (s.hx X2) u29<|WOL.now (b:=true) rfl rfl<|WOL.fa rfl (qaf qau)<|WOL.now (b:=true) rfl rfl<|WOL.ld rfl (qaa tp29 A2 rfl)<|WOL.now (b:=true) rfl rfl<|WOL.len rfl (t.hx X2) u29<|WOL.now (b:=true) rfl rfl ?_
  by_cases c2:L.length=M.length
  ·rw [decide_eq_true (show n=n'∧L.length=M.length from ⟨c1,c2⟩)]
   exact WOL.bt rfl rfl rfl (by first | exact decide_eq_true (by omega) | exact beq_iff_eq.2 (by omega) | exact bne_iff_ne.2 (by omega))<|WOL.pkt rfl rfl<|WOL.as rfl<|WOL.nil<|WL.ret (WL.end_ rfl ⟨rfl,X2⟩)
  ·rw [decide_eq_false (show ¬ (n=n'∧L.length=M.length) from fun q=>c2 q.2)]
   exact WOL.bf rfl rfl rfl (by first | exact decide_eq_false (by omega) | exact beq_eq_false_iff_ne.2 (by omega) | exact bne_eq_false_iff_eq.2 (by omega))<|WOL.pkt rfl rfl<|WOL.as rfl<|WOL.nil<|WL.ret (WL.end_ rfl ⟨rfl,X2⟩)
 ·rw [decide_eq_false (show ¬ (n=n'∧L.length=M.length) from fun q=>c1 q.1)]
  refine WOL.bf rfl rfl rfl (by first | exact decide_eq_false (by omega) | exact beq_eq_false_iff_ne.2 (by omega) | exact bne_eq_false_iff_eq.2 (by omega)) ?_
  repeat' (first
  | (refine WOL.mv rfl ?_)
  | refine WOL.now (b:=true) rfl rfl ?_ | refine WOL.now (b:=false) rfl rfl ?_
  | refine WOL.skp (b:=true) rfl rfl ?_ | refine WOL.skp (b:=false) rfl rfl ?_ | refine WOL.gu rfl rfl ?_
  | refine WOL.mv rfl ?_ | refine WOL.as rfl ?_
  | refine WOL.bi rfl rfl rfl ?_ | refine WOL.nt rfl ?_
  | refine WOL.pkt rfl rfl ?_ | refine WOL.pkf rfl rfl ?_)
  exact WOL.nil<|WL.ret (WL.end_ rfl ⟨rfl,X2⟩)
end
end Go.Tidy
namespace Go.Tidy
open Go Go.Proofs Tab
variable {tp:TProg}
section
variable {P:Program} {a:qan} {h:TH} {K:qan→TH→Prop} {rest:List TOper} {d:Option Tmp} {ty:TypeId} {i:Nat} {f x0 x1 x2 l0:Operand} {ls:List Operand} {fv v0 v1 v2:Value} {ts:Array TypeId}
theorem WO.lq3 (bs:List Nat) (hb:(l0::ls).map (fun x=>(qbn a x).bind qax)=bs.map some) (hf:qbn a f=some fv) (h0:qbn a x0=some v0) (h1:qbn a x1=some v1) (h2:qbn a x2=some v2) (w:∀ L,(∀ l,l ∈ L→l ∈ bs∨l ∈ h.lock)→qad P tp fv #[v0,v1,v2] (h.withLock L) fun v h1=>WO P tp rest (a.put d v) (h1.withLock h.lock) K):WO P tp (⟨d,.call ⟨.value f,#[x0,x1,x2],ts⟩,ty,none,l0::ls,i⟩::rest) a h K :=
 WO.cons_lock rfl rfl (StepW.call (by rw [qac hf];simpa [qac h0,qac h1,qac h2] using w _ (lockOf_bs _ a bs h.lock hb)))
theorem WOL.lq3 {L:Rg} (bs:List Nat) (hb:(l0::ls).map (fun x=>(qbi L x).bind qax)=bs.map some) (hf:qbi L f=some fv) (h0:qbi L x0=some v0) (h1:qbi L x1=some v1) (h2:qbi L x2=some v2) (w:∀ M,(∀ l,l ∈ M→l ∈ bs∨l ∈ h.lock)→qad P tp fv #[v0,v1,v2] (h.withLock M) fun v h1=>∀ a,Kn (qdh L d v) a→WO P tp rest a (h1.withLock h.lock) K):∀ a,Kn L a→WO P tp (⟨d,.call ⟨.value f,#[x0,x1,x2],ts⟩,ty,none,l0::ls,i⟩::rest) a h K :=
 fun _ k=>WO.lq3 bs (locks_o k hb) (k.o hf) (k.o h0) (k.o h1) (k.o h2) fun M hM=>(w M hM).mono fun _ _ q=>k.nx q
end
def RefS (B:Nat) (g:TH) (c:Nat) (s:ByteArray) (n:Int) (C:List (Int × Bool)) (e:Int):Prop :=
  ∃ sz nz w1 w2,At g c (.cells (runV sz nz w1 w2).cells.toList true true 88)∧(e≠0→w1=.slice none 0 0∧w2=.slice none 0 0) ∧
    (e=0→(sz=s∧nz=n)∧RunO B g w1 w2 (C.map fun c=>smp c.1) (qah (C.map fun c=>c.2))∧Lev (C.map fun c=>smp c.1) (C.map fun c=>c.1)∧C.length≤4096)
section
variable {B c c':Nat} {g g':TH} {s:ByteArray} {n:Int} {C:List (Int × Bool)} {e:Int}
theorem RefS.hx (q:RefS B g c s n C e) (x:HX g g'):RefS B g' c s n C e:=by
 obtain ⟨sz,nz,w1,w2,a,q1,q2⟩:=q
 exact ⟨sz,nz,w1,w2,a.hx x,q1,fun h=>⟨(q2 h).1,(q2 h).2.1.hx x,(q2 h).2.2⟩⟩
theorem RefS.away {x:TB} (q:RefS B g c s n C e) (p:Put g g' c' x) (h1:c'≠c) (h2:c' < B):RefS B g' c s n C e:=by
 obtain ⟨sz,nz,w1,w2,a,q1,q2⟩:=q
 exact ⟨sz,nz,w1,w2,p.oth _ _ (Ne.symm h1) a,q1,fun h=>⟨(q2 h).1,(q2 h).2.1.away p h2,(q2 h).2.2⟩⟩
end
end Go.Tidy
namespace Go.Tidy
open Go Go.Proofs Tab
variable {tp:TProg}
section
variable {P:Program} {h:TH} {K:qan→TH→Prop} {rest:List TOper} {d:Option Tmp} {ty:TypeId} {i:Nat} {x y l0:Operand} {ls:List Operand} {t u:TypeId} {L:Rg} {v:Value} {n:Nat} {zl:List Value} {row:Bool}
theorem WOL.stQ {b off m:Nat} {c vs:List Value} {fix:Bool} {el:TypeId} (bs:List Nat) (hb:(l0::ls).map (fun x=>(qbi L x).bind qax)=bs.map some) (hx:qbi L x=some (.pointer (some ⟨b,off,none⟩))) (hy:qbi L y=some v) (he:Tp P t n zl row) (hg:At h b (.cells c fix true el)) (hv:v.cells.toList=vs) (hn:vs.length=n) (ho:off+n≤c.length) (h1:vs.all qbt=true) (f:Free0 m h) (hm:m≤b) (hnb:b ∉ bs)
  (w:∀ h',Put h h' b (.cells (qbr c off vs) fix true el)→∀ a,Kn (qdh L d undef) a→WO P tp rest a h' K):∀ a,Kn L a→WO P tp (⟨d,.store t x y,ty,none,l0::ls,i⟩::rest) a h K:=by
 intro a k
 refine WO.cons_lock rfl rfl ?_
 have hM:=lockOf_bs (l0::ls) a bs h.lock (locks_o k hb)
 generalize qdf (l0::ls) a.eval h.lock=M at *
 have hnM:b ∉ M:=fun hin=>by
  rcases hM b hin with q | q
  ·exact hnb q
  ·have:=f.lock b q;omega
 have ex:=qac (k.o hx)
 have ey:=qac (k.o hy)
 obtain ⟨inf,q1,q2,_⟩:=he.i
 have e1:Nat.beq v.cells.size inf.size=true:=by
  rw [q2,← hn,← hv];simp
 have e2:Nat.ble (off+vs.length) c.length=true:=by rw [Nat.ble_eq,hn];exact ho
 have hp:(h.withLock M).put b (.cells (qbr c off vs) fix true el)=some ((h.withLock M).upd b (.cells (qbr c off vs) fix true el)):=TH.put_upd (Nat.le_trans f.floor hm) hg.lt hnM
 have hs:storeT P t (.pointer (some ⟨b,off,none⟩)) v (h.withLock M)=some ((h.withLock M).upd b (.cells (qbr c off vs) fix true el)):=by
  simp only [storeT,q1,e1,Bool.cond_true,qdb,(hg.relock M).get,hv,e2,h1,Bool.and_self]
  exact hp
 refine StepW.of (v:=undef) (h1:=(h.withLock M).upd b (.cells (qbr c off vs) fix true el)) (fun call=>?_) ?_
 ·have hpl:qci P ⟨d,.store t x y,ty,none,l0::ls,i⟩ a.eval=none:=rfl
  simp [qaz,qas,qbw,qbp,hpl,qbs,ex,ey,hs]
 ·have:=w (h.upd b (.cells (qbr c off vs) fix true el)) (Put.mk' hg _) _ (k.put d undef)
  exact this
variable {V:Value→TH→Prop}
end
section
variable {s:Nat→ByteArray} {n:Nat→Int} {v1 v2:Nat→Value} {F:Nat→List Nat} {S:Nat→List (Int × Int)} {es L:Nat→List Int} {h:TH} {lb:Nat}
end
end Go.Tidy
namespace Go.Tidy
open Go Go.Proofs Tab
variable {tp:TProg}
theorem RowA.sv {g:TH} {bv bk:Nat} {L:List Int} {B:List Bool} (r:RowA g bv bk L B):SlL encI 1 g (slA bv L.length) L:=SlL.own eI r.v rfl
theorem RowA.sk {g:TH} {bv bk:Nat} {L:List Int} {B:List Bool} (r:RowA g bv bk L B):SlL encB 1 g (slA bk L.length) B:=by
 rw [← r.e]
 exact SlL.own eB r.k rfl
structure TrcO (n0:Nat) (g:TH) (bv:Nat) (w:Value) (L:List Int) (S:List (Int × Int)):Prop where
 v:At g bv (.cells (cat encI L) true true 3)
 s:OwnL encS n0 g w 77 S
theorem TrcO.hx {n0 bv:Nat} {g g':TH} {w:Value} {L:List Int} {S:List (Int × Int)} (r:TrcO n0 g bv w L S) (x:HX g g'):TrcO n0 g' bv w L S:=⟨r.v.hx x,r.s.hx x⟩
theorem TrcO.trc {n0 bv:Nat} {g:TH} {w:Value} {L:List Int} {S:List (Int × Int)} (r:TrcO n0 g bv w L S):TrcH g (slA bv L.length) w L S:=⟨SlL.own eI r.v rfl,r.s.sl eS,fun b off m cap e=>by
 cases e
 exact ⟨_,_,_,_,r.v,.inl rfl⟩⟩
theorem TrcO.put {n0 bv c:Nat} {g g':TH} {w:Value} {L:List Int} {S:List (Int × Int)} {x:TB} (r:TrcO n0 g bv w L S) (p:Put g g' c x) (h1:bv≠c) (h2:c < n0):TrcO n0 g' bv w L S:=⟨p.oth _ _ h1 r.v,r.s.keep fun z y hz a=>p.oth _ _ (by have:=r.s.lt hz;omega) a⟩
theorem TrcO.form {n0 bv:Nat} {g:TH} {w:Value} {L:List Int} {S:List (Int × Int)} (r:TrcO n0 g bv w L S):∃ b m k,w=.slice b m k:=by
 rcases r.s with ⟨rfl,_⟩ | ⟨_,b,rfl,_⟩
 ·exact ⟨_,_,_,rfl⟩
 ·exact ⟨_,_,_,rfl⟩
theorem TrcO.low {n0 n1 bv:Nat} {g:TH} {w:Value} {L:List Int} {S:List (Int × Int)} (r:TrcO n1 g bv w L S) (h:n0≤n1):TrcO n0 g bv w L S:=⟨r.v,by
 rcases r.s with q | ⟨q1,b,q2,q3,q4⟩
 ·exact .inl q
 ·exact .inr ⟨q1,b,q2,by omega,q4⟩⟩
section
variable {h:TH} {n:Int} {L:List Int} {B:List Bool} {bv bk:Nat}
set_option maxRecDepth 10000 in
theorem k1180 (H:Has tp) (r:RowA h bv bk L B) {i:Nat} (hi:i < L.length) (h0:0≤n) (h1:n≤1000000000) (hl:L.length≤1000000):qad Tryz.prog tp (.func (.func 123) #[] #[]) #[rowV n (slA bv L.length) (slA bk L.length),zi (n+(i:Nat))] h fun v h'=>v=.tuple #[zi (L.getD i 0),.bool (B.getD i false)]∧HX h h':=by
 refine qad.fnL (H.fn 123 f1180 rfl rfl) ?_
 refine WL.sr<|WOL.box rfl fun h1 N1=>WOL.as rfl<|WOL.as rfl<|WOL.nil<|keep [(1,_),(2,_)] ⟨rfl,rfl,trivial⟩ ?_
 have A1:At h1 h.next (.cells [zi n,slA bv L.length,.slice none 0 0,slA bk L.length] true true 148):=N1.at_
 replace r:=r.hx N1.hx
 have e:=r.e
 have hv:L[i]?=some (L.getD i 0):=by rw [List.getD_eq_getElem?_getD,List.getElem?_eq_getElem hi];rfl
 have hk:B[i]?=some (B.getD i false):=by rw [List.getD_eq_getElem?_getD,List.getElem?_eq_getElem (by omega)];rfl
 obtain ⟨b,o,cc,fix,wr,el,g1,g2,g3,g4,g5⟩:=r.sv.at eI u29 tp3 hv .i64
 obtain ⟨b',o',cc',fix',wr',el',k1,k2,k3,k4,k5⟩:=r.sk.at eB u145 tp4 hk .i64
 refine WL.sr<|WOL.mv rfl<|WOL.fa rfl (qaf qdc)<|WOL.fa rfl (qaf qcf)<|WOL.ld rfl (qaa tp3 A1 rfl)<|WOL.sub (m:=n+(i:Nat)) (n:=n) rfl rfl (by omega) (by omega) ?_
 rw [show n+((i:Nat):Int) - n=((i:Nat):Int) by omega]
 refine WOL.as rfl<|WOL.nil<|keep [(2,_),(6,_)] ⟨rfl,rfl,trivial⟩ ?_
 refine WL.sr<|WOL.fa rfl (qaf qdc)<|WOL.fa rfl (qaf qau)<|WOL.ld rfl (qaa tp29 A1 rfl)<|WOL.mv rfl<|WOL.ix rfl rfl g1<|WOL.ld rfl (qaa tp3 g2 (by have:=g5 0 (by decide);rwa [Nat.add_zero] at this))<|WOL.fa rfl (qaf fo1194_1)<|WOL.ld rfl (qaa tp145 A1 rfl)<|WOL.mv rfl<|WOL.ix rfl rfl k1<|WOL.ld rfl (qaa tp4 k2 (by have:=k5 0 (by decide);rwa [Nat.add_zero] at this))<|WOL.as rfl<|WOL.as rfl<|WOL.nil ?_
 exact WL.ret (WL.end_ rfl ⟨rfl,N1.hx⟩)
set_option maxRecDepth 10000 in
set_option maxHeartbeats 1000000 in
theorem k1181 (H:Has tp) (r:RowA h bv bk L B) {i:Nat} {x:Int} (hi:i < L.length) (h0:0≤n) (h1:n≤1000000000) (hl:L.length≤1000000) {m:Nat} (f:Free0 m h) (hv:m≤bv) (hk:m≤bk):qad Tryz.prog tp (.func (.func 101) #[] #[]) #[rowV n (slA bv L.length) (slA bk L.length),zi (n+(i:Nat)),zi x] h fun _ h'=>(∀ h0,HX h0 h→h0.next≤bv→h0.next≤bk→HX h0 h')∧RowA h' bv bk (L.set i x) (B.set i true)∧(∀ c y,c≠bv→c≠bk→At h c y→At h' c y)∧h.next≤h'.next:=by
 refine qad.fnL (H.fn 101 f1181 rfl rfl) ?_
 refine WL.sr<|WOL.box rfl fun h1 N1=>WOL.nil<|keep [(1,_),(2,_),(3,_)] ⟨rfl,rfl,rfl,trivial⟩ ?_
 have A1:At h1 h.next (.cells [zi n,slA bv L.length,.slice none 0 0,slA bk L.length] true true 148):=N1.at_
 have lv:=r.v.lt
 have lk:=r.k.lt
 have n1:=N1.next
 replace r:=r.hx N1.hx
 have e:=r.e
 have f1:=f.hx N1.hx
 refine WL.sr<|WOL.mv rfl<|WOL.fa rfl (qaf qdc)<|WOL.fa rfl (qaf qcf)<|WOL.ld rfl (qaa tp3 A1 rfl)<|WOL.sub (m:=n+(i:Nat)) (n:=n) rfl rfl (by omega) (by omega) ?_
 rw [show n+((i:Nat):Int) - n=((i:Nat):Int) by omega]
 refine WOL.as rfl<|WOL.nil<|keep [(2,_),(3,_),(6,_)] ⟨rfl,rfl,rfl,trivial⟩ ?_
 refine WL.reg<|WOL.fa rfl (qaf qdc)<|WOL.fa rfl (qaf qau)<|WOL.ld rfl (qaa tp29 A1 rfl)<|WOL.mv rfl<|WOL.fa rfl (qaf fo1194_1)<|WOL.ld rfl (qaa tp145 A1 rfl)<|WOL.mv rfl<|WOL.mv rfl<|WOL.ix rfl rfl (qbv u29 tp3 hi) ?_
 refine WOL.stQ (vs:=encI x) [h.next] rfl rfl rfl tp3 r.v rfl rfl (by rw [eI.cat_len];omega) rfl f1 hv (by simp;omega) fun h2 P2=>?_
 have B2:=P2.at_
 rw [Nat.zero_add,eI.set hi x] at B2
 have n2:=P2.next
 have hi':i < B.length:=by omega
 refine WOL.ix rfl rfl (qbv u145 tp4 hi) ?_
 refine WOL.sto (vs:=encB true) rfl rfl tp4 (P2.oth _ _ r.n.symm r.k) rfl rfl (by rw [eB.cat_len];omega) rfl ⟨by rw [P2.floor];exact f1.floor,fun l hl=>f1.lock l (by rw [← P2.lock];exact hl)⟩ hk fun h3 P3=>WOL.nil ?_
 have B3:=P3.at_
 rw [Nat.zero_add,eB.set hi' true] at B3
 have n3:=P3.next
 refine WL.endn rfl ⟨fun h0 X a b=>P3.hx _ (P2.hx _ (X.trans N1.hx) a) b,⟨?_,B3,?_,r.n⟩,fun c y c1 c2 a=>P3.oth _ _ c2 (P2.oth _ _ c1 (a.hx N1.hx)),by omega⟩
 ·exact P3.oth _ _ r.n B2
 ·rw [List.length_set,List.length_set];exact e
set_option maxHeartbeats 1000000 in
theorem k1186 (H:Has tp) (r:RowA h bv bk L B) (hl:L.length≤900000) (f:Free0 h.next h):qad Tryz.prog tp (.func (.func 103) #[] #[]) #[rowV n (slA bv L.length) (slA bk L.length)] h fun v h'=>HX h h'∧∃ w,v=trcV n (slA bv L.length) w∧TrcO h.next h' bv w L (qah B):=by
 refine qad.fnL (H.fn 103 f1186 rfl rfl) ?_
 refine WL.sr<|WOL.box rfl fun h1 N1=>WOL.al tp1117 fun h2 N2=>WOL.nil<|keep [(1,_),(2,_)] ⟨rfl,rfl,trivial⟩ ?_
 have n1:=N1.next
 have n2:=N2.next
 have X2:=N1.hx.trans N2.hx
 have A1:At h2 h.next (.cells [zi n,slA bv L.length,.slice none 0 0,slA bk L.length] true true 148):=N1.at_.hx N2.hx
 have A2:=N2.at_
 have lr:=r.v.lt
 replace r:=r.hx X2
 refine WL.sr<|WOL.fa rfl (qaf qdc)<|WOL.fa rfl (qaf qcf)<|WOL.ld rfl (qaa tp3 A1 rfl)<|WOL.fa rfl (qaf qdc)<|WOL.fa rfl (qaf qau)<|WOL.ld rfl (qaa tp29 A1 rfl)<|WOL.fa rfl (qaf fo1194_1)<|WOL.ld rfl (qaa tp145 A1 rfl) ?_
 refine WOL.lq1 [h.next,h.next] rfl rfl rfl fun M hM=>((k140 H (r.sk.relock M) (by rw [r.e];omega) ((f.on X2).held hM (fun b hb=>by simp at hb;omega))).mono ?_)
 rintro v h3 ⟨o3,X3⟩
 replace X3:=X3.relock
 replace o3:=own_lock o3 h2.lock
 generalize h3.withLock h2.lock=h3 at *
 have X4:=X2.trans X3
 have x3:=X3.next
 have o3':OwnL encS h2.next h3 v 77 (qah B):=o3
 have lo:=fun z (hz:bl v=some z)=>o3'.lt hz
 obtain ⟨b2,m2,k2,rfl⟩:∃ b m k,v=.slice b m k:=by
  rcases o3' with ⟨rfl,_⟩ | ⟨_,b,rfl,_⟩
  ·exact ⟨_,_,_,rfl⟩
  ·exact ⟨_,_,_,rfl⟩
 refine WOL.bd rfl bd1117<|WOL.sto (vs:=[zi n,slA bv L.length,.slice b2 m2 k2]) rfl rfl tp1117 (A2.hx X3) rfl rfl (Nat.le_of_ble_eq_true rfl) rfl (f.hx X4) (by omega) fun h4 P4=>WOL.nil ?_
 have X5:HX h h4:=P4.hx _ X4 (by omega)
 refine WL.ret (WL.endC rfl (qab tp1117 P4.at_ rfl (Nat.le_of_ble_eq_true rfl)) ⟨X5,_,rfl,(TrcO.mk (r.v.hx X3) o3').put P4 (by omega) (by omega) |>.low (by omega)⟩)
end
end Go.Tidy
namespace Go.Tidy
open Go Go.Proofs Tab
variable {tp:TProg}
def zipK (L:List Int) (S:List (Int × Int)) (j:Nat):List (Int × Bool):=(List.range j).map fun i=>(L.getD i 0,qam S (i:Nat))
section
variable {h:TH} {n:Int} {v1 v2:Value} {L:List Int} {B:List Bool} {S:List (Int × Int)} {bv bk:Nat}
set_option maxHeartbeats 1000000 in
theorem k1182 (H:Has tp) (r:RowA h bv bk L B) (hl:L.length≤900000) (f:Free0 h.next h):qad Tryz.prog tp (.func (.func 124) #[] #[]) #[rowV n (slA bv L.length) (slA bk L.length)] h fun v h'=>HX h h'∧((L.any qcd=true∧v=.tuple #[trcV 0 (.slice none 0 0) (.slice none 0 0),zi 4])∨(L.any qcd=false∧∃ w,v=.tuple #[trcV n (slA bv L.length) w,zi 0]∧TrcO h.next h' bv w L (qah B))):=by
 refine qad.fnL (H.fn 124 f1182 rfl rfl) ?_
 refine WL.sr<|WOL.box rfl fun h1 N1=>WOL.al tp1117 fun h2 N2=>WOL.as rfl<|WOL.nil<|keep [(1,_),(2,_)] ⟨rfl,rfl,trivial⟩ ?_
 have n1:=N1.next
 have n2:=N2.next
 have X2:=N1.hx.trans N2.hx
 have A1:At h2 h.next (.cells [zi n,slA bv L.length,.slice none 0 0,slA bk L.length] true true 148):=N1.at_.hx N2.hx
 have A2:=N2.at_
 have lr:=r.v.lt
 replace r:=r.hx X2
 refine WL.seq<|WL.sr<|WOL.fa rfl (qaf qdc)<|WOL.fa rfl (qaf qau)<|WOL.ld rfl (qaa tp29 A1 rfl)<|WOL.cl2 rfl rfl rfl ((k1064L H r.sv (by omega) (fun x=>k1225 H x _)).mono ?_)
 rintro v h3 ⟨rfl,rfl⟩
 refine WOL.nil ?_
 cases hb:L.any qcd with
 | true =>
  refine WL.yes rfl<|WL.sr<|WOL.bd rfl bd1117z<|WOL.sto (vs:=[zi 0,.slice none 0 0,.slice none 0 0]) rfl rfl tp1117 A2 rfl rfl (Nat.le_of_ble_eq_true rfl) rfl (f.hx X2) (by omega) fun h4 P4=>WOL.as rfl<|WOL.nil ?_
  exact WL.ret (WL.endC1 rfl rfl (qab tp1117 P4.at_ rfl (Nat.le_of_ble_eq_true rfl)) ⟨P4.hx _ X2 (by omega),.inl ⟨rfl,rfl⟩⟩)
 | false =>
  refine WL.no rfl<|WL.skip ?_
  refine WL.sr<|WOL.ld rfl (qab tp1194 A1 rfl (Nat.le_of_ble_eq_true rfl))<|WOL.cl1 rfl rfl ((k1186 H r hl (f.on X2)).mono ?_)
  rintro v h4 ⟨X4,w,rfl,t4⟩
  have X5:=X2.trans X4
  obtain ⟨b2,m2,k2,rfl⟩:=t4.form
  refine WOL.sto (vs:=[zi n,slA bv L.length,.slice b2 m2 k2]) rfl rfl tp1117 (A2.hx X4) rfl rfl (Nat.le_of_ble_eq_true rfl) rfl (f.hx X5) (by omega) fun h5 P5=>WOL.as rfl<|WOL.nil ?_
  exact WL.ret (WL.endC1 rfl rfl (qab tp1117 P5.at_ rfl (Nat.le_of_ble_eq_true rfl)) ⟨P5.hx _ X5 (by omega),.inr ⟨rfl,_,rfl,(t4.put P5 (by omega) (by omega)).low (by omega)⟩⟩)
end
end Go.Tidy
namespace Go.Tidy
open Go Go.Proofs Tab
variable {tp:TProg}
section
variable {h:TH} {l:List Nat} {v:Value} {bo:Option Addr} {n k:Nat}
end
section
variable {h:TH} {l:List Nat} {bo:Option Addr} {n k:Nat}
end
def OwnF {α:Type} (enc:α→List Value) (n0:Nat) (h:TH) (v:Value) (e:TypeId) (l:List α):Prop :=
 OwnL enc n0 h v e l∨(∃ b,v=.slice (some ⟨b,0,none⟩) l.length l.length∧n0≤b∧At h b (.cells (cat enc l) true true e))
section
variable {P:Program} {h:TH} {α:Type} {enc:α→List Value} {n0 n:Nat} {v:Value} {e:TypeId} {l:List α} {z:List Value} {row:Bool}
theorem OwnF.hx {h':TH} (o:OwnF enc n0 h v e l) (x:HX h h'):OwnF enc n0 h' v e l:=o.imp (fun o=>o.hx x) fun ⟨b,h1,h2,h3⟩=>⟨b,h1,h2,h3.hx x⟩
theorem OwnF.sl (E:Enc enc n) (o:OwnF enc n0 h v e l):SlL enc n h v l:=by
 rcases o with o | ⟨b,rfl,_,h3⟩
 ·exact o.sl E
 ·exact SlL.own E h3 rfl
theorem OwnF.form (o:OwnF enc n0 h v e l):∃ bo,v=.slice bo l.length l.length:=by
 rcases o with (⟨rfl,rfl⟩ | ⟨_,b,rfl,_⟩) | ⟨b,rfl,_⟩
 ·exact ⟨_,rfl⟩
 ·exact ⟨_,rfl⟩
 ·exact ⟨_,rfl⟩
end
section
variable {P:Program} {h:TH} {K:qan→TH→Prop} {rest:List TOper} {d:Option Tmp} {ty:TypeId} {i:Nat} {x:Operand} {L:Rg}
theorem WOL.cvw {s t:TypeId} {ds:TypeDesc} {k k':IntKind} {n:Int} (hs:P.underlying s=some ds) (ht:P.underlying t=some (.int k')) (hx:qbi L x=some (.int k n)) (w:∀ a,Kn (qdh L d (.int k' (k'.wrap n))) a→WO P tp rest a h K):∀ a,Kn L a→WO P tp (⟨d,.convert s t x,ty,none,[],i⟩::rest) a h K:=fun a q =>
 WO.conv (q.o hx) rfl (conv_i2i hs ht) rfl (w _ (q.put d _))
end
section
variable {h hb:TH} {l:List Nat} {v:Value} {n k n0:Nat}
end
end Go.Tidy
namespace Go.Tidy
open Go Go.Proofs Tab
variable {tp:TProg}
def Tail3 (s:Nat→ByteArray) (n:Nat→Int) (F:Nat→List Nat) (S:Nat→List (Int × Int)) (es L:Nat→List Int):Prop:=∀ k,2≤k→s k=s 2∧n k=n 2∧F k=F 2∧S k=S 2∧es k=es 2∧L k=L 2
section
variable {s:Nat→ByteArray} {n:Nat→Int} {v1 v2:Nat→Value} {F:Nat→List Nat} {S:Nat→List (Int × Int)} {es L:Nat→List Int} {h:TH} {lb:Nat} {el:Int}
theorem Tail3.some (t:Tail3 s n F S es L):∀ k,∃ j,j < 3∧s k=s j∧n k=n j∧F k=F j∧S k=S j∧es k=es j∧L k=L j:=by
 intro k
 by_cases h0:k=0
 ·subst h0;exact ⟨0,by decide,rfl,rfl,rfl,rfl,rfl,rfl⟩
 ·by_cases h1:k=1
  ·subst h1;exact ⟨1,by decide,rfl,rfl,rfl,rfl,rfl,rfl⟩
  ·exact ⟨2,by decide,t k (by omega)⟩
end
end Go.Tidy
namespace Go.Tidy
open Go Go.Proofs Tab
variable {tp:TProg}
def optL (L:Rg):Option Operand→Option (Option Value)
 | none=>some none
 | some x=>(qbi L x).map some
theorem optL_o {L:Rg} {a:qan} (k:Kn L a) {x:Option Operand} {v:Option Value} (h:optL L x=some v):x.map a.eval=v:=by
 cases x with
 | none=>cases h;rfl
 | some x =>
  simp only [optL,Option.map_eq_some_iff] at h
  obtain ⟨w,h1,rfl⟩:=h
  show some (a.eval x)=some w
  rw [qac (k.o h1)]
section
variable {P:Program} {h:TH} {K:qan→TH→Prop} {rest:List TOper} {d:Option Tmp} {ty:TypeId} {i:Nat} {x y:Operand} {t u e:TypeId} {L:Rg} {v vx:Value}
theorem WOL.slG {lo hi:Option Operand} {vlo vhi:Option Value} (hx:qbi L x=some vx) (hp:plain vx=false) (hl:optL L lo=some vlo) (hh:optL L hi=some vhi) (hv:sliceT P t vx vlo vhi none h=some v) (w:∀ a,Kn (qdh L d v) a→WO P tp rest a h K):∀ a,Kn L a→WO P tp (⟨d,.slice t x lo hi none,ty,none,[],i⟩::rest) a h K:=fun a k=>by
 have e1:=qac (k.o hx)
 have e2:=optL_o k hl
 have e3:=optL_o k hh
 refine WO.op (h1:=h) rfl rfl (fun call=>?_) (w _ (k.put d _))
 have hq:qci P ⟨d,.slice t x lo hi none,ty,none,[],i⟩ a.eval=none:=by
  unfold qci
  simp [plainly,Op.operands,e1,hp]
 simp only [qaz,qas,qbw,qbp,hq,qbs,e1,e2,e3,Option.map_none,hv,Bool.cond_false]
 rfl
end
section
variable {h:TH} {s c:Int} {x y z:Nat} {es:List Int}
end
section
variable {P:Program} {h:TH} {K:qan→TH→Prop} {rest:List TOper} {d:Option Tmp} {ty:TypeId} {i:Nat} {x:Operand} {t e:TypeId} {L:Rg}
end
def wd (x y z:Nat):Nat→Nat | 0=>x | 1=>y | _=>z
theorem OwnF.at_ {α:Type} {enc:α→List Value} {n0:Nat} {h:TH} {v:Value} {e:TypeId} {l:List α} (o:OwnF enc n0 h v e l) (hl:l≠[]):∃ b fix,v=.slice (some ⟨b,0,none⟩) l.length l.length∧At h b (.cells (cat enc l) fix true e):=by
 rcases o with (⟨_,rfl⟩ | ⟨_,b,rfl,_,h3⟩) | ⟨b,rfl,_,h3⟩
 ·exact absurd rfl hl
 ·exact ⟨b,_,rfl,h3⟩
 ·exact ⟨b,_,rfl,h3⟩
section
variable {h:TH} {s c x y z:Nat}
end
end Go.Tidy
namespace Go.Tidy
open Go Go.Proofs Tab
variable {tp:TProg}
theorem Byt.drop {l:List Nat} (h:Byt l) (k:Nat):Byt (l.drop k):=fun b hb=>h b (List.mem_of_mem_drop hb)
theorem Byt.take {l:List Nat} (h:Byt l) (k:Nat):Byt (l.take k):=fun b hb=>h b (List.mem_of_mem_take hb)
section
variable {h:TH} {l:List Nat} {b:Nat} {fix wr:Bool} {el:TypeId}
end
section
variable {h:TH} {l:List Nat} {es:List Int}
end
end Go.Tidy
namespace Go.Tidy
open Go Go.Proofs Tab
variable {tp:TProg}
section
variable {P:Program} {h:TH} {α:Type} {enc:α→List Value} {n0 n:Nat} {v v2:Value} {e:TypeId} {l m:List α} {z:List Value} {row:Bool}
end
section
variable {P:Program} {h:TH} {K:qan→TH→Prop} {rest:List TOper} {d:Option Tmp} {ty:TypeId} {i:Nat} {L:Rg} {f x0 x1 l0:Operand} {ls:List Operand} {fv v0 v1:Value} {ts:Array TypeId}
end
theorem OwnL.relock {α:Type} {enc:α→List Value} {n0:Nat} {h:TH} {v:Value} {e:TypeId} {l:List α} (o:OwnL enc n0 h v e l) (M:List Nat):OwnL enc n0 (h.withLock M) v e l:=o.imp id fun ⟨h0,b,h1,h2,h3⟩=>⟨h0,b,h1,h2,h3.relock M⟩
section
variable {h:TH} {s c x y z:Nat}
end
end Go.Tidy
namespace Go.Tidy
open Go Go.Proofs Tab
variable {tp:TProg}
abbrev Pkt:=Int × Int × Nat × Nat × Nat
section
variable {h:TH} {p:Pkt} {v:Value} {l:List Pkt} {E:List Int}
end
end Go.Tidy
namespace Go.Tidy
open Go Go.Proofs Tab
variable {tp:TProg}
theorem cat_I:∀ l:List Int,cat encI l=l.map (.int .i64)
 | []=>rfl
 | x::l=>by
  show encI x ++ cat encI l=_
  rw [cat_I l];rfl
section
variable {h:TH} {v:Value} {l:List Pkt} {E:List Int}
end
end Go.Tidy
namespace Go.Tidy
open Go Go.Proofs Tab
variable {tp:TProg}
section
variable {h:TH} {v:Value} {l:List Pkt} {src:Int}
def LostA (L:List Int) (n0:Nat) (h:TH) (w:Value) (e:Int):Prop:=(L.length≤256∧e=0∧OwnL encI n0 h w 3 L)∨(256 < L.length∧e=5∧w=.slice none 0 0)
end
end Go.Tidy
namespace Go.Tidy
open Go Go.Proofs Tab
theorem LostA.hx {L:List Int} {n0:Nat} {g g':TH} {w:Value} {e:Int} (a:LostA L n0 g w e) (x:HX g g'):LostA L n0 g' w e :=
 a.imp (fun ⟨h1,h2,h3⟩=>⟨h1,h2,h3.hx x⟩) id
end Go.Tidy
namespace Go.Tidy
open Go Go.Proofs Tab
variable {tp:TProg}
section
variable {h:TH} {n:Int} {v1 v2 w1 w2:Value} {L:List Int} {S:List (Int × Int)}
theorem k1152 (H:Has tp) (i1:IsInts h v1 L) (i2:IsInts h w1 L) (s1:SlL encS 2 h v2 S) (s2:SlL encS 2 h w2 S) (hL:L.length≤1000000) (hS:S.length≤1000000):qad Tryz.prog tp (.func (.func 37) #[] #[]) #[trcV n v1 v2,trcV n w1 w2] h fun v h'=>v=.bool true∧HX h h':=by
 refine qad.fnL (H.fn 37 f1152 rfl rfl) ?_
 refine WL.sr<|WOL.box rfl fun h1 N1=>WOL.box rfl fun h2 N2=>WOL.as rfl<|WOL.nil<|keep [(2,_),(3,_)] ⟨rfl,rfl,trivial⟩ ?_
 have A1:At h2 h.next (.cells [zi n,v1,v2] true true 52):=N1.at_.hx N2.hx
 have A2:At h2 h1.next (.cells [zi n,w1,w2] true true 52):=N2.at_
 have X2:=N1.hx.trans N2.hx
 refine WL.sr<|WOL.fa rfl (qaf fo1114_0)<|WOL.ld rfl (qaa tp3 A1 rfl)<|WOL.fa rfl (qaf fo1114_0)<|WOL.ld rfl (qaa tp3 A2 rfl)<|WOL.bt rfl rfl rfl (by first | exact decide_eq_true (by omega) | exact beq_iff_eq.2 (by omega) | exact bne_iff_ne.2 (by omega))<|WOL.mv rfl<|WOL.now (b:=true) rfl rfl<|WOL.fa rfl (qaf qcm)<|WOL.now (b:=true) rfl rfl<|WOL.ld rfl (qaa tp29 A1 rfl)<|WOL.now (b:=true) rfl rfl<|WOL.fa rfl (qaf qcm)<|WOL.now (b:=true) rfl rfl<|WOL.ld rfl (qaa tp29 A2 rfl)<|WOL.now (b:=true) rfl rfl<|WOL.cl2 rfl rfl rfl ((k18 H (i1.hx X2) (i2.hx X2) hL).mono ?_)
 rintro v h3 ⟨rfl,rfl⟩
 rw [show decide (L=L)=true from decide_eq_true rfl]
 refine WOL.pkt rfl rfl<|WOL.mv rfl<|WOL.now (b:=true) rfl rfl<|WOL.fa rfl (qaf qdk)<|WOL.now (b:=true) rfl rfl<|WOL.ld rfl (qaa tp44 A1 rfl)<|WOL.now (b:=true) rfl rfl<|WOL.fa rfl (qaf qdk)<|WOL.now (b:=true) rfl rfl<|WOL.ld rfl (qaa tp44 A2 rfl)<|WOL.now (b:=true) rfl rfl<|WOL.cl2 rfl rfl rfl ((k59 H (s1.hx X2) (s2.hx X2) hS).mono ?_)
 rintro v h4 ⟨rfl,rfl⟩
 exact WOL.pkt rfl rfl<|WOL.as rfl<|WOL.nil<|WL.ret (WL.end_ rfl ⟨rfl,X2⟩)
set_option maxHeartbeats 1000000 in
theorem k1153 (H:Has tp) (r:TrcH h v1 v2 L S) (hL:L.length≤1000000) (hS:S.length≤1000000) (f:Free0 h.next h):qad Tryz.prog tp (.func (.func 38) #[] #[]) #[trcV n v1 v2] h fun v h'=>HX h h'∧∃ u1 u2,v=trcV n u1 u2∧TrcH h' u1 u2 L S∧(∀ z,bl u1=some z→h.next≤z)∧∀ z,bl u2=some z→h.next≤z:=by
 refine qad.fnL (H.fn 38 f1153 rfl rfl) ?_
 refine WL.sr<|WOL.box rfl fun h1 N1=>WOL.al tp1114 fun h2 N2=>WOL.nil<|keep [(1,_),(2,_)] ⟨rfl,rfl,trivial⟩ ?_
 have n1:=N1.next
 have n2:=N2.next
 have A1:At h2 h.next (.cells [zi n,v1,v2] true true 52):=N1.at_.hx N2.hx
 have A2:=N2.at_
 have X2:=N1.hx.trans N2.hx
 obtain ⟨b1,k1,e1,_⟩:=id r.l
 obtain ⟨b2,k2,e2,_⟩:=id r.s
 subst e1 e2
 refine WL.sr<|WOL.bs0 u29 tp3 (by decide) (by decide) fun h3 N3=>WOL.fa rfl (qaf qcm)<|WOL.ld rfl (qaa tp29 (A1.hx N3.hx) rfl) ?_
 have n3:=N3.next
 obtain ⟨u1,h4,ap,X4,s4,b4,rfl,hb4,F4⟩:=append_own u29 tp3 N3.at_ (r.l.hx (X2.trans N3.hx)) (by omega) (eI.all _)
 have x4:=X4.next
 have X3:=X2.trans N3.hx
 refine WOL.ap rfl rfl ap<|WOL.fa rfl (qaf qcm) ?_
 refine WOL.sto (vs:=[.slice (some ⟨b4,0,none⟩) L.length L.length]) rfl rfl tp29 ((A1.hx N3.hx).hx X4) rfl rfl (Nat.le_of_ble_eq_true rfl) rfl (f.hx (X3.trans X4)) (Nat.le_refl _) fun h5 P5=>WOL.nil<|keep [(1,_),(2,_)] ⟨rfl,rfl,trivial⟩ ?_
 have n5:=P5.next
 have A5:At h5 h.next (.cells [zi n,.slice (some ⟨b4,0,none⟩) L.length L.length,.slice b2 S.length k2] true true 52):=P5.at_
 have X5:HX h h5:=P5.hx _ (X3.trans X4) (Nat.le_refl _)
 have s5:SlL encI 1 h5 (.slice (some ⟨b4,0,none⟩) L.length L.length) L:=slC_keep s4 fun z y hz a=>P5.oth _ _ (by have:b4=z:=Option.some.inj hz;omega) a
 have F5:Fits h5 (.slice (some ⟨b4,0,none⟩) L.length L.length) 3:=fun b off m cap e=>by
  obtain ⟨cc,fix,wr,el,r1,r2⟩:=F4 b off m cap e
  cases e
  exact ⟨cc,fix,wr,el,P5.oth _ _ (by omega) r1,r2⟩
 have A2':=P5.oth _ _ (by omega) ((A2.hx N3.hx).hx X4)
 refine WL.sr<|WOL.bs0 u44 tp48 (by decide) (by decide) fun h6 N6=>WOL.fa rfl (qaf qdk)<|WOL.ld rfl (qaa tp44 (A5.hx N6.hx) rfl) ?_
 have n6:=N6.next
 obtain ⟨u2,h7,ap7,X7,s7,b7,rfl,hb7,F7⟩:=append_own u44 tp48 N6.at_ (r.s.hx (X5.trans N6.hx)) (by omega) (eS.all _)
 have x7:=X7.next
 have X6:=X5.trans N6.hx
 refine WOL.ap rfl rfl ap7<|WOL.fa rfl (qaf qdk) ?_
 refine WOL.sto (vs:=[.slice (some ⟨b7,0,none⟩) S.length S.length]) rfl rfl tp44 ((A5.hx N6.hx).hx X7) rfl rfl (Nat.le_of_ble_eq_true rfl) rfl (f.hx (X6.trans X7)) (Nat.le_refl _) fun h8 P8=>WOL.nil<|keep [(1,_),(2,_)] ⟨rfl,rfl,trivial⟩ ?_
 have A8:At h8 h.next (.cells [zi n,.slice (some ⟨b4,0,none⟩) L.length L.length,.slice (some ⟨b7,0,none⟩) S.length S.length] true true 52):=P8.at_
 have X8:HX h h8:=P8.hx _ (X6.trans X7) (Nat.le_refl _)
 have A2'':=P8.oth _ _ (by omega) ((A2'.hx N6.hx).hx X7)
 have n8:=P8.next
 refine WL.sr<|WOL.ld rfl (qab tp1114 A8 rfl (Nat.le_of_ble_eq_true rfl))<|WOL.sto (vs:=[zi n,.slice (some ⟨b4,0,none⟩) L.length L.length,.slice (some ⟨b7,0,none⟩) S.length S.length]) rfl rfl tp1114 A2'' rfl rfl (Nat.le_of_ble_eq_true rfl) rfl (f.hx X8) (by omega) fun h9 P9=>WOL.nil ?_
 refine WL.ret (WL.endC rfl (qab tp1114 P9.at_ rfl (Nat.le_of_ble_eq_true rfl)) ⟨P9.hx _ X8 (by omega),_,_,rfl,⟨?_,?_,?_⟩,fun z hz=>(by have:b4=z:=Option.some.inj hz;omega),fun z hz=>(by have:b7=z:=Option.some.inj hz;omega)⟩)
 ·exact slC_keep (slC_keep ((s5.hx N6.hx).hx X7) fun z y hz a=>P8.oth _ _ (by have:b4=z:=Option.some.inj hz;omega) a) fun z y hz a=>P9.oth _ _ (by have:b4=z:=Option.some.inj hz;omega) a
 ·exact slC_keep (slC_keep s7 fun z y hz a=>P8.oth _ _ (by have:b7=z:=Option.some.inj hz;omega) a) fun z y hz a=>P9.oth _ _ (by have:b7=z:=Option.some.inj hz;omega) a
 ·exact fun b off m cap e=>by
   obtain ⟨cc,fix,wr,el,r1,r2⟩:=F5 b off m cap e
   cases e
   exact ⟨cc,fix,wr,el,P9.oth _ _ (by omega) (P8.oth _ _ (by omega) ((r1.hx N6.hx).hx X7)),r2⟩
end
theorem y1224 (H:Has tp) {n:Int} {v1 v2:Value} {m c:Nat} (h0:0≤n) (h1:n≤1000000000) (hl:m≤1000000):Yields Tryz.prog tp (.func (.func 164) #[] #[ptr c]) (fun g=>At g c (.cells [zi n,v1,v2] true true 55)∧∃ L:List Int,L.length=m∧SlL encI 1 g v1 L) m fun j=>zi (n+(j:Nat)):=by
 intro h' yv I I0 hI step
 refine qad.fnC (H.fn 164 f1224 rfl rfl) ?_
 obtain ⟨A0,L,rfl,s0⟩:=hI 0 h' I0
 refine WL.sr<|WOL.fa rfl (qaf qau)<|WOL.ld rfl (qaa tp29 A0 rfl)<|WOL.len rfl s0 u29<|WOL.mv rfl<|WOL.nil<|keep [(0,_),(1,_),(6,_),(7,_)] ⟨rfl,rfl,rfl,rfl,trivial⟩ ?_
 refine WL.upto (α:=Unit) L.length (fun j _ g=>I j g) (fun _ _=>[(0,yv),(1,ptr c),(6,zi (L.length:Nat))]) () rfl rfl (by omega) I0 ⟨rfl,rfl,rfl,rfl,trivial⟩ (fun _ _=>rfl) (fun _ _ _=>⟨rfl,rfl,rfl,rfl,trivial⟩) (fun _ _ _=>⟨rfl,rfl,rfl,rfl,trivial⟩) ?_ ?_
 ·rintro j _ g hj q1
  obtain ⟨A1,_⟩:=hI j g q1
  refine WL.sr<|WOL.mv rfl<|WOL.as rfl<|WOL.nil<|keep [(0,_),(1,_),(3,_),(6,_),(7,_)] ⟨rfl,rfl,rfl,rfl,rfl,trivial⟩ ?_
  refine WL.sr<|WOL.mv rfl<|WOL.fa rfl (qaf qcf)<|WOL.ld rfl (qaa tp3 A1 rfl)<|WOL.mv rfl<|WOL.add (m:=n) (n:=((j:Nat):Int)) rfl rfl (by omega) (by omega)<|WOL.cl1 rfl rfl ((step j g hj q1).mono ?_)
  rintro v g2 ⟨rfl,q2⟩
  exact WOL.nt rfl<|WOL.nil<|WL.no rfl<|WL.skip fun a q=>⟨(),q2,q.sub ⟨rfl,rfl,rfl,rfl,trivial⟩⟩
 ·rintro _ g q1
  exact fun a q=>WL.endn rfl q1 a q
theorem k1179 (H:Has tp) {n:Int} {v1 v2:Value} (h:TH):qad Tryz.prog tp (.func (.func 122) #[] #[]) #[trcV n v1 v2] h fun w h'=>∃ c,w=.func (.func 164) #[] #[ptr c]∧HX h h'∧At h' c (.cells [zi n,v1,v2] true true 55)∧h.next≤c:=by
 refine qad.fnL (H.fn 122 f1179 rfl rfl) ?_
 refine WL.sr<|WOL.box rfl fun h1 N1=>WOL.as rfl<|WOL.nil<|keep [(1,_)] ⟨rfl,trivial⟩ ?_
 refine WL.sr<|WOL.mf rfl<|WOL.as rfl<|WOL.nil ?_
 exact WL.done rfl ⟨_,rfl,N1.hx,N1.at_,Nat.le_refl _⟩
end Go.Tidy
namespace Go.Tidy
open Go Go.Proofs Tab
variable {tp:TProg}
section
variable {P:Program} {h:TH} {α:Type} {enc:α→List Value} {n0 n:Nat} {v:Value} {e:TypeId} {l:List α} {z:List Value} {row:Bool}
end
section
variable {h hb:TH} {l:List Nat} {v:Value} {n k n0:Nat}
end
theorem OwnF.lt {α:Type} {enc:α→List Value} {n0:Nat} {h:TH} {v:Value} {e:TypeId} {l:List α} (o:OwnF enc n0 h v e l) {c:Nat} (hc:bl v=some c):n0≤c∧c < h.next:=by
 rcases o with o | ⟨b,rfl,h2,h3⟩
 ·exact o.lt hc
 ·cases hc;exact ⟨h2,h3.lt⟩
section
variable {s:ByteArray} {n:Int} {v1 v2:Value} {F:List Nat} {S:List (Int × Int)} {es L:List Int} {h:TH}
end
end Go.Tidy
namespace Go.Tidy
open Go Go.Proofs Tab
variable {tp:TProg}
section
variable {P:Program} {h:TH} {K:qan→TH→Prop} {rest:List TOper} {d:Option Tmp} {ty:TypeId} {i:Nat} {x:Operand} {L:Rg} {q:Addr} {t e:TypeId} {n:Nat} {z:List Value} {row:Bool}
theorem bound_in {q:IntKind} {r dflt upper:Nat} (hr:r≤upper):boundT (some (.int q (r:Nat))) dflt upper=some r:=by
 have d1:decide (0≤(r:Int))=true:=decide_eq_true (Int.natCast_nonneg _)
 have d2:decide ((r:Int)≤(upper:Int))=true:=decide_eq_true (Int.ofNat_le.2 hr)
 simp only [boundT,d1,d2,Bool.and_self,Bool.cond_true,Int.toNat_natCast]
theorem fits_of {b:Nat} {cc:List Value} {fix wr:Bool} {el:TypeId} (hb:At h b (.cells cc fix wr el)) (hf:fix=true∨el=e):elemFits h b e=true:=by
 unfold elemFits
 rw [hb.get]
 rcases hf with rfl | rfl
 ·rfl
 ·simp
theorem sliceT_to {b off m cap hi:Nat} {k:IntKind} {cc:List Value} {fix wr:Bool} {el:TypeId} (hu:P.underlying t=some (.slice e)) (he:Tp P e n z row) (hc:m≤cap) (h2:hi≤m) (hb:At h b (.cells cc fix wr el)) (hf:fix=true∨el=e) :
  sliceT P t (.slice (some ⟨b,off,none⟩) m cap) none (some (.int k (hi:Nat))) none h=some (.slice (some ⟨b,off,none⟩) hi cap):=by
 obtain ⟨inf,q1,q2,q3,_⟩:=he.i
 have hcut:cut3 m cap none (some (.int k (hi:Nat))) none=some (0,hi,cap):=by
  simp only [cut3,show boundT none cap cap=some cap from rfl,show ∀ x,boundT none 0 x=some 0 from fun _=>rfl,Option.bind_some,Option.isNone_some,Option.isSome_none,Bool.and_self,Bool.cond_false,bound_in (show hi≤cap by omega),Option.map_some]
 simp only [sliceT,hu,ble_yes hc,Bool.cond_true,hcut,Option.bind_some,q1,fits_of hb hf,q2,Nat.zero_mul,Nat.add_zero,Nat.sub_zero]
theorem sliceT_from {b off m cap lo:Nat} {k:IntKind} {cc:List Value} {fix wr:Bool} {el:TypeId} (hu:P.underlying t=some (.slice e)) (he:Tp P e n z row) (hc:m≤cap) (h2:lo≤m) (hb:At h b (.cells cc fix wr el)) (hf:fix=true∨el=e) :
  sliceT P t (.slice (some ⟨b,off,none⟩) m cap) (some (.int k (lo:Nat))) none none h=some (.slice (some ⟨b,off+lo*n,none⟩) (m - lo) (cap - lo)):=by
 obtain ⟨inf,q1,q2,q3,_⟩:=he.i
 have hcut:cut3 m cap (some (.int k (lo:Nat))) none none=some (lo,m,cap):=by
  simp only [cut3,show boundT none cap cap=some cap from rfl,show boundT none m cap=some m from rfl,Option.bind_some,Option.isNone_none,Option.isSome_none,Bool.and_false,Bool.cond_false,bound_in h2,Option.map_some]
 simp only [sliceT,hu,ble_yes hc,Bool.cond_true,hcut,Option.bind_some,q1,fits_of hb hf,q2]
end
structure Stm (h:TH) (b o cap:Nat) (l:List Nat):Prop where
 ex:∃ cc fix wr el,At h b (.cells cc fix wr el)∧(cc.drop o).take l.length=cat encY l∧o+l.length≤cc.length∧(fix=true∨el=5)
 cap:l.length≤cap
section
variable {h h':TH} {b o cap:Nat} {l:List Nat}
theorem Stm.hx (s:Stm h b o cap l) (x:HX h h'):Stm h' b o cap l:=⟨by
 obtain ⟨cc,fix,wr,el,a,r⟩:=s.ex
 exact ⟨cc,fix,wr,el,a.hx x,r⟩,s.cap⟩
theorem Stm.oth (s:Stm h b o cap l) {c:Nat} (k:∀ z y,z≠c→At h z y→At h' z y) (hb:b≠c):Stm h' b o cap l:=⟨by
 obtain ⟨cc,fix,wr,el,a,r⟩:=s.ex
 exact ⟨cc,fix,wr,el,k _ _ hb a,r⟩,s.cap⟩
theorem Stm.part (s:Stm h b o cap l) {p k c:Nat} (hpk:p+k≤l.length) (hc:k≤c):SlL encY 1 h (.slice (some ⟨b,o+p,none⟩) k c) ((l.drop p).take k):=by
 obtain ⟨cc,fix,wr,el,a,e1,e2,_⟩:=s.ex
 have hl:((l.drop p).take k).length=k:=by rw [List.length_take,List.length_drop];omega
 refine ⟨_,c,by rw [hl],by rw [hl];exact hc,by rw [eY.cat_len],.inr ⟨b,o+p,cc,fix,wr,el,rfl,a,?_,?_⟩⟩
 ·rw [hl,Nat.mul_one]
  have q:=eY.part l p k
  rw [Nat.mul_one,Nat.mul_one] at q
  rw [← q,← e1,List.drop_take,List.take_take,List.drop_drop,Nat.min_eq_left (by omega)]
 ·rw [hl];omega
end
abbrev Cu:=Nat × Bool
section
variable {h:TH} {b o cap c4 n0:Nat} {l:List Nat} {c:Cu}
end
end Go.Tidy
namespace Go.Tidy
open Go Go.Proofs Tab
variable {tp:TProg}
theorem copy_part {P:Program} {sT e:TypeId} {z:List Value} {row:Bool} {h:TH} {b off d cap b' off' m cap' k n0:Nat} {c c':List Value} {fix fix' wr':Bool} {el el':TypeId} (hu:P.underlying sT=some (.slice e)) (he:Tp P e 1 z row) (hg:At h b (.cells c fix true el)) (hs:At h b' (.cells c' fix' wr' el')) (hk:Nat.min m d=k) (h1:off+d≤c.length) (h2:off'+m≤c'.length) (hall:((c'.drop off').take k).all qbt=true) (f:Free0 n0 h) (hb:n0≤b) :
  ∃ h',copyT P #[sT,sT] #[.slice (some ⟨b,off,none⟩) d cap,.slice (some ⟨b',off',none⟩) m cap'] h=some (.int .i64 (k:Nat),h')∧Put h h' b (.cells (qbr c off ((c'.drop off').take k)) fix true el):=by
 obtain ⟨inf,q1,q2,q3,_⟩:=he.i
 have hkm:k≤m:=by rw [← hk];exact Nat.min_le_left _ _
 have hkd:k≤d:=by rw [← hk];exact Nat.min_le_right _ _
 have e1:Nat.ble k m=true:=ble_yes hkm
 have e2:Nat.ble (off'+k) c'.length=true:=ble_yes (by omega)
 have hf:firstT h 1 k (.slice (some ⟨b',off',none⟩) m cap')=some ((c'.drop off').take k):=by
  simp only [firstT,e1,Bool.cond_true,qbz,hs.get,e2,Nat.mul_one]
 by_cases k0:k=0
 ·subst k0
  refine ⟨h,?_,by rw [List.take_zero,splice_nil];exact Put.same hg⟩
  have b0:Nat.beq 0 0=true:=rfl
  simp only [copyT,qby,List.getElem?_toArray,List.getElem?_cons_zero,List.getElem?_cons_succ,hu,Option.bind_some,q1,Option.map_some,lenT,q2,hk,hf,b0,Bool.cond_true]
  rfl
 ·have b0:Nat.beq k 0=false:=beq_no k0
  have hl:((c'.drop off').take k).length=k:=by rw [List.length_take,List.length_drop];omega
  have e4:Nat.ble (off+((c'.drop off').take k).length) c.length=true:=ble_yes (by omega)
  have hp:h.put b (.cells (qbr c off ((c'.drop off').take k)) fix true el)=some (h.upd b (.cells (qbr c off ((c'.drop off').take k)) fix true el)):=f.put hb hg.lt
  refine ⟨h.upd b (.cells (qbr c off ((c'.drop off').take k)) fix true el),?_,Put.mk' hg _⟩
  simp only [copyT,qby,List.getElem?_toArray,List.getElem?_cons_zero,List.getElem?_cons_succ,hu,Option.bind_some,q1,Option.map_some,lenT,q2,hk,hf,b0,Bool.cond_false,qdb,hg.get,e4,hall,Bool.and_self,Bool.cond_true,hp]
section
variable {P:Program} {h:TH} {K:qan→TH→Prop} {rest:List TOper} {d:Option Tmp} {ty t u:TypeId} {i:Nat} {x y:Operand} {L:Rg}
theorem pv_shr64 {n s:Nat} {yk:IntKind} (hs:s≤64):pv P (binOp .shr t (.int .u64 (n:Nat)) (.int yk (s:Nat)))=some (.int .u64 ((n / 2 ^ s:Nat):Int)):=by
 show pv P (Op.shift .shr .u64 n yk s)=_
 unfold Op.shift
 rw [if_neg (by omega)]
 show some (Value.int .u64 ((n:Int).fdiv (2 ^ (min (s:Int).toNat IntKind.u64.bits))))=_
 have e:min (s:Int).toNat IntKind.u64.bits=s:=by
  have:IntKind.u64.bits=64:=rfl
  rw [this];omega
 rw [e,Int.fdiv_eq_ediv_of_nonneg _ (Int.le_of_lt (Int.pow_pos (by decide)))]
 rfl
theorem pv_and64 {n:Nat} (hn:n < 4294967296):pv P (binOp .and t (.int .u64 (n:Nat)) (.int .u64 4294967295))=some (.int .u64 (n:Nat)):=by
 have e:(BitVec.ofInt 64 (n:Int) &&& BitVec.ofInt 64 4294967295).toNat=n:=by
  have e1:BitVec.ofInt 64 (n:Int)=BitVec.ofNat 64 n:=BitVec.ofInt_natCast ..
  have e2:BitVec.ofInt 64 4294967295=BitVec.ofNat 64 4294967295:=rfl
  rw [e1,e2,BitVec.toNat_and,BitVec.toNat_ofNat,BitVec.toNat_ofNat,Nat.mod_eq_of_lt (by omega),Nat.mod_eq_of_lt (by decide)]
  have:=Nat.and_two_pow_sub_one_eq_mod n 32
  rw [show (2 ^ 32 - 1:Nat)=4294967295 from rfl] at this
  rw [this]
  exact Nat.mod_eq_of_lt hn
 show pv P (pure (Value.int .u64 (IntKind.u64.wrap ((BitVec.ofInt 64 (n:Int) &&& BitVec.ofInt 64 4294967295).toNat:Nat))))=_
 rw [e,IntWalk.u64_in _ (by omega)]
 rfl
theorem WOL.shr64 {n:Nat} (hx:qbi L x=some (.int .u64 (n:Nat))) (hn:n < 4294967296) (w:∀ a,Kn (qdh L d (.int .u64 0)) a→WO P tp rest a h K):∀ a,Kn L a→WO P tp (⟨d,.binOp .shr t x (.const (.int .u64 32)) u,ty,none,[],i⟩::rest) a h K :=
 WOL.pbin hx rfl rfl rfl rfl ⟨by decide,by decide⟩ (by
  have:=pv_shr64 (P:=P) (t:=t) (n:=n) (s:=32) (yk:=.u64) (by decide)
  rw [Nat.div_eq_of_lt (by omega)] at this
  exact this) rfl w
theorem WOL.and64 {n:Nat} (hx:qbi L x=some (.int .u64 (n:Nat))) (hn:n < 4294967296) (w:∀ a,Kn (qdh L d (.int .u64 (n:Nat))) a→WO P tp rest a h K):∀ a,Kn L a→WO P tp (⟨d,.binOp .and t x (.const (.int .u64 4294967295)) u,ty,none,[],i⟩::rest) a h K :=
 WOL.pbin hx rfl rfl rfl rfl ⟨by decide,by decide⟩ (pv_and64 hn) rfl w
theorem fwrap_u64 {z:Int} (h1:0≤z) (h2:z≤18446744073709551615):qbm .u64 z=z:=by rw [fwrap_eq];exact IntWalk.u64_in z ⟨h1,h2⟩
end
theorem k1235 (H:Has tp) {n:Nat} (hn:n < 4294967296) (h:TH):qad Tryz.prog tp (.func (.func 203) #[] #[]) #[.int .u64 1,.int .u64 (n:Nat)] h fun v h'=>v=.tuple #[.int .u64 0,.int .u64 (n:Nat)]∧h'=h:=by
 have one:∀ k:Nat,k=n→some (Value.int .u64 (qbm .u64 (1*(k:Int))))=some (Value.int .u64 (n:Nat)):=fun k e=>by rw [e,Int.one_mul,fwrap_u64 (by omega) (by omega)]
 refine qad.fnL (H.fn 203 f1235 rfl rfl) ?_
 refine WL.sr<|WOL.as rfl<|WOL.as rfl<|WOL.nil<|keep [(0,_),(1,_)] ⟨rfl,rfl,trivial⟩ ?_
 refine WL.sr<|WOL.mv rfl<|WOL.and64 (n:=1) rfl (by decide)<|WOL.as rfl<|WOL.nil<|keep [(0,_),(1,_),(6,_)] ⟨rfl,rfl,rfl,trivial⟩ ?_
 refine WL.sr<|WOL.mv rfl<|WOL.shr64 (n:=1) rfl (by decide)<|WOL.as rfl<|WOL.nil<|keep [(0,_),(1,_),(6,_),(7,_)] ⟨rfl,rfl,rfl,rfl,trivial⟩ ?_
 refine WL.sr<|WOL.mv rfl<|WOL.and64 rfl hn<|WOL.as rfl<|WOL.nil<|keep [(0,_),(1,_),(6,_),(7,_),(8,_)] ⟨rfl,rfl,rfl,rfl,rfl,trivial⟩ ?_
 refine WL.sr<|WOL.mv rfl<|WOL.shr64 rfl hn<|WOL.as rfl<|WOL.nil<|keep [(0,_),(1,_),(6,_),(7,_),(8,_),(9,_)] ⟨rfl,rfl,rfl,rfl,rfl,rfl,trivial⟩ ?_
 refine WL.sr<|WOL.mv rfl<|WOL.mv rfl<|WOL.bi (v:=.int .u64 (n:Nat)) rfl rfl (one n rfl)<|WOL.as rfl<|WOL.nil<|keep [(0,_),(1,_),(6,_),(7,_),(8,_),(9,_),(10,_)] ⟨rfl,rfl,rfl,rfl,rfl,rfl,rfl,trivial⟩ ?_
 refine WL.sr<|WOL.mv rfl<|WOL.mv rfl<|WOL.bi (v:=.int .u64 0) rfl rfl (by show some (Value.int .u64 (qbm .u64 (0*(n:Int))))=_;rw [Int.zero_mul];rfl)<|WOL.mv rfl<|WOL.shr64 rfl hn<|WOL.bi (v:=.int .u64 0) rfl rfl rfl<|WOL.as rfl<|WOL.nil<|keep [(0,_),(1,_),(6,_),(7,_),(8,_),(9,_),(11,_)] ⟨rfl,rfl,rfl,rfl,rfl,rfl,rfl,trivial⟩ ?_
 refine WL.sr<|WOL.mv rfl<|WOL.and64 (n:=0) rfl (by decide)<|WOL.as rfl<|WOL.nil<|keep [(0,_),(1,_),(6,_),(7,_),(8,_),(9,_),(11,_),(12,_)] ⟨rfl,rfl,rfl,rfl,rfl,rfl,rfl,rfl,trivial⟩ ?_
 refine WL.sr<|WOL.mv rfl<|WOL.shr64 (n:=0) rfl (by decide)<|WOL.as rfl<|WOL.nil<|keep [(0,_),(1,_),(6,_),(7,_),(8,_),(9,_),(12,_),(13,_)] ⟨rfl,rfl,rfl,rfl,rfl,rfl,rfl,rfl,trivial⟩ ?_
 refine WL.sr<|WOL.mv rfl<|WOL.mv rfl<|WOL.mv rfl<|WOL.bi (v:=.int .u64 0) rfl rfl rfl<|WOL.bi (v:=.int .u64 0) rfl rfl rfl<|WOL.as rfl<|WOL.nil<|keep [(0,_),(1,_),(7,_),(9,_),(12,_),(13,_)] ⟨rfl,rfl,rfl,rfl,rfl,rfl,trivial⟩ ?_
 refine WL.sr<|WOL.mv rfl<|WOL.mv rfl<|WOL.bi (v:=.int .u64 0) rfl rfl rfl<|WOL.mv rfl<|WOL.bi (v:=.int .u64 0) rfl rfl rfl<|WOL.mv rfl<|WOL.shr64 (n:=0) rfl (by decide)<|WOL.bi (v:=.int .u64 0) rfl rfl rfl<|WOL.as rfl<|WOL.nil<|keep [(0,_),(1,_),(4,_)] ⟨rfl,rfl,rfl,trivial⟩ ?_
 refine WL.sr<|WOL.mv rfl<|WOL.mv rfl<|WOL.bi (v:=.int .u64 (n:Nat)) rfl rfl (one n rfl)<|WOL.as rfl<|WOL.nil ?_
 exact WL.ret (WL.end_ rfl ⟨rfl,rfl⟩)
theorem k1233 (H:Has tp) {n:Nat} (hn:n < 4294967296) (h:TH):qad Tryz.prog tp (.func (.func 188) #[] #[]) #[.int .u64 1,.int .u64 (n:Nat)] h fun v h'=>v=.tuple #[.int .u64 0,.int .u64 (n:Nat)]∧h'=h:=by
 refine qad.fnL (H.fn 188 f1233 rfl rfl) ?_
 refine WL.sr<|WOL.as rfl<|WOL.as rfl<|WOL.nil<|keep [(0,_),(1,_)] ⟨rfl,rfl,trivial⟩ ?_
 refine WL.seq<|WL.no rfl<|WL.skip ?_
 refine WL.sr<|WOL.mv rfl<|WOL.mv rfl<|WOL.cl2 rfl rfl rfl ((k1235 H hn _).mono ?_)
 rintro v h2 ⟨rfl,rfl⟩
 refine WOL.mv rfl<|WOL.ex rfl rfl<|WOL.ex rfl rfl<|WOL.as rfl<|WOL.as rfl<|WOL.nil<|keep [(8,_),(9,_)] ⟨rfl,rfl,trivial⟩ ?_
 refine WL.sr<|WOL.mv rfl<|WOL.mv rfl<|WOL.as rfl<|WOL.as rfl<|WOL.nil ?_
 exact WL.ret (WL.end_ rfl ⟨rfl,rfl⟩)
def tf (c n:Nat):List Value:=List.replicate c (.bool true) ++ List.replicate (n - c) (.bool false)
theorem tf_len {c n:Nat} (h:c≤n):(tf c n).length=n:=by unfold tf;rw [List.length_append,List.length_replicate,List.length_replicate];omega
theorem tf_take {c k n:Nat} (h:k≤c):((tf c n).drop 0).take k=List.replicate k (.bool true):=by
 unfold tf
 rw [List.drop_zero,List.take_append_of_le_length (by rw [List.length_replicate];exact h),List.take_replicate,Nat.min_eq_left h]
theorem rep_add {α:Type} (x:α) (b:Nat):∀ a:Nat,List.replicate (a+b) x=List.replicate a x ++ List.replicate b x
 | 0=>by rw [Nat.zero_add];rfl
 | a+1=>by rw [show a+1+b=(a+b)+1 by omega,List.replicate_succ,List.replicate_succ,rep_add x b a];rfl
theorem tf_splice {c k n:Nat} (h:c+k≤n):qbr (tf c n) c (List.replicate k (.bool true))=tf (c+k) n:=by
 unfold qbr tf
 have e:List.replicate (n - c) (Value.bool false)=List.replicate k (.bool false) ++ List.replicate (n - (c+k)) (.bool false):=by rw [← rep_add];congr 1;omega
 have d:(List.replicate c (Value.bool true) ++ (List.replicate k (Value.bool false) ++ List.replicate (n - (c+k)) (Value.bool false))).drop (c+k)=List.replicate (n - (c+k)) (.bool false):=by
  rw [← List.append_assoc]
  exact List.drop_left' (by rw [List.length_append,List.length_replicate,List.length_replicate])
 rw [List.length_replicate,e,List.take_left' List.length_replicate,d,rep_add,List.append_assoc]
theorem all_true (k:Nat):(List.replicate k (Value.bool true)).all qbt=true:=by
 rw [List.all_eq_true]
 intro x hx
 rw [List.eq_of_mem_replicate hx]
 rfl
section
variable {h:TH} {b1 n:Nat} {fix wr:Bool} {el:TypeId}
set_option maxHeartbeats 2000000 in
set_option maxRecDepth 10000 in
theorem k1232 (H:Has tp) (A1:At h b1 (.cells [.bool true] fix wr el)) (hn:n≤1000000) (f:Free0 h.next h):qad Tryz.prog tp (.func (.func 173) #[] #[]) #[.slice (some ⟨b1,0,none⟩) 1 1,zi (n:Nat)] h fun v h'=>∃ b,v=slA b n∧At h' b (.cells (tf n n) true true 4)∧HX h h'∧h.next≤b:=by
 have l1:=A1.lt
 refine qad.fnL (H.fn 173 f1232 rfl rfl) ?_
 refine WL.sr<|WOL.as rfl<|WOL.nil<|keep [(0,_),(1,_)] ⟨rfl,rfl,trivial⟩ ?_
 refine WL.seq<|WL.sr<|WOL.mv rfl<|WOL.bf rfl rfl rfl (by first | exact decide_eq_false (by omega) | exact beq_eq_false_iff_ne.2 (by omega) | exact bne_eq_false_iff_eq.2 (by omega))<|WOL.nil<|keep [(0,_),(1,_),(10,_)] ⟨rfl,rfl,rfl,trivial⟩ ?_
 refine WL.no rfl<|WL.skip ?_
 refine WL.sr<|WOL.mv rfl<|WOL.len rfl (SlC.own (sz:=1) (m:=1) rfl A1) u145<|WOL.cvw u3 u228 rfl ?_
 rw [show IntKind.u64.wrap ((1:Nat):Int)=1 from IntWalk.u64_in _ (by decide)]
 refine WOL.mv rfl<|WOL.cvw u3 u228 rfl ?_
 rw [show IntKind.u64.wrap ((n:Nat):Int)=((n:Nat):Int) from IntWalk.u64_in _ (by omega)]
 refine WOL.cl2 rfl rfl rfl ((k1233 H (n:=n) (by omega) _).mono ?_)
 rintro v h ⟨rfl,rfl⟩
 refine WOL.mv rfl<|WOL.ex rfl rfl<|WOL.ex rfl rfl<|WOL.as rfl<|WOL.as rfl<|WOL.nil<|keep [(0,_),(5,_),(6,_)] ⟨rfl,rfl,rfl,trivial⟩ ?_
 refine WL.seq<|WL.sr<|WOL.mv rfl<|WOL.bf rfl rfl rfl rfl<|WOL.mv rfl<|WOL.now (b:=false) rfl rfl<|WOL.mv rfl<|WOL.now (b:=false) rfl rfl<|WOL.bf rfl rfl rfl (by first | exact decide_eq_false (by omega) | exact beq_eq_false_iff_ne.2 (by omega) | exact bne_eq_false_iff_eq.2 (by omega))<|WOL.pkf rfl rfl<|WOL.nil<|keep [(0,_),(6,_),(26,_)] ⟨rfl,rfl,rfl,trivial⟩ ?_
 refine WL.no rfl<|WL.skip ?_
 refine WL.sr<|WOL.mv rfl<|WOL.cvw u228 u3 rfl ?_
 rw [show IntKind.i64.wrap ((n:Nat):Int)=((n:Nat):Int) from IntWalk.i64_in _ (by omega)]
 refine WOL.ms (m:=n) rfl rfl u145 tp4 (by decide) (by omega) fun h3 N3=>WOL.as rfl<|WOL.nil<|keep [(0,_),(7,_)] ⟨rfl,rfl,trivial⟩ ?_
 have n3:=N3.next
 have A3:=N3.at_
 rw [rep_flat,show List.replicate n (Value.bool false)=tf 0 n by unfold tf;rw [Nat.sub_zero];rfl] at A3
 refine WL.sr<|WOL.mv rfl<|WOL.mv rfl ?_
 obtain ⟨h4,cp,P4⟩:=copy_part (off:=0) (off':=0) (k:=Nat.min 1 n) (d:=n) (cap:=n) (cap':=1) (m:=1) u145 tp4 A3 (A1.hx N3.hx) rfl (by rw [tf_len (Nat.zero_le _)];omega) (by decide) (by
  cases n with
  | zero=>rfl
  | succ n=>rw [show Nat.min 1 (n+1)=1 from Nat.min_eq_left (by omega)];rfl) (f.hx N3.hx) (Nat.le_refl _)
 refine WOL.cp rfl rfl cp<|WOL.as rfl<|WOL.nil<|keep [(7,_),(8,_)] ⟨rfl,rfl,trivial⟩ ?_
 have A4:=P4.at_
 rw [show ([Value.bool true].drop 0).take (Nat.min 1 n)=List.replicate (Nat.min 1 n) (.bool true) by
  cases n with
  | zero=>rfl
  | succ n=>rw [show Nat.min 1 (n+1)=1 from Nat.min_eq_left (by omega)];rfl,tf_splice (by have:Nat.min 1 n≤n:=Nat.min_le_right 1 n;omega),Nat.zero_add] at A4
 have X4:HX h h4:=P4.hx _ N3.hx (Nat.le_refl _)
 have n4:=P4.next
 refine WL.seq<|WL.block ?_
 refine WL.loop (fun q a g=>∃ c:Nat,c≤n∧(n=0∨1≤c)∧q=n - c∧HX h g∧At g h.next (.cells (tf c n) true true 4)∧Kn [(7,slA h.next n),(8,zi (c:Nat))] a) (n - Nat.min 1 n) (fun a q=>⟨Nat.min 1 n,Nat.min_le_right _ _,by rcases Nat.eq_zero_or_pos n with e | e;exact .inl e;exact .inr (by rw [show Nat.min 1 n=1 from Nat.min_eq_left e];exact Nat.le_refl _),rfl,X4,A4,q.sub ⟨rfl,rfl,trivial⟩⟩) ?_
 rintro q a g ⟨c,hc,hc1,rfl,X,A,q⟩
 refine q.go ?_
 have s:SlC g (slA h.next n) 1 n (tf c n):=SlC.own (by rw [tf_len hc];omega) A
 refine WL.seq<|WL.seq<|WL.reg<|WOL.mv rfl<|WOL.mv rfl<|WOL.len rfl s u145<|WOL.bi (v:=.bool (decide (((c:Nat):Int) < ((n:Nat):Int)))) rfl rfl rfl<|WOL.nil<|keep [(7,_),(8,_),(37,_)] ⟨rfl,rfl,rfl,trivial⟩ ?_
 by_cases hlt:c < n
 ·rw [decide_eq_true (show ((c:Nat):Int) < ((n:Nat):Int) by omega)]
  refine WL.yes rfl<|WL.skip ?_
  refine WL.block<|WL.reg<|WOL.mv rfl<|WOL.mv rfl<|WOL.mv rfl<|WOL.slG rfl rfl rfl rfl (sliceT_from u145 tp4 (Nat.le_refl n) hc A (.inl rfl))<|WOL.mv rfl<|WOL.mv rfl<|WOL.slG rfl rfl rfl rfl (sliceT_to u145 tp4 (Nat.le_refl n) hc A (.inl rfl)) ?_
  obtain ⟨h5,cp5,P5⟩:=copy_part (b:=h.next) (off:=c) (d:=n - c) (cap:=n - c) (b':=h.next) (off':=0) (m:=c) (cap':=n) (k:=Nat.min c (n - c)) u145 tp4 A A rfl (by rw [tf_len hc];omega) (by rw [tf_len hc];omega) (by rw [tf_take (Nat.min_le_left _ _)];exact all_true _) (f.hx X) (Nat.le_refl _)
  have A5:=P5.at_
  have km:Nat.min c (n - c)≤n - c:=Nat.min_le_right c (n - c)
  have kl:Nat.min c (n - c)≤c:=Nat.min_le_left c (n - c)
  have kp:1≤Nat.min c (n - c):=Nat.le_min.2 ⟨by omega,by omega⟩
  rw [tf_take kl,tf_splice (by omega)] at A5
  refine WOL.cp rfl rfl (by rw [Nat.zero_add,Nat.mul_one];exact cp5)<|WOL.add (m:=((c:Nat):Int)) (n:=((Nat.min c (n - c):Nat):Int)) rfl rfl (by omega) (by omega) ?_
  rw [show ((c:Nat):Int)+((Nat.min c (n - c):Nat):Int)=((c+Nat.min c (n - c):Nat):Int) by omega]
  exact WOL.as rfl<|WOL.nil fun a q=>⟨n - (c+Nat.min c (n - c)),by omega,c+Nat.min c (n - c),by omega,.inr (by omega),rfl,P5.hx _ X (Nat.le_refl _),A5,q.sub ⟨rfl,rfl,trivial⟩⟩
 ·rw [decide_eq_false (show ¬ ((c:Nat):Int) < ((n:Nat):Int) by omega)]
  obtain rfl:c=n:=by omega
  have fin:∀ a,Kn [(7,slA h.next c)] a→W Tryz.prog tp false (.seq (.reg r1232_10) .ret) a g (Fin Tryz.prog [.tmp 4] fun v h'=>∃ b,v=slA b c∧At h' b (.cells (tf c c) true true 4)∧HX h h'∧h.next≤b):=by
   refine WL.sr<|WOL.mv rfl<|WOL.as rfl<|WOL.nil ?_
   exact WL.ret (WL.end_ rfl ⟨h.next,rfl,A,X,Nat.le_refl _⟩)
  exact WL.no rfl<|WL.exit<|kto fin ⟨rfl,trivial⟩
end
end Go.Tidy
namespace Go.Tidy
open Go Go.Proofs Tab
variable {tp:TProg}
theorem knownB_snoc {T:List (Int × Int)} {p:Int × Int} {x:Int}:qam (T ++ [p]) x=(qam T x && !inS x p):=by
 unfold qam
 rw [List.any_append]
 simp
theorem known_nil (m:Nat):qav [] m=List.replicate m true:=by
 refine List.eq_replicate_iff.2 ⟨qcb _ _,fun b hb=>?_⟩
 unfold qav at hb
 obtain ⟨i,_,rfl⟩:=List.mem_map.1 hb
 rfl
theorem known_clear {T:List (Int × Int)} {lo hi m:Nat} (h1:lo≤hi) (h2:hi≤m):(qav T m).take lo ++ (List.replicate (hi - lo) false ++ (qav T m).drop hi)=qav (T ++ [((lo:Int),(hi:Int))]) m:=by
  refine List.ext_getElem? fun i=>?_
  have ll:=qcb T m
  rw [List.getElem?_append,List.length_take,ll,Nat.min_eq_left (by omega),List.getElem?_append,List.length_replicate,List.getElem?_drop]
  by_cases him:i < m
  · rw [qea him,knownB_snoc]
    unfold inS
    by_cases c1:i < lo
    · rw [if_pos c1,List.getElem?_take_of_lt c1,qea him,decide_eq_false (show ¬ ((i:Nat):Int) ≥ (lo:Int) by omega)]
      simp
    · rw [if_neg c1]
      by_cases c2:i < hi
      · rw [if_pos (by omega),List.getElem?_replicate,if_pos (by omega),decide_eq_true (show ((i:Nat):Int) ≥ (lo:Int) by omega),decide_eq_true (show ((i:Nat):Int) < (hi:Int) by omega)]
        simp
      · rw [if_neg (by omega),show hi+(i - lo - (hi - lo))=i by omega,qea him,decide_eq_false (show ¬ ((i:Nat):Int) < (hi:Int) by omega)]
        simp
  · rw [if_neg (by omega),if_neg (by omega),List.getElem?_eq_none (by omega),List.getElem?_eq_none (by rw [qcb];omega)]
theorem WOL.clrK {P:Program} {tp:TProg} {h h1:TH} {K:qan→TH→Prop} {rest:List TOper} {d:Option Tmp} {ty:TypeId} {i:Nat} {x:Operand} {L:Rg} {ts:Array TypeId} {vx v:Value} (hx:qbi L x=some vx) (hv:clearT P ts #[vx] h=some (v,h1)) (w:∀ a,Kn (qdh L d v) a→WO P tp rest a h1 K):∀ a,Kn L a→WO P tp (⟨d,.call ⟨.builtin .clear,#[x],ts⟩,ty,none,[],i⟩::rest) a h K:=fun a k=>WO.clr (k.o hx) hv (w _ (k.put d _))
section
variable {h:TH} {v2:Value} {S:List (Int × Int)} {m:Nat}
set_option maxHeartbeats 2000000 in
set_option maxRecDepth 10000 in
theorem k1223 (H:Has tp) (s:SlL encS 2 h v2 S) (hm:m≤1000000) (hS:S.length≤1000000) (hin:In m S) (f:Free0 h.next h):qad Tryz.prog tp (.func (.func 145) #[] #[]) #[zi (m:Nat),v2] h fun v h'=>∃ b,v=slA b m∧At h' b (.cells (cat encB (qav S m)) true true 4)∧HX h h'∧h.next≤b:=by
 refine qad.fnL (H.fn 145 f1223 rfl rfl) ?_
 refine WL.sr<|WOL.as rfl<|WOL.nil<|keep [(0,_),(1,_)] ⟨rfl,rfl,trivial⟩ ?_
 refine WL.sr<|WOL.bs1 rfl u145 tp4 rfl fun h1 N1=>WOL.mv rfl ?_
 have n1:=N1.next
 refine WOL.cl2 rfl rfl rfl ((k1232 H N1.at_ hm (f.on N1.hx)).mono ?_)
 rintro v h2 ⟨b,rfl,A2,X2,hb⟩
 have e0:tf m m=cat encB (qav (S.take 0) m):=by
  rw [List.take_zero,known_nil,cat_rep (enc:=encB) (x:=true) (z:=.bool true) rfl]
  unfold tf
  rw [Nat.sub_self]
  exact List.append_nil _
 rw [e0] at A2
 have Y2:=N1.hx.trans X2
 refine WOL.as rfl<|WOL.nil<|keep [(1,_),(5,_)] ⟨rfl,rfl,trivial⟩ ?_
 refine WL.seq<|WL.sr<|WOL.mv rfl<|WOL.len rfl (s.hx Y2) u44<|WOL.mv rfl<|WOL.nil<|keep [(5,_),(11,_),(12,_),(13,_)] ⟨rfl,rfl,rfl,rfl,trivial⟩ ?_
 refine WL.upto (α:=Unit) S.length (fun j _ g=>HX h g∧At g b (.cells (cat encB (qav (S.take j) m)) true true 4)) (fun _ _=>[(5,slA b m),(11,v2),(12,zi (S.length:Nat))]) () rfl rfl (by omega) ⟨Y2,A2⟩ ⟨rfl,rfl,rfl,rfl,trivial⟩ (fun _ _=>rfl) (fun _ _ _=>⟨rfl,rfl,rfl,rfl,trivial⟩) (fun _ _ _=>⟨rfl,rfl,rfl,rfl,trivial⟩) ?_ ?_
 ·rintro j _ g hj ⟨X,A⟩
  have hp:S[j]?=some S[j]:=List.getElem?_eq_getElem hj
  obtain ⟨q1,q2,q3⟩:=hin S[j] (List.getElem_mem hj)
  have ht:S.take (j+1)=S.take j ++ [S[j]]:=List.take_succ_eq_append_getElem hj
  generalize S[j]=p at *
  obtain ⟨p1,p2⟩:=p
  replace q1:0≤p1:=q1
  replace q2:p1≤p2:=q2
  replace q3:p2≤(m:Int):=q3
  obtain ⟨lo,rfl⟩:∃ lo:Nat,p1=(lo:Int):=⟨p1.toNat,by omega⟩
  obtain ⟨hi,rfl⟩:∃ hi:Nat,p2=(hi:Int):=⟨p2.toNat,by omega⟩
  have la:=A.lt
  have xg:=X.next
  obtain ⟨b3,o,cc,fix,wr,el,g1,g2,g3,g4,g5⟩:=(s.hx X).at eS u44 tp48 hp .i64
  refine WL.sr<|WOL.ix rfl rfl g1<|WOL.ld rfl (qab tp48 g2 g4 g3)<|WOL.al tp48 fun i1 M1=>?_
  refine WOL.sto (vs:=encS ((lo:Int),(hi:Int))) rfl rfl tp48 M1.at_ rfl rfl (Nat.le_of_ble_eq_true rfl) rfl (f.hx (X.trans M1.hx)) X.next fun i2 M2=>?_
  have A7:At i2 g.next (.cells [zi (lo:Nat),zi (hi:Nat)] true true 77):=M2.at_
  have XI:HX g i2:=M2.hx _ M1.hx (Nat.le_refl _)
  replace A:=A.hx XI
  refine WOL.nil<|keep [(5,_),(7,_),(11,_),(12,_),(13,_)] ⟨rfl,rfl,rfl,rfl,rfl,trivial⟩ ?_
  refine WL.reg<|WOL.mv rfl<|WOL.fa rfl (qaf qcq)<|WOL.ld rfl (qaa tp3 A7 rfl)<|WOL.fa rfl (qaf qcl)<|WOL.ld rfl (qaa tp3 A7 rfl)<|WOL.sl rfl rfl rfl (sliceT_at u145 tp4 (Nat.le_refl m) (by omega) (by omega) A (.inl rfl)) ?_
  obtain ⟨h5,cl,x5,o5,n5,A5⟩:=clear_part (z0:=false) (off:=lo) (k:=hi - lo) (cap:=m - lo) eB (by decide) u145 tp4 A (by rw [qcb];omega) (f.hx (X.trans XI)) (by omega)
  refine WOL.clrK rfl (by rw [Nat.zero_add];exact cl)<|WOL.nil fun a q=>⟨(),⟨x5 _ (X.trans XI) (by omega),?_⟩,q.sub ⟨rfl,rfl,rfl,rfl,trivial⟩⟩
  rw [show lo+(hi - lo)=hi by omega,known_clear (by omega) (by omega),← ht] at A5
  exact A5
 ·rintro _ g ⟨X,A⟩
  rw [List.take_length] at A
  refine WL.sr<|WOL.mv rfl<|WOL.as rfl<|WOL.nil ?_
  exact WL.ret (WL.end_ rfl ⟨b,rfl,A,X,by omega⟩)
end
end Go.Tidy
namespace Go.Tidy
open Go Go.Proofs Tab
variable {tp:TProg}
section
variable {h:TH} {n:Int} {v1 v2:Value} {L:List Int} {S:List (Int × Int)}
set_option maxHeartbeats 2000000 in
set_option maxRecDepth 10000 in
theorem k1177 (H:Has tp) (r:TrcH h v1 v2 L S) (hL:L.length≤1000000) (hS:S.length≤1000000) (hin:In L.length S) (f:Free0 h.next h):qad Tryz.prog tp (.func (.func 92) #[] #[]) #[trcV n v1 v2] h fun v h'=>HX h h'∧∃ bv bk,v=rowV n (slA bv L.length) (slA bk L.length)∧h.next≤bv∧h.next≤bk∧RowA h' bv bk L (qav S L.length):=by
 refine qad.fnL (H.fn 92 f1177 rfl rfl) ?_
 refine WL.sr<|WOL.box rfl fun h1 N1=>WOL.al tp1194 fun h2 N2=>WOL.nil<|keep [(1,_),(2,_)] ⟨rfl,rfl,trivial⟩ ?_
 have n1:=N1.next
 have n2:=N2.next
 have A1:At h2 h.next (.cells [zi n,v1,v2] true true 55):=N1.at_.hx N2.hx
 have A2:=N2.at_
 have X2:=N1.hx.trans N2.hx
 have r0:=r
 replace r:=r.hx X2
 refine WL.sr<|WOL.fa rfl (qaf qcf)<|WOL.ld rfl (qaa tp3 A1 rfl)<|WOL.fa rfl (qaf qau)<|WOL.ld rfl (qaa tp29 A1 rfl)<|WOL.len rfl r.l u29<|WOL.cl2 rfl rfl rfl ((k1178 H hL (f.on X2)).mono ?_)
 rintro v h3 ⟨X3,bv,bk,rfl,lv,lk,ra⟩
 have x3:=X3.next
 have bvl:=ra.v.lt
 have bkl:=ra.k.lt
 refine WOL.al tp1194 fun h4 N4=>?_
 have n4:=N4.next
 have X4:=(X2.trans X3).trans N4.hx
 refine WOL.sto (vs:=[zi n,slA bv L.length,.slice none 0 0,slA bk L.length]) rfl rfl tp1194 N4.at_ rfl rfl (Nat.le_of_ble_eq_true rfl) rfl (f.hx X4) (by omega) fun h5 P5=>WOL.nil<|keep [(1,_),(2,_),(3,_)] ⟨rfl,rfl,rfl,trivial⟩ ?_
 have n5:=P5.next
 have A3:At h5 h3.next (.cells [zi n,slA bv L.length,.slice none 0 0,slA bk L.length] true true 148):=P5.at_
 have X5:HX h h5:=P5.hx _ X4 (by omega)
 have x35:HX h3 h5:=P5.hx _ N4.hx (Nat.le_refl _)
 replace ra:=ra.hx x35
 have y5:=X3.trans x35
 replace A1:=A1.hx y5;replace A2:=A2.hx y5;replace r:=r.hx y5
 have A4:=ra.v
 -- the values
 refine WL.sr<|WOL.fa rfl (qaf qdc)<|WOL.fa rfl (qaf qau)<|WOL.ld rfl (qaa tp29 A3 rfl)<|WOL.fa rfl (qaf qau)<|WOL.ld rfl (qaa tp29 A1 rfl) ?_
 obtain ⟨h6,cp,P6⟩:=copy_into u29 tp3 A4 (by rw [eI.cat_len,List.length_replicate]) r.l (eI.all _) (f.hx X5) (by omega)
 refine WOL.cp rfl rfl cp<|WOL.nil<|keep [(1,_),(2,_),(3,_)] ⟨rfl,rfl,rfl,trivial⟩ ?_
 have n6:=P6.next
 have Av:=P6.at_
 have X6:HX h h6:=P6.hx _ X5 (by omega)
 have X26:HX h2 h6:=P6.hx _ y5 (by omega)
 have Ak:=P6.oth _ _ ra.n.symm ra.k
 replace A3:=P6.oth _ _ (by omega) A3
 replace A1:=P6.oth _ _ (by have:=A1.lt;have:=X2.next;omega) A1
 replace A2:=P6.oth _ _ (by omega) A2
 refine WL.sr<|WOL.fa rfl (qaf qau)<|WOL.ld rfl (qaa tp29 A1 rfl)<|WOL.len rfl (r0.l.hx X6) u29<|WOL.fa rfl (qaf fo1117_2)<|WOL.ld rfl (qaa tp44 A1 rfl)<|WOL.cl2 rfl rfl rfl ((k1223 H (r0.s.hx X6) hL hS hin (f.on X6)).mono ?_)
 rintro v h7 ⟨b,rfl,A7,X7,hb⟩
 have x7:=X7.next
 have x6:=X6.next
 have a3:=A3.lt
 have a2:=A2.lt
 have av:=Av.lt
 refine WOL.fa rfl (qaf fo1194_1)<|WOL.sto (vs:=[slA b L.length]) rfl rfl tp145 (A3.hx X7) rfl rfl (Nat.le_of_ble_eq_true rfl) rfl (f.hx (X6.trans X7)) (by omega) fun h8 P8=>WOL.nil<|keep [(1,_),(2,_),(3,_)] ⟨rfl,rfl,rfl,trivial⟩ ?_
 have n8:=P8.next
 have B3:At h8 h3.next (.cells [zi n,slA bv L.length,.slice none 0 0,slA b L.length] true true 148):=P8.at_
 have X8:HX h h8:=P8.hx _ (X6.trans X7) (by omega)
 have B2:=P8.oth _ _ (by omega) (A2.hx X7)
 have Bv:=P8.oth _ _ (by omega) (Av.hx X7)
 have Bk:=P8.oth _ _ (by omega) A7
 refine WL.sr<|WOL.ld rfl (qab tp1194 B3 rfl (Nat.le_of_ble_eq_true rfl))<|WOL.sto (vs:=[zi n,slA bv L.length,.slice none 0 0,slA b L.length]) rfl rfl tp1194 B2 rfl rfl (Nat.le_of_ble_eq_true rfl) rfl (f.hx X8) (by omega) fun h9 P9=>WOL.nil ?_
 refine WL.ret (WL.endC rfl (qab tp1194 P9.at_ rfl (Nat.le_of_ble_eq_true rfl)) ⟨P9.hx _ X8 (by omega),bv,b,rfl,by omega,by omega,⟨P9.oth _ _ (by omega) Bv,P9.oth _ _ (by omega) Bk,qcb _ _,by omega⟩⟩)
end
end Go.Tidy
namespace Go.Tidy
open Go Go.Proofs Tab
variable {tp:TProg}
def qcr (C:List (Int × Bool)):List Int:=C.map fun c=>cond c.2 c.1 0
def bigC (C:List (Int × Bool)):Bool:=C.any fun c=>c.2 && qcd c.1
section
variable {h g:TH} {n:Int} {v:Value} {C:List (Int × Bool)} {j:Nat}
end
end Go.Tidy
namespace Go.Tidy
open Go Go.Proofs Tab
variable {tp:TProg}
theorem OwnL.low {α:Type} {enc:α→List Value} {n0 n1:Nat} {h:TH} {v:Value} {e:TypeId} {l:List α} (o:OwnL enc n1 h v e l) (h0:n0≤n1):OwnL enc n0 h v e l:=by
 rcases o with q | ⟨q1,b,q2,q3,q4⟩
 ·exact .inl q
 ·exact .inr ⟨q1,b,q2,by omega,q4⟩
section
variable {h:TH} {n n':Int} {v1 v2 w1 w2:Value} {L1 L2:List Int} {S1 S2:List (Int × Int)}
end
end Go.Tidy
namespace Go.Tidy
open Go Go.Proofs Tab
variable {tp:TProg}
theorem tbl_get {α:Type} {f:Nat→α} {m i:Nat}:((List.range m).map f)[i]?=if i < m then some (f i) else none:=by
 rw [List.getElem?_map]
 by_cases h:i < m
 ·rw [List.getElem?_range h,if_pos h];rfl
 ·rw [List.getElem?_eq_none (by rw [List.length_range];omega),if_neg h];rfl
def upTo {α:Type} (z:α) (C:List α) (m j:Nat):List α:=(List.range m).map fun i=>cond (decide (i < j)) (C.getD i z) z
section
variable {α:Type} {z:α} {C:List α} {m j:Nat}
theorem upTo_len:(upTo z C m j).length=m:=by unfold upTo;rw [List.length_map,List.length_range]
theorem upTo_zero:upTo z C m 0=List.replicate m z:=by
 refine List.eq_replicate_iff.2 ⟨upTo_len,fun b hb=>?_⟩
 unfold upTo at hb
 obtain ⟨i,_,rfl⟩:=List.mem_map.1 hb
 rfl
theorem upTo_set:upTo z C m (j+1)=(upTo z C m j).set j (C.getD j z):=by
 refine List.ext_getElem? fun i=>?_
 unfold upTo
 rw [tbl_get]
 by_cases e:i=j
 ·subst e
  by_cases h:i < m
  ·rw [if_pos h,List.getElem?_set_self (by rw [List.length_map,List.length_range];exact h),decide_eq_true (Nat.lt_succ_self i)];rfl
  ·rw [if_neg h,List.getElem?_eq_none (by rw [List.length_set,List.length_map,List.length_range];omega)]
 ·rw [List.getElem?_set_ne (by omega),tbl_get,show decide (i < j+1)=decide (i < j) from decide_eq_decide.2 (by omega)]
theorem upTo_same (h:C.getD j z=z):upTo z C m (j+1)=upTo z C m j:=by
 unfold upTo
 refine List.map_congr_left fun i _=>?_
 by_cases e:i=j
 ·subst e
  rw [h]
  cases decide (i < i+1) <;> cases decide (i < i) <;> rfl
 ·rw [show decide (i < j+1)=decide (i < j) from decide_eq_decide.2 (by omega)]
theorem upTo_all (h:C.length=m):upTo z C m m=C:=by
 refine List.ext_getElem? fun i=>?_
 unfold upTo
 rw [tbl_get]
 by_cases hi:i < m
 ·rw [if_pos hi,decide_eq_true hi,List.getD_eq_getElem?_getD,List.getElem?_eq_getElem (by omega)];rfl
 ·rw [if_neg hi,List.getElem?_eq_none (by omega)]
end
theorem bigC_val (C:List (Int × Bool)):bigC C=(qcr C).any qcd:=by
 unfold bigC qcr
 rw [List.any_map]
 congr 1
 funext c
 obtain ⟨x,k⟩:=c
 cases k with
 | true=>rfl
 | false=>show false=qcd 0;rfl
def ProgR (n:Int) (e:Int) (C:List (Int × Bool)) (n0:Nat) (h':TH) (v:Value):Prop :=
 (e≠0∧v=.tuple #[trcV 0 (.slice none 0 0) (.slice none 0 0),zi e])∨(e=0∧bigC C=true∧v=.tuple #[trcV 0 (.slice none 0 0) (.slice none 0 0),zi 4])∨(e=0∧bigC C=false∧∃ bv w,v=.tuple #[trcV n (slA bv C.length) w,zi 0]∧n0≤bv∧TrcO n0 h' bv w (qcr C) (qah (C.map fun c=>c.2)))
section
variable {h:TH} {n n':Int} {v1 v2 w1 w2:Value} {L1 L2:List Int} {S1 S2:List (Int × Int)}
end
end Go.Tidy
namespace Go.Tidy
open Go Go.Proofs Tab
variable {tp:TProg}
theorem trace_ok {n:Int} {L:List Int} {S:List (Int × Int)} (h:qbk n L S=0):(0≤n∧n≤100000000)∧(∀ i,-1073741824≤L.getD i 0∧L.getD i 0≤1073741824)∧qay L.length (-1) S=0∧S.any (qdo L)=false∧L.length≤4096∧n+(L.length:Int)≤100000000:=by
  have all:=qbb h
  have a1:=all _ (List.mem_cons_self ..)
  have a2:=all (cond (decide ((L.length:Int) > 4096)) 5 0) (by simp)
  have a3:=all (cond (decide (n+(L.length:Int) > 100000000)) 4 0) (by simp)
  have a4:=all (qae (L.map readE)) (by simp)
  have a5:=all (cond (qay L.length (-1) S != 0) (qay L.length (-1) S) (formE L S)) (by simp)
  have a6:=qbb a4
  have hh:qay L.length (-1) S=0:=by
    cases hb:(qay L.length (-1) S != 0) with
    | true=>rw [hb] at a5;exact a5
    | false=>exact bne_eq_false_iff_eq.1 hb
  refine ⟨out_in a1,fun i=>?_,hh,?_,?_,?_⟩
  · rw [List.getD_eq_getElem?_getD]
    cases hL:L[i]? with
    | none=>exact ⟨by decide,by decide⟩
    | some x =>
      have:=a6 _ (List.mem_map.2 ⟨x,List.mem_of_getElem? hL,rfl⟩)
      unfold readE outB at this
      show -1073741824≤x∧x≤1073741824
      cases h1:decide (x < -1073741824) with
      | true=>rw [h1] at this;cases this
      | false =>
        cases h2:decide (x > 1073741824) with
        | true=>rw [h1,h2] at this;cases this
        | false =>
          have:=of_decide_eq_false h1
          have:=of_decide_eq_false h2
          omega
  · rw [hh] at a5
    replace a5:formE L S=0:=a5
    unfold formE at a5
    cases hf:S.any (qdo L) with
    | true=>rw [hf] at a5;cases a5
    | false=>rfl
  · cases hb:decide ((L.length:Int) > 4096) with
    | true=>rw [hb] at a2;cases a2
    | false=>have:=of_decide_eq_false hb;omega
  · cases hb:decide (n+(L.length:Int) > 100000000) with
    | true=>rw [hb] at a3;cases a3
    | false=>have:=of_decide_eq_false hb;omega
section
variable {h:TH} {n n':Int} {v1 v2 w1 w2:Value} {L1 L2:List Int} {S1 S2:List (Int × Int)}
end
end Go.Tidy
namespace Go.Tidy
open Go Go.Proofs Tab
variable {tp:TProg}
def RevR (n p e:Int) (L:List Int) (S:List (Int × Int)) (n0:Nat) (h':TH) (v:Value):Prop :=
 (e≠0∧v=.tuple #[trcV 0 (.slice none 0 0) (.slice none 0 0),zi e])∨(e=0∧(2*p+1 - (n+L.length) < 0∨2*p+1 - (n+L.length)+L.length > 100000000)∧v=.tuple #[trcV 0 (.slice none 0 0) (.slice none 0 0),zi 14])∨(e=0∧0≤2*p+1 - (n+L.length)∧2*p+1 - (n+L.length)+L.length≤100000000∧∃ bv w,v=.tuple #[trcV (2*p+1 - (n+L.length)) (slA bv L.length) w,zi 0]∧n0≤bv∧TrcO n0 h' bv w L.reverse (qah (qav S L.length).reverse))
section
variable {h:TH} {n p:Int} {v1 v2:Value} {L:List Int} {S:List (Int × Int)}
end
end Go.Tidy
namespace Go.Tidy
open Go Go.Proofs Tab
theorem dark_zero {L:List Int} {S:List (Int × Int)} {i:Nat} (h:S.any (qdo L)=false) (hi:qam S (i:Int)=false):L.getD i 0=0:=by
 unfold qam at hi
 rw [Bool.not_eq_false'] at hi
 obtain ⟨p,hp,hx⟩:=List.any_eq_true.1 hi
 have ha:=List.any_eq_false.1 h p hp
 unfold inS at hx
 simp only [Bool.and_eq_true,decide_eq_true_eq] at hx
 rw [List.getD_eq_getElem?_getD]
 cases hL:L[i]? with
 | none=>rfl
 | some x =>
  show x=0
  have hm:x ∈ (L.drop p.1.toNat).take (p.2.toNat - p.1.toNat):=by
   refine List.mem_of_getElem? (i:=i - p.1.toNat) ?_
   rw [List.getElem?_take_of_lt (by omega),List.getElem?_drop,show p.1.toNat+(i - p.1.toNat)=i by omega]
   exact hL
  by_cases h0:x=0
  ·exact h0
  ·exact absurd (show qdo L p=true by unfold qdo;exact List.any_eq_true.2 ⟨x,hm,bne_iff_ne.2 h0⟩) ha
theorem zip_val {L:List Int} {S:List (Int × Int)} (h:S.any (qdo L)=false):qcr (zipK L S L.length)=L:=by
 unfold qcr zipK
 rw [List.map_map]
 refine List.ext_getElem? fun i=>?_
 rw [List.getElem?_map]
 by_cases hi:i < L.length
 ·rw [List.getElem?_range hi,List.getElem?_eq_getElem hi]
  show some (cond (qam S (i:Int)) (L.getD i 0) 0)=some L[i]
  have e:L.getD i 0=L[i]:=by rw [List.getD_eq_getElem?_getD,List.getElem?_eq_getElem hi];rfl
  cases hk:qam S (i:Int) with
  | true=>rw [← e];rfl
  | false=>rw [← e,dark_zero h hk];rfl
 ·rw [List.getElem?_eq_none (by rw [List.length_range];omega),List.getElem?_eq_none (by omega)];rfl
theorem zip_known {L:List Int} {S:List (Int × Int)} {m:Nat}:((zipK L S m).map fun c=>c.2)=qav S m:=by
 unfold zipK qav
 rw [List.map_map];rfl
theorem rev_val {L:List Int} {S:List (Int × Int)} (h:S.any (qdo L)=false):qcr (zipK L S L.length).reverse=L.reverse:=by
 unfold qcr
 rw [List.map_reverse]
 exact congrArg List.reverse (zip_val h)
theorem rev_known {L:List Int} {S:List (Int × Int)} {m:Nat}:((zipK L S m).reverse.map fun c=>c.2)=(qav S m).reverse:=by
 rw [List.map_reverse,zip_known]
theorem rev_big {L:List Int} {S:List (Int × Int)} {m:Nat} (lim:∀ i,-1073741824≤L.getD i 0∧L.getD i 0≤1073741824):bigC (zipK L S m).reverse=false:=by
 unfold bigC
 refine List.any_eq_false.2 fun c hc=>?_
 obtain ⟨i,_,rfl⟩:=List.mem_map.1 (List.mem_reverse.1 hc)
 have e:qcd (L.getD i 0)=false:=by
  obtain ⟨l1,l2⟩:=lim i
  unfold qcd readE outB
  rw [decide_eq_false (by omega),decide_eq_false (by omega)];rfl
 simp only [e,Bool.and_false]
 decide
theorem TrcO.ints {n0 bv m:Nat} {g:TH} {w:Value} {L:List Int} {S:List (Int × Int)} (r:TrcO n0 g bv w L S) (hm:m=L.length):IsInts g (slA bv m) L:=by
 subst hm
 have:=r.v
 rw [cat_I] at this
 exact .inr ⟨bv,L.length,_,_,_,rfl,this.lt,this.get⟩
end Go.Tidy
namespace Go.Tidy
open Go Go.Proofs Tab
def tapN (L:List Int) (i:Nat):List (Nat × Int)→Int→Int
 | [],s=>s
 | t::T,s=>tapN L i T (s+t.2*L.getD (i+t.1) 0)
def tapK (S:List (Int × Int)) (i:Nat) (T:List (Nat × Int)):Bool:=T.all fun t=>qam S ((i+t.1:Nat):Int)
def qbx (L:List Int) (S:List (Int × Int)) (T:List (Nat × Int)) (m:Nat):List (Int × Bool):=(List.range m).map fun i=>(tapN L i T 0,tapK S i T)
theorem qbh {L:List Int} {S:List (Int × Int)} {T:List (Nat × Int)} {m:Nat}:(qbx L S T m).length=m:=by unfold qbx;rw [List.length_map,List.length_range]
theorem tapC_get {L:List Int} {S:List (Int × Int)} {T:List (Nat × Int)} {m i:Nat} (h:i < m):(qbx L S T m)[i]?=some (tapN L i T 0,tapK S i T):=by
 unfold qbx
 rw [tbl_get,if_pos h]
theorem tapN_app {L:List Int} {i:Nat}:∀ {T U:List (Nat × Int)} {s:Int},tapN L i (T ++ U) s=tapN L i U (tapN L i T s)
 | [],_,_=>rfl
 | t::T,U,s=>by
  show tapN L i (T ++ U) _=tapN L i U (tapN L i T _)
  exact tapN_app
theorem tapN_lim {L:List Int} {i:Nat} (hL:∀ j,-1073741824≤L.getD j 0∧L.getD j 0≤1073741824):∀ {T:List (Nat × Int)} {s B:Int},(∀ t,t ∈ T→-10000≤t.2∧t.2≤10000)→-B≤s→s≤B→-(B+T.length*10737418240000)≤tapN L i T s∧tapN L i T s≤B+T.length*10737418240000
  | [],s,B,_,h1,h2=>by
    show -(B+((0:Nat):Int)*_)≤s∧s≤B+((0:Nat):Int)*_
    omega
  | t::T,s,B,hT,h1,h2=>by
    obtain ⟨a1,a2⟩:=hT t (List.mem_cons_self ..)
    obtain ⟨b1,b2⟩:=hL (i+t.1)
    have hp:(t.2*L.getD (i+t.1) 0).natAbs≤10737418240000:=by
      rw [Int.natAbs_mul]
      exact Nat.le_trans (Nat.mul_le_mul (show t.2.natAbs≤10000 by omega) (show (L.getD (i+t.1) 0).natAbs≤1073741824 by omega)) (by decide)
    have ih:=tapN_lim (i:=i) hL (T:=T) (s:=s+t.2*L.getD (i+t.1) 0) (B:=B+10737418240000) (fun u hu=>hT u (List.mem_cons_of_mem _ hu)) (by omega) (by omega)
    show _≤tapN L i T _∧tapN L i T _≤_
    rw [List.length_cons]
    omega
end Go.Tidy
namespace Go.Tidy
open Go Go.Proofs Tab
variable {tp:TProg}
theorem tp1242:Tp Tryz.prog 212 2 [.int .i64 0,.int .i64 0] true:=tp_of (by kernel_rfl) (by kernel_rfl) rfl
theorem u1214:Tryz.prog.underlying 139=some (.slice 212):=by kernel_rfl
theorem fo1242_0:qbe Tryz.prog 212 0=some 0:=by kernel_rfl
theorem fo1242_1:qbe Tryz.prog 212 1=some 1:=by kernel_rfl
theorem tp1214:Tp Tryz.prog 139 1 [.slice none 0 0] false:=tp_of (by kernel_rfl) (by kernel_rfl) rfl
theorem bd1242 {a b:Int}:buildT Tryz.prog 212 [(0,zi a),(1,zi b)]=some (.agg #[zi a,zi b]):=by kernel_rfl
theorem filled_taps3 (a b c:Int × Int):filled 2 3 [zi 0,zi 0] [(0,.agg #[zi a.1,zi a.2]),(1,.agg #[zi b.1,zi b.2]),(2,.agg #[zi c.1,zi c.2])]=some (cat encS [a,b,c]):=by
 rfl
def tapB (B:List Bool) (i:Nat) (T:List (Nat × Int)):Bool:=T.all fun t=>B.getD (i+t.1) false
theorem tapB_known {S:List (Int × Int)} {m i:Nat} {T:List (Nat × Int)} (h:∀ t,t ∈ T→i+t.1 < m):tapB (qav S m) i T=tapK S i T:=by
 unfold tapB tapK
 rw [Bool.eq_iff_iff,List.all_eq_true,List.all_eq_true]
 have e:∀ t,t ∈ T→(qav S m).getD (i+t.1) false=qam S ((i+t.1:Nat):Int):=fun t ht=>by
  rw [List.getD_eq_getElem?_getD,qea (h t ht)];rfl
 exact ⟨fun q t ht=>(e t ht) ▸ q t ht,fun q t ht=>(e t ht).symm ▸ q t ht⟩
def tapD (c:Int) (T:List (Nat × Int)):List (Int × Int):=T.map fun t=>((t.1:Int)+c,t.2)
theorem mul_lim {w x:Int} (a1:-10000≤w) (a2:w≤10000) (b1:-1073741824≤x) (b2:x≤1073741824):-10737418240000≤w*x∧w*x≤10737418240000:=by
 have hp:(w*x).natAbs≤10737418240000:=by
  rw [Int.natAbs_mul]
  exact Nat.le_trans (Nat.mul_le_mul (show w.natAbs≤10000 by omega) (show x.natAbs≤1073741824 by omega)) (by decide)
 omega
section
variable {h:TH} {n:Int} {L:List Int} {B:List Bool} {bv bk:Nat}
set_option maxRecDepth 10000 in
theorem k1199 (H:Has tp) {a b:Int} (a1:-1000000≤a) (a2:a≤1000000) (b1:-1000000≤b) (b2:b≤1000000) (h:TH):qad Tryz.prog tp (.func (.func 81) #[] #[]) #[.agg #[zi a,zi b]] h fun v h'=>v=zi (a+b)∧HX h h':=by
 refine qad.fnL (H.fn 81 f1199 rfl rfl) ?_
 refine WL.sr<|WOL.box rfl fun h1 N1=>WOL.as rfl<|WOL.nil<|keep [(1,_)] ⟨rfl,trivial⟩ ?_
 have A1:At h1 h.next (.cells [zi a,zi b] true true 31):=N1.at_
 refine WL.sr ?_
 repeat' (first
  | refine WOL.now (b:=true) rfl rfl ?_
  | refine WOL.now (b:=false) rfl rfl ?_
  | refine WOL.skp (b:=true) rfl rfl ?_
  | refine WOL.skp (b:=false) rfl rfl ?_
  | refine WOL.gu rfl rfl ?_
  | refine WOL.mv rfl ?_
  | refine WOL.as rfl ?_
  | refine WOL.ex rfl rfl ?_
  | refine WOL.nt rfl ?_
  | refine WOL.pkt rfl rfl ?_
  | refine WOL.pkf rfl rfl ?_
  | refine WOL.fa rfl (qaf (by first | exact qcf | exact qau | exact fo1117_2 | exact fo1114_0 | exact qcm | exact qdk | exact qdc | exact fo1194_1 | exact fo1112_0 | exact fo1112_1 | exact fo1128_0 | exact fo1128_1 | exact qcq | exact qcl | exact fo1207_0 | exact fo1207_1)) ?_
  | refine WOL.ld rfl (qaa (by first | exact tp3 | exact tp29 | exact tp4 | exact tp145 | exact tp44 | exact tp48 | exact tp1117 | exact tp1114 | exact tp1194 | exact tp1112 | exact tp1128 | exact tp1207) A1 rfl) ?_
  | refine WOL.ld rfl (qab (by first | exact tp3 | exact tp29 | exact tp4 | exact tp145 | exact tp44 | exact tp48 | exact tp1117 | exact tp1114 | exact tp1194 | exact tp1112 | exact tp1128 | exact tp1207) A1 rfl (Nat.le_of_ble_eq_true rfl)) ?_
  | refine WOL.add rfl rfl (by omega) (by omega) ?_
  | refine WOL.sub rfl rfl (by omega) (by omega) ?_
  | refine WOL.bt rfl rfl rfl (by first | exact decide_eq_true (by omega) | exact beq_iff_eq.2 (by omega) | exact bne_iff_ne.2 (by omega)) ?_
  | refine WOL.bf rfl rfl rfl (by first | exact decide_eq_false (by omega) | exact beq_eq_false_iff_ne.2 (by omega) | exact bne_eq_false_iff_eq.2 (by omega)) ?_)
 exact WOL.nil<|WL.ret (WL.end_ rfl ⟨rfl,N1.hx⟩)
set_option maxRecDepth 10000 in
theorem k1194 (H:Has tp) {a b:Int} (a1:-1000000≤a) (a2:a≤1000000) (b1:-1000000≤b) (b2:b≤1000000) (h:TH):qad Tryz.prog tp (.func (.func 82) #[] #[]) #[.agg #[zi a,zi b]] h fun v h'=>HX h h'∧∃ c,v=slA c 3∧h.next≤c∧At h' c (.cells (cat encS [(-a,-b),(0,a+b),(b,-a)]) true true 212):=by
 refine qad.fnL (H.fn 82 f1194 rfl rfl) ?_
 refine WL.sr<|WOL.box rfl fun h1 N1=>WOL.as rfl<|WOL.nil<|keep [(1,_)] ⟨rfl,trivial⟩ ?_
 have n1:=N1.next
 have A1:At h1 h.next (.cells [zi a,zi b] true true 31):=N1.at_
 refine WL.sr ?_
 repeat' (first
  | refine WOL.neg rfl (by omega) (by omega) ?_
  | refine WOL.bd rfl bd1242 ?_
  | refine WOL.now (b:=true) rfl rfl ?_
  | refine WOL.now (b:=false) rfl rfl ?_
  | refine WOL.skp (b:=true) rfl rfl ?_
  | refine WOL.skp (b:=false) rfl rfl ?_
  | refine WOL.gu rfl rfl ?_
  | refine WOL.mv rfl ?_
  | refine WOL.as rfl ?_
  | refine WOL.ex rfl rfl ?_
  | refine WOL.nt rfl ?_
  | refine WOL.pkt rfl rfl ?_
  | refine WOL.pkf rfl rfl ?_
  | refine WOL.fa rfl (qaf (by first | exact qcf | exact qau | exact fo1117_2 | exact fo1114_0 | exact qcm | exact qdk | exact qdc | exact fo1194_1 | exact fo1112_0 | exact fo1112_1 | exact fo1128_0 | exact fo1128_1 | exact qcq | exact qcl | exact fo1207_0 | exact fo1207_1)) ?_
  | refine WOL.ld rfl (qaa (by first | exact tp3 | exact tp29 | exact tp4 | exact tp145 | exact tp44 | exact tp48 | exact tp1117 | exact tp1114 | exact tp1194 | exact tp1112 | exact tp1128 | exact tp1207) A1 rfl) ?_
  | refine WOL.ld rfl (qab (by first | exact tp3 | exact tp29 | exact tp4 | exact tp145 | exact tp44 | exact tp48 | exact tp1117 | exact tp1114 | exact tp1194 | exact tp1112 | exact tp1128 | exact tp1207) A1 rfl (Nat.le_of_ble_eq_true rfl)) ?_
  | refine WOL.add rfl rfl (by omega) (by omega) ?_
  | refine WOL.sub rfl rfl (by omega) (by omega) ?_
  | refine WOL.bt rfl rfl rfl (by first | exact decide_eq_true (by omega) | exact beq_iff_eq.2 (by omega) | exact bne_iff_ne.2 (by omega)) ?_
  | refine WOL.bf rfl rfl rfl (by first | exact decide_eq_false (by omega) | exact beq_eq_false_iff_ne.2 (by omega) | exact bne_eq_false_iff_eq.2 (by omega)) ?_)
 refine WOL.lk1 rfl rfl fun M=>((k1199 H a1 a2 b1 b2 _).mono ?_)
 rintro v h2 ⟨rfl,X2⟩
 replace X2:=X2.relock
 generalize h2.withLock h1.lock=h2 at *
 have x2:=X2.next
 refine WOL.bd rfl bd1242<|WOL.bsl rfl u1214 tp1242 (by decide) (by decide) (by decide) (filled_taps3 (-a,-b) (0,a+b) (b,-a)) fun h3 N3=>WOL.as rfl<|WOL.nil ?_
 exact WL.ret (WL.end_ rfl ⟨(N1.hx.trans X2).trans N3.hx,h2.next,rfl,by omega,N3.at_⟩)
set_option maxHeartbeats 2000000 in
set_option maxRecDepth 10000 in
theorem k1226 (H:Has tp) (r:RowA h bv bk L B) {T:List (Nat × Int)} {c p:Int} {i:Nat} {v:Value} (s:SlL encS 2 h v (tapD c T)) (hp:p+c=n+(i:Nat)) (hT:∀ t,t ∈ T→i+t.1 < L.length) (hw:∀ t,t ∈ T→-10000≤t.2∧t.2≤10000) (lT:T.length≤1000) (lim:∀ j,-1073741824≤L.getD j 0∧L.getD j 0≤1073741824) (h0:0≤n) (h1:n≤1000000000) (hl:L.length≤1000000) (c1:-1000000≤c) (c2:c≤1000000) (f:Free0 h.next h) :
    qad Tryz.prog tp (.func (.func 143) #[] #[]) #[rowV n (slA bv L.length) (slA bk L.length),zi p,v] h fun v h'=>v=.tuple #[zi (cond (tapB B i T) (tapN L i T 0) 0),.bool (tapB B i T)]∧HX h h':=by
  refine qad.fnL (H.fn 143 f1226 rfl rfl) ?_
  refine WL.sr<|WOL.box rfl fun h1 N1=>WOL.as rfl<|WOL.as rfl<|WOL.nil<|keep [(1,_),(2,_),(3,_)] ⟨rfl,rfl,rfl,trivial⟩ ?_
  have n1:=N1.next
  have A1:At h1 h.next (.cells [zi n,slA bv L.length,.slice none 0 0,slA bk L.length] true true 148):=N1.at_
  have lD:(tapD c T).length=T.length:=by unfold tapD;rw [List.length_map]
  refine WL.sr<|WOL.as rfl<|WOL.nil ?_
  refine WL.seq<|WL.sr<|WOL.mv rfl<|WOL.len rfl (s.hx N1.hx) u1214<|WOL.mv rfl<|WOL.nil<|keep [(1,_),(3,_),(8,_),(13,_),(14,_),(15,_)] ⟨rfl,rfl,rfl,rfl,rfl,rfl,trivial⟩ ?_
  rw [lD]
  refine WL.upto (α:=Int) T.length (fun j z g=>HX h1 g∧tapB B i (T.take j)=true∧z=tapN L i (T.take j) 0) (fun j z=>[(1,zi p),(3,ptr h.next),(8,zi z),(13,v),(14,zi (T.length:Nat))]) 0 rfl rfl (by omega) ⟨HX.refl _,rfl,rfl⟩ ⟨rfl,rfl,rfl,rfl,rfl,rfl,trivial⟩ (fun _ _=>rfl) (fun _ _ _=>⟨rfl,rfl,rfl,rfl,rfl,rfl,trivial⟩) (fun _ _ _=>⟨rfl,rfl,rfl,rfl,rfl,rfl,trivial⟩) ?_ ?_
  · rintro j z g hj ⟨X,hB,hz⟩
    have hm:T[j] ∈ T:=List.getElem_mem hj
    have ht:T[j]?=some T[j]:=List.getElem?_eq_getElem hj
    have hz':tapN L i (T.take j) 0+T[j].2*L.getD (i+T[j].1) 0=tapN L i (T.take (j+1)) 0:=by
      rw [← List.take_append_getElem hj,tapN_app];rfl
    have hB':tapB B i (T.take (j+1))=B.getD (i+T[j].1) false:=by
      rw [← List.take_append_getElem hj]
      unfold tapB at hB ⊢
      rw [List.all_append,hB]
      simp
    have hT':=hT _ hm
    obtain ⟨w1,w2⟩:=hw _ hm
    generalize T[j]=t at *
    obtain ⟨o,w⟩:=t
    replace hT':i+o < L.length:=hT'
    replace w1:-10000≤w:=w1
    replace w2:w≤10000:=w2
    replace hz':tapN L i (T.take j) 0+w*L.getD (i+o) 0=tapN L i (T.take (j+1)) 0:=hz'
    replace hB':tapB B i (T.take (j+1))=B.getD (i+o) false:=hB'
    have hd:(tapD c T)[j]?=some ((o:Int)+c,w):=by unfold tapD;rw [List.getElem?_map,ht];rfl
    have A1':=A1.hx X
    have xg:=X.next
    obtain ⟨b,off,cc,fix,wr,el,g1,g2,g3,g4,g5⟩:=(s.hx (N1.hx.trans X)).at eS u1214 tp1242 hd .i64
    refine WL.sr<|WOL.ix rfl rfl g1<|WOL.ld rfl (qab tp1242 g2 g4 g3)<|WOL.al tp1242 fun i1 M1=>?_
    refine WOL.sto (vs:=encS ((o:Int)+c,w)) rfl rfl tp1242 M1.at_ rfl rfl (Nat.le_of_ble_eq_true rfl) rfl (f.hx (N1.hx.trans (X.trans M1.hx))) (by omega) fun i2 M2=>WOL.nil<|keep [(1,_),(3,_),(8,_),(10,_),(13,_),(14,_),(15,_)] ⟨rfl,rfl,rfl,rfl,rfl,rfl,rfl,trivial⟩ ?_
    have A2:At i2 g.next (.cells [zi ((o:Int)+c),zi w] true true 212):=M2.at_
    have XI:HX g i2:=M2.hx _ M1.hx (Nat.le_refl _)
    replace A1':=A1'.hx XI
    have Y:=X.trans XI
    obtain ⟨b1,b2⟩:=lim (i+o)
    refine WL.sr<|WOL.ld rfl (qab tp1194 A1' rfl (Nat.le_of_ble_eq_true rfl))<|WOL.mv rfl<|WOL.fa rfl (qaf fo1242_0)<|WOL.ld rfl (qaa tp3 A2 rfl)<|WOL.add rfl rfl (by omega) (by omega) ?_
    rw [show p+((o:Int)+c)=n+((i+o:Nat):Int) by omega]
    refine WOL.cl2 rfl rfl rfl ((k1180 H (r.hx (N1.hx.trans Y)) hT' h0 ‹n≤1000000000› hl).mono ?_)
    rintro u i3 ⟨rfl,X3⟩
    replace A2:=A2.hx X3
    refine WOL.mv rfl<|WOL.ex rfl rfl<|WOL.ex rfl rfl<|WOL.as rfl<|WOL.as rfl<|WOL.nil<|keep [(1,_),(3,_),(8,_),(10,_),(11,_),(12,_),(13,_),(14,_),(15,_)] ⟨rfl,rfl,rfl,rfl,rfl,rfl,rfl,rfl,rfl,trivial⟩ ?_
    cases hb:B.getD (i+o) false with
    | false =>
      have hF:tapB B i T=false:=by
        unfold tapB
        rw [List.all_eq_false]
        exact ⟨(o,w),hm,by show ¬ B.getD (i+o) false=true;rw [hb];decide⟩
      refine WL.seq<|WL.sr<|WOL.mv rfl<|WOL.nt rfl<|WOL.nil<|WL.yes rfl<|WL.sr<|WOL.as rfl<|WOL.as rfl<|WOL.nil ?_
      exact WL.ret (WL.end_ rfl ⟨by rw [hF];rfl,N1.hx.trans (Y.trans X3)⟩)
    | true =>
      rw [hb] at hB'
      refine WL.seq<|WL.sr<|WOL.mv rfl<|WOL.nt rfl<|WOL.nil<|WL.no rfl<|WL.skip ?_
      obtain ⟨m1,m2⟩:=mul_lim w1 w2 b1 b2
      have ll:=tapN_lim (i:=i) lim (T:=T.take j) (s:=0) (B:=0) (fun t ht=>hw t (List.mem_of_mem_take ht)) (by omega) (by omega)
      have lj:(T.take j).length≤1000:=by rw [List.length_take];omega
      rw [← hz] at ll hz'
      refine WL.reg<|WOL.mv rfl<|WOL.fa rfl (qaf fo1242_1)<|WOL.ld rfl (qaa tp3 A2 rfl)<|WOL.mv rfl<|WOL.mul rfl rfl (by omega) (by omega)<|WOL.add rfl rfl (by omega) (by omega)<|WOL.as rfl<|WOL.nil fun a q=>?_
      exact ⟨_,⟨Y.trans X3,hB',hz'⟩,q.sub ⟨rfl,rfl,rfl,rfl,rfl,rfl,trivial⟩⟩
  · rintro z g ⟨X,hB,hz⟩
    rw [List.take_length] at hB hz
    refine WL.sr<|WOL.mv rfl<|WOL.as rfl<|WOL.as rfl<|WOL.nil ?_
    exact WL.ret (WL.end_ rfl ⟨by rw [hB,hz];rfl,N1.hx.trans X⟩)
end
end Go.Tidy
namespace Go.Tidy
open Go Go.Proofs Tab
variable {tp:TProg}
theorem tapV_get {L:List Int} {S:List (Int × Int)} {T:List (Nat × Int)} {m j:Nat} (h:j < m):(qcr (qbx L S T m)).getD j 0=cond (tapK S j T) (tapN L j T 0) 0:=by
 unfold qcr
 rw [List.getD_eq_getElem?_getD,List.getElem?_map,tapC_get h];rfl
theorem tapM_get {L:List Int} {S:List (Int × Int)} {T:List (Nat × Int)} {m j:Nat} (h:j < m):((qbx L S T m).map fun c=>c.2).getD j false=tapK S j T:=by
 rw [List.getD_eq_getElem?_getD,List.getElem?_map,tapC_get h];rfl
structure Taps (T:List (Nat × Int)) (W:Nat):Prop where
 a:∃ y,T[0]?=some (0,y)
 z:∃ y,T[T.length - 1]?=some (W,y)
 o:∀ t,t ∈ T→t.1≤W
 w:∀ t,t ∈ T→-10000≤t.2∧t.2≤10000
 l:T.length≤1000
section
variable {h:TH} {n:Int} {v1 v2:Value} {L:List Int} {S:List (Int × Int)} {T:List (Nat × Int)} {W:Nat} {c:Int} {w:Value}
set_option maxHeartbeats 4000000 in
set_option maxRecDepth 10000 in
theorem k1193 (H:Has tp) (r:TrcH h v1 v2 L S) (s:SlL encS 2 h w (tapD c T)) (ts:Taps T W) (lim:∀ j,-1073741824≤L.getD j 0∧L.getD j 0≤1073741824) (n0:0≤n) (n1:n≤100000000) (nc:0≤n - c) (c1:-1000000≤c) (c2:c≤1000000) (l1:L.length≤900000) (t1:S.length≤1000000) (i1:In L.length S) (hW:W≤1000000) (f:Free0 h.next h) :
  qad Tryz.prog tp (.func (.func 79) #[] #[]) #[trcV n v1 v2,w] h fun v h'=>HX h h'∧ProgR (n - c) (cond (decide (L.length≤W)) 16 0) (qbx L S T (L.length - W)) h.next h' v:=by
 refine qad.fnL (H.fn 79 f1193 rfl rfl) ?_
 obtain ⟨b1,k1,e1,_⟩:=id r.l
 obtain ⟨b2,k2,e2,_⟩:=id r.s
 obtain ⟨b3,k3,e3,_⟩:=id s
 subst e1 e2 e3
 have lD:(tapD c T).length=T.length:=by unfold tapD;rw [List.length_map]
 refine WL.sr<|WOL.box rfl fun h1 N1=>WOL.box rfl fun h2 N2=>WOL.al tp1117 fun h3 N3=>WOL.as rfl<|WOL.nil<|keep [(2,_),(3,_),(4,_)] ⟨rfl,rfl,rfl,trivial⟩ ?_
 have q1:=N1.next
 have q2:=N2.next
 have q3:=N3.next
 have A2:At h3 h.next (.cells [zi n,.slice b1 L.length k1,.slice b2 S.length k2] true true 55):=(N1.at_.hx N2.hx).hx N3.hx
 have A3:At h3 h1.next (.cells [.slice b3 (tapD c T).length k3] true true 139):=N2.at_.hx N3.hx
 have A4:=N3.at_
 have X3:=(N1.hx.trans N2.hx).trans N3.hx
 have s3:=s.hx X3
 have r3:=r.hx X3
 obtain ⟨ya,ta⟩:=ts.a
 obtain ⟨yz,tz⟩:=ts.z
 have lT:0 < T.length:=(List.getElem?_eq_some_iff.1 ta).1
 have d0:(tapD c T)[0]?=some (c,ya):=by
  unfold tapD
  rw [List.getElem?_map,ta]
  show some (((0:Nat):Int)+c,ya)=_
  rw [show ((0:Nat):Int)+c=c by omega]
 have dz:(tapD c T)[T.length - 1]?=some ((W:Int)+c,yz):=by unfold tapD;rw [List.getElem?_map,tz];rfl
 obtain ⟨_,_,ca,fix,wr,el,g1,g2,g3,g4,g5⟩:=s3.at eS u1214 tp1242 d0 .i64
 obtain ⟨_,_,cz,fix',wr',el',y1,y2,y3,y4,y5⟩:=s3.at eS u1214 tp1242 dz .i64
 have ga:=g5 0 (by decide)
 have gz:=y5 0 (by decide)
 rw [Nat.add_zero] at ga gz
 replace ga:ca[_]?=some (zi c):=ga
 replace gz:cz[_]?=some (zi ((W:Int)+c)):=gz
 refine WL.sr<|WOL.ld rfl (qaa tp1214 A3 rfl)<|WOL.ix rfl rfl g1<|WOL.fa rfl (qaf fo1242_0)<|WOL.ld rfl (qaa tp3 g2 ga)<|WOL.ld rfl (qaa tp1214 A3 rfl)<|WOL.ld rfl (qaa tp1214 A3 rfl)<|WOL.len rfl s3 u1214<|WOL.sub (m:=(((tapD c T).length:Nat):Int)) (n:=1) rfl rfl (by rw [lD];omega) (by rw [lD];have:=ts.l;omega) ?_
 rw [show (((tapD c T).length:Nat):Int) - 1=((T.length - 1:Nat):Int) by rw [lD];omega]
 refine WOL.ix rfl rfl y1<|WOL.fa rfl (qaf fo1242_0)<|WOL.ld rfl (qaa tp3 y2 gz)<|WOL.as rfl<|WOL.as rfl<|WOL.nil<|keep [(2,_),(3,_),(4,_),(6,_),(7,_)] ⟨rfl,rfl,rfl,rfl,rfl,trivial⟩ ?_
 clear g1 g2 g3 g4 g5 y1 y2 y3 y4 y5 ga gz
 refine WL.sr<|WOL.fa rfl (qaf qau)<|WOL.ld rfl (qaa tp29 A2 rfl)<|WOL.len rfl r3.l u29<|WOL.mv rfl<|WOL.mv rfl<|WOL.sub (m:=(W:Int)+c) (n:=c) rfl rfl (by omega) (by omega)<|WOL.sub (m:=((L.length:Nat):Int)) (n:=(W:Int)+c - c) rfl rfl (by omega) (by omega)<|WOL.as rfl<|WOL.nil<|keep [(2,_),(3,_),(4,_),(6,_),(8,_)] ⟨rfl,rfl,rfl,rfl,rfl,trivial⟩ ?_
 rw [show ((L.length:Nat):Int) - ((W:Int)+c - c)=(L.length:Int) - W by omega]
 have F0:∀ {g:TH},HX h g→Free0 g.next g:=fun X=>f.on X
 by_cases hc:L.length≤W
 ·rw [decide_eq_true hc]
  refine WL.seq<|WL.sr<|WOL.mv rfl<|WOL.bt rfl rfl rfl (by first | exact decide_eq_true (by omega) | exact beq_iff_eq.2 (by omega) | exact bne_iff_ne.2 (by omega))<|WOL.nil<|WL.yes rfl<|WL.sr<|WOL.bd rfl bd1117z<|WOL.sto (vs:=[zi 0,.slice none 0 0,.slice none 0 0]) rfl rfl tp1117 A4 rfl rfl (Nat.le_of_ble_eq_true rfl) rfl (f.hx X3) (by omega) fun i1 M1=>WOL.as rfl<|WOL.nil ?_
  exact WL.ret (WL.endC1 rfl rfl (qab tp1117 M1.at_ rfl (Nat.le_of_ble_eq_true rfl)) ⟨M1.hx _ X3 (by omega),.inl ⟨by decide,rfl⟩⟩)
 rw [decide_eq_false hc]
 refine WL.seq<|WL.sr<|WOL.mv rfl<|WOL.bf rfl rfl rfl (by first | exact decide_eq_false (by omega) | exact beq_eq_false_iff_ne.2 (by omega) | exact bne_eq_false_iff_eq.2 (by omega))<|WOL.nil<|WL.no rfl<|WL.skip ?_
 rw [show (L.length:Int) - W=((L.length - W:Nat):Int) by omega]
 have hmW:L.length - W+W=L.length:=by omega
 generalize L.length - W=m at *
 refine keep [(2,_),(3,_),(4,_),(6,_),(8,_)] ⟨rfl,rfl,rfl,rfl,rfl,trivial⟩ ?_
 refine WL.sr<|WOL.ld rfl (qab tp1117 A2 rfl (Nat.le_of_ble_eq_true rfl))<|WOL.fa rfl (qaf qcf)<|WOL.ld rfl (qaa tp3 A2 rfl)<|WOL.mv rfl<|WOL.sub (m:=n) (n:=c) rfl rfl (by omega) (by omega)<|WOL.mv rfl<|WOL.al tp1194 fun h4 N4=>WOL.al tp1194 fun h5 N5=>?_
 have q4:=N4.next
 have q5:=N5.next
 have X5:=(X3.trans N4.hx).trans N5.hx
 refine WOL.lq1 [h4.next,h3.next,h.next] rfl rfl rfl fun M hM=>((k1177 H ((r.hx X5).relock M) (by omega) t1 i1 ((F0 X5).held hM (fun b hb=>by simp at hb;omega))).mono ?_)
 rintro v h6 ⟨X6,p1,p2,rfl,a1,a2,R1⟩
 replace X6:=X6.relock
 replace R1:RowA (h6.withLock h5.lock) p1 p2 L (qav S L.length):=⟨R1.v.relock _,R1.k.relock _,R1.e,R1.n⟩
 replace a1:h5.next≤p1:=a1
 replace a2:h5.next≤p2:=a2
 generalize h6.withLock h5.lock=h6 at *
 have Y6:=X5.trans X6
 have q6:=X6.next
 have l11:=R1.v.lt
 have l12:=R1.k.lt
 refine WOL.lq2 [h4.next,h3.next] rfl rfl rfl rfl fun M hM=>((k1178 (h:=h6.withLock M) (n:=n - c) (m:=m) H (by omega) ((F0 Y6).held hM (fun b hb=>by simp at hb;omega))).mono ?_)
 rintro v h7 ⟨X7,bv,bk,rfl,a3,a4,R2⟩
 replace X7:=X7.relock
 replace R2:RowA (h7.withLock h6.lock) bv bk (List.replicate m 0) (List.replicate m false):=⟨R2.v.relock _,R2.k.relock _,R2.e,R2.n⟩
 replace a3:h6.next≤bv:=a3
 replace a4:h6.next≤bk:=a4
 generalize h7.withLock h6.lock=h7 at *
 have Y7:=Y6.trans X7
 have q7:=X7.next
 have l21:=R2.v.lt
 have l22:=R2.k.lt
 have Z:=X6.trans X7
 refine WOL.sto (vs:=[zi n,slA p1 L.length,.slice none 0 0,slA p2 L.length]) rfl rfl tp1194 ((N4.at_.hx N5.hx).hx Z) rfl rfl (Nat.le_of_ble_eq_true rfl) rfl (f.hx Y7) (by omega) fun h8 P8=>?_
 have q8:=P8.next
 have Y8:HX h h8:=P8.hx _ Y7 (by omega)
 refine WOL.sto (vs:=[zi (n - c),slA bv m,.slice none 0 0,slA bk m]) rfl rfl tp1194 (P8.oth _ _ (by omega) (N5.at_.hx Z)) rfl rfl (Nat.le_of_ble_eq_true rfl) rfl (f.hx Y8) (by omega) fun h9 P9=>WOL.nil<|keep [(3,_),(4,_),(9,_),(10,_)] ⟨rfl,rfl,rfl,rfl,trivial⟩ ?_
 have q9:=P9.next
 have Y9:HX h h9:=P9.hx _ Y8 (by omega)
 have O9:∀ b y,b≠h3.next→b≠h4.next→At h7 b y→At h9 b y:=fun b y e1 e2 a=>P9.oth _ _ e2 (P8.oth _ _ e1 a)
 have B9:=P9.oth _ _ (by omega) P8.at_
 have B10:=P9.at_
 have B4:=O9 _ _ (by omega) (by omega) (((A4.hx N4.hx).hx N5.hx).hx Z)
 have B3:=O9 _ _ (by omega) (by omega) (((A3.hx N4.hx).hx N5.hx).hx Z)
 have C1:RowA h9 p1 p2 L (qav S L.length):=⟨O9 _ _ (by omega) (by omega) (R1.v.hx X7),O9 _ _ (by omega) (by omega) (R1.k.hx X7),R1.e,R1.n⟩
 have C2:RowA h9 bv bk (List.replicate m 0) (List.replicate m false):=⟨O9 _ _ (by omega) (by omega) R2.v,O9 _ _ (by omega) (by omega) R2.k,R2.e,R2.n⟩
 have lb4:=B4.lt
 have lb3:=B3.lt
 refine WL.seq<|WL.sr<|WOL.fa rfl (qaf qdc)<|WOL.ld rfl (qab tp1117 B10 (l:=[zi (n - c),slA bv m,.slice none 0 0]) rfl (Nat.le_of_ble_eq_true rfl))<|WOL.cl1 rfl rfl ((k1179 H h9).mono ?_)
 rintro v h10 ⟨cc,rfl,X10,Ac,ac⟩
 have q10:=X10.next
 have lc:=Ac.lt
 have Y10:=Y9.trans X10
 replace B3:=B3.hx X10;replace B4:=B4.hx X10;replace B9:=B9.hx X10;replace B10:=B10.hx X10;replace C1:=C1.hx X10;replace C2:=C2.hx X10
 refine WOL.nil<|keep [(3,_),(4,_),(9,_),(10,_),(45,_)] ⟨rfl,rfl,rfl,rfl,rfl,trivial⟩ ?_
 rw [← upTo_zero (C:=qcr (qbx L S T m)),← upTo_zero (C:=(qbx L S T m).map fun c=>c.2)] at C2
 have lC:(qbx L S T m).length=m:=qbh
 refine WL.block<|WL.range rfl (H.fn 164 f1224 rfl rfl) (y1224 (v1:=slA bv m) (v2:=.slice none 0 0) H nc (by omega) (m:=m) (by omega)) (fun j g=>HX h g∧h10.next≤g.next∧At g h1.next (.cells [.slice b3 (tapD c T).length k3] true true 139)∧At g h2.next (.cells [zi 0,.slice none 0 0,.slice none 0 0] true true 55)∧At g h3.next (.cells [zi n,slA p1 L.length,.slice none 0 0,slA p2 L.length] true true 148)∧At g h4.next (.cells [zi (n - c),slA bv m,.slice none 0 0,slA bk m] true true 148)∧RowA g p1 p2 L (qav S L.length)∧RowA g bv bk (upTo 0 (qcr (qbx L S T m)) m j) (upTo false ((qbx L S T m).map fun c=>c.2) m j)∧At g cc (.cells [zi (n - c),slA bv m,.slice none 0 0] true true 55)) (fun j g q=>⟨q.2.2.2.2.2.2.2.2,_,upTo_len,by have:=q.2.2.2.2.2.2.2.1.sv;rwa [upTo_len] at this⟩) (fun j g q=>(f.hx q.1).up (by omega)) ?_ ?_ ?_ ?_
 ·rintro j g g' x ⟨x1,x2,x3,x4,x5,x6,x7,x8,x9⟩ P
  have o:∀ b y,b < h10.next→At g b y→At g' b y:=fun b y hb a=>P.oth _ _ (by omega) a
  exact ⟨P.hx _ x1 (by omega),by rw [P.next];exact x2,o _ _ (by omega) x3,o _ _ (by omega) x4,o _ _ (by omega) x5,o _ _ (by omega) x6,⟨o _ _ (by omega) x7.v,o _ _ (by omega) x7.k,x7.e,x7.n⟩,⟨o _ _ (by omega) x8.v,o _ _ (by omega) x8.k,x8.e,x8.n⟩,o _ _ (by omega) x9⟩
 ·rintro g x N
  have:=N.next
  exact ⟨Y10.trans N.hx,by omega,B3.hx N.hx,B4.hx N.hx,B9.hx N.hx,B10.hx N.hx,C1.hx N.hx,C2.hx N.hx,Ac.hx N.hx⟩
 ·rintro j g x hj _ A
  refine WL.reg<|WOL.as rfl<|WOL.nil ?_
  intro r' hr
  refine ⟨rfl,rfl,fun g2 xx ⟨x1,x2,x3,x4,x5,x6,x7,x8,x9⟩ A2=>?_⟩
  refine hr.go ?_
  have hk:=tapB_known (S:=S) (m:=L.length) (i:=j) (T:=T) (fun t ht=>by have:=ts.o t ht;omega)
  refine WL.block<|WL.sr<|WOL.ld rfl (qab tp1194 x5 rfl (Nat.le_of_ble_eq_true rfl))<|WOL.mv rfl<|WOL.ld rfl (qaa tp1214 x3 rfl)<|WOL.cl3 rfl rfl rfl rfl ((k1226 (n:=n) (i:=j) (p:=n - c+(j:Nat)) H x7 (s.hx x1) (by omega) (fun t ht=>by have:=ts.o t ht;omega) ts.w ts.l lim n0 (by omega) (by omega) c1 c2 (f.on x1)).mono ?_)
  rintro u g3 ⟨rfl,X3⟩
  rw [hk]
  have hV:=tapV_get (L:=L) (S:=S) (T:=T) hj
  have hM:=tapM_get (L:=L) (S:=S) (T:=T) hj
  have xs:=X3.next
  refine WOL.mv rfl<|WOL.ex rfl rfl<|WOL.ex rfl rfl<|WOL.as rfl<|WOL.as rfl<|WOL.nil<|keep [(10,_),(11,_),(12,_),(13,_)] ⟨rfl,rfl,rfl,rfl,trivial⟩ ?_
  cases hb:tapK S j T with
  | false =>
   rw [hb] at hV hM
   refine WL.sr<|WOL.mv rfl<|WOL.nil<|WL.no rfl<|WL.skip fun r k=>⟨rfl,⟨x1.trans X3,by omega,x3.hx X3,x4.hx X3,x5.hx X3,x6.hx X3,x7.hx X3,?_,x9.hx X3⟩,A2.hx X3⟩
   rw [upTo_same hV,upTo_same hM]
   exact x8.hx X3
  | true =>
   rw [hb] at hV hM
   replace hV:(qcr (qbx L S T m)).getD j 0=tapN L j T 0:=hV
   have k:=k1181 (n:=n - c) (x:=tapN L j T 0) H (x8.hx X3) (i:=j) (by rw [upTo_len];exact hj) nc (by omega) (by rw [upTo_len];omega) (m:=h.next) (f.hx (x1.trans X3)) (by omega) (by omega)
   rw [upTo_len] at k
   refine WL.sr<|WOL.mv rfl<|WOL.nil<|WL.yes rfl<|WL.reg<|WOL.ld rfl (qab tp1194 (x6.hx X3) rfl (Nat.le_of_ble_eq_true rfl))<|WOL.mv rfl<|WOL.mv rfl<|WOL.cl3 rfl rfl rfl rfl (k.mono ?_)
   rintro u g5 ⟨z5,ra,o5,n5⟩
   refine WOL.nil fun r k=>⟨rfl,⟨z5 _ (x1.trans X3) (by omega) (by omega),by omega,o5 _ _ (by omega) (by omega) (x3.hx X3),o5 _ _ (by omega) (by omega) (x4.hx X3),o5 _ _ (by omega) (by omega) (x5.hx X3),o5 _ _ (by omega) (by omega) (x6.hx X3),⟨o5 _ _ (by omega) (by omega) (x7.v.hx X3),o5 _ _ (by omega) (by omega) (x7.k.hx X3),x7.e,x7.n⟩,?_,o5 _ _ (by omega) (by omega) (x9.hx X3)⟩,o5 _ _ (by omega) (by omega) (A2.hx X3)⟩
   rw [upTo_set,upTo_set,hV,hM]
   exact ra
 ·rintro g ⟨x1,x2,x3,x4,x5,x6,x7,x8,x9⟩
  rw [upTo_all (by unfold qcr;rw [List.length_map];exact lC),upTo_all (by rw [List.length_map];exact lC)] at x8
  have lv:(qcr (qbx L S T m)).length=m:=by unfold qcr;rw [List.length_map];exact lC
  refine WL.sr<|WOL.ld rfl (qab tp1194 x6 rfl (Nat.le_of_ble_eq_true rfl)) ?_
  have k:=k1182 (n:=n - c) H x8 (by omega) (f.on x1)
  rw [lv,← bigC_val] at k
  refine WOL.cl1 rfl rfl (k.mono ?_)
  rintro v g1 ⟨X,R⟩
  have xg:=(x1.trans X).next
  have xx:=X.next
  rcases R with ⟨hb,rfl⟩ | ⟨hb,w,rfl,to⟩
  ·refine WOL.ex rfl rfl<|WOL.ex rfl rfl<|WOL.sto (vs:=[zi 0,.slice none 0 0,.slice none 0 0]) rfl rfl tp1117 (x4.hx X) rfl rfl (Nat.le_of_ble_eq_true rfl) rfl (f.hx (x1.trans X)) (by omega) fun i1 M1=>WOL.as rfl<|WOL.nil ?_
   exact WL.ret (WL.endC1 rfl rfl (qab tp1117 M1.at_ rfl (Nat.le_of_ble_eq_true rfl)) ⟨M1.hx _ (x1.trans X) (by omega),.inr (.inl ⟨rfl,hb,rfl⟩)⟩)
  ·obtain ⟨b2,m2,k2,rfl⟩:=to.form
   refine WOL.ex rfl rfl<|WOL.ex rfl rfl<|WOL.sto (vs:=[zi (n - c),slA bv m,.slice b2 m2 k2]) rfl rfl tp1117 (x4.hx X) rfl rfl (Nat.le_of_ble_eq_true rfl) rfl (f.hx (x1.trans X)) (by omega) fun i1 M1=>WOL.as rfl<|WOL.nil ?_
   refine WL.ret (WL.endC1 rfl rfl (qab tp1117 M1.at_ rfl (Nat.le_of_ble_eq_true rfl)) ⟨M1.hx _ (x1.trans X) (by omega),.inr (.inr ⟨rfl,hb,bv,_,by rw [lC];rfl,by omega,(to.put M1 (by omega) (by omega)).low (by omega)⟩)⟩)
end
end Go.Tidy
namespace Go.Tidy
open Go Go.Proofs Tab
variable {tp:TProg}
section
variable {h:TH} {l:List Nat} {bo:Option Addr} {n k:Nat}
end
section
variable {h:TH} {K:qan→TH→Prop} {rest:List TOper} {d:Option Tmp} {ty:TypeId} {i:Nat} {x:Operand} {L:Rg} {v:Value} {m:List Nat}
end
section
variable {hb h g g2 g':TH} {n b o cap c4 c2 c3 nB:Nat} {cur cur':Cu} {s s':ByteArray} {fi fi':Int} {w1 w2 w':Value} {F F':List Nat} {S S':List (Int × Int)}
theorem Put.relock {M:List Nat} {x:TB} {c:Nat} {h1:TH} (p:Put (h.withLock M) h1 c x):Put h (h1.withLock h.lock) c x :=
 ⟨p.at_.relock _,fun z y hz a=>(p.oth z y hz (a.relock M)).relock _,p.next,p.floor,rfl,fun h0 y hb=>by rw [y.lock];exact (p.hx _ (y.locked M) hb).relock⟩
end
end Go.Tidy
namespace Go.Tidy
open Go Go.Proofs Tab
variable {tp:TProg}
section
variable (l:List Nat) (c:Cu)
end
section
variable {h g:TH} {l:List Nat} {b o cap:Nat}
theorem Stm.relock (s:Stm h b o cap l) (M:List Nat):Stm (h.withLock M) b o cap l:=⟨by
 obtain ⟨cc,fix,wr,el,a,r⟩:=s.ex
 exact ⟨cc,fix,wr,el,a.relock M,r⟩,s.cap⟩
end
section
variable {hb h:TH} {l:List Nat} {b o cap c4:Nat} {c:Cu}
end
end Go.Tidy
namespace Go.Tidy
open Go Go.Proofs Tab
variable {tp:TProg}
section
variable {P:Program} {h:TH} {K:qan→TH→Prop} {rest:List TOper} {d:Option Tmp} {ty:TypeId} {i:Nat} {x:Operand} {s t:TypeId} {L:Rg} {v vx:Value}
theorem WOL.cvP (hx:qbi L x=some vx) (hp:plain vx=true) (hv:pv P (convert s t vx)=some v) (hpv:plain v=true) (w:∀ a,Kn (qdh L d v) a→WO P tp rest a h K):∀ a,Kn L a→WO P tp (⟨d,.convert s t x,ty,none,[],i⟩::rest) a h K:=fun a k =>
 WO.conv (k.o hx) hp hv hpv (w _ (k.put d _))
end
section
variable {h:TH} {F:List Nat} {v:Value}
end
end Go.Tidy
namespace Go.Tidy
open Go Go.Proofs Tab
variable {tp:TProg}
section
variable {P:Program} {h:TH} {K:qan→TH→Prop} {rest:List TOper} {d:Option Tmp} {ty:TypeId} {i:Nat} {x y:Operand} {t u:TypeId} {L:Rg} {s s':ByteArray}
end
section
variable (l:List Nat)
end
theorem RunH.relock {h:TH} {v1 v2:Value} {F:List Nat} {S:List (Int × Int)} (r:RunH h v1 v2 F S) (M:List Nat):RunH (h.withLock M) v1 v2 F S:=⟨r.f.relock M,r.s.relock M,r.g.relock M⟩
section
variable {h:TH} {l:List Nat} {b o n cap:Nat} {es L:List Int}
end
end Go.Tidy
namespace Go.Tidy
open Go Go.Proofs Tab
variable {tp:TProg}
section
variable {P:Program} {h:TH} {K:qan→TH→Prop} {rest:List TOper} {d:Option Tmp} {ty:TypeId} {i:Nat} {x y:Operand} {t u:TypeId} {L:Rg}
end
structure RrU (h g:TH) (c2 c7 nB:Nat) (s:ByteArray) (fi:Int) (w1 w2:Value) (F:List Nat) (S:List (Int × Int)):Prop where
 x:HX h g
 nx:nB≤g.next
 a2:At g c2 (.cells [.string ⟨#[]⟩,zi 0,.slice none 0 0,.slice none 0 0] true true 88)
 a7:At g c7 (.cells [.string s,zi fi,w1,w2] true true 88)
 o1:OwnL encF nB g w1 90 F
 o2:OwnL encS nB g w2 77 S
 ne:∀ x,bl w1=some x→bl w2≠some x
section
variable {h g g2 g':TH} {c2 c7 nB:Nat} {s:ByteArray} {fi:Int} {w1 w2 w':Value} {F F':List Nat} {S S':List (Int × Int)}
theorem RrU.hx (q:RrU h g c2 c7 nB s fi w1 w2 F S) (x:HX g g'):RrU h g' c2 c7 nB s fi w1 w2 F S:=⟨q.x.trans x,Nat.le_trans q.nx x.next,q.a2.hx x,q.a7.hx x,q.o1.hx x,q.o2.hx x,q.ne⟩
end
end Go.Tidy
namespace Go.Tidy
open Go Go.Proofs Tab
variable {tp:TProg}
theorem zipK_get {L:List Int} {S:List (Int × Int)} {m q:Nat} (h:q < m):(zipK L S m)[q]?=some (L.getD q 0,qam S (q:Nat)):=by
 unfold zipK
 rw [tbl_get,if_pos h]
section
variable {h:TH} {n:Int} {v1 v2:Value} {L:List Int} {S:List (Int × Int)} {w:Value} {Wt:List Int} {b a st:Nat}
end
end Go.Tidy
namespace Go.Tidy
open Go Go.Proofs Tab
variable {tp:TProg}
theorem bd1128 {a b:Int}:buildT Tryz.prog 31 [(0,zi a),(1,zi b)]=some (.agg #[zi a,zi b]):=by kernel_rfl
def vTn (p q:Nat):List (Nat × Int):=[(0,-(q:Int)),(p,(p:Int)+q),(p+q,-(p:Int))]
def errV (E:Int) (m w:Nat):Int:=if E≠0 then E else cond (decide (m≤w)) 16 0
theorem errV_ok {m w:Nat}:errV 0 m w=cond (decide (m≤w)) 16 0:=by unfold errV;rw [if_neg (by decide)]
theorem errV_no {E:Int} {m w:Nat} (h:E≠0):errV E m w=E:=by unfold errV;rw [if_pos h]
theorem chord_ok {a b:Int} (h:chordE a b=0):1≤a∧a≤32∧1≤b∧b≤32:=by
 have all:=qbb h
 have h1:=all (outB a 1 32) (by simp)
 have h2:=all (outB b 1 32) (by simp)
 have o:∀ x:Int,outB x 1 32=0→1≤x∧x≤32:=fun x hx=>by
  unfold outB at hx
  by_cases c1:x < 1
  ·rw [decide_eq_true c1] at hx;cases hx
  ·by_cases c2:32 < x
   ·rw [decide_eq_false c1,decide_eq_true c2] at hx;cases hx
   ·omega
 exact ⟨(o _ h1).1,(o _ h1).2,(o _ h2).1,(o _ h2).2⟩
theorem vTaps {p q:Nat} (hp:1≤p) (hp':p≤32) (hq:1≤q) (hq':q≤32):Taps (vTn p q) (p+q):=⟨⟨_,rfl⟩,⟨_,rfl⟩,fun t ht=>by
 unfold vTn at ht
 simp only [List.mem_cons,List.not_mem_nil,or_false] at ht
 rcases ht with rfl | rfl | rfl
 ·exact Nat.zero_le _
 ·exact Nat.le_add_right _ _
 ·exact Nat.le_refl _,fun t ht=>by
 unfold vTn at ht
 simp only [List.mem_cons,List.not_mem_nil,or_false] at ht
 rcases ht with rfl | rfl | rfl
 ·show -10000≤-(q:Int)∧-(q:Int)≤10000;omega
 ·show -10000≤(p:Int)+q∧(p:Int)+q≤10000;omega
 ·show -10000≤-(p:Int)∧-(p:Int)≤10000;omega,by show 3≤1000;decide⟩
theorem vTapD {p q:Nat}:tapD (-(p:Int)) (vTn p q)=[(-(p:Int),-(q:Int)),(0,(p:Int)+q),((q:Int),-(p:Int))]:=by
 unfold tapD vTn
 simp only [List.map_cons,List.map_nil]
 rw [show ((0:Nat):Int)+-(p:Int)=-(p:Int) by omega,show ((p:Nat):Int)+-(p:Int)=0 by omega,show ((p+q:Nat):Int)+-(p:Int)=q by omega]
section
variable {h:TH} {n a b:Int} {v1 v2:Value} {L:List Int} {S:List (Int × Int)}
set_option maxHeartbeats 2000000 in
set_option maxRecDepth 10000 in
theorem k1125 (H:Has tp) (r:TrcH h v1 v2 L S) (l1:L.length≤900000) (t1:S.length≤900000) (f:Free0 h.next h) :
  qad Tryz.prog tp (.func (.func 33) #[] #[]) #[.agg #[zi a,zi b],trcV n v1 v2] h fun v h'=>HX h h'∧ProgR (n+a) (errV (qae [chordE a b,qbk n L S]) L.length (a.toNat+b.toNat)) (qbx L S (vTn a.toNat b.toNat) (L.length - (a.toNat+b.toNat))) h.next h' v:=by
 refine qad.fnL (H.fn 33 f1125 rfl rfl) ?_
 obtain ⟨b1,k1,e1,_⟩:=id r.l
 obtain ⟨b2,k2,e2,_⟩:=id r.s
 subst e1 e2
 refine WL.sr<|WOL.box rfl fun h1 N1=>WOL.box rfl fun h2 N2=>WOL.al tp1117 fun h3 N3=>WOL.as rfl<|WOL.nil<|keep [(2,_),(3,_),(4,_)] ⟨rfl,rfl,rfl,trivial⟩ ?_
 have q1:=N1.next
 have q2:=N2.next
 have q3:=N3.next
 have A2:At h3 h.next (.cells [zi a,zi b] true true 31):=(N1.at_.hx N2.hx).hx N3.hx
 have A3:At h3 h1.next (.cells [zi n,.slice b1 L.length k1,.slice b2 S.length k2] true true 55):=N2.at_.hx N3.hx
 have A4:=N3.at_
 have X3:=(N1.hx.trans N2.hx).trans N3.hx
 refine WL.seq<|WL.sr<|WOL.ld rfl (qab tp1128 A2 rfl (Nat.le_of_ble_eq_true rfl))<|WOL.ld rfl (qab tp1117 A3 rfl (Nat.le_of_ble_eq_true rfl)) ?_
 refine WOL.lk1 rfl rfl fun M=>((k1121 H a b _).mono ?_)
 rintro v h4 ⟨rfl,X4⟩
 replace X4:=X4.relock
 generalize h4.withLock h3.lock=h4 at *
 refine WOL.cl1 rfl rfl ((k1123 (n:=n) H (r.hx (X3.trans X4)) (by omega) (by omega) (f.on (X3.trans X4))).mono ?_)
 rintro v h5 ⟨rfl,X5⟩
 refine WOL.bsl rfl u166 tp30 (by decide) (by decide) (by decide) (qcn _ _) fun h6 N6=>WOL.cl1 rfl rfl ((k71 H (l:=[_,_]) N6.at_.get (by simp)).mono ?_)
 rintro v h6 ⟨rfl,rfl⟩
 have Z:=(X4.trans X5).trans N6.hx
 have Y:=X3.trans Z
 replace A2:=A2.hx Z;replace A3:=A3.hx Z;replace A4:=A4.hx Z
 have yn:=Y.next
 refine WOL.as rfl<|WOL.nil<|keep [(2,_),(3,_),(4,_),(6,_)] ⟨rfl,rfl,rfl,rfl,trivial⟩ ?_
 generalize hE:qae [chordE a b,qbk n L S]=E
 by_cases e0:E≠0
 ·rw [errV_no e0]
  refine WL.sr<|WOL.mv rfl<|WOL.bt rfl rfl rfl (bne_iff_ne.2 e0)<|WOL.nil<|WL.yes rfl<|WL.sr<|WOL.bd rfl bd1117z<|WOL.mv rfl<|WOL.sto (vs:=[zi 0,.slice none 0 0,.slice none 0 0]) rfl rfl tp1117 A4 rfl rfl (Nat.le_of_ble_eq_true rfl) rfl (f.hx Y) (by omega) fun i1 M1=>WOL.as rfl<|WOL.nil ?_
  exact WL.ret (WL.endC1 rfl rfl (qab tp1117 M1.at_ rfl (Nat.le_of_ble_eq_true rfl)) ⟨M1.hx _ Y (by omega),.inl ⟨e0,rfl⟩⟩)
 have e0:E=0:=Classical.not_not.1 e0
 subst e0
 have all:=qbb hE
 obtain ⟨⟨m1,m2⟩,m3,m4,m5,m6,m7⟩:=trace_ok (all (qbk n L S) (by simp))
 obtain ⟨p1,p2,p3,p4⟩:=chord_ok (all (chordE a b) (by simp))
 obtain ⟨p,rfl⟩:∃ p:Nat,a=p:=⟨a.toNat,by omega⟩
 obtain ⟨q,rfl⟩:∃ q:Nat,b=q:=⟨b.toNat,by omega⟩
 rw [errV_ok,Int.toNat_natCast,Int.toNat_natCast]
 refine WL.sr<|WOL.mv rfl<|WOL.bf rfl rfl rfl rfl<|WOL.nil<|keep [(2,_),(3,_),(4,_),(14,_)] ⟨rfl,rfl,rfl,rfl,trivial⟩<|WL.no rfl<|WL.skip ?_
 refine WL.sr<|WOL.ld rfl (qab tp1117 A3 rfl (Nat.le_of_ble_eq_true rfl))<|WOL.ld rfl (qab tp1128 A2 rfl (Nat.le_of_ble_eq_true rfl)) ?_
 refine WOL.lk1 rfl rfl fun M=>((k1194 H (a:=p) (b:=q) (by omega) (by omega) (by omega) (by omega) _).mono ?_)
 rintro v g1 ⟨Xg,c,rfl,hc,Ac⟩
 replace Xg:=Xg.relock
 replace Ac:=Ac.relock h6.lock
 generalize g1.withLock h6.lock=g1 at *
 rw [← vTapD] at Ac
 have Yg:=Y.trans Xg
 refine WOL.cl2 rfl rfl rfl ((k1193 (n:=n) (W:=p+q) (c:=-(p:Int)) H (r.hx Yg) (SlL.own eS Ac rfl) (vTaps (by omega) (by omega) (by omega) (by omega)) m3 m1 m2 (by omega) (by omega) (by omega) l1 (by omega) (qct m4) (by omega) (f.on Yg)).mono ?_)
 rintro v g2 ⟨X2,R⟩
 rw [Int.sub_neg] at R
 have x2:=(Yg.trans X2).next
 have x3:=Yg.next
 have l4:=(A4.hx Xg).lt
 rcases R with ⟨heT,rfl⟩ | ⟨heT,hbT,rfl⟩ | ⟨heT,hbT,bvT,wT,rfl,hvT,toT⟩
 ·exact WOL.ex rfl rfl<|WOL.ex rfl rfl<|WOL.sto (vs:=[zi 0,.slice none 0 0,.slice none 0 0]) rfl rfl tp1117 ((A4.hx Xg).hx X2) rfl rfl (Nat.le_of_ble_eq_true rfl) rfl (f.hx (Yg.trans X2)) (by omega) fun iT MT=>WOL.as rfl<|WOL.nil<|WL.ret (WL.endC1 rfl rfl (qab tp1117 MT.at_ rfl (Nat.le_of_ble_eq_true rfl)) ⟨MT.hx _ (Yg.trans X2) (by omega),.inl ⟨heT,rfl⟩⟩)
 ·exact WOL.ex rfl rfl<|WOL.ex rfl rfl<|WOL.sto (vs:=[zi 0,.slice none 0 0,.slice none 0 0]) rfl rfl tp1117 ((A4.hx Xg).hx X2) rfl rfl (Nat.le_of_ble_eq_true rfl) rfl (f.hx (Yg.trans X2)) (by omega) fun iT MT=>WOL.as rfl<|WOL.nil<|WL.ret (WL.endC1 rfl rfl (qab tp1117 MT.at_ rfl (Nat.le_of_ble_eq_true rfl)) ⟨MT.hx _ (Yg.trans X2) (by omega),.inr (.inl ⟨heT,hbT,rfl⟩)⟩)
 ·obtain ⟨b2T,m2T,k2T,rfl⟩:=toT.form
  exact WOL.ex rfl rfl<|WOL.ex rfl rfl<|WOL.sto (vs:=[zi _,slA bvT _,.slice b2T m2T k2T]) rfl rfl tp1117 ((A4.hx Xg).hx X2) rfl rfl (Nat.le_of_ble_eq_true rfl) rfl (f.hx (Yg.trans X2)) (by omega) fun iT MT=>WOL.as rfl<|WOL.nil<|WL.ret (WL.endC1 rfl rfl (qab tp1117 MT.at_ rfl (Nat.le_of_ble_eq_true rfl)) ⟨MT.hx _ (Yg.trans X2) (by omega),.inr (.inr ⟨heT,hbT,bvT,_,rfl,by omega,(toT.put MT (by omega) (by omega)).low (by omega)⟩)⟩)
end
end Go.Tidy
namespace Go.Tidy
open Go Go.Proofs Tab
variable {tp:TProg}
theorem k11t (A:Awk tp) (h:TH):qad Tryz.prog tp (.func (.func 45) #[] #[]) #[] h fun v h'=>v=.bool true∧h'=h:=by
 obtain ⟨e,e1,e2⟩:=A.e
 exact qad.ext A.no e1 rfl e2 rfl ⟨rfl,rfl⟩
theorem IsInts.keep {g g':TH} {y:Value} {L:List Int} (i:IsInts g y L) (k:∀ b x,bl y=some b→At g b x→At g' b x):IsInts g' y L:=by
 rcases i with i | ⟨b,c,fix,wr,el,i1,i2,i3⟩
 ·exact .inl i
 ·subst i1
  have:=k b _ rfl ⟨i3,i2⟩
  exact .inr ⟨b,c,fix,wr,el,rfl,this.lt,this.get⟩
def CelA (ty:TypeId) (n:Int) (o:Int × List Int × List (Int × Int)) (g:TH) (c:Nat):Prop:=∃ z b1 m1 k1 b2 m2 k2,At g c (.cells [zi z,.slice b1 m1 k1,.slice b2 m2 k2] true true ty)∧IsInts g (.slice b1 m1 k1) o.2.1∧SlL encS 2 g (.slice b2 m2 k2) o.2.2∧((o.1≠0∧z=0∧o.2.1=[]∧o.2.2=[])∨(o.1=0∧z=n))
theorem CelA.hx {ty:TypeId} {n:Int} {o:Int × List Int × List (Int × Int)} {g g':TH} {c:Nat} (q:CelA ty n o g c) (x:HX g g'):CelA ty n o g' c:=by
 obtain ⟨z,b1,m1,k1,b2,m2,k2,A,i,s,e⟩:=q
 exact ⟨z,b1,m1,k1,b2,m2,k2,A.hx x,i.hx x,s.hx x,e⟩
section
variable {h h0:TH} {a b n1 n2 m1 m2 e1:Int} {v1 v2 w1 w2:Value} {L1:List Int} {S1:List (Int × Int)} {o1 o2:Int × List Int × List (Int × Int)} {c3 c4 c7 c9 c14 c15:Nat}
end
end Go.Tidy
namespace Go.Tidy
open Go Go.Proofs Tab
variable {tp:TProg}
theorem qbu (B:List Bool):(qah B).length≤B.length:=by
 have:=holesN_len B B.length
 show (qcx _ _).length≤_
 exact this
section
variable {h:TH} {a b n1 n2 p:Int} {v1 v2 w1 w2:Value} {L1 L2:List Int} {S1 S2:List (Int × Int)}
end
end Go.Tidy
namespace Go.Tidy
open Go Go.Proofs Tab
theorem args3 {P:Program} {h:TH} {m:Nat} {t0 t1 t2:TypeId} {us:List Value} (ha:Args P h m [t0,t1,t2] us):∃ x0 x1 x2,us=[x0,x1,x2]∧(∃ ps,Ty P h m t0 ps∧x0=valOf P t0 ps)∧(∃ ps,Ty P h m t1 ps∧x1=valOf P t1 ps)∧∃ ps,Ty P h m t2 ps∧x2=valOf P t2 ps:=by
 match us,ha with
 | [x0,x1,x2],⟨a0,a1,a2,_⟩=>exact ⟨x0,x1,x2,rfl,a0,a1,a2⟩
end Go.Tidy
namespace Go.Tidy
open Go Go.Proofs Tab
variable {tp:TProg}
theorem CelA.keep {ty:TypeId} {n:Int} {o:Int × List Int × List (Int × Int)} {g g':TH} {c:Nat} (q:CelA ty n o g c) (k:∀ b x,At g b x→At g' b x):CelA ty n o g' c:=by
 obtain ⟨z,b1,m1,k1,b2,m2,k2,A,i,s,e⟩:=q
 exact ⟨z,b1,m1,k1,b2,m2,k2,k _ _ A,i.keep fun b x _ a=>k _ _ a,slC_keep s fun b x _ a=>k _ _ a,e⟩
section
variable {h h0:TH} {a b n m1 m2 E1:Int} {v1 v2 w9 w16:Value} {L:List Int} {S:List (Int × Int)} {l3:List Int} {o1 o2:Int × List Int × List (Int × Int)} {c2 c3 c5 c7 c14 c15 p q:Nat}
end
end Go.Tidy
namespace Go.Tidy
open Go Go.Proofs Tab
variable {tp:TProg}
theorem out_mm {x l m:Int} (h:outB x l m=0):l≤x∧x≤m:=by
 unfold outB at h
 by_cases c1:x < l
 ·rw [decide_eq_true c1] at h;cases h
 ·by_cases c2:m < x
  ·rw [decide_eq_false c1,decide_eq_true c2] at h;cases h
  ·omega
section
variable {h:TH} {n a b s:Int} {v1 v2:Value} {L:List Int} {S:List (Int × Int)} {p q st:Nat}
end
end Go.Tidy
namespace Go.Tidy
open Go Go.Proofs Tab
variable {tp:TProg}
section
variable {P:Program} {h:TH} {K:qan→TH→Prop} {rest:List TOper} {d:Option Tmp} {ty:TypeId} {i:Nat} {x y:Operand} {v vx vy:Value} {t u e:TypeId} {n:Nat} {z:List Value} {row:Bool} {L:Rg}
theorem append_own2 {sT:TypeId} {b m:Nat} {c:List Value} {wr:Bool} {e':TypeId} (hu:P.underlying sT=some (.slice e)) (he:Tp P e n z row) (hg:At h b (.cells [] true wr e')) (s:SlC h v n m c) (hm2:m≤1000000000) (h1:c.all qbt=true) :
  ∃ h' b',qcu P #[sT,sT] #[.slice (some ⟨b,0,none⟩) 0 0,v] h=some (.slice (some ⟨b',0,none⟩) m m,h')∧HX h h'∧SlC h' (.slice (some ⟨b',0,none⟩) m m) n m c∧(b'=b∨h.next≤b'):=by
 by_cases hm:m=0
 ·subst hm
  refine ⟨_,b,append_none hu he s (Nat.le_refl _),HX.refl h,?_,.inl rfl⟩
  obtain ⟨_,_,_,_,hc,_⟩:=s
  have:c=[]:=List.eq_nil_of_length_eq_zero (by omega)
  subst this
  exact SlC.own (by simp) hg
 ·refine ⟨_,_,append_all hu he hg s (by omega) hm2 h1,HX.new _ _,?_,.inr (Nat.le_refl _)⟩
  obtain ⟨_,_,_,_,hc,_⟩:=s
  exact SlC.own hc (At.new _ _)
theorem WOL.apO {l0:Operand} {ls:List Operand} {sT:TypeId} {b m:Nat} {c:List Value} {wr:Bool} {e':TypeId} (hx:qbi L x=some (.slice (some ⟨b,0,none⟩) 0 0)) (hy:qbi L y=some v) (hu:P.underlying sT=some (.slice e)) (he:Tp P e n z row) (hg:At h b (.cells [] true wr e')) (s:SlC h v n m c) (hm2:m≤1000000000) (h1:c.all qbt=true)
  (w:∀ h' b' ,HX h h'→(b'=b∨h.next≤b')→SlC h' (.slice (some ⟨b',0,none⟩) m m) n m c→∀ a,Kn (qdh L d (.slice (some ⟨b',0,none⟩) m m)) a→WO P tp rest a h' K):∀ a,Kn L a→WO P tp (⟨d,.call ⟨.builtin .append,#[x,y],#[sT,sT]⟩,ty,none,l0::ls,i⟩::rest) a h K:=by
 intro a k
 refine WO.apL (k.o hx) (k.o hy) fun M=>?_
 obtain ⟨h',b',e1,e2,e3,e4⟩:=append_own2 hu he (hg.relock M) (s.relock M) hm2 h1
 exact ⟨_,_,e1,k.nx (w _ b' e2.relock e4 (e3.relock h.lock))⟩
theorem WOL.eqN {b:Bool} (hx:qbi L x=some vx) (hy:qbi L y=some vy) (hf:qcj .eql vx vy=none) (hv:eqT P t vx vy=some b) (w:∀ a,Kn (qdh L d (.bool b)) a→WO P tp rest a h K):∀ a,Kn L a→WO P tp (⟨d,.binOp .eql t x y u,ty,none,[],i⟩::rest) a h K:=fun a k=>by
 have ex:=qac (k.o hx)
 have ey:=qac (k.o hy)
 exact WO.op (h1:=h) rfl rfl (fun call=>by simp [qaz,qas,qbw,qbp,ex,ey,hf,hv]) (w _ (k.put d _))
end
section
variable {h:TH} {s:ByteArray} {n a b:Int} {v v1 v2:Value} {F:List Nat} {S:List (Int × Int)} {es L:List Int}
set_option maxHeartbeats 2000000 in
set_option maxRecDepth 10000 in
theorem k1206 (H:Has tp) (sF:SlL encF 1 h v F) (hL:Lev F L) (lF:F.length≤1000000) (f:Free0 h.next h) :
  qad Tryz.prog tp (.func (.func 110) #[] #[]) #[v,.func (.func 111) #[] #[]] h fun w h'=>HX h h'∧∃ c,w=slA c F.length∧h.next≤c∧At h' c (.cells (cat encI L) true true 3):=by
 refine qad.fnL (H.fn 110 f1206 rfl rfl) ?_
 refine WL.sr<|WOL.as rfl<|WOL.nil ?_
 have lE:L.length=F.length:=hL.1.symm
 refine WL.sr<|WOL.mv rfl<|WOL.len rfl sF u43<|WOL.ms (m:=F.length) rfl rfl u29 tp3 (by decide) (by omega) fun h1 N1=>WOL.as rfl<|WOL.nil<|keep [(0,_),(1,_),(5,_)] ⟨rfl,rfl,rfl,trivial⟩ ?_
 have q1:=N1.next
 have W0:=N1.at_
 rw [rep_flat,← cat_rep (enc:=encI) (x:=0) rfl,← lE,← fill_zero L] at W0
 refine WL.seq<|WL.sr<|WOL.mv rfl<|WOL.len rfl (sF.hx N1.hx) u43<|WOL.mv rfl<|WOL.nil<|keep [(1,_),(5,_),(11,_),(12,_),(13,_)] ⟨rfl,rfl,rfl,rfl,rfl,trivial⟩ ?_
 refine WL.upto (α:=Unit) F.length (fun j _ g'=>HX h g'∧At g' h.next (.cells (cat encI (L.take j ++ List.replicate (L.length - j) 0)) true true 3)) (fun _ _=>[(1,.func (.func 111) #[] #[]),(5,slA h.next F.length),(11,v),(12,zi (F.length:Nat))]) () rfl rfl (by omega) ⟨N1.hx,W0⟩ ⟨rfl,rfl,rfl,rfl,rfl,trivial⟩ (fun _ _=>rfl) (fun _ _ _=>⟨rfl,rfl,rfl,rfl,rfl,trivial⟩) (fun _ _ _=>⟨rfl,rfl,rfl,rfl,rfl,trivial⟩) ?_ ?_
 ·rintro i _ g' hi ⟨X,Wd⟩
  have hp:F[i]?=some F[i]:=List.getElem?_eq_getElem hi
  have hi':i < L.length:=by omega
  have sm:Samp F[i] L[i]:=hL.2 i _ _ hp (List.getElem?_eq_getElem hi')
  obtain ⟨_,_,cc,fix,wr,el,g1,g2,g3,g4,g5⟩:=(sF.hx X).at eF u43 tp25 hp .i64
  have gx:=g5 0 (by decide)
  rw [Nat.add_zero] at gx
  refine WL.sr<|WOL.mv rfl<|WOL.ix rfl rfl g1<|WOL.ld rfl (qaa tp25 g2 gx)<|WOL.as rfl<|WOL.as rfl<|WOL.nil<|keep [(1,_),(5,_),(6,_),(7,_),(11,_),(12,_),(13,_)] ⟨rfl,rfl,rfl,rfl,rfl,rfl,rfl,trivial⟩ ?_
  refine WL.reg<|WOL.mv rfl<|WOL.mv rfl<|WOL.mv rfl<|WOL.mv rfl<|WOL.cl1 rfl rfl ((k111 H sm g').mono ?_)
  rintro u g' ⟨rfl,rfl⟩
  refine WOL.ix rfl rfl (qbv (j:=i) u29 tp3 hi)<|WOL.sto (vs:=encI L[i]) rfl rfl tp3 Wd rfl rfl (by rw [eI.cat_len,fill_len _ _ _ (by omega)];omega) rfl (f.hx X) (by omega) fun h5 P5=>WOL.nil fun y k=>⟨(),⟨P5.hx _ X (by omega),?_⟩,k.sub ⟨rfl,rfl,rfl,rfl,rfl,trivial⟩⟩
  have:=P5.at_
  rw [Nat.zero_add,eI.set (by rw [fill_len _ _ _ (by omega)];omega),fill_set L _ i hi'] at this
  exact this
 ·rintro _ g' ⟨X,Wd⟩
  rw [← lE,fill_all] at Wd
  exact WL.sr<|WOL.mv rfl<|WOL.as rfl<|WOL.nil<|WL.ret (WL.end_ rfl ⟨X,_,rfl,by omega,Wd⟩)
theorem eqT_sl {b:Option Addr} {m k:Nat}:eqT Tryz.prog 50 (.slice b m k) (.slice none 0 0)=some b.isNone:=by
 unfold eqT ptrEq nilEq
 rw [u44]
 cases b <;> rfl
theorem k1207 (H:Has tp) (sS:SlL encS 2 h v S) (lS:S.length≤1000000) (f:Free0 h.next h) :
  qad Tryz.prog tp (.func (.func 112) #[] #[]) #[v] h fun w h'=>HX h h'∧∃ b m k,w=.slice b m k∧SlL encS 2 h' w S∧∀ z,bl w=some z→h.next≤z:=by
 obtain ⟨bo,k,rfl,hk,hl,hh⟩:=id sS
 refine qad.fnL (H.fn 112 f1207 rfl rfl) ?_
 refine WL.sr<|WOL.as rfl<|WOL.nil ?_
 refine WL.seq<|WL.sr<|WOL.mv rfl<|WOL.eqN rfl rfl rfl eqT_sl<|WOL.nil ?_
 cases bo with
 | none =>
  have hS:S=[]:=by
   rcases hh with ⟨_,q⟩ | ⟨_,_,_,_,_,_,q,_⟩
   ·exact List.eq_nil_of_length_eq_zero q
   ·cases q
  subst hS
  exact WL.yes rfl<|WL.sr<|WOL.as rfl<|WOL.nil<|WL.ret (WL.end_ rfl ⟨HX.refl _,_,_,_,rfl,SlL.nil,fun z hz=>by cases hz⟩)
 | some ad =>
  refine WL.no rfl<|WL.skip<|WL.sr<|WOL.bs0 u44 tp48 (by decide) (by decide) fun h1 N1=>WOL.mv rfl ?_
  obtain ⟨u2,h7,ap7,X7,s7,b7,rfl,hb7,F7⟩:=append_own u44 tp48 N1.at_ (sS.hx N1.hx) (by omega) (eS.all _)
  exact WOL.ap rfl rfl ap7<|WOL.as rfl<|WOL.nil<|WL.ret (WL.end_ rfl ⟨N1.hx.trans X7,_,_,_,rfl,s7,fun z hz=>by have:b7=z:=Option.some.inj hz;omega⟩)
end
end Go.Tidy
namespace Go.Tidy
open Go Go.Proofs Tab
variable {tp:TProg}
section
variable {P:Program} {h:TH} {K:qan→TH→Prop} {rest:List TOper} {d:Option Tmp} {ty:TypeId} {i:Nat} {x y:Operand} {t u:TypeId} {L:Rg}
theorem tdiv_lim (m n:Int):(m.tdiv n).natAbs≤m.natAbs:=by
 rw [Int.natAbs_tdiv]
 exact Nat.div_le_self _ _
theorem WOL.quoT {m n:Int} (hx:qbi L x=some (.int .i64 m)) (hy:qbi L y=some (.int .i64 n)) (hn:n≠0) (h2:m.natAbs≤4611686018427387904) (w:∀ a,Kn (qdh L d (.int .i64 (m.tdiv n))) a→WO P tp rest a h K):∀ a,Kn L a→WO P tp (⟨d,.binOp .quo t x y u,ty,none,[],i⟩::rest) a h K:=fun a k=>by
 refine WO.quoI (k.o hx) (k.o hy) hn ?_
 have:=tdiv_lim m n
 rw [qao (by omega) (by omega)]
 exact w _ (k.put d _)
end
theorem tmod_zero {m n:Int}:m.tdiv n*n=m ↔ m.tmod n=0:=by
 rw [Int.tmod_def,Int.mul_comm (m.tdiv n)]
 omega
def resE1 (p:Nat) (n:Int):Int:=cond (n.tmod p != 0) 1 (cond (qcd (n.tdiv p)) 4 0)
def resN (p q:Nat) (H:List (Int × Bool)) (j:Nat) (x:Int):Int:=((p:Int)+q)*(H.getD (j+p) (0,false)).1 - (q:Int)*(H.getD j (0,false)).1 - x
def resK (p:Nat) (H:List (Int × Bool)) (j:Nat) (k:Bool):Bool:=k && ((H.getD (j+p) (0,false)).2 && (H.getD j (0,false)).2)
def resJ (p q:Nat) (E:List Int) (C:List (Int × Bool)):Nat→Int × List (Int × Bool)
 | 0=>(0,E.map fun x=>(x,true))
 | j+1=>if (resJ p q E C j).1≠0 then resJ p q E C j else if resK p (resJ p q E C j).2 j (C.getD j (0,false)).2=true then (if resE1 p (resN p q (resJ p q E C j).2 j (C.getD j (0,false)).1)≠0 then (resE1 p (resN p q (resJ p q E C j).2 j (C.getD j (0,false)).1),(resJ p q E C j).2) else (0,(resJ p q E C j).2 ++ [((resN p q (resJ p q E C j).2 j (C.getD j (0,false)).1).tdiv p,true)])) else (0,(resJ p q E C j).2 ++ [(0,false)])
section
variable {p q:Nat} {E:List Int} {C:List (Int × Bool)} {j:Nat} {H:List (Int × Bool)}
theorem resJ_eq:resJ p q E C (j+1)=if (resJ p q E C j).1≠0 then resJ p q E C j else if resK p (resJ p q E C j).2 j (C.getD j (0,false)).2=true then (if resE1 p (resN p q (resJ p q E C j).2 j (C.getD j (0,false)).1)≠0 then (resE1 p (resN p q (resJ p q E C j).2 j (C.getD j (0,false)).1),(resJ p q E C j).2) else (0,(resJ p q E C j).2 ++ [((resN p q (resJ p q E C j).2 j (C.getD j (0,false)).1).tdiv p,true)])) else (0,(resJ p q E C j).2 ++ [(0,false)]):=rfl
theorem resJ_dark (h0:resJ p q E C j=(0,H)) (hk:resK p H j (C.getD j (0,false)).2=false):resJ p q E C (j+1)=(0,H ++ [(0,false)]):=by
 rw [resJ_eq,h0,if_neg (fun h=>h rfl),if_neg (by rw [hk];decide)]
theorem resJ_err (h0:resJ p q E C j=(0,H)) (hk:resK p H j (C.getD j (0,false)).2=true) (he:resE1 p (resN p q H j (C.getD j (0,false)).1)≠0):resJ p q E C (j+1)=(resE1 p (resN p q H j (C.getD j (0,false)).1),H):=by
 rw [resJ_eq,h0,if_neg (fun h=>h rfl),if_pos hk,if_pos he]
theorem resJ_put (h0:resJ p q E C j=(0,H)) (hk:resK p H j (C.getD j (0,false)).2=true) (he:resE1 p (resN p q H j (C.getD j (0,false)).1)=0):resJ p q E C (j+1)=(0,H ++ [((resN p q H j (C.getD j (0,false)).1).tdiv p,true)]):=by
 rw [resJ_eq,h0,if_neg (fun h=>h rfl),if_pos hk,if_neg (fun h=>h he)]
theorem resJ_stop (h:(resJ p q E C j).1≠0):∀ k,resJ p q E C (j+k)=resJ p q E C j
 | 0=>rfl
 | k+1=>by
  have ih:=resJ_stop h k
  show resJ p q E C (j+k+1)=_
  rw [resJ_eq,ih,if_pos h]
theorem resJ_len:∀ j,(resJ p q E C j).1=0→(resJ p q E C j).2.length=E.length+j
  | 0,_=>by
    show (E.map _).length=_
    rw [List.length_map];rfl
  | j + 1, h => by
    by_cases h0:(resJ p q E C j).1=0
    · have ih:=resJ_len j h0
      obtain ⟨H,e⟩:∃ H,resJ p q E C j=(0,H):=⟨_,Prod.ext h0 rfl⟩
      rw [e] at ih
      replace ih:H.length=E.length+j:=ih
      cases hk:resK p H j (C.getD j (0,false)).2 with
      | false=>rw [resJ_dark e hk];show (H ++ [_]).length=_;rw [List.length_append,ih];rfl
      | true =>
        by_cases he:resE1 p (resN p q H j (C.getD j (0,false)).1)=0
        · rw [resJ_put e hk he];show (H ++ [_]).length=_;rw [List.length_append,ih];rfl
        · rw [resJ_err e hk he] at h
          exact absurd h he
    · have:=resJ_stop h0 1
      rw [this] at h
      exact absurd h h0
def HFine (H:List (Int × Bool)):Prop:=∀ c,c ∈ H→(c.2=true→qcd c.1=false)∧(c.2=false→c.1=0)
theorem HFine.lim {H:List (Int × Bool)} (f:HFine H) (i:Nat):-1073741824≤(H.getD i (0,false)).1∧(H.getD i (0,false)).1≤1073741824:=by
  rw [List.getD_eq_getElem?_getD]
  cases hi:H[i]? with
  | none=>decide
  | some c =>
    obtain ⟨f1,f2⟩:=f c (List.mem_of_getElem? hi)
    show -1073741824≤c.1∧c.1≤1073741824
    cases hc:c.2 with
    | false=>rw [f2 hc];decide
    | true =>
      have:=f1 hc
      unfold qcd readE at this
      have h0:outB c.1 (-1073741824) 1073741824=0:=by
        by_cases q:outB c.1 (-1073741824) 1073741824=0
        · exact q
        · rw [bne_iff_ne.2 q] at this;cases this
      exact out_mm h0
theorem resJ_fine (hE:∀ x,x ∈ E→qcd x=false):∀ j,HFine (resJ p q E C j).2
  | 0=>fun c hc=>by
    obtain ⟨x,hx,rfl⟩:=List.mem_map.1 hc
    exact ⟨fun _=>hE x hx,fun h=>by cases h⟩
  | j + 1 => by
    have ih:=resJ_fine hE j
    by_cases h0:(resJ p q E C j).1=0
    · obtain ⟨H,e⟩:∃ H,resJ p q E C j=(0,H):=⟨_,Prod.ext h0 rfl⟩
      rw [e] at ih
      cases hk:resK p H j (C.getD j (0,false)).2 with
      | false =>
        rw [resJ_dark e hk]
        intro c hc
        rcases List.mem_append.1 hc with hc | hc
        · exact ih c hc
        · cases List.mem_singleton.1 hc
          exact ⟨fun h=>(by cases h),fun _=>rfl⟩
      | true =>
        by_cases he:resE1 p (resN p q H j (C.getD j (0,false)).1)=0
        · rw [resJ_put e hk he]
          intro c hc
          rcases List.mem_append.1 hc with hc | hc
          · exact ih c hc
          · cases List.mem_singleton.1 hc
            refine ⟨fun _=>?_,fun h=>by cases h⟩
            unfold resE1 at he
            cases h1:((resN p q H j (C.getD j (0,false)).1).tmod p != 0) with
            | true=>rw [h1] at he;cases he
            | false =>
              rw [h1] at he
              cases h2:qcd ((resN p q H j (C.getD j (0,false)).1).tdiv p) with
              | true=>rw [h2] at he;cases he
              | false=>rfl
        · rw [resJ_err e hk he];exact ih
    · rw [resJ_stop h0 1];exact ih
theorem HFine.val {H:List (Int × Bool)} (f:HFine H):qcr H=H.map fun c=>c.1:=by
 unfold qcr
 refine List.map_congr_left fun c hc=>?_
 cases h:c.2 with
 | true=>rfl
 | false=>rw [(f c hc).2 h];rfl
theorem HFine.big {H:List (Int × Bool)} (f:HFine H):bigC H=false:=by
 unfold bigC
 refine List.any_eq_false.2 fun c hc=>?_
 cases h:c.2 with
 | true=>rw [(f c hc).1 h];decide
 | false=>exact Bool.false_ne_true
end
def padL {α:Type} (l:List α) (z:α) (m:Nat):List α:=l ++ List.replicate (m - l.length) z
section
variable {α:Type} {l:List α} {z x:α} {m:Nat}
theorem padL_len (h:l.length≤m):(padL l z m).length=m:=by unfold padL;rw [List.length_append,List.length_replicate];omega
theorem padL_set (h:l.length < m):(padL l z m).set l.length x=padL (l ++ [x]) z m:=by
 unfold padL
 rw [List.set_append_right _ _ (Nat.le_refl _),Nat.sub_self,List.length_append,show m - l.length=(m - (l.length+[x].length))+1 by show m - l.length=(m - (l.length+1))+1;omega,List.replicate_succ,List.set_cons_zero,List.append_assoc]
 rfl
theorem padL_same (h:l.length < m):padL (l ++ [z]) z m=padL l z m:=by
 unfold padL
 rw [List.length_append,show m - l.length=(m - (l.length+[z].length))+1 by show m - l.length=(m - (l.length+1))+1;omega,List.replicate_succ,List.append_assoc]
 rfl
theorem padL_full (h:l.length=m):padL l z m=l:=by
 unfold padL
 rw [h,Nat.sub_self];simp
theorem padL_get {i:Nat}:(padL l z m).getD i z=l.getD i z:=by
 unfold padL
 rw [List.getD_eq_getElem?_getD,List.getD_eq_getElem?_getD]
 by_cases h:i < l.length
 ·rw [List.getElem?_append_left h]
 ·rw [List.getElem?_append_right (by omega),List.getElem?_replicate,List.getElem?_eq_none (l:=l) (by omega)]
  split <;> rfl
theorem map_getD {β:Type} {g:α→β} {i:Nat}:(l.map g).getD i (g z)=g (l.getD i z):=by
 rw [List.getD_eq_getElem?_getD,List.getD_eq_getElem?_getD,List.getElem?_map]
 cases l[i]? <;> rfl
end
theorem yX1224 (H:Has tp) {n:Int} {v1 v2:Value} {m c:Nat} (h0:0≤n) (h1:n≤1000000000) (hl:m≤1000000):YieldsX Tryz.prog tp (.func (.func 164) #[] #[ptr c]) (fun g=>At g c (.cells [zi n,v1,v2] true true 55)∧∃ L:List Int,L.length=m∧SlL encI 1 g v1 L) m fun j=>zi (n+(j:Nat)):=by
 intro h' yv I D I0 hI step
 refine qad.fnC (H.fn 164 f1224 rfl rfl) ?_
 obtain ⟨A0,L,rfl,s0⟩:=hI 0 h' I0
 refine WL.sr<|WOL.fa rfl (qaf qau)<|WOL.ld rfl (qaa tp29 A0 rfl)<|WOL.len rfl s0 u29<|WOL.mv rfl<|WOL.nil<|keep [(0,_),(1,_),(6,_),(7,_)] ⟨rfl,rfl,rfl,rfl,trivial⟩ ?_
 refine WL.upto (α:=Unit) L.length (fun j _ g=>I j g) (fun _ _=>[(0,yv),(1,ptr c),(6,zi (L.length:Nat))]) () rfl rfl (by omega) I0 ⟨rfl,rfl,rfl,rfl,trivial⟩ (fun _ _=>rfl) (fun _ _ _=>⟨rfl,rfl,rfl,rfl,trivial⟩) (fun _ _ _=>⟨rfl,rfl,rfl,rfl,trivial⟩) ?_ ?_
 ·rintro j _ g hj q1
  obtain ⟨A1,_⟩:=hI j g q1
  refine WL.sr<|WOL.mv rfl<|WOL.as rfl<|WOL.nil<|keep [(0,_),(1,_),(3,_),(6,_),(7,_)] ⟨rfl,rfl,rfl,rfl,rfl,trivial⟩ ?_
  refine WL.sr<|WOL.mv rfl<|WOL.fa rfl (qaf qcf)<|WOL.ld rfl (qaa tp3 A1 rfl)<|WOL.mv rfl<|WOL.add (m:=n) (n:=((j:Nat):Int)) rfl rfl (by omega) (by omega)<|WOL.cl1 rfl rfl ((step j g hj q1).mono ?_)
  rintro v g2 (⟨rfl,q2⟩ | ⟨rfl,q2⟩)
  ·exact WOL.nt rfl<|WOL.nil<|WL.no rfl<|WL.skip fun a q=>⟨(),q2,q.sub ⟨rfl,rfl,rfl,rfl,trivial⟩⟩
  ·exact WOL.nt rfl<|WOL.nil<|WL.yes rfl<|WL.ret (WL.end_ rfl (.inr q2))
 ·rintro _ g q1
  exact fun a q=>WL.endn rfl (.inl q1) a q
theorem resE1_eq {p:Nat} {N:Int}:qae [cond (N.tdiv p*p != N) 1 0,cond (qcd (N.tdiv p)) 4 0]=resE1 p N:=by
 have e:(N.tdiv p*p != N)=(N.tmod p != 0):=by
  by_cases h:N.tmod p=0
  ·rw [bne_eq_false_iff_eq.2 h,bne_eq_false_iff_eq.2 (tmod_zero.2 h)]
  ·rw [bne_iff_ne.2 h,bne_iff_ne.2 (fun q=>h (tmod_zero.1 q))]
 unfold resE1
 rw [e]
 cases (N.tmod p != 0) <;> cases qcd (N.tdiv p) <;> rfl
section
variable {h:TH} {n:Int} {p q:Nat} {L E:List Int} {S:List (Int × Int)} {rv rk hv hk:Nat}
set_option maxHeartbeats 8000000 in
set_option maxRecDepth 10000 in
theorem k1200 (H:Has tp) (R:RowA h rv rk L (qav S L.length)) (T:RowA h hv hk (padL ((resJ p q E (zipK L S L.length) 0).2.map fun c=>c.1) 0 (L.length+(p+q))) (padL ((resJ p q E (zipK L S L.length) 0).2.map fun c=>c.2) false (L.length+(p+q)))) (d1:rv≠hv) (d2:rv≠hk) (d3:rk≠hv) (d4:rk≠hk) (hE:∀ x,x ∈ E→qcd x=false) (lE:E.length=p+q) (hp:1≤p) (hp':p≤32) (hq:1≤q) (hq':q≤32) (lim:∀ j,-1073741824≤L.getD j 0∧L.getD j 0≤1073741824) (n0:0≤n - p) (n1:n≤100000000) (lL:L.length≤900000) {hb:TH} (Xb:HX hb h) (fb:Free0 hb.next hb) (b1:hb.next≤hv) (b2:hb.next≤hk) :
    qad Tryz.prog tp (.func (.func 102) #[] #[]) #[.agg #[zi (p:Nat),zi (q:Nat)],rowV n (slA rv L.length) (slA rk L.length),rowV (n - p) (slA hv (L.length+(p+q))) (slA hk (L.length+(p+q)))] h fun v h'=>(∀ h0,HX h0 h→h0.next≤hv→h0.next≤hk→HX h0 h')∧(∀ c y,c≠hv→c≠hk→At h c y→At h' c y)∧h.next≤h'.next∧v=zi (resJ p q E (zipK L S L.length) L.length).1∧((resJ p q E (zipK L S L.length) L.length).1=0→RowA h' hv hk ((resJ p q E (zipK L S L.length) L.length).2.map fun c=>c.1) ((resJ p q E (zipK L S L.length) L.length).2.map fun c=>c.2)):=by
  have f:Free0 hb.next h:=fb.hx Xb
  have hm:hb.next≤h.next:=Xb.next
  refine qad.fnL (H.fn 102 f1200 rfl rfl) ?_
  refine WL.sr<|WOL.box rfl fun h1 N1=>WOL.box rfl fun h2 N2=>WOL.box rfl fun h3 N3=>WOL.al tp30 fun h4 N4=>WOL.nil<|keep [(3,_),(4,_),(5,_),(6,_)] ⟨rfl,rfl,rfl,rfl,trivial⟩ ?_
  have q1:=N1.next
  have q2:=N2.next
  have q3:=N3.next
  have q4:=N4.next
  have X4:=((N1.hx.trans N2.hx).trans N3.hx).trans N4.hx
  have A3:At h4 h.next (.cells [zi (p:Nat),zi (q:Nat)] true true 31):=((N1.at_.hx N2.hx).hx N3.hx).hx N4.hx
  have A4:At h4 h1.next (.cells [zi n,slA rv L.length,.slice none 0 0,slA rk L.length] true true 148):=(N2.at_.hx N3.hx).hx N4.hx
  have A5:At h4 h2.next (.cells [zi (n - p),slA hv (L.length+(p+q)),.slice none 0 0,slA hk (L.length+(p+q))] true true 148):=N3.at_.hx N4.hx
  have A6:At h4 h3.next (.cells [zi 0] true true 28):=N4.at_
  have R4:=R.hx X4
  have T4:=T.hx X4
  have lr1:=R.v.lt
  have lr2:=R.k.lt
  have lh1:=T.v.lt
  have lh2:=T.k.lt
  have f4:=f.hx X4
  refine WL.seq<|WL.sr<|WOL.fa rfl (qaf qdc)<|WOL.ld rfl (qab tp1117 A4 (l:=[zi n,slA rv L.length,.slice none 0 0]) rfl (Nat.le_of_ble_eq_true rfl))<|WOL.cl1 rfl rfl ((k1179 H h4).mono ?_)
  rintro v h5 ⟨cc,rfl,X5,Ac,ac⟩
  have q5:=X5.next
  have lc:=Ac.lt
  have Y5:=X4.trans X5
  replace A3:=A3.hx X5;replace A4:=A4.hx X5;replace A5:=A5.hx X5;replace A6:=A6.hx X5;replace R4:=R4.hx X5;replace T4:=T4.hx X5
  have f5:=f.hx Y5
  refine WOL.nil<|keep [(3,_),(4,_),(5,_),(6,_),(19,_)] ⟨rfl,rfl,rfl,rfl,rfl,trivial⟩ ?_
  generalize hC:zipK L S L.length=C at *
  have hCj:∀ j,j < L.length→C.getD j (0,false)=(L.getD j 0,qam S (j:Nat)):=fun j hj=>by
    rw [← hC,List.getD_eq_getElem?_getD,zipK_get hj];rfl
  have fine:=fun j=>resJ_fine (p:=p) (q:=q) (C:=C) hE j
  have leng:=fun j=>resJ_len (p:=p) (q:=q) (E:=E) (C:=C) j
  have stop:=fun j=>resJ_stop (p:=p) (q:=q) (E:=E) (C:=C) (j:=j)
  refine WL.block<|WL.rangeX rfl (H.fn 164 f1224 rfl rfl) (yX1224 (v1:=slA rv L.length) (v2:=.slice none 0 0) H (n:=n) (by omega) (by omega) (m:=L.length) (by omega)) (fun j g=>(resJ p q E C j).1=0∧(∀ h0,HX h0 h→h0.next≤hv→h0.next≤hk→HX h0 g)∧(∀ c y,c≠hv→c≠hk→At h5 c y→At g c y)∧Free0 hb.next g∧h5.next≤g.next∧RowA g hv hk (padL ((resJ p q E C j).2.map fun c=>c.1) 0 (L.length+(p+q))) (padL ((resJ p q E C j).2.map fun c=>c.2) false (L.length+(p+q)))) (fun e g=>e=.ret∧(resJ p q E C L.length).1≠0∧(∀ h0,HX h0 h→h0.next≤hv→h0.next≤hk→HX h0 g)∧(∀ c y,c≠hv→c≠hk→c≠h3.next→At h5 c y→At g c y)∧Free0 hb.next g∧h5.next≤g.next∧At g h3.next (.cells [zi (resJ p q E C L.length).1] true true 28)) ?_ ?_ ?_ ?_ ?_ ?_ ?_ ?_ ?_
  · rintro j g ⟨_,_,o,_⟩
    exact ⟨o _ _ (by omega) (by omega) Ac,L,rfl,SlL.own eI (o _ _ d1 d2 R4.v) rfl⟩
  · rintro j g ⟨_,_,_,fg,nx,_⟩
    exact fg.up (by omega)
  · rintro e g ⟨_,_,_,_,fg,nx,_⟩
    exact fg.up (by omega)
  · rintro j g g' x ⟨z0,x1,o,fg,nx,ra⟩ P
    exact ⟨z0,fun h0 X a b=>P.hx _ (x1 h0 X a b) (by have:=X.next;omega),fun c y a b A=>P.oth _ _ (by have:=A.lt;omega) (o _ _ a b A),⟨by rw [P.floor];exact fg.floor,fun l hl=>fg.lock l (by rw [← P.lock];exact hl)⟩,by rw [P.next];exact nx,⟨P.oth _ _ (by omega) ra.v,P.oth _ _ (by omega) ra.k,ra.e,ra.n⟩⟩
  · rintro e g g' x ⟨ee,z0,x1,o,fg,nx,A⟩ P
    exact ⟨ee,z0,fun h0 X a b=>P.hx _ (x1 h0 X a b) (by have:=X.next;omega),fun c y a b d A=>P.oth _ _ (by have:=A.lt;omega) (o _ _ a b d A),⟨by rw [P.floor];exact fg.floor,fun l hl=>fg.lock l (by rw [← P.lock];exact hl)⟩,by rw [P.next];exact nx,P.oth _ _ (by omega) A⟩
  · rintro g x N
    have:=N.next
    exact ⟨rfl,fun h0 X a b=>(X.trans Y5).trans N.hx,fun c y _ _ A=>A.hx N.hx,f5.hx N.hx,by omega,T4.hx N.hx⟩
  · rintro j g x hj _ A
    refine WL.reg<|WOL.as rfl<|WOL.nil ?_
    intro r' hr
    refine ⟨rfl,rfl,fun g2 xx ⟨z0,x1,o,fg,nx,ra⟩ A2=>?_⟩
    refine hr.go ?_
    obtain ⟨Hj,e⟩:∃ Hj,resJ p q E C j=(0,Hj):=⟨_,Prod.ext z0 rfl⟩
    have fj:=fine j
    have lj:=leng j z0
    rw [e] at ra fj lj
    replace lj:Hj.length=E.length+j:=lj
    have hd:=hCj j hj
    have sd:=resJ_dark (p:=p) (q:=q) (E:=E) (C:=C) e
    have se:=resJ_err (p:=p) (q:=q) (E:=E) (C:=C) e
    have sp:=resJ_put (p:=p) (q:=q) (E:=E) (C:=C) e
    rw [hd] at sd se sp
    have lf:=fun i=>fj.lim i
    have B3:=o _ _ (by omega) (by omega) A3
    have B4:=o _ _ (by omega) (by omega) A4
    have B5:=o _ _ (by omega) (by omega) A5
    have B6:=o _ _ (by omega) (by omega) A6
    have RR:RowA g2 rv rk L (qav S L.length):=⟨o _ _ d1 d2 R4.v,o _ _ d3 d4 R4.k,R4.e,R4.n⟩
    have lv:(padL (Hj.map fun c=>c.1) 0 (L.length+(p+q))).length=L.length+(p+q):=padL_len (by rw [List.length_map];omega)
    have k1:=fun g (X:HX g2 g)=>k1180 (n:=n) H (RR.hx X) hj (by omega) (by omega) (by omega)
    rw [show (qav S L.length).getD j false=qam S (j:Nat) by rw [List.getD_eq_getElem?_getD,qea hj];rfl] at k1
    have k2:=fun g (X:HX g2 g)=>k1180 (n:=n - p) (i:=j+p) H (ra.hx X) (by rw [lv];omega) (by omega) (by omega) (by rw [lv];omega)
    have k3:=fun g (X:HX g2 g)=>k1180 (n:=n - p) (i:=j) H (ra.hx X) (by rw [lv];omega) (by omega) (by omega) (by rw [lv];omega)
    have hv1:∀ i,(Hj.map fun c=>c.1).getD i 0=(Hj.getD i (0,false)).1:=fun i=>map_getD (z:=((0:Int),false)) (g:=fun c=>c.1)
    have hv2:∀ i,(Hj.map fun c=>c.2).getD i false=(Hj.getD i (0,false)).2:=fun i=>map_getD (z:=((0:Int),false)) (g:=fun c=>c.2)
    simp only [lv,padL_get,hv1,hv2] at k2 k3
    rw [show n - (p:Int)+((j+p:Nat):Int)=n+(j:Nat) by omega] at k2
    rw [show n - (p:Int)+((j:Nat):Int)=n+(j:Nat) - p by omega] at k3
    refine WL.block<|WL.sr<|WOL.ld rfl (qab tp1194 B4 rfl (Nat.le_of_ble_eq_true rfl))<|WOL.mv rfl<|WOL.cl2 rfl rfl rfl ((k1 g2 (HX.refl _)).mono ?_)
    rintro u i1 ⟨rfl,M1⟩
    refine WOL.mv rfl<|WOL.ex rfl rfl<|WOL.ex rfl rfl<|WOL.as rfl<|WOL.as rfl<|WOL.nil<|keep [(3,_),(4,_),(5,_),(6,_),(7,_),(8,_),(9,_)] ⟨rfl,rfl,rfl,rfl,rfl,rfl,rfl,trivial⟩ ?_
    refine WL.sr<|WOL.ld rfl (qab tp1194 (B5.hx M1) rfl (Nat.le_of_ble_eq_true rfl))<|WOL.mv rfl<|WOL.cl2 rfl rfl rfl ((k2 i1 M1).mono ?_)
    rintro u i2 ⟨rfl,M2⟩
    have M12:=M1.trans M2
    refine WOL.mv rfl<|WOL.ex rfl rfl<|WOL.ex rfl rfl<|WOL.as rfl<|WOL.as rfl<|WOL.nil<|keep [(3,_),(4,_),(5,_),(6,_),(7,_),(8,_),(9,_),(10,_),(11,_)] ⟨rfl,rfl,rfl,rfl,rfl,rfl,rfl,rfl,rfl,trivial⟩ ?_
    refine WL.sr<|WOL.ld rfl (qab tp1194 (B5.hx M12) rfl (Nat.le_of_ble_eq_true rfl))<|WOL.mv rfl<|WOL.fa rfl (qaf fo1128_0)<|WOL.ld rfl (qaa tp3 (B3.hx M12) rfl)<|WOL.sub (m:=n+(j:Nat)) (n:=(p:Int)) rfl rfl (by omega) (by omega)<|WOL.cl2 rfl rfl rfl ((k3 i2 M12).mono ?_)
    rintro u i3 ⟨rfl,M3⟩
    have M:=M12.trans M3
    have mn:=M.next
    refine WOL.mv rfl<|WOL.ex rfl rfl<|WOL.ex rfl rfl<|WOL.as rfl<|WOL.as rfl<|WOL.nil<|keep [(3,_),(4,_),(5,_),(6,_),(7,_),(8,_),(9,_),(10,_),(11,_),(12,_),(13,_)] ⟨rfl,rfl,rfl,rfl,rfl,rfl,rfl,rfl,rfl,rfl,rfl,trivial⟩ ?_
    have fM:=fg.hx M
    have OM:∀ c y,c≠hv→c≠hk→At h5 c y→At i3 c y:=fun c y a b A=>(o _ _ a b A).hx M
    have XM:∀ h0,HX h0 h→h0.next≤hv→h0.next≤hk→HX h0 i3:=fun h0 X a b=>(x1 h0 X a b).trans M
    have raM:=ra.hx M
    have AM:=A2.hx M
    clear k1 k2 k3 B3 B4 B5 B6
    have dark:resK p Hj j (qam S (j:Nat))=false→(resJ p q E C (j+1)).1=0∧(∀ h0,HX h0 h→h0.next≤hv→h0.next≤hk→HX h0 i3)∧(∀ c y,c≠hv→c≠hk→At h5 c y→At i3 c y)∧Free0 hb.next i3∧h5.next≤i3.next∧RowA i3 hv hk (padL ((resJ p q E C (j+1)).2.map fun c=>c.1) 0 (L.length+(p+q))) (padL ((resJ p q E C (j+1)).2.map fun c=>c.2) false (L.length+(p+q))):=by
      intro hb
      rw [sd hb]
      refine ⟨rfl,XM,OM,fM,by omega,?_⟩
      rw [List.map_append,List.map_append]
      show RowA i3 hv hk (padL (Hj.map (fun c=>c.1) ++ [0]) 0 _) (padL (Hj.map (fun c=>c.2) ++ [false]) false _)
      rw [padL_same (by rw [List.length_map];omega),padL_same (by rw [List.length_map];omega)]
      exact raM
    unfold resK at dark se sp
    cases hk1:qam S (j:Nat) with
    | false =>
      rw [hk1] at dark
      exact WL.seq<|WL.sr<|WOL.mv rfl<|WOL.nt rfl<|WOL.mv rfl<|WOL.skp (b:=true) rfl rfl<|WOL.skp (b:=true) rfl rfl<|WOL.pkt rfl rfl<|WOL.mv rfl<|WOL.skp (b:=true) rfl rfl<|WOL.skp (b:=true) rfl rfl<|WOL.pkt rfl rfl<|WOL.nil<|WL.yes rfl<|WL.exit fun r k=>⟨.inl ⟨rfl,dark rfl⟩,AM⟩
    | true =>
      rw [hk1] at dark se sp
      cases hk2:(Hj.getD (j+p) (0,false)).2 with
      | false =>
        rw [hk2] at dark
        exact WL.seq<|WL.sr<|WOL.mv rfl<|WOL.nt rfl<|WOL.mv rfl<|WOL.now (b:=false) rfl rfl<|WOL.mv rfl<|WOL.now (b:=false) rfl rfl<|WOL.nt rfl<|WOL.pkf rfl rfl<|WOL.mv rfl<|WOL.skp (b:=true) rfl rfl<|WOL.skp (b:=true) rfl rfl<|WOL.pkt rfl rfl<|WOL.nil<|WL.yes rfl<|WL.exit fun r k=>⟨.inl ⟨rfl,dark rfl⟩,AM⟩
      | true =>
        rw [hk2] at dark se sp
        cases hk3:(Hj.getD j (0,false)).2 with
        | false =>
          rw [hk3] at dark
          exact WL.seq<|WL.sr<|WOL.mv rfl<|WOL.nt rfl<|WOL.mv rfl<|WOL.now (b:=false) rfl rfl<|WOL.mv rfl<|WOL.now (b:=false) rfl rfl<|WOL.nt rfl<|WOL.pkf rfl rfl<|WOL.mv rfl<|WOL.now (b:=false) rfl rfl<|WOL.mv rfl<|WOL.now (b:=false) rfl rfl<|WOL.nt rfl<|WOL.pkf rfl rfl<|WOL.nil<|WL.yes rfl<|WL.exit fun r k=>⟨.inl ⟨rfl,dark rfl⟩,AM⟩
        | true =>
          rw [hk3] at se sp
          replace se:=se rfl
          replace sp:=sp rfl
          clear dark
          refine WL.seq<|WL.sr<|WOL.mv rfl<|WOL.nt rfl<|WOL.mv rfl<|WOL.now (b:=false) rfl rfl<|WOL.mv rfl<|WOL.now (b:=false) rfl rfl<|WOL.nt rfl<|WOL.pkf rfl rfl<|WOL.mv rfl<|WOL.now (b:=false) rfl rfl<|WOL.mv rfl<|WOL.now (b:=false) rfl rfl<|WOL.nt rfl<|WOL.pkf rfl rfl<|WOL.nil<|WL.no rfl<|WL.skip<|keep [(3,_),(4,_),(5,_),(6,_),(7,_),(8,_),(10,_),(12,_)] ⟨rfl,rfl,rfl,rfl,rfl,rfl,rfl,rfl,trivial⟩ ?_
          have l1:=lf (j+p)
          have l2:=lf j
          have l3:=lim j
          obtain ⟨u1,u2⟩:=mul_lim (w:=(p:Int)+q) (x:=(Hj.getD (j+p) (0,false)).1) (by omega) (by omega) l1.1 l1.2
          obtain ⟨u3,u4⟩:=mul_lim (w:=(q:Int)) (x:=(Hj.getD j (0,false)).1) (by omega) (by omega) l2.1 l2.2
          have B3:=OM _ _ (by omega) (by omega) A3
          refine WL.sr<|WOL.ld rfl (qab tp1128 B3 rfl (Nat.le_of_ble_eq_true rfl))<|WOL.mv rfl<|WOL.fa rfl (qaf fo1128_1)<|WOL.ld rfl (qaa tp3 B3 rfl)<|WOL.mv rfl<|WOL.mul rfl rfl (Int.le_trans (by decide) u3) (Int.le_trans u4 (by decide))<|WOL.mv rfl ?_
          refine WOL.lk1 rfl rfl fun M'=>((k1199 H (a:=(p:Int)) (b:=(q:Int)) (by omega) (by omega) (by omega) (by omega) _).mono ?_)
          rintro u i4 ⟨rfl,M4⟩
          replace M4:=M4.relock
          generalize i4.withLock i3.lock=i4 at *
          refine WOL.mul rfl rfl (Int.le_trans (by decide) u1) (Int.le_trans u2 (by decide))<|WOL.sub rfl rfl (by omega) (by omega)<|WOL.sub rfl rfl (by omega) (by omega)<|WOL.as rfl<|WOL.nil<|keep [(3,_),(5,_),(6,_),(7,_),(14,_)] ⟨rfl,rfl,rfl,rfl,rfl,trivial⟩ ?_
          have hN:((p:Int)+q)*(Hj.getD (j+p) (0,false)).1 - (q:Int)*(Hj.getD j (0,false)).1 - L.getD j 0=resN p q Hj j (L.getD j 0):=rfl
          rw [hN]
          have lN:(resN p q Hj j (L.getD j 0)).natAbs≤32212254720000:=by rw [← hN];omega
          clear hN
          generalize resN p q Hj j (L.getD j 0)=N at *
          have ln:=tdiv_lim N p
          have lt:(N.tdiv p*(p:Int)).natAbs≤32212254720000:=by
            rw [Int.natAbs_mul,Int.natAbs_tdiv]
            exact Nat.le_trans (Nat.div_mul_le_self _ _) lN
          have B3:=B3.hx M4
          refine WL.sr<|WOL.mv rfl<|WOL.fa rfl (qaf fo1128_0)<|WOL.ld rfl (qaa tp3 B3 rfl)<|WOL.quoT rfl rfl (by omega) (by omega)<|WOL.as rfl<|WOL.nil<|keep [(3,_),(5,_),(6,_),(7,_),(14,_),(15,_)] ⟨rfl,rfl,rfl,rfl,rfl,rfl,trivial⟩ ?_
          refine WL.sr<|WOL.mv rfl<|WOL.fa rfl (qaf fo1128_0)<|WOL.ld rfl (qaa tp3 B3 rfl)<|WOL.mul rfl rfl (by omega) (by omega)<|WOL.mv rfl<|WOL.bi (v:=.bool (N.tdiv p*(p:Int) != N)) rfl rfl rfl<|WOL.cl2 rfl rfl rfl ((k77 H _ _ _).mono ?_)
          rintro u i4 ⟨rfl,rfl⟩
          refine WOL.mv rfl<|WOL.cl1 rfl rfl ((k1225 H (N.tdiv p) _).mono ?_)
          rintro u i4 ⟨rfl,rfl⟩
          refine WOL.cl2 rfl rfl rfl ((k77 H _ _ _).mono ?_)
          rintro u i4 ⟨rfl,rfl⟩
          refine WOL.bsl rfl u166 tp30 (by decide) (by decide) (by decide) (qcn _ _) fun i5 M5=>WOL.cl1 rfl rfl ((k71 H (l:=[_,_]) M5.at_.get (by simp)).mono ?_)
          rintro u i5 ⟨rfl,rfl⟩
          rw [resE1_eq]
          have Z:=M4.trans M5.hx
          have zn:=Z.next
          refine WOL.as rfl<|WOL.nil<|keep [(3,_),(5,_),(6,_),(7,_),(15,_),(16,_)] ⟨rfl,rfl,rfl,rfl,rfl,rfl,trivial⟩ ?_
          have fZ:=fM.hx Z
          by_cases e0:resE1 p N≠0
          · have es:=se e0
            have et:=stop (j+1) (by rw [es];exact e0) (L.length - (j+1))
            rw [show j+1+(L.length - (j+1))=L.length by omega,es] at et
            refine WL.seq<|WL.sr<|WOL.mv rfl<|WOL.bt rfl rfl rfl (bne_iff_ne.2 e0)<|WOL.nil<|WL.yes rfl<|WL.sr<|WOL.mv rfl<|WOL.sto (vs:=[zi (resE1 p N)]) rfl rfl tp30 ((OM _ _ (by omega) (by omega) A6).hx Z) rfl rfl (Nat.le_of_ble_eq_true rfl) rfl fZ (by omega) fun i6 M6=>WOL.nil ?_
            have m6:=M6.next
            refine WL.ret fun r k=>⟨.inr ⟨.inl rfl,rfl,?_,fun h0 X a b=>M6.hx _ ((XM h0 X a b).trans Z) (by have:=X.next;omega),fun c y a b d A=>M6.oth _ _ d ((OM _ _ a b A).hx Z),fb.hx (M6.hx _ ((XM hb Xb b1 b2).trans Z) (by omega)),by omega,?_⟩,M6.oth _ _ (by omega) (AM.hx Z)⟩
            · rw [et];exact e0
            · rw [et];exact M6.at_
          have e0:resE1 p N=0:=Classical.not_not.1 e0
          have es:=sp e0
          rw [e0]
          refine WL.seq<|WL.sr<|WOL.mv rfl<|WOL.bf rfl rfl rfl rfl<|WOL.nil<|WL.no rfl<|WL.skip ?_
          have k:=k1181 (n:=n - p) (x:=N.tdiv p) H (raM.hx Z) (i:=p+q+j) (by rw [lv];omega) (by omega) (by omega) (by rw [lv];omega) (m:=hb.next) fZ b1 b2
          rw [lv,show n - (p:Int)+((p+q+j:Nat):Int)=n+(j:Nat)+q by omega] at k
          refine WL.reg<|WOL.ld rfl (qab tp1194 ((OM _ _ (by omega) (by omega) A5).hx Z) rfl (Nat.le_of_ble_eq_true rfl))<|WOL.mv rfl<|WOL.fa rfl (qaf fo1128_1)<|WOL.ld rfl (qaa tp3 (B3.hx M5.hx) rfl)<|WOL.add (m:=n+(j:Nat)) (n:=(q:Int)) rfl rfl (by omega) (by omega)<|WOL.mv rfl<|WOL.cl3 rfl rfl rfl rfl (k.mono ?_)
          rintro u i6 ⟨z6,r6,o6,n6⟩
          refine WOL.nil fun r k=>⟨.inl ⟨rfl,?_⟩,o6 _ _ (by omega) (by omega) (AM.hx Z)⟩
          rw [es]
          refine ⟨rfl,fun h0 X a b=>z6 _ ((XM h0 X a b).trans Z) a b,fun c y a b A=>o6 _ _ a b ((OM _ _ a b A).hx Z),fb.hx (z6 _ ((XM hb Xb b1 b2).trans Z) b1 b2),by omega,?_⟩
          · rw [List.map_append,List.map_append]
            have e1:=padL_set (l:=Hj.map fun c=>c.1) (z:=0) (x:=N.tdiv p) (m:=L.length+(p+q)) (by rw [List.length_map];omega)
            have e2:=padL_set (l:=Hj.map fun c=>c.2) (z:=false) (x:=true) (m:=L.length+(p+q)) (by rw [List.length_map];omega)
            rw [List.length_map,show Hj.length=p+q+j by omega] at e1 e2
            rw [e1,e2] at r6
            exact r6
  · rintro g ⟨z0,x1,o,fg,nx,ra⟩
    have lj:=leng L.length z0
    rw [padL_full (by rw [List.length_map,lj];omega),padL_full (by rw [List.length_map,lj];omega)] at ra
    refine WL.sr<|WOL.sto (vs:=[zi 0]) rfl rfl tp30 (o _ _ (by omega) (by omega) A6) rfl rfl (Nat.le_of_ble_eq_true rfl) rfl fg (by omega) fun i1 M1=>WOL.nil ?_
    have:=M1.next
    refine WL.ret (WL.endC rfl (qaa tp30 M1.at_ rfl) ⟨fun h0 X a b=>M1.hx _ (x1 h0 X a b) (by have:=X.next;omega),fun c y a b A=>M1.oth _ _ (by have:=A.lt;omega) (o _ _ a b (A.hx Y5)),by omega,by rw [z0],fun _=>⟨M1.oth _ _ (by omega) ra.v,M1.oth _ _ (by omega) ra.k,ra.e,ra.n⟩⟩)
  · rintro _ g ⟨rfl,z0,x1,o,fg,nx,A⟩
    exact fun r k=>WL.endC rfl (qaa tp30 A rfl) ⟨x1,fun c y a b A=>o _ _ a b (by have:=A.lt;omega) (A.hx Y5),by omega,rfl,fun q=>absurd q z0⟩ r k
end
end Go.Tidy
