/- A part of the proof. -/
import Derived.Test.YtjibbhaeaikhpaaGreatDoorPa6
import Derived.Test.YtjibbhaeaikhpaaGreatDoorPa5
import Derived.Test.YtjibbhaeaikhpaaGreatDoorPa2
set_option linter.all false
namespace Go.Tidy
open Go Go.Proofs Tab
theorem known_no {S:List (Int × Int)} {x:Int}:knownB S x = false ↔ ∃ p,p ∈ S ∧ p.1 ≤ x ∧ x < p.2:=by
 unfold knownB
 rw [Bool.not_eq_false',List.any_eq_true]
 constructor
 ·rintro ⟨p,hp,h⟩
  unfold inS at h
  simp only [Bool.and_eq_true,decide_eq_true_eq] at h
  exact ⟨p,hp,h.1,h.2⟩
 ·rintro ⟨p,hp,h1,h2⟩
  refine ⟨p,hp,?_⟩
  unfold inS
  rw [decide_eq_true h1,decide_eq_true h2];rfl
theorem holeE_tail {m:Nat} {prev:Int} {p:Int × Int} {r:List (Int × Int)} (h:holeE m prev (p :: r) = 0):badS m p = false ∧ prev < p.1 ∧ holeE m p.2 r = 0:=by
 rw [holeE_cons] at h
 cases hb:badS m p with
 | true => rw [hb] at h;cases h
 | false =>
  rw [hb] at h
  by_cases hc:p.1 ≤ prev
  ·rw [decide_eq_true hc] at h;cases h
  ·rw [decide_eq_false hc] at h
   exact ⟨rfl,by omega,h⟩
theorem known_tail {p:Int × Int} {r:List (Int × Int)} {x:Int} (hx:p.2 ≤ x):knownB (p :: r) x = knownB r x:=by
 unfold knownB
 rw [List.any_cons]
 unfold inS
 rw [decide_eq_false (by omega:¬ x < p.2),Bool.and_false,Bool.false_or]
theorem holes_first {m:Nat} {prev:Int} {p:Int × Int} {r:List (Int × Int)} (h:holeE m prev (p :: r) = 0) {x:Int} (hx:knownB (p :: r) x = false):p.1 ≤ x:=by
 obtain ⟨q,hq,h1,_⟩:=known_no.1 hx
 obtain ⟨b,_,t⟩:=holeE_tail h
 have:=badS_no.1 b
 rcases List.mem_cons.1 hq with rfl | hq
 ·exact h1
 ·have:=holeE_after t q hq
  omega
theorem holes_end {m:Nat} {prev:Int} {p:Int × Int} {r:List (Int × Int)} (h:holeE m prev (p :: r) = 0):knownB (p :: r) p.2 = true:=by
 cases hb:knownB (p :: r) p.2 with
 | true => rfl
 | false =>
  rw [known_tail (Int.le_refl _)] at hb
  obtain ⟨q,hq,h1,_⟩:=known_no.1 hb
  have:=holeE_after (holeE_tail h).2.2 q hq
  omega
theorem holes_uniq {m:Nat}:∀ {S T:List (Int × Int)} {prev:Int},-1 ≤ prev → holeE m prev S = 0 → holeE m prev T = 0 → (∀ x:Nat,prev < (x:Int) → knownB S x = knownB T x) → S = T
  | [],[],_,_,_,_,_ => rfl
  | [],q :: t,prev,h0,_,hT,h => by
    obtain ⟨b,a,_⟩:=holeE_tail hT
    have b':=badS_no.1 b
    obtain ⟨x,hx⟩:=Int.eq_ofNat_of_zero_le b'.1
    have h1:=h x (by omega)
    rw [show knownB (q :: t) (x:Int) = false from known_no.2 ⟨q,List.mem_cons_self ..,by omega,by omega⟩] at h1
    cases h1
  | p :: r,[],prev,h0,hS,_,h => by
    obtain ⟨b,a,_⟩:=holeE_tail hS
    have b':=badS_no.1 b
    obtain ⟨x,hx⟩:=Int.eq_ofNat_of_zero_le b'.1
    have h1:=h x (by omega)
    rw [show knownB (p :: r) (x:Int) = false from known_no.2 ⟨p,List.mem_cons_self ..,by omega,by omega⟩] at h1
    cases h1
  | p :: r,q :: t,prev,h0,hS,hT,h => by
    obtain ⟨b,a,tS⟩:=holeE_tail hS
    obtain ⟨c,d,tT⟩:=holeE_tail hT
    have b':=badS_no.1 b
    have c':=badS_no.1 c
    obtain ⟨p1,p2⟩:=p
    obtain ⟨q1,q2⟩:=q
    simp only at b' c' a d
    obtain ⟨x,rfl⟩:=Int.eq_ofNat_of_zero_le b'.1
    obtain ⟨y,rfl⟩:=Int.eq_ofNat_of_zero_le c'.1
    obtain ⟨u,rfl⟩:=Int.eq_ofNat_of_zero_le (show 0 ≤ p2 by omega)
    obtain ⟨v,rfl⟩:=Int.eq_ofNat_of_zero_le (show 0 ≤ q2 by omega)
    have e1:(y:Int) ≤ x:=holes_first hT (x:=(x:Int)) (by rw [← h x a];exact known_no.2 ⟨_,List.mem_cons_self ..,Int.le_refl _,b'.2.1⟩)
    have e2:(x:Int) ≤ y:=holes_first hS (x:=(y:Int)) (by rw [h y d];exact known_no.2 ⟨_,List.mem_cons_self ..,Int.le_refl _,c'.2.1⟩)
    obtain rfl:x = y:=by omega
    have f1:¬ (u:Int) < v:=fun hl => by
      have:=h u (by omega)
      rw [show knownB (((x:Int),(u:Int)) :: r) (u:Int) = true from holes_end hS,show knownB (((x:Int),(v:Int)) :: t) (u:Int) = false from known_no.2 ⟨_,List.mem_cons_self ..,by show (x:Int) ≤ u;omega,hl⟩] at this
      cases this
    have f2:¬ (v:Int) < u:=fun hl => by
      have:=h v (by omega)
      rw [show knownB (((x:Int),(v:Int)) :: t) (v:Int) = true from holes_end hT,show knownB (((x:Int),(u:Int)) :: r) (v:Int) = false from known_no.2 ⟨_,List.mem_cons_self ..,by show (x:Int) ≤ v;omega,hl⟩] at this
      cases this
    obtain rfl:u = v:=by omega
    congr 1
    refine holes_uniq (prev:=(u:Int)) (by omega) tS tT fun z hz => ?_
    have:=h z (by omega)
    rwa [known_tail (by show (u:Int) ≤ z;omega),known_tail (by show (u:Int) ≤ z;omega)] at this
theorem known_past {m:Nat} {S:List (Int × Int)} (hin:In m S) {x:Int} (hx:(m:Int) ≤ x):knownB S x = true:=by
 cases hb:knownB S x with
 | true => rfl
 | false =>
  obtain ⟨p,hp,h1,h2⟩:=known_no.1 hb
  have:=(hin p hp).2.2
  omega
theorem knownL_get {S:List (Int × Int)} {m i:Nat} (hi:i < m):(knownL S m)[i]? = some (knownB S i):=by
 unfold knownL
 rw [List.getElem?_map,List.getElem?_range hi];rfl
theorem holesOf_get {K:List Bool} {i:Nat} (hi:i < K.length):K[i]? = some (knownB (holesOf K) i):=by
 have:=knownL_get (S:=holesOf K) hi
 rwa [known_holes] at this
theorem holes_back {m:Nat} {S:List (Int × Int)} (h:holeE m (-1) S = 0):holesOf (knownL S m) = S:=by
 have hl:=knownL_len S m
 have h2:=holes_ok (knownL S m)
 rw [hl] at h2
 refine holes_uniq (Int.le_refl _) h2 h fun x _ => ?_
 by_cases hx:x < m
 ·have e1:=holesOf_get (K:=knownL S m) (i:=x) (by omega)
  rw [knownL_get hx] at e1
  exact (Option.some.inj e1).symm
 ·rw [known_past (holeE_in h2) (by omega),known_past (holeE_in h) (by omega)]
end Go.Tidy
namespace Go.Tidy
open Go Go.Proofs Tab
variable {tp:TProg}
theorem Val.hx {s:ByteArray} {n:Int} {v1 v2:Value} {F:List Nat} {S:List (Int × Int)} {es L:List Int} {p1 p2:Int} {h hm g g':TH} {c3 c5 c12 c14 c18 c28 c29 c30:Nat} {sx:ByteArray} {nx:Int} {x1 x2:Value} {sy:ByteArray} {ny:Int} {y1 y2:Value} {ec ma mb:Int} {n1:Nat} {w1 w2:Value}
  (M:Val s n v1 v2 F S es L p1 p2 h hm g c3 c5 c12 c14 c18 c28 c29 c30 sx nx x1 x2 sy ny y1 y2 ec ma mb n1 w1 w2) (x:HX g g'):Val s n v1 v2 F S es L p1 p2 h hm g' c3 c5 c12 c14 c18 c28 c29 c30 sx nx x1 x2 sy ny y1 y2 ec ma mb n1 w1 w2 :=
 { M with x1_:=M.x1_.trans x,b28:=M.b28.hx x,b29:=M.b29.hx x,ro:=M.ro.hx x,b30:=M.b30.hx x }
end Go.Tidy
namespace Go.Tidy
open Go Go.Proofs Tab
variable {tp:TProg}
theorem short_small {s:ByteArray} {m k:Nat} (h:shortB s m k = true):m ≤ 4097 ∧ k ≤ 12:=by
 simp only [shortB,Bool.and_eq_true,Bool.or_eq_true,decide_eq_true_eq,beq_iff_eq] at h
 omega
end Go.Tidy
namespace Go.Tidy
open Go Go.Proofs Tab
variable {tp:TProg}
theorem JoinR.out {h h':TH} {v:Value} {s:ByteArray} {n:Int} {Z:List Int} {Y:List Bool} {e:Int} (r:JoinR h h' v s n Z Y e):∃ sz nz bo1 l1 k1 bo2 l2 k2,v = .tuple #[runV sz nz (.slice bo1 l1 k1) (.slice bo2 l2 k2),.int .i64 e] ∧ HX h h' ∧ (e ≠ 0 → (Value.slice bo1 l1 k1 = .slice none 0 0 ∧ Value.slice bo2 l2 k2 = .slice none 0 0)) ∧ (e = 0 → (sz = s ∧ nz = n) ∧ RunO h.next h' (.slice bo1 l1 k1) (.slice bo2 l2 k2) (madeF Z Y) (holesOf Y)):=by
 obtain ⟨X,⟨he,rfl⟩ | ⟨rfl,w1,w2,rfl,O⟩⟩:=r
 ·exact ⟨_,_,_,_,_,_,_,_,rfl,X,fun _ => ⟨rfl,rfl⟩,fun h => absurd h he⟩
 ·obtain ⟨bo1,k1,rfl⟩:=O.r.f.form
  obtain ⟨bo2,k2,rfl⟩:=O.r.s.form
  exact ⟨_,_,_,_,_,_,_,_,rfl,X,fun h => absurd rfl h,fun _ => ⟨⟨rfl,rfl⟩,O⟩⟩
theorem SumR.out {h h':TH} {v:Value} {s:ByteArray} {n:Int} {Z:List Int} {Y:List Bool} {sh:Bool} (hY:sh = true → Y.length = Z.length) (r:SumR h h' v s n Z Y sh):JoinR h h' v s n Z Y (cond (!sh) 2 (cond (allOk (cellsK Z Y)) 0 4)):=by
 obtain ⟨X,⟨rfl,rfl⟩ | ⟨rfl,no,rfl⟩ | ⟨rfl,ok,w1,w2,rfl,O⟩⟩:=r
 ·exact ⟨X,.inl ⟨by simp,rfl⟩⟩
 ·have:allOk (cellsK Z Y) = false:=by
   cases hb:allOk (cellsK Z Y) with
   | false => rfl
   | true => exact absurd ((ok_cells (hY rfl)).1 hb) no
  rw [this]
  exact ⟨X,.inl ⟨by decide,rfl⟩⟩
 ·rw [(ok_cells (hY rfl)).2 ok]
  exact ⟨X,.inr ⟨rfl,w1,w2,rfl,O⟩⟩
end Go.Tidy
namespace Go.Tidy
open Go Go.Proofs Tab
variable {tp:TProg}
structure Cel (s:ByteArray) (n:Int) (F:List Nat) (es:List Int) (C:List (Int × Bool)):Prop where
 len:F.length = C.length
 e:SErr F es
 lev:Lev F (C.map fun c => c.1)
 r:runE s n F.length (holesOf (C.map fun c => c.2)) es (C.map fun c => c.1) = 0
 v:Valid s n F (holesOf (C.map fun c => c.2)) (C.map fun c => c.1)
 c:cellsL (C.map fun c => c.1) (holesOf (C.map fun c => c.2)) = C
def RunC (s:ByteArray) (n:Int) (h:TH) (v1 v2:Value) (C:List (Int × Bool)):Prop:=∃ F es,RunH h v1 v2 F (holesOf (C.map fun c => c.2)) ∧ Cel s n F es C
theorem RunC.hx {s:ByteArray} {n:Int} {h h':TH} {v1 v2:Value} {C:List (Int × Bool)} (r:RunC s n h v1 v2 C) (x:HX h h'):RunC s n h' v1 v2 C:=by
 obtain ⟨F,es,r,c⟩:=r
 exact ⟨F,es,r.hx x,c⟩
section
variable {s:ByteArray} {n:Int} {F:List Nat} {es L:List Int} {S:List (Int × Int)} {C:List (Int × Bool)}
theorem Cel.m (c:Cel s n F es C):C.length ≤ 4096:=by have:=c.v.m;rw [c.len] at this;exact this
theorem Cel.lim (c:Cel s n F es C):∀ x,x ∈ C → x.1.natAbs ≤ 16384:=by have:=c.v.lim;rwa [c.c] at this
theorem Cel.dk (c:Cel s n F es C):DarkC C:=by have:=c.v.darkC;rwa [c.c] at this
theorem Cel.holes (_:Cel s n F es C):(holesOf (C.map fun c => c.2)).length ≤ C.length:=by
 have:=holesN_len (C.map fun c => c.2) (C.map fun c => c.2).length
 show (holesN _ _).length ≤ _
 rwa [List.length_map] at this ⊢
theorem Cel.head (c:Cel s n F es C):headE s n C.length = 0:=by
 have:=c.r
 unfold runE at this
 rw [c.len] at this
 rcases nz_cases (headE s n C.length) with h | h
 ·exact h
 ·rw [h] at this;rw [show headE s n C.length = 0 from this] at h;cases h
theorem Cel.top (c:Cel s n F es C):n + C.length ≤ 100000000:=by have:=c.v.n1;rw [c.len] at this;exact this
theorem Valid.back (V:Valid s n F S L):((cellsL L S).map fun c => c.1) = L ∧ holesOf ((cellsL L S).map fun c => c.2) = S:=by
 have kl:=V.kl
 have ll:=V.lev.1
 constructor
 ·apply List.ext_getElem?
  intro i
  rw [List.getElem?_map]
  by_cases hi:i < F.length
  ·obtain ⟨k,hk⟩:=V.cell hi
   rw [hk,List.getElem?_eq_getElem (by omega:i < L.length)]
   simp [List.getD_eq_getElem?_getD,List.getElem?_eq_getElem (by omega:i < L.length)]
  ·rw [List.getElem?_eq_none (by rw [cells_len V.lev V.in_];omega),List.getElem?_eq_none (by omega)]
   rfl
 ·rw [V.cells,cellsK_snd kl,holes_back V.hole]
theorem Cel.of (V:Valid s n F S L) (hE:SErr F es) (h0:runE s n F.length S es L = 0):Cel s n F es (cellsL L S):=by
 obtain ⟨b1,b2⟩:=V.back
 refine ⟨(cells_len V.lev V.in_).symm,hE,by rw [b1];exact V.lev,by rw [b1,b2];exact h0,by rw [b1,b2];exact V,by rw [b1,b2]⟩
theorem Cel.made (hd:headE s n C.length = 0) (hn:n + C.length ≤ 100000000) (lim:∀ c,c ∈ C → c.1.natAbs ≤ 16384) (dk:DarkC C):∃ es,Cel s n (C.map fun c => smp c.1) es C:=by
 obtain ⟨es,e1,e2,e3,e4,e5⟩:=made_run hd hn lim dk
 exact ⟨es,by simp,e1,e2,e3,e4,e5⟩
theorem RunO.cel {B:Nat} {h:TH} {w1 w2:Value} (o:RunO B h w1 w2 (C.map fun c => smp c.1) (holesOf (C.map fun c => c.2))) (hd:headE s n C.length = 0) (hn:n + C.length ≤ 100000000) (lim:∀ c,c ∈ C → c.1.natAbs ≤ 16384) (dk:DarkC C):RunC s n h w1 w2 C:=by
 obtain ⟨es,c⟩:=Cel.made hd hn lim dk
 exact ⟨_,es,o.r,c⟩
end
section
variable {s:ByteArray} {n:Int} {h:TH} {v1 v2 w1 w2:Value} {C D:List (Int × Bool)}
def NewC (s:ByteArray) (n:Int) (C:List (Int × Bool)) (h:TH) (v:Value) (h':TH):Prop :=
 ∃ bo1 l1 k1 bo2 l2 k2,v = .tuple #[runV s n (.slice bo1 l1 k1) (.slice bo2 l2 k2),.int .i64 0] ∧ HX h h' ∧ RunC s n h' (.slice bo1 l1 k1) (.slice bo2 l2 k2) C ∧ Above h.next (.slice bo1 l1 k1) ∧ Above h.next (.slice bo2 l2 k2)
theorem RunR.new {h':TH} {v:Value} (r:RunR h h' v s n C 0) (hd:headE s n C.length = 0) (hn:n + C.length ≤ 100000000) (lim:∀ c,c ∈ C → c.1.natAbs ≤ 16384) (dk:DarkC C):NewC s n C h v h':=by
 obtain ⟨X,⟨he,_⟩ | ⟨_,w1,w2,rfl,O⟩⟩:=r
 ·exact absurd rfl he
 ·obtain ⟨bo1,k1,rfl⟩:=O.r.f.form
  obtain ⟨bo2,k2,rfl⟩:=O.r.s.form
  exact ⟨_,_,_,_,_,_,rfl,X,O.cel hd hn lim dk,O.o1,O.o2⟩
theorem c28 (H:Has tp) (X:HasX tp) (r:RunC s n h v1 v2 C) (f:Free0 h.next h):CallW Tryz.prog tp (.func (.func 30) #[] #[]) #[runV s n v1 v2] h fun v h' => NewC s n C.reverse h v h':=by
 obtain ⟨F,es,r,c⟩:=r
 have m:=c.m
 have l:=c.len
 have q:=c.holes
 refine (k28 H X r c.e (fun _ => c.lev) (by omega) (by omega) f).mono ?_
 intro v h' R
 rw [c.r,c.c] at R
 exact R.new (by rw [List.length_reverse];exact c.head) (by rw [List.length_reverse];exact c.top) (fun x hx => c.lim x (List.mem_reverse.1 hx)) (fun x hx => c.dk x (List.mem_reverse.1 hx))
theorem c29 (H:Has tp) (X:HasX tp) (r:RunC s n h v1 v2 C) (f:Free0 h.next h):CallW Tryz.prog tp (.func (.func 31) #[] #[]) #[runV s n v1 v2] h fun v h' => v = .tuple #[.int .i64 (sqL (knownV C)),.int .i64 0] ∧ HX h h':=by
 obtain ⟨F,es,r,c⟩:=r
 have m:=c.m
 have l:=c.len
 have q:=c.holes
 refine (k29 H X r c.e (fun _ => c.lev) (by omega) (by omega) f).mono ?_
 rintro v h' ⟨rfl,x⟩
 rw [c.r,c.c]
 exact ⟨rfl,x⟩
def meanT (sum:Int) (k:Nat):Value:=cond (k == 0) (.tuple #[ratio0,.int .i64 7]) (.tuple #[meanR sum k,.int .i64 0])
theorem c30 (H:Has tp) (X:HasX tp) (r:RunC s n h v1 v2 C) (f:Free0 h.next h):CallW Tryz.prog tp (.func (.func 32) #[] #[]) #[runV s n v1 v2] h fun v h' => v = meanT (sumL (knownV C)) (knownV C).length ∧ HX h h':=by
 obtain ⟨F,es,r,c⟩:=r
 have m:=c.m
 have l:=c.len
 have q:=c.holes
 refine (k30 H X r c.e (fun _ => c.lev) (by omega) (by omega) f).mono ?_
 rintro v h' ⟨rfl,x⟩
 rw [c.r,c.c]
 exact ⟨rfl,x⟩
end
end Go.Tidy
namespace Go.Tidy
open Go Go.Proofs Tab
variable {tp:TProg}
theorem lev_some (F:List Nat):∃ es L,SErr F es ∧ (firstNZ es = 0 → Lev F L):=by
 obtain ⟨es,hE⟩:=serr_ex F
 by_cases h0:firstNZ es = 0
 ·obtain ⟨L,hL⟩:=lev_ex F es hE (firstNZ_zero h0)
  exact ⟨es,L,hE,fun _ => hL⟩
 ·exact ⟨es,[],hE,fun h => absurd h h0⟩
attribute [local irreducible] Ty valOf
end Go.Tidy
namespace Go.Tidy
open Go Go.Proofs Tab
variable {tp:TProg}
section
variable {P:Program} {h:TH} {K:Regs → TH → Prop} {rest:List TOper} {d:Option Tmp} {ty:TypeId} {i:Nat} {x y:Operand} {t u:TypeId} {L:Rg}
theorem WOL.fne {b c:Nat} {m n:Int} (s:Samp b m) (s':Samp c n) (hx:getL L x = some (.float .f32 b)) (hy:getL L y = some (.float .f32 c)) (w:∀ a,Kn (putL L d (.bool (!decide (m = n)))) a → WO P tp rest a h K):∀ a,Kn L a → WO P tp (⟨d,.binOp .neq t x y u,ty,none,[],i⟩ :: rest) a h K:=fun a k => WO.fcmp (k.o hx) (k.o hy) s.nan s'.nan (s.cmp s').2 (w _ (k.put d _))
end
section
variable {s:ByteArray} {n:Int} {g:TH} {v1 v2 p1 p2:Value} {C:List (Int × Bool)} {c2 c3 c5':Nat}
end
end Go.Tidy
namespace Go.Tidy
open Go Go.Proofs Tab
variable {tp:TProg}
section
variable {s:ByteArray} {n:Int} {g:TH} {v1 v2 p1 p2:Value} {C:List (Int × Bool)} {c2 c3 c5':Nat}
theorem RunC.relock (r:RunC s n g v1 v2 C) (M:List Nat):RunC s n (g.withLock M) v1 v2 C:=by
 obtain ⟨F,es,r,c⟩:=r
 exact ⟨F,es,r.relock' M,c⟩
theorem RunC.hx' {h':TH} (r:RunC s n g v1 v2 C) (x:HX g h') (M:List Nat):RunC s n (h'.withLock M) v1 v2 C:=(r.hx x).relock M
end
attribute [local irreducible] Ty valOf
end Go.Tidy
namespace Go.Tidy
open Go Go.Proofs Tab
variable {tp:TProg}
theorem RunC.away {s:ByteArray} {n:Int} {h h':TH} {v1 v2:Value} {C:List (Int × Bool)} {n0 c:Nat} {x:TB} (r:RunC s n h v1 v2 C) (a1:Above n0 v1) (a2:Above n0 v2) (p:Put h h' c x) (hc:c < n0):RunC s n h' v1 v2 C:=by
 obtain ⟨F,es,r,q⟩:=r
 exact ⟨F,es,(RunO.away (n0:=n0) ⟨r,a1,a2⟩ p hc).r,q⟩
theorem u5:Tryz.prog.underlying 5 = some (.int .u8):=by kernel_rfl
theorem tp5:Tp Tryz.prog 5 1 [.int .u8 0] false:=tp_of (by kernel_rfl) (by kernel_rfl) rfl
theorem WOL.convU {P:Program} {tp:TProg} {h:TH} {K:Regs → TH → Prop} {rest:List TOper} {d:Option Tmp} {ty:TypeId} {i:Nat} {x:Operand} {L:Rg} {s t:TypeId} {ds:TypeDesc} {k:IntKind} {n:Int} (hs:P.underlying s = some ds) (ht:P.underlying t = some (.int .i64)) (hx:getL L x = some (.int k n)) (h1:0 ≤ n) (h2:n ≤ 255) (w:∀ a,Kn (putL L d (.int .i64 n)) a → WO P tp rest a h K):∀ a,Kn L a → WO P tp (⟨d,.convert s t x,ty,none,[],i⟩ :: rest) a h K:=fun a q => by
 refine WO.conv (q.o hx) rfl (conv_i2i hs ht) rfl ?_
 rw [show IntKind.i64.wrap n = n from IntWalk.i64_in _ (by omega)]
 exact w _ (q.put d _)
section
variable {s:ByteArray} {n:Int} {g:TH} {v1 v2:Value} {C:List (Int × Bool)} {c2 c3:Nat}
end
end Go.Tidy
namespace Go.Tidy
open Go Go.Proofs Tab
variable {tp:TProg}
theorem Samp.order {b c:Nat} {n m:Int} (s:Samp b n) (t:Samp c m):Ieee.single.order b c = some (compare n m):=by
 obtain ⟨neg,q,h1,h2,h3⟩:=s.ok
 obtain ⟨neg',q',g1,g2,g3⟩:=t.ok
 obtain ⟨D,hD⟩:∃ D:Nat,2 ^ 149 = D:=⟨_,rfl⟩
 have hDp:0 < D:=by rw [← hD];exact two_pow_pos 149
 have e1:=h2 D hD
 have e2:=g2 D hD
 have a1:sg neg q * (16:Nat) = n * (D:Nat):=by rw [← sg_mul,e1,sg_mul,h3]
 have a2:sg neg' q' * (16:Nat) = m * (D:Nat):=by rw [← sg_mul,e2,sg_mul,g3]
 rw [h1.order g1]
 generalize sg neg q = x at *
 generalize sg neg' q' = y at *
 have hDi:(0:Int) < (D:Int):=by omega
 have hlt:x < y ↔ n < m:=by
  constructor
  ·intro hq
   have:n * (D:Int) < m * (D:Int):=by rw [← a1,← a2];omega
   exact Int.lt_of_mul_lt_mul_right this (by omega)
  ·intro hq
   have:n * (D:Int) < m * (D:Int):=Int.mul_lt_mul_of_pos_right hq hDi
   rw [← a1,← a2] at this
   omega
 have heq:x = y ↔ n = m:=by
  constructor
  ·intro hq
   rw [hq,a2] at a1
   exact (Int.eq_of_mul_eq_mul_right (by omega) a1).symm
  ·intro hq
   rw [hq,← a2] at a1
   omega
 congr 1
 show compareOfLessAndEq _ _ = compareOfLessAndEq _ _
 unfold compareOfLessAndEq
 simp only [hlt,heq]
section
variable {P:Program} {h:TH} {K:Regs → TH → Prop} {rest:List TOper} {d:Option Tmp} {ty:TypeId} {i:Nat} {x y:Operand} {t u:TypeId} {L:Rg}
end
end Go.Tidy
namespace Go.Tidy
open Go Go.Proofs Tab
variable {tp:TProg}
theorem WOL.si {P:Program} {tp:TProg} {h:TH} {K:Regs → TH → Prop} {rest:List TOper} {d:Option Tmp} {ty:TypeId} {i:Nat} {x y:Operand} {t:TypeId} {L:Rg} {s:ByteArray} {k:IntKind} {j:Nat} (hx:getL L x = some (.string s)) (hy:getL L y = some (.int k (j:Nat))) (hu:P.underlying t = some .string) (hj:j < s.size) (w:∀ a,Kn (putL L d (.int .u8 (s[j].toNat:Nat))) a → WO P tp rest a h K):∀ a,Kn L a → WO P tp (⟨d,.index t x y,ty,none,[],i⟩ :: rest) a h K:=fun a q => WO.si (q.o hx) (q.o hy) hu hj (w _ (q.put d _))
theorem WOL.cv {P:Program} {tp:TProg} {h:TH} {K:Regs → TH → Prop} {rest:List TOper} {d:Option Tmp} {ty:TypeId} {i:Nat} {x:Operand} {L:Rg} {s t:TypeId} {ds:TypeDesc} {k k':IntKind} {n:Int} (hs:P.underlying s = some ds) (ht:P.underlying t = some (.int k')) (hx:getL L x = some (.int k n)) (hw:k'.wrap n = n) (w:∀ a,Kn (putL L d (.int k' n)) a → WO P tp rest a h K):∀ a,Kn L a → WO P tp (⟨d,.convert s t x,ty,none,[],i⟩ :: rest) a h K:=fun a q => by
 refine WO.conv (q.o hx) rfl (conv_i2i hs ht) rfl ?_
 rw [hw]
 exact w _ (q.put d _)
theorem u222:Tryz.prog.underlying 287 = some (.int .u64):=by kernel_rfl
end Go.Tidy
namespace Go.Tidy
open Go Go.Proofs Tab
variable {tp:TProg}
section
variable {P:Program} {h:TH} {K:Regs → TH → Prop} {rest:List TOper} {d:Option Tmp} {ty:TypeId} {i:Nat} {x y:Operand} {t u:TypeId} {L:Rg}
theorem pv_shl {n:Int} {s:Nat} {yk:IntKind} {t:TypeId} (hs:s ≤ 64) (h1:-9223372036854775808 ≤ n * 2 ^ s) (h2:n * 2 ^ s ≤ 9223372036854775807):pv P (binOp .shl t (.int .i64 n) (.int yk (s:Nat))) = some (.int .i64 (n * 2 ^ s)):=by
 show pv P (Op.shift .shl .i64 n yk s) = _
 unfold Op.shift
 rw [if_neg (by omega)]
 show some (Value.int .i64 (IntKind.i64.wrap (n * 2 ^ (min (s:Int).toNat IntKind.i64.bits)))) = _
 have e:min (s:Int).toNat IntKind.i64.bits = s:=by
  have:IntKind.i64.bits = 64:=rfl
  rw [this];omega
 rw [e,IntWalk.i64_in _ (by omega)]
theorem pv_shr {n:Int} {s:Nat} {yk:IntKind} {t:TypeId} (hs:s ≤ 64) (h0:0 ≤ n):pv P (binOp .shr t (.int .i64 n) (.int yk (s:Nat))) = some (.int .i64 (n / 2 ^ s)):=by
 show pv P (Op.shift .shr .i64 n yk s) = _
 unfold Op.shift
 rw [if_neg (by omega)]
 show some (Value.int .i64 (n.fdiv (2 ^ (min (s:Int).toNat IntKind.i64.bits)))) = _
 have e:min (s:Int).toNat IntKind.i64.bits = s:=by
  have:IntKind.i64.bits = 64:=rfl
  rw [this];omega
 rw [e,Int.fdiv_eq_ediv_of_nonneg _ (Int.le_of_lt (Int.pow_pos (by decide)))]
theorem pv_or {a b:Nat} {t:TypeId} (ha:256 * a + b < 2 ^ 62) (hb:b < 256):pv P (binOp .or t (.int .i64 ((256 * a:Nat):Int)) (.int .i64 (b:Nat))) = some (.int .i64 ((256 * a + b:Nat):Int)):=by
 have e:(BitVec.ofInt 64 ((256 * a:Nat):Int) ||| BitVec.ofInt 64 (b:Int)).toNat = 256 * a + b:=by
  have e1:BitVec.ofInt 64 ((256 * a:Nat):Int) = BitVec.ofNat 64 (256 * a):=BitVec.ofInt_natCast ..
  have e2:BitVec.ofInt 64 (b:Int) = BitVec.ofNat 64 b:=BitVec.ofInt_natCast ..
  rw [e1,e2,BitVec.toNat_or,BitVec.toNat_ofNat,BitVec.toNat_ofNat,Nat.mod_eq_of_lt (by omega),Nat.mod_eq_of_lt (by omega)]
  have:=Nat.shiftLeft_add_eq_or_of_lt (b:=b) (i:=8) (by omega) a
  rw [Nat.shiftLeft_eq] at this
  rw [show 256 * a = a * 2 ^ 8 by omega,← this]
 show pv P (pure (Value.int .i64 (IntKind.i64.wrap ((BitVec.ofInt 64 ((256 * a:Nat):Int) ||| BitVec.ofInt 64 (b:Int)).toNat:Nat)))) = _
 rw [e,IntWalk.i64_in _ (by omega)]
 rfl
theorem WOL.pbin {op:BinOp} {vx vy v:Value} (hx:getL L x = some vx) (hy:getL L y = some vy) (px:plain vx = true) (py:plain vy = true) (hf:fastBin op vx vy = none) (hq:op ≠ .eql ∧ op ≠ .neq) (hv:pv P (binOp op t vx vy) = some v) (hp:plain v = true) (w:∀ a,Kn (putL L d v) a → WO P tp rest a h K):∀ a,Kn L a → WO P tp (⟨d,.binOp op t x y u,ty,none,[],i⟩ :: rest) a h K:=fun a k => by
 have ex:=getO_eval (k.o hx)
 have ey:=getO_eval (k.o hy)
 refine WO.plainly rfl rfl rfl (by simp only [fastOp,ex,ey];exact hf) (by cases op <;> first | rfl | exact absurd rfl hq.1 | exact absurd rfl hq.2) (plainOp_of (by rfl) (fun q hq => ?_) ?_ hp) (w _ (k.put d _))
 ·simp only [Op.operands] at hq
  simp at hq
  rcases hq with rfl | rfl
  ·rw [ex];exact px
  ·rw [ey];exact py
 ·have e:eqGuard op t x y vx vy = (pure ():Sem Unit):=by
   unfold eqGuard
   cases op <;> first | rfl | exact absurd rfl hq.1 | exact absurd rfl hq.2
  simp [toOper,execOp,pv_bind,pv_map,pv_pure,ex,ey,e,hv]
theorem WOL.shl {n:Int} {s:Nat} {yk:IntKind} (hx:getL L x = some (zi n)) (hy:getL L y = some (.int yk (s:Nat))) (hs:s ≤ 64) (h1:-9223372036854775808 ≤ n * 2 ^ s) (h2:n * 2 ^ s ≤ 9223372036854775807) (w:∀ a,Kn (putL L d (zi (n * 2 ^ s))) a → WO P tp rest a h K):∀ a,Kn L a → WO P tp (⟨d,.binOp .shl t x y u,ty,none,[],i⟩ :: rest) a h K :=
 WOL.pbin hx hy rfl rfl (by show cond _ (fastInt .shl _ _ _) none = none;cases Nat.beq _ _ <;> rfl) ⟨by decide,by decide⟩ (pv_shl hs h1 h2) rfl w
theorem WOL.shr {n:Int} {s:Nat} {yk:IntKind} (hx:getL L x = some (zi n)) (hy:getL L y = some (.int yk (s:Nat))) (hs:s ≤ 64) (h0:0 ≤ n) (w:∀ a,Kn (putL L d (zi (n / 2 ^ s))) a → WO P tp rest a h K):∀ a,Kn L a → WO P tp (⟨d,.binOp .shr t x y u,ty,none,[],i⟩ :: rest) a h K :=
 WOL.pbin hx hy rfl rfl (by show cond _ (fastInt .shr _ _ _) none = none;cases Nat.beq _ _ <;> rfl) ⟨by decide,by decide⟩ (pv_shr hs h0) rfl w
theorem WOL.or8 {a b:Nat} (hx:getL L x = some (zi ((256 * a:Nat):Int))) (hy:getL L y = some (zi (b:Nat))) (ha:256 * a + b < 2 ^ 62) (hb:b < 256) (w:∀ r,Kn (putL L d (zi ((256 * a + b:Nat):Int))) r → WO P tp rest r h K):∀ r,Kn L r → WO P tp (⟨d,.binOp .or t x y u,ty,none,[],i⟩ :: rest) r h K :=
 WOL.pbin hx hy rfl rfl rfl ⟨by decide,by decide⟩ (pv_or ha hb) rfl w
end
theorem u8_wrap (n:Int):IntKind.u8.wrap n = n % 256:=rfl
theorem u32_wrap (n:Int):IntKind.u32.wrap n = n % 4294967296:=rfl
theorem u116:Tryz.prog.underlying 106 = some (.slice 5):=by kernel_rfl
theorem tp116:Tp Tryz.prog 106 1 [.slice none 0 0] false:=tp_of (by kernel_rfl) (by kernel_rfl) rfl
def encY (b:Nat):List Value:=[.int .u8 (b:Nat)]
theorem eY:Enc encY 1:=⟨fun _ => rfl,fun _ => rfl⟩
section
variable {h:TH} {v:Value} {l:List Nat} {c:Nat}
theorem elemY (s:SlL encY 1 h v l) {j:Nat} (hj:j < l.length):∃ p,indexAddrT Tryz.prog 106 v (zi (j:Nat)) = some p ∧ loadT Tryz.prog 5 p h = some (.int .u8 (l.getD j 0:Nat)):=by
 have hj':l[j]? = some (l.getD j 0):=by rw [List.getD_eq_getElem?_getD,List.getElem?_eq_getElem hj];rfl
 obtain ⟨b',o',cc,fix,wr,el,g1,g2,g3,g4,g5⟩:=s.at eY u116 tp5 hj' .i64
 exact ⟨_,g1,load_one tp5 g2 (g5 0 (by decide))⟩
theorem k160 (H:Has tp) {bo:Option Addr} {n k:Nat} (h:TH):CallW Tryz.prog tp (.func (.func 184) #[] #[]) #[.slice bo n k] h fun w h' => ∃ c,w = .func (.func 213) #[] #[ptr c] ∧ HX h h' ∧ At h' c (.cells [.slice bo n k] true true 106) ∧ h.next ≤ c:=by
 refine CallW.fnL (H.fn 184 f160 rfl rfl) ?_
 refine WL.sr <| WOL.box rfl fun h1 N1 => WOL.as rfl <| WOL.nil <| keep [(1,_)] ⟨rfl,trivial⟩ ?_
 refine WL.sr <| WOL.mf rfl <| WOL.as rfl <| WOL.nil ?_
 exact WL.done rfl ⟨_,rfl,N1.hx,N1.at_,Nat.le_refl _⟩
set_option maxRecDepth 10000 in
theorem y175 (H:Has tp) {bo:Option Addr} {n k:Nat} (hl:l.length ≤ 1000000):Yields Tryz.prog tp (.func (.func 213) #[] #[ptr c]) (fun g => At g c (.cells [.slice bo n k] true true 106) ∧ SlL encY 1 g (.slice bo n k) l) l.length fun j => .int .u8 (l.getD j 0:Nat):=by
 intro h' yv I I0 hI step
 refine CallW.fnC (H.fn 213 f175 rfl rfl) ?_
 refine WL.sr ?_
 obtain ⟨A0,s0⟩:=hI 0 h' I0
 refine WOL.ld rfl (load_one tp116 A0 rfl) <| WOL.len rfl s0 u116 <| WOL.mv rfl <| WOL.nil <| keep [(0,_),(5,_),(6,_),(7,_)] ⟨rfl,rfl,rfl,rfl,trivial⟩ ?_
 refine WL.block ?_
 refine WL.loop (fun q a g => ∃ j:Nat,j ≤ l.length ∧ q = l.length - j ∧ I j g ∧ Kn [(0,yv),(5,.slice bo n k),(6,zi (l.length:Nat)),(7,zi (j:Nat))] a) l.length (fun a q => ⟨0,by omega,by omega,I0,q.sub ⟨rfl,rfl,rfl,rfl,trivial⟩⟩) ?_
 rintro q a g ⟨j,hj,rfl,q1,q⟩
 refine q.go ?_
 refine WL.sr <| WOL.bi (v:=.bool (decide ((j:Int) < (l.length:Int)))) rfl rfl rfl <| WOL.nil <| keep [(0,_),(5,_),(6,_),(7,_),(8,_)] ⟨rfl,rfl,rfl,rfl,rfl,trivial⟩ ?_
 refine WL.seq ?_
 by_cases hlt:j < l.length
 ·rw [show decide ((j:Int) < (l.length:Int)) = true from decide_eq_true (by omega)]
  obtain ⟨p,ip,lp⟩:=elemY (hI j g q1).2 hlt
  refine WL.yes rfl <| WL.skip ?_
  refine WL.seq <| WL.block ?_
  refine WL.sr <| WOL.ix rfl rfl ip <| WOL.ld rfl lp <| WOL.as rfl <| WOL.nil <| keep [(0,_),(4,_),(5,_),(6,_),(7,_)] ⟨rfl,rfl,rfl,rfl,rfl,trivial⟩ ?_
  refine WL.sr <| WOL.mv rfl <| WOL.mv rfl ?_
  refine WOL.cl1 rfl rfl ((step j g hlt q1).mono ?_)
  rintro v g2 ⟨rfl,q2⟩
  refine WOL.nt rfl <| WOL.nil <| WL.no rfl <| WL.skip ?_
  refine WL.reg ?_
  refine WOL.bi (v:=zi ((j + 1:Nat):Int)) rfl rfl (by show some (Value.int .i64 (fwrap .i64 ((j:Int) + 1))) = _;rw [fwrap_i64 (by omega) (by omega)];rfl) ?_
  refine WOL.mv rfl <| WOL.nil ?_
  exact fun a q => ⟨l.length - (j + 1),by omega,j + 1,by omega,rfl,q2,q.sub ⟨rfl,rfl,rfl,rfl,trivial⟩⟩
 ·rw [show decide ((j:Int) < (l.length:Int)) = false from decide_eq_false (by omega)]
  obtain rfl:j = l.length:=by omega
  refine WL.no rfl <| WL.exit ?_
  exact WL.endn rfl q1
end
def totStep (x:Int) (b:Nat):Int:=(271 * x + (b:Int)) % 16777213
def tot (l:List Nat):Int:=l.foldl totStep 1
theorem tot_step {l:List Nat} {j:Nat} (h:j < l.length):tot (l.take (j + 1)) = totStep (tot (l.take j)) (l.getD j 0):=by
 unfold tot
 rw [List.take_succ_eq_append_getElem h,List.foldl_append,List.getD_eq_getElem?_getD,List.getElem?_eq_getElem h]
 rfl
theorem tot_in (l:List Nat) (j:Nat):0 ≤ tot (l.take j) ∧ tot (l.take j) < 16777213:=by
 have:∀ (m:List Nat) (x:Int),0 ≤ x ∧ x < 16777213 → 0 ≤ m.foldl totStep x ∧ m.foldl totStep x < 16777213:=by
  intro m
  induction m with
  | nil => intro x hx;exact hx
  | cons b m ih =>
   intro x hx
   exact ih _ ⟨Int.emod_nonneg _ (by decide),Int.emod_lt_of_pos _ (by decide)⟩
 exact this _ 1 (by decide)
def Byt (l:List Nat):Prop:=∀ b,b ∈ l → b < 256
theorem Byt.at {l:List Nat} (h:Byt l) (j:Nat):l.getD j 0 < 256:=by
 rw [List.getD_eq_getElem?_getD]
 cases hj:l[j]? with
 | none => show (0:Nat) < 256;decide
 | some b => exact h b (List.mem_of_getElem? hj)
section
variable {h:TH} {l:List Nat} {bo:Option Addr} {n k:Nat}
set_option maxRecDepth 10000 in
theorem k129 (H:Has tp) (s:SlL encY 1 h (.slice bo n k) l) (hb:Byt l) (hl:l.length ≤ 1000000) (f:Free0 h.next h):CallW Tryz.prog tp (.func (.func 131) #[] #[]) #[.slice bo n k] h fun v h' => v = zi (tot l) ∧ HX h h':=by
 refine CallW.fnL (H.fn 131 f129 rfl rfl) ?_
 refine WL.sr <| WOL.as rfl <| WOL.nil <| keep [(0,_)] ⟨rfl,trivial⟩ ?_
 refine WL.sr <| WOL.al tp3 fun h1 N1 => ?_
 refine WOL.sto rfl rfl tp3 N1.at_ rfl rfl (Nat.le_of_ble_eq_true rfl) rfl (f.hx N1.hx) (Nat.le_refl _) fun h2 P2 => ?_
 have X2:=P2.hx _ N1.hx (Nat.le_refl _)
 have A3:At h2 h.next (.cells [zi (tot (l.take 0))] true true 3):=P2.at_
 refine WOL.nil <| keep [(0,_),(3,_)] ⟨rfl,rfl,trivial⟩ ?_
 refine WL.seq <| WL.sr <| WOL.mv rfl ?_
 refine WOL.cl1 rfl rfl ((k160 H h2).mono ?_)
 rintro v h3 ⟨c,rfl,X3,A4,hc⟩
 have a3:=A3.lt
 refine WOL.nil <| keep [(3,_),(6,_)] ⟨rfl,rfl,trivial⟩ ?_
 refine WL.block ?_
 have Y3:=X2.trans X3
 have f3:=f.on Y3
 have hc3:h.next < h3.next:=by have:=(A3.hx X3).lt;omega
 refine WL.range rfl (H.fn 213 f175 rfl rfl) (y175 H hl) (fun j g => HX h g ∧ At g h.next (.cells [zi (tot (l.take j))] true true 3) ∧ At g c (.cells [.slice bo n k] true true 106)) (fun j g q => ⟨q.2.2,s.hx q.1⟩) (fun j g q => (f.hx q.1).up (by omega)) ?_ ?_ ?_ ?_
 ·rintro j g g' x ⟨q1,q2,q3⟩ P
  exact ⟨P.hx _ q1 (by omega),P.oth _ _ (by omega) q2,P.oth _ _ (by have:=A4.lt;omega) q3⟩
 ·rintro g x N
  exact ⟨Y3.trans N.hx,(A3.hx X3).hx N.hx,A4.hx N.hx⟩
 ·rintro j g x hj q A
  refine WL.reg <| WOL.as rfl <| WOL.nil ?_
  intro r hr
  refine ⟨rfl,rfl,fun g2 x2 ⟨q1,q2,q3⟩ A2 => ?_⟩
  refine hr.go ?_
  have bt:=hb.at j
  have ti:=tot_in l j
  refine WL.block <| WL.reg ?_
  refine WOL.ld rfl (load_one tp3 q2 rfl) ?_
  refine WOL.bi (v:=zi (271 * tot (l.take j))) rfl rfl (by show some (Value.int .i64 (fwrap .i64 (271 * tot (l.take j)))) = _;rw [fwrap_i64 (by omega) (by omega)]) ?_
  refine WOL.mv rfl <| WOL.convU u5 u3 rfl (by omega) (by omega) ?_
  refine WOL.add rfl rfl (by omega) (by omega) <| WOL.rem rfl rfl (by omega) (by decide) ?_
  refine WOL.sto rfl rfl tp3 q2 rfl rfl (Nat.le_of_ble_eq_true rfl) rfl (f.hx q1) (Nat.le_refl _) fun g3 P3 => ?_
  refine WOL.nil fun r hr => ?_
  have B3:At g3 h.next (.cells [zi (totStep (tot (l.take j)) (l.getD j 0))] true true 3):=P3.at_
  rw [← tot_step hj] at B3
  exact ⟨rfl,⟨P3.hx _ q1 (Nat.le_refl _),B3,P3.oth _ _ (by omega) q3⟩,P3.oth _ _ (by omega) A2⟩
 ·rintro g ⟨q1,q2,q3⟩
  rw [List.take_length] at q2
  refine WL.sr <| WOL.ld rfl (load_one tp3 q2 rfl) <| WOL.as rfl <| WOL.nil ?_
  exact WL.done rfl ⟨rfl,q1⟩
end
end Go.Tidy
namespace Go.Tidy
open Go Go.Proofs Tab
variable {tp:TProg}
section
variable {h:TH} {l:List Nat} {v:Value} {bo:Option Addr} {n k:Nat}
set_option maxRecDepth 10000 in
theorem k70 (H:Has tp) (s:SlL encY 1 h v l) (hb:Byt l) (hl:l.length ≤ 1000000):CallW Tryz.prog tp (.func (.func 86) #[] #[]) #[v] h fun w h' => w = zi (tot l) ∧ h' = h:=by
 refine CallW.fnL (H.fn 86 f70 rfl rfl) ?_
 refine WL.sr <| WOL.as rfl <| WOL.nil <| keep [(0,_)] ⟨rfl,trivial⟩ ?_
 refine WL.sr <| WOL.as rfl <| WOL.nil <| keep [(0,_),(3,_)] ⟨rfl,rfl,trivial⟩ ?_
 refine WL.seq <| WL.sr <| WOL.as rfl <| WOL.nil <| keep [(0,_),(3,_),(4,_)] ⟨rfl,rfl,rfl,trivial⟩ ?_
 refine WL.block ?_
 refine WL.loop (fun q a g => ∃ j:Nat,j ≤ l.length ∧ q = l.length - j ∧ g = h ∧ Kn [(0,v),(3,zi (tot (l.take j))),(4,zi (j:Nat))] a) l.length (fun a q => ⟨0,by omega,by omega,rfl,q.sub ⟨rfl,rfl,rfl,trivial⟩⟩) ?_
 rintro q a h ⟨j,hj,rfl,rfl,q⟩
 refine q.go ?_
 refine WL.seq <| WL.sr <| WOL.mv rfl <| WOL.mv rfl ?_
 refine WOL.len rfl s u116 ?_
 refine WOL.bi (v:=.bool (decide ((j:Int) < (l.length:Int)))) rfl rfl rfl <| WOL.nil <| keep [(0,_),(3,_),(4,_),(8,_)] ⟨rfl,rfl,rfl,rfl,trivial⟩ ?_
 by_cases hlt:j < l.length
 ·rw [show decide ((j:Int) < (l.length:Int)) = true from decide_eq_true (by omega)]
  obtain ⟨p,ip,lp⟩:=elemY s hlt
  have bt:=hb.at j
  have ti:=tot_in l j
  refine WL.yes rfl <| WL.skip ?_
  refine WL.seq <| WL.block <| WL.reg ?_
  refine WOL.mv rfl ?_
  refine WOL.bi (v:=zi (271 * tot (l.take j))) rfl rfl (by show some (Value.int .i64 (fwrap .i64 (271 * tot (l.take j)))) = _;rw [fwrap_i64 (by omega) (by omega)]) ?_
  refine WOL.mv rfl <| WOL.mv rfl <| WOL.ix rfl rfl ip <| WOL.ld rfl lp <| WOL.convU u5 u3 rfl (by omega) (by omega) ?_
  refine WOL.add rfl rfl (by omega) (by omega) <| WOL.rem rfl rfl (by omega) (by decide) ?_
  refine WOL.as rfl <| WOL.nil <| keep [(0,_),(3,_),(4,_)] ⟨rfl,rfl,rfl,trivial⟩ ?_
  have e:(271 * tot (l.take j) + (l.getD j 0:Nat)) % 16777213 = tot (l.take (j + 1)):=(tot_step hlt).symm
  rw [e]
  refine WL.reg ?_
  refine WOL.mv rfl <| WOL.bi (v:=zi ((j + 1:Nat):Int)) rfl rfl (by show some (Value.int .i64 (fwrap .i64 ((j:Int) + 1))) = _;rw [fwrap_i64 (by omega) (by omega)];rfl) ?_
  refine WOL.as rfl <| WOL.nil ?_
  exact fun a q => ⟨l.length - (j + 1),by omega,j + 1,by omega,rfl,rfl,q.sub ⟨rfl,rfl,rfl,trivial⟩⟩
 ·rw [show decide ((j:Int) < (l.length:Int)) = false from decide_eq_false (by omega)]
  obtain rfl:j = l.length:=by omega
  refine WL.no rfl <| WL.exit ?_
  refine WL.sr <| WOL.mv rfl <| WOL.as rfl <| WOL.nil ?_
  rw [List.take_length]
  exact WL.done rfl ⟨rfl,rfl⟩
end
def numB (l:List Nat):Nat:=l.foldl (fun n b => 256 * n + b) 0
theorem numB_step {l:List Nat} {j:Nat} (h:j < l.length):numB (l.take (j + 1)) = 256 * numB (l.take j) + l.getD j 0:=by
 unfold numB
 rw [List.take_succ_eq_append_getElem h,List.foldl_append,List.getD_eq_getElem?_getD,List.getElem?_eq_getElem h]
 rfl
theorem numB_lt {l:List Nat} (hb:Byt l):∀ j,j ≤ l.length → numB (l.take j) < 256 ^ j
 | 0,_ => Nat.one_pos
 | j + 1,h => by
  have:=numB_lt hb j (by omega)
  have b:=hb.at j
  rw [numB_step (by omega),Nat.pow_succ]
  omega
section
variable {h:TH} {l:List Nat} {bo:Option Addr} {n k:Nat}
set_option maxRecDepth 10000 in
theorem k170 (H:Has tp) (s:SlL encY 1 h (.slice bo n k) l) (hb:Byt l) (hl:l.length ≤ 4) (f:Free0 h.next h):CallW Tryz.prog tp (.func (.func 129) #[] #[]) #[.slice bo n k] h fun v h' => v = zi (numB l:Nat) ∧ HX h h':=by
 refine CallW.fnL (H.fn 129 f170 rfl rfl) ?_
 refine WL.sr <| WOL.as rfl <| WOL.nil <| keep [(0,_)] ⟨rfl,trivial⟩ ?_
 refine WL.sr <| WOL.al tp3 fun h1 N1 => ?_
 refine WOL.sto rfl rfl tp3 N1.at_ rfl rfl (Nat.le_of_ble_eq_true rfl) rfl (f.hx N1.hx) (Nat.le_refl _) fun h2 P2 => ?_
 have X2:=P2.hx _ N1.hx (Nat.le_refl _)
 have A3:At h2 h.next (.cells [zi (numB (l.take 0):Nat)] true true 3):=P2.at_
 refine WOL.nil <| keep [(0,_),(3,_)] ⟨rfl,rfl,trivial⟩ ?_
 refine WL.seq <| WL.sr <| WOL.mv rfl ?_
 refine WOL.cl1 rfl rfl ((k160 H h2).mono ?_)
 rintro v h3 ⟨c,rfl,X3,A4,hc⟩
 have a3:=A3.lt
 refine WOL.nil <| keep [(3,_),(6,_)] ⟨rfl,rfl,trivial⟩ ?_
 refine WL.block ?_
 have Y3:=X2.trans X3
 have f3:=f.on Y3
 have hc3:h.next < h3.next:=by have:=(A3.hx X3).lt;omega
 refine WL.range rfl (H.fn 213 f175 rfl rfl) (y175 H (by omega)) (fun j g => HX h g ∧ At g h.next (.cells [zi (numB (l.take j):Nat)] true true 3) ∧ At g c (.cells [.slice bo n k] true true 106)) (fun j g q => ⟨q.2.2,s.hx q.1⟩) (fun j g q => (f.hx q.1).up (by omega)) ?_ ?_ ?_ ?_
 ·rintro j g g' x ⟨q1,q2,q3⟩ P
  exact ⟨P.hx _ q1 (by omega),P.oth _ _ (by omega) q2,P.oth _ _ (by have:=A4.lt;omega) q3⟩
 ·rintro g x N
  exact ⟨Y3.trans N.hx,(A3.hx X3).hx N.hx,A4.hx N.hx⟩
 ·rintro j g x hj q A
  refine WL.reg <| WOL.as rfl <| WOL.nil ?_
  intro r hr
  refine ⟨rfl,rfl,fun g2 x2 ⟨q1,q2,q3⟩ A2 => ?_⟩
  refine hr.go ?_
  have bt:=hb.at j
  have ti:numB (l.take j) < 256 ^ 4:=Nat.lt_of_lt_of_le (numB_lt hb j (by omega)) (Nat.pow_le_pow_right (by decide) (by omega))
  refine WL.block <| WL.reg ?_
  refine WOL.ld rfl (load_one tp3 q2 rfl) ?_
  refine WOL.shl (s:=8) rfl rfl (by decide) (by omega) (by omega) ?_
  rw [show ((numB (l.take j):Nat):Int) * 2 ^ 8 = ((256 * numB (l.take j):Nat):Int) by omega]
  refine WOL.mv rfl <| WOL.convU u5 u3 rfl (by omega) (by omega) ?_
  refine WOL.or8 rfl rfl (by omega) bt ?_
  refine WOL.sto rfl rfl tp3 q2 rfl rfl (Nat.le_of_ble_eq_true rfl) rfl (f.hx q1) (Nat.le_refl _) fun g3 P3 => ?_
  refine WOL.nil fun r hr => ?_
  have B3:At g3 h.next (.cells [zi ((256 * numB (l.take j) + l.getD j 0:Nat):Int)] true true 3):=P3.at_
  rw [← numB_step hj] at B3
  exact ⟨rfl,⟨P3.hx _ q1 (Nat.le_refl _),B3,P3.oth _ _ (by omega) q3⟩,P3.oth _ _ (by omega) A2⟩
 ·rintro g ⟨q1,q2,q3⟩
  rw [List.take_length] at q2
  refine WL.sr <| WOL.ld rfl (load_one tp3 q2 rfl) <| WOL.as rfl <| WOL.nil ?_
  exact WL.done rfl ⟨rfl,q1⟩
end
def OwnF {α:Type} (enc:α → List Value) (n0:Nat) (h:TH) (v:Value) (e:TypeId) (l:List α):Prop :=
 OwnL enc n0 h v e l ∨ (∃ b,v = .slice (some ⟨b,0,none⟩) l.length l.length ∧ n0 ≤ b ∧ At h b (.cells (cat enc l) true true e))
section
variable {P:Program} {h:TH} {α:Type} {enc:α → List Value} {n0 n:Nat} {v:Value} {e:TypeId} {l:List α} {z:List Value} {row:Bool}
theorem OwnF.hx {h':TH} (o:OwnF enc n0 h v e l) (x:HX h h'):OwnF enc n0 h' v e l:=o.imp (fun o => o.hx x) fun ⟨b,h1,h2,h3⟩ => ⟨b,h1,h2,h3.hx x⟩
theorem OwnF.sl (E:Enc enc n) (o:OwnF enc n0 h v e l):SlL enc n h v l:=by
 rcases o with o | ⟨b,rfl,_,h3⟩
 ·exact o.sl E
 ·exact SlL.own E h3 rfl
theorem OwnF.form (o:OwnF enc n0 h v e l):∃ bo,v = .slice bo l.length l.length:=by
 rcases o with (⟨rfl,rfl⟩ | ⟨_,b,rfl,_⟩) | ⟨b,rfl,_⟩
 ·exact ⟨_,rfl⟩
 ·exact ⟨_,rfl⟩
 ·exact ⟨_,rfl⟩
theorem append_fix {sT:TypeId} {b j k:Nat} {c new:List Value} {wr:Bool} {e':TypeId} (hu:P.underlying sT = some (.slice e)) (he:Tp P e n z row) (hg:At h b (.cells c true wr e')) (hc:c.length = j * n) (s:SlC h v n k new) (hk:0 < k) (hk2:j + k ≤ 1000000000) (h1:new.all oneCell = true) :
  appendT P #[sT,sT] #[.slice (some ⟨b,0,none⟩) j j,v] h = some (.slice (some ⟨h.next,0,none⟩) (j + k) (j + k),h.new (.cells (c ++ new) false true e)):=by
 obtain ⟨inf,q1,q2,q3,_⟩:=he.i
 have hf:=firstT_C s
 obtain ⟨bo,cap,rfl,_⟩:=s
 have e1:Nat.beq k 0 = false:=beq_no (by omega)
 have e2:Nat.ble (j + k) j = false:=ble_no (by omega)
 have e3:room (j + k) inf.bytes = true:=room_of q3 (by omega)
 have e4:zeroFits inf = true:=zeroFits_of he q1
 have e5:cellsAt h b 0 (j * n) = some c:=by
  simp only [cellsAt,hg.get,ble_yes (show 0 + j * n ≤ c.length by omega),Bool.cond_true,List.drop_zero]
  rw [← hc,List.take_length]
 simp only [appendT,elemInfo,List.getElem?_toArray,List.getElem?_cons_zero,List.getElem?_cons_succ,hu,Option.bind_some,q1,Option.map_some,newOf,lenT,q2,hf,e1,Bool.cond_false,e2,e3,e4,h1,Bool.and_self,Bool.cond_true,hg.get,e5]
 rfl
theorem own_pushF {sT:TypeId} {v2:Value} {x:α} (E:Enc enc n) (hu:P.underlying sT = some (.slice e)) (he:Tp P e n z row) (o:OwnF enc n0 h v e l) (s2:SlC h v2 n 1 (enc x)) (f:Free0 n0 h) (hl:l.length < 1000000) (hn0:n0 ≤ h.next) :
  ∃ v' h',appendT P #[sT,sT] #[v,v2] h = some (v',h') ∧ OwnF enc n0 h' v' e (l ++ [x]) ∧ (∀ h0,HX h0 h → h0.next ≤ n0 → HX h0 h') ∧ (∀ c y,bl v ≠ some c → At h c y → At h' c y) ∧ h.next ≤ h'.next:=by
 rcases o with o | ⟨b,rfl,h2,h3⟩
 ·obtain ⟨v',h',q1,q2,q3,q4,_,q5⟩:=own_push E hu he o s2 f hl hn0
  exact ⟨v',h',q1,.inl q2,q3,q4,q5⟩
 ·refine ⟨_,_,append_fix hu he h3 (E.cat_len l) s2 (by decide) (by omega) (E.one x),.inl (.inr ⟨by simp,h.next,?_,hn0,?_⟩),fun h0 hx hb => hx.trans (HX.new _ _),fun c y hc ha => ha.hx (HX.new _ _),Nat.le_succ _⟩
  ·rw [List.length_append];rfl
  ·rw [cat_append,cat_one]
   exact At.new h _
end
def bytN (n k i:Nat):Nat:=n / 2 ^ (8 * (k - 1 - i)) % 256
def bytesN (n k:Nat):List Nat:=(List.range k).map (bytN n k)
section
variable {P:Program} {h:TH} {K:Regs → TH → Prop} {rest:List TOper} {d:Option Tmp} {ty:TypeId} {i:Nat} {x:Operand} {L:Rg}
theorem WOL.cvw {s t:TypeId} {ds:TypeDesc} {k k':IntKind} {n:Int} (hs:P.underlying s = some ds) (ht:P.underlying t = some (.int k')) (hx:getL L x = some (.int k n)) (w:∀ a,Kn (putL L d (.int k' (k'.wrap n))) a → WO P tp rest a h K):∀ a,Kn L a → WO P tp (⟨d,.convert s t x,ty,none,[],i⟩ :: rest) a h K:=fun a q =>
 WO.conv (q.o hx) rfl (conv_i2i hs ht) rfl (w _ (q.put d _))
end
section
variable {h hb:TH} {l:List Nat} {v:Value} {n k n0:Nat}
set_option maxHeartbeats 1000000 in
set_option maxRecDepth 10000 in
theorem k127 (H:Has tp) (O:OwnF encY n0 h v 5 l) (hl:l.length ≤ 1000) (hk:k ≤ 8) (X:HX hb h) (hn0:hb.next ≤ n0) (hn1:n0 ≤ h.next) (f:Free0 hb.next hb) :
  CallW Tryz.prog tp (.func (.func 141) #[] #[]) #[v,zi (n:Nat),zi (k:Nat)] h fun w h' => HX hb h' ∧ OwnF encY n0 h' w 5 (l ++ bytesN n k) ∧ h.next ≤ h'.next:=by
 refine CallW.fnL (H.fn 141 f127 rfl rfl) ?_
 refine WL.sr <| WOL.as rfl <| WOL.nil <| keep [(0,_),(1,_),(2,_)] ⟨rfl,rfl,rfl,trivial⟩ ?_
 refine WL.seq <| WL.sr <| WOL.mv rfl <| WOL.mv rfl <| WOL.nil <| keep [(0,_),(1,_),(2,_),(8,_),(9,_)] ⟨rfl,rfl,rfl,rfl,rfl,trivial⟩ ?_
 refine WL.block ?_
 refine WL.loop (fun q a g => ∃ (i:Nat) (w:Value),i ≤ k ∧ q = k - i ∧ HX hb g ∧ OwnF encY n0 g w 5 (l ++ (List.range i).map (bytN n k)) ∧ h.next ≤ g.next ∧ Kn [(0,w),(1,zi (n:Nat)),(2,zi (k:Nat)),(8,zi (k:Nat)),(9,zi (i:Nat))] a) k (fun a q => ⟨0,v,by omega,by omega,X,by simpa using O,Nat.le_refl _,q.sub ⟨rfl,rfl,rfl,rfl,rfl,trivial⟩⟩) ?_
 rintro q a g ⟨i,w,hi,rfl,X1,O1,hg,q⟩
 refine q.go ?_
 refine WL.sr <| WOL.bi (v:=.bool (decide ((i:Int) < (k:Int)))) rfl rfl rfl <| WOL.nil <| keep [(0,_),(1,_),(2,_),(8,_),(9,_),(10,_)] ⟨rfl,rfl,rfl,rfl,rfl,rfl,trivial⟩ ?_
 refine WL.seq ?_
 by_cases hlt:i < k
 ·rw [show decide ((i:Int) < (k:Int)) = true from decide_eq_true (by omega)]
  refine WL.yes rfl <| WL.skip ?_
  refine WL.seq <| WL.block ?_
  refine WL.sr <| WOL.mv rfl <| WOL.as rfl <| WOL.nil <| keep [(0,_),(1,_),(2,_),(7,_),(8,_),(9,_)] ⟨rfl,rfl,rfl,rfl,rfl,rfl,trivial⟩ ?_
  refine WL.reg ?_
  refine WOL.mv rfl <| WOL.mv rfl <| WOL.mv rfl <| WOL.sub rfl rfl (by omega) (by omega) <| WOL.mv rfl <| WOL.sub rfl rfl (by omega) (by omega) ?_
  refine WOL.bi (v:=zi ((8 * (k - 1 - i):Nat):Int)) rfl rfl (by show some (Value.int .i64 (fwrap .i64 (8 * ((k:Int) - 1 - i)))) = _;rw [fwrap_i64 (by omega) (by omega)];congr 2;omega) ?_
  refine WOL.shr (s:=8 * (k - 1 - i)) rfl rfl (by omega) (by omega) ?_
  refine WOL.cvw u3 u5 rfl ?_
  rw [u8_wrap,show ((n:Nat):Int) / 2 ^ (8 * (k - 1 - i)) % 256 = ((bytN n k i:Nat):Int) by unfold bytN;push_cast;rfl]
  refine WOL.bs1 rfl u116 tp5 rfl fun g1 N1 => ?_
  have f1:Free0 n0 g1:=(f.hx (X1.trans N1.hx)).up hn0
  obtain ⟨w2,g2,ap,O2,x2,_,n2⟩:=own_pushF (sT:=106) (x:=bytN n k i) eY u116 tp5 (O1.hx N1.hx) (SlC.own (sz:=1) (m:=1) rfl N1.at_) f1 (by simp;omega) (by have:=N1.hx.next;omega)
  refine WOL.ap rfl rfl ap <| WOL.as rfl <| WOL.nil ?_
  refine WL.reg ?_
  refine WOL.bi (v:=zi ((i + 1:Nat):Int)) rfl rfl (by show some (Value.int .i64 (fwrap .i64 ((i:Int) + 1))) = _;rw [fwrap_i64 (by omega) (by omega)];rfl) ?_
  refine WOL.mv rfl <| WOL.nil ?_
  exact fun a q => ⟨k - (i + 1),by omega,i + 1,w2,by omega,rfl,x2 _ (X1.trans N1.hx) hn0,by rw [List.range_succ,List.map_append,← List.append_assoc];exact O2,by have:=N1.hx.next;omega,q.sub ⟨rfl,rfl,rfl,rfl,rfl,trivial⟩⟩
 ·rw [show decide ((i:Int) < (k:Int)) = false from decide_eq_false (by omega)]
  obtain rfl:i = k:=by omega
  refine WL.no rfl <| WL.exit ?_
  refine WL.sr <| WOL.mv rfl <| WOL.as rfl <| WOL.nil ?_
  exact WL.done rfl ⟨X1,O1,hg⟩
end
end Go.Tidy
namespace Go.Tidy
open Go Go.Proofs Tab
variable {tp:TProg}
theorem word_cases (b:Nat):(∃ s,b % 2147483648 = 0 ∧ Ieee.single.read b = .number s 0 (-149)) ∨ (b % 2147483648 ≠ 0 ∧ (nanB .f32 b = true ∨ (∃ s,Ieee.single.read b = .infinity s) ∨ ∃ s m,∃ k:Nat,m ≠ 0 ∧ Ieee.single.read b = .number s m (-149 + (k:Int)))):=by
  have hb:Ieee.single.binade = 8388608:=rfl
  have hi:Ieee.single.infRung = 2139095040:=rfl
  have hs:Ieee.single.signWeight = 2147483648:=rfl
  have hl:Ieee.single.leastPlace = -149:=rfl
  by_cases h0:b % 2147483648 = 0
  · refine .inl ⟨b / 2147483648 % 2 == 1,h0,?_⟩
    unfold Ieee.Format.read
    simp only [hb,hs,hl,h0]
    rfl
  · refine .inr ⟨h0,?_⟩
    by_cases h1:b % 2147483648 < 8388608
    · refine .inr (.inr ⟨b / 2147483648 % 2 == 1,b % 2147483648,0,h0,?_⟩)
      unfold Ieee.Format.read
      simp only [hb,hs,hl,if_pos h1]
      rfl
    · by_cases h2:b % 2147483648 < 2139095040
      · refine .inr (.inr ⟨b / 2147483648 % 2 == 1,8388608 + b % 2147483648 % 8388608,b % 2147483648 / 8388608 - 1,by omega,?_⟩)
        unfold Ieee.Format.read
        simp only [hb,hs,hl,hi,if_neg h1,if_pos h2]
      · by_cases h3:b % 2147483648 = 2139095040
        · refine .inr (.inl ⟨b / 2147483648 % 2 == 1,?_⟩)
          unfold Ieee.Format.read
          simp only [hb,hs,hi,if_neg h1,if_neg h2,if_pos h3]
        · refine .inl ?_
          simp only [nanB,Nat.blt_eq]
          omega
theorem read_zero:Ieee.single.read 0 = .number false 0 (-149):=by decide
def zeroF (b:Nat):Bool:=decide (b % 2147483648 = 0)
theorem zero_cmp {b:Nat} (hn:nanB .f32 b = false):cmpF .eql .f32 b 0 = some (zeroF b):=by
 show some (Ieee.single.order b 0 == some .eq) = some (zeroF b)
 congr 1
 unfold Ieee.Format.order
 rw [read_zero]
 rcases word_cases b with ⟨s,h0,hr⟩ | ⟨h0,h | ⟨s,hr⟩ | ⟨s,m,k,hm,hr⟩⟩
 ·rw [hr]
  have e1:∀ (s:Bool) (u:Nat),Ieee.signed s 0 u = 0:=by intro s u;cases s <;> simp [Ieee.signed]
  have:zeroF b = true:=by unfold zeroF;rw [decide_eq_true h0]
  rw [this]
  show (some (compare (Ieee.signed s 0 _) (Ieee.signed false 0 _)) == some Ordering.eq) = true
  rw [e1,e1]
  rfl
 ·rw [hn] at h;cases h
 ·rw [hr]
  have:zeroF b = false:=by unfold zeroF;rw [decide_eq_false h0]
  rw [this]
  cases s <;> rfl
 ·rw [hr]
  have:zeroF b = false:=by unfold zeroF;rw [decide_eq_false h0]
  rw [this]
  have e1:∀ (u:Nat),Ieee.signed false 0 u = 0:=by intro u;simp [Ieee.signed]
  have e2:∀ (u:Nat),Ieee.signed s m u ≠ 0:=by
   intro u
   have hp:m <<< u ≠ 0:=by rw [Nat.shiftLeft_eq];exact Nat.ne_of_gt (Nat.mul_pos (by omega) (Nat.two_pow_pos u))
   unfold Ieee.signed
   cases s
   ·show ((m <<< u:Nat):Int) ≠ 0;omega
   ·show -((m <<< u:Nat):Int) ≠ 0;omega
  show (some (compare (Ieee.signed s m _) (Ieee.signed false 0 _)) == some Ordering.eq) = false
  rw [e1]
  cases hc:compare (Ieee.signed s m ((-149 + (k:Int)) - min (-149 + (k:Int)) (-149)).toNat) 0 with
  | eq => exact absurd ((cmp_iff _ _).1 hc) (e2 _)
  | lt => rfl
  | gt => rfl
section
variable {P:Program} {h:TH} {K:Regs → TH → Prop} {rest:List TOper} {d:Option Tmp} {ty:TypeId} {i:Nat} {x y:Operand} {t u:TypeId} {L:Rg}
theorem WOL.feq0 {b:Nat} (hx:getL L x = some (.float .f32 b)) (hy:getL L y = some (.float .f32 0)) (w:∀ a,Kn (putL L d (.bool (zeroF b))) a → WO P tp rest a h K):∀ a,Kn L a → WO P tp (⟨d,.binOp .eql t x y u,ty,none,[],i⟩ :: rest) a h K:=by
 cases hn:nanB .f32 b with
 | true =>
  have hz:zeroF b = false:=by
   unfold zeroF
   simp only [nanB,Nat.blt_eq] at hn
   exact decide_eq_false (by omega)
  rw [hz] at w
  refine WOL.bi hx hy ?_ w
  show cond (fKindEq .f32 .f32 && (nanB .f32 b || nanB .f32 0)) (nanOut .eql) none = _
  rw [hn];rfl
 | false => exact fun a k => WO.fcmp (k.o hx) (k.o hy) hn (by decide) (zero_cmp hn) (w _ (k.put d _))
theorem WOL.x1E {f:Nat} {v v0:Value} {ts:Array TypeId} {e:List Value → Option Value} (h0:getL L x = some v0) (hk:tp.fn f = none) (he:tp.ext f = some e) (hp:exactB v0 = true) (hv:e [v0] = some v) (hpv:exactB v = true)
  (w:∀ a,Kn (putL L d v) a → WO P tp rest a h K):∀ a,Kn L a → WO P tp (⟨d,.call ⟨.value (.func f),#[x],ts⟩,ty,none,[],i⟩ :: rest) a h K :=
 WOL.cl1 rfl h0 (CallW.extX hk he (by simp [hp]) hv hpv w)
end
structure HasY (tp:TProg):Prop where
 no1:tp.fn 186 = none
 no2:tp.fn 138 = none
 bits:tp.ext 186 = some (Bare.run .float32bits)
 back:tp.ext 138 = some (Bare.run .float32frombits)
theorem word_exact {b:Nat} (hb:b < 4294967296):exactB (.float .f32 b) = true:=by
 show (!Nat.beq b 6438256640) = true
 rw [beq_no (by omega)];rfl
theorem u216:Tryz.prog.underlying 195 = some (.int .u32):=by kernel_rfl
section
variable {h hb:TH} {l:List Nat} {v:Value} {bo:Option Addr} {n k n0:Nat}
def wordF (b:Nat):Nat:=cond (zeroF b) 0 b
theorem k128 (H:Has tp) (Y:HasY tp) {b:Nat} (hw:b < 4294967296) (O:OwnF encY n0 h v 5 l) (hl:l.length ≤ 1000) (X:HX hb h) (hn0:hb.next ≤ n0) (hn1:n0 ≤ h.next) (f:Free0 hb.next hb) :
  CallW Tryz.prog tp (.func (.func 142) #[] #[]) #[v,.float .f32 b] h fun w h' => HX hb h' ∧ OwnF encY n0 h' w 5 (l ++ bytesN (wordF b) 4) ∧ h.next ≤ h'.next:=by
 refine CallW.fnL (H.fn 142 f128 rfl rfl) ?_
 have hw':wordF b < 4294967296:=by unfold wordF;cases zeroF b <;> simp <;> omega
 refine WL.sr <| WOL.as rfl <| WOL.nil <| keep [(0,_),(1,_)] ⟨rfl,rfl,trivial⟩ ?_
 have rest:∀ a,Kn [(0,v),(1,.float .f32 (wordF b))] a → W Tryz.prog tp false (.seq (.reg r128_3) .ret) a h (Fin Tryz.prog f128.results fun w h' => HX hb h' ∧ OwnF encY n0 h' w 5 (l ++ bytesN (wordF b) 4) ∧ h.next ≤ h'.next):=by
  refine WL.sr <| WOL.mv rfl <| WOL.mv rfl ?_
  refine WOL.x1E (v:=.int .u32 (wordF b:Nat)) rfl Y.no1 Y.bits (word_exact hw') rfl rfl ?_
  refine WOL.cvw u216 u3 rfl ?_
  rw [show IntKind.i64.wrap (wordF b:Nat) = ((wordF b:Nat):Int) from IntWalk.i64_in _ (by omega)]
  refine WOL.cl3 rfl rfl rfl rfl ((k127 H (k:=4) O hl (by decide) X hn0 hn1 f).mono ?_)
  rintro w h1 ⟨X1,O1,n1⟩
  refine WOL.as rfl <| WOL.nil ?_
  exact WL.done rfl ⟨X1,O1,n1⟩
 refine WL.seq <| WL.sr <| WOL.mv rfl <| WOL.feq0 rfl rfl <| WOL.nil <| keep [(0,_),(1,_),(6,_)] ⟨rfl,rfl,rfl,trivial⟩ ?_
 cases hz:zeroF b with
 | true =>
  rw [show wordF b = 0 by unfold wordF;rw [hz];rfl] at rest
  refine WL.yes rfl <| WL.reg <| WOL.as rfl <| WOL.nil ?_
  rw [show wordF b = 0 by unfold wordF;rw [hz];rfl]
  exact kto rest ⟨rfl,rfl,trivial⟩
 | false =>
  rw [show wordF b = b by unfold wordF;rw [hz];rfl] at rest
  refine WL.no rfl <| WL.skip ?_
  rw [show wordF b = b by unfold wordF;rw [hz];rfl]
  exact kto rest ⟨rfl,rfl,trivial⟩
end
end Go.Tidy
namespace Go.Tidy
open Go Go.Proofs Tab
variable {tp:TProg}
section
variable {P:Program} {a:Regs} {h:TH} {K:Regs → TH → Prop} {rest:List TOper} {d:Option Tmp} {ty:TypeId} {i:Nat} {f x0 x1 x2 l0:Operand} {ls:List Operand} {fv v0 v1 v2:Value} {ts:Array TypeId}
end
def RefS (B:Nat) (g:TH) (c:Nat) (s:ByteArray) (n:Int) (C:List (Int × Bool)) (e:Int):Prop :=
  ∃ sz nz w1 w2,At g c (.cells (runV sz nz w1 w2).cells.toList true true 46) ∧ (e ≠ 0 → w1 = .slice none 0 0 ∧ w2 = .slice none 0 0) ∧
    (e = 0 → (sz = s ∧ nz = n) ∧ RunO B g w1 w2 (C.map fun c => smp c.1) (holesOf (C.map fun c => c.2)) ∧ Lev (C.map fun c => smp c.1) (C.map fun c => c.1) ∧ C.length ≤ 4096)
section
variable {B c c':Nat} {g g':TH} {s:ByteArray} {n:Int} {C:List (Int × Bool)} {e:Int}
theorem RefS.hx (q:RefS B g c s n C e) (x:HX g g'):RefS B g' c s n C e:=by
 obtain ⟨sz,nz,w1,w2,a,q1,q2⟩:=q
 exact ⟨sz,nz,w1,w2,a.hx x,q1,fun h => ⟨(q2 h).1,(q2 h).2.1.hx x,(q2 h).2.2⟩⟩
theorem RefS.away {x:TB} (q:RefS B g c s n C e) (p:Put g g' c' x) (h1:c' ≠ c) (h2:c' < B):RefS B g' c s n C e:=by
 obtain ⟨sz,nz,w1,w2,a,q1,q2⟩:=q
 exact ⟨sz,nz,w1,w2,p.oth _ _ (Ne.symm h1) a,q1,fun h => ⟨(q2 h).1,(q2 h).2.1.away p h2,(q2 h).2.2⟩⟩
end
end Go.Tidy
namespace Go.Tidy
open Go Go.Proofs Tab
variable {tp:TProg}
def Tail3 (s:Nat → ByteArray) (n:Nat → Int) (F:Nat → List Nat) (S:Nat → List (Int × Int)) (es L:Nat → List Int):Prop:=∀ k,2 ≤ k → s k = s 2 ∧ n k = n 2 ∧ F k = F 2 ∧ S k = S 2 ∧ es k = es 2 ∧ L k = L 2
section
variable {s:Nat → ByteArray} {n:Nat → Int} {v1 v2:Nat → Value} {F:Nat → List Nat} {S:Nat → List (Int × Int)} {es L:Nat → List Int} {h:TH} {lb:Nat} {el:Int}
theorem Tail3.some (t:Tail3 s n F S es L):∀ k,∃ j,j < 3 ∧ s k = s j ∧ n k = n j ∧ F k = F j ∧ S k = S j ∧ es k = es j ∧ L k = L j:=by
 intro k
 by_cases h0:k = 0
 ·subst h0;exact ⟨0,by decide,rfl,rfl,rfl,rfl,rfl,rfl⟩
 ·by_cases h1:k = 1
  ·subst h1;exact ⟨1,by decide,rfl,rfl,rfl,rfl,rfl,rfl⟩
  ·exact ⟨2,by decide,t k (by omega)⟩
end
end Go.Tidy
namespace Go.Tidy
open Go Go.Proofs Tab
variable {tp:TProg}
def optL (L:Rg):Option Operand → Option (Option Value)
 | none => some none
 | some x => (getL L x).map some
theorem optL_o {L:Rg} {a:Regs} (k:Kn L a) {x:Option Operand} {v:Option Value} (h:optL L x = some v):x.map a.eval = v:=by
 cases x with
 | none => cases h;rfl
 | some x =>
  simp only [optL,Option.map_eq_some_iff] at h
  obtain ⟨w,h1,rfl⟩:=h
  show some (a.eval x) = some w
  rw [getO_eval (k.o h1)]
section
variable {P:Program} {h:TH} {K:Regs → TH → Prop} {rest:List TOper} {d:Option Tmp} {ty:TypeId} {i:Nat} {x y:Operand} {t u e:TypeId} {L:Rg} {v vx:Value}
theorem WOL.slG {lo hi:Option Operand} {vlo vhi:Option Value} (hx:getL L x = some vx) (hp:plain vx = false) (hl:optL L lo = some vlo) (hh:optL L hi = some vhi) (hv:sliceT P t vx vlo vhi none h = some v) (w:∀ a,Kn (putL L d v) a → WO P tp rest a h K):∀ a,Kn L a → WO P tp (⟨d,.slice t x lo hi none,ty,none,[],i⟩ :: rest) a h K:=fun a k => by
 have e1:=getO_eval (k.o hx)
 have e2:=optL_o k hl
 have e3:=optL_o k hh
 refine WO.op (h1:=h) rfl rfl (fun call => ?_) (w _ (k.put d _))
 have hq:plainOp P ⟨d,.slice t x lo hi none,ty,none,[],i⟩ a.eval = none:=by
  unfold plainOp
  simp [plainly,Op.operands,e1,hp]
 simp only [stepOp,heapFirst,fastOp,valueOp,hq,heapOp,e1,e2,e3,Option.map_none,hv,Bool.cond_false]
 rfl
end
section
variable {h:TH} {s c:Int} {x y z:Nat} {es:List Int}
end
section
variable {P:Program} {h:TH} {K:Regs → TH → Prop} {rest:List TOper} {d:Option Tmp} {ty:TypeId} {i:Nat} {x:Operand} {t e:TypeId} {L:Rg}
end
theorem bytesN_len {n k:Nat}:(bytesN n k).length = k:=by simp [bytesN]
theorem bytesN_byt {n k:Nat}:Byt (bytesN n k):=fun b hb => by
 unfold bytesN at hb
 obtain ⟨i,_,rfl⟩:=List.mem_map.1 hb
 exact Nat.mod_lt _ (by decide)
theorem OwnF.at_ {α:Type} {enc:α → List Value} {n0:Nat} {h:TH} {v:Value} {e:TypeId} {l:List α} (o:OwnF enc n0 h v e l) (hl:l ≠ []):∃ b fix,v = .slice (some ⟨b,0,none⟩) l.length l.length ∧ At h b (.cells (cat enc l) fix true e):=by
 rcases o with (⟨_,rfl⟩ | ⟨_,b,rfl,_,h3⟩) | ⟨b,rfl,_,h3⟩
 ·exact absurd rfl hl
 ·exact ⟨b,_,rfl,h3⟩
 ·exact ⟨b,_,rfl,h3⟩
section
variable {h:TH} {s c x y z:Nat}
end
end Go.Tidy
namespace Go.Tidy
open Go Go.Proofs Tab
variable {tp:TProg}
theorem cat_Y (l:List Nat):cat encY l = l.map fun b => Value.int .u8 (b:Nat):=by
 unfold cat
 induction l with
 | nil => rfl
 | cons b l ih => rw [List.flatMap_cons,ih];rfl
section
variable {P:Program}
end
end Go.Tidy
namespace Go.Tidy
open Go Go.Proofs Tab
variable {tp:TProg}
theorem Byt.drop {l:List Nat} (h:Byt l) (k:Nat):Byt (l.drop k):=fun b hb => h b (List.mem_of_mem_drop hb)
theorem Byt.take {l:List Nat} (h:Byt l) (k:Nat):Byt (l.take k):=fun b hb => h b (List.mem_of_mem_take hb)
theorem numB_lt' {l:List Nat} {k:Nat} (h:Byt l) (hl:l.length ≤ k):numB l < 256 ^ k:=by
 have:=numB_lt h l.length (Nat.le_refl _)
 rw [List.take_length] at this
 exact Nat.lt_of_lt_of_le this (Nat.pow_le_pow_right (by decide) hl)
section
variable {h:TH} {l:List Nat} {b:Nat} {fix wr:Bool} {el:TypeId}
end
def pr (w:Nat → Nat) (k i:Nat):Nat:=cond (Nat.blt i k) (w i) 0
section
variable {h:TH} {l:List Nat} {es:List Int}
end
end Go.Tidy
namespace Go.Tidy
open Go Go.Proofs Tab
variable {tp:TProg}
theorem u228':Tryz.prog.underlying 252 = some (.int .u64):=by kernel_rfl
section
variable {h:TH} {l:List Nat} {v:Value} {n k:Nat}
set_option maxRecDepth 10000 in
theorem k1029 (H:Has tp) (hk:k ≤ 8) (f:Free0 h.next h):CallW Tryz.prog tp (.func (.func 135) #[] #[]) #[zi (n:Nat),zi (k:Nat)] h fun w h' => HX h h' ∧ OwnL encY h.next h' w 5 (bytesN n k):=by
 refine CallW.fnL (H.fn 135 f1029 rfl rfl) ?_
 refine WL.sr <| WOL.as rfl <| WOL.nil <| keep [(0,_),(1,_)] ⟨rfl,rfl,trivial⟩ ?_
 refine WL.sr <| WOL.as rfl <| WOL.nil <| keep [(0,_),(1,_),(5,_)] ⟨rfl,rfl,rfl,trivial⟩ ?_
 refine WL.seq <| WL.sr <| WOL.mv rfl ?_
 refine WOL.bi (v:=zi ((k:Int) - 1 - (0:Nat))) rfl rfl (by show some (Value.int .i64 (fwrap .i64 ((k:Int) - 1))) = _;rw [fwrap_i64 (by omega) (by omega)];simp) ?_
 refine WOL.as rfl <| WOL.nil <| keep [(0,_),(1,_),(5,_),(6,_)] ⟨rfl,rfl,rfl,rfl,trivial⟩ ?_
 refine WL.block ?_
 refine WL.loop (fun q a g => ∃ (j:Nat) (w:Value),j ≤ k ∧ q = k - j ∧ HX h g ∧ OwnL encY h.next g w 5 ((List.range j).map (bytN n k)) ∧ Kn [(0,zi (n:Nat)),(1,zi (k:Nat)),(5,w),(6,zi ((k:Int) - 1 - (j:Nat)))] a) k (fun a q => ⟨0,_,by omega,by omega,HX.refl _,OwnL.nil,q.sub ⟨rfl,rfl,rfl,rfl,trivial⟩⟩) ?_
 rintro q a g ⟨j,w,hj,rfl,X1,O1,q⟩
 refine q.go ?_
 refine WL.seq <| WL.sr <| WOL.mv rfl ?_
 refine WOL.bi (v:=.bool (decide ((k:Int) - 1 - (j:Nat) ≥ 0))) rfl rfl rfl <| WOL.nil <| keep [(0,_),(1,_),(5,_),(6,_),(10,_)] ⟨rfl,rfl,rfl,rfl,rfl,trivial⟩ ?_
 by_cases hlt:j < k
 ·rw [show decide ((k:Int) - 1 - (j:Nat) ≥ 0) = true from decide_eq_true (by omega)]
  refine WL.yes rfl <| WL.skip ?_
  refine WL.seq <| WL.block <| WL.reg ?_
  refine WOL.mv rfl <| WOL.mv rfl <| WOL.mv rfl ?_
  refine WOL.bi (v:=zi ((8 * (k - 1 - j):Nat):Int)) rfl rfl (by show some (Value.int .i64 (fwrap .i64 (8 * ((k:Int) - 1 - (j:Nat))))) = _;rw [fwrap_i64 (by omega) (by omega)];congr 2;omega) ?_
  refine WOL.cv u3 u228' rfl (IntWalk.u64_in _ (by omega)) ?_
  refine WOL.shr (s:=8 * (k - 1 - j)) rfl rfl (by omega) (by omega) ?_
  refine WOL.cvw u3 u5 rfl ?_
  rw [u8_wrap,show ((n:Nat):Int) / 2 ^ (8 * (k - 1 - j)) % 256 = ((bytN n k j:Nat):Int) by unfold bytN;push_cast;rfl]
  refine WOL.bs1 rfl u116 tp5 rfl fun g1 N1 => ?_
  have f1:Free0 h.next g1:=f.hx (X1.trans N1.hx)
  have X2:=X1.trans N1.hx
  obtain ⟨w2,g2,ap,O2,x2,_⟩:=own_push (sT:=106) (x:=bytN n k j) eY u116 tp5 (O1.hx N1.hx) (SlC.own (sz:=1) (m:=1) rfl N1.at_) f1 (by simp;omega) X2.next
  refine WOL.ap rfl rfl ap <| WOL.as rfl <| WOL.nil <| keep [(0,_),(1,_),(5,_),(6,_)] ⟨rfl,rfl,rfl,rfl,trivial⟩ ?_
  refine WL.reg <| WOL.mv rfl ?_
  refine WOL.bi (v:=zi ((k:Int) - 1 - ((j + 1:Nat):Int))) rfl rfl (by show some (Value.int .i64 (fwrap .i64 ((k:Int) - 1 - (j:Nat) - 1))) = _;rw [fwrap_i64 (by omega) (by omega)];congr 2;omega) ?_
  refine WOL.as rfl <| WOL.nil ?_
  exact fun a q => ⟨k - (j + 1),by omega,j + 1,w2,by omega,rfl,x2 _ X2 (Nat.le_refl _),by rw [List.range_succ,List.map_append];exact O2,q.sub ⟨rfl,rfl,rfl,rfl,trivial⟩⟩
 ·rw [show decide ((k:Int) - 1 - (j:Nat) ≥ 0) = false from decide_eq_false (by omega)]
  obtain rfl:j = k:=by omega
  refine WL.no rfl <| WL.exit ?_
  refine WL.sr <| WOL.mv rfl <| WOL.as rfl <| WOL.nil ?_
  exact WL.done rfl ⟨X1,O1⟩
set_option maxRecDepth 10000 in
theorem k1031 (H:Has tp) (s:SlL encY 1 h v l) (hb:Byt l) (hl:l.length ≤ 4):CallW Tryz.prog tp (.func (.func 137) #[] #[]) #[v] h fun w h' => w = zi (numB l:Nat) ∧ h' = h:=by
 refine CallW.fnL (H.fn 137 f1031 rfl rfl) ?_
 refine WL.sr <| WOL.as rfl <| WOL.nil <| keep [(0,_)] ⟨rfl,trivial⟩ ?_
 refine WL.sr <| WOL.as rfl <| WOL.nil <| keep [(0,_),(3,_)] ⟨rfl,rfl,trivial⟩ ?_
 refine WL.seq <| WL.sr <| WOL.as rfl <| WOL.nil <| keep [(0,_),(3,_),(4,_)] ⟨rfl,rfl,rfl,trivial⟩ ?_
 refine WL.block ?_
 refine WL.loop (fun q a g => ∃ j:Nat,j ≤ l.length ∧ q = l.length - j ∧ g = h ∧ Kn [(0,v),(3,zi (numB (l.take j):Nat)),(4,zi (j:Nat))] a) l.length (fun a q => ⟨0,by omega,by omega,rfl,q.sub ⟨rfl,rfl,rfl,trivial⟩⟩) ?_
 rintro q a h ⟨j,hj,rfl,rfl,q⟩
 refine q.go ?_
 refine WL.seq <| WL.sr <| WOL.mv rfl <| WOL.mv rfl ?_
 refine WOL.len rfl s u116 ?_
 refine WOL.bi (v:=.bool (decide ((j:Int) < (l.length:Int)))) rfl rfl rfl <| WOL.nil <| keep [(0,_),(3,_),(4,_),(8,_)] ⟨rfl,rfl,rfl,rfl,trivial⟩ ?_
 by_cases hlt:j < l.length
 ·rw [show decide ((j:Int) < (l.length:Int)) = true from decide_eq_true (by omega)]
  obtain ⟨p,ip,lp⟩:=elemY s hlt
  have bt:=hb.at j
  have ti:numB (l.take j) < 256 ^ 4:=Nat.lt_of_lt_of_le (numB_lt hb j (by omega)) (Nat.pow_le_pow_right (by decide) (by omega))
  refine WL.yes rfl <| WL.skip ?_
  refine WL.seq <| WL.block <| WL.reg ?_
  refine WOL.mv rfl ?_
  refine WOL.bi (v:=zi ((256 * numB (l.take j):Nat):Int)) rfl rfl (by show some (Value.int .i64 (fwrap .i64 (256 * (numB (l.take j):Nat)))) = _;rw [fwrap_i64 (by omega) (by omega)];rfl) ?_
  refine WOL.mv rfl <| WOL.mv rfl <| WOL.ix rfl rfl ip <| WOL.ld rfl lp <| WOL.convU u5 u3 rfl (by omega) (by omega) ?_
  refine WOL.add rfl rfl (by omega) (by omega) ?_
  refine WOL.as rfl <| WOL.nil <| keep [(0,_),(3,_),(4,_)] ⟨rfl,rfl,rfl,trivial⟩ ?_
  have e:(((256 * numB (l.take j):Nat):Int) + (l.getD j 0:Nat)) = ((numB (l.take (j + 1)):Nat):Int):=by rw [numB_step hlt];omega
  rw [e]
  refine WL.reg ?_
  refine WOL.mv rfl <| WOL.bi (v:=zi ((j + 1:Nat):Int)) rfl rfl (by show some (Value.int .i64 (fwrap .i64 ((j:Int) + 1))) = _;rw [fwrap_i64 (by omega) (by omega)];rfl) ?_
  refine WOL.as rfl <| WOL.nil ?_
  exact fun a q => ⟨l.length - (j + 1),by omega,j + 1,by omega,rfl,rfl,q.sub ⟨rfl,rfl,rfl,trivial⟩⟩
 ·rw [show decide ((j:Int) < (l.length:Int)) = false from decide_eq_false (by omega)]
  obtain rfl:j = l.length:=by omega
  refine WL.no rfl <| WL.exit ?_
  refine WL.sr <| WOL.mv rfl <| WOL.as rfl <| WOL.nil ?_
  rw [List.take_length]
  exact WL.done rfl ⟨rfl,rfl⟩
theorem k1030 (H:Has tp) (Y:HasY tp) {b:Nat} (hw:b < 4294967296) (f:Free0 h.next h):CallW Tryz.prog tp (.func (.func 136) #[] #[]) #[.float .f32 b] h fun w h' => HX h h' ∧ SlL encY 1 h' w (bytesN (wordF b) 4):=by
 refine CallW.fnL (H.fn 136 f1030 rfl rfl) ?_
 refine WL.sr <| WOL.as rfl <| WOL.nil <| keep [(0,_)] ⟨rfl,trivial⟩ ?_
 refine WL.seq <| WL.sr <| WOL.mv rfl <| WOL.feq0 rfl rfl <| WOL.nil <| keep [(0,_),(4,_)] ⟨rfl,rfl,trivial⟩ ?_
 cases hz:zeroF b with
 | true =>
  rw [show wordF b = 0 by unfold wordF;rw [hz];rfl]
  refine WL.yes rfl <| WL.sr <| WOL.bsl rfl u116 tp5 (by decide) (by decide) (by decide) (cs:=cat encY [0,0,0,0]) rfl fun h1 N1 => ?_
  refine WOL.as rfl <| WOL.nil ?_
  exact WL.ret (WL.end_ rfl ⟨N1.hx,SlL.own eY (l:=[0,0,0,0]) N1.at_ rfl⟩)
 | false =>
  rw [show wordF b = b by unfold wordF;rw [hz];rfl]
  refine WL.no rfl <| WL.skip ?_
  refine WL.sr <| WOL.mv rfl ?_
  refine WOL.x1E (v:=.int .u32 (b:Nat)) rfl Y.no1 Y.bits (word_exact hw) rfl rfl ?_
  refine WOL.cvw u216 u3 rfl ?_
  rw [show IntKind.i64.wrap (b:Nat) = ((b:Nat):Int) from IntWalk.i64_in _ (by omega)]
  refine WOL.cl2 rfl rfl rfl ((k1029 H (k:=4) (by decide) f).mono ?_)
  rintro w h1 ⟨X1,O1⟩
  refine WOL.as rfl <| WOL.nil ?_
  exact WL.done rfl ⟨X1,O1.sl eY⟩
end
end Go.Tidy
namespace Go.Tidy
open Go Go.Proofs Tab
variable {tp:TProg}
section
variable {P:Program} {h:TH} {α:Type} {enc:α → List Value} {n0 n:Nat} {v v2:Value} {e:TypeId} {l m:List α} {z:List Value} {row:Bool}
theorem own_catF {sT:TypeId} (E:Enc enc n) (hu:P.underlying sT = some (.slice e)) (he:Tp P e n z row) (o:OwnF enc n0 h v e l) (s2:SlL enc n h v2 m) (hm:0 < m.length) (f:Free0 n0 h) (hl:l.length + m.length ≤ 1000000) (hn0:n0 ≤ h.next) :
  ∃ v' h',appendT P #[sT,sT] #[v,v2] h = some (v',h') ∧ OwnF enc n0 h' v' e (l ++ m) ∧ (∀ h0,HX h0 h → h0.next ≤ n0 → HX h0 h') ∧ h.next ≤ h'.next:=by
 have hne:l ++ m ≠ []:=fun e => by
  have this:=congrArg List.length e
  rw [List.length_append,List.length_nil] at this
  omega
 rcases o with (⟨rfl,rfl⟩ | ⟨_,b,rfl,h2,h3⟩) | ⟨b,rfl,h2,h3⟩
 ·refine ⟨_,_,append_first hu he s2 hm (by omega) (E.all m),.inl (.inr ⟨hne,h.next,by rw [List.nil_append],hn0,?_⟩),fun h0 hx hb => hx.trans (HX.new _ _),Nat.le_succ _⟩
  rw [List.nil_append]
  exact At.new _ _
 ·refine ⟨_,_,append_more hu he h3 (E.cat_len l) s2 hm (by omega) (E.all m) f h2,.inl (.inr ⟨hne,h.next,by rw [List.length_append],hn0,?_⟩),fun h0 hx hb => (hx.upd (by omega) _).trans (HX.new _ _),Nat.le_succ _⟩
  rw [cat_append]
  exact At.new (h.upd b .dead) _
 ·refine ⟨_,_,append_fix hu he h3 (E.cat_len l) s2 hm (by omega) (E.all m),.inl (.inr ⟨hne,h.next,by rw [List.length_append],hn0,?_⟩),fun h0 hx hb => hx.trans (HX.new _ _),Nat.le_succ _⟩
  rw [cat_append]
  exact At.new h _
end
section
variable {P:Program} {h:TH} {K:Regs → TH → Prop} {rest:List TOper} {d:Option Tmp} {ty:TypeId} {i:Nat} {L:Rg} {f x0 x1 l0:Operand} {ls:List Operand} {fv v0 v1:Value} {ts:Array TypeId}
end
theorem OwnL.relock {α:Type} {enc:α → List Value} {n0:Nat} {h:TH} {v:Value} {e:TypeId} {l:List α} (o:OwnL enc n0 h v e l) (M:List Nat):OwnL enc n0 (h.withLock M) v e l:=o.imp id fun ⟨h0,b,h1,h2,h3⟩ => ⟨h0,b,h1,h2,h3.relock M⟩
section
variable {h:TH} {s c x y z:Nat}
end
end Go.Tidy
namespace Go.Tidy
open Go Go.Proofs Tab
variable {tp:TProg}
abbrev Pkt:=Int × Int × Nat × Nat × Nat
section
variable {h:TH} {p:Pkt} {v:Value} {l:List Pkt} {E:List Int}
end
end Go.Tidy
namespace Go.Tidy
open Go Go.Proofs Tab
variable {tp:TProg}
def gapN (a c:Nat):Nat:=(c + 65535 - a) % 65536
def seqAt (a j:Nat):Nat:=(a + 1 + j) % 65536
def gap (a c:Nat):List Int:=(List.range (gapN a c)).map fun j => ((seqAt a j:Nat):Int)
def more (o:Option Nat) (c:Nat):List Int:=match o with | none => [] | some a => gap a c
section
variable {h:TH} {v:Value} {l:List Pkt} {src:Int}
def LostA (L:List Int) (n0:Nat) (h:TH) (w:Value) (e:Int):Prop:=(L.length ≤ 256 ∧ e = 0 ∧ OwnL encI n0 h w 3 L) ∨ (256 < L.length ∧ e = 5 ∧ w = .slice none 0 0)
end
end Go.Tidy
namespace Go.Tidy
open Go Go.Proofs Tab
theorem LostA.hx {L:List Int} {n0:Nat} {g g':TH} {w:Value} {e:Int} (a:LostA L n0 g w e) (x:HX g g'):LostA L n0 g' w e :=
 a.imp (fun ⟨h1,h2,h3⟩ => ⟨h1,h2,h3.hx x⟩) id
end Go.Tidy
namespace Go.Tidy
open Go Go.Proofs Tab
variable {tp:TProg}
def strB (s:ByteArray):List Nat:=s.data.toList.map (·.toNat)
theorem strB_len {s:ByteArray}:(strB s).length = s.size:=by
 unfold strB
 rw [List.length_map]
 rfl
theorem strB_byt {s:ByteArray}:Byt (strB s):=by
 intro b hb
 unfold strB at hb
 obtain ⟨x,_,rfl⟩:=List.mem_map.1 hb
 exact x.toNat_lt
theorem first_str {h:TH} {s:ByteArray}:firstT h 1 s.size (.string s) = some (cat encY (strB s)):=by
 have e:s.data.toList.take s.size = s.data.toList:=List.take_of_length_le (Nat.le_refl _)
 simp only [firstT,ble_yes (Nat.le_refl s.size),Nat.beq_refl,Bool.and_self,Bool.cond_true,e]
 rw [cat_Y]
 unfold strB
 rw [List.map_map]
 rfl
section
variable {h:TH} {v:Value} {l:List Nat} {s:ByteArray} {n0:Nat}
theorem own_catS (o:OwnF encY n0 h v 5 l) (hne:l ≠ []) (hs:0 < s.size) (hk:l.length + s.size ≤ 1000000) (f:Free0 n0 h) (hn0:n0 ≤ h.next) :
  ∃ v' h',appendT Tryz.prog #[106,9] #[v,.string s] h = some (v',h') ∧ OwnF encY n0 h' v' 5 (l ++ strB s) ∧ (∀ h0,HX h0 h → h0.next ≤ n0 → HX h0 h') ∧ h.next ≤ h'.next:=by
 obtain ⟨inf,q1,q2,q3,_⟩:=tp5.i
 have e1:Nat.beq s.size 0 = false:=beq_no (by omega)
 have e2:Nat.ble (l.length + s.size) l.length = false:=ble_no (by omega)
 have e3:room (l.length + s.size) inf.bytes = true:=room_of q3 (by omega)
 have e4:zeroFits inf = true:=zeroFits_of tp5 q1
 have h1:=eY.all (strB s)
 have hf:=first_str (h:=h) (s:=s)
 have cl:(cat encY l).length = l.length:=by rw [eY.cat_len,Nat.mul_one]
 have ne2:l ++ strB s ≠ []:=fun e => hne (List.append_eq_nil_iff.1 e).1
 have nl:(l ++ strB s).length = l.length + s.size:=by rw [List.length_append,strB_len]
 rcases o with (⟨_,e0⟩ | ⟨_,b,rfl,h2,h3⟩) | ⟨b,rfl,h2,h3⟩
 ·exact absurd e0 hne
 ·have e5:cellsAt h b 0 (l.length * 1) = some (cat encY l):=by
   simp only [cellsAt,h3.get,ble_yes (show 0 + l.length * 1 ≤ (cat encY l).length by omega),Bool.cond_true,List.drop_zero]
   rw [List.take_of_length_le (by omega)]
  have hp:h.put b .dead = some (h.upd b .dead):=f.put h2 h3.lt
  have e6:Nat.beq 5 5 = true:=rfl
  refine ⟨.slice (some ⟨h.next,0,none⟩) (l.length + s.size) (l.length + s.size),(h.upd b .dead).new (.cells (cat encY l ++ cat encY (strB s)) false true 5),?_,.inl (.inr ⟨ne2,h.next,by rw [nl],hn0,?_⟩),fun h0 hx hb => (hx.upd (by omega) _).trans (HX.new _ _),Nat.le_succ _⟩
  ·simp only [appendT,elemInfo,List.getElem?_toArray,List.getElem?_cons_zero,List.getElem?_cons_succ,u116,u9,Option.bind_some,q1,Option.map_some,newOf,lenT,q2,hf,e1,Bool.cond_false,e2,e3,e4,h1,Bool.and_self,Bool.cond_true,h3.get,e5,Bool.true_and,e6,hp]
   rfl
  ·rw [cat_append]
   exact At.new (h.upd b .dead) _
 ·have e5:cellsAt h b 0 (l.length * 1) = some (cat encY l):=by
   simp only [cellsAt,h3.get,ble_yes (show 0 + l.length * 1 ≤ (cat encY l).length by omega),Bool.cond_true,List.drop_zero]
   rw [List.take_of_length_le (by omega)]
  refine ⟨.slice (some ⟨h.next,0,none⟩) (l.length + s.size) (l.length + s.size),h.new (.cells (cat encY l ++ cat encY (strB s)) false true 5),?_,.inl (.inr ⟨ne2,h.next,by rw [nl],hn0,?_⟩),fun h0 hx hb => hx.trans (HX.new _ _),Nat.le_succ _⟩
  ·simp only [appendT,elemInfo,List.getElem?_toArray,List.getElem?_cons_zero,List.getElem?_cons_succ,u116,u9,Option.bind_some,q1,Option.map_some,newOf,lenT,q2,hf,e1,Bool.cond_false,e2,e3,e4,h1,Bool.and_self,Bool.cond_true,h3.get,e5]
   rfl
  ·rw [cat_append]
   exact At.new h _
end
section
variable {P:Program} {h h1:TH} {K:Regs → TH → Prop} {rest:List TOper} {d:Option Tmp} {ty:TypeId} {i:Nat} {x:Operand} {s t:TypeId} {L:Rg} {v vx:Value}
theorem WOL.cvH (hx:getL L x = some vx) (hp:plain vx = false) (hc:convertT P s t vx h = some (v,h1)) (w:∀ a,Kn (putL L d v) a → WO P tp rest a h1 K):∀ a,Kn L a → WO P tp (⟨d,.convert s t x,ty,none,[],i⟩ :: rest) a h K:=fun a k => by
 have e1:=getO_eval (k.o hx)
 refine WO.op (h1:=h1) rfl rfl (fun call => ?_) (w _ (k.put d _))
 have hq:plainOp P ⟨d,.convert s t x,ty,none,[],i⟩ a.eval = none:=by
  unfold plainOp
  simp [plainly,Op.operands,e1,hp]
 simp only [stepOp,heapFirst,fastOp,valueOp,hq,heapOp,e1,hc,Bool.cond_false]
end
theorem conv_same {h:TH} {b m cp:Nat} {c:List Value} {fix wr:Bool} {el:TypeId} {n:Nat} (A:At h b (.cells c fix wr el)) (f:Free0 n h) (hb:n ≤ b) (hc:0 < cp):∃ h',convertT Tryz.prog 106 106 (.slice (some ⟨b,0,none⟩) m cp) h = some (.slice (some ⟨b,0,none⟩) m cp,h') ∧ Put h h' b (.cells c fix wr el):=by
 refine ⟨h.upd b (.cells c fix wr el),?_,Put.mk' A _⟩
 have hp:h.put b (.cells c fix wr el) = some (h.upd b (.cells c fix wr el)):=f.put hb A.lt
 have e1:Nat.blt 0 cp = true:=by rw [Nat.blt_eq];exact hc
 simp only [convertT,Nat.beq_refl,Bool.cond_true,elemDesc,u116,u5,Option.map_some,isU8,e1,Bool.and_self,A.get,hp]
def packH (s:ByteArray) (n m:Nat):List Nat:=[82,85,78,83] ++ [s.size] ++ strB s ++ bytesN n 4 ++ bytesN m 2
def packF (F:List Nat) (k:Nat):List Nat:=(F.take k).flatMap fun w => bytesN (wordF w) 4
def packS (S:List (Int × Int)) (k:Nat):List Nat:=(S.take k).flatMap fun p => bytesN p.1.toNat 2 ++ bytesN p.2.toNat 2
def bodyP (s:ByteArray) (n:Nat) (F:List Nat) (S:List (Int × Int)):List Nat:=packH s n F.length ++ packF F F.length ++ bytesN S.length 2 ++ packS S S.length
def packB (s:ByteArray) (n:Nat) (F:List Nat) (S:List (Int × Int)):List Nat:=bodyP s n F S ++ bytesN (tot (bodyP s n F S)).toNat 4
section
variable {s:ByteArray} {n:Nat} {F:List Nat} {S:List (Int × Int)}
theorem packH_len {m:Nat}:(packH s n m).length = 11 + s.size:=by
 unfold packH
 simp only [List.length_append,strB_len,bytesN_len,List.length_cons,List.length_nil]
 omega
theorem packF_next {k:Nat} (hk:k < F.length):packF F (k + 1) = packF F k ++ bytesN (wordF F[k]) 4:=by
 unfold packF
 rw [List.take_succ_eq_append_getElem hk,List.flatMap_append]
 simp
theorem packF_len:∀ k,k ≤ F.length → (packF F k).length = 4 * k
 | 0,_ => rfl
 | k + 1,h => by
  rw [packF_next (by omega),List.length_append,packF_len k (by omega),bytesN_len]
  omega
theorem packS_next {k:Nat} (hk:k < S.length):packS S (k + 1) = packS S k ++ bytesN S[k].1.toNat 2 ++ bytesN S[k].2.toNat 2:=by
 unfold packS
 rw [List.take_succ_eq_append_getElem hk,List.flatMap_append]
 simp
theorem packS_len:∀ k,k ≤ S.length → (packS S k).length = 4 * k
 | 0,_ => rfl
 | k + 1,h => by
  rw [packS_next (by omega),List.length_append,List.length_append,packS_len k (by omega),bytesN_len,bytesN_len]
  omega
theorem bodyP_byt (hs:s.size ≤ 255):Byt (bodyP s n F S):=by
 intro b hb
 unfold bodyP packH packF packS at hb
 simp only [List.mem_append,List.mem_flatMap] at hb
 rcases hb with (((((( hb | hb) | hb) | hb) | hb) | ⟨w,_,hb⟩) | hb) | ⟨p,_,hb | hb⟩
 ·simp at hb;omega
 ·simp at hb;omega
 ·exact strB_byt b hb
 ·exact bytesN_byt b hb
 ·exact bytesN_byt b hb
 ·exact bytesN_byt b hb
 ·exact bytesN_byt b hb
 ·exact bytesN_byt b hb
 ·exact bytesN_byt b hb
end
end Go.Tidy
namespace Go.Tidy
open Go Go.Proofs Tab
variable {tp:TProg}
section
variable {P:Program} {h:TH} {α:Type} {enc:α → List Value} {n0 n:Nat} {v:Value} {e:TypeId} {l:List α} {z:List Value} {row:Bool}
theorem own_pushG {sT:TypeId} {v2:Value} {x:α} (E:Enc enc n) (hu:P.underlying sT = some (.slice e)) (he:Tp P e n z row) (o:OwnF enc n0 h v e l) (s2:SlC h v2 n 1 (enc x)) (f:Free0 n0 h) (hl:l.length < 1000000) (hn0:n0 ≤ h.next) :
  ∃ v' h',appendT P #[sT,sT] #[v,v2] h = some (v',h') ∧ OwnF enc n0 h' v' e (l ++ [x]) ∧ (∀ h0,HX h0 h → h0.next ≤ n0 → HX h0 h') ∧ (∀ c y,bl v ≠ some c → At h c y → At h' c y) ∧ bl v' = some h.next ∧ h.next ≤ h'.next:=by
 rcases o with o | ⟨b,rfl,h2,h3⟩
 ·obtain ⟨v',h',q1,q2,q3,q4,q6,q5⟩:=own_push E hu he o s2 f hl hn0
  exact ⟨v',h',q1,.inl q2,q3,q4,q6,q5⟩
 ·refine ⟨_,_,append_fix hu he h3 (E.cat_len l) s2 (by decide) (by omega) (E.one x),.inl (.inr ⟨by simp,h.next,?_,hn0,?_⟩),fun h0 hx hb => hx.trans (HX.new _ _),fun c y hc ha => ha.hx (HX.new _ _),rfl,Nat.le_succ _⟩
  ·rw [List.length_append];rfl
  ·rw [cat_append,cat_one]
   exact At.new h _
end
section
variable {h hb:TH} {l:List Nat} {v:Value} {n k n0:Nat}
set_option maxHeartbeats 1000000 in
set_option maxRecDepth 10000 in
theorem k127s (H:Has tp) (O:OwnF encY n0 h v 5 l) (hl:l.length ≤ 1000) (hk:k ≤ 8) (X:HX hb h) (hn0:hb.next ≤ n0) (hn1:n0 ≤ h.next) (f:Free0 hb.next hb) :
    CallW Tryz.prog tp (.func (.func 141) #[] #[]) #[v,zi (n:Nat),zi (k:Nat)] h fun w h' => HX hb h' ∧ OwnF encY n0 h' w 5 (l ++ bytesN n k) ∧ h.next ≤ h'.next ∧ ∀ c y,c < h.next → bl v ≠ some c → At h c y → At h' c y:=by
  refine CallW.fnL (H.fn 141 f127 rfl rfl) ?_
  refine WL.sr <| WOL.as rfl <| WOL.nil <| keep [(0,_),(1,_),(2,_)] ⟨rfl,rfl,rfl,trivial⟩ ?_
  refine WL.seq <| WL.sr <| WOL.mv rfl <| WOL.mv rfl <| WOL.nil <| keep [(0,_),(1,_),(2,_),(8,_),(9,_)] ⟨rfl,rfl,rfl,rfl,rfl,trivial⟩ ?_
  refine WL.block ?_
  refine WL.loop (fun q a g => ∃ (i:Nat) (w:Value),i ≤ k ∧ q = k - i ∧ HX hb g ∧ OwnF encY n0 g w 5 (l ++ (List.range i).map (bytN n k)) ∧ h.next ≤ g.next ∧ ((∀ c y,c < h.next → bl v ≠ some c → At h c y → At g c y) ∧ (w = v ∨ ∃ c,bl w = some c ∧ h.next ≤ c)) ∧ Kn [(0,w),(1,zi (n:Nat)),(2,zi (k:Nat)),(8,zi (k:Nat)),(9,zi (i:Nat))] a) k (fun a q => ⟨0,v,by omega,by omega,X,by simpa using O,Nat.le_refl _,⟨fun _ _ _ _ a => a,.inl rfl⟩,q.sub ⟨rfl,rfl,rfl,rfl,rfl,trivial⟩⟩) ?_
  rintro q a g ⟨i,w,hi,rfl,X1,O1,hg,⟨K1,B1⟩,q⟩
  refine q.go ?_
  refine WL.sr <| WOL.bi (v:=.bool (decide ((i:Int) < (k:Int)))) rfl rfl rfl <| WOL.nil <| keep [(0,_),(1,_),(2,_),(8,_),(9,_),(10,_)] ⟨rfl,rfl,rfl,rfl,rfl,rfl,trivial⟩ ?_
  refine WL.seq ?_
  by_cases hlt:i < k
  · rw [show decide ((i:Int) < (k:Int)) = true from decide_eq_true (by omega)]
    refine WL.yes rfl <| WL.skip ?_
    refine WL.seq <| WL.block ?_
    refine WL.sr <| WOL.mv rfl <| WOL.as rfl <| WOL.nil <| keep [(0,_),(1,_),(2,_),(7,_),(8,_),(9,_)] ⟨rfl,rfl,rfl,rfl,rfl,rfl,trivial⟩ ?_
    refine WL.reg ?_
    refine WOL.mv rfl <| WOL.mv rfl <| WOL.mv rfl <| WOL.sub rfl rfl (by omega) (by omega) <| WOL.mv rfl <| WOL.sub rfl rfl (by omega) (by omega) ?_
    refine WOL.bi (v:=zi ((8 * (k - 1 - i):Nat):Int)) rfl rfl (by show some (Value.int .i64 (fwrap .i64 (8 * ((k:Int) - 1 - i)))) = _;rw [fwrap_i64 (by omega) (by omega)];congr 2;omega) ?_
    refine WOL.shr (s:=8 * (k - 1 - i)) rfl rfl (by omega) (by omega) ?_
    refine WOL.cvw u3 u5 rfl ?_
    rw [u8_wrap,show ((n:Nat):Int) / 2 ^ (8 * (k - 1 - i)) % 256 = ((bytN n k i:Nat):Int) by unfold bytN;push_cast;rfl]
    refine WOL.bs1 rfl u116 tp5 rfl fun g1 N1 => ?_
    have f1:Free0 n0 g1:=(f.hx (X1.trans N1.hx)).up hn0
    obtain ⟨w2,g2,ap,O2,x2,k2,b2,n2⟩:=own_pushG (sT:=106) (x:=bytN n k i) eY u116 tp5 (O1.hx N1.hx) (SlC.own (sz:=1) (m:=1) rfl N1.at_) f1 (by simp;omega) (by have:=N1.hx.next;omega)
    refine WOL.ap rfl rfl ap <| WOL.as rfl <| WOL.nil ?_
    refine WL.reg ?_
    refine WOL.bi (v:=zi ((i + 1:Nat):Int)) rfl rfl (by show some (Value.int .i64 (fwrap .i64 ((i:Int) + 1))) = _;rw [fwrap_i64 (by omega) (by omega)];rfl) ?_
    refine WOL.mv rfl <| WOL.nil ?_
    exact fun a q => ⟨k - (i + 1),by omega,i + 1,w2,by omega,rfl,x2 _ (X1.trans N1.hx) hn0,by rw [List.range_succ,List.map_append,← List.append_assoc];exact O2,by have:=N1.hx.next;omega,⟨fun c y h1 h2 a => k2 c y (fun e => by
        rcases B1 with rfl | ⟨c',h3,h4⟩
        · exact h2 e
        · have:=Option.some.inj (h3.symm.trans e);omega) ((K1 c y h1 h2 a).hx N1.hx),.inr ⟨_,b2,by have:=N1.hx.next;omega⟩⟩,q.sub ⟨rfl,rfl,rfl,rfl,rfl,trivial⟩⟩
  · rw [show decide ((i:Int) < (k:Int)) = false from decide_eq_false (by omega)]
    obtain rfl:i = k:=by omega
    refine WL.no rfl <| WL.exit ?_
    refine WL.sr <| WOL.mv rfl <| WOL.as rfl <| WOL.nil ?_
    exact WL.done rfl ⟨X1,O1,hg,K1⟩
end
theorem OwnF.lt {α:Type} {enc:α → List Value} {n0:Nat} {h:TH} {v:Value} {e:TypeId} {l:List α} (o:OwnF enc n0 h v e l) {c:Nat} (hc:bl v = some c):n0 ≤ c ∧ c < h.next:=by
 rcases o with o | ⟨b,rfl,h2,h3⟩
 ·exact o.lt hc
 ·cases hc;exact ⟨h2,h3.lt⟩
def PackA (s:ByteArray) (n:Int) (F:List Nat) (S:List (Int × Int)) (e:Int) (h:TH) (w:Value):Prop :=
 (e ≠ 0 ∧ w = .tuple #[.slice none 0 0,zi e]) ∨ (e = 0 ∧ ∃ w1,w = .tuple #[w1,zi 0] ∧ SlL encY 1 h w1 (packB s n.toNat F S))
structure PkR (s:ByteArray) (n:Int) (F:List Nat) (S:List (Int × Int)):Prop where
 s0:0 < s.size
 s1:s.size ≤ 24
 n0:0 ≤ n
 n1:n ≤ 100000000
 m:F.length ≤ 40
 k:S.length ≤ 12
 hole:∀ p,p ∈ S → 0 ≤ p.1 ∧ 0 ≤ p.2 ∧ p.1 ≤ 40 ∧ p.2 ≤ 40
theorem pkr_of {s:ByteArray} {n:Int} {F:List Nat} {S:List (Int × Int)} {es L:List Int} (hL:firstNZ es = 0 → Lev F L) (h:runE s n F.length S es L = 0) (hs:shortB s F.length S.length = true):PkR s n F S:=by
  have V:=valid_of hL h
  unfold shortB at hs
  simp only [Bool.and_eq_true,Bool.or_eq_true,decide_eq_true_eq,beq_iff_eq] at hs
  obtain ⟨h1,h2,h3⟩:=hs
  have vm:=V.m
  have hm:F.length ≤ 40:=by omega
  have hh:headE s n F.length = 0:=by
    unfold runE at h
    rcases nz_cases (headE s n F.length) with q | q
    · exact q
    · exfalso
      have:headE s n F.length ≠ 0:=by
        intro e;rw [e] at q;cases q
      rw [show (headE s n F.length != 0) = true from bne_iff_ne.2 this] at h
      exact this h
  obtain ⟨hn,a1,a2,_⟩:=headE_zero hh
  unfold nameB at hn
  simp only [Bool.and_eq_true,decide_eq_true_eq] at hn
  refine ⟨by omega,hn.2.1,a1,a2,hm,by omega,fun p hp => ?_⟩
  have:=holeE_in V.hole p hp
  omega
section
variable {s:ByteArray} {n:Int} {v1 v2:Value} {F:List Nat} {S:List (Int × Int)} {es L:List Int} {h:TH}
set_option maxHeartbeats 4000000 in
set_option maxRecDepth 10000 in
theorem k69 (H:Has tp) (X:HasX tp) (Y:HasY tp) (r:RunH h v1 v2 F S) (hE:SErr F es) (hL:firstNZ es = 0 → Lev F L) (hw:∀ w,w ∈ F → w < 4294967296) (hs:shortB s F.length S.length = true) (f:Free0 h.next h) :
  CallW Tryz.prog tp (.func (.func 69) #[] #[]) #[runV s n v1 v2] h fun w h' => HX h h' ∧ PackA s n F S (runE s n F.length S es L) h' w:=by
 have sm:F.length ≤ 1000000 ∧ S.length ≤ 1000000:=by
  have:=short_small hs
  omega
 obtain ⟨bv1,kv1,ev1⟩:=r.f.form
 obtain ⟨bv2,kv2,ev2⟩:=r.s.form
 refine CallW.fnL (H.fn 69 f69 rfl rfl) ?_
 refine WL.sr <| WOL.box rfl fun h1 N1 => WOL.as rfl <| WOL.as rfl <| WOL.nil <| keep [(1,_)] ⟨rfl,trivial⟩ ?_
 have n1:=N1.next
 have A1:At h1 h.next (.cells [.string s,zi n,v1,v2] true true 52):=N1.at_
 refine WL.seq <| WL.sr <| WOL.ld rfl (load_row tp52 A1 rfl (Nat.le_of_ble_eq_true rfl)) ?_
 refine WOL.cl1 rfl rfl ((k41 H X (s:=s) (n:=n) (r.hx N1.hx) hE hL sm.1 sm.2 (f.on N1.hx)).mono ?_)
 rintro w g ⟨rfl,X2⟩
 refine WOL.as rfl <| WOL.nil <| keep [(1,_),(4,_)] ⟨rfl,rfl,trivial⟩ ?_
 refine WL.sr <| WOL.mv rfl <| WOL.bi rfl rfl nzero <| WOL.nil <| keep [(1,_),(4,_),(13,_)] ⟨rfl,rfl,rfl,trivial⟩ ?_
 have Yg:=N1.hx.trans X2
 rcases nz_cases (runE s n F.length S es L) with h0 | h0
 ·rw [h0]
  have pr:=pkr_of hL h0 hs
  obtain ⟨N,rfl⟩:∃ N:Nat,n = (N:Int):=⟨n.toNat,by have:=pr.n0;omega⟩
  have pm:=pr.m
  have pk:=pr.k
  have ps:=pr.s1
  have ps0:=pr.s0
  have pn:=pr.n1
  have Ag:=A1.hx X2
  have fg:=f.on Yg
  have yg:=Yg.next
  refine WL.no rfl <| WL.skip ?_
  -- the heading
  refine WL.sr <| WOL.bsl rfl u116 tp5 (by decide) (by decide) (by decide) (cs:=cat encY [82,85,78,83]) rfl fun g2 N2 => ?_
  have n2:=N2.next
  obtain ⟨g3,cv,P3⟩:=conv_same (m:=4) (cp:=4) N2.at_ ((fg.hx N2.hx)) (Nat.le_refl _) (by decide)
  refine WOL.cvH rfl rfl cv ?_
  have n3:=P3.next
  have X3:HX g g3:=P3.hx _ N2.hx (Nat.le_refl _)
  refine WOL.fa rfl (fa_of fo52_0) <| WOL.ld rfl (load_one tp9 (Ag.hx X3) rfl) <| WOL.lenS rfl u9 <| WOL.cvw u3 u5 rfl ?_
  rw [u8_wrap,Int.emod_eq_of_lt (by omega) (by omega)]
  refine WOL.bs1 rfl u116 tp5 rfl fun g4 N4 => ?_
  have n4:=N4.next
  have X4:=X3.trans N4.hx
  have O3:OwnF encY g.next g3 (.slice (some ⟨g.next,0,none⟩) 4 4) 5 [82,85,78,83]:=.inr ⟨_,rfl,Nat.le_refl _,P3.at_⟩
  obtain ⟨w5,g5,ap5,O5,x5,_,n5⟩:=own_pushF (sT:=106) (x:=s.size) eY u116 tp5 (O3.hx N4.hx) (SlC.own (sz:=1) (m:=1) rfl N4.at_) (fg.hx X4) (by simp) (by omega)
  have X5:=x5 _ X4 (Nat.le_refl _)
  refine WOL.ap rfl rfl ap5 <| WOL.as rfl <| WOL.nil <| keep [(1,_),(5,_)] ⟨rfl,rfl,trivial⟩ ?_
  -- the name
  refine WL.sr <| WOL.mv rfl <| WOL.fa rfl (fa_of fo52_0) <| WOL.ld rfl (load_one tp9 (Ag.hx X5) rfl) ?_
  obtain ⟨w6,g6,ap6,O6,x6,n6⟩:=own_catS (s:=s) O5 (by simp) ps0 (by simp;omega) (fg.hx X5) (by omega)
  have X6:=x6 _ X5 (Nat.le_refl _)
  refine WOL.ap rfl rfl ap6 <| WOL.as rfl <| WOL.nil <| keep [(1,_),(5,_)] ⟨rfl,rfl,trivial⟩ ?_
  have l6:([82,85,78,83] ++ [s.size] ++ strB s).length = 5 + s.size:=by simp [strB_len];omega
  -- numbers
  refine WL.sr <| WOL.mv rfl <| WOL.fa rfl (fa_of fo52_1) <| WOL.ld rfl (load_one tp3 (Ag.hx X6) rfl) ?_
  refine WOL.cl3 rfl rfl rfl rfl ((k127 H (n:=N) (k:=4) O6 (by omega) (by decide) X6 (Nat.le_refl _) (by omega) fg).mono ?_)
  rintro w7 g7 ⟨X7,O7,n7⟩
  refine WOL.as rfl <| WOL.nil <| keep [(1,_),(5,_)] ⟨rfl,rfl,trivial⟩ ?_
  have r7:RunH g7 v1 v2 F S:=r.hx (Yg.trans X7)
  refine WL.sr <| WOL.mv rfl <| WOL.fa rfl (fa_of fo52_2) <| WOL.ld rfl (load_one tp43 (Ag.hx X7) rfl) <| WOL.len rfl r7.f u43 ?_
  refine WOL.cl3 rfl rfl rfl rfl ((k127 H (n:=F.length) (k:=2) O7 (by rw [List.length_append,bytesN_len];omega) (by decide) X7 (Nat.le_refl _) (by omega) fg).mono ?_)
  rintro w8 g8 ⟨X8,O8,n8⟩
  refine WOL.as rfl <| WOL.nil <| keep [(1,_),(5,_)] ⟨rfl,rfl,trivial⟩ ?_
  have O8':OwnF encY g.next g8 w8 5 (packH s N F.length):=O8
  have r8:RunH g8 v1 v2 F S:=r.hx (Yg.trans X8)
  have lH:=packH_len (s:=s) (n:=N) (m:=F.length)
  -- samples
  refine WL.seq <| WL.sr <| WOL.fa rfl (fa_of fo52_2) <| WOL.ld rfl (load_one tp43 (Ag.hx X8) rfl) <| WOL.len rfl r8.f u43 <| WOL.mv rfl <| WOL.nil <| keep [(1,_),(5,_),(37,_),(38,_),(39,_)] ⟨rfl,rfl,rfl,rfl,rfl,trivial⟩ ?_
  refine WL.block ?_
  refine WL.loop (fun q a g' => ∃ (j:Nat) (w:Value),j ≤ F.length ∧ q = F.length - j ∧ HX g g' ∧ OwnF encY g.next g' w 5 (packH s N F.length ++ packF F j) ∧ g.next ≤ g'.next ∧ Kn [(1,ptr h.next),(5,w),(37,v1),(38,zi (F.length:Nat)),(39,zi (j:Nat))] a) F.length (fun a q => ⟨0,w8,by omega,by omega,X8,by rw [show packF F 0 = [] from rfl,List.append_nil];exact O8',by omega,q.sub ⟨rfl,rfl,rfl,rfl,rfl,trivial⟩⟩) ?_
  rintro q a g9 ⟨j,w9,hj,rfl,X9,O9,n9,q⟩
  refine q.go ?_
  refine WL.sr <| WOL.bi (v:=.bool (decide ((j:Int) < (F.length:Int)))) rfl rfl rfl <| WOL.nil <| keep [(1,_),(5,_),(37,_),(38,_),(39,_),(40,_)] ⟨rfl,rfl,rfl,rfl,rfl,rfl,trivial⟩ ?_
  refine WL.seq ?_
  have lF:=packF_len (F:=F) j hj
  by_cases hlt:j < F.length
  ·rw [show decide ((j:Int) < (F.length:Int)) = true from decide_eq_true (by omega)]
   have hp:F[j]? = some F[j]:=List.getElem?_eq_getElem hlt
   obtain ⟨b,o,cc,fix,wr,el,g1',g2',g3',g4',g5'⟩:=((r.hx (Yg.trans X9)).f).at eF u43 tp25 hp .i64
   refine WL.yes rfl <| WL.skip ?_
   refine WL.seq <| WL.block ?_
   refine WL.sr <| WOL.ix rfl rfl g1' <| WOL.ld rfl (load_one tp25 g2' (g5' 0 (by decide))) <| WOL.as rfl <| WOL.nil <| keep [(1,_),(5,_),(7,_),(37,_),(38,_),(39,_)] ⟨rfl,rfl,rfl,rfl,rfl,rfl,trivial⟩ ?_
   refine WL.reg <| WOL.mv rfl <| WOL.mv rfl ?_
   refine WOL.cl2 rfl rfl rfl ((k128 H Y (hw _ (List.getElem_mem hlt)) O9 (by rw [List.length_append];omega) X9 (Nat.le_refl _) n9 fg).mono ?_)
   rintro w10 g10 ⟨X10,O10,n10⟩
   refine WOL.as rfl <| WOL.nil <| keep [(1,_),(5,_),(37,_),(38,_),(39,_)] ⟨rfl,rfl,rfl,rfl,rfl,trivial⟩ ?_
   refine WL.reg ?_
   refine WOL.bi (v:=zi ((j + 1:Nat):Int)) rfl rfl (by show some (Value.int .i64 (fwrap .i64 ((j:Int) + 1))) = _;rw [fwrap_i64 (by omega) (by omega)];rfl) ?_
   refine WOL.mv rfl <| WOL.nil ?_
   exact fun a q => ⟨F.length - (j + 1),by omega,j + 1,w10,by omega,rfl,X10,by rw [packF_next hlt,← List.append_assoc];exact O10,by omega,q.sub ⟨rfl,rfl,rfl,rfl,rfl,trivial⟩⟩
  rw [show decide ((j:Int) < (F.length:Int)) = false from decide_eq_false (by omega)]
  obtain rfl:j = F.length:=by omega
  refine WL.no rfl <| WL.exit ?_
  -- holes
  have r9:RunH g9 v1 v2 F S:=r.hx (Yg.trans X9)
  refine WL.sr <| WOL.mv rfl <| WOL.fa rfl (fa_of fo52_3) <| WOL.ld rfl (load_one tp44 (Ag.hx X9) rfl) <| WOL.len rfl r9.s u44 ?_
  refine WOL.cl3 rfl rfl rfl rfl ((k127 H (n:=S.length) (k:=2) O9 (by rw [List.length_append];omega) (by decide) X9 (Nat.le_refl _) (by omega) fg).mono ?_)
  rintro w11 g11 ⟨X11,O11,n11⟩
  refine WOL.as rfl <| WOL.nil <| keep [(1,_),(5,_)] ⟨rfl,rfl,trivial⟩ ?_
  have r11:RunH g11 v1 v2 F S:=r.hx (Yg.trans X11)
  refine WL.seq <| WL.sr <| WOL.fa rfl (fa_of fo52_3) <| WOL.ld rfl (load_one tp44 (Ag.hx X11) rfl) <| WOL.len rfl r11.s u44 <| WOL.mv rfl <| WOL.nil <| keep [(5,_),(53,_),(54,_),(55,_)] ⟨rfl,rfl,rfl,rfl,trivial⟩ ?_
  refine WL.block ?_
  have lB:(packH s N F.length ++ packF F F.length ++ bytesN S.length 2).length = 13 + s.size + 4 * F.length:=by
   rw [List.length_append,List.length_append,bytesN_len,lH,lF];omega
  refine WL.loop (fun q a g' => ∃ (j:Nat) (w:Value),j ≤ S.length ∧ q = S.length - j ∧ HX g g' ∧ OwnF encY g.next g' w 5 (packH s N F.length ++ packF F F.length ++ bytesN S.length 2 ++ packS S j) ∧ g.next ≤ g'.next ∧ Kn [(5,w),(53,v2),(54,zi (S.length:Nat)),(55,zi (j:Nat))] a) S.length (fun a q => ⟨0,w11,by omega,by omega,X11,by rw [show packS S 0 = [] from rfl,List.append_nil];exact O11,by omega,q.sub ⟨rfl,rfl,rfl,rfl,trivial⟩⟩) ?_
  rintro q a g12 ⟨j,w12,hj,rfl,X12,O12,n12,q⟩
  refine q.go ?_
  refine WL.sr <| WOL.bi (v:=.bool (decide ((j:Int) < (S.length:Int)))) rfl rfl rfl <| WOL.nil <| keep [(5,_),(53,_),(54,_),(55,_),(56,_)] ⟨rfl,rfl,rfl,rfl,rfl,trivial⟩ ?_
  refine WL.seq ?_
  have lS:=packS_len (S:=S) j hj
  by_cases hlt:j < S.length
  ·rw [show decide ((j:Int) < (S.length:Int)) = true from decide_eq_true (by omega)]
   have hp:S[j]? = some S[j]:=List.getElem?_eq_getElem hlt
   obtain ⟨i1,i2,_,_⟩:=pr.hole _ (List.getElem_mem hlt)
   obtain ⟨b,o,cc,fix,wr,el,g1',g2',g3',g4',g5'⟩:=((r.hx (Yg.trans X12)).s).at eS u44 tp48 hp .i64
   refine WL.yes rfl <| WL.skip ?_
   refine WL.seq <| WL.block ?_
   refine WL.sr <| WOL.ix rfl rfl g1' <| WOL.ld rfl (load_row tp48 g2' g4' g3') ?_
   refine WOL.al tp48 fun g13 N13 => ?_
   have n13:=N13.next
   refine WOL.sto (vs:=encS S[j]) rfl rfl tp48 N13.at_ rfl rfl (Nat.le_of_ble_eq_true rfl) rfl ((fg.hx X12).hx N13.hx) n12 fun g14 P14 => ?_
   have n14:=P14.next
   have X14:HX g12 g14:=P14.hx _ N13.hx (Nat.le_refl _)
   have A14:At g14 g12.next (.cells (encS S[j]) true true 48):=P14.at_
   have Z14:=X12.trans X14
   refine WOL.nil <| keep [(5,_),(9,_),(53,_),(54,_),(55,_)] ⟨rfl,rfl,rfl,rfl,rfl,trivial⟩ ?_
   refine WL.sr <| WOL.mv rfl <| WOL.fa rfl (fa_of fo48_0) <| WOL.ld rfl (load_one tp3 A14 rfl) ?_
   rw [show (S[j].1:Int) = ((S[j].1.toNat:Nat):Int) by omega]
   refine WOL.cl3 rfl rfl rfl rfl ((k127s H (n:=S[j].1.toNat) (k:=2) (O12.hx X14) (by rw [List.length_append];omega) (by decide) Z14 (Nat.le_refl _) (by omega) fg).mono ?_)
   rintro w15 g15 ⟨X15,O15,n15,K15⟩
   have A15:=K15 _ _ A14.lt (fun e => by have:=O12.lt e;omega) A14
   refine WOL.as rfl <| WOL.nil <| keep [(5,_),(9,_),(53,_),(54,_),(55,_)] ⟨rfl,rfl,rfl,rfl,rfl,trivial⟩ ?_
   refine WL.reg <| WOL.mv rfl <| WOL.fa rfl (fa_of fo48_1) <| WOL.ld rfl (load_one tp3 A15 rfl) ?_
   rw [show (S[j].2:Int) = ((S[j].2.toNat:Nat):Int) by omega]
   refine WOL.cl3 rfl rfl rfl rfl ((k127 H (n:=S[j].2.toNat) (k:=2) O15 (by rw [List.length_append,List.length_append,bytesN_len];omega) (by decide) X15 (Nat.le_refl _) (by omega) fg).mono ?_)
   rintro w16 g16 ⟨X16,O16,n16⟩
   refine WOL.as rfl <| WOL.nil <| keep [(5,_),(53,_),(54,_),(55,_)] ⟨rfl,rfl,rfl,rfl,trivial⟩ ?_
   refine WL.reg ?_
   refine WOL.bi (v:=zi ((j + 1:Nat):Int)) rfl rfl (by show some (Value.int .i64 (fwrap .i64 ((j:Int) + 1))) = _;rw [fwrap_i64 (by omega) (by omega)];rfl) ?_
   refine WOL.mv rfl <| WOL.nil ?_
   exact fun a q => ⟨S.length - (j + 1),by omega,j + 1,w16,by omega,rfl,X16,by rw [packS_next hlt,← List.append_assoc,← List.append_assoc];exact O16,by omega,q.sub ⟨rfl,rfl,rfl,rfl,trivial⟩⟩
  rw [show decide ((j:Int) < (S.length:Int)) = false from decide_eq_false (by omega)]
  obtain rfl:j = S.length:=by omega
  refine WL.no rfl <| WL.exit ?_
  have lb:(bodyP s N F S).length ≤ 1000:=by
   unfold bodyP
   rw [List.length_append]
   omega
  have O12':OwnF encY g.next g12 w12 5 (bodyP s N F S):=O12
  obtain ⟨bo,ew⟩:=OwnF.form O12'
  subst ew
  refine WL.sr <| WOL.mv rfl <| WOL.mv rfl ?_
  refine WOL.cl1 rfl rfl ((k129 H (O12'.sl eY) (bodyP_byt (by omega)) (by omega) (f.on (Yg.trans X12))).mono ?_)
  rintro w16 g16 ⟨rfl,X16⟩
  have ti:=tot_in (bodyP s N F S) (bodyP s N F S).length
  rw [List.take_length] at ti
  rw [show tot (bodyP s N F S) = (((tot (bodyP s N F S)).toNat:Nat):Int) by omega]
  refine WOL.cl3 rfl rfl rfl rfl ((k127 H (n:=(tot (bodyP s N F S)).toNat) (k:=4) (O12'.hx X16) (by omega) (by decide) (X12.trans X16) (Nat.le_refl _) (by have:=X16.next;omega) fg).mono ?_)
  rintro w17 g17 ⟨X17,O17,n17⟩
  refine WOL.as rfl <| WOL.as rfl <| WOL.nil ?_
  exact WL.done rfl ⟨Yg.trans X17,.inr ⟨rfl,_,rfl,O17.sl eY⟩⟩
 ·rw [h0]
  refine WL.yes rfl <| WL.sr <| WOL.mv rfl <| WOL.as rfl <| WOL.as rfl <| WOL.nil ?_
  exact WL.ret (WL.end_ rfl ⟨Yg,.inl ⟨fun e => (by rw [e] at h0;cases h0),rfl⟩⟩)
end
end Go.Tidy
namespace Go.Tidy
open Go Go.Proofs Tab
variable {tp:TProg}
section
variable {s:ByteArray} {n:Int} {v1 v2:Value} {F:List Nat} {S:List (Int × Int)} {h:TH}
set_option maxHeartbeats 4000000 in
set_option maxRecDepth 10000 in
theorem k1022 (H:Has tp) (Y:HasY tp) (r:RunH h v1 v2 F S) (hw:∀ w,w ∈ F → w < 4294967296) (pr:PkR s n F S) (f:Free0 h.next h) :
  CallW Tryz.prog tp (.func (.func 71) #[] #[]) #[runV s n v1 v2] h fun w h' => HX h h' ∧ SlL encY 1 h' w (packB s n.toNat F S):=by
 obtain ⟨bv1,kv1,ev1⟩:=r.f.form
 obtain ⟨bv2,kv2,ev2⟩:=r.s.form
 obtain ⟨N,rfl⟩:∃ N:Nat,n = (N:Int):=⟨n.toNat,by have:=pr.n0;omega⟩
 have pm:=pr.m
 have pk:=pr.k
 have ps:=pr.s1
 have ps0:=pr.s0
 have pn:=pr.n1
 refine CallW.fnL (H.fn 71 f1022 rfl rfl) ?_
 refine WL.sr <| WOL.box rfl fun g N1 => WOL.as rfl <| WOL.nil <| keep [(1,_)] ⟨rfl,trivial⟩ ?_
 have n1:=N1.next
 have Ag:At g h.next (.cells [.string s,zi N,v1,v2] true true 46):=N1.at_
 have Yg:=N1.hx
 have fg:=f.on Yg
 -- the heading
 refine WL.sr <| WOL.bsl rfl u116 tp5 (by decide) (by decide) (by decide) (cs:=cat encY [82,85,78,83]) rfl fun g2 N2 => ?_
 have n2:=N2.next
 obtain ⟨g3,cv,P3⟩:=conv_same (m:=4) (cp:=4) N2.at_ ((fg.hx N2.hx)) (Nat.le_refl _) (by decide)
 refine WOL.cvH rfl rfl cv ?_
 have n3:=P3.next
 have X3:HX g g3:=P3.hx _ N2.hx (Nat.le_refl _)
 refine WOL.fa rfl (fa_of fo46_0) <| WOL.ld rfl (load_one tp9 (Ag.hx X3) rfl) <| WOL.lenS rfl u9 <| WOL.cvw u3 u5 rfl ?_
 rw [u8_wrap,Int.emod_eq_of_lt (by omega) (by omega)]
 refine WOL.bs1 rfl u116 tp5 rfl fun g4 N4 => ?_
 have n4:=N4.next
 have X4:=X3.trans N4.hx
 have O3:OwnF encY g.next g3 (.slice (some ⟨g.next,0,none⟩) 4 4) 5 [82,85,78,83]:=.inr ⟨_,rfl,Nat.le_refl _,P3.at_⟩
 obtain ⟨w5,g5,ap5,O5,x5,_,n5⟩:=own_pushF (sT:=106) (x:=s.size) eY u116 tp5 (O3.hx N4.hx) (SlC.own (sz:=1) (m:=1) rfl N4.at_) (fg.hx X4) (by simp) (by omega)
 have X5:=x5 _ X4 (Nat.le_refl _)
 refine WOL.ap rfl rfl ap5 <| WOL.as rfl <| WOL.nil <| keep [(1,_),(3,_)] ⟨rfl,rfl,trivial⟩ ?_
 -- the name
 refine WL.sr <| WOL.mv rfl <| WOL.fa rfl (fa_of fo46_0) <| WOL.ld rfl (load_one tp9 (Ag.hx X5) rfl) ?_
 obtain ⟨w6,g6,ap6,O6,x6,n6⟩:=own_catS (s:=s) O5 (by simp) ps0 (by simp;omega) (fg.hx X5) (by omega)
 have X6:=x6 _ X5 (Nat.le_refl _)
 refine WOL.ap rfl rfl ap6 <| WOL.as rfl <| WOL.nil <| keep [(1,_),(3,_)] ⟨rfl,rfl,trivial⟩ ?_
 have l6:([82,85,78,83] ++ [s.size] ++ strB s).length = 5 + s.size:=by simp [strB_len];omega
 -- numbers
 refine WL.sr <| WOL.mv rfl <| WOL.fa rfl (fa_of fo46_1) <| WOL.ld rfl (load_one tp3 (Ag.hx X6) rfl) ?_
 refine WOL.cl2 rfl rfl rfl ((k1029 H (n:=N) (k:=4) (by decide) (f.on (Yg.trans X6))).mono ?_)
 rintro w7 g7 ⟨X7,O7⟩
 have Z7:=X6.trans X7
 have z7:=Z7.next
 obtain ⟨w8,g8,ap8,O8,x8,n8⟩:=own_catF (sT:=106) eY u116 tp5 (O6.hx X7) (O7.sl eY) (by rw [bytesN_len];decide) (fg.hx Z7) (by rw [bytesN_len];omega) z7
 have X8:=x8 _ Z7 (Nat.le_refl _)
 refine WOL.ap rfl rfl ap8 <| WOL.as rfl <| WOL.nil <| keep [(1,_),(3,_)] ⟨rfl,rfl,trivial⟩ ?_
 have r8:RunH g8 v1 v2 F S:=r.hx (Yg.trans X8)
 refine WL.sr <| WOL.mv rfl <| WOL.fa rfl (fa_of fo46_2) <| WOL.ld rfl (load_one tp43 (Ag.hx X8) rfl) <| WOL.len rfl r8.f u43 ?_
 refine WOL.cl2 rfl rfl rfl ((k1029 H (n:=F.length) (k:=2) (by decide) (f.on (Yg.trans X8))).mono ?_)
 rintro w9 g9 ⟨X9,O9⟩
 have Z9:=X8.trans X9
 have z9:=Z9.next
 obtain ⟨w10,g10,ap10,O10,x10,n10⟩:=own_catF (sT:=106) eY u116 tp5 (O8.hx X9) (O9.sl eY) (by rw [bytesN_len];decide) (fg.hx Z9) (by rw [List.length_append,bytesN_len,bytesN_len];omega) z9
 have X10:=x10 _ Z9 (Nat.le_refl _)
 refine WOL.ap rfl rfl ap10 <| WOL.as rfl <| WOL.nil <| keep [(1,_),(3,_)] ⟨rfl,rfl,trivial⟩ ?_
 have O10':OwnF encY g.next g10 w10 5 (packH s N F.length):=O10
 have lH:=packH_len (s:=s) (n:=N) (m:=F.length)
 have x10n:=X10.next
 -- samples
 refine WL.seq <| WL.sr <| WOL.as rfl <| WOL.nil <| keep [(1,_),(3,_),(4,_)] ⟨rfl,rfl,rfl,trivial⟩ ?_
 refine WL.block ?_
 refine WL.loop (fun q a g' => ∃ (j:Nat) (w:Value),j ≤ F.length ∧ q = F.length - j ∧ HX g g' ∧ OwnF encY g.next g' w 5 (packH s N F.length ++ packF F j) ∧ Kn [(1,ptr h.next),(3,w),(4,zi (j:Nat))] a) F.length (fun a q => ⟨0,w10,by omega,by omega,X10,by rw [show packF F 0 = [] from rfl,List.append_nil];exact O10',q.sub ⟨rfl,rfl,rfl,trivial⟩⟩) ?_
 rintro q a g11 ⟨j,w11,hj,rfl,X11,O11,q⟩
 refine q.go ?_
 have r11:RunH g11 v1 v2 F S:=r.hx (Yg.trans X11)
 have x11:=X11.next
 refine WL.seq <| WL.sr <| WOL.mv rfl <| WOL.fa rfl (fa_of fo46_2) <| WOL.ld rfl (load_one tp43 (Ag.hx X11) rfl) <| WOL.len rfl r11.f u43 ?_
 refine WOL.bi (v:=.bool (decide ((j:Int) < (F.length:Int)))) rfl rfl rfl <| WOL.nil <| keep [(1,_),(3,_),(4,_),(34,_)] ⟨rfl,rfl,rfl,rfl,trivial⟩ ?_
 have lF:=packF_len (F:=F) j hj
 by_cases hlt:j < F.length
 ·rw [show decide ((j:Int) < (F.length:Int)) = true from decide_eq_true (by omega)]
  have hp:F[j]? = some F[j]:=List.getElem?_eq_getElem hlt
  obtain ⟨b,o,cc,fix,wr,el,g1',g2',g3',g4',g5'⟩:=r11.f.at eF u43 tp25 hp .i64
  refine WL.yes rfl <| WL.skip ?_
  refine WL.seq <| WL.block <| WL.reg ?_
  refine WOL.mv rfl <| WOL.fa rfl (fa_of fo46_2) <| WOL.ld rfl (load_one tp43 (Ag.hx X11) rfl) <| WOL.mv rfl <| WOL.ix rfl rfl g1' <| WOL.ld rfl (load_one tp25 g2' (g5' 0 (by decide))) ?_
  refine WOL.cl1 rfl rfl ((k1030 H Y (hw _ (List.getElem_mem hlt)) (f.on (Yg.trans X11))).mono ?_)
  rintro w12 g12 ⟨X12,s12⟩
  have Z12:=X11.trans X12
  have z12:=Z12.next
  obtain ⟨w13,g13,ap13,O13,x13,n13⟩:=own_catF (sT:=106) eY u116 tp5 (O11.hx X12) s12 (by rw [bytesN_len];decide) (fg.hx Z12) (by rw [List.length_append,bytesN_len];omega) z12
  refine WOL.ap rfl rfl ap13 <| WOL.as rfl <| WOL.nil <| keep [(1,_),(3,_),(4,_)] ⟨rfl,rfl,rfl,trivial⟩ ?_
  refine WL.reg <| WOL.mv rfl ?_
  refine WOL.bi (v:=zi ((j + 1:Nat):Int)) rfl rfl (by show some (Value.int .i64 (fwrap .i64 ((j:Int) + 1))) = _;rw [fwrap_i64 (by omega) (by omega)];rfl) ?_
  refine WOL.as rfl <| WOL.nil ?_
  exact fun a q => ⟨F.length - (j + 1),by omega,j + 1,w13,by omega,rfl,x13 _ Z12 (Nat.le_refl _),by rw [packF_next hlt,← List.append_assoc];exact O13,q.sub ⟨rfl,rfl,rfl,trivial⟩⟩
 rw [show decide ((j:Int) < (F.length:Int)) = false from decide_eq_false (by omega)]
 obtain rfl:j = F.length:=by omega
 refine WL.no rfl <| WL.exit ?_
 -- holes
 refine WL.sr <| WOL.mv rfl <| WOL.fa rfl (fa_of fo46_3) <| WOL.ld rfl (load_one tp44 (Ag.hx X11) rfl) <| WOL.len rfl r11.s u44 ?_
 refine WOL.cl2 rfl rfl rfl ((k1029 H (n:=S.length) (k:=2) (by decide) (f.on (Yg.trans X11))).mono ?_)
 rintro w12 g12 ⟨X12,O12⟩
 have Z12:=X11.trans X12
 have z12:=Z12.next
 obtain ⟨w13,g13,ap13,O13,x13,n13⟩:=own_catF (sT:=106) eY u116 tp5 (O11.hx X12) (O12.sl eY) (by rw [bytesN_len];decide) (fg.hx Z12) (by rw [List.length_append,bytesN_len];omega) z12
 have X13:=x13 _ Z12 (Nat.le_refl _)
 refine WOL.ap rfl rfl ap13 <| WOL.as rfl <| WOL.nil <| keep [(1,_),(3,_)] ⟨rfl,rfl,trivial⟩ ?_
 refine WL.seq <| WL.sr <| WOL.as rfl <| WOL.nil <| keep [(1,_),(3,_),(5,_)] ⟨rfl,rfl,rfl,trivial⟩ ?_
 refine WL.block ?_
 have lB:(packH s N F.length ++ packF F F.length ++ bytesN S.length 2).length = 13 + s.size + 4 * F.length:=by
  rw [List.length_append,List.length_append,bytesN_len,lH,lF];omega
 refine WL.loop (fun q a g' => ∃ (j:Nat) (w:Value),j ≤ S.length ∧ q = S.length - j ∧ HX g g' ∧ OwnF encY g.next g' w 5 (packH s N F.length ++ packF F F.length ++ bytesN S.length 2 ++ packS S j) ∧ Kn [(1,ptr h.next),(3,w),(5,zi (j:Nat))] a) S.length (fun a q => ⟨0,w13,by omega,by omega,X13,by rw [show packS S 0 = [] from rfl,List.append_nil];exact O13,q.sub ⟨rfl,rfl,rfl,trivial⟩⟩) ?_
 rintro q a g14 ⟨j,w14,hj,rfl,X14,O14,q⟩
 refine q.go ?_
 have r14:RunH g14 v1 v2 F S:=r.hx (Yg.trans X14)
 refine WL.seq <| WL.sr <| WOL.mv rfl <| WOL.fa rfl (fa_of fo46_3) <| WOL.ld rfl (load_one tp44 (Ag.hx X14) rfl) <| WOL.len rfl r14.s u44 ?_
 refine WOL.bi (v:=.bool (decide ((j:Int) < (S.length:Int)))) rfl rfl rfl <| WOL.nil <| keep [(1,_),(3,_),(5,_),(55,_)] ⟨rfl,rfl,rfl,rfl,trivial⟩ ?_
 have lS:=packS_len (S:=S) j hj
 by_cases hlt:j < S.length
 ·rw [show decide ((j:Int) < (S.length:Int)) = true from decide_eq_true (by omega)]
  have hp:S[j]? = some S[j]:=List.getElem?_eq_getElem hlt
  obtain ⟨i1,i2,_,_⟩:=pr.hole _ (List.getElem_mem hlt)
  obtain ⟨b,o,cc,fix,wr,el,g1',g2',g3',g4',g5'⟩:=r14.s.at eS u44 tp48 hp .i64
  refine WL.yes rfl <| WL.skip ?_
  refine WL.seq <| WL.block <| WL.sr ?_
  refine WOL.mv rfl <| WOL.fa rfl (fa_of fo46_3) <| WOL.ld rfl (load_one tp44 (Ag.hx X14) rfl) <| WOL.mv rfl <| WOL.ix rfl rfl g1' <| WOL.fa rfl (fa_of fo48_0) <| WOL.ld rfl (load_one tp3 g2' (g5' 0 (by decide))) ?_
  rw [show (S[j].1:Int) = ((S[j].1.toNat:Nat):Int) by omega]
  refine WOL.cl2 rfl rfl rfl ((k1029 H (n:=S[j].1.toNat) (k:=2) (by decide) (f.on (Yg.trans X14))).mono ?_)
  rintro w15 g15 ⟨X15,O15⟩
  have Z15:=X14.trans X15
  have z15:=Z15.next
  obtain ⟨w16,g16,ap16,O16,x16,n16⟩:=own_catF (sT:=106) eY u116 tp5 (O14.hx X15) (O15.sl eY) (by rw [bytesN_len];decide) (fg.hx Z15) (by rw [List.length_append,bytesN_len];omega) z15
  have X16:=x16 _ Z15 (Nat.le_refl _)
  refine WOL.ap rfl rfl ap16 <| WOL.as rfl <| WOL.nil <| keep [(1,_),(3,_),(5,_)] ⟨rfl,rfl,rfl,trivial⟩ ?_
  have r16:RunH g16 v1 v2 F S:=r.hx (Yg.trans X16)
  obtain ⟨b,o,cc,fix,wr,el,g1',g2',g3',g4',g5'⟩:=r16.s.at eS u44 tp48 hp .i64
  refine WL.reg ?_
  refine WOL.mv rfl <| WOL.fa rfl (fa_of fo46_3) <| WOL.ld rfl (load_one tp44 (Ag.hx X16) rfl) <| WOL.mv rfl <| WOL.ix rfl rfl g1' <| WOL.fa rfl (fa_of fo48_1) <| WOL.ld rfl (load_one tp3 g2' (g5' 1 (by decide))) ?_
  rw [show (S[j].2:Int) = ((S[j].2.toNat:Nat):Int) by omega]
  refine WOL.cl2 rfl rfl rfl ((k1029 H (n:=S[j].2.toNat) (k:=2) (by decide) (f.on (Yg.trans X16))).mono ?_)
  rintro w17 g17 ⟨X17,O17⟩
  have Z17:=X16.trans X17
  have z17:=Z17.next
  obtain ⟨w18,g18,ap18,O18,x18,n18⟩:=own_catF (sT:=106) eY u116 tp5 (O16.hx X17) (O17.sl eY) (by rw [bytesN_len];decide) (fg.hx Z17) (by rw [List.length_append,List.length_append,bytesN_len,bytesN_len];omega) z17
  refine WOL.ap rfl rfl ap18 <| WOL.as rfl <| WOL.nil <| keep [(1,_),(3,_),(5,_)] ⟨rfl,rfl,rfl,trivial⟩ ?_
  refine WL.reg <| WOL.mv rfl ?_
  refine WOL.bi (v:=zi ((j + 1:Nat):Int)) rfl rfl (by show some (Value.int .i64 (fwrap .i64 ((j:Int) + 1))) = _;rw [fwrap_i64 (by omega) (by omega)];rfl) ?_
  refine WOL.as rfl <| WOL.nil ?_
  exact fun a q => ⟨S.length - (j + 1),by omega,j + 1,w18,by omega,rfl,x18 _ Z17 (Nat.le_refl _),by rw [packS_next hlt,← List.append_assoc,← List.append_assoc];exact O18,q.sub ⟨rfl,rfl,rfl,trivial⟩⟩
 rw [show decide ((j:Int) < (S.length:Int)) = false from decide_eq_false (by omega)]
 obtain rfl:j = S.length:=by omega
 refine WL.no rfl <| WL.exit ?_
 have lb:(bodyP s N F S).length ≤ 1000:=by
  unfold bodyP
  rw [List.length_append]
  omega
 have O14':OwnF encY g.next g14 w14 5 (bodyP s N F S):=O14
 refine WL.sr <| WOL.mv rfl ?_
 refine WOL.cl1 rfl rfl ((k70 H (O14'.sl eY) (bodyP_byt (by omega)) (by omega)).mono ?_)
 rintro w16 g16 ⟨rfl,e16⟩
 replace e16:=e16.symm
 subst e16
 refine WOL.as rfl <| WOL.nil <| keep [(3,_),(6,_)] ⟨rfl,rfl,trivial⟩ ?_
 have ti:=tot_in (bodyP s N F S) (bodyP s N F S).length
 rw [List.take_length] at ti
 rw [show tot (bodyP s N F S) = (((tot (bodyP s N F S)).toNat:Nat):Int) by omega]
 refine WL.sr <| WOL.mv rfl <| WOL.mv rfl ?_
 refine WOL.cl2 rfl rfl rfl ((k1029 H (n:=(tot (bodyP s N F S)).toNat) (k:=4) (by decide) (f.on (Yg.trans X14))).mono ?_)
 rintro w17 g17 ⟨X17,O17⟩
 have Z17:=X14.trans X17
 have z17:=Z17.next
 obtain ⟨w18,g18,ap18,O18,x18,n18⟩:=own_catF (sT:=106) eY u116 tp5 (O14'.hx X17) (O17.sl eY) (by rw [bytesN_len];decide) (fg.hx Z17) (by rw [bytesN_len];omega) z17
 refine WOL.ap rfl rfl ap18 <| WOL.as rfl <| WOL.nil ?_
 exact WL.done rfl ⟨Yg.trans (x18 _ Z17 (Nat.le_refl _)),O18.sl eY⟩
end
end Go.Tidy
namespace Go.Tidy
open Go Go.Proofs Tab
variable {tp:TProg}
section
variable {P:Program} {h:TH} {K:Regs → TH → Prop} {rest:List TOper} {d:Option Tmp} {ty:TypeId} {i:Nat} {x:Operand} {L:Rg} {q:Addr} {t e:TypeId} {n:Nat} {z:List Value} {row:Bool}
theorem WOL.nc (hx:getL L x = some (.pointer (some q))) (w:∀ a,Kn (putL L d (.pointer (some q))) a → WO P tp rest a h K):∀ a,Kn L a → WO P tp (⟨d,.nilCheck x,ty,none,[],i⟩ :: rest) a h K:=fun a k =>
 WO.op (h1:=h) rfl rfl (fun call => by simp [stepOp,heapFirst,fastOp,valueOp,getO_eval (k.o hx)]) (w _ (k.put d _))
theorem WOL.stP {v:Value} {y:Operand} {b off:Nat} {c vs:List Value} {fix:Bool} {el:TypeId} (hx:getL L x = some (.pointer (some ⟨b,off,none⟩))) (hy:getL L y = some v) (he:Tp P t n z row) (hg:At h b (.cells c fix true el)) (hv:v.cells.toList = vs) (hn:vs.length = n) (ho:off + n ≤ c.length) (h1:vs.all oneCell = true) (hfl:h.floor ≤ b) (hnl:b ∉ h.lock)
  (w:∀ h',Put h h' b (.cells (splice c off vs) fix true el) → ∀ a,Kn (putL L d undef) a → WO P tp rest a h' K):∀ a,Kn L a → WO P tp (⟨d,.store t x y,ty,none,[],i⟩ :: rest) a h K:=by
 obtain ⟨inf,q1,q2,_⟩:=he.i
 have e1:Nat.beq v.cells.size inf.size = true:=by
  rw [q2,← hn,← hv];simp
 have e2:Nat.ble (off + vs.length) c.length = true:=by rw [Nat.ble_eq,hn];exact ho
 have hp:h.put b (.cells (splice c off vs) fix true el) = some (h.upd b (.cells (splice c off vs) fix true el)):=TH.put_upd hfl hg.lt hnl
 have hs:storeT P t (.pointer (some ⟨b,off,none⟩)) v h = some (h.upd b (.cells (splice c off vs) fix true el)):=by
  simp only [storeT,q1,e1,Bool.cond_true,putCells,hg.get,hv,e2,h1,Bool.and_self]
  exact hp
 exact WOL.st hx hy hs (w _ (Put.mk' hg _))
theorem bound_in {q:IntKind} {r dflt upper:Nat} (hr:r ≤ upper):boundT (some (.int q (r:Nat))) dflt upper = some r:=by
 have d1:decide (0 ≤ (r:Int)) = true:=decide_eq_true (Int.natCast_nonneg _)
 have d2:decide ((r:Int) ≤ (upper:Int)) = true:=decide_eq_true (Int.ofNat_le.2 hr)
 simp only [boundT,d1,d2,Bool.and_self,Bool.cond_true,Int.toNat_natCast]
theorem fits_of {b:Nat} {cc:List Value} {fix wr:Bool} {el:TypeId} (hb:At h b (.cells cc fix wr el)) (hf:fix = true ∨ el = e):elemFits h b e = true:=by
 unfold elemFits
 rw [hb.get]
 rcases hf with rfl | rfl
 ·rfl
 ·simp
theorem sliceT_to {b off m cap hi:Nat} {k:IntKind} {cc:List Value} {fix wr:Bool} {el:TypeId} (hu:P.underlying t = some (.slice e)) (he:Tp P e n z row) (hc:m ≤ cap) (h2:hi ≤ m) (hb:At h b (.cells cc fix wr el)) (hf:fix = true ∨ el = e) :
  sliceT P t (.slice (some ⟨b,off,none⟩) m cap) none (some (.int k (hi:Nat))) none h = some (.slice (some ⟨b,off,none⟩) hi cap):=by
 obtain ⟨inf,q1,q2,q3,_⟩:=he.i
 have hcut:cut3 m cap none (some (.int k (hi:Nat))) none = some (0,hi,cap):=by
  simp only [cut3,show boundT none cap cap = some cap from rfl,show ∀ x,boundT none 0 x = some 0 from fun _ => rfl,Option.bind_some,Option.isNone_some,Option.isSome_none,Bool.and_self,Bool.cond_false,bound_in (show hi ≤ cap by omega),Option.map_some]
 simp only [sliceT,hu,ble_yes hc,Bool.cond_true,hcut,Option.bind_some,q1,fits_of hb hf,q2,Nat.zero_mul,Nat.add_zero,Nat.sub_zero]
theorem sliceT_from {b off m cap lo:Nat} {k:IntKind} {cc:List Value} {fix wr:Bool} {el:TypeId} (hu:P.underlying t = some (.slice e)) (he:Tp P e n z row) (hc:m ≤ cap) (h2:lo ≤ m) (hb:At h b (.cells cc fix wr el)) (hf:fix = true ∨ el = e) :
  sliceT P t (.slice (some ⟨b,off,none⟩) m cap) (some (.int k (lo:Nat))) none none h = some (.slice (some ⟨b,off + lo * n,none⟩) (m - lo) (cap - lo)):=by
 obtain ⟨inf,q1,q2,q3,_⟩:=he.i
 have hcut:cut3 m cap (some (.int k (lo:Nat))) none none = some (lo,m,cap):=by
  simp only [cut3,show boundT none cap cap = some cap from rfl,show boundT none m cap = some m from rfl,Option.bind_some,Option.isNone_none,Option.isSome_none,Bool.and_false,Bool.cond_false,bound_in h2,Option.map_some]
 simp only [sliceT,hu,ble_yes hc,Bool.cond_true,hcut,Option.bind_some,q1,fits_of hb hf,q2]
end
structure Stm (h:TH) (b o cap:Nat) (l:List Nat):Prop where
 ex:∃ cc fix wr el,At h b (.cells cc fix wr el) ∧ (cc.drop o).take l.length = cat encY l ∧ o + l.length ≤ cc.length ∧ (fix = true ∨ el = 5)
 cap:l.length ≤ cap
section
variable {h h':TH} {b o cap:Nat} {l:List Nat}
theorem Stm.hx (s:Stm h b o cap l) (x:HX h h'):Stm h' b o cap l:=⟨by
 obtain ⟨cc,fix,wr,el,a,r⟩:=s.ex
 exact ⟨cc,fix,wr,el,a.hx x,r⟩,s.cap⟩
theorem Stm.oth (s:Stm h b o cap l) {c:Nat} (k:∀ z y,z ≠ c → At h z y → At h' z y) (hb:b ≠ c):Stm h' b o cap l:=⟨by
 obtain ⟨cc,fix,wr,el,a,r⟩:=s.ex
 exact ⟨cc,fix,wr,el,k _ _ hb a,r⟩,s.cap⟩
theorem Stm.part (s:Stm h b o cap l) {p k c:Nat} (hpk:p + k ≤ l.length) (hc:k ≤ c):SlL encY 1 h (.slice (some ⟨b,o + p,none⟩) k c) ((l.drop p).take k):=by
 obtain ⟨cc,fix,wr,el,a,e1,e2,_⟩:=s.ex
 have hl:((l.drop p).take k).length = k:=by rw [List.length_take,List.length_drop];omega
 refine ⟨_,c,by rw [hl],by rw [hl];exact hc,by rw [eY.cat_len],.inr ⟨b,o + p,cc,fix,wr,el,rfl,a,?_,?_⟩⟩
 ·rw [hl,Nat.mul_one]
  have q:=eY.part l p k
  rw [Nat.mul_one,Nat.mul_one] at q
  rw [← q,← e1,List.drop_take,List.take_take,List.drop_drop,Nat.min_eq_left (by omega)]
 ·rw [hl];omega
end
abbrev Cu:=Nat × Bool
def cbad (n:Nat) (c:Cu) (k:Nat):Bool:=c.2 || Nat.blt (n - c.1) k
def cnx (n:Nat) (c:Cu) (k:Nat):Cu:=cond (cbad n c k) (c.1,true) (c.1 + k,false)
def cbs (l:List Nat) (c:Cu) (k:Nat):List Nat:=cond (cbad l.length c k) [] ((l.drop c.1).take k)
def cval (n b o cap:Nat) (c:Cu) (k:Nat):Value:=cond (cbad n c k) (.slice none 0 0) (.slice (some ⟨b,o + c.1,none⟩) k (cap - c.1))
def curC (n b o cap:Nat) (c:Cu):TB:=.cells [.slice (some ⟨b,o + c.1,none⟩) (n - c.1) (cap - c.1),.bool c.2] true true 203
theorem cnx_le {n k:Nat} {c:Cu} (h:c.1 ≤ n):(cnx n c k).1 ≤ n:=by
  unfold cnx cbad
  cases c.2 with
  | true => exact h
  | false =>
    cases q:Nat.blt (n - c.1) k with
    | true => exact h
    | false =>
      have:¬ (n - c.1 < k):=fun e => by
        have:Nat.blt (n - c.1) k = true:=by rw [Nat.blt_eq];exact e
        rw [q] at this;cases this
      show c.1 + k ≤ n
      omega
theorem fo1040_0:fieldOff Tryz.prog 203 0 = some 0:=by kernel_rfl
theorem fo1040_1:fieldOff Tryz.prog 203 1 = some 1:=by kernel_rfl
def CurX (n b o cap:Nat) (h h':TH) (c4:Nat) (c:Cu):Prop :=
 (∀ h0,HX h0 h → h0.next ≤ c4 → HX h0 h') ∧ (∀ z y,z ≠ c4 → At h z y → At h' z y) ∧ h.next ≤ h'.next ∧ At h' c4 (curC n b o cap c)
section
variable {h:TH} {b o cap c4 n0:Nat} {l:List Nat} {c:Cu}
theorem CurX.of_put {h':TH} (p:Put h h' c4 (curC l.length b o cap c)):CurX l.length b o cap h h' c4 c:=⟨p.hx,p.oth,by rw [p.next];exact Nat.le_refl _,p.at_⟩
theorem CurX.trans {n:Nat} {h1 h2:TH} {c':Cu} (a:CurX n b o cap h h1 c4 c) (e:CurX n b o cap h1 h2 c4 c'):CurX n b o cap h h2 c4 c':=⟨fun h0 x hb => e.1 h0 (a.1 h0 x hb) hb,fun z y hz x => e.2.1 z y hz (a.2.1 z y hz x),Nat.le_trans a.2.2.1 e.2.2.1,e.2.2.2⟩
theorem CurX.hx {n:Nat} {h1 h2:TH} (a:CurX n b o cap h h1 c4 c) (x:HX h1 h2):CurX n b o cap h h2 c4 c:=⟨fun h0 y hb => (a.1 h0 y hb).trans x,fun z y hz q => (a.2.1 z y hz q).hx x,Nat.le_trans a.2.2.1 x.next,a.2.2.2.hx x⟩
set_option maxHeartbeats 1000000 in
set_option maxRecDepth 10000 in
theorem k1032 (H:Has tp) (st:Stm h b o cap l) (A4:At h c4 (curC l.length b o cap c)) (hp:c.1 ≤ l.length) (hfl:h.floor ≤ c4) (hnl:c4 ∉ h.lock) {k:Nat} (hk:k ≤ 1000000) :
    CallW Tryz.prog tp (.func (.func 143) #[] #[]) #[ptr c4,zi (k:Nat)] h fun w h' => w = cval l.length b o cap c k ∧ Put h h' c4 (curC l.length b o cap (cnx l.length c k)):=by
  obtain ⟨p,t⟩:=c
  replace hp:p ≤ l.length:=hp
  have hc:=st.cap
  obtain ⟨cc,fix,wr,el,Ab,_,_,hf⟩:=st.ex
  have sp:=st.part (p:=p) (k:=l.length - p) (c:=cap - p) (by omega) (by omega)
  rw [List.take_of_length_le (by rw [List.length_drop];exact Nat.le_refl _)] at sp
  have sp':SlC h (.slice (some ⟨b,o + p,none⟩) (l.length - p) (cap - p)) 1 (l.length - p) (cat encY (l.drop p)):=by
    have:(l.drop p).length = l.length - p:=List.length_drop
    unfold SlL at sp
    rw [this] at sp
    exact sp
  refine CallW.fnL (H.fn 143 f1032 rfl rfl) ?_
  refine WL.sr <| WOL.as rfl <| WOL.nil <| keep [(0,_),(1,_)] ⟨rfl,rfl,trivial⟩ ?_
  refine WL.seq <| WL.sr <| WOL.mv rfl <| WOL.nc rfl <| WOL.fa rfl (fa_of fo1040_1) <| WOL.ld rfl (load_one tp4 A4 rfl) <| WOL.mv rfl ?_
  have torn:∀ {Q':Exit → Regs → TH → Prop},(∀ a g,(Fin Tryz.prog f1032.results fun w h' => w = cval l.length b o cap (p,t) k ∧ Put h h' c4 (curC l.length b o cap (cnx l.length (p,t) k))) .ret a g → Q' .ret a g) → cbad l.length (p,t) k = true → ∀ a,Kn [(0,ptr c4)] a → W Tryz.prog tp false (.seq (.reg r1032_2) (.seq (.reg r1032_3) .ret)) a h Q':=by
    intro Q' hq hb
    refine WL.sr <| WOL.mv rfl <| WOL.nc rfl <| WOL.fa rfl (fa_of fo1040_1) ?_
    refine WOL.stP (vs:=[.bool true]) rfl rfl tp4 A4 rfl rfl (Nat.le_of_ble_eq_true rfl) rfl hfl hnl fun h1 P1 => WOL.nil ?_
    refine WL.sr <| WOL.as rfl <| WOL.nil ?_
    refine WL.ret fun a q => hq _ _ (WL.end_ rfl ?_ a q)
    unfold cval cnx
    rw [hb]
    exact ⟨rfl,P1⟩
  cases t with
  | true =>
    refine WOL.skp (b:=true) rfl rfl <| WOL.skp (b:=true) rfl rfl <| WOL.skp (b:=true) rfl rfl <| WOL.skp (b:=true) rfl rfl <| WOL.skp (b:=true) rfl rfl <| WOL.skp (b:=true) rfl rfl <| WOL.skp (b:=true) rfl rfl <| WOL.pkt rfl rfl <| WOL.nil <| keep [(0,_),(18,_)] ⟨rfl,rfl,trivial⟩ ?_
    exact WL.yes rfl <| kto (torn (fun _ _ q => q) rfl) ⟨rfl,trivial⟩
  | false =>
    refine WOL.now (b:=false) rfl rfl <| WOL.mv rfl <| WOL.now (b:=false) rfl rfl <| WOL.mv rfl <| WOL.now (b:=false) rfl rfl <| WOL.nc rfl <| WOL.now (b:=false) rfl rfl <| WOL.fa rfl (fa_of fo1040_0) <| WOL.now (b:=false) rfl rfl <| WOL.ld rfl (load_one tp116 A4 rfl) <| WOL.now (b:=false) rfl rfl <| WOL.len rfl sp' u116 <| WOL.now (b:=false) rfl rfl ?_
    refine WOL.bi (v:=.bool (decide ((k:Int) > ((l.length - p:Nat):Int)))) rfl rfl rfl <| WOL.pkf rfl rfl <| WOL.nil <| keep [(0,_),(1,_),(18,_)] ⟨rfl,rfl,rfl,trivial⟩ ?_
    by_cases hgt:l.length - p < k
    · rw [show decide ((k:Int) > ((l.length - p:Nat):Int)) = true from decide_eq_true (by omega)]
      refine WL.yes rfl <| kto (torn (fun _ _ q => q) ?_) ⟨rfl,trivial⟩
      show (false || Nat.blt (l.length - p) k) = true
      rw [show Nat.blt (l.length - p) k = true by rw [Nat.blt_eq];exact hgt]
      rfl
    · rw [show decide ((k:Int) > ((l.length - p:Nat):Int)) = false from decide_eq_false (by omega)]
      have hb:cbad l.length (p,false) k = false:=by
        show (false || Nat.blt (l.length - p) k) = false
        rw [Bool.false_or]
        cases q:Nat.blt (l.length - p) k with
        | false => rfl
        | true => rw [Nat.blt_eq] at q;exact absurd q hgt
      refine WL.no rfl <| WL.skip ?_
      refine WL.sr <| WOL.mv rfl <| WOL.nc rfl <| WOL.fa rfl (fa_of fo1040_0) <| WOL.ld rfl (load_one tp116 A4 rfl) <| WOL.mv rfl ?_
      refine WOL.sl2 rfl rfl (sliceT_to (k:=.i64) u116 tp5 (show l.length - p ≤ cap - p by omega) (show k ≤ l.length - p by omega) Ab hf) <| WOL.as rfl <| WOL.nil <| keep [(0,_),(1,_),(5,_)] ⟨rfl,rfl,rfl,trivial⟩ ?_
      refine WL.sr <| WOL.mv rfl <| WOL.mv rfl <| WOL.nc rfl <| WOL.fa rfl (fa_of fo1040_0) <| WOL.ld rfl (load_one tp116 A4 rfl) <| WOL.mv rfl ?_
      refine WOL.slG rfl rfl rfl rfl (sliceT_from (k:=.i64) u116 tp5 (show l.length - p ≤ cap - p by omega) (show k ≤ l.length - p by omega) Ab hf) ?_
      refine WOL.nc rfl <| WOL.fa rfl (fa_of fo1040_0) ?_
      refine WOL.stP rfl rfl tp116 A4 rfl rfl (Nat.le_of_ble_eq_true rfl) rfl hfl hnl fun h1 P1 => WOL.nil <| keep [(5,_)] ⟨rfl,trivial⟩ ?_
      refine WL.sr <| WOL.mv rfl <| WOL.as rfl <| WOL.nil ?_
      refine WL.done rfl ?_
      unfold cval cnx
      rw [hb]
      refine ⟨rfl,?_⟩
      have e:curC l.length b o cap (p + k,false) = .cells [.slice (some ⟨b,o + p + k * 1,none⟩) (l.length - p - k) (cap - p - k),.bool false] true true 203:=by
        show TB.cells [.slice (some ⟨b,o + (p + k),none⟩) (l.length - (p + k)) (cap - (p + k)),.bool false] true true 203 = _
        rw [show o + (p + k) = o + p + k * 1 by omega,show l.length - (p + k) = l.length - p - k by omega,show cap - (p + k) = cap - p - k by omega]
      show Put h h1 c4 (curC l.length b o cap (p + k,false))
      rw [e]
      exact P1
theorem cval_sl (st:Stm h b o cap l) (hp:c.1 ≤ l.length) {k:Nat}:∃ bo n m,cval l.length b o cap c k = .slice bo n m ∧ SlL encY 1 h (cval l.length b o cap c k) (cbs l c k):=by
  have hc:=st.cap
  unfold cval cbs
  cases hb:cbad l.length c k with
  | true => exact ⟨_,_,_,rfl,SlL.nil⟩
  | false =>
    have:c.1 + k ≤ l.length:=by
      unfold cbad at hb
      rw [Bool.or_eq_false_iff] at hb
      have h2:=hb.2
      have:¬ (l.length - c.1 < k):=fun e => by
        have:Nat.blt (l.length - c.1) k = true:=by rw [Nat.blt_eq];exact e
        rw [h2] at this;cases this
      omega
    exact ⟨_,_,_,rfl,st.part this (by omega)⟩
theorem cbs_byt (hb:Byt l) (k:Nat):Byt (cbs l c k):=by
 unfold cbs
 cases cbad l.length c k with
 | true => intro x hx;cases hx
 | false => exact (hb.drop _).take _
theorem cbs_len (k:Nat):(cbs l c k).length ≤ k:=by
 unfold cbs
 cases cbad l.length c k with
 | true => exact Nat.zero_le _
 | false => show ((l.drop c.1).take k).length ≤ k;rw [List.length_take];exact Nat.min_le_left _ _
theorem k1034 (H:Has tp) (st:Stm h b o cap l) (hb:Byt l) (A4:At h c4 (curC l.length b o cap c)) (hb4:b ≠ c4) (hp:c.1 ≤ l.length) (f:Free0 h.next h) (hfl:h.floor ≤ c4) (hnl:c4 ∉ h.lock) {k:Nat} (hk:k ≤ 4) :
  CallW Tryz.prog tp (.func (.func 145) #[] #[]) #[ptr c4,zi (k:Nat)] h fun w h' => w = zi (numB (cbs l c k):Nat) ∧ CurX l.length b o cap h h' c4 (cnx l.length c k):=by
 refine CallW.fnL (H.fn 145 f1034 rfl rfl) ?_
 refine WL.sr <| WOL.as rfl <| WOL.nil <| keep [(0,_),(1,_)] ⟨rfl,rfl,trivial⟩ ?_
 refine WL.sr <| WOL.mv rfl <| WOL.mv rfl ?_
 refine WOL.cl2 rfl rfl rfl ((k1032 H st A4 hp hfl hnl (by omega)).mono ?_)
 rintro w h1 ⟨rfl,P1⟩
 have st1:=st.oth P1.oth hb4
 obtain ⟨bo,n,m,e1,s1⟩:=cval_sl (k:=k) st1 hp
 rw [e1] at s1 ⊢
 have l4:=A4.lt
 have f1:Free0 h1.next h1:=⟨by rw [P1.floor,P1.next];exact f.floor,by rw [P1.lock,P1.next];exact f.lock⟩
 refine WOL.cl1 rfl rfl ((k170 H s1 (cbs_byt hb k) (by have:=cbs_len (l:=l) (c:=c) k;omega) f1).mono ?_)
 rintro w h2 ⟨rfl,X2⟩
 refine WOL.as rfl <| WOL.nil ?_
 exact WL.done rfl ⟨rfl,(CurX.of_put P1).hx X2⟩
end
end Go.Tidy
namespace Go.Tidy
open Go Go.Proofs Tab
variable {tp:TProg}
section
variable {h:TH} {l:List Nat} {bo:Option Addr} {n k:Nat}
theorem k171s (H:Has tp) (Y:HasY tp) (s:SlL encY 1 h (.slice bo n k) l) (hb:Byt l) (hl:l.length ≤ 4) (f:Free0 h.next h):CallW Tryz.prog tp (.func (.func 130) #[] #[]) #[.slice bo n k] h fun v h' => v = .float .f32 (numB l) ∧ HX h h':=by
 refine CallW.fnL (H.fn 130 f171 rfl rfl) ?_
 have hlt:numB l < 4294967296:=Nat.lt_of_lt_of_le (numB_lt' hb hl) (by decide)
 refine WL.sr <| WOL.as rfl <| WOL.nil <| keep [(0,_)] ⟨rfl,trivial⟩ ?_
 refine WL.sr <| WOL.mv rfl ?_
 refine WOL.cl1 rfl rfl ((k170 H s hb hl f).mono ?_)
 rintro v h1 ⟨rfl,X1⟩
 refine WOL.cvw u3 u216 rfl ?_
 rw [u32_wrap,Int.emod_eq_of_lt (by omega) (by omega)]
 refine WOL.x1E (v:=.float .f32 (numB l)) rfl Y.no2 Y.back rfl rfl (word_exact hlt) ?_
 refine WOL.as rfl <| WOL.nil ?_
 exact WL.done rfl ⟨rfl,X1⟩
end
def strO (m:List Nat):ByteArray:=⟨(m.map UInt8.ofNat).toArray⟩
theorem bytes_cat:∀ m:List Nat,bytesOf (cat encY m) = some (m.map UInt8.ofNat)
 | [] => rfl
 | x :: m => by
  show bytesOf (Value.int .u8 (x:Nat) :: cat encY m) = _
  simp only [bytesOf,bytes_cat m,Option.map_some,Int.toNat_natCast,List.map_cons]
section
variable {h:TH} {K:Regs → TH → Prop} {rest:List TOper} {d:Option Tmp} {ty:TypeId} {i:Nat} {x:Operand} {L:Rg} {v:Value} {m:List Nat}
theorem WOL.str (s:SlL encY 1 h v m) (hv:v = .slice none 0 0 ∨ ∃ a n c,v = .slice (some a) n c) (hx:getL L x = some v) (w:∀ a,Kn (putL L d (.string (strO m))) a → WO Tryz.prog tp rest a h K):∀ a,Kn L a → WO Tryz.prog tp (⟨d,.convert 106 9 x,ty,none,[],i⟩ :: rest) a h K:=by
  rcases hv with rfl | ⟨a,n,c,rfl⟩
  · have hm:m = []:=by
      obtain ⟨_,_,e,_,hc,_⟩:=s
      injection e with _ e2 _
      exact List.eq_nil_of_length_eq_zero e2.symm
    subst hm
    intro a k
    exact WO.conv (k.o hx) rfl (show pv Tryz.prog (convert 106 9 (.slice none 0 0)) = some (.string (strO [])) by kernel_rfl) rfl (w _ (k.put d _))
  · obtain ⟨bo,cap,e,h1,h2,h3⟩:=s
    injection e with e1 e2 e3
    subst e1 e2 e3
    rcases h3 with ⟨h3,_⟩ | ⟨b,off,cc,fix,wr,el,h3,A,h4,h5⟩
    · cases h3
    · injection h3 with h3
      subst h3
      refine WOL.cvH (v:=.string (strO m)) (h1:=h) hx rfl ?_ w
      have e4:cellsAt h b off m.length = some (cat encY m):=by
        simp only [cellsAt,A.get,ble_yes (show off + m.length ≤ cc.length by omega),Bool.cond_true]
        rw [← h4,Nat.mul_one]
      have e5:Nat.beq 106 9 = false:=rfl
      simp only [convertT,e5,Bool.cond_false,elemDesc,u116,u5,u9,Option.map_some,isU8,Bool.cond_true,e4,Option.bind_some,bytes_cat]
      rfl
end
theorem cval_form {n b o cap:Nat} {c:Cu} {k:Nat}:cval n b o cap c k = .slice none 0 0 ∨ ∃ a n' c',cval n b o cap c k = .slice (some a) n' c':=by
 unfold cval
 cases cbad n c k with
 | true => exact .inl rfl
 | false => exact .inr ⟨_,_,_,rfl⟩
structure RnI (hb h g:TH) (n b o cap c4 c2 c3 nB:Nat) (cur:Cu) (s:ByteArray) (fi:Int) (w1 w2:Value) (F:List Nat) (S:List (Int × Int)):Prop where
 x0:HX hb g
 hx:∀ h0,HX h0 h → h0.next ≤ c4 → HX h0 g
 oth:∀ z y,z < h.next → z ≠ c4 → At h z y → At g z y
 nx:nB ≤ g.next
 a4:At g c4 (curC n b o cap cur)
 a2:At g c2 (.cells [.string ⟨#[]⟩,zi 0,.slice none 0 0,.slice none 0 0] true true 52)
 a3:At g c3 (.cells [.string s,zi fi,w1,w2] true true 52)
 o1:OwnL encF nB g w1 25 F
 o2:OwnL encS nB g w2 48 S
 ne:∀ x,bl w1 = some x → bl w2 ≠ some x
section
variable {hb h g g2 g':TH} {n b o cap c4 c2 c3 nB:Nat} {cur cur':Cu} {s s':ByteArray} {fi fi':Int} {w1 w2 w':Value} {F F':List Nat} {S S':List (Int × Int)}
structure Lay (hb h:TH) (c4 c2 c3 nB:Nat):Prop where
 b4:hb.next ≤ c4
 h4:c4 < h.next
 h2:h.next ≤ c2
 h3:c2 < c3
 hB:c3 < nB
theorem RnI.cx (y:Lay hb h c4 c2 c3 nB) (q:RnI hb h g n b o cap c4 c2 c3 nB cur s fi w1 w2 F S) (k:CurX n b o cap g g' c4 cur'):RnI hb h g' n b o cap c4 c2 c3 nB cur' s fi w1 w2 F S:=by
 obtain ⟨b4,h4,h2,h3,hB⟩:=y
 refine ⟨k.1 _ q.x0 b4,fun h0 x hh => k.1 _ (q.hx h0 x hh) hh,fun z y hz hn a => k.2.1 z y hn (q.oth z y hz hn a),Nat.le_trans q.nx k.2.2.1,k.2.2.2,k.2.1 _ _ (by omega) q.a2,k.2.1 _ _ (by omega) q.a3,q.o1.keep fun z y hz a => k.2.1 z y (by have:=(q.o1.lt hz).1;omega) a,q.o2.keep fun z y hz a => k.2.1 z y (by have:=(q.o2.lt hz).1;omega) a,q.ne⟩
theorem RnI.hx' (q:RnI hb h g n b o cap c4 c2 c3 nB cur s fi w1 w2 F S) (x:HX g g'):RnI hb h g' n b o cap c4 c2 c3 nB cur s fi w1 w2 F S :=
 ⟨q.x0.trans x,fun h0 y hh => (q.hx h0 y hh).trans x,fun z y hz hn a => (q.oth z y hz hn a).hx x,Nat.le_trans q.nx x.next,q.a4.hx x,q.a2.hx x,q.a3.hx x,q.o1.hx x,q.o2.hx x,q.ne⟩
theorem RnI.st (y:Lay hb h c4 c2 c3 nB) (q:RnI hb h g n b o cap c4 c2 c3 nB cur s fi w1 w2 F S) (p:Put g g' c3 (.cells [.string s',zi fi',w1,w2] true true 52)):RnI hb h g' n b o cap c4 c2 c3 nB cur s' fi' w1 w2 F S:=by
 obtain ⟨b4,h4,h2,h3,hB⟩:=y
 refine ⟨p.hx _ q.x0 (by omega),fun h0 x hh => p.hx _ (q.hx h0 x hh) (by omega),fun z y hz hn a => p.oth z y (by omega) (q.oth z y hz hn a),by rw [p.next];exact q.nx,p.oth _ _ (by omega) q.a4,p.oth _ _ (by omega) q.a2,p.at_,q.o1.keep fun z y hz a => p.oth z y (by have:=(q.o1.lt hz).1;omega) a,q.o2.keep fun z y hz a => p.oth z y (by have:=(q.o2.lt hz).1;omega) a,q.ne⟩
theorem RnI.push1 (y:Lay hb h c4 c2 c3 nB) (q:RnI hb h g n b o cap c4 c2 c3 nB cur s fi w1 w2 F S) (x2:∀ h0,HX h0 g → h0.next ≤ nB → HX h0 g2) (k2:∀ c y,bl w1 ≠ some c → At g c y → At g2 c y) (b2:bl w' = some g.next) (O2:OwnL encF nB g2 w' 25 F') (n2:g.next ≤ g2.next) (p:Put g2 g' c3 (.cells [.string s,zi fi,w',w2] true true 52)):RnI hb h g' n b o cap c4 c2 c3 nB cur s fi w' w2 F' S:=by
 obtain ⟨b4,h4,h2,h3,hB⟩:=y
 have l1:=fun z (hz:bl w1 = some z) => q.o1.lt hz
 have l2:=fun z (hz:bl w2 = some z) => q.o2.lt hz
 have no:∀ z,z < nB → bl w1 ≠ some z:=fun z hz e => by have:=l1 z e;omega
 refine ⟨p.hx _ (x2 _ q.x0 (by omega)) (by omega),fun h0 x hh => p.hx _ (x2 _ (q.hx h0 x hh) (by omega)) (by omega),fun z y hz hn a => p.oth z y (by omega) (k2 z y (no z (by omega)) (q.oth z y hz hn a)),by rw [p.next];have:=q.nx;omega,p.oth _ _ (by omega) (k2 _ _ (no _ (by omega)) q.a4),p.oth _ _ (by omega) (k2 _ _ (no _ (by omega)) q.a2),p.at_,O2.keep fun z y hz a => p.oth z y (by have:=(O2.lt hz).1;omega) a,q.o2.keep fun z y hz a => p.oth z y (by have:=(l2 z hz).1;omega) (k2 z y (fun e => q.ne z e hz) a),?_⟩
 intro z hz e
 have:z = g.next:=Option.some.inj (hz.symm.trans b2)
 have:=l2 z e
 omega
theorem RnI.push2 (y:Lay hb h c4 c2 c3 nB) (q:RnI hb h g n b o cap c4 c2 c3 nB cur s fi w1 w2 F S) (x2:∀ h0,HX h0 g → h0.next ≤ nB → HX h0 g2) (k2:∀ c y,bl w2 ≠ some c → At g c y → At g2 c y) (b2:bl w' = some g.next) (O2:OwnL encS nB g2 w' 48 S') (n2:g.next ≤ g2.next) (p:Put g2 g' c3 (.cells [.string s,zi fi,w1,w'] true true 52)):RnI hb h g' n b o cap c4 c2 c3 nB cur s fi w1 w' F S':=by
 obtain ⟨b4,h4,h2,h3,hB⟩:=y
 have l1:=fun z (hz:bl w1 = some z) => q.o1.lt hz
 have l2:=fun z (hz:bl w2 = some z) => q.o2.lt hz
 have no:∀ z,z < nB → bl w2 ≠ some z:=fun z hz e => by have:=l2 z e;omega
 refine ⟨p.hx _ (x2 _ q.x0 (by omega)) (by omega),fun h0 x hh => p.hx _ (x2 _ (q.hx h0 x hh) (by omega)) (by omega),fun z y hz hn a => p.oth z y (by omega) (k2 z y (no z (by omega)) (q.oth z y hz hn a)),by rw [p.next];have:=q.nx;omega,p.oth _ _ (by omega) (k2 _ _ (no _ (by omega)) q.a4),p.oth _ _ (by omega) (k2 _ _ (no _ (by omega)) q.a2),p.at_,q.o1.keep fun z y hz a => p.oth z y (by have:=(l1 z hz).1;omega) (k2 z y (fun e => q.ne z hz e) a),O2.keep fun z y hz a => p.oth z y (by have:=(O2.lt hz).1;omega) a,?_⟩
 intro z hz e
 have:z = g.next:=Option.some.inj (e.symm.trans b2)
 have:=l1 z hz
 omega
theorem Put.relock {M:List Nat} {x:TB} {c:Nat} {h1:TH} (p:Put (h.withLock M) h1 c x):Put h (h1.withLock h.lock) c x :=
 ⟨p.at_.relock _,fun z y hz a => (p.oth z y hz (a.relock M)).relock _,p.next,p.floor,rfl,fun h0 y hb => by rw [y.lock];exact (p.hx _ (y.locked M) hb).relock⟩
end
def itC (n k:Nat) (c:Cu):Nat → Cu
 | 0 => c
 | i + 1 => cnx n (itC n k c i) k
def itS (n:Nat) (c:Cu):Nat → Cu
 | 0 => c
 | i + 1 => cnx n (cnx n (itS n c i) 2) 2
def smpL (l:List Nat) (c:Cu) (i:Nat):List Nat:=(List.range i).map fun j => numB (cbs l (itC l.length 4 c j) 4)
def holL (l:List Nat) (c:Cu) (i:Nat):List (Int × Int):=(List.range i).map fun j => ((numB (cbs l (itS l.length c j) 2):Int),(numB (cbs l (cnx l.length (itS l.length c j) 2) 2):Int))
theorem itC_le {n k:Nat} {c:Cu} (h:c.1 ≤ n):∀ i,(itC n k c i).1 ≤ n
 | 0 => h
 | i + 1 => cnx_le (itC_le h i)
theorem itS_le {n:Nat} {c:Cu} (h:c.1 ≤ n):∀ i,(itS n c i).1 ≤ n
 | 0 => h
 | i + 1 => cnx_le (cnx_le (itS_le h i))
theorem smpL_next {l:List Nat} {c:Cu} {i:Nat}:smpL l c (i + 1) = smpL l c i ++ [numB (cbs l (itC l.length 4 c i) 4)]:=by
 unfold smpL;rw [List.range_succ,List.map_append];rfl
theorem holL_next {l:List Nat} {c:Cu} {i:Nat}:holL l c (i + 1) = holL l c i ++ [((numB (cbs l (itS l.length c i) 2):Int),(numB (cbs l (cnx l.length (itS l.length c i) 2) 2):Int))]:=by
 unfold holL;rw [List.range_succ,List.map_append];rfl
end Go.Tidy
namespace Go.Tidy
open Go Go.Proofs Tab
variable {tp:TProg}
section
variable (l:List Nat) (c:Cu)
def cu1:Cu:=cnx l.length c 1
def rdB:Nat:=numB (cbs l c 1)
def cu2:Cu:=cnx l.length (cu1 l c) (rdB l c)
def rdN:ByteArray:=strO (cbs l (cu1 l c) (rdB l c))
def cu3:Cu:=cnx l.length (cu2 l c) 4
def rdF:Nat:=numB (cbs l (cu2 l c) 4)
def cu4:Cu:=cnx l.length (cu3 l c) 2
def rdM:Nat:=numB (cbs l (cu3 l c) 2)
def rdL:List Nat:=smpL l (cu4 l c) (rdM l c)
def cu5:Cu:=itC l.length 4 (cu4 l c) (rdM l c)
def cu6:Cu:=cnx l.length (cu5 l c) 2
def rdK:Nat:=numB (cbs l (cu5 l c) 2)
def rdS:List (Int × Int):=holL l (cu6 l c) (rdK l c)
def cu7:Cu:=itS l.length (cu6 l c) (rdK l c)
end
section
variable {h g:TH} {l:List Nat} {b o cap:Nat}
theorem Stm.relock (s:Stm h b o cap l) (M:List Nat):Stm (h.withLock M) b o cap l:=⟨by
 obtain ⟨cc,fix,wr,el,a,r⟩:=s.ex
 exact ⟨cc,fix,wr,el,a.relock M,r⟩,s.cap⟩
theorem RnI.stm {hb:TH} {n c4 c2 c3 nB:Nat} {cur:Cu} {s:ByteArray} {fi:Int} {w1 w2:Value} {F:List Nat} {S:List (Int × Int)} (q:RnI hb h g n b o cap c4 c2 c3 nB cur s fi w1 w2 F S) (st:Stm h b o cap l) (hb4:b ≠ c4):Stm g b o cap l:=⟨by
 obtain ⟨cc,fix,wr,el,a,r⟩:=st.ex
 exact ⟨cc,fix,wr,el,q.oth _ _ a.lt hb4 a,r⟩,st.cap⟩
theorem cbs_lt {c:Cu} {k m:Nat} (hby:Byt l) (hk:k ≤ m):numB (cbs l c k) < 256 ^ m:=numB_lt' (cbs_byt hby k) (Nat.le_trans (cbs_len k) hk)
end
section
variable {hb h:TH} {l:List Nat} {b o cap c4:Nat} {c:Cu}
set_option maxHeartbeats 4000000 in
set_option maxRecDepth 10000 in
theorem k1033 (H:Has tp) (Y:HasY tp) (X0:HX hb h) (f:Free0 hb.next hb) (hn:hb.next ≤ c4) (st:Stm h b o cap l) (hby:Byt l) (A4:At h c4 (curC l.length b o cap c)) (hb4:b ≠ c4) (hp:c.1 ≤ l.length) :
  CallW Tryz.prog tp (.func (.func 144) #[] #[]) #[ptr c4] h fun w h' => ∃ w1 w2 nB,w = runV (rdN l c) (rdF l c:Nat) w1 w2 ∧ c4 < nB ∧ OwnL encF nB h' w1 25 (rdL l c) ∧ OwnL encS nB h' w2 48 (rdS l c) ∧ CurX l.length b o cap h h' c4 (cu7 l c):=by
 have l4:=A4.lt
 refine CallW.fnL (H.fn 144 f1033 rfl rfl) ?_
 refine WL.sr <| WOL.al tp52 fun h1 N1 => WOL.nil <| keep [(0,_),(2,_)] ⟨rfl,rfl,trivial⟩ ?_
 have n1:=N1.next
 refine WL.sr <| WOL.al tp52 fun h2 N2 => WOL.nil <| keep [(0,_),(2,_),(3,_)] ⟨rfl,rfl,rfl,trivial⟩ ?_
 have n2:=N2.next
 have y:Lay hb h c4 h.next h1.next h2.next:=⟨hn,l4,Nat.le_refl _,by omega,by omega⟩
 have X2:=N1.hx.trans N2.hx
 have q0:RnI hb h h2 l.length b o cap c4 h.next h1.next h2.next c ⟨#[]⟩ 0 (.slice none 0 0) (.slice none 0 0) [] [] :=
  ⟨X0.trans X2,fun h0 x _ => x.trans X2,fun z y _ _ a => a.hx X2,Nat.le_refl _,A4.hx X2,N1.at_.hx N2.hx,N2.at_,OwnL.nil,OwnL.nil,fun x e => by cases e⟩
 have fr:∀ {g:TH},HX hb g → Free0 hb.next g:=fun x => f.hx x
 have fr':∀ {g:TH},HX hb g → Free0 g.next g:=fun x => (f.hx x).up x.next
 have ffl:∀ {g:TH},HX hb g → g.floor ≤ c4:=fun x => Nat.le_trans (fr x).floor hn
 have fnl:∀ {g:TH},HX hb g → c4 ∉ g.lock:=fun x e => by have:=(fr x).lock c4 e;omega
 have p1:(cu1 l c).1 ≤ l.length:=cnx_le hp
 have p2:(cu2 l c).1 ≤ l.length:=cnx_le p1
 have p3:(cu3 l c).1 ≤ l.length:=cnx_le p2
 have p4:(cu4 l c).1 ≤ l.length:=cnx_le p3
 have p5:(cu5 l c).1 ≤ l.length:=itC_le p4 _
 have p6:(cu6 l c).1 ≤ l.length:=cnx_le p5
 have m1:rdB l c < 256:=cbs_lt (m:=1) hby (Nat.le_refl _)
 have m2:rdM l c < 65536:=cbs_lt (m:=2) hby (Nat.le_refl _)
 have m3:rdK l c < 65536:=cbs_lt (m:=2) hby (Nat.le_refl _)
 -- the name
 refine WL.sr <| WOL.mv rfl <| WOL.mv rfl ?_
 refine WOL.cl2 rfl rfl rfl ((k1034 H (q0.stm st hb4) hby q0.a4 hb4 hp (fr' q0.x0) (ffl q0.x0) (fnl q0.x0) (k:=1) (by decide)).mono ?_)
 rintro w g3 ⟨rfl,C3⟩
 have q3:=q0.cx y C3
 refine WOL.cl2 rfl rfl rfl ((k1032 H (q3.stm st hb4) q3.a4 p1 (ffl q3.x0) (fnl q3.x0) (k:=rdB l c) (by omega)).mono ?_)
 rintro w g4 ⟨rfl,P4⟩
 have q4:=q3.cx y (CurX.of_put P4)
 obtain ⟨_,_,_,_,s4⟩:=cval_sl (k:=rdB l c) (q4.stm st hb4) p1
 refine WOL.str s4 cval_form rfl <| WOL.fa rfl (fa_of fo52_0) ?_
 refine WOL.sto (vs:=[.string (rdN l c)]) rfl rfl tp9 q4.a3 rfl rfl (Nat.le_of_ble_eq_true rfl) rfl (fr q4.x0) (by omega) fun g5 P5 => ?_
 have q5:RnI hb h g5 l.length b o cap c4 h.next h1.next h2.next (cu2 l c) (rdN l c) 0 (.slice none 0 0) (.slice none 0 0) [] []:=q4.st y P5
 refine WOL.nil <| keep [(0,_),(2,_),(3,_)] ⟨rfl,rfl,rfl,trivial⟩ ?_
 -- the first place
 refine WL.sr <| WOL.mv rfl ?_
 refine WOL.cl2 rfl rfl rfl ((k1034 H (q5.stm st hb4) hby q5.a4 hb4 p2 (fr' q5.x0) (ffl q5.x0) (fnl q5.x0) (k:=4) (by decide)).mono ?_)
 rintro w g6 ⟨rfl,C6⟩
 have q6:=q5.cx y C6
 refine WOL.fa rfl (fa_of fo52_1) ?_
 refine WOL.sto (vs:=[zi (rdF l c:Nat)]) rfl rfl tp3 q6.a3 rfl rfl (Nat.le_of_ble_eq_true rfl) rfl (fr q6.x0) (by omega) fun g7 P7 => ?_
 have q7:RnI hb h g7 l.length b o cap c4 h.next h1.next h2.next (cu3 l c) (rdN l c) (rdF l c:Nat) (.slice none 0 0) (.slice none 0 0) [] []:=q6.st y P7
 refine WOL.nil <| keep [(0,_),(2,_),(3,_)] ⟨rfl,rfl,rfl,trivial⟩ ?_
 -- the samples
 refine WL.seq <| WL.sr <| WOL.mv rfl ?_
 refine WOL.cl2 rfl rfl rfl ((k1034 H (q7.stm st hb4) hby q7.a4 hb4 p3 (fr' q7.x0) (ffl q7.x0) (fnl q7.x0) (k:=2) (by decide)).mono ?_)
 rintro w g8 ⟨rfl,C8⟩
 have q8:=q7.cx y C8
 refine WOL.mv rfl <| WOL.nil <| keep [(0,_),(2,_),(3,_),(16,_),(17,_)] ⟨rfl,rfl,rfl,rfl,rfl,trivial⟩ ?_
 refine WL.block ?_
 refine WL.loop (fun k a g => ∃ (j:Nat) (w1:Value),j ≤ rdM l c ∧ k = rdM l c - j ∧ RnI hb h g l.length b o cap c4 h.next h1.next h2.next (itC l.length 4 (cu4 l c) j) (rdN l c) (rdF l c:Nat) w1 (.slice none 0 0) (smpL l (cu4 l c) j) [] ∧ Kn [(0,ptr c4),(2,ptr h.next),(3,ptr h1.next),(16,zi (rdM l c:Nat)),(17,zi (j:Nat))] a) (rdM l c) (fun a k => ⟨0,_,by omega,by omega,q8,k.sub ⟨rfl,rfl,rfl,rfl,rfl,trivial⟩⟩) ?_
 rintro k a g ⟨j,w1,hj,rfl,q,kn⟩
 refine kn.go ?_
 refine WL.sr <| WOL.bi (v:=.bool (decide ((j:Int) < (rdM l c:Int)))) rfl rfl rfl <| WOL.nil <| keep [(0,_),(2,_),(3,_),(16,_),(17,_),(18,_)] ⟨rfl,rfl,rfl,rfl,rfl,rfl,trivial⟩ ?_
 refine WL.seq ?_
 by_cases hlt:j < rdM l c
 ·rw [show decide ((j:Int) < (rdM l c:Int)) = true from decide_eq_true (by omega)]
  refine WL.yes rfl <| WL.skip ?_
  refine WL.seq <| WL.block <| WL.reg ?_
  have pj:=itC_le (k:=4) p4 j
  refine WOL.fa rfl (fa_of fo52_2) <| WOL.ld rfl (load_one tp43 q.a3 rfl) <| WOL.mv rfl ?_
  refine WOL.lq2 [h1.next] rfl rfl rfl rfl fun M hM => ((k1032 H ((q.stm st hb4).relock M) (q.a4.relock M) pj (ffl (g:=g) q.x0) (fun e => by
   rcases hM c4 e with e | e
   ·simp at e;omega
   ·exact fnl (g:=g) q.x0 e) (k:=4) (by decide)).mono ?_)
  rintro w ga ⟨rfl,Pa⟩
  replace Pa:=Pa.relock
  generalize ga.withLock g.lock = ga at *
  have qa:=q.cx y (CurX.of_put Pa)
  obtain ⟨bo,nn,mm,e1,s1⟩:=cval_sl (k:=4) (qa.stm st hb4) pj
  rw [e1] at s1 ⊢
  have a3lt:=qa.a3.lt
  refine WOL.lq1 [h1.next] rfl rfl rfl fun M2 hM2 => ((k171s H Y (s1.relock M2) (cbs_byt hby 4) (cbs_len 4) ((fr' qa.x0).held hM2 (fun z hz => by simp at hz;omega))).mono ?_)
  rintro w gb ⟨rfl,Xb⟩
  replace Xb:=Xb.relock
  generalize gb.withLock ga.lock = gb at *
  have qb:=qa.hx' Xb
  refine WOL.bs1 rfl u43 tp25 rfl fun gc Nc => ?_
  have qc:=qb.hx' Nc.hx
  have nc:=qc.nx
  have sl:(smpL l (cu4 l c) j).length = j:=by unfold smpL;rw [List.length_map,List.length_range]
  obtain ⟨w1',gd,ap,Od,xd,kd,bd,nd⟩:=own_push (sT:=43) (x:=numB (cbs l (itC l.length 4 (cu4 l c) j) 4)) eF u43 tp25 qc.o1 (SlC.own (sz:=1) (m:=1) rfl Nc.at_) ((fr qc.x0).up (by have:=y.b4;have:=y.h4;omega)) (by omega) nc
  obtain ⟨zz,ez⟩:=OwnF.form (Or.inl Od)
  refine WOL.ap rfl rfl ap <| WOL.fa rfl (fa_of fo52_2) ?_
  have ad:=kd _ _ (fun e => by have:=(qc.o1.lt e).1;omega) qc.a3
  refine WOL.sto (vs:=[w1']) rfl rfl tp43 ad (by rw [ez];rfl) rfl (Nat.le_of_ble_eq_true rfl) (by rw [ez];rfl) (fr (xd _ qc.x0 (by have:=y.b4;have:=y.h4;omega))) (by have:=y.b4;have:=y.h4;omega) fun ge Pe => ?_
  have qe:=qc.push1 (s:=rdN l c) y xd kd bd Od nd Pe
  refine WOL.nil <| keep [(0,_),(2,_),(3,_),(16,_),(17,_)] ⟨rfl,rfl,rfl,rfl,rfl,trivial⟩ ?_
  refine WL.reg ?_
  refine WOL.bi (v:=zi ((j + 1:Nat):Int)) rfl rfl (by show some (Value.int .i64 (fwrap .i64 ((j:Int) + 1))) = _;rw [fwrap_i64 (by omega) (by omega)];rfl) ?_
  refine WOL.mv rfl <| WOL.nil ?_
  exact fun a kn => ⟨rdM l c - (j + 1),by omega,j + 1,w1',by omega,rfl,by rw [smpL_next];exact qe,kn.sub ⟨rfl,rfl,rfl,rfl,rfl,trivial⟩⟩
 rw [show decide ((j:Int) < (rdM l c:Int)) = false from decide_eq_false (by omega)]
 obtain rfl:j = rdM l c:=by omega
 refine WL.no rfl <| WL.exit ?_
 have q9:RnI hb h g l.length b o cap c4 h.next h1.next h2.next (cu5 l c) (rdN l c) (rdF l c:Nat) w1 (.slice none 0 0) (rdL l c) []:=q
 -- the holes
 refine WL.seq <| WL.sr <| WOL.mv rfl ?_
 refine WOL.cl2 rfl rfl rfl ((k1034 H (q9.stm st hb4) hby q9.a4 hb4 p5 (fr' q9.x0) (ffl q9.x0) (fnl q9.x0) (k:=2) (by decide)).mono ?_)
 rintro w g10 ⟨rfl,C10⟩
 have q10:=q9.cx y C10
 refine WOL.mv rfl <| WOL.nil <| keep [(0,_),(2,_),(3,_),(29,_),(30,_)] ⟨rfl,rfl,rfl,rfl,rfl,trivial⟩ ?_
 refine WL.block ?_
 refine WL.loop (fun k a g => ∃ (j:Nat) (w2:Value),j ≤ rdK l c ∧ k = rdK l c - j ∧ RnI hb h g l.length b o cap c4 h.next h1.next h2.next (itS l.length (cu6 l c) j) (rdN l c) (rdF l c:Nat) w1 w2 (rdL l c) (holL l (cu6 l c) j) ∧ Kn [(0,ptr c4),(2,ptr h.next),(3,ptr h1.next),(29,zi (rdK l c:Nat)),(30,zi (j:Nat))] a) (rdK l c) (fun a k => ⟨0,_,by omega,by omega,q10,k.sub ⟨rfl,rfl,rfl,rfl,rfl,trivial⟩⟩) ?_
 rintro k a g11 ⟨j,w2,hj,rfl,q11,kn⟩
 refine kn.go ?_
 refine WL.sr <| WOL.bi (v:=.bool (decide ((j:Int) < (rdK l c:Int)))) rfl rfl rfl <| WOL.nil <| keep [(0,_),(2,_),(3,_),(29,_),(30,_),(31,_)] ⟨rfl,rfl,rfl,rfl,rfl,rfl,trivial⟩ ?_
 refine WL.seq ?_
 by_cases hlt:j < rdK l c
 ·rw [show decide ((j:Int) < (rdK l c:Int)) = true from decide_eq_true (by omega)]
  refine WL.yes rfl <| WL.skip ?_
  refine WL.seq <| WL.block ?_
  have pj:=itS_le p6 j
  refine WL.sr <| WOL.mv rfl ?_
  refine WOL.cl2 rfl rfl rfl ((k1034 H (q11.stm st hb4) hby q11.a4 hb4 pj (fr' q11.x0) (ffl q11.x0) (fnl q11.x0) (k:=2) (by decide)).mono ?_)
  rintro w ga ⟨rfl,Ca⟩
  have qa:=q11.cx y Ca
  refine WOL.as rfl <| WOL.nil <| keep [(0,_),(2,_),(3,_),(4,_),(29,_),(30,_)] ⟨rfl,rfl,rfl,rfl,rfl,rfl,trivial⟩ ?_
  refine WL.sr <| WOL.mv rfl ?_
  refine WOL.cl2 rfl rfl rfl ((k1034 H (qa.stm st hb4) hby qa.a4 hb4 (cnx_le pj) (fr' qa.x0) (ffl qa.x0) (fnl qa.x0) (k:=2) (by decide)).mono ?_)
  rintro w gb ⟨rfl,Cb⟩
  have qb:=qa.cx y Cb
  refine WOL.as rfl <| WOL.nil <| keep [(0,_),(2,_),(3,_),(4,_),(5,_),(29,_),(30,_)] ⟨rfl,rfl,rfl,rfl,rfl,rfl,rfl,trivial⟩ ?_
  refine WL.reg <| WOL.fa rfl (fa_of fo52_3) <| WOL.ld rfl (load_one tp44 qb.a3 rfl) <| WOL.mv rfl <| WOL.mv rfl <| WOL.bd rfl bd48 <| WOL.bs2 rfl u44 tp48 fun gc Nc => ?_
  have qc:=qb.hx' Nc.hx
  have nc:=qc.nx
  have sl:(holL l (cu6 l c) j).length = j:=by unfold holL;rw [List.length_map,List.length_range]
  obtain ⟨w2',gd,ap,Od,xd,kd,bd,nd⟩:=own_push (sT:=44) (x:=((numB (cbs l (itS l.length (cu6 l c) j) 2):Int),(numB (cbs l (cnx l.length (itS l.length (cu6 l c) j) 2) 2):Int))) eS u44 tp48 qc.o2 (SlC.own (sz:=2) (m:=1) rfl Nc.at_) ((fr qc.x0).up (by have:=y.b4;have:=y.h4;omega)) (by omega) nc
  obtain ⟨zz,ez⟩:=OwnF.form (Or.inl Od)
  refine WOL.ap rfl rfl ap <| WOL.fa rfl (fa_of fo52_3) ?_
  have ad:=kd _ _ (fun e => by have:=(qc.o2.lt e).1;omega) qc.a3
  refine WOL.sto (vs:=[w2']) rfl rfl tp44 ad (by rw [ez];rfl) rfl (Nat.le_of_ble_eq_true rfl) (by rw [ez];rfl) (fr (xd _ qc.x0 (by have:=y.b4;have:=y.h4;omega))) (by have:=y.b4;have:=y.h4;omega) fun ge Pe => ?_
  have qe:=qc.push2 (s:=rdN l c) y xd kd bd Od nd Pe
  refine WOL.nil <| keep [(0,_),(2,_),(3,_),(29,_),(30,_)] ⟨rfl,rfl,rfl,rfl,rfl,trivial⟩ ?_
  refine WL.reg ?_
  refine WOL.bi (v:=zi ((j + 1:Nat):Int)) rfl rfl (by show some (Value.int .i64 (fwrap .i64 ((j:Int) + 1))) = _;rw [fwrap_i64 (by omega) (by omega)];rfl) ?_
  refine WOL.mv rfl <| WOL.nil ?_
  exact fun a kn => ⟨rdK l c - (j + 1),by omega,j + 1,w2',by omega,rfl,by rw [holL_next];exact qe,kn.sub ⟨rfl,rfl,rfl,rfl,rfl,trivial⟩⟩
 rw [show decide ((j:Int) < (rdK l c:Int)) = false from decide_eq_false (by omega)]
 obtain rfl:j = rdK l c:=by omega
 refine WL.no rfl <| WL.exit ?_
 have q12:RnI hb h g11 l.length b o cap c4 h.next h1.next h2.next (cu7 l c) (rdN l c) (rdF l c:Nat) w1 w2 (rdL l c) (rdS l c):=q11
 obtain ⟨z1,ez1⟩:=OwnF.form (Or.inl q12.o1)
 obtain ⟨z2,ez2⟩:=OwnF.form (Or.inl q12.o2)
 refine WL.sr <| WOL.ld rfl (load_row tp52 q12.a3 rfl (Nat.le_of_ble_eq_true rfl)) ?_
 refine WOL.sto (vs:=[.string (rdN l c),zi (rdF l c:Nat),w1,w2]) rfl rfl tp52 q12.a2 rfl rfl (Nat.le_of_ble_eq_true rfl) (by rw [ez1,ez2];rfl) (fr q12.x0) (by have:=y.b4;omega) fun g12 P12 => WOL.nil ?_
 have a12:At g12 h.next (.cells [.string (rdN l c),zi (rdF l c:Nat),w1,w2] true true 52):=P12.at_
 have k1:OwnL encF h2.next g12 w1 25 (rdL l c):=q12.o1.keep fun z y hz a => P12.oth z y (by have:=(q12.o1.lt hz).1;omega) a
 have k2:OwnL encS h2.next g12 w2 48 (rdS l c):=q12.o2.keep fun z y hz a => P12.oth z y (by have:=(q12.o2.lt hz).1;omega) a
 refine WL.ret (WL.endC rfl (load_row tp52 a12 rfl (Nat.le_of_ble_eq_true rfl)) ⟨w1,w2,h2.next,rfl,by omega,k1,k2,?_⟩)
 ·refine ⟨fun h0 x hh => P12.hx _ (q12.hx h0 x hh) (by omega),fun z y hz a => P12.oth z y (by have:=a.lt;omega) (q12.oth z y a.lt hz a),?_,P12.oth _ _ (by omega) q12.a4⟩
  rw [P12.next]
  have:=q12.nx
  omega
end
end Go.Tidy
namespace Go.Tidy
open Go Go.Proofs Tab
variable {tp:TProg}
theorem u2i:Tryz.prog.underlying 2 = some (.int .i64):=by kernel_rfl
section
variable {P:Program} {h:TH} {K:Regs → TH → Prop} {rest:List TOper} {d:Option Tmp} {ty:TypeId} {i:Nat} {x:Operand} {s t:TypeId} {L:Rg} {v vx:Value}
theorem WOL.cvP (hx:getL L x = some vx) (hp:plain vx = true) (hv:pv P (convert s t vx) = some v) (hpv:plain v = true) (w:∀ a,Kn (putL L d v) a → WO P tp rest a h K):∀ a,Kn L a → WO P tp (⟨d,.convert s t x,ty,none,[],i⟩ :: rest) a h K:=fun a k =>
 WO.conv (k.o hx) hp hv hpv (w _ (k.put d _))
end
def bits64 (z:Bool):Nat:=cond z 9223372036854775808 0
def bits32 (z:Bool):Nat:=cond z 2147483648 0
theorem conv_zero (z:Bool):pv Tryz.prog (convert 25 234 (.float .f32 (bits32 z))) = some (.float .f64 (bits64 z)):=by
 cases z
 ·kernel_rfl
 ·kernel_rfl
theorem k1045 (H:Has tp) (X:HasX tp) (z:Bool) (h:TH):CallW Tryz.prog tp (.func (.func 189) #[] #[]) #[.float .f64 (bits64 z)] h fun v h' => v = .bool z ∧ h' = h:=by
 refine CallW.fnL (H.fn 189 f1045 rfl rfl) ?_
 refine WL.sr <| WOL.as rfl <| WOL.nil <| keep [(0,_)] ⟨rfl,trivial⟩ ?_
 refine WL.sr <| WOL.mv rfl ?_
 cases z with
 | false =>
  refine WOL.x1E (v:=.int .u64 0) rfl (X.no _ rfl) X.bits rfl rfl rfl ?_
  refine WOL.cvw u222 u2i rfl <| WOL.bi (v:=.bool false) rfl rfl rfl <| WOL.as rfl <| WOL.nil ?_
  exact WL.done rfl ⟨rfl,rfl⟩
 | true =>
  refine WOL.x1E (v:=.int .u64 9223372036854775808) rfl (X.no _ rfl) X.bits rfl rfl rfl ?_
  refine WOL.cvw u222 u2i rfl <| WOL.bi (v:=.bool true) rfl rfl rfl <| WOL.as rfl <| WOL.nil ?_
  exact WL.done rfl ⟨rfl,rfl⟩
def isMz (b:Nat):Bool:=b == 2147483648
theorem k1036 (H:Has tp) (X:HasX tp) {b:Nat} (hb:b < 4294967296) (h:TH):CallW Tryz.prog tp (.func (.func 147) #[] #[]) #[.float .f32 b] h fun v h' => v = .bool (isMz b) ∧ h' = h:=by
 refine CallW.fnL (H.fn 147 f1036 rfl rfl) ?_
 refine WL.sr <| WOL.as rfl <| WOL.nil <| keep [(0,_)] ⟨rfl,trivial⟩ ?_
 refine WL.sr <| WOL.mv rfl <| WOL.feq0 rfl rfl <| WOL.mv rfl ?_
 by_cases hz:b % 2147483648 = 0
 ·rw [show zeroF b = true from decide_eq_true hz]
  obtain ⟨z,rfl⟩:∃ z,b = bits32 z:=by
   by_cases h0:b = 0
   ·exact ⟨false,h0⟩
   ·exact ⟨true,by show b = 2147483648;omega⟩
  refine WOL.now (b:=true) rfl rfl <| WOL.mv rfl <| WOL.now (b:=true) rfl rfl ?_
  refine WOL.cvP rfl (by cases z <;> rfl) (conv_zero z) (by cases z <;> rfl) ?_
  refine WOL.now (b:=true) rfl rfl <| WOL.cl1 rfl rfl ((k1045 H X z h).mono ?_)
  rintro v h1 ⟨rfl,rfl⟩
  refine WOL.pkt rfl rfl <| WOL.as rfl <| WOL.nil ?_
  refine WL.done rfl ⟨?_,rfl⟩
  cases z <;> rfl
 ·rw [show zeroF b = false from decide_eq_false hz]
  refine WOL.skp (b:=false) rfl rfl <| WOL.skp (b:=false) rfl rfl <| WOL.skp (b:=false) rfl rfl <| WOL.pkf rfl rfl <| WOL.as rfl <| WOL.nil ?_
  refine WL.done rfl ⟨?_,rfl⟩
  have:isMz b = false:=beq_eq_false_iff_ne.2 (by omega)
  rw [this]
  rfl
section
variable {h:TH} {F:List Nat} {v:Value}
set_option maxRecDepth 10000 in
theorem k1044 (H:Has tp) (X:HasX tp) (s:SlL encF 1 h v F) (hw:∀ w,w ∈ F → w < 4294967296) (hF:F.length ≤ 1000000) :
    CallW Tryz.prog tp (.func (.func 188) #[] #[]) #[v,.func (.func 147) #[] #[]] h fun v h' => ∃ z:Int,v = .int .i64 z ∧ decide (z ≥ 0) = F.any isMz ∧ h' = h:=by
  refine CallW.fnL (H.fn 188 f1044 rfl rfl) ?_
  refine WL.sr <| WOL.as rfl <| WOL.nil <| keep [(0,_),(1,_)] ⟨rfl,rfl,trivial⟩ ?_
  refine WL.seq ?_
  refine WL.sr <| WOL.mv rfl <| WOL.len rfl s u43 ?_
  refine WOL.mv rfl <| WOL.nil <| keep [(0,_),(1,_),(7,_),(8,_)] ⟨rfl,rfl,rfl,rfl,trivial⟩ ?_
  refine WL.block ?_
  refine WL.loop (fun k a h2 => ∃ j:Nat,j ≤ F.length ∧ k = F.length - j ∧ h2 = h ∧ (∀ c,c ∈ F.take j → isMz c = false) ∧ Kn [(0,v),(1,.func (.func 147) #[] #[]),(7,.int .i64 F.length),(8,.int .i64 (j:Nat))] a) F.length (fun a q => ⟨0,by omega,by omega,rfl,by simp,q.sub ⟨rfl,rfl,rfl,rfl,trivial⟩⟩) ?_
  rintro k a h2 ⟨j,hj,rfl,rfl,ok,q⟩
  refine q.go ?_
  refine WL.sr <| WOL.bi (v:=.bool (decide ((j:Int) < F.length))) rfl rfl rfl ?_
  refine WOL.nil <| keep [(0,_),(1,_),(7,_),(8,_),(9,_)] ⟨rfl,rfl,rfl,rfl,rfl,trivial⟩ ?_
  by_cases hlt:j < F.length
  · rw [show decide ((j:Int) < (F.length:Int)) = true by simpa using hlt]
    refine WL.seq <| WL.yes rfl <| WL.skip ?_
    have hC1:F[j]? = some F[j]:=List.getElem?_eq_getElem hlt
    obtain ⟨b,o,cc,fix,wr,el,e1,e2,e3,e4,e5⟩:=s.at eF u43 tp25 hC1 .i64
    refine WL.seq <| WL.block ?_
    refine WL.sr <| WOL.mv rfl <| WOL.as rfl <| WOL.nil <| keep [(0,_),(1,_),(5,_),(7,_),(8,_)] ⟨rfl,rfl,rfl,rfl,rfl,trivial⟩ ?_
    refine WL.sr <| WOL.mv rfl <| WOL.mv rfl <| WOL.mv rfl <| WOL.ix rfl rfl e1 <| WOL.ld rfl (load_one tp25 e2 (e5 0 (by decide))) ?_
    refine WOL.cl1 rfl rfl ((k1036 H X (hw _ (List.getElem_mem hlt)) _).mono ?_)
    rintro v h3 ⟨rfl,rfl⟩
    refine WOL.nil <| keep [(0,_),(1,_),(5,_),(7,_),(8,_),(16,_)] ⟨rfl,rfl,rfl,rfl,rfl,rfl,trivial⟩ ?_
    cases hb:isMz F[j] with
    | true =>
      refine WL.yes rfl <| WL.sr <| WOL.mv rfl <| WOL.as rfl <| WOL.nil <| keep [(4,_)] ⟨rfl,trivial⟩ ?_
      refine WL.ret (WL.end_ rfl ⟨(j:Nat),rfl,?_,rfl⟩)
      rw [List.any_eq_true.2 ⟨_,List.getElem_mem hlt,hb⟩]
      simp
    | false =>
      refine WL.no rfl <| WL.skip ?_
      refine WL.reg <| WOL.bi (v:=.int .i64 ((j + 1:Nat):Int)) rfl rfl (by show some (Value.int .i64 (fwrap .i64 ((j:Int) + 1))) = _;rw [fwrap_i64 (by omega) (by omega)];rfl) ?_
      refine WOL.mv rfl <| WOL.nil <| keep [(0,_),(1,_),(7,_),(8,_)] ⟨rfl,rfl,rfl,rfl,trivial⟩ ?_
      exact fun a q => ⟨F.length - (j + 1),by omega,j + 1,by omega,rfl,rfl,by
        rw [List.take_succ_eq_append_getElem hlt]
        intro d hd
        rcases List.mem_append.1 hd with hd | hd
        · exact ok d hd
        · simp at hd;subst hd;exact hb,q.sub ⟨rfl,rfl,rfl,rfl,trivial⟩⟩
  · rw [show decide ((j:Int) < (F.length:Int)) = false by simpa using hlt]
    refine WL.seq <| WL.no rfl <| WL.exit ?_
    obtain rfl:j = F.length:=by omega
    refine WL.sr <| WOL.as rfl <| WOL.nil <| keep [(4,_)] ⟨rfl,trivial⟩ ?_
    refine WL.ret (WL.end_ rfl ⟨-1,rfl,?_,rfl⟩)
    rw [List.take_length] at ok
    have:F.any isMz = false:=List.any_eq_false.2 fun x hx => by rw [ok x hx];exact Bool.false_ne_true
    rw [this]
    rfl
theorem k1035 (H:Has tp) (X:HasX tp) (s:SlL encF 1 h v F) (hw:∀ w,w ∈ F → w < 4294967296) (hF:F.length ≤ 1000000) :
  CallW Tryz.prog tp (.func (.func 146) #[] #[]) #[v,.func (.func 147) #[] #[]] h fun v h' => v = .bool (F.any isMz) ∧ h' = h:=by
 refine CallW.fnL (H.fn 146 f1035 rfl rfl) ?_
 refine WL.sr <| WOL.as rfl <| WOL.nil <| keep [(0,_),(1,_)] ⟨rfl,rfl,trivial⟩ ?_
 refine WL.sr <| WOL.mv rfl <| WOL.mv rfl ?_
 refine WOL.cl2 rfl rfl rfl ((k1044 H X s hw hF).mono ?_)
 rintro v h2 ⟨z,rfl,hz,rfl⟩
 refine WOL.bi (v:=.bool (decide (z ≥ 0))) rfl rfl rfl ?_
 rw [hz]
 refine WOL.as rfl <| WOL.nil <| keep [(4,_)] ⟨rfl,trivial⟩ ?_
 exact WL.ret (WL.end_ rfl ⟨rfl,rfl⟩)
end
end Go.Tidy
namespace Go.Tidy
open Go Go.Proofs Tab
variable {tp:TProg}
section
variable {P:Program} {h:TH} {K:Regs → TH → Prop} {rest:List TOper} {d:Option Tmp} {ty:TypeId} {i:Nat} {x y:Operand} {t u:TypeId} {L:Rg} {s s':ByteArray}
theorem WOL.neS (hx:getL L x = some (.string s)) (hy:getL L y = some (.string s')) (w:∀ a,Kn (putL L d (.bool (!(s.toList == s'.toList)))) a → WO P tp rest a h K):∀ a,Kn L a → WO P tp (⟨d,.binOp .neq t x y u,ty,none,[],i⟩ :: rest) a h K:=fun a k => by
  have ex:=getO_eval (k.o hx)
  have ey:=getO_eval (k.o hy)
  refine WO.plainly rfl rfl rfl (by simp [fastOp,fastBin,ex,ey]) (by simp [valueOp,ex,ey,eqT_string]) (plainOp_of (by rfl) (fun q hq => ?_) ?_ rfl) (w _ (k.put d _))
  · simp only [Op.operands] at hq
    simp at hq
    rcases hq with rfl | rfl
    · rw [ex];rfl
    · rw [ey];rfl
  · show pv P (execOp a.eval ⟨d, .binOp .neq t x y u, ty, "", #[], none⟩) = _
    simp [execOp,pv_bind,pv_map,pv_pure,ex,ey,eqGuard,binOp,Op.stringOp,bne]
end
def runsB:ByteArray:=⟨#[82,85,78,83]⟩
def neS (a b:ByteArray):Bool:=!(a.toList == b.toList)
section
variable (l:List Nat)
def cu0:Cu:=cnx l.length (0,false) 4
def hdE:Int:=firstNZ [cond (cu0 l).2 28 0,cond (neS (strO (cbs l (0,false) 4)) runsB) 1 0]
def cuE:Cu:=cnx l.length (cu7 l (cu0 l)) 4
def upE (es L:List Int):Int:=firstNZ [cond (cuE l).2 28 0,cond (decide (((l.length - (cuE l).1:Nat):Int) > 0)) 2 0,cond (((numB (cbs l (cu7 l (cu0 l)) 4):Nat):Int) != tot (l.take (l.length - 4))) 27 0,runE (rdN l (cu0 l)) (rdF l (cu0 l):Nat) (rdL l (cu0 l)).length (rdS l (cu0 l)) es L,cond ((rdL l (cu0 l)).any isMz) 1 0]
def unE (es L:List Int):Int:=cond (decide ((l.length:Int) > 400000)) 26 (cond (hdE l != 0) (hdE l) (upE l es L))
end
def UnpA (l:List Nat) (es L:List Int) (h:TH) (w:Value):Prop :=
 (unE l es L ≠ 0 ∧ w = .tuple #[runV ⟨#[]⟩ 0 (.slice none 0 0) (.slice none 0 0),zi (unE l es L)]) ∨
 (unE l es L = 0 ∧ ∃ w1 w2,w = .tuple #[runV (rdN l (cu0 l)) (rdF l (cu0 l):Nat) w1 w2,zi 0] ∧ SlL encF 1 h w1 (rdL l (cu0 l)) ∧ SlL encS 2 h w2 (rdS l (cu0 l)))
theorem tp1040:Tp Tryz.prog 203 2 [.slice none 0 0,.bool false] true:=tp_of (by kernel_rfl) (by kernel_rfl) rfl
theorem bd1040 {b o n c:Nat}:buildT Tryz.prog 203 [(0,.slice (some ⟨b,o,none⟩) n c)] = some (.agg #[.slice (some ⟨b,o,none⟩) n c,.bool false]):=by kernel_rfl
theorem RunH.relock {h:TH} {v1 v2:Value} {F:List Nat} {S:List (Int × Int)} (r:RunH h v1 v2 F S) (M:List Nat):RunH (h.withLock M) v1 v2 F S:=⟨r.f.relock M,r.s.relock M,r.g.relock M⟩
theorem stm_of {h:TH} {b o n cap:Nat} {l:List Nat} (s:SlL encY 1 h (.slice (some ⟨b,o,none⟩) n cap) l) (F:Fits h (.slice (some ⟨b,o,none⟩) n cap) 5):n = l.length ∧ Stm h b o cap l:=by
 obtain ⟨bo,cap',e,h1,h2,h3⟩:=s
 injection e with e1 e2 e3
 subst e1 e2 e3
 refine ⟨rfl,?_,h1⟩
 rcases h3 with ⟨h3,_⟩ | ⟨b',off,cc,fix,wr,el,h3,A,h4,h5⟩
 ·cases h3
 ·injection h3 with h3
  injection h3 with h3 h6
  subst h3 h6
  obtain ⟨cc',fix',wr',el',A',hf⟩:=F _ _ _ _ rfl
  have ee:=A.get.symm.trans A'.get
  cases ee
  rw [Nat.mul_one] at h4 h5
  exact ⟨cc,fix,wr,el,A,h4,h5,hf⟩
theorem own_fits {nB:Nat} {h:TH} {w:Value} {e:TypeId} {α:Type} {enc:α → List Value} {l:List α} (o:OwnL enc nB h w e l):Fits h w e:=by
 rcases o with ⟨rfl,_⟩ | ⟨_,b,rfl,_,a⟩
 ·exact fun _ _ _ _ e => by cases e
 ·exact Fits.of a (.inr rfl)
section
variable {h:TH} {l:List Nat} {b o n cap:Nat} {es L:List Int}
set_option maxHeartbeats 4000000 in
set_option maxRecDepth 10000 in
theorem k1021 (H:Has tp) (X:HasX tp) (Y:HasY tp) (s:SlL encY 1 h (.slice (some ⟨b,o,none⟩) n cap) l) (F:Fits h (.slice (some ⟨b,o,none⟩) n cap) 5) (hby:Byt l) (hE:SErr (rdL l (cu0 l)) es) (hL:firstNZ es = 0 → Lev (rdL l (cu0 l)) L) (f:Free0 h.next h) :
    CallW Tryz.prog tp (.func (.func 70) #[] #[]) #[.slice (some ⟨b,o,none⟩) n cap] h fun w h' => HX h h' ∧ UnpA l es L h' w:=by
  obtain ⟨rfl,st⟩:=stm_of s F
  have hbl:b < h.next:=by
    obtain ⟨_,_,_,_,a,_⟩:=st.ex
    exact a.lt
  refine CallW.fnL (H.fn 70 f1021 rfl rfl) ?_
  refine WL.sr <| WOL.al tp52 fun h1 N1 => WOL.as rfl <| WOL.nil <| keep [(0,_),(2,_)] ⟨rfl,rfl,trivial⟩ ?_
  have n1:=N1.next
  have A2:At h1 h.next (.cells [.string ⟨#[]⟩,zi 0,.slice none 0 0,.slice none 0 0] true true 52):=N1.at_
  have f1:=f.on N1.hx
  -- the zero run,and an error
  have zero:∀ {g:TH} (X:HX h1 g) (e:Int),unE l es L = e → e ≠ 0 → ∀ a,Kn [(2,ptr h.next),(3,zi e)] a → ∀ g' (_:Put g g' h.next (.cells [.string ⟨#[]⟩,zi 0,.slice none 0 0,.slice none 0 0] true true 52)),Fin Tryz.prog f1021.results (fun w h' => HX h h' ∧ UnpA l es L h' w) .ret a g':=by
    intro g X e he hne a k g' P
    refine WL.endC1 rfl rfl (load_row tp52 P.at_ rfl (Nat.le_of_ble_eq_true rfl)) ⟨P.hx _ (N1.hx.trans X) (Nat.le_refl _),.inl ⟨by rw [he];exact hne,?_⟩⟩ a k
    rw [he]
    rfl
  refine WL.seq <| WL.sr <| WOL.mv rfl <| WOL.len rfl (s.hx N1.hx) u116 ?_
  refine WOL.bi (v:=.bool (decide ((l.length:Int) > 400000))) rfl rfl rfl <| WOL.nil <| keep [(0,_),(2,_),(12,_)] ⟨rfl,rfl,rfl,trivial⟩ ?_
  by_cases hbig:400000 < l.length
  · rw [show decide ((l.length:Int) > 400000) = true from decide_eq_true (by omega)]
    refine WL.yes rfl <| WL.sr <| WOL.bd rfl bd52z ?_
    refine WOL.sto rfl rfl tp52 A2 rfl rfl (Nat.le_of_ble_eq_true rfl) rfl (f.hx N1.hx) (Nat.le_refl _) fun h2 P2 => WOL.as rfl <| WOL.nil ?_
    refine WL.ret (kto (fun a k => zero (HX.refl _) 26 ?_ (by decide) a k h2 P2) ⟨rfl,rfl,trivial⟩)
    unfold unE
    rw [show decide ((l.length:Int) > 400000) = true from decide_eq_true (by omega)]
    rfl
  rw [show decide ((l.length:Int) > 400000) = false from decide_eq_false (by omega)]
  have eu:unE l es L = cond (hdE l != 0) (hdE l) (upE l es L):=by
    unfold unE
    rw [show decide ((l.length:Int) > 400000) = false from decide_eq_false (by omega)]
    rfl
  refine WL.no rfl <| WL.skip ?_
  -- the cursor
  refine WL.sr <| WOL.mv rfl <| WOL.bd rfl bd1040 <| WOL.al tp1040 fun h2 N2 => ?_
  have n2:=N2.next
  refine WOL.sto rfl rfl tp1040 N2.at_ rfl rfl (Nat.le_of_ble_eq_true rfl) rfl (f1.hx N2.hx) (Nat.le_refl _) fun h3 P3 => WOL.nil <| keep [(0,_),(2,_),(4,_)] ⟨rfl,rfl,rfl,trivial⟩ ?_
  have n3:=P3.next
  have X3:HX h1 h3:=P3.hx _ N2.hx (Nat.le_refl _)
  have A4:At h3 h1.next (curC l.length b o cap (0,false)):=P3.at_
  have hb4:b ≠ h1.next:=by omega
  have st3:=st.hx (N1.hx.trans X3)
  have ffl:∀ {g:TH},HX h1 g → g.floor ≤ h1.next:=fun x => (f1.hx x).floor
  have fnl:∀ {g:TH},HX h1 g → h1.next ∉ g.lock:=fun x e => by have:=(f1.hx x).lock _ e;omega
  refine WL.sr <| WOL.cl2 rfl rfl rfl ((k1032 H st3 A4 (Nat.zero_le _) (ffl X3) (fnl X3) (k:=4) (by decide)).mono ?_)
  rintro w h4 ⟨rfl,P4⟩
  have n4:=P4.next
  have X4:HX h1 h4:=P4.hx _ X3 (Nat.le_refl _)
  have B4:At h4 h1.next (curC l.length b o cap (cu0 l)):=P4.at_
  have st4:=st.hx (N1.hx.trans X4)
  have p0:(cu0 l).1 ≤ l.length:=cnx_le (Nat.zero_le _)
  refine WOL.as rfl <| WOL.nil <| keep [(0,_),(2,_),(4,_),(5,_)] ⟨rfl,rfl,rfl,rfl,trivial⟩ ?_
  obtain ⟨_,_,_,_,s4⟩:=cval_sl (c:=(0,false)) (k:=4) st4 (Nat.zero_le _)
  -- the heading
  refine WL.seq <| WL.sr <| WOL.fa rfl (fa_of fo1040_1) <| WOL.ld rfl (load_one tp4 B4 rfl) <| WOL.mv rfl <| WOL.str s4 cval_form rfl <| WOL.neS rfl rfl ?_
  refine WOL.lk2 rfl rfl rfl fun M => ((k77 H (cu0 l).2 28 _).mono ?_)
  rintro w hh ⟨rfl,rfl⟩
  rw [TH.relock]
  refine WOL.cl2 rfl rfl rfl ((k77 H (neS (strO (cbs l (0,false) 4)) runsB) 1 _).mono ?_)
  rintro w hh ⟨rfl,e⟩
  replace e:=e.symm
  subst e
  refine WOL.bsl rfl u166 tp30 (by decide) (by decide) (by decide) (cs:=[_,_].map (.int .i64)) rfl fun h5 N5 => ?_
  have X5:=X4.trans N5.hx
  refine WOL.cl1 rfl rfl ((k71 H (l:=[_,_]) N5.at_.get (by simp)).mono ?_)
  rintro w hh ⟨rfl,e⟩
  replace e:=e.symm
  subst e
  refine WOL.as rfl <| WOL.nil <| keep [(0,_),(2,_),(4,_),(6,_)] ⟨rfl,rfl,rfl,rfl,trivial⟩ ?_
  show ∀ a,Kn [(0,_),(2,_),(4,_),(6,zi (hdE l))] a → _
  refine WL.sr <| WOL.mv rfl <| WOL.bi rfl rfl nzero <| WOL.nil <| keep [(0,_),(2,_),(4,_),(6,_),(27,_)] ⟨rfl,rfl,rfl,rfl,rfl,trivial⟩ ?_
  rcases nz_cases (hdE l) with h0 | h0
  rotate_left
  · rw [h0]
    have hne:hdE l ≠ 0:=by simpa using h0
    refine WL.yes rfl <| WL.sr <| WOL.bd rfl bd52z <| WOL.mv rfl ?_
    refine WOL.sto rfl rfl tp52 (A2.hx X5) rfl rfl (Nat.le_of_ble_eq_true rfl) rfl (f.hx (N1.hx.trans X5)) (Nat.le_refl _) fun h6 P6 => WOL.as rfl <| WOL.nil ?_
    refine WL.ret (kto (fun a k => zero X5 (hdE l) ?_ hne a k h6 P6) ⟨rfl,rfl,trivial⟩)
    rw [eu,h0]
    rfl
  have eu2:unE l es L = upE l es L:=by
    rw [eu,show (hdE l != 0) = false by rw [h0];rfl]
    rfl
  have hz:=firstNZ_zero h0
  have ht:(cu0 l).2 = false:=by
    have:=hz (cond (cu0 l).2 28 0) (by simp)
    cases q:(cu0 l).2 with
    | false => rfl
    | true => rw [q] at this;cases this
  have h4l:4 ≤ l.length:=by
    have:¬ (l.length < 4):=fun e => by
      have:(cu0 l).2 = true:=by
        unfold cu0 cnx cbad
        show (cond (false || Nat.blt (l.length - 0) 4) ((0,true):Cu) (0 + 4,false)).2 = true
        rw [show Nat.blt (l.length - 0) 4 = true by rw [Nat.blt_eq];omega]
        rfl
      rw [this] at ht;cases ht
    omega
  rw [h0]
  refine WL.no rfl <| WL.skip ?_
  -- the run
  have B5:=B4.hx N5.hx
  have st5:=st.hx (N1.hx.trans X5)
  refine WL.sr <| WOL.cl1 rfl rfl ((k1033 H Y X5 f1 (Nat.le_refl _) st5 hby B5 hb4 p0).mono ?_)
  rintro w h6 ⟨w1,w2,nB,rfl,hnB,o1,o2,C6⟩
  have X6:HX h1 h6:=C6.1 _ X5 (Nat.le_refl _)
  obtain ⟨z1,ez1⟩:=OwnF.form (Or.inl o1)
  obtain ⟨z2,ez2⟩:=OwnF.form (Or.inl o2)
  refine WOL.al tp52 fun h7 N7 => ?_
  have n7:=N7.next
  refine WOL.sto (vs:=[.string (rdN l (cu0 l)),zi (rdF l (cu0 l):Nat),w1,w2]) rfl rfl tp52 N7.at_ rfl rfl (Nat.le_of_ble_eq_true rfl) (by rw [ez1,ez2];rfl) ((f1.hx X6).hx N7.hx) X6.next fun h8 P8 => WOL.nil <| keep [(0,_),(2,_),(4,_),(7,_)] ⟨rfl,rfl,rfl,rfl,trivial⟩ ?_
  have n8:=P8.next
  have X7:HX h6 h8:=P8.hx _ N7.hx (Nat.le_refl _)
  have X8:=X6.trans X7
  have A7:At h8 h6.next (.cells [.string (rdN l (cu0 l)),zi (rdF l (cu0 l):Nat),w1,w2] true true 52):=P8.at_
  have x6:=X6.next
  -- the sum
  have p7:(cu7 l (cu0 l)).1 ≤ l.length:=itS_le (cnx_le (itC_le (cnx_le (cnx_le (cnx_le (cnx_le p0)))) _)) _
  refine WL.sr <| WOL.cl2 rfl rfl rfl ((k1034 H (st.hx (N1.hx.trans X8)) hby (C6.2.2.2.hx X7) hb4 p7 ((f1.hx X8).up X8.next) (ffl X8) (fnl X8) (k:=4) (by decide)).mono ?_)
  rintro w h9 ⟨rfl,C9⟩
  have X9:HX h1 h9:=C9.1 _ X8 (Nat.le_refl _)
  refine WOL.as rfl <| WOL.nil <| keep [(0,_),(2,_),(4,_),(7,_),(8,_)] ⟨rfl,rfl,rfl,rfl,rfl,trivial⟩ ?_
  have a4l:=C6.2.2.2.lt
  have A9:=C9.2.1 _ _ (by omega) A7
  have B9:At h9 h1.next (curC l.length b o cap (cuE l)):=C9.2.2.2
  have O1:OwnL encF nB h9 w1 25 (rdL l (cu0 l)):=(o1.hx X7).keep fun z y hz a => C9.2.1 z y (by have:=(o1.lt hz).1;omega) a
  have O2:OwnL encS nB h9 w2 48 (rdS l (cu0 l)):=(o2.hx X7).keep fun z y hz a => C9.2.1 z y (by have:=(o2.lt hz).1;omega) a
  have r9:RunH h9 w1 w2 (rdL l (cu0 l)) (rdS l (cu0 l)):=⟨O1.sl eF,O2.sl eS,own_fits O1⟩
  have st9:=st.hx (N1.hx.trans X9)
  have pE:(cuE l).1 ≤ l.length:=cnx_le p7
  have hcap:=st9.cap
  have sp:=st9.part (p:=(cuE l).1) (k:=l.length - (cuE l).1) (c:=cap - (cuE l).1) (by omega) (by omega)
  have sp':SlC h9 (.slice (some ⟨b,o + (cuE l).1,none⟩) (l.length - (cuE l).1) (cap - (cuE l).1)) 1 (l.length - (cuE l).1) (cat encY ((l.drop (cuE l).1).take (l.length - (cuE l).1))):=by
    have e:((l.drop (cuE l).1).take (l.length - (cuE l).1)).length = l.length - (cuE l).1:=by rw [List.length_take,List.length_drop];omega
    unfold SlL at sp
    rw [e] at sp
    exact sp
  have sF:=st9.part (p:=0) (k:=l.length - 4) (c:=cap) (by omega) (by omega)
  rw [List.drop_zero] at sF
  obtain ⟨cc,fix,wr,el,Ab,_,_,hf⟩:=st9.ex
  have n9l:h6.next < h9.next:=A9.lt
  have f9:Free0 h9.next h9:=(f1.hx X9).up X9.next
  have m2:(rdL l (cu0 l)).length ≤ 65535:=by
    have:rdM l (cu0 l) < 65536:=cbs_lt (m:=2) hby (Nat.le_refl _)
    unfold rdL smpL
    rw [List.length_map,List.length_range]
    omega
  have m3:(rdS l (cu0 l)).length ≤ 65535:=by
    have:rdK l (cu0 l) < 65536:=cbs_lt (m:=2) hby (Nat.le_refl _)
    unfold rdS holL
    rw [List.length_map,List.length_range]
    omega
  have hw:∀ w,w ∈ rdL l (cu0 l) → w < 4294967296:=by
    intro w hm
    unfold rdL smpL at hm
    obtain ⟨j,_,rfl⟩:=List.mem_map.1 hm
    exact cbs_lt (m:=4) hby (Nat.le_refl _)
  refine WL.sr <| WOL.fa rfl (fa_of fo1040_1) <| WOL.ld rfl (load_one tp4 B9 rfl) <| WOL.fa rfl (fa_of fo1040_0) <| WOL.ld rfl (load_one tp116 B9 rfl) <| WOL.len rfl sp' u116 ?_
  refine WOL.bi (v:=.bool (decide (((l.length - (cuE l).1:Nat):Int) > 0))) rfl rfl rfl <| WOL.mv rfl <| WOL.mv rfl <| WOL.mv rfl <| WOL.len rfl (s.hx (N1.hx.trans X9)) u116 ?_
  refine WOL.bi (v:=zi ((l.length - 4:Nat):Int)) rfl rfl (by show some (Value.int .i64 (fwrap .i64 ((l.length:Int) - 4))) = _;rw [fwrap_i64 (by omega) (by omega)];congr 2;omega) ?_
  refine WOL.sl2 rfl rfl (sliceT_to (k:=.i64) u116 tp5 hcap (show l.length - 4 ≤ l.length by omega) Ab hf) ?_
  refine WOL.ld rfl (load_row tp52 A9 rfl (Nat.le_of_ble_eq_true rfl)) <| WOL.fa rfl (fa_of fo52_2) <| WOL.ld rfl (load_one tp43 A9 rfl) ?_
  refine WOL.lk2 rfl rfl rfl fun M => ((k77 H (cuE l).2 28 _).mono ?_)
  rintro w hh ⟨rfl,rfl⟩
  rw [TH.relock]
  refine WOL.lk2 rfl rfl rfl fun M => ((k77 H (decide (((l.length - (cuE l).1:Nat):Int) > 0)) 2 _).mono ?_)
  rintro w hh ⟨rfl,rfl⟩
  rw [TH.relock]
  refine WOL.lq1 [h6.next,h6.next] rfl rfl rfl fun M hM => ((k129 H (sF.relock M) (hby.take _) (by rw [List.length_take];omega) (f9.held hM (fun z hz => by simp at hz;omega))).mono ?_)
  rintro w h10 ⟨rfl,X10⟩
  replace X10:=X10.relock
  generalize h10.withLock h9.lock = h10 at *
  refine WOL.bi (v:=.bool (((numB (cbs l (cu7 l (cu0 l)) 4):Nat):Int) != tot (l.take (l.length - 4)))) rfl rfl rfl ?_
  refine WOL.lk2 rfl rfl rfl fun M => ((k77 H (((numB (cbs l (cu7 l (cu0 l)) 4):Nat):Int) != tot (l.take (l.length - 4))) 27 _).mono ?_)
  rintro w hh ⟨rfl,rfl⟩
  rw [TH.relock]
  have f10:Free0 h10.next h10:=(f1.hx (X9.trans X10)).up (X9.trans X10).next
  have n10:=X10.next
  refine WOL.lq1 [h6.next] rfl rfl rfl fun M hM => ((k41 H X (s:=rdN l (cu0 l)) (n:=(rdF l (cu0 l):Nat)) ((r9.hx X10).relock M) hE hL (by omega) (by omega) (f10.held hM (fun z hz => by simp at hz;omega))).mono ?_)
  rintro w h11 ⟨rfl,X11⟩
  replace X11:=X11.relock
  generalize h11.withLock h10.lock = h11 at *
  have Y11:=X10.trans X11
  refine WOL.cl2 rfl rfl rfl ((k1035 H X ((O1.hx Y11).sl eF) hw (by omega)).mono ?_)
  rintro w hh ⟨rfl,e⟩
  replace e:=e.symm
  subst e
  refine WOL.cl2 rfl rfl rfl ((k77 H ((rdL l (cu0 l)).any isMz) 1 _).mono ?_)
  rintro w hh ⟨rfl,e⟩
  replace e:=e.symm
  subst e
  refine WOL.bsl rfl u166 tp30 (by decide) (by decide) (by decide) (cs:=[_,_,_,_,_].map (.int .i64)) rfl fun h12 N12 => ?_
  refine WOL.cl1 rfl rfl ((k71 H (l:=[_,_,_,_,_]) N12.at_.get (by simp)).mono ?_)
  rintro w hh ⟨rfl,e⟩
  replace e:=e.symm
  subst e
  have Y12:=Y11.trans N12.hx
  have X12:=X9.trans Y12
  refine WOL.as rfl <| WOL.nil <| keep [(2,_),(7,_),(9,_)] ⟨rfl,rfl,rfl,trivial⟩ ?_
  show ∀ a,Kn [(2,_),(7,_),(9,zi (upE l es L))] a → _
  refine WL.seq <| WL.sr <| WOL.mv rfl <| WOL.bi rfl rfl nzero <| WOL.nil <| keep [(2,_),(7,_),(9,_),(58,_)] ⟨rfl,rfl,rfl,rfl,trivial⟩ ?_
  rcases nz_cases (upE l es L) with h1' | h1'
  rotate_left
  · rw [h1']
    have hne:upE l es L ≠ 0:=by simpa using h1'
    refine WL.yes rfl <| WL.sr <| WOL.bd rfl bd52z <| WOL.mv rfl ?_
    refine WOL.sto rfl rfl tp52 (A2.hx X12) rfl rfl (Nat.le_of_ble_eq_true rfl) rfl (f.hx (N1.hx.trans X12)) (Nat.le_refl _) fun h13 P13 => WOL.as rfl <| WOL.nil ?_
    exact WL.ret (kto (fun a k => zero X12 (upE l es L) eu2 hne a k h13 P13) ⟨rfl,rfl,trivial⟩)
  rw [h1']
  refine WL.no rfl <| WL.skip ?_
  refine WL.sr <| WOL.ld rfl (load_row tp52 (A9.hx Y12) rfl (Nat.le_of_ble_eq_true rfl)) ?_
  refine WOL.sto (vs:=[.string (rdN l (cu0 l)),zi (rdF l (cu0 l):Nat),w1,w2]) rfl rfl tp52 (A2.hx X12) rfl rfl (Nat.le_of_ble_eq_true rfl) (by rw [ez1,ez2];rfl) (f.hx (N1.hx.trans X12)) (Nat.le_refl _) fun h13 P13 => WOL.as rfl <| WOL.nil ?_
  have A13:At h13 h.next (.cells [.string (rdN l (cu0 l)),zi (rdF l (cu0 l):Nat),w1,w2] true true 52):=P13.at_
  refine WL.ret (WL.endC1 rfl rfl (load_row tp52 A13 rfl (Nat.le_of_ble_eq_true rfl)) ⟨P13.hx _ (N1.hx.trans X12) (Nat.le_refl _),.inr ⟨by rw [eu2];exact h1',w1,w2,rfl,?_,?_⟩⟩)
  · exact ((O1.hx Y12).keep fun z y hz a => P13.oth z y (by have:=(O1.lt hz).1;omega) a).sl eF
  · exact ((O2.hx Y12).keep fun z y hz a => P13.oth z y (by have:=(O2.lt hz).1;omega) a).sl eS
end
end Go.Tidy
namespace Go.Tidy
open Go Go.Proofs Tab
section
variable {n p k:Nat} {c:Cu} {l:List Nat}
theorem blt_yes {a b:Nat} (h:a < b):Nat.blt a b = true:=by rw [Nat.blt_eq];exact h
theorem blt_no {a b:Nat} (h:¬ a < b):Nat.blt a b = false:=by
 cases q:Nat.blt a b with
 | false => rfl
 | true => rw [Nat.blt_eq] at q;exact absurd q h
theorem cbad_good (h:p + k ≤ n):cbad n (p,false) k = false:=by
 show (false || Nat.blt (n - p) k) = false
 rw [blt_no (by omega)];rfl
theorem cbad_bad (h:n < p + k) (hp:p ≤ n):cbad n (p,false) k = true:=by
 show (false || Nat.blt (n - p) k) = true
 rw [blt_yes (by omega)];rfl
theorem cnx_good (h:p + k ≤ n):cnx n (p,false) k = (p + k,false):=by
 unfold cnx;rw [cbad_good h];rfl
theorem cbs_good (h:p + k ≤ l.length):cbs l (p,false) k = (l.drop p).take k:=by
 unfold cbs;rw [cbad_good h];rfl
theorem cnx_bad (h:n < p + k) (hp:p ≤ n):(cnx n (p,false) k).2 = true:=by
 unfold cnx;rw [cbad_bad h hp];rfl
theorem cnx_torn (h:c.2 = true):(cnx n c k).2 = true:=by
 unfold cnx cbad;rw [h];rfl
theorem itC_torn (h:c.2 = true):∀ i,(itC n k c i).2 = true
 | 0 => h
 | i + 1 => cnx_torn (itC_torn h i)
theorem itS_torn (h:c.2 = true):∀ i,(itS n c i).2 = true
 | 0 => h
 | i + 1 => cnx_torn (cnx_torn (itS_torn h i))
theorem itC_all (hp:p ≤ n):∀ m,(p + 4 * m ≤ n → itC n 4 (p,false) m = (p + 4 * m,false)) ∧ (n < p + 4 * m → (itC n 4 (p,false) m).2 = true)
  | 0 => ⟨fun _ => rfl,fun h => absurd h (by omega)⟩
  | m + 1 => by
    obtain ⟨i1,i2⟩:=itC_all hp m
    refine ⟨fun h => ?_,fun h => ?_⟩
    · show cnx n (itC n 4 (p,false) m) 4 = _
      rw [i1 (by omega),cnx_good (by omega)]
      rfl
    · show (cnx n (itC n 4 (p,false) m) 4).2 = true
      by_cases q:p + 4 * m ≤ n
      · rw [i1 q];exact cnx_bad (by omega) q
      · exact cnx_torn (i2 (by omega))
theorem itS_all (hp:p ≤ n):∀ m,(p + 4 * m ≤ n → itS n (p,false) m = (p + 4 * m,false)) ∧ (n < p + 4 * m → (itS n (p,false) m).2 = true)
  | 0 => ⟨fun _ => rfl,fun h => absurd h (by omega)⟩
  | m + 1 => by
    obtain ⟨i1,i2⟩:=itS_all hp m
    refine ⟨fun h => ?_,fun h => ?_⟩
    · show cnx n (cnx n (itS n (p,false) m) 2) 2 = _
      rw [i1 (by omega),cnx_good (by omega),cnx_good (by omega)]
      rfl
    · show (cnx n (cnx n (itS n (p,false) m) 2) 2).2 = true
      by_cases q:p + 4 * m ≤ n
      · rw [i1 q]
        by_cases q2:p + 4 * m + 2 ≤ n
        · rw [cnx_good q2];exact cnx_bad (by omega) q2
        · exact cnx_torn (cnx_bad (by omega) q)
      · exact cnx_torn (cnx_torn (i2 (by omega)))
end
section
variable (l:List Nat)
def pB:Nat:=l.getD 4 0
def pA1:Nat:=5 + pB l
def pN:ByteArray:=strO ((l.drop 5).take (pB l))
def pF:Nat:=numB ((l.drop (pA1 l)).take 4)
def pM:Nat:=numB ((l.drop (pA1 l + 4)).take 2)
def pA2:Nat:=pA1 l + 6
def pL (i:Nat):List Nat:=(List.range i).map fun j => numB ((l.drop (pA2 l + 4 * j)).take 4)
def pA3:Nat:=pA2 l + 4 * pM l
def pK:Nat:=numB ((l.drop (pA3 l)).take 2)
def pA4:Nat:=pA3 l + 2
def pS (i:Nat):List (Int × Int):=(List.range i).map fun j => ((numB ((l.drop (pA4 l + 4 * j)).take 2):Int),(numB ((l.drop (pA4 l + 4 * j + 2)).take 2):Int))
def pA5:Nat:=pA4 l + 4 * pK l
end
section
variable {l:List Nat}
theorem one_byte (h:5 ≤ l.length):numB ((l.drop 4).take 1) = l.getD 4 0:=by
 have e:(l.drop 4).take 1 = [l.getD 4 0]:=by
  rw [List.getD_eq_getElem?_getD,List.getElem?_eq_getElem (show 4 < l.length by omega),List.drop_eq_getElem_cons (show 4 < l.length by omega)]
  rfl
 rw [e]
 show 256 * 0 + l.getD 4 0 = l.getD 4 0
 omega
theorem up_torn (es L:List Int) (h:(cuE l).2 = true):upE l es L = 28:=by
 unfold upE
 rw [h]
 rfl
theorem cu0_good (h:4 ≤ l.length):cu0 l = (4,false):=cnx_good (by omega)
theorem torn1 (h4:4 ≤ l.length) (h:l.length < 5):(cuE l).2 = true:=by
 have t1:(cu1 l (cu0 l)).2 = true:=by unfold cu1;rw [cu0_good h4];exact cnx_bad (by omega) h4
 exact cnx_torn (itS_torn (cnx_torn (itC_torn (cnx_torn (cnx_torn (cnx_torn t1))) _)) _)
theorem cu1_good (h:5 ≤ l.length):cu1 l (cu0 l) = (5,false) ∧ rdB l (cu0 l) = pB l:=by
 unfold cu1 rdB
 rw [cu0_good (by omega),cnx_good (by omega),cbs_good (by omega)]
 exact ⟨rfl,one_byte h⟩
theorem torn2 (h5:5 ≤ l.length) (h:l.length < pA1 l + 6):(cuE l).2 = true:=by
 obtain ⟨e1,e2⟩:=cu1_good h5
 have e3:cu2 l (cu0 l) = cnx l.length (5,false) (pB l):=by unfold cu2;rw [e1,e2]
 have t4:(cu4 l (cu0 l)).2 = true:=by
  unfold cu4 cu3
  rw [e3]
  unfold pA1 at h
  by_cases q:5 + pB l ≤ l.length
  ·rw [cnx_good q]
   by_cases q2:5 + pB l + 4 ≤ l.length
   ·rw [cnx_good q2];exact cnx_bad (by omega) q2
   ·exact cnx_torn (cnx_bad (by omega) q)
  ·exact cnx_torn (cnx_torn (cnx_bad (by omega) h5))
 exact cnx_torn (itS_torn (cnx_torn (itC_torn t4 _)) _)
theorem cu4_good (h:pA1 l + 6 ≤ l.length):cu4 l (cu0 l) = (pA2 l,false) ∧ rdN l (cu0 l) = pN l ∧ rdF l (cu0 l) = pF l ∧ rdM l (cu0 l) = pM l:=by
 unfold pA1 at h
 obtain ⟨e1,e2⟩:=cu1_good (l:=l) (by omega)
 have e3:cu2 l (cu0 l) = (pA1 l,false):=by unfold cu2;rw [e1,e2,cnx_good (by omega)];rfl
 have e4:cu3 l (cu0 l) = (pA1 l + 4,false):=by unfold cu3;rw [e3,cnx_good (by unfold pA1;omega)]
 refine ⟨?_,?_,?_,?_⟩
 ·unfold cu4;rw [e4,cnx_good (by unfold pA1;omega)];rfl
 ·unfold rdN;rw [e1,e2,cbs_good (by omega)];rfl
 ·unfold rdF;rw [e3,cbs_good (by unfold pA1;omega)];rfl
 ·unfold rdM;rw [e4,cbs_good (by unfold pA1;omega)];rfl
theorem torn3 (h6:pA1 l + 6 ≤ l.length) (h:l.length < pA3 l + 2):(cuE l).2 = true:=by
 obtain ⟨e1,_,_,e2⟩:=cu4_good h6
 have t6:(cu6 l (cu0 l)).2 = true:=by
  unfold cu6 cu5
  rw [e1,e2]
  obtain ⟨i1,i2⟩:=itC_all (p:=pA2 l) (n:=l.length) (by unfold pA2;omega) (pM l)
  by_cases q:pA2 l + 4 * pM l ≤ l.length
  ·rw [i1 q];exact cnx_bad (by unfold pA3 at h;omega) q
  ·exact cnx_torn (i2 (by omega))
 exact cnx_torn (itS_torn t6 _)
theorem cu6_good (h:pA3 l + 2 ≤ l.length):cu6 l (cu0 l) = (pA4 l,false) ∧ rdL l (cu0 l) = pL l (pM l) ∧ rdK l (cu0 l) = pK l:=by
 unfold pA3 pA2 at h
 obtain ⟨e1,_,_,e2⟩:=cu4_good (l:=l) (by omega)
 have all:=fun m => itC_all (p:=pA2 l) (n:=l.length) (by unfold pA2;omega) m
 have e5:cu5 l (cu0 l) = (pA3 l,false):=by
  unfold cu5
  rw [e1,e2,(all (pM l)).1 (by unfold pA2;omega)]
  rfl
 refine ⟨?_,?_,?_⟩
 ·unfold cu6;rw [e5,cnx_good (by unfold pA3 pA2;omega)];rfl
 ·unfold rdL smpL pL
  rw [e1,e2]
  refine List.map_congr_left fun j hj => ?_
  have hj:=List.mem_range.1 hj
  rw [(all j).1 (by unfold pA2;omega),cbs_good (by unfold pA2;omega)]
 ·unfold rdK;rw [e5,cbs_good (by unfold pA3 pA2;omega)];rfl
theorem torn4 (h7:pA3 l + 2 ≤ l.length) (h:l.length < pA5 l + 4):(cuE l).2 = true:=by
 obtain ⟨e1,_,e2⟩:=cu6_good h7
 unfold cuE cu7
 rw [e1,e2]
 obtain ⟨i1,i2⟩:=itS_all (p:=pA4 l) (n:=l.length) (by unfold pA4;omega) (pK l)
 by_cases q:pA4 l + 4 * pK l ≤ l.length
 ·rw [i1 q];exact cnx_bad (by unfold pA5 at h;omega) q
 ·exact cnx_torn (i2 (by omega))
theorem cu7_good (h:pA5 l + 4 ≤ l.length):cu7 l (cu0 l) = (pA5 l,false) ∧ cuE l = (pA5 l + 4,false) ∧ rdS l (cu0 l) = pS l (pK l):=by
 unfold pA5 pA4 at h
 obtain ⟨e1,_,e2⟩:=cu6_good (l:=l) (by omega)
 have all:=fun m => itS_all (p:=pA4 l) (n:=l.length) (by unfold pA4;omega) m
 have e7:cu7 l (cu0 l) = (pA5 l,false):=by
  unfold cu7
  rw [e1,e2,(all (pK l)).1 (by unfold pA4;omega)]
  rfl
 refine ⟨e7,?_,?_⟩
 ·unfold cuE;rw [e7,cnx_good (by unfold pA5 pA4;omega)]
 ·unfold rdS holL pS
  rw [e1,e2]
  refine List.map_congr_left fun j hj => ?_
  have hj:=List.mem_range.1 hj
  rw [(all j).1 (by unfold pA4;omega),cnx_good (by unfold pA4;omega),cbs_good (by unfold pA4;omega),cbs_good (by unfold pA4;omega)]
def rfE (l:List Nat) (es L:List Int):Int:=firstNZ [cond (decide ((l.length:Int) > (pA5 l:Int) + 4)) 2 0,cond (((numB ((l.drop (pA5 l)).take 4):Nat):Int) != tot (l.take (pA5 l))) 27 0,runE (pN l) (pF l:Nat) (pL l (pM l)).length (pS l (pK l)) es L,cond ((pL l (pM l)).any isMz) 1 0]
theorem up_whole (es L:List Int) (h:pA5 l + 4 ≤ l.length):upE l es L = rfE l es L:=by
 have h':=h
 unfold pA5 pA4 pA3 pA2 at h'
 obtain ⟨e1,e2,e3⟩:=cu7_good h
 obtain ⟨_,e4,_⟩:=cu6_good (l:=l) (by unfold pA3 pA2;omega)
 obtain ⟨_,e5,e6,_⟩:=cu4_good (l:=l) (by omega)
 unfold upE rfE
 rw [e2,e1,e3,e4,e5,e6,cbs_good h]
 by_cases q:pA5 l + 4 < l.length
 ·rw [show decide (((l.length - (pA5 l + 4):Nat):Int) > 0) = true from decide_eq_true (by omega),show decide ((l.length:Int) > (pA5 l:Int) + 4) = true from decide_eq_true (by omega)]
  rfl
 ·rw [show decide (((l.length - (pA5 l + 4):Nat):Int) > 0) = false from decide_eq_false (by omega),show decide ((l.length:Int) > (pA5 l:Int) + 4) = false from decide_eq_false (by omega),show l.length - 4 = pA5 l by omega]
  rfl
end
end Go.Tidy
namespace Go.Tidy
open Go Go.Proofs Tab
variable {tp:TProg}
section
variable {P:Program} {h:TH} {K:Regs → TH → Prop} {rest:List TOper} {d:Option Tmp} {ty:TypeId} {i:Nat} {x y:Operand} {t u:TypeId} {L:Rg}
theorem WOL.addN {m k:Nat} (hx:getL L x = some (zi (m:Nat))) (hy:getL L y = some (zi (k:Nat))) (hb:m + k ≤ 1000000000) (w:∀ a,Kn (putL L d (zi ((m + k:Nat):Int))) a → WO P tp rest a h K):∀ a,Kn L a → WO P tp (⟨d,.binOp .add t x y u,ty,none,[],i⟩ :: rest) a h K :=
 WOL.bi hx hy (by show some (Value.int .i64 (fwrap .i64 ((m:Int) + (k:Int)))) = _;rw [fwrap_i64 (by omega) (by omega)];rfl) w
theorem WOL.mulN {m k:Nat} (hx:getL L x = some (zi (m:Nat))) (hy:getL L y = some (zi (k:Nat))) (hb:m * k ≤ 1000000000) (w:∀ a,Kn (putL L d (zi ((m * k:Nat):Int))) a → WO P tp rest a h K):∀ a,Kn L a → WO P tp (⟨d,.binOp .mul t x y u,ty,none,[],i⟩ :: rest) a h K :=
 WOL.bi hx hy (by
  have e:((m * k:Nat):Int) = (m:Int) * (k:Int):=rfl
  show some (Value.int .i64 (fwrap .i64 ((m:Int) * (k:Int)))) = _
  rw [← e,fwrap_i64 (by omega) (by omega)]) w
end
theorem sl_at {h:TH} {b o cap lo k:Nat} {l:List Nat} (st:Stm h b o cap l) (hk:lo + k ≤ l.length):sliceT Tryz.prog 106 (.slice (some ⟨b,o,none⟩) l.length cap) (some (zi (lo:Nat))) (some (zi ((lo + k:Nat):Int))) none h = some (.slice (some ⟨b,o + lo,none⟩) k (cap - lo)):=by
 obtain ⟨cc,fix,wr,el,A,_,_,hf⟩:=st.ex
 have:=sliceT_at (P:=Tryz.prog) (t:=106) (off:=o) (m:=l.length) (cap:=cap) (lo:=lo) (hi:=lo + k) (k:=.i64) (k':=.i64) u116 tp5 st.cap (by omega) hk A hf
 rw [Nat.mul_one,show lo + k - lo = k by omega] at this
 exact this
theorem sl_to {h:TH} {b o cap k:Nat} {l:List Nat} (st:Stm h b o cap l) (hk:k ≤ l.length):sliceT Tryz.prog 106 (.slice (some ⟨b,o,none⟩) l.length cap) none (some (zi (k:Nat))) none h = some (.slice (some ⟨b,o,none⟩) k cap):=by
 obtain ⟨cc,fix,wr,el,A,_,_,hf⟩:=st.ex
 exact sliceT_to (k:=.i64) u116 tp5 st.cap hk A hf
theorem bd46p {s:ByteArray} {n:Int}:buildT Tryz.prog 46 [(0,.string s),(1,.int .i64 n)] = some (runV s n (.slice none 0 0) (.slice none 0 0)):=by kernel_rfl
structure RrU (h g:TH) (c2 c7 nB:Nat) (s:ByteArray) (fi:Int) (w1 w2:Value) (F:List Nat) (S:List (Int × Int)):Prop where
 x:HX h g
 nx:nB ≤ g.next
 a2:At g c2 (.cells [.string ⟨#[]⟩,zi 0,.slice none 0 0,.slice none 0 0] true true 46)
 a7:At g c7 (.cells [.string s,zi fi,w1,w2] true true 46)
 o1:OwnL encF nB g w1 25 F
 o2:OwnL encS nB g w2 48 S
 ne:∀ x,bl w1 = some x → bl w2 ≠ some x
section
variable {h g g2 g':TH} {c2 c7 nB:Nat} {s:ByteArray} {fi:Int} {w1 w2 w':Value} {F F':List Nat} {S S':List (Int × Int)}
theorem RrU.hx (q:RrU h g c2 c7 nB s fi w1 w2 F S) (x:HX g g'):RrU h g' c2 c7 nB s fi w1 w2 F S:=⟨q.x.trans x,Nat.le_trans q.nx x.next,q.a2.hx x,q.a7.hx x,q.o1.hx x,q.o2.hx x,q.ne⟩
theorem RrU.push1 (b2:h.next ≤ c2) (b7:c2 < c7) (bB:c7 < nB) (q:RrU h g c2 c7 nB s fi w1 w2 F S) (x2:∀ h0,HX h0 g → h0.next ≤ nB → HX h0 g2) (k2:∀ c y,bl w1 ≠ some c → At g c y → At g2 c y) (bw:bl w' = some g.next) (O2:OwnL encF nB g2 w' 25 F') (n2:g.next ≤ g2.next) (p:Put g2 g' c7 (.cells [.string s,zi fi,w',w2] true true 46)):RrU h g' c2 c7 nB s fi w' w2 F' S:=by
 have l1:=fun z (hz:bl w1 = some z) => q.o1.lt hz
 have l2:=fun z (hz:bl w2 = some z) => q.o2.lt hz
 have no:∀ z,z < nB → bl w1 ≠ some z:=fun z hz e => by have:=l1 z e;omega
 refine ⟨p.hx _ (x2 _ q.x (by omega)) (by omega),by rw [p.next];have:=q.nx;omega,p.oth _ _ (by omega) (k2 _ _ (no _ (by omega)) q.a2),p.at_,O2.keep fun z y hz a => p.oth z y (by have:=(O2.lt hz).1;omega) a,q.o2.keep fun z y hz a => p.oth z y (by have:=(l2 z hz).1;omega) (k2 z y (fun e => q.ne z e hz) a),?_⟩
 intro z hz e
 have:z = g.next:=Option.some.inj (hz.symm.trans bw)
 have:=l2 z e
 omega
theorem RrU.push2 (b2:h.next ≤ c2) (b7:c2 < c7) (bB:c7 < nB) (q:RrU h g c2 c7 nB s fi w1 w2 F S) (x2:∀ h0,HX h0 g → h0.next ≤ nB → HX h0 g2) (k2:∀ c y,bl w2 ≠ some c → At g c y → At g2 c y) (bw:bl w' = some g.next) (O2:OwnL encS nB g2 w' 48 S') (n2:g.next ≤ g2.next) (p:Put g2 g' c7 (.cells [.string s,zi fi,w1,w'] true true 46)):RrU h g' c2 c7 nB s fi w1 w' F S':=by
 have l1:=fun z (hz:bl w1 = some z) => q.o1.lt hz
 have l2:=fun z (hz:bl w2 = some z) => q.o2.lt hz
 have no:∀ z,z < nB → bl w2 ≠ some z:=fun z hz e => by have:=l2 z e;omega
 refine ⟨p.hx _ (x2 _ q.x (by omega)) (by omega),by rw [p.next];have:=q.nx;omega,p.oth _ _ (by omega) (k2 _ _ (no _ (by omega)) q.a2),p.at_,q.o1.keep fun z y hz a => p.oth z y (by have:=(l1 z hz).1;omega) (k2 z y (fun e => q.ne z hz e) a),O2.keep fun z y hz a => p.oth z y (by have:=(O2.lt hz).1;omega) a,?_⟩
 intro z hz e
 have:z = g.next:=Option.some.inj (e.symm.trans bw)
 have:=l1 z hz
 omega
end
theorem pL_next {l:List Nat} {i:Nat}:pL l (i + 1) = pL l i ++ [numB ((l.drop (pA2 l + 4 * i)).take 4)]:=by
 unfold pL;rw [List.range_succ,List.map_append];rfl
theorem pS_next {l:List Nat} {i:Nat}:pS l (i + 1) = pS l i ++ [((numB ((l.drop (pA4 l + 4 * i)).take 2):Int),(numB ((l.drop (pA4 l + 4 * i + 2)).take 2):Int))]:=by
 unfold pS;rw [List.range_succ,List.map_append];rfl
theorem part_lt {l:List Nat} (hb:Byt l) (p k:Nat):numB ((l.drop p).take k) < 256 ^ k:=numB_lt' ((hb.drop _).take _) (by rw [List.length_take];exact Nat.min_le_left _ _)
end Go.Tidy
namespace Go.Tidy
open Go Go.Proofs Tab
variable {tp:TProg}
section
variable {h:TH} {l:List Nat} {v:Value} {es L:List Int}
set_option maxHeartbeats 8000000 in
set_option maxRecDepth 10000 in
theorem k1023 (H:Has tp) (X:HasX tp) (Y:HasY tp) (s:SlL encY 1 h v l) (F:Fits h v 5) (hby:Byt l) (hE:SErr (rdL l (cu0 l)) es) (hL:firstNZ es = 0 → Lev (rdL l (cu0 l)) L) (f:Free0 h.next h) :
    CallW Tryz.prog tp (.func (.func 72) #[] #[]) #[v] h fun w h' => HX h h' ∧ UnpA l es L h' w:=by
  refine CallW.fnL (H.fn 72 f1023 rfl rfl) ?_
  refine WL.sr <| WOL.al tp46 fun h1 N1 => WOL.as rfl <| WOL.nil <| keep [(0,_),(2,_)] ⟨rfl,rfl,trivial⟩ ?_
  have n1:=N1.next
  have A2:At h1 h.next (.cells [.string ⟨#[]⟩,zi 0,.slice none 0 0,.slice none 0 0] true true 46):=N1.at_
  -- the zero run,and an error
  have zero:∀ {g:TH} (X:HX h1 g) (e:Int),unE l es L = e → e ≠ 0 → ∀ a,Kn [(2,ptr h.next),(3,zi e)] a → ∀ g' (_:Put g g' h.next (.cells [.string ⟨#[]⟩,zi 0,.slice none 0 0,.slice none 0 0] true true 46)),Fin Tryz.prog f1023.results (fun w h' => HX h h' ∧ UnpA l es L h' w) .ret a g':=by
    intro g X e he hne a k g' P
    refine WL.endC1 rfl rfl (load_row tp46 P.at_ rfl (Nat.le_of_ble_eq_true rfl)) ⟨P.hx _ (N1.hx.trans X) (Nat.le_refl _),.inl ⟨by rw [he];exact hne,?_⟩⟩ a k
    rw [he]
    rfl
  have s1:=s.hx N1.hx
  refine WL.seq <| WL.sr <| WOL.mv rfl <| WOL.len rfl s1 u116 ?_
  refine WOL.bi (v:=.bool (decide ((l.length:Int) > 400000))) rfl rfl rfl ?_
  refine WOL.cl2 rfl rfl rfl ((k32 H (decide ((l.length:Int) > 400000)) 26 _).mono ?_)
  rintro w hh ⟨rfl,e⟩
  replace e:=e.symm
  subst e
  refine WOL.mv rfl <| WOL.len rfl s1 u116 ?_
  refine WOL.bi (v:=.bool (decide ((l.length:Int) < 4))) rfl rfl rfl ?_
  refine WOL.cl2 rfl rfl rfl ((k32 H (decide ((l.length:Int) < 4)) 28 _).mono ?_)
  rintro w hh ⟨rfl,e⟩
  replace e:=e.symm
  subst e
  refine WOL.bsl rfl u29 tp3 (by decide) (by decide) (by decide) (cs:=[_,_].map (.int .i64)) rfl fun h2 N2 => ?_
  refine WOL.cl1 rfl rfl ((k13 H (l:=[_,_]) N2.at_.get (by simp)).mono ?_)
  rintro w hh ⟨rfl,e⟩
  replace e:=e.symm
  subst e
  have X2:HX h1 h2:=N2.hx
  refine WOL.as rfl <| WOL.nil <| keep [(0,_),(2,_),(4,_)] ⟨rfl,rfl,rfl,trivial⟩ ?_
  refine WL.sr <| WOL.mv rfl <| WOL.bi rfl rfl nzero <| WOL.nil <| keep [(0,_),(2,_),(4,_),(26,_)] ⟨rfl,rfl,rfl,rfl,trivial⟩ ?_
  by_cases hbig:400000 < l.length
  · rw [show decide ((l.length:Int) > 400000) = true from decide_eq_true (by omega),show decide ((l.length:Int) < 4) = false from decide_eq_false (by omega)]
    refine WL.yes rfl <| WL.sr <| WOL.bd rfl bd46z <| WOL.mv rfl ?_
    refine WOL.sto rfl rfl tp46 (A2.hx X2) rfl rfl (Nat.le_of_ble_eq_true rfl) rfl (f.hx (N1.hx.trans X2)) (Nat.le_refl _) fun h3 P3 => WOL.as rfl <| WOL.nil ?_
    refine WL.ret (kto (fun a k => zero X2 26 ?_ (by decide) a k h3 P3) ⟨rfl,rfl,trivial⟩)
    unfold unE
    rw [show decide ((l.length:Int) > 400000) = true from decide_eq_true (by omega)]
    rfl
  have eu:unE l es L = cond (hdE l != 0) (hdE l) (upE l es L):=by
    unfold unE
    rw [show decide ((l.length:Int) > 400000) = false from decide_eq_false (by omega)]
    rfl
  rw [show decide ((l.length:Int) > 400000) = false from decide_eq_false (by omega)]
  by_cases h4:l.length < 4
  · rw [show decide ((l.length:Int) < 4) = true from decide_eq_true (by omega)]
    refine WL.yes rfl <| WL.sr <| WOL.bd rfl bd46z <| WOL.mv rfl ?_
    refine WOL.sto rfl rfl tp46 (A2.hx X2) rfl rfl (Nat.le_of_ble_eq_true rfl) rfl (f.hx (N1.hx.trans X2)) (Nat.le_refl _) fun h3 P3 => WOL.as rfl <| WOL.nil ?_
    refine WL.ret (kto (fun a k => zero X2 28 ?_ (by decide) a k h3 P3) ⟨rfl,rfl,trivial⟩)
    have:(cu0 l).2 = true:=cnx_bad (by omega) (Nat.zero_le _)
    have hh:hdE l = 28:=by unfold hdE;rw [this];rfl
    rw [eu,hh]
    rfl
  rw [show decide ((l.length:Int) < 4) = false from decide_eq_false (by omega)]
  refine WL.no rfl <| WL.skip ?_
  obtain ⟨b,o,cap,ev,st⟩:∃ b o cap,v = .slice (some ⟨b,o,none⟩) l.length cap ∧ Stm h b o cap l:=by
    have s':=s
    obtain ⟨bo,cap,e,q1,q2,q3⟩:=s'
    rcases q3 with ⟨_,q3⟩ | ⟨b,off,cc,fix,wr,el,rfl,_⟩
    · omega
    · subst e
      exact ⟨b,off,cap,rfl,(stm_of s F).2⟩
  subst ev
  have st2:=st.hx (N1.hx.trans X2)
  have cu4':=cu0_good (l:=l) (by omega)
  -- the heading
  have sh:=st2.part (p:=0) (k:=4) (c:=cap) (by omega) (by have:=st.cap;omega)
  have eh:(l.drop 0).take 4 = cbs l (0,false) 4:=(cbs_good (p:=0) (by omega)).symm
  rw [eh] at sh
  refine WL.seq <| WL.sr <| WOL.mv rfl <| WOL.sl2 rfl rfl (sl_to (k:=4) st2 (by omega)) <| WOL.str sh (.inr ⟨_,_,_,rfl⟩) rfl <| WOL.neS rfl rfl <| WOL.nil <| keep [(0,_),(2,_),(32,_)] ⟨rfl,rfl,rfl,trivial⟩ ?_
  have eh0:hdE l = cond (neS (strO (cbs l (0,false) 4)) runsB) 1 0:=by
    unfold hdE
    rw [cu4']
    cases neS (strO (cbs l (0,false) 4)) runsB <;> rfl
  show ∀ a,Kn [(0,_),(2,_),(32,.bool (neS (strO (cbs l (0,false) 4)) runsB))] a → _
  cases hr:neS (strO (cbs l (0,false) 4)) runsB with
  | true =>
    rw [hr] at eh0
    refine WL.yes rfl <| WL.sr <| WOL.bd rfl bd46z ?_
    refine WOL.sto rfl rfl tp46 (A2.hx X2) rfl rfl (Nat.le_of_ble_eq_true rfl) rfl (f.hx (N1.hx.trans X2)) (Nat.le_refl _) fun h3 P3 => WOL.as rfl <| WOL.nil ?_
    refine WL.ret (kto (fun a k => zero X2 1 ?_ (by decide) a k h3 P3) ⟨rfl,rfl,trivial⟩)
    rw [eu,eh0]
    rfl
  | false =>
    rw [hr] at eh0
    have eu2:unE l es L = upE l es L:=by
      rw [eu,eh0]
      rfl
    refine WL.no rfl <| WL.skip ?_
    refine WL.sr <| WOL.as rfl <| WOL.nil <| keep [(0,_),(2,_),(5,_)] ⟨rfl,rfl,rfl,trivial⟩ ?_
    refine WL.seq <| WL.sr <| WOL.mv rfl <| WOL.len rfl (s.hx (N1.hx.trans X2)) u116 <| WOL.mv rfl ?_
    refine WOL.bi (v:=.bool (decide ((l.length:Int) < 5))) rfl rfl rfl <| WOL.nil <| keep [(0,_),(2,_),(5,_),(37,_)] ⟨rfl,rfl,rfl,rfl,trivial⟩ ?_
    by_cases h5:l.length < 5
    · rw [show decide ((l.length:Int) < 5) = true from decide_eq_true (by omega)]
      refine WL.yes rfl <| WL.sr <| WOL.bd rfl bd46z ?_
      refine WOL.sto rfl rfl tp46 (A2.hx X2) rfl rfl (Nat.le_of_ble_eq_true rfl) rfl (f.hx (N1.hx.trans X2)) (Nat.le_refl _) fun h3 P3 => WOL.as rfl <| WOL.nil ?_
      exact WL.ret (kto (fun a k => zero X2 28 (eu2.trans (up_torn es L (torn1 (by omega) h5))) (by decide) a k h3 P3) ⟨rfl,rfl,trivial⟩)
    rw [show decide ((l.length:Int) < 5) = false from decide_eq_false (by omega)]
    refine WL.no rfl <| WL.skip ?_
    -- the name's length
    obtain ⟨p4,ip4,lp4⟩:=elemY (s.hx (N1.hx.trans X2)) (j:=4) (by omega)
    have hB:pB l < 256:=hby.at 4
    refine WL.sr <| WOL.mv rfl <| WOL.mv rfl <| WOL.ix rfl rfl ip4 <| WOL.ld rfl lp4 <| WOL.convU u5 u3 rfl (by show (0:Int) ≤ (pB l:Nat);omega) (by show ((pB l:Nat):Int) ≤ 255;omega) ?_
    refine WOL.addN (m:=5) (k:=pB l) rfl rfl (by omega) <| WOL.as rfl <| WOL.nil ?_
    show ∀ a,Kn _ a → _
    refine keep [(0,_),(2,_),(5,_),(6,_)] ⟨rfl,rfl,rfl,rfl,trivial⟩ ?_
    have hA:pA1 l = 5 + pB l:=rfl
    refine WL.seq <| WL.sr <| WOL.mv rfl <| WOL.len rfl (s.hx (N1.hx.trans X2)) u116 <| WOL.mv rfl <| WOL.addN (m:=5 + pB l) (k:=6) rfl rfl (by omega) ?_
    refine WOL.bi (v:=.bool (decide ((l.length:Int) < ((5 + pB l + 6:Nat):Int)))) rfl rfl rfl <| WOL.nil <| keep [(0,_),(2,_),(5,_),(6,_),(49,_)] ⟨rfl,rfl,rfl,rfl,rfl,trivial⟩ ?_
    by_cases h6:l.length < pA1 l + 6
    · rw [show decide ((l.length:Int) < ((5 + pB l + 6:Nat):Int)) = true from decide_eq_true (by omega)]
      refine WL.yes rfl <| WL.sr <| WOL.bd rfl bd46z ?_
      refine WOL.sto rfl rfl tp46 (A2.hx X2) rfl rfl (Nat.le_of_ble_eq_true rfl) rfl (f.hx (N1.hx.trans X2)) (Nat.le_refl _) fun h3 P3 => WOL.as rfl <| WOL.nil ?_
      exact WL.ret (kto (fun a k => zero X2 28 (eu2.trans (up_torn es L (torn2 (by omega) h6))) (by decide) a k h3 P3) ⟨rfl,rfl,trivial⟩)
    rw [show decide ((l.length:Int) < ((5 + pB l + 6:Nat):Int)) = false from decide_eq_false (by omega)]
    refine WL.no rfl <| WL.skip ?_
    -- the name and the first place
    have sN:=st2.part (p:=5) (k:=pB l) (c:=cap - 5) (by omega) (by have:=st.cap;omega)
    refine WL.sr <| WOL.mv rfl <| WOL.mv rfl <| WOL.mv rfl <| WOL.sl rfl rfl rfl (sl_at (lo:=5) (k:=pB l) st2 (by omega)) <| WOL.str sN (.inr ⟨_,_,_,rfl⟩) rfl ?_
    refine WOL.mv rfl <| WOL.mv rfl <| WOL.mv rfl <| WOL.addN (m:=5 + pB l) (k:=4) rfl rfl (by omega) ?_
    refine WOL.sl rfl rfl rfl (sl_at (lo:=5 + pB l) (k:=4) st2 (by omega)) <| WOL.al tp46 fun h3 N3 => ?_
    have n2:=X2.next
    have n3:=N3.next
    have X3:=X2.trans N3.hx
    have st3:=st.hx (N1.hx.trans X3)
    have sf:=st3.part (p:=5 + pB l) (k:=4) (c:=cap - (5 + pB l)) (by omega) (by have:=st.cap;omega)
    refine WOL.lk1 rfl rfl fun M => ((k1031 H (sf.relock M) ((hby.drop _).take _) (by rw [List.length_take];omega)).mono ?_)
    rintro w hh ⟨rfl,rfl⟩
    rw [TH.relock]
    refine WOL.bd rfl bd46p ?_
    refine WOL.sto (vs:=[.string (pN l),zi (pF l:Nat),.slice none 0 0,.slice none 0 0]) rfl rfl tp46 N3.at_ rfl rfl (Nat.le_of_ble_eq_true rfl) rfl (f.hx (N1.hx.trans X3)) (by omega) fun h4' P4 => WOL.nil <| keep [(0,_),(2,_),(6,_),(7,_)] ⟨rfl,rfl,rfl,rfl,trivial⟩ ?_
    have n4:=P4.next
    have X4:HX h1 h4':=P4.hx _ X3 (by omega)
    have q4:RrU h h4' h.next h2.next h3.next (pN l) (pF l:Nat) (.slice none 0 0) (.slice none 0 0) [] [] :=
      ⟨N1.hx.trans X4,by omega,A2.hx X4,P4.at_,OwnL.nil,OwnL.nil,fun x e => by cases e⟩
    have c1:h.next ≤ h.next:=Nat.le_refl _
    have c2:h.next < h2.next:=by omega
    have c3:h2.next < h3.next:=by omega
    have fr:∀ {g:TH},HX h g → Free0 h.next g:=fun x => f.hx x
    have fB:∀ {g:TH},HX h g → Free0 h3.next g:=fun x => (f.hx x).up (by omega)
    -- the number of samples
    have st4:=st.hx (N1.hx.trans X4)
    have sm:=st4.part (p:=pA1 l + 4) (k:=2) (c:=cap - (pA1 l + 4)) (by omega) (by have:=st.cap;omega)
    refine WL.sr <| WOL.mv rfl <| WOL.mv rfl <| WOL.addN (m:=pA1 l) (k:=4) rfl rfl (by omega) <| WOL.mv rfl <| WOL.addN (m:=pA1 l) (k:=6) rfl rfl (by omega) ?_
    refine WOL.sl rfl rfl rfl (sl_at (lo:=pA1 l + 4) (k:=2) st4 (by omega)) ?_
    refine WOL.cl1 rfl rfl ((k1031 H sm ((hby.drop _).take _) (by rw [List.length_take];omega)).mono ?_)
    rintro w hh ⟨rfl,e⟩
    replace e:=e.symm
    subst e
    refine WOL.as rfl <| WOL.nil <| keep [(0,_),(2,_),(6,_),(7,_),(8,_)] ⟨rfl,rfl,rfl,rfl,rfl,trivial⟩ ?_
    have hM:pM l < 65536:=part_lt hby _ 2
    refine WL.sr <| WOL.mv rfl <| WOL.addN (m:=pA1 l) (k:=6) rfl rfl (by omega) <| WOL.as rfl <| WOL.nil <| keep [(0,_),(2,_),(5,_),(7,_),(8,_)] ⟨rfl,rfl,rfl,rfl,rfl,trivial⟩ ?_
    have hA2:pA2 l = pA1 l + 6:=rfl
    have hA3:pA3 l = pA2 l + 4 * pM l:=rfl
    refine WL.seq <| WL.sr <| WOL.mv rfl <| WOL.len rfl (s.hx (N1.hx.trans X4)) u116 <| WOL.mv rfl <| WOL.mv rfl <| WOL.mulN (m:=4) (k:=pM l) rfl rfl (by omega) <| WOL.addN (m:=pA2 l) (k:=4 * pM l) rfl rfl (by omega) <| WOL.addN (m:=pA2 l + 4 * pM l) (k:=2) rfl rfl (by omega) ?_
    refine WOL.bi (v:=.bool (decide ((l.length:Int) < ((pA2 l + 4 * pM l + 2:Nat):Int)))) rfl rfl rfl <| WOL.nil <| keep [(0,_),(2,_),(5,_),(7,_),(8,_),(79,_)] ⟨rfl,rfl,rfl,rfl,rfl,rfl,trivial⟩ ?_
    by_cases h7:l.length < pA3 l + 2
    · rw [show decide ((l.length:Int) < ((pA2 l + 4 * pM l + 2:Nat):Int)) = true from decide_eq_true (by omega)]
      refine WL.yes rfl <| WL.sr <| WOL.bd rfl bd46z ?_
      refine WOL.sto rfl rfl tp46 q4.a2 rfl rfl (Nat.le_of_ble_eq_true rfl) rfl (fr q4.x) (Nat.le_refl _) fun h5 P5 => WOL.as rfl <| WOL.nil ?_
      exact WL.ret (kto (fun a k => zero X4 28 (eu2.trans (up_torn es L (torn3 (by omega) h7))) (by decide) a k h5 P5) ⟨rfl,rfl,trivial⟩)
    rw [show decide ((l.length:Int) < ((pA2 l + 4 * pM l + 2:Nat):Int)) = false from decide_eq_false (by omega)]
    refine WL.no rfl <| WL.skip ?_
    refine WL.sr <| WOL.as rfl <| WOL.nil <| keep [(0,_),(2,_),(5,_),(7,_),(8,_),(9,_)] ⟨rfl,rfl,rfl,rfl,rfl,rfl,trivial⟩ ?_
    refine WL.seq <| WL.sr <| WOL.as rfl <| WOL.nil <| keep [(0,_),(2,_),(5,_),(7,_),(8,_),(9,_),(10,_)] ⟨rfl,rfl,rfl,rfl,rfl,rfl,rfl,trivial⟩ ?_
    refine WL.block ?_
    refine WL.loop (fun k a g => ∃ (j:Nat) (w1:Value),j ≤ pM l ∧ k = pM l - j ∧ RrU h g h.next h2.next h3.next (pN l) (pF l:Nat) w1 (.slice none 0 0) (pL l j) [] ∧ HX h1 g ∧ Kn [(0,.slice (some ⟨b,o,none⟩) l.length cap),(2,ptr h.next),(5,zi (pA2 l:Nat)),(7,ptr h2.next),(8,zi (pM l:Nat)),(9,.bool ((pL l j).any isMz)),(10,zi (j:Nat))] a) (pM l) (fun a k => ⟨0,_,by omega,by omega,q4,X4,k.sub ⟨rfl,rfl,rfl,rfl,rfl,rfl,rfl,trivial⟩⟩) ?_
    rintro k a g ⟨j,w1,hj,rfl,q,Xg,kn⟩
    refine kn.go ?_
    refine WL.seq <| WL.sr <| WOL.mv rfl <| WOL.mv rfl ?_
    refine WOL.bi (v:=.bool (decide ((j:Int) < (pM l:Int)))) rfl rfl rfl <| WOL.nil <| keep [(0,_),(2,_),(5,_),(7,_),(8,_),(9,_),(10,_),(83,_)] ⟨rfl,rfl,rfl,rfl,rfl,rfl,rfl,rfl,trivial⟩ ?_
    by_cases hlt:j < pM l
    · rw [show decide ((j:Int) < (pM l:Int)) = true from decide_eq_true (by omega)]
      refine WL.yes rfl <| WL.skip ?_
      have stg:=st.hx q.x
      have sj:=stg.part (p:=pA2 l + 4 * j) (k:=4) (c:=cap - (pA2 l + 4 * j)) (by omega) (by have:=st.cap;omega)
      refine WL.seq <| WL.block <| WL.sr ?_
      refine WOL.mv rfl <| WOL.mv rfl <| WOL.mv rfl <| WOL.mulN (m:=4) (k:=j) rfl rfl (by omega) <| WOL.addN (m:=pA2 l) (k:=4 * j) rfl rfl (by omega) ?_
      refine WOL.mv rfl <| WOL.mv rfl <| WOL.mulN (m:=4) (k:=j) rfl rfl (by omega) <| WOL.addN (m:=pA2 l) (k:=4 * j) rfl rfl (by omega) <| WOL.addN (m:=pA2 l + 4 * j) (k:=4) rfl rfl (by omega) ?_
      refine WOL.sl rfl rfl rfl (sl_at (lo:=pA2 l + 4 * j) (k:=4) stg (by omega)) ?_
      refine WOL.cl1 rfl rfl ((k1031 H sj ((hby.drop _).take _) (by rw [List.length_take];omega)).mono ?_)
      rintro w hh ⟨rfl,e⟩
      replace e:=e.symm
      subst e
      obtain ⟨x,hx⟩:∃ x,numB ((l.drop (pA2 l + 4 * j)).take 4) = x:=⟨_,rfl⟩
      have hxl:x < 4294967296:=by rw [← hx];exact part_lt hby _ 4
      rw [hx]
      refine WOL.as rfl <| WOL.nil <| keep [(0,_),(2,_),(5,_),(7,_),(8,_),(9,_),(10,_),(11,_)] ⟨rfl,rfl,rfl,rfl,rfl,rfl,rfl,rfl,trivial⟩ ?_
      have enx:pL l (j + 1) = pL l j ++ [x]:=by rw [pL_next,hx]
      have eany:(pL l (j + 1)).any isMz = ((pL l j).any isMz || isMz x):=by rw [enx,List.any_append];simp
      refine WL.seq <| WL.mono (Q':=fun y a g' => y = .normal ∧ g' = g ∧ Kn [(0,.slice (some ⟨b,o,none⟩) l.length cap),(2,ptr h.next),(5,zi (pA2 l:Nat)),(7,ptr h2.next),(8,zi (pM l:Nat)),(9,.bool ((pL l (j + 1)).any isMz)),(10,zi (j:Nat)),(11,zi (x:Nat))] a) ?_ ?_
      · refine WL.reg <| WOL.mv rfl <| WOL.mv rfl ?_
        rw [eany]
        cases (pL l j).any isMz with
        | true =>
          refine WOL.skp (b:=true) rfl rfl <| WOL.skp (b:=true) rfl rfl <| WOL.pkt rfl rfl <| WOL.as rfl <| WOL.nil ?_
          exact fun a k => ⟨rfl,rfl,k.sub ⟨rfl,rfl,rfl,rfl,rfl,rfl,rfl,rfl,trivial⟩⟩
        | false =>
          refine WOL.now (b:=false) rfl rfl <| WOL.mv rfl <| WOL.now (b:=false) rfl rfl ?_
          refine WOL.bi (v:=.bool (isMz x)) rfl rfl (by
            show some (Value.bool ((x:Int) == 2147483648)) = some (Value.bool (x == 2147483648))
            congr 2
            by_cases e:x = 2147483648
            · subst e;rfl
            · rw [beq_eq_false_iff_ne.2 e];exact beq_eq_false_iff_ne.2 (by omega)) <| WOL.pkf rfl rfl <| WOL.as rfl <| WOL.nil ?_
          exact fun a k => ⟨rfl,rfl,k.sub ⟨rfl,rfl,rfl,rfl,rfl,rfl,rfl,rfl,trivial⟩⟩
      · rintro y a g' ⟨rfl,rfl,kn⟩
        refine kn.go ?_
        refine WL.reg <| WOL.fa rfl (fa_of fo46_2) <| WOL.ld rfl (load_one tp43 q.a7 rfl) <| WOL.mv rfl <| WOL.cvw u3 u216 rfl ?_
        rw [u32_wrap,Int.emod_eq_of_lt (by omega) (by omega)]
        refine WOL.lk1 rfl rfl fun M => CallW.extX (v:=.float .f32 x) Y.no2 Y.back rfl rfl (word_exact hxl) ?_
        rw [TH.relock]
        refine WOL.bs1 rfl u43 tp25 rfl fun gc Nc => ?_
        have qc:=q.hx Nc.hx
        have nc:=qc.nx
        have sl:(pL l j).length = j:=by unfold pL;rw [List.length_map,List.length_range]
        obtain ⟨w1',gd,ap,Od,xd,kd,bd,nd⟩:=own_push (sT:=43) (x:=x) eF u43 tp25 qc.o1 (SlC.own (sz:=1) (m:=1) rfl Nc.at_) (fB qc.x) (by omega) nc
        obtain ⟨zz,ez⟩:=OwnF.form (Or.inl Od)
        refine WOL.ap rfl rfl ap <| WOL.fa rfl (fa_of fo46_2) ?_
        have ad:=kd _ _ (fun e => by have:=(qc.o1.lt e).1;omega) qc.a7
        refine WOL.sto (vs:=[w1']) rfl rfl tp43 ad (by rw [ez];rfl) rfl (Nat.le_of_ble_eq_true rfl) (by rw [ez];rfl) (fr (xd _ qc.x (by omega))) (by omega) fun ge Pe => ?_
        have qe:=qc.push1 (s:=pN l) c1 c2 c3 xd kd bd Od nd Pe
        rw [← enx] at qe
        refine WOL.nil <| keep [(0,_),(2,_),(5,_),(7,_),(8,_),(9,_),(10,_)] ⟨rfl,rfl,rfl,rfl,rfl,rfl,rfl,trivial⟩ ?_
        refine WL.reg <| WOL.mv rfl <| WOL.addN (m:=j) (k:=1) rfl rfl (by omega) <| WOL.as rfl <| WOL.nil ?_
        exact fun a kn => ⟨pM l - (j + 1),by omega,j + 1,w1',by omega,rfl,qe,Pe.hx _ (xd _ (Xg.trans Nc.hx) (by omega)) (by omega),kn.sub ⟨rfl,rfl,rfl,rfl,rfl,rfl,rfl,trivial⟩⟩
    rw [show decide ((j:Int) < (pM l:Int)) = false from decide_eq_false (by omega)]
    obtain rfl:j = pM l:=by omega
    refine WL.no rfl <| WL.exit ?_
    -- the number of holes
    refine WL.sr <| WOL.mv rfl <| WOL.mv rfl <| WOL.mulN (m:=4) (k:=pM l) rfl rfl (by omega) <| WOL.addN (m:=pA2 l) (k:=4 * pM l) rfl rfl (by omega) <| WOL.as rfl <| WOL.nil <| keep [(0,_),(2,_),(5,_),(7,_),(9,_)] ⟨rfl,rfl,rfl,rfl,rfl,trivial⟩ ?_
    have stg:=st.hx q.x
    have sk:=stg.part (p:=pA3 l) (k:=2) (c:=cap - pA3 l) (by omega) (by have:=st.cap;omega)
    refine WL.sr <| WOL.mv rfl <| WOL.mv rfl <| WOL.mv rfl <| WOL.addN (m:=pA3 l) (k:=2) rfl rfl (by omega) ?_
    refine WOL.sl rfl rfl rfl (sl_at (lo:=pA3 l) (k:=2) stg (by omega)) ?_
    refine WOL.cl1 rfl rfl ((k1031 H sk ((hby.drop _).take _) (by rw [List.length_take];omega)).mono ?_)
    rintro w hh ⟨rfl,e⟩
    replace e:=e.symm
    subst e
    refine WOL.as rfl <| WOL.nil <| keep [(0,_),(2,_),(5,_),(7,_),(9,_),(12,_)] ⟨rfl,rfl,rfl,rfl,rfl,rfl,trivial⟩ ?_
    have hK:pK l < 65536:=part_lt hby _ 2
    have hA4:pA4 l = pA3 l + 2:=rfl
    have hA5:pA5 l = pA4 l + 4 * pK l:=rfl
    refine WL.sr <| WOL.mv rfl <| WOL.addN (m:=pA3 l) (k:=2) rfl rfl (by omega) <| WOL.as rfl <| WOL.nil <| keep [(0,_),(2,_),(5,_),(7,_),(9,_),(12,_)] ⟨rfl,rfl,rfl,rfl,rfl,rfl,trivial⟩ ?_
    refine WL.seq <| WL.sr <| WOL.mv rfl <| WOL.len rfl (s.hx q.x) u116 <| WOL.mv rfl <| WOL.mv rfl <| WOL.mulN (m:=4) (k:=pK l) rfl rfl (by omega) <| WOL.addN (m:=pA4 l) (k:=4 * pK l) rfl rfl (by omega) <| WOL.addN (m:=pA4 l + 4 * pK l) (k:=4) rfl rfl (by omega) ?_
    refine WOL.bi (v:=.bool (decide ((l.length:Int) < ((pA4 l + 4 * pK l + 4:Nat):Int)))) rfl rfl rfl <| WOL.nil <| keep [(0,_),(2,_),(5,_),(7,_),(9,_),(12,_),(130,_)] ⟨rfl,rfl,rfl,rfl,rfl,rfl,rfl,trivial⟩ ?_
    by_cases h8:l.length < pA5 l + 4
    · rw [show decide ((l.length:Int) < ((pA4 l + 4 * pK l + 4:Nat):Int)) = true from decide_eq_true (by omega)]
      refine WL.yes rfl <| WL.sr <| WOL.bd rfl bd46z ?_
      refine WOL.sto rfl rfl tp46 q.a2 rfl rfl (Nat.le_of_ble_eq_true rfl) rfl (fr q.x) (Nat.le_refl _) fun h5 P5 => WOL.as rfl <| WOL.nil ?_
      exact WL.ret (kto (fun a k => zero Xg 28 (eu2.trans (up_torn es L (torn4 (by omega) h8))) (by decide) a k h5 P5) ⟨rfl,rfl,trivial⟩)
    rw [show decide ((l.length:Int) < ((pA4 l + 4 * pK l + 4:Nat):Int)) = false from decide_eq_false (by omega)]
    refine WL.no rfl <| WL.skip ?_
    refine WL.seq <| WL.sr <| WOL.as rfl <| WOL.nil <| keep [(0,_),(2,_),(5,_),(7,_),(9,_),(12,_),(13,_)] ⟨rfl,rfl,rfl,rfl,rfl,rfl,rfl,trivial⟩ ?_
    refine WL.block ?_
    refine WL.loop (fun k a g => ∃ (j:Nat) (w2:Value),j ≤ pK l ∧ k = pK l - j ∧ RrU h g h.next h2.next h3.next (pN l) (pF l:Nat) w1 w2 (pL l (pM l)) (pS l j) ∧ HX h1 g ∧ Kn [(0,.slice (some ⟨b,o,none⟩) l.length cap),(2,ptr h.next),(5,zi (pA4 l:Nat)),(7,ptr h2.next),(9,.bool ((pL l (pM l)).any isMz)),(12,zi (pK l:Nat)),(13,zi (j:Nat))] a) (pK l) (fun a k => ⟨0,_,by omega,by omega,q,Xg,k.sub ⟨rfl,rfl,rfl,rfl,rfl,rfl,rfl,trivial⟩⟩) ?_
    rintro k a g2 ⟨j,w2,hj,rfl,q2,Xg2,kn⟩
    refine kn.go ?_
    refine WL.seq <| WL.sr <| WOL.mv rfl <| WOL.mv rfl ?_
    refine WOL.bi (v:=.bool (decide ((j:Int) < (pK l:Int)))) rfl rfl rfl <| WOL.nil <| keep [(0,_),(2,_),(5,_),(7,_),(9,_),(12,_),(13,_),(134,_)] ⟨rfl,rfl,rfl,rfl,rfl,rfl,rfl,rfl,trivial⟩ ?_
    have stg2:=st.hx q2.x
    by_cases hlt:j < pK l
    · rw [show decide ((j:Int) < (pK l:Int)) = true from decide_eq_true (by omega)]
      refine WL.yes rfl <| WL.skip ?_
      have sj1:=stg2.part (p:=pA4 l + 4 * j) (k:=2) (c:=cap - (pA4 l + 4 * j)) (by omega) (by have:=st.cap;omega)
      have sj2:=stg2.part (p:=pA4 l + 4 * j + 2) (k:=2) (c:=cap - (pA4 l + 4 * j + 2)) (by omega) (by have:=st.cap;omega)
      refine WL.seq <| WL.block <| WL.reg ?_
      refine WOL.fa rfl (fa_of fo46_3) <| WOL.ld rfl (load_one tp44 q2.a7 rfl) <| WOL.mv rfl <| WOL.mv rfl <| WOL.mv rfl <| WOL.mulN (m:=4) (k:=j) rfl rfl (by omega) <| WOL.addN (m:=pA4 l) (k:=4 * j) rfl rfl (by omega) ?_
      refine WOL.mv rfl <| WOL.mv rfl <| WOL.mulN (m:=4) (k:=j) rfl rfl (by omega) <| WOL.addN (m:=pA4 l) (k:=4 * j) rfl rfl (by omega) <| WOL.addN (m:=pA4 l + 4 * j) (k:=2) rfl rfl (by omega) ?_
      refine WOL.sl rfl rfl rfl (sl_at (lo:=pA4 l + 4 * j) (k:=2) stg2 (by omega)) ?_
      refine WOL.mv rfl <| WOL.mv rfl <| WOL.mv rfl <| WOL.mulN (m:=4) (k:=j) rfl rfl (by omega) <| WOL.addN (m:=pA4 l) (k:=4 * j) rfl rfl (by omega) <| WOL.addN (m:=pA4 l + 4 * j) (k:=2) rfl rfl (by omega) ?_
      refine WOL.mv rfl <| WOL.mv rfl <| WOL.mulN (m:=4) (k:=j) rfl rfl (by omega) <| WOL.addN (m:=pA4 l) (k:=4 * j) rfl rfl (by omega) <| WOL.addN (m:=pA4 l + 4 * j) (k:=4) rfl rfl (by omega) ?_
      refine WOL.sl rfl rfl rfl (sl_at (lo:=pA4 l + 4 * j + 2) (k:=2) stg2 (by omega)) ?_
      refine WOL.lk1 rfl rfl fun M => ((k1031 H (sj1.relock M) ((hby.drop _).take _) (by rw [List.length_take];omega)).mono ?_)
      rintro w hh ⟨rfl,rfl⟩
      rw [TH.relock]
      refine WOL.lk1 rfl rfl fun M => ((k1031 H (sj2.relock M) ((hby.drop _).take _) (by rw [List.length_take];omega)).mono ?_)
      rintro w hh ⟨rfl,rfl⟩
      rw [TH.relock]
      refine WOL.bd rfl bd48 <| WOL.bs2 rfl u44 tp48 fun gc Nc => ?_
      have qc:=q2.hx Nc.hx
      have nc:=qc.nx
      have sl:(pS l j).length = j:=by unfold pS;rw [List.length_map,List.length_range]
      obtain ⟨w2',gd,ap,Od,xd,kd,bd,nd⟩:=own_push (sT:=44) (x:=((numB ((l.drop (pA4 l + 4 * j)).take 2):Int),(numB ((l.drop (pA4 l + 4 * j + 2)).take 2):Int))) eS u44 tp48 qc.o2 (SlC.own (sz:=2) (m:=1) rfl Nc.at_) (fB qc.x) (by omega) nc
      obtain ⟨zz,ez⟩:=OwnF.form (Or.inl Od)
      refine WOL.ap rfl rfl ap <| WOL.fa rfl (fa_of fo46_3) ?_
      have ad:=kd _ _ (fun e => by have:=(qc.o2.lt e).1;omega) qc.a7
      refine WOL.sto (vs:=[w2']) rfl rfl tp44 ad (by rw [ez];rfl) rfl (Nat.le_of_ble_eq_true rfl) (by rw [ez];rfl) (fr (xd _ qc.x (by omega))) (by omega) fun ge Pe => ?_
      have qe:=qc.push2 (s:=pN l) c1 c2 c3 xd kd bd Od nd Pe
      rw [← pS_next] at qe
      refine WOL.nil <| keep [(0,_),(2,_),(5,_),(7,_),(9,_),(12,_),(13,_)] ⟨rfl,rfl,rfl,rfl,rfl,rfl,rfl,trivial⟩ ?_
      refine WL.reg <| WOL.mv rfl <| WOL.addN (m:=j) (k:=1) rfl rfl (by omega) <| WOL.as rfl <| WOL.nil ?_
      exact fun a kn => ⟨pK l - (j + 1),by omega,j + 1,w2',by omega,rfl,qe,Pe.hx _ (xd _ (Xg2.trans Nc.hx) (by omega)) (by omega),kn.sub ⟨rfl,rfl,rfl,rfl,rfl,rfl,rfl,trivial⟩⟩
    rw [show decide ((j:Int) < (pK l:Int)) = false from decide_eq_false (by omega)]
    obtain rfl:j = pK l:=by omega
    refine WL.no rfl <| WL.exit ?_
    have hw:pA5 l + 4 ≤ l.length:=by omega
    have h9:pA3 l + 2 ≤ l.length:=by omega
    obtain ⟨_,_,e3⟩:=cu7_good hw
    obtain ⟨_,e4,_⟩:=cu6_good h9
    obtain ⟨_,e5,e6,_⟩:=cu4_good (l:=l) (by omega)
    have eu3:unE l es L = rfE l es L:=eu2.trans (up_whole es L hw)
    have hE':SErr (pL l (pM l)) es:=by rw [← e4];exact hE
    have hL':firstNZ es = 0 → Lev (pL l (pM l)) L:=by rw [← e4];exact hL
    have lF:(pL l (pM l)).length = pM l:=by unfold pL;rw [List.length_map,List.length_range]
    have lS:(pS l (pK l)).length = pK l:=by unfold pS;rw [List.length_map,List.length_range]
    refine WL.sr <| WOL.mv rfl <| WOL.mv rfl <| WOL.mulN (m:=4) (k:=pK l) rfl rfl (by omega) <| WOL.addN (m:=pA4 l) (k:=4 * pK l) rfl rfl (by omega) <| WOL.as rfl <| WOL.nil <| keep [(0,_),(2,_),(5,_),(7,_),(9,_)] ⟨rfl,rfl,rfl,rfl,rfl,trivial⟩ ?_
    have ss:=stg2.part (p:=pA5 l) (k:=4) (c:=cap - pA5 l) (by omega) (by have:=st.cap;omega)
    have sb:=stg2.part (p:=0) (k:=pA5 l) (c:=cap) (by omega) (by have:=st.cap;omega)
    rw [List.drop_zero] at sb
    have r2:RunH g2 w1 w2 (pL l (pM l)) (pS l (pK l)):=⟨q2.o1.sl eF,q2.o2.sl eS,own_fits q2.o1⟩
    refine WL.seq <| WL.sr <| WOL.mv rfl <| WOL.len rfl (s.hx q2.x) u116 <| WOL.mv rfl <| WOL.addN (m:=pA5 l) (k:=4) rfl rfl (by omega) ?_
    refine WOL.bi (v:=.bool (decide ((l.length:Int) > (pA5 l:Int) + 4))) rfl rfl rfl <| WOL.mv rfl <| WOL.mv rfl <| WOL.mv rfl <| WOL.addN (m:=pA5 l) (k:=4) rfl rfl (by omega) ?_
    refine WOL.sl rfl rfl rfl (sl_at (lo:=pA5 l) (k:=4) stg2 (by omega)) <| WOL.mv rfl <| WOL.mv rfl ?_
    refine WOL.sl2 rfl rfl (sl_to (k:=pA5 l) stg2 (by omega)) <| WOL.ld rfl (load_row tp46 q2.a7 rfl (Nat.le_of_ble_eq_true rfl)) <| WOL.mv rfl ?_
    refine WOL.lk2 rfl rfl rfl fun M => ((k32 H (decide ((l.length:Int) > (pA5 l:Int) + 4)) 2 _).mono ?_)
    rintro w hh ⟨rfl,rfl⟩
    rw [TH.relock]
    refine WOL.lk1 rfl rfl fun M => ((k1031 H (ss.relock M) ((hby.drop _).take _) (by rw [List.length_take];omega)).mono ?_)
    rintro w hh ⟨rfl,rfl⟩
    rw [TH.relock]
    refine WOL.lk1 rfl rfl fun M => ((k70 H (sb.relock M) (hby.take _) (by rw [List.length_take];omega)).mono ?_)
    rintro w hh ⟨rfl,rfl⟩
    rw [TH.relock]
    refine WOL.bi (v:=.bool (((numB ((l.drop (pA5 l)).take 4):Nat):Int) != tot (l.take (pA5 l)))) rfl rfl rfl ?_
    refine WOL.lk2 rfl rfl rfl fun M => ((k32 H (((numB ((l.drop (pA5 l)).take 4):Nat):Int) != tot (l.take (pA5 l))) 27 _).mono ?_)
    rintro w hh ⟨rfl,rfl⟩
    rw [TH.relock]
    refine WOL.cl1 rfl rfl ((k31 H (s:=pN l) (n:=(pF l:Nat)) r2 hE' hL' (by omega) (by omega)).mono ?_)
    rintro w g3 ⟨rfl,X3'⟩
    refine WOL.cl2 rfl rfl rfl ((k32 H ((pL l (pM l)).any isMz) 1 _).mono ?_)
    rintro w hh ⟨rfl,e⟩
    replace e:=e.symm
    subst e
    refine WOL.bsl rfl u29 tp3 (by decide) (by decide) (by decide) (cs:=[_,_,_,_].map (.int .i64)) rfl fun g4 N4 => ?_
    refine WOL.cl1 rfl rfl ((k13 H (l:=[_,_,_,_]) N4.at_.get (by simp)).mono ?_)
    rintro w hh ⟨rfl,e⟩
    replace e:=e.symm
    subst e
    have Y4:=X3'.trans N4.hx
    have q5:=q2.hx Y4
    refine WOL.as rfl <| WOL.nil <| keep [(2,_),(7,_),(14,_)] ⟨rfl,rfl,rfl,trivial⟩ ?_
    show ∀ a,Kn [(2,_),(7,_),(14,zi (rfE l es L))] a → _
    refine WL.sr <| WOL.mv rfl <| WOL.bi rfl rfl nzero <| WOL.nil <| keep [(2,_),(7,_),(14,_),(197,_)] ⟨rfl,rfl,rfl,rfl,trivial⟩ ?_
    rcases nz_cases (rfE l es L) with h1' | h1'
    · rw [h1']
      refine WL.no rfl <| WL.skip ?_
      obtain ⟨z1,ez1⟩:=OwnF.form (Or.inl q5.o1)
      obtain ⟨z2,ez2⟩:=OwnF.form (Or.inl q5.o2)
      refine WL.sr <| WOL.ld rfl (load_row tp46 q5.a7 rfl (Nat.le_of_ble_eq_true rfl)) ?_
      refine WOL.sto (vs:=[.string (pN l),zi (pF l:Nat),w1,w2]) rfl rfl tp46 q5.a2 rfl rfl (Nat.le_of_ble_eq_true rfl) (by rw [ez1,ez2];rfl) (fr q5.x) (Nat.le_refl _) fun g6 P6 => WOL.as rfl <| WOL.nil ?_
      have A6:At g6 h.next (.cells [.string (pN l),zi (pF l:Nat),w1,w2] true true 46):=P6.at_
      refine WL.ret (WL.endC1 rfl rfl (load_row tp46 A6 rfl (Nat.le_of_ble_eq_true rfl)) ⟨P6.hx _ q5.x (Nat.le_refl _),.inr ⟨by rw [eu3];exact h1',w1,w2,?_,?_,?_⟩⟩)
      · rw [e5,e6];rfl
      · rw [e4];exact (q5.o1.keep fun z y hz a => P6.oth z y (by have:=(q5.o1.lt hz).1;omega) a).sl eF
      · rw [e3];exact (q5.o2.keep fun z y hz a => P6.oth z y (by have:=(q5.o2.lt hz).1;omega) a).sl eS
    · rw [h1']
      have hne:rfE l es L ≠ 0:=by simpa using h1'
      refine WL.yes rfl <| WL.sr <| WOL.bd rfl bd46z <| WOL.mv rfl ?_
      refine WOL.sto rfl rfl tp46 q5.a2 rfl rfl (Nat.le_of_ble_eq_true rfl) rfl (fr q5.x) (Nat.le_refl _) fun h5 P5 => WOL.as rfl <| WOL.nil ?_
      exact WL.ret (kto (fun a k => zero (Xg2.trans Y4) (rfE l es L) eu3 hne a k h5 P5) ⟨rfl,rfl,trivial⟩)
end
end Go.Tidy
namespace Go.Tidy
open Go Go.Proofs Tab
attribute [local irreducible] Ty valOf
theorem hasYE:HasY tpE:=⟨by kernel_rfl,by kernel_rfl,by kernel_rfl,by kernel_rfl⟩
section
variable {h:TH} {n:Nat} {ps:List Value}
theorem f32_in {b:Nat} (h:(Lit.float .f32 b).wf = true):b < 4294967296:=by
 have:decide (b < 2 ^ 32) = true:=h
 exact of_decide_eq_true this
theorem u8_nat {z:Int} (h:(Lit.int .u8 z).wf = true):∃ b:Nat,z = (b:Int) ∧ b < 256:=by
 have h:(decide (0 ≤ z) && decide (z ≤ 255)) = true:=h
 rw [Bool.and_eq_true] at h
 have h1:=of_decide_eq_true h.1
 have h2:=of_decide_eq_true h.2
 exact ⟨z.toNat,by omega,by omega⟩
abbrev B8:={b:Nat // b < 256}
theorem bytes_of:∀ l:List B8,Byt (l.map (·.1)) ∧ cat (fun b:B8 => encY b.1) l = cat encY (l.map (·.1))
  | [] => ⟨fun _ h => (by cases h),rfl⟩
  | x :: l => by
    obtain ⟨h1,h2⟩:=bytes_of l
    refine ⟨fun b hb => ?_,?_⟩
    · rcases List.mem_cons.1 hb with rfl | hb
      · exact x.2
      · exact h1 b hb
    · show encY x.1 ++ cat (fun b:B8 => encY b.1) l = encY x.1 ++ cat encY (l.map (·.1))
      rw [h2]
theorem ty_byte (y:Ty Tryz.prog h (n + 1) 5 ps):∃ b:B8,ps = encY b.1:=by
 obtain ⟨z,rfl,hz⟩:=tyg_int Tryz.underlying5 y
 obtain ⟨b,rfl,hb⟩:=u8_nat hz
 exact ⟨⟨b,hb⟩,rfl⟩
end
end Go.Tidy
