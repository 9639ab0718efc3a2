/- A part of the proof. -/
import Derived.Test.YtpmijenaggkpdaaGreatDoorPa6
import Derived.Test.YtpmijenaggkpdaaGreatDoorPa5
set_option linter.all false
namespace Go.Tidy
open Go Go.Proofs Tab
theorem known_no {S:List (Int × Int)} {x:Int}:knownB S x = false ↔ ∃ p,p ∈ S ∧ p.1 ≤ x ∧ x < p.2:=by
 unfold knownB
 rw [Bool.not_eq_false',List.any_eq_true]
 constructor
 ·rintro ⟨p,hp,h⟩
  unfold inS at h
  simp only [Bool.and_eq_true,decide_eq_true_eq] at h
  exact ⟨p,hp,h.1,h.2⟩
 ·rintro ⟨p,hp,h1,h2⟩
  refine ⟨p,hp,?_⟩
  unfold inS
  rw [decide_eq_true h1,decide_eq_true h2]; rfl
theorem holeE_tail {m:Nat} {prev:Int} {p:Int × Int} {r:List (Int × Int)} (h:holeE m prev (p :: r) = 0):badS m p = false ∧ prev < p.1 ∧ holeE m p.2 r = 0:=by
 rw [holeE_cons] at h
 cases hb:badS m p with
 | true => rw [hb] at h; cases h
 | false =>
  rw [hb] at h
  by_cases hc:p.1 ≤ prev
  ·rw [decide_eq_true hc] at h; cases h
  ·rw [decide_eq_false hc] at h
   exact ⟨rfl,by omega,h⟩
theorem known_tail {p:Int × Int} {r:List (Int × Int)} {x:Int} (hx:p.2 ≤ x):knownB (p :: r) x = knownB r x:=by
 unfold knownB
 rw [List.any_cons]
 unfold inS
 rw [decide_eq_false (by omega:¬ x < p.2),Bool.and_false,Bool.false_or]
theorem holes_first {m:Nat} {prev:Int} {p:Int × Int} {r:List (Int × Int)} (h:holeE m prev (p :: r) = 0) {x:Int} (hx:knownB (p :: r) x = false):p.1 ≤ x:=by
 obtain ⟨q,hq,h1,_⟩:=known_no.1 hx
 obtain ⟨b,_,t⟩:=holeE_tail h
 have:=badS_no.1 b
 rcases List.mem_cons.1 hq with rfl | hq
 ·exact h1
 ·have:=holeE_after t q hq
  omega
theorem holes_end {m:Nat} {prev:Int} {p:Int × Int} {r:List (Int × Int)} (h:holeE m prev (p :: r) = 0):knownB (p :: r) p.2 = true:=by
 cases hb:knownB (p :: r) p.2 with
 | true => rfl
 | false =>
  rw [known_tail (Int.le_refl _)] at hb
  obtain ⟨q,hq,h1,_⟩:=known_no.1 hb
  have:=holeE_after (holeE_tail h).2.2 q hq
  omega
theorem holes_uniq {m:Nat}:∀ {S T:List (Int × Int)} {prev:Int},-1 ≤ prev → holeE m prev S = 0 → holeE m prev T = 0 → (∀ x:Nat,prev < (x:Int) → knownB S x = knownB T x) → S = T
  | [],[],_,_,_,_,_ => rfl
  | [],q :: t,prev,h0,_,hT,h => by
    obtain ⟨b,a,_⟩:=holeE_tail hT
    have b':=badS_no.1 b
    obtain ⟨x,hx⟩:=Int.eq_ofNat_of_zero_le b'.1
    have h1:=h x (by omega)
    rw [show knownB (q :: t) (x:Int) = false from known_no.2 ⟨q,List.mem_cons_self ..,by omega,by omega⟩] at h1
    cases h1
  | p :: r,[],prev,h0,hS,_,h => by
    obtain ⟨b,a,_⟩:=holeE_tail hS
    have b':=badS_no.1 b
    obtain ⟨x,hx⟩:=Int.eq_ofNat_of_zero_le b'.1
    have h1:=h x (by omega)
    rw [show knownB (p :: r) (x:Int) = false from known_no.2 ⟨p,List.mem_cons_self ..,by omega,by omega⟩] at h1
    cases h1
  | p :: r,q :: t,prev,h0,hS,hT,h => by
    obtain ⟨b,a,tS⟩:=holeE_tail hS
    obtain ⟨c,d,tT⟩:=holeE_tail hT
    have b':=badS_no.1 b
    have c':=badS_no.1 c
    obtain ⟨p1,p2⟩:=p
    obtain ⟨q1,q2⟩:=q
    simp only at b' c' a d
    obtain ⟨x,rfl⟩:=Int.eq_ofNat_of_zero_le b'.1
    obtain ⟨y,rfl⟩:=Int.eq_ofNat_of_zero_le c'.1
    obtain ⟨u,rfl⟩:=Int.eq_ofNat_of_zero_le (show 0 ≤ p2 by omega)
    obtain ⟨v,rfl⟩:=Int.eq_ofNat_of_zero_le (show 0 ≤ q2 by omega)
    have e1:(y:Int) ≤ x:=holes_first hT (x:=(x:Int)) (by rw [← h x a]; exact known_no.2 ⟨_,List.mem_cons_self ..,Int.le_refl _,b'.2.1⟩)
    have e2:(x:Int) ≤ y:=holes_first hS (x:=(y:Int)) (by rw [h y d]; exact known_no.2 ⟨_,List.mem_cons_self ..,Int.le_refl _,c'.2.1⟩)
    obtain rfl:x = y:=by omega
    have f1:¬ (u:Int) < v:=fun hl => by
      have:=h u (by omega)
      rw [show knownB (((x:Int),(u:Int)) :: r) (u:Int) = true from holes_end hS,show knownB (((x:Int),(v:Int)) :: t) (u:Int) = false from known_no.2 ⟨_,List.mem_cons_self ..,by show (x:Int) ≤ u; omega,hl⟩] at this
      cases this
    have f2:¬ (v:Int) < u:=fun hl => by
      have:=h v (by omega)
      rw [show knownB (((x:Int),(v:Int)) :: t) (v:Int) = true from holes_end hT,show knownB (((x:Int),(u:Int)) :: r) (v:Int) = false from known_no.2 ⟨_,List.mem_cons_self ..,by show (x:Int) ≤ v; omega,hl⟩] at this
      cases this
    obtain rfl:u = v:=by omega
    congr 1
    refine holes_uniq (prev:=(u:Int)) (by omega) tS tT fun z hz => ?_
    have:=h z (by omega)
    rwa [known_tail (by show (u:Int) ≤ z; omega),known_tail (by show (u:Int) ≤ z; omega)] at this
theorem known_past {m:Nat} {S:List (Int × Int)} (hin:In m S) {x:Int} (hx:(m:Int) ≤ x):knownB S x = true:=by
 cases hb:knownB S x with
 | true => rfl
 | false =>
  obtain ⟨p,hp,h1,h2⟩:=known_no.1 hb
  have:=(hin p hp).2.2
  omega
theorem knownL_get {S:List (Int × Int)} {m i:Nat} (hi:i < m):(knownL S m)[i]? = some (knownB S i):=by
 unfold knownL
 rw [List.getElem?_map,List.getElem?_range hi]; rfl
theorem holesOf_get {K:List Bool} {i:Nat} (hi:i < K.length):K[i]? = some (knownB (holesOf K) i):=by
 have:=knownL_get (S:=holesOf K) hi
 rwa [known_holes] at this
theorem holes_back {m:Nat} {S:List (Int × Int)} (h:holeE m (-1) S = 0):holesOf (knownL S m) = S:=by
 have hl:=knownL_len S m
 have h2:=holes_ok (knownL S m)
 rw [hl] at h2
 refine holes_uniq (Int.le_refl _) h2 h fun x _ => ?_
 by_cases hx:x < m
 ·have e1:=holesOf_get (K:=knownL S m) (i:=x) (by omega)
  rw [knownL_get hx] at e1
  exact (Option.some.inj e1).symm
 ·rw [known_past (holeE_in h2) (by omega),known_past (holeE_in h) (by omega)]
theorem setN_in {α:Type} {l:List α} {p:Nat} {g:Nat → α} {q:Nat} (h1:p ≤ q) (h3:q < l.length):∀ w,q < p + w → (setN l p g w)[q]? = some (g (q - p))
  | 0,h => by omega
  | w + 1,h => by
    show ((setN l p g w).set _ _)[q]? = _
    by_cases hq:q = p + w
    · subst hq
      rw [List.getElem?_set_self (by rw [setN_len]; exact h3)]
      congr 2; omega
    · rw [List.getElem?_set_ne (by omega),setN_in h1 h3 w (by omega)]
end Go.Tidy
namespace Go.Tidy
open Go Go.Proofs Tab
variable {tp:TProg}
theorem Val.hx {s:ByteArray} {n:Int} {v1 v2:Value} {F:List Nat} {S:List (Int × Int)} {es L:List Int} {p1 p2:Int} {h hm g g':TH} {c3 c5 c12 c14 c18 c28 c29 c30:Nat} {sx:ByteArray} {nx:Int} {x1 x2:Value} {sy:ByteArray} {ny:Int} {y1 y2:Value} {ec ma mb:Int} {n1:Nat} {w1 w2:Value}
  (M:Val s n v1 v2 F S es L p1 p2 h hm g c3 c5 c12 c14 c18 c28 c29 c30 sx nx x1 x2 sy ny y1 y2 ec ma mb n1 w1 w2) (x:HX g g'):Val s n v1 v2 F S es L p1 p2 h hm g' c3 c5 c12 c14 c18 c28 c29 c30 sx nx x1 x2 sy ny y1 y2 ec ma mb n1 w1 w2 :=
 { M with x1_:=M.x1_.trans x,b28:=M.b28.hx x,b29:=M.b29.hx x,ro:=M.ro.hx x,b30:=M.b30.hx x }
end Go.Tidy
namespace Go.Tidy
open Go Go.Proofs Tab
variable {tp:TProg}
theorem short_small {s:ByteArray} {m k:Nat} (h:shortB s m k = true):m ≤ 4097 ∧ k ≤ 12:=by
 simp only [shortB,Bool.and_eq_true,Bool.or_eq_true,decide_eq_true_eq,beq_iff_eq] at h
 omega
end Go.Tidy
namespace Go.Tidy
open Go Go.Proofs Tab
variable {tp:TProg}
structure Cel (s:ByteArray) (n:Int) (F:List Nat) (es:List Int) (C:List (Int × Bool)):Prop where
 len:F.length = C.length
 e:SErr F es
 lev:Lev F (C.map fun c => c.1)
 r:runE s n F.length (holesOf (C.map fun c => c.2)) es (C.map fun c => c.1) = 0
 v:Valid s n F (holesOf (C.map fun c => c.2)) (C.map fun c => c.1)
 c:cellsL (C.map fun c => c.1) (holesOf (C.map fun c => c.2)) = C
def RunC (s:ByteArray) (n:Int) (h:TH) (v1 v2:Value) (C:List (Int × Bool)):Prop:=∃ F es,RunH h v1 v2 F (holesOf (C.map fun c => c.2)) ∧ Cel s n F es C
theorem RunC.hx {s:ByteArray} {n:Int} {h h':TH} {v1 v2:Value} {C:List (Int × Bool)} (r:RunC s n h v1 v2 C) (x:HX h h'):RunC s n h' v1 v2 C:=by
 obtain ⟨F,es,r,c⟩:=r
 exact ⟨F,es,r.hx x,c⟩
section
variable {s:ByteArray} {n:Int} {F:List Nat} {es L:List Int} {S:List (Int × Int)} {C:List (Int × Bool)}
theorem Cel.m (c:Cel s n F es C):C.length ≤ 4096:=by have:=c.v.m; rw [c.len] at this; exact this
theorem Cel.lim (c:Cel s n F es C):∀ x,x ∈ C → x.1.natAbs ≤ 16384:=by have:=c.v.lim; rwa [c.c] at this
theorem Cel.dk (c:Cel s n F es C):DarkC C:=by have:=c.v.darkC; rwa [c.c] at this
theorem Cel.holes (_:Cel s n F es C):(holesOf (C.map fun c => c.2)).length ≤ C.length:=by
 have:=holesN_len (C.map fun c => c.2) (C.map fun c => c.2).length
 show (holesN _ _).length ≤ _
 rwa [List.length_map] at this ⊢
theorem Cel.head (c:Cel s n F es C):headE s n C.length = 0:=by
 have:=c.r
 unfold runE at this
 rw [c.len] at this
 rcases nz_cases (headE s n C.length) with h | h
 ·exact h
 ·rw [h] at this; rw [show headE s n C.length = 0 from this] at h; cases h
theorem Cel.top (c:Cel s n F es C):n + C.length ≤ 100000000:=by have:=c.v.n1; rw [c.len] at this; exact this
theorem Valid.back (V:Valid s n F S L):((cellsL L S).map fun c => c.1) = L ∧ holesOf ((cellsL L S).map fun c => c.2) = S:=by
 have kl:=V.kl
 have ll:=V.lev.1
 constructor
 ·apply List.ext_getElem?
  intro i
  rw [List.getElem?_map]
  by_cases hi:i < F.length
  ·obtain ⟨k,hk⟩:=V.cell hi
   rw [hk,List.getElem?_eq_getElem (by omega:i < L.length)]
   simp [List.getD_eq_getElem?_getD,List.getElem?_eq_getElem (by omega:i < L.length)]
  ·rw [List.getElem?_eq_none (by rw [cells_len V.lev V.in_]; omega),List.getElem?_eq_none (by omega)]
   rfl
 ·rw [V.cells,cellsK_snd kl,holes_back V.hole]
theorem Cel.of (V:Valid s n F S L) (hE:SErr F es) (h0:runE s n F.length S es L = 0):Cel s n F es (cellsL L S):=by
 obtain ⟨b1,b2⟩:=V.back
 refine ⟨(cells_len V.lev V.in_).symm,hE,by rw [b1]; exact V.lev,by rw [b1,b2]; exact h0,by rw [b1,b2]; exact V,by rw [b1,b2]⟩
theorem Cel.made (hd:headE s n C.length = 0) (hn:n + C.length ≤ 100000000) (lim:∀ c,c ∈ C → c.1.natAbs ≤ 16384) (dk:DarkC C):∃ es,Cel s n (C.map fun c => smp c.1) es C:=by
 obtain ⟨es,e1,e2,e3,e4,e5⟩:=made_run hd hn lim dk
 exact ⟨es,by simp,e1,e2,e3,e4,e5⟩
theorem RunO.cel {B:Nat} {h:TH} {w1 w2:Value} (o:RunO B h w1 w2 (C.map fun c => smp c.1) (holesOf (C.map fun c => c.2))) (hd:headE s n C.length = 0) (hn:n + C.length ≤ 100000000) (lim:∀ c,c ∈ C → c.1.natAbs ≤ 16384) (dk:DarkC C):RunC s n h w1 w2 C:=by
 obtain ⟨es,c⟩:=Cel.made hd hn lim dk
 exact ⟨_,es,o.r,c⟩
end
section
variable {s:ByteArray} {n:Int} {h:TH} {v1 v2 w1 w2:Value} {C D:List (Int × Bool)}
def NewC (s:ByteArray) (n:Int) (C:List (Int × Bool)) (h:TH) (v:Value) (h':TH):Prop :=
 ∃ bo1 l1 k1 bo2 l2 k2,v = .tuple #[runV s n (.slice bo1 l1 k1) (.slice bo2 l2 k2),.int .i64 0] ∧ HX h h' ∧ RunC s n h' (.slice bo1 l1 k1) (.slice bo2 l2 k2) C ∧ Above h.next (.slice bo1 l1 k1) ∧ Above h.next (.slice bo2 l2 k2)
theorem RunR.new {h':TH} {v:Value} (r:RunR h h' v s n C 0) (hd:headE s n C.length = 0) (hn:n + C.length ≤ 100000000) (lim:∀ c,c ∈ C → c.1.natAbs ≤ 16384) (dk:DarkC C):NewC s n C h v h':=by
 obtain ⟨X,⟨he,_⟩ | ⟨_,w1,w2,rfl,O⟩⟩:=r
 ·exact absurd rfl he
 ·obtain ⟨bo1,k1,rfl⟩:=O.r.f.form
  obtain ⟨bo2,k2,rfl⟩:=O.r.s.form
  exact ⟨_,_,_,_,_,_,rfl,X,O.cel hd hn lim dk,O.o1,O.o2⟩
theorem c31 (H:Has tp) (r:RunC s n h v1 v2 C):CallW Tryz.prog tp (.func (.func 31) #[] #[]) #[runV s n v1 v2] h fun v h' => v = .int .i64 0 ∧ HX h h':=by
 obtain ⟨F,es,r,c⟩:=r
 have m:=c.m
 have l:=c.len
 have q:=c.holes
 refine (k31 H r c.e (fun _ => c.lev) (by omega) (by omega)).mono ?_
 rintro v h' ⟨rfl,x⟩
 rw [c.r]
 exact ⟨rfl,x⟩
theorem c25 (H:Has tp) (r:RunC s n h v1 v2 C) (f:Free0 h.next h):CallW Tryz.prog tp (.func (.func 25) #[] #[]) #[runV s n v1 v2] h fun v h' => ∃ w1 w2,v = runV s n w1 w2 ∧ HX h h' ∧ RunC s n h' w1 w2 C:=by
 obtain ⟨F,es,r,c⟩:=r
 have m:=c.m
 have l:=c.len
 have q:=c.holes
 refine (k25 H r (by omega) (by omega) f).mono ?_
 rintro v h' ⟨w1,w2,rfl,x,o⟩
 exact ⟨w1,w2,rfl,x,F,es,o.r,c⟩
theorem c28 (H:Has tp) (X:HasX tp) (r:RunC s n h v1 v2 C) (f:Free0 h.next h):CallW Tryz.prog tp (.func (.func 28) #[] #[]) #[runV s n v1 v2] h fun v h' => NewC s n C.reverse h v h':=by
 obtain ⟨F,es,r,c⟩:=r
 have m:=c.m
 have l:=c.len
 have q:=c.holes
 refine (k28 H X r c.e (fun _ => c.lev) (by omega) (by omega) f).mono ?_
 intro v h' R
 rw [c.r,c.c] at R
 exact R.new (by rw [List.length_reverse]; exact c.head) (by rw [List.length_reverse]; exact c.top) (fun x hx => c.lim x (List.mem_reverse.1 hx)) (fun x hx => c.dk x (List.mem_reverse.1 hx))
theorem c29 (H:Has tp) (X:HasX tp) (r:RunC s n h v1 v2 C) (f:Free0 h.next h):CallW Tryz.prog tp (.func (.func 29) #[] #[]) #[runV s n v1 v2] h fun v h' => v = .tuple #[.int .i64 (sqL (knownV C)),.int .i64 0] ∧ HX h h':=by
 obtain ⟨F,es,r,c⟩:=r
 have m:=c.m
 have l:=c.len
 have q:=c.holes
 refine (k29 H X r c.e (fun _ => c.lev) (by omega) (by omega) f).mono ?_
 rintro v h' ⟨rfl,x⟩
 rw [c.r,c.c]
 exact ⟨rfl,x⟩
def meanT (sum:Int) (k:Nat):Value:=cond (k == 0) (.tuple #[ratio0,.int .i64 7]) (.tuple #[meanR sum k,.int .i64 0])
theorem c30 (H:Has tp) (X:HasX tp) (r:RunC s n h v1 v2 C) (f:Free0 h.next h):CallW Tryz.prog tp (.func (.func 30) #[] #[]) #[runV s n v1 v2] h fun v h' => v = meanT (sumL (knownV C)) (knownV C).length ∧ HX h h':=by
 obtain ⟨F,es,r,c⟩:=r
 have m:=c.m
 have l:=c.len
 have q:=c.holes
 refine (k30 H X r c.e (fun _ => c.lev) (by omega) (by omega) f).mono ?_
 rintro v h' ⟨rfl,x⟩
 rw [c.r,c.c]
 exact ⟨rfl,x⟩
end
end Go.Tidy
namespace Go.Tidy
open Go Go.Proofs Tab
variable {tp:TProg}
section
variable {s s':ByteArray} {n n':Int} {h:TH} {v1 v2 w1 w2:Value} {C D:List (Int × Bool)}
def knownC (C:List (Int × Bool)) (x:Int):Bool:=knownB (holesOf (C.map fun c => c.2)) x
theorem knownC_get {i:Nat} {c:Int × Bool} (hc:C[i]? = some c):knownC C i = c.2:=by
 have hi:i < (C.map fun c => c.2).length:=by rw [List.length_map]; exact (List.getElem?_eq_some_iff.1 hc).1
 have:=holesOf_get hi
 rw [List.getElem?_map,hc] at this
 exact (Option.some.inj this).symm
theorem c39 (H:Has tp) (x:Int) (r:RunC s n h v1 v2 C):CallW Tryz.prog tp (.func (.func 39) #[] #[]) #[runV s n v1 v2,.int .i64 x] h fun v h' => v = .bool (knownC C x) ∧ HX h h':=by
 obtain ⟨F,es,r,c⟩:=r
 have m:=c.m
 have q:=c.holes
 exact k39 H r.s (by omega)
end
end Go.Tidy
namespace Go.Tidy
open Go Go.Proofs Tab
variable {tp:TProg}
theorem lev_some (F:List Nat):∃ es L,SErr F es ∧ (firstNZ es = 0 → Lev F L):=by
 obtain ⟨es,hE⟩:=serr_ex F
 by_cases h0:firstNZ es = 0
 ·obtain ⟨L,hL⟩:=lev_ex F es hE (firstNZ_zero h0)
  exact ⟨es,L,hE,fun _ => hL⟩
 ·exact ⟨es,[],hE,fun h => absurd h h0⟩
attribute [local irreducible] Ty valOf
end Go.Tidy
namespace Go.Tidy
open Go Go.Proofs Tab
variable {tp:TProg}
section
variable {P:Program} {h:TH} {K:Regs → TH → Prop} {rest:List TOper} {d:Option Tmp} {ty:TypeId} {i:Nat} {x y:Operand} {t u:TypeId} {L:Rg}
theorem WOL.fne {b c:Nat} {m n:Int} (s:Samp b m) (s':Samp c n) (hx:getL L x = some (.float .f32 b)) (hy:getL L y = some (.float .f32 c)) (w:∀ a,Kn (putL L d (.bool (!decide (m = n)))) a → WO P tp rest a h K):∀ a,Kn L a → WO P tp (⟨d,.binOp .neq t x y u,ty,none,[],i⟩ :: rest) a h K:=fun a k => WO.fcmp (k.o hx) (k.o hy) s.nan s'.nan (s.cmp s').2 (w _ (k.put d _))
end
section
variable {s:ByteArray} {n:Int} {g:TH} {v1 v2 p1 p2:Value} {C:List (Int × Bool)} {c2 c3 c5':Nat}
end
end Go.Tidy
namespace Go.Tidy
open Go Go.Proofs Tab
variable {tp:TProg}
theorem ne_same (z:Int):fastBin .neq (.int .i64 z) (.int .i64 z) = some (.bool false):=by
 show some (Value.bool (z != z)) = _
 simp
section
variable {s:ByteArray} {n:Int} {g:TH} {v1 v2 p1 p2:Value} {C D:List (Int × Bool)} {c2 c3 c5':Nat}
end
end Go.Tidy
namespace Go.Tidy
open Go Go.Proofs Tab
variable {tp:TProg}
section
variable {s:ByteArray} {n:Int} {g:TH} {v1 v2 p1 p2:Value} {C:List (Int × Bool)} {c2 c3 c5':Nat}
theorem RunC.lens (r:RunC s n g v1 v2 C):∃ F:List Nat,F.length = C.length ∧ SlL encF 1 g v1 F:=by
 obtain ⟨F,es,r,c⟩:=r
 exact ⟨F,c.len,r.f⟩
theorem RunC.relock (r:RunC s n g v1 v2 C) (M:List Nat):RunC s n (g.withLock M) v1 v2 C:=by
 obtain ⟨F,es,r,c⟩:=r
 exact ⟨F,es,r.relock' M,c⟩
theorem RunC.hx' {h':TH} (r:RunC s n g v1 v2 C) (x:HX g h') (M:List Nat):RunC s n (h'.withLock M) v1 v2 C:=(r.hx x).relock M
theorem RunC.small (r:RunC s n g v1 v2 C):C.length ≤ 4096 ∧ 0 ≤ n ∧ n + C.length ≤ 100000000 ∧ DarkC C ∧ ∀ x,x ∈ C → x.1.natAbs ≤ 16384:=by
 obtain ⟨F,es,r,c⟩:=r
 exact ⟨c.m,c.v.n0,c.top,c.dk,c.lim⟩
end
attribute [local irreducible] Ty valOf
end Go.Tidy
namespace Go.Tidy
open Go Go.Proofs Tab
variable {tp:TProg}
theorem RunC.away {s:ByteArray} {n:Int} {h h':TH} {v1 v2:Value} {C:List (Int × Bool)} {n0 c:Nat} {x:TB} (r:RunC s n h v1 v2 C) (a1:Above n0 v1) (a2:Above n0 v2) (p:Put h h' c x) (hc:c < n0):RunC s n h' v1 v2 C:=by
 obtain ⟨F,es,r,q⟩:=r
 exact ⟨F,es,(RunO.away (n0:=n0) ⟨r,a1,a2⟩ p hc).r,q⟩
theorem u5:Tryz.prog.underlying 5 = some (.int .u8):=by kernel_rfl
theorem WOL.convU {P:Program} {tp:TProg} {h:TH} {K:Regs → TH → Prop} {rest:List TOper} {d:Option Tmp} {ty:TypeId} {i:Nat} {x:Operand} {L:Rg} {s t:TypeId} {ds:TypeDesc} {k:IntKind} {n:Int} (hs:P.underlying s = some ds) (ht:P.underlying t = some (.int .i64)) (hx:getL L x = some (.int k n)) (h1:0 ≤ n) (h2:n ≤ 255) (w:∀ a,Kn (putL L d (.int .i64 n)) a → WO P tp rest a h K):∀ a,Kn L a → WO P tp (⟨d,.convert s t x,ty,none,[],i⟩ :: rest) a h K:=fun a q => by
 refine WO.conv (q.o hx) rfl (conv_i2i hs ht) rfl ?_
 rw [show IntKind.i64.wrap n = n from IntWalk.i64_in _ (by omega)]
 exact w _ (q.put d _)
section
variable {s:ByteArray} {n:Int} {g:TH} {v1 v2:Value} {C:List (Int × Bool)} {c2 c3:Nat}
end
end Go.Tidy
namespace Go.Tidy
open Go Go.Proofs Tab
variable {tp:TProg}
section
variable {s:ByteArray} {n:Int} {g:TH} {v1 v2:Value} {C:List (Int × Bool)} {c2 c3:Nat}
theorem RunC.samp (r:RunC s n g v1 v2 C):∃ F:List Nat,F.length = C.length ∧ SlL encF 1 g v1 F ∧ ∀ (i b:Nat) (c:Int × Bool),F[i]? = some b → C[i]? = some c → Samp b c.1:=by
 obtain ⟨F,es,r,q⟩:=r
 exact ⟨F,q.len,r.f,fun i b c hb hc => q.lev.2 i b c.1 hb (by rw [List.getElem?_map,hc]; rfl)⟩
end
end Go.Tidy
namespace Go.Tidy
open Go Go.Proofs Tab
variable {tp:TProg}
theorem Samp.order {b c:Nat} {n m:Int} (s:Samp b n) (t:Samp c m):Ieee.single.order b c = some (compare n m):=by
 obtain ⟨neg,q,h1,h2,h3⟩:=s.ok
 obtain ⟨neg',q',g1,g2,g3⟩:=t.ok
 obtain ⟨D,hD⟩:∃ D:Nat,2 ^ 149 = D:=⟨_,rfl⟩
 have hDp:0 < D:=by rw [← hD]; exact two_pow_pos 149
 have e1:=h2 D hD
 have e2:=g2 D hD
 have a1:sg neg q * (16:Nat) = n * (D:Nat):=by rw [← sg_mul,e1,sg_mul,h3]
 have a2:sg neg' q' * (16:Nat) = m * (D:Nat):=by rw [← sg_mul,e2,sg_mul,g3]
 rw [h1.order g1]
 generalize sg neg q = x at *
 generalize sg neg' q' = y at *
 have hDi:(0:Int) < (D:Int):=by omega
 have hlt:x < y ↔ n < m:=by
  constructor
  ·intro hq
   have:n * (D:Int) < m * (D:Int):=by rw [← a1,← a2]; omega
   exact Int.lt_of_mul_lt_mul_right this (by omega)
  ·intro hq
   have:n * (D:Int) < m * (D:Int):=Int.mul_lt_mul_of_pos_right hq hDi
   rw [← a1,← a2] at this
   omega
 have heq:x = y ↔ n = m:=by
  constructor
  ·intro hq
   rw [hq,a2] at a1
   exact (Int.eq_of_mul_eq_mul_right (by omega) a1).symm
  ·intro hq
   rw [hq,← a2] at a1
   omega
 congr 1
 show compareOfLessAndEq _ _ = compareOfLessAndEq _ _
 unfold compareOfLessAndEq
 simp only [hlt,heq]
section
variable {P:Program} {h:TH} {K:Regs → TH → Prop} {rest:List TOper} {d:Option Tmp} {ty:TypeId} {i:Nat} {x y:Operand} {t u:TypeId} {L:Rg}
end
end Go.Tidy
namespace Go.Tidy
open Go Go.Proofs Tab
variable {tp:TProg}
def down:List Int → Nat → List Int
 | l,0 => l
 | l,j + 1 => if l.getD (j + 1) 0 < l.getD j 0 then down ((l.set (j + 1) (l.getD j 0)).set j (l.getD (j + 1) 0)) j else l
def insL (l:List Int):Nat → List Int
 | 0 => l
 | k + 1 => down (insL l k) k
theorem down_len:∀ (j:Nat) (l:List Int),(down l j).length = l.length
 | 0,l => rfl
 | j + 1,l => by
  unfold down
  split
  ·rw [down_len j]; simp
  ·rfl
theorem insL_len (l:List Int):∀ k,(insL l k).length = l.length
 | 0 => rfl
 | k + 1 => by unfold insL; rw [down_len,insL_len l k]
theorem down_all {p:Int → Prop}:∀ (j:Nat) (l:List Int),j < l.length ∨ j = 0 → (∀ x,x ∈ l → p x) → ∀ x,x ∈ down l j → p x
  | 0,l,_,h => h
  | j + 1,l,hj,h => by
    unfold down
    have hj:j + 1 < l.length:=by omega
    have g1:l.getD (j + 1) 0 ∈ l:=by rw [List.getD_eq_getElem?_getD,List.getElem?_eq_getElem hj]; exact List.getElem_mem hj
    have g2:l.getD j 0 ∈ l:=by rw [List.getD_eq_getElem?_getD,List.getElem?_eq_getElem (show j < l.length by omega)]; exact List.getElem_mem _
    split
    · refine down_all j _ (by left; simp; omega) ?_
      intro x hx
      rcases List.mem_or_eq_of_mem_set hx with hx | rfl
      · rcases List.mem_or_eq_of_mem_set hx with hx | rfl
        · exact h x hx
        · exact h _ g2
      · exact h _ g1
    · exact h
theorem insL_all {p:Int → Prop} {l:List Int} (h:∀ x,x ∈ l → p x):∀ k,k ≤ l.length → ∀ x,x ∈ insL l k → p x
 | 0,_ => h
 | k + 1,hk => by
  unfold insL
  exact down_all k _ (by left; rw [insL_len]; omega) (insL_all h k (by omega))
theorem k199 (H:Has tp) (n:Int) (h:TH):CallW Tryz.prog tp (.func (.func 199) #[] #[]) #[zi n] h fun v h' => v = .bool false ∧ h' = h:=by
 refine CallW.fnL (H.fn 199 f199 rfl rfl) ?_
 refine WL.sr <| WOL.as rfl <| WOL.nil <| keep [(0,_)] ⟨rfl,trivial⟩ ?_
 refine WL.sr <| WOL.mv rfl <| WOL.mv rfl ?_
 refine WOL.bi rfl rfl (ne_same _) <| WOL.as rfl <| WOL.nil <| keep [(2,_)] ⟨rfl,trivial⟩ ?_
 exact WL.done rfl ⟨rfl,rfl⟩
theorem k183 (H:Has tp) (n m:Int) (h:TH):CallW Tryz.prog tp (.func (.func 183) #[] #[]) #[zi n,zi m] h fun v h' => v = .bool (decide (n < m)) ∧ h' = h:=by
 refine CallW.fnL (H.fn 183 f183 rfl rfl) ?_
 refine WL.sr <| WOL.as rfl <| WOL.nil <| keep [(0,_),(1,_)] ⟨rfl,rfl,trivial⟩ ?_
 refine WL.sr <| WOL.mv rfl ?_
 refine WOL.cl1 rfl rfl ((k199 H n h).mono ?_)
 rintro v g ⟨rfl,rfl⟩
 refine WOL.mv rfl ?_
 refine WOL.skp (b:=false) rfl rfl <| WOL.skp (b:=false) rfl rfl <| WOL.skp (b:=false) rfl rfl <| WOL.pkf rfl rfl <| WOL.mv rfl ?_
 refine WOL.now (b:=false) rfl rfl <| WOL.mv rfl <| WOL.now (b:=false) rfl rfl <| WOL.mv rfl <| WOL.now (b:=false) rfl rfl ?_
 refine WOL.bi (v:=.bool (decide (n < m))) rfl rfl rfl <| WOL.pkf rfl rfl <| WOL.as rfl <| WOL.nil <| keep [(4,_)] ⟨rfl,trivial⟩ ?_
 exact WL.done rfl ⟨rfl,rfl⟩
set_option maxHeartbeats 2000000 in
set_option maxRecDepth 10000 in
theorem k177 (H:Has tp) {v:Value} {l:List Int} {n0:Nat} {h hb:TH} (O:OwnL encI n0 h v 3 l) (hl:l.length ≤ 12) (f:Free0 n0 h) (X:HX hb h) (hn:hb.next ≤ n0) :
    CallW Tryz.prog tp (.func (.func 177) #[] #[]) #[v,zi 0,zi l.length] h fun _ h' => OwnL encI n0 h' v 3 (insL l l.length) ∧ HX hb h':=by
  refine CallW.fnL (H.fn 177 f177 rfl rfl) ?_
  refine WL.sr <| WOL.mv rfl <| WOL.add rfl rfl (by decide) (by decide) <| WOL.as rfl <| WOL.nil <| keep [(0,_),(1,_),(2,_),(6,_)] ⟨rfl,rfl,rfl,rfl,trivial⟩ ?_
  refine WL.block ?_
  refine WL.loop (fun k a g => ∃ i:Nat,1 ≤ i ∧ (i ≤ l.length ∨ i = 1) ∧ k = l.length + 1 - i ∧ OwnL encI n0 g v 3 (insL l i) ∧ HX hb g ∧ Kn [(0,v),(1,zi 0),(2,zi l.length),(6,zi (i:Nat))] a) (l.length + 1 - 1) (fun a q => ⟨1,by omega,.inr rfl,rfl,O,X,q.sub ⟨rfl,rfl,rfl,rfl,trivial⟩⟩) ?_
  rintro k a g ⟨i,h1,h2,rfl,O1,X1,q⟩
  refine q.go ?_
  refine WL.seq <| WL.sr <| WOL.mv rfl <| WOL.mv rfl <| WOL.bi (v:=.bool (decide ((i:Int) < (l.length:Int)))) rfl rfl rfl <| WOL.nil <| keep [(0,_),(1,_),(2,_),(6,_),(12,_)] ⟨rfl,rfl,rfl,rfl,rfl,trivial⟩ ?_
  by_cases hlt:i < l.length
  · rw [show decide ((i:Int) < (l.length:Int)) = true by simpa using hlt]
    refine WL.yes rfl <| WL.skip ?_
    refine WL.seq <| WL.block ?_
    refine WL.sr <| WOL.mv rfl <| WOL.as rfl <| WOL.nil <| keep [(0,_),(1,_),(2,_),(6,_),(7,_)] ⟨rfl,rfl,rfl,rfl,rfl,trivial⟩ ?_
    refine WL.block ?_
    refine WL.loop (fun k a g => ∃ (j:Nat) (D:List Int),j ≤ i ∧ D.length = l.length ∧ k = j ∧ down D j = insL l (i + 1) ∧ OwnL encI n0 g v 3 D ∧ HX hb g ∧ Kn [(0,v),(1,zi 0),(2,zi l.length),(6,zi (i:Nat)),(7,zi (j:Nat))] a) i (fun a q => ⟨i,insL l i,by omega,insL_len l i,rfl,rfl,O1,X1,q.sub ⟨rfl,rfl,rfl,rfl,rfl,trivial⟩⟩) ?_
    have fin:∀ g',OwnL encI n0 g' v 3 (insL l (i + 1)) → HX hb g' → ∀ a,Kn [(0,v),(1,zi 0),(2,zi l.length),(6,zi (i:Nat))] a → W Tryz.prog tp false (.reg r177_6) a g' (andThen (fun a g => ∃ k',k' < l.length + 1 - i ∧ ∃ i:Nat,1 ≤ i ∧ (i ≤ l.length ∨ i = 1) ∧ k' = l.length + 1 - i ∧ OwnL encI n0 g v 3 (insL l i) ∧ HX hb g ∧ Kn [(0,v),(1,zi 0),(2,zi l.length),(6,zi (i:Nat))] a) (leaves 0 (Fin Tryz.prog [] fun _ h' => OwnL encI n0 h' v 3 (insL l l.length) ∧ HX hb h'))):=by
      intro g' O' X'
      refine WL.reg ?_
      refine WOL.mv rfl <| WOL.add rfl rfl (by omega) (by omega) <| WOL.as rfl <| WOL.nil ?_
      exact fun a q => ⟨l.length + 1 - (i + 1),by omega,i + 1,by omega,by omega,rfl,O',X',q.sub ⟨rfl,rfl,rfl,rfl,trivial⟩⟩
    clear O1 X1 q a g
    rintro k a g ⟨j,D,hj,hD,hk,hdn,O1,X1,q⟩
    subst hk
    refine q.go ?_
    refine WL.seq <| WL.sr <| WOL.mv rfl <| WOL.mv rfl ?_
    cases k with
    | zero =>
      refine WOL.bi (v:=.bool false) rfl rfl rfl <| WOL.mv rfl ?_
      refine WOL.skp (b:=false) rfl rfl <| WOL.skp (b:=false) rfl rfl <| WOL.skp (b:=false) rfl rfl <| WOL.skp (b:=false) rfl rfl <| WOL.skp (b:=false) rfl rfl <| WOL.skp (b:=false) rfl rfl <| WOL.skp (b:=false) rfl rfl <| WOL.skp (b:=false) rfl rfl <| WOL.skp (b:=false) rfl rfl <| WOL.skp (b:=false) rfl rfl ?_
      refine WOL.pkf rfl rfl <| WOL.nil <| keep [(0,_),(1,_),(2,_),(6,_),(30,_)] ⟨rfl,rfl,rfl,rfl,rfl,trivial⟩ ?_
      refine WL.no rfl <| WL.exit ?_
      have hdn:D = insL l (i + 1):=hdn
      exact kto (fin g (by rw [← hdn]; exact O1) X1) ⟨rfl,rfl,rfl,rfl,trivial⟩
    | succ j =>
      refine WOL.bi (v:=.bool true) rfl rfl (by show some (Value.bool (decide (((j + 1:Nat):Int) > 0))) = _; rw [decide_eq_true (by omega)]) <| WOL.mv rfl ?_
      have p1:D[j + 1]? = some (D.getD (j + 1) 0):=by rw [List.getD_eq_getElem?_getD,List.getElem?_eq_getElem (show j + 1 < D.length by omega)]; rfl
      have p0:D[j]? = some (D.getD j 0):=by rw [List.getD_eq_getElem?_getD,List.getElem?_eq_getElem (show j < D.length by omega)]; rfl
      unfold down at hdn
      generalize D.getD (j + 1) 0 = x at *
      generalize D.getD j 0 = y at *
      obtain ⟨b,o,cc,fix,wr,el,e1,e2,e3,e4,e5⟩:=(O1.sl eI).at eI u29 tp3 p1 .i64
      obtain ⟨b',o',cc',fix',wr',el',g1,g2,g3,g4,g5⟩:=(O1.sl eI).at eI u29 tp3 p0 .i64
      have sj:fastBin .sub (zi ((j + 1:Nat):Int)) (zi 1) = some (zi (j:Nat)):=by show some (Value.int .i64 (fwrap .i64 (((j + 1:Nat):Int) - 1))) = _; rw [fwrap_i64 (by omega) (by omega)]; congr 2; omega
      refine WOL.now (b:=true) rfl rfl <| WOL.mv rfl <| WOL.now (b:=true) rfl rfl <| WOL.mv rfl <| WOL.now (b:=true) rfl rfl ?_
      refine WOL.ix rfl rfl e1 <| WOL.now (b:=true) rfl rfl ?_
      refine WOL.ld rfl (load_one tp3 e2 (e5 0 (by decide))) ?_
      refine WOL.now (b:=true) rfl rfl <| WOL.mv rfl <| WOL.now (b:=true) rfl rfl <| WOL.mv rfl <| WOL.now (b:=true) rfl rfl ?_
      refine WOL.bi rfl rfl sj <| WOL.now (b:=true) rfl rfl ?_
      refine WOL.ix rfl rfl g1 <| WOL.now (b:=true) rfl rfl ?_
      refine WOL.ld rfl (load_one tp3 g2 (g5 0 (by decide))) ?_
      refine WOL.now (b:=true) rfl rfl ?_
      refine WOL.cl2 rfl rfl rfl ((k183 H x y g).mono ?_)
      rintro w g' ⟨rfl,rfl⟩
      refine WOL.pkt rfl rfl <| WOL.nil <| keep [(0,_),(1,_),(2,_),(6,_),(7,_),(30,_)] ⟨rfl,rfl,rfl,rfl,rfl,rfl,trivial⟩ ?_
      by_cases hxy:x < y
      · rw [decide_eq_true hxy]
        rw [if_pos hxy] at hdn
        refine WL.yes rfl <| WL.skip ?_
        refine WL.seq <| WL.block ?_
        refine WL.reg ?_
        refine WOL.mv rfl <| WOL.mv rfl <| WOL.mv rfl <| WOL.mv rfl <| WOL.bi rfl rfl sj <| WOL.mv rfl <| WOL.mv rfl <| WOL.bi rfl rfl sj ?_
        refine WOL.ix rfl rfl g1 ?_
        refine WOL.ld rfl (load_one tp3 g2 (g5 0 (by decide))) ?_
        refine WOL.mv rfl <| WOL.mv rfl <| WOL.ix rfl rfl e1 ?_
        refine WOL.ld rfl (load_one tp3 e2 (e5 0 (by decide))) ?_
        rcases O1 with ⟨_,he0⟩ | ⟨hne,bO,rfl,hbO,AO⟩
        · rw [he0] at hD; simp at hD; omega
        refine WOL.ix rfl rfl (indexAddr_tp u29 tp3 (by omega)) ?_
        refine WOL.sto rfl rfl tp3 AO rfl rfl (by rw [eI.cat_len]; omega) rfl (f.of X X1) hbO fun h4 P4 => ?_
        have A4:=P4.at_
        rw [show (Value.int .i64 y).cells.toList = encI y from rfl,splice1 eI (by omega)] at A4
        have X4:=P4.hx _ X1 (by omega)
        refine WOL.ix rfl rfl (indexAddr_tp u29 tp3 (by omega)) ?_
        refine WOL.sto rfl rfl tp3 A4 rfl rfl (by rw [eI.cat_len,List.length_set]; omega) rfl (f.of X X4) hbO fun h5 P5 => ?_
        have A5:=P5.at_
        rw [show (Value.int .i64 x).cells.toList = encI x from rfl,splice1 eI (by rw [List.length_set]; omega)] at A5
        have X5:=P5.hx _ X4 (by omega)
        refine WOL.nil <| keep [(0,_),(1,_),(2,_),(6,_),(7,_)] ⟨rfl,rfl,rfl,rfl,rfl,trivial⟩ ?_
        refine WL.reg ?_
        refine WOL.mv rfl <| WOL.bi rfl rfl sj <| WOL.as rfl <| WOL.nil ?_
        exact fun a q => ⟨j,by omega,j,_,by omega,by rw [List.length_set,List.length_set]; exact hD,rfl,hdn,own_of (by rw [List.length_set,List.length_set]) hbO A5 (by omega),X5,q.sub ⟨rfl,rfl,rfl,rfl,rfl,trivial⟩⟩
      · rw [decide_eq_false hxy]
        rw [if_neg hxy] at hdn
        refine WL.no rfl <| WL.exit ?_
        exact kto (fin g' (by rw [← hdn]; exact O1) X1) ⟨rfl,rfl,rfl,rfl,trivial⟩
  · rw [show decide ((i:Int) < (l.length:Int)) = false by simpa using hlt]
    refine WL.no rfl <| WL.exit ?_
    refine WL.endn (vs:=[]) rfl ⟨?_,X1⟩
    rcases h2 with h2 | rfl
    · obtain rfl:i = l.length:=by omega
      exact O1
    · have:l.length = 0 ∨ l.length = 1:=by omega
      rcases this with h0 | h0 <;> rw [h0] <;> exact O1
set_option maxHeartbeats 1000000 in
theorem k168 (H:Has tp) {v:Value} {l:List Int} {n0:Nat} {lim:Int} {h hb:TH} (O:OwnL encI n0 h v 3 l) (hl:l.length ≤ 12) (f:Free0 n0 h) (X:HX hb h) (hn:hb.next ≤ n0) :
  CallW Tryz.prog tp (.func (.func 168) #[] #[]) #[v,zi 0,zi l.length,zi lim] h fun _ h' => OwnL encI n0 h' v 3 (insL l l.length) ∧ HX hb h':=by
 refine CallW.fnL (H.fn 168 f168 rfl rfl) ?_
 refine WL.sr <| WOL.as rfl <| WOL.nil <| keep [(0,_),(1,_),(2,_)] ⟨rfl,rfl,rfl,trivial⟩ ?_
 refine WL.sr <| WOL.as rfl <| WOL.nil <| keep [(0,_),(1,_),(2,_)] ⟨rfl,rfl,rfl,trivial⟩ ?_
 refine WL.block ?_
 refine WL.loop (fun k a g => g = h ∧ Kn [(0,v),(1,zi 0),(2,zi l.length)] a) 0 (fun a q => ⟨rfl,q⟩) ?_
 rintro k a g ⟨rfl,q⟩
 refine q.go ?_
 refine WL.block ?_
 refine WL.sr <| WOL.mv rfl <| WOL.mv rfl <| WOL.sub rfl rfl (by omega) (by omega) <| WOL.as rfl <| WOL.nil <| keep [(0,_),(1,_),(2,_),(10,_)] ⟨rfl,rfl,rfl,rfl,trivial⟩ ?_
 refine WL.seq <| WL.sr <| WOL.mv rfl ?_
 refine WOL.bi (v:=.bool true) rfl rfl (by show some (Value.bool (decide (((l.length:Int) - 0) ≤ 12))) = _; rw [decide_eq_true (by omega)]) ?_
 refine WOL.nil <| keep [(0,_),(1,_),(2,_),(23,_)] ⟨rfl,rfl,rfl,rfl,trivial⟩ ?_
 refine WL.yes rfl <| WL.sr <| WOL.mv rfl <| WOL.mv rfl <| WOL.mv rfl ?_
 refine WOL.cl3 rfl rfl rfl rfl ((k177 H O hl f X hn).mono ?_)
 rintro w g' ⟨O2,X2⟩
 refine WOL.nil <| WL.ret ?_
 exact WL.end_ (vs:=[]) rfl ⟨O2,X2⟩
theorem WOL.si {P:Program} {tp:TProg} {h:TH} {K:Regs → TH → Prop} {rest:List TOper} {d:Option Tmp} {ty:TypeId} {i:Nat} {x y:Operand} {t:TypeId} {L:Rg} {s:ByteArray} {k:IntKind} {j:Nat} (hx:getL L x = some (.string s)) (hy:getL L y = some (.int k (j:Nat))) (hu:P.underlying t = some .string) (hj:j < s.size) (w:∀ a,Kn (putL L d (.int .u8 (s[j].toNat:Nat))) a → WO P tp rest a h K):∀ a,Kn L a → WO P tp (⟨d,.index t x y,ty,none,[],i⟩ :: rest) a h K:=fun a q => WO.si (q.o hx) (q.o hy) hu hj (w _ (q.put d _))
theorem WOL.cv {P:Program} {tp:TProg} {h:TH} {K:Regs → TH → Prop} {rest:List TOper} {d:Option Tmp} {ty:TypeId} {i:Nat} {x:Operand} {L:Rg} {s t:TypeId} {ds:TypeDesc} {k k':IntKind} {n:Int} (hs:P.underlying s = some ds) (ht:P.underlying t = some (.int k')) (hx:getL L x = some (.int k n)) (hw:k'.wrap n = n) (w:∀ a,Kn (putL L d (.int k' n)) a → WO P tp rest a h K):∀ a,Kn L a → WO P tp (⟨d,.convert s t x,ty,none,[],i⟩ :: rest) a h K:=fun a q => by
 refine WO.conv (q.o hx) rfl (conv_i2i hs ht) rfl ?_
 rw [hw]
 exact w _ (q.put d _)
theorem wrap_few {k:IntKind} {m:Nat} (h:m ≤ 3):k.wrap (m:Int) = m:=by
 obtain rfl | rfl | rfl | rfl:m = 0 ∨ m = 1 ∨ m = 2 ∨ m = 3:=by omega
 all_goals cases k <;> rfl
theorem u222:Tryz.prog.underlying 222 = some (.int .u64):=by kernel_rfl
theorem u228:Tryz.prog.underlying 228 = some (.int .u64):=by kernel_rfl
set_option maxRecDepth 100000 in
set_option maxHeartbeats 1000000 in
theorem k187 (H:Has tp) {m:Nat} (hm:m ≤ 3) (h:TH):CallW Tryz.prog tp (.func (.func 187) #[] #[]) #[.int .u64 (m:Nat)] h fun v h' => (∃ z,v = zi z) ∧ h' = h:=by
 refine CallW.fnL (H.fn 187 f187 rfl rfl) ?_
 have no:∀ c:Int,100 ≤ c → fastBin .geq (.int .u64 (m:Nat)) (.int .u64 c) = some (.bool false):=fun c hc => by
  show some (Value.bool (decide ((m:Int) ≥ c))) = _
  rw [decide_eq_false (by omega)]
 refine WL.sr <| WOL.as rfl <| WOL.nil <| keep [(0,_),(2,_)] ⟨rfl,rfl,trivial⟩ ?_
 refine WL.seq <| WL.sr <| WOL.mv rfl <| WOL.bi rfl rfl (no _ (by decide)) <| WOL.nil <| WL.no rfl <| WL.skip <| keep [(0,_),(2,_)] ⟨rfl,rfl,trivial⟩ ?_
 refine WL.seq <| WL.sr <| WOL.mv rfl <| WOL.bi rfl rfl (no _ (by decide)) <| WOL.nil <| WL.no rfl <| WL.skip <| keep [(0,_),(2,_)] ⟨rfl,rfl,trivial⟩ ?_
 refine WL.seq <| WL.sr <| WOL.mv rfl <| WOL.bi rfl rfl (no _ (by decide)) <| WOL.nil <| WL.no rfl <| WL.skip <| keep [(0,_),(2,_)] ⟨rfl,rfl,trivial⟩ ?_
 refine WL.sr <| WOL.mv rfl <| WOL.mv rfl ?_
 refine WOL.cv u222 u5 rfl (wrap_few hm) ?_
 refine WOL.si rfl rfl u9 (Nat.lt_of_lt_of_le (Nat.lt_succ_of_le hm) (Nat.le_of_ble_eq_true rfl)) ?_
 generalize hq:UInt8.toNat _ = q
 have hq2:q < 256:=by rw [← hq]; exact UInt8.toNat_lt _
 refine WOL.convU u5 u3 rfl (by omega) (by omega) ?_
 refine WOL.add rfl rfl (by omega) (by omega) ?_
 refine WOL.as rfl <| WOL.nil <| keep [(2,_)] ⟨rfl,trivial⟩ ?_
 exact WL.done rfl ⟨⟨_,rfl⟩,rfl⟩
theorem k169 (H:Has tp) {m:Nat} (hm:m ≤ 3) (h:TH):CallW Tryz.prog tp (.func (.func 169) #[] #[]) #[.int .u64 (m:Nat)] h fun v h' => (∃ z,v = zi z) ∧ h' = h:=by
 refine CallW.fnL (H.fn 169 f169 rfl rfl) ?_
 refine WL.sr <| WOL.as rfl <| WOL.nil <| keep [(0,_)] ⟨rfl,trivial⟩ ?_
 refine WL.seq <| WL.no rfl <| WL.skip ?_
 refine WL.sr <| WOL.mv rfl ?_
 refine WOL.cl1 rfl rfl ((k187 H hm h).mono ?_)
 rintro v g ⟨⟨z,rfl⟩,rfl⟩
 refine WOL.as rfl <| WOL.nil <| keep [(2,_)] ⟨rfl,trivial⟩ ?_
 exact WL.done rfl ⟨⟨_,rfl⟩,rfl⟩
theorem k150 (H:Has tp) {v:Value} {l:List Int} {n0:Nat} {h hb:TH} (O:OwnL encI n0 h v 3 l) (hl:l.length ≤ 3) (f:Free0 n0 h) (X:HX hb h) (hn:hb.next ≤ n0) :
  CallW Tryz.prog tp (.func (.func 150) #[] #[]) #[v] h fun _ h' => OwnL encI n0 h' v 3 (insL l l.length) ∧ HX hb h':=by
 refine CallW.fnL (H.fn 150 f150 rfl rfl) ?_
 refine WL.sr <| WOL.mv rfl <| WOL.len rfl (O.sl eI) u29 <| WOL.as rfl <| WOL.nil <| keep [(0,_),(2,_)] ⟨rfl,rfl,trivial⟩ ?_
 refine WL.reg <| WOL.mv rfl <| WOL.mv rfl <| WOL.mv rfl ?_
 refine WOL.cv u3 u228 rfl (wrap_few hl) ?_
 refine WOL.cl1 rfl rfl ((k169 H hl h).mono ?_)
 rintro w g ⟨⟨z,rfl⟩,rfl⟩
 refine WOL.cl4 rfl rfl rfl rfl rfl ((k168 H O (by omega) f X hn).mono ?_)
 rintro w g' ⟨O2,X2⟩
 exact WOL.nil <| WL.endn (vs:=[]) rfl ⟨O2,X2⟩
end Go.Tidy
namespace Go.Tidy
open Go Go.Proofs Tab
variable {tp:TProg}
section
variable {P:Program} {h:TH} {K:Regs → TH → Prop} {rest:List TOper} {d:Option Tmp} {ty:TypeId} {i:Nat} {x y z:Operand} {t u s:TypeId} {L:Rg}
theorem WOL.imin {m n:Int} (hx:getL L x = some (zi m)) (hy:getL L y = some (zi n)) (w:∀ a,Kn (putL L d (zi (min m n))) a → WO P tp rest a h K):∀ a,Kn L a → WO P tp (⟨d,.call ⟨.builtin .min,#[x,y],#[t,u]⟩,ty,none,[],i⟩ :: rest) a h K:=by
 intro a k
 have ex:=getO_eval (k.o hx)
 have ey:=getO_eval (k.o hy)
 have q:(if n < m then n else m) = min m n:=by rw [Int.min_def]; split <;> split <;> omega
 refine WO.plainly rfl rfl rfl rfl rfl (plainOp_of rfl (fun p hp => ?_) ?_ rfl) (w _ (k.put d _))
 ·simp only [Op.operands,Call.operands] at hp
  simp at hp
  rcases hp with rfl | rfl
  ·rw [ex]; rfl
  ·rw [ey]; rfl
 ·simp [toOper,execOp,resolve,invoke,builtin,Builtin.min_,Builtin.min2,pv_bind,pv_map,pv_pure,ex,ey,q]
theorem WOL.imax {m n:Int} (hx:getL L x = some (zi m)) (hy:getL L y = some (zi n)) (w:∀ a,Kn (putL L d (zi (max m n))) a → WO P tp rest a h K):∀ a,Kn L a → WO P tp (⟨d,.call ⟨.builtin .max,#[x,y],#[t,u]⟩,ty,none,[],i⟩ :: rest) a h K:=by
 intro a k
 have ex:=getO_eval (k.o hx)
 have ey:=getO_eval (k.o hy)
 have q:(if m < n then n else m) = max m n:=by rw [Int.max_def]; split <;> split <;> omega
 refine WO.plainly rfl rfl rfl rfl rfl (plainOp_of rfl (fun p hp => ?_) ?_ rfl) (w _ (k.put d _))
 ·simp only [Op.operands,Call.operands] at hp
  simp at hp
  rcases hp with rfl | rfl
  ·rw [ex]; rfl
  ·rw [ey]; rfl
 ·simp [toOper,execOp,resolve,invoke,builtin,Builtin.max_,Builtin.max2,pv_bind,pv_map,pv_pure,ex,ey,q]
end
def voteS (m:Int):List Int → Int × Bool
 | [a,b,c] => if min (b - a) (c - b) ≤ m then (b,true) else (0,false)
 | [a,b] => if b - a ≤ m then (rnd (a + b) 2,true) else (0,false)
 | _ => (0,false)
def voteC (m:Int) (C:List (Int × Bool)):Int × Bool:=voteS m (insL (knownV C) (knownV C).length)
theorem knownV_le (C:List (Int × Bool)):(knownV C).length ≤ C.length:=by
 unfold knownV
 rw [List.length_map]
 exact List.length_filter_le _ _
theorem knownV_all {p:Int → Prop} {C:List (Int × Bool)} (h:∀ c,c ∈ C → p c.1):∀ x,x ∈ knownV C → p x:=by
 intro x hx
 unfold knownV at hx
 obtain ⟨c,h1,rfl⟩:=List.mem_map.1 hx
 exact h c (List.mem_filter.1 h1).1
set_option maxHeartbeats 4000000 in
set_option maxRecDepth 10000 in
theorem k112 (H:Has tp) {m:Int} {v:Value} {C:List (Int × Bool)} {h:TH} (s:SlL encC 2 h v C) (hC:C.length ≤ 3) (hS:∀ c,c ∈ C → c.1.natAbs ≤ 16384) (f:Free0 h.next h) :
  CallW Tryz.prog tp (.func (.func 112) #[] #[]) #[zi m,v] h fun v' h' => v' = .agg #[zi (voteC m C).1,.bool (voteC m C).2] ∧ HX h h':=by
 refine CallW.fnL (H.fn 112 f112 rfl rfl) ?_
 refine WL.sr <| WOL.al tp134 fun h1 N1 => WOL.nil <| keep [(0,_),(1,_),(4,_)] ⟨rfl,rfl,rfl,trivial⟩ ?_
 refine WL.sr <| WOL.mv rfl ?_
 refine WOL.cl1 rfl rfl ((k88 H (s.hx N1.hx) (by omega) (f.on N1.hx)).mono ?_)
 rintro v2 h2 ⟨O2,X2⟩
 refine WOL.as rfl <| WOL.nil <| keep [(0,_),(4,_),(5,_)] ⟨rfl,rfl,rfl,trivial⟩ ?_
 have kl:=knownV_le C
 refine WL.sr <| WOL.mv rfl ?_
 refine WOL.cl1 rfl rfl ((k150 H O2 (by omega) ((f.on N1.hx).hx X2) X2 (Nat.le_refl _)).mono ?_)
 rintro v3 h3 ⟨O3,X3⟩
 refine WOL.nil <| keep [(0,_),(4,_),(5,_)] ⟨rfl,rfl,rfl,trivial⟩ ?_
 have hb:∀ x,x ∈ insL (knownV C) (knownV C).length → x.natAbs ≤ 16384:=insL_all (p:=fun x => x.natAbs ≤ 16384) (knownV_all (p:=fun x => x.natAbs ≤ 16384) hS) _ (Nat.le_refl _)
 have hl:(insL (knownV C) (knownV C).length).length ≤ 3:=by rw [insL_len]; omega
 unfold voteC
 generalize insL (knownV C) (knownV C).length = S at *
 have Y3:=N1.hx.trans X3
 have A4:=N1.at_.hx X3
 have put:∀ (x:Int) (b:Bool),(x,b) = voteS m S → ∀ h4,Put h3 h4 h.next (.cells [zi x,.bool b] true true 134) → (loadT Tryz.prog 134 (.pointer (some ⟨h.next,0,none⟩)) h4 = some (.agg #[zi x,.bool b])) ∧ (Value.agg #[zi x,.bool b] = .agg #[zi (voteS m S).1,.bool (voteS m S).2] ∧ HX h h4):=by
  intro x b e h4 P4
  refine ⟨load_row tp134 P4.at_ rfl (Nat.le_of_ble_eq_true rfl),?_,P4.hx _ Y3 (Nat.le_refl _)⟩
  rw [← e]
 have zero:(0,false) = voteS m S → ∀ a,Kn [(4,ptr h.next)] a → W Tryz.prog tp false (.seq (.reg r112_7) .ret) a h3 (Fin Tryz.prog [.cell 4 134] fun v' h' => v' = .agg #[zi (voteS m S).1,.bool (voteS m S).2] ∧ HX h h'):=by
  intro e
  refine WL.sr <| WOL.bd rfl bd134z ?_
  refine WOL.sto rfl rfl tp134 A4 rfl rfl (Nat.le_of_ble_eq_true rfl) rfl (f.hx Y3) (Nat.le_refl _) fun h4 P4 => ?_
  refine WOL.nil ?_
  obtain ⟨q1,q2⟩:=put _ _ e _ P4
  exact WL.ret (WL.endC rfl q1 q2)
 match S,hl,hb,O3 with
 | [],_,_,O3 =>
  refine WL.seq <| WL.block ?_
  refine WL.sr <| WOL.mv rfl <| WOL.len rfl (O3.sl eI) u29 <| WOL.bi (v:=.bool false) rfl rfl rfl <| WOL.mv rfl ?_
  refine WOL.skp (b:=false) rfl rfl <| WOL.skp (b:=false) rfl rfl <| WOL.skp (b:=false) rfl rfl <| WOL.skp (b:=false) rfl rfl <| WOL.skp (b:=false) rfl rfl <| WOL.skp (b:=false) rfl rfl <| WOL.skp (b:=false) rfl rfl <| WOL.skp (b:=false) rfl rfl <| WOL.skp (b:=false) rfl rfl <| WOL.skp (b:=false) rfl rfl <| WOL.skp (b:=false) rfl rfl <| WOL.skp (b:=false) rfl rfl <| WOL.skp (b:=false) rfl rfl <| WOL.skp (b:=false) rfl rfl <| WOL.skp (b:=false) rfl rfl <| WOL.skp (b:=false) rfl rfl <| WOL.skp (b:=false) rfl rfl ?_
  refine WOL.pkf rfl rfl <| WOL.as rfl <| WOL.nil <| keep [(0,_),(4,_),(5,_),(10,_)] ⟨rfl,rfl,rfl,rfl,trivial⟩ ?_
  refine WL.no rfl ?_
  refine WL.sr <| WOL.mv rfl <| WOL.len rfl (O3.sl eI) u29 <| WOL.bi (v:=.bool false) rfl rfl rfl <| WOL.mv rfl ?_
  refine WOL.skp (b:=false) rfl rfl <| WOL.skp (b:=false) rfl rfl <| WOL.skp (b:=false) rfl rfl <| WOL.skp (b:=false) rfl rfl <| WOL.skp (b:=false) rfl rfl <| WOL.skp (b:=false) rfl rfl <| WOL.skp (b:=false) rfl rfl <| WOL.skp (b:=false) rfl rfl <| WOL.skp (b:=false) rfl rfl ?_
  refine WOL.pkf rfl rfl <| WOL.as rfl <| WOL.nil <| keep [(0,_),(4,_),(5,_),(37,_)] ⟨rfl,rfl,rfl,rfl,trivial⟩ ?_
  refine WL.no rfl <| WL.skip ?_
  exact kto (zero rfl) ⟨rfl,trivial⟩
 | [p],_,_,O3 =>
  refine WL.seq <| WL.block ?_
  refine WL.sr <| WOL.mv rfl <| WOL.len rfl (O3.sl eI) u29 <| WOL.bi (v:=.bool false) rfl rfl rfl <| WOL.mv rfl ?_
  refine WOL.skp (b:=false) rfl rfl <| WOL.skp (b:=false) rfl rfl <| WOL.skp (b:=false) rfl rfl <| WOL.skp (b:=false) rfl rfl <| WOL.skp (b:=false) rfl rfl <| WOL.skp (b:=false) rfl rfl <| WOL.skp (b:=false) rfl rfl <| WOL.skp (b:=false) rfl rfl <| WOL.skp (b:=false) rfl rfl <| WOL.skp (b:=false) rfl rfl <| WOL.skp (b:=false) rfl rfl <| WOL.skp (b:=false) rfl rfl <| WOL.skp (b:=false) rfl rfl <| WOL.skp (b:=false) rfl rfl <| WOL.skp (b:=false) rfl rfl <| WOL.skp (b:=false) rfl rfl <| WOL.skp (b:=false) rfl rfl ?_
  refine WOL.pkf rfl rfl <| WOL.as rfl <| WOL.nil <| keep [(0,_),(4,_),(5,_),(10,_)] ⟨rfl,rfl,rfl,rfl,trivial⟩ ?_
  refine WL.no rfl ?_
  refine WL.sr <| WOL.mv rfl <| WOL.len rfl (O3.sl eI) u29 <| WOL.bi (v:=.bool false) rfl rfl rfl <| WOL.mv rfl ?_
  refine WOL.skp (b:=false) rfl rfl <| WOL.skp (b:=false) rfl rfl <| WOL.skp (b:=false) rfl rfl <| WOL.skp (b:=false) rfl rfl <| WOL.skp (b:=false) rfl rfl <| WOL.skp (b:=false) rfl rfl <| WOL.skp (b:=false) rfl rfl <| WOL.skp (b:=false) rfl rfl <| WOL.skp (b:=false) rfl rfl ?_
  refine WOL.pkf rfl rfl <| WOL.as rfl <| WOL.nil <| keep [(0,_),(4,_),(5,_),(37,_)] ⟨rfl,rfl,rfl,rfl,trivial⟩ ?_
  refine WL.no rfl <| WL.skip ?_
  exact kto (zero rfl) ⟨rfl,trivial⟩
 | [p,q],_,hb,O3 =>
  have b1:=hb p (by simp)
  have b2:=hb q (by simp)
  obtain ⟨c0,o0,cc0,fix0,wr0,el0,d1,d2,d3,d4,d5⟩:=(O3.sl eI).at eI u29 tp3 (j:=0) rfl .i64
  obtain ⟨c1,o1,cc1,fix1,wr1,el1,e1,e2,e3,e4,e5⟩:=(O3.sl eI).at eI u29 tp3 (j:=1) rfl .i64
  refine WL.seq <| WL.block ?_
  refine WL.sr <| WOL.mv rfl <| WOL.len rfl (O3.sl eI) u29 <| WOL.bi (v:=.bool false) rfl rfl rfl <| WOL.mv rfl ?_
  refine WOL.skp (b:=false) rfl rfl <| WOL.skp (b:=false) rfl rfl <| WOL.skp (b:=false) rfl rfl <| WOL.skp (b:=false) rfl rfl <| WOL.skp (b:=false) rfl rfl <| WOL.skp (b:=false) rfl rfl <| WOL.skp (b:=false) rfl rfl <| WOL.skp (b:=false) rfl rfl <| WOL.skp (b:=false) rfl rfl <| WOL.skp (b:=false) rfl rfl <| WOL.skp (b:=false) rfl rfl <| WOL.skp (b:=false) rfl rfl <| WOL.skp (b:=false) rfl rfl <| WOL.skp (b:=false) rfl rfl <| WOL.skp (b:=false) rfl rfl <| WOL.skp (b:=false) rfl rfl <| WOL.skp (b:=false) rfl rfl ?_
  refine WOL.pkf rfl rfl <| WOL.as rfl <| WOL.nil <| keep [(0,_),(4,_),(5,_),(10,_)] ⟨rfl,rfl,rfl,rfl,trivial⟩ ?_
  refine WL.no rfl ?_
  refine WL.sr <| WOL.mv rfl <| WOL.len rfl (O3.sl eI) u29 <| WOL.bi (v:=.bool true) rfl rfl rfl <| WOL.mv rfl ?_
  refine WOL.now (b:=true) rfl rfl <| WOL.mv rfl <| WOL.now (b:=true) rfl rfl <| WOL.ix rfl rfl e1 <| WOL.now (b:=true) rfl rfl ?_
  refine WOL.ld rfl (load_one tp3 e2 (e5 0 (by decide))) <| WOL.now (b:=true) rfl rfl ?_
  refine WOL.mv rfl <| WOL.now (b:=true) rfl rfl <| WOL.ix rfl rfl d1 <| WOL.now (b:=true) rfl rfl ?_
  refine WOL.ld rfl (load_one tp3 d2 (d5 0 (by decide))) <| WOL.now (b:=true) rfl rfl ?_
  refine WOL.sub rfl rfl (by omega) (by omega) <| WOL.now (b:=true) rfl rfl <| WOL.mv rfl <| WOL.now (b:=true) rfl rfl ?_
  refine WOL.bi (v:=.bool (decide (q - p ≤ m))) rfl rfl rfl <| WOL.pkt rfl rfl <| WOL.as rfl <| WOL.nil <| keep [(0,_),(4,_),(5,_),(37,_)] ⟨rfl,rfl,rfl,rfl,trivial⟩ ?_
  by_cases hq:q - p ≤ m
  ·rw [decide_eq_true hq]
   refine WL.yes rfl ?_
   refine WL.sr <| WOL.mv rfl <| WOL.ix rfl rfl d1 ?_
   refine WOL.ld rfl (load_one tp3 d2 (d5 0 (by decide))) ?_
   refine WOL.mv rfl <| WOL.ix rfl rfl e1 ?_
   refine WOL.ld rfl (load_one tp3 e2 (e5 0 (by decide))) ?_
   refine WOL.add rfl rfl (by omega) (by omega) ?_
   refine WOL.cl2 rfl rfl rfl ((k103 H (a:=p + q) (b:=2) (by omega) (by decide) (by decide)).mono ?_)
   rintro w g ⟨rfl,rfl⟩
   refine WOL.bd rfl bd134 ?_
   refine WOL.sto rfl rfl tp134 A4 rfl rfl (Nat.le_of_ble_eq_true rfl) rfl (f.hx Y3) (Nat.le_refl _) fun h4 P4 => ?_
   refine WOL.nil <| WL.ret ?_
   obtain ⟨q1,q2⟩:=put (rnd (p + q) 2) true (by show _ = (if q - p ≤ m then (rnd (p + q) 2,true) else (0,false)); rw [if_pos hq]) _ P4
   exact WL.endC rfl q1 q2
  ·rw [decide_eq_false hq]
   refine WL.no rfl <| WL.skip ?_
   exact kto (zero (by show _ = (if q - p ≤ m then (rnd (p + q) 2,true) else (0,false)); rw [if_neg hq])) ⟨rfl,trivial⟩
 | [p,q,r],_,hb,O3 =>
  have b1:=hb p (by simp)
  have b2:=hb q (by simp)
  have b3:=hb r (by simp)
  obtain ⟨c0,o0,cc0,fix0,wr0,el0,d1,d2,d3,d4,d5⟩:=(O3.sl eI).at eI u29 tp3 (j:=0) rfl .i64
  obtain ⟨c1,o1,cc1,fix1,wr1,el1,e1,e2,e3,e4,e5⟩:=(O3.sl eI).at eI u29 tp3 (j:=1) rfl .i64
  obtain ⟨c2,o2,cc2,fix2,wr2,el2,g1,g2,g3,g4,g5⟩:=(O3.sl eI).at eI u29 tp3 (j:=2) rfl .i64
  refine WL.seq <| WL.block ?_
  refine WL.sr <| WOL.mv rfl <| WOL.len rfl (O3.sl eI) u29 <| WOL.bi (v:=.bool true) rfl rfl rfl <| WOL.mv rfl ?_
  refine WOL.now (b:=true) rfl rfl <| WOL.mv rfl <| WOL.now (b:=true) rfl rfl <| WOL.ix rfl rfl e1 <| WOL.now (b:=true) rfl rfl ?_
  refine WOL.ld rfl (load_one tp3 e2 (e5 0 (by decide))) <| WOL.now (b:=true) rfl rfl ?_
  refine WOL.mv rfl <| WOL.now (b:=true) rfl rfl <| WOL.ix rfl rfl d1 <| WOL.now (b:=true) rfl rfl ?_
  refine WOL.ld rfl (load_one tp3 d2 (d5 0 (by decide))) <| WOL.now (b:=true) rfl rfl ?_
  refine WOL.sub rfl rfl (by omega) (by omega) <| WOL.now (b:=true) rfl rfl <| WOL.mv rfl <| WOL.now (b:=true) rfl rfl ?_
  refine WOL.ix rfl rfl g1 <| WOL.now (b:=true) rfl rfl ?_
  refine WOL.ld rfl (load_one tp3 g2 (g5 0 (by decide))) <| WOL.now (b:=true) rfl rfl ?_
  refine WOL.mv rfl <| WOL.now (b:=true) rfl rfl <| WOL.ix rfl rfl e1 <| WOL.now (b:=true) rfl rfl ?_
  refine WOL.ld rfl (load_one tp3 e2 (e5 0 (by decide))) <| WOL.now (b:=true) rfl rfl ?_
  refine WOL.sub rfl rfl (by omega) (by omega) <| WOL.now (b:=true) rfl rfl ?_
  refine WOL.imin rfl rfl <| WOL.now (b:=true) rfl rfl <| WOL.mv rfl <| WOL.now (b:=true) rfl rfl ?_
  refine WOL.bi (v:=.bool (decide (min (q - p) (r - q) ≤ m))) rfl rfl rfl <| WOL.pkt rfl rfl <| WOL.as rfl <| WOL.nil <| keep [(0,_),(4,_),(5,_),(10,_)] ⟨rfl,rfl,rfl,rfl,trivial⟩ ?_
  by_cases hq:min (q - p) (r - q) ≤ m
  ·rw [decide_eq_true hq]
   refine WL.yes rfl ?_
   refine WL.sr <| WOL.mv rfl <| WOL.ix rfl rfl e1 ?_
   refine WOL.ld rfl (load_one tp3 e2 (e5 0 (by decide))) ?_
   refine WOL.bd rfl bd134 ?_
   refine WOL.sto rfl rfl tp134 A4 rfl rfl (Nat.le_of_ble_eq_true rfl) rfl (f.hx Y3) (Nat.le_refl _) fun h4 P4 => ?_
   refine WOL.nil <| WL.ret ?_
   obtain ⟨q1,q2⟩:=put q true (by show _ = (if min (q - p) (r - q) ≤ m then (q,true) else (0,false)); rw [if_pos hq]) _ P4
   exact WL.endC rfl q1 q2
  ·rw [decide_eq_false hq]
   refine WL.no rfl ?_
   refine WL.sr <| WOL.mv rfl <| WOL.len rfl (O3.sl eI) u29 <| WOL.bi (v:=.bool false) rfl rfl rfl <| WOL.mv rfl ?_
   refine WOL.skp (b:=false) rfl rfl <| WOL.skp (b:=false) rfl rfl <| WOL.skp (b:=false) rfl rfl <| WOL.skp (b:=false) rfl rfl <| WOL.skp (b:=false) rfl rfl <| WOL.skp (b:=false) rfl rfl <| WOL.skp (b:=false) rfl rfl <| WOL.skp (b:=false) rfl rfl <| WOL.skp (b:=false) rfl rfl ?_
   refine WOL.pkf rfl rfl <| WOL.as rfl <| WOL.nil <| keep [(0,_),(4,_),(5,_),(37,_)] ⟨rfl,rfl,rfl,rfl,trivial⟩ ?_
   refine WL.no rfl <| WL.skip ?_
   exact kto (zero (by show _ = (if min (q - p) (r - q) ≤ m then (q,true) else (0,false)); rw [if_neg hq])) ⟨rfl,trivial⟩
 | p :: q :: r :: t :: S,hl,_,_ => simp at hl
def wrongB (m:Int) (c v:Int × Bool):Bool:=c.2 && v.2 && decide (max (c.1 - v.1) (v.1 - c.1) > m)
set_option maxHeartbeats 1000000 in
set_option maxRecDepth 10000 in
theorem k113 (H:Has tp) {m x n:Int} {p q:Bool} {h:TH} (hx:x.natAbs ≤ 16384) (hn:n.natAbs ≤ 16384) :
  CallW Tryz.prog tp (.func (.func 113) #[] #[]) #[.agg #[zi x,.bool p],.agg #[zi n,.bool q],zi m] h fun v h' => v = .bool (wrongB m (x,p) (n,q)) ∧ HX h h':=by
 refine CallW.fnL (H.fn 113 f113 rfl rfl) ?_
 refine WL.sr <| WOL.box rfl fun h1 N1 => WOL.box rfl fun h2 N2 => WOL.as rfl <| WOL.nil <| keep [(2,_),(3,_),(4,_)] ⟨rfl,rfl,rfl,trivial⟩ ?_
 have A3:=N1.at_.hx N2.hx
 have A4:=N2.at_
 have X2:=N1.hx.trans N2.hx
 refine WL.sr <| WOL.fa rfl (fa_of fo134_1) ?_
 refine WOL.ld rfl (load_one tp4 A3 rfl) <| WOL.mv rfl ?_
 cases p with
 | false =>
  refine WOL.skp (b:=false) rfl rfl <| WOL.skp (b:=false) rfl rfl <| WOL.pkf rfl rfl <| WOL.mv rfl ?_
  refine WOL.skp (b:=false) rfl rfl <| WOL.skp (b:=false) rfl rfl <| WOL.skp (b:=false) rfl rfl <| WOL.skp (b:=false) rfl rfl <| WOL.skp (b:=false) rfl rfl <| WOL.skp (b:=false) rfl rfl <| WOL.skp (b:=false) rfl rfl <| WOL.skp (b:=false) rfl rfl <| WOL.skp (b:=false) rfl rfl <| WOL.skp (b:=false) rfl rfl <| WOL.skp (b:=false) rfl rfl <| WOL.skp (b:=false) rfl rfl <| WOL.skp (b:=false) rfl rfl ?_
  refine WOL.pkf rfl rfl <| WOL.as rfl <| WOL.nil <| keep [(6,_)] ⟨rfl,trivial⟩ ?_
  exact WL.done rfl ⟨rfl,X2⟩
 | true =>
  refine WOL.now (b:=true) rfl rfl <| WOL.fa rfl (fa_of fo134_1) <| WOL.now (b:=true) rfl rfl ?_
  refine WOL.ld rfl (load_one tp4 A4 rfl) <| WOL.pkt rfl rfl <| WOL.mv rfl ?_
  cases q with
  | false =>
   refine WOL.skp (b:=false) rfl rfl <| WOL.skp (b:=false) rfl rfl <| WOL.skp (b:=false) rfl rfl <| WOL.skp (b:=false) rfl rfl <| WOL.skp (b:=false) rfl rfl <| WOL.skp (b:=false) rfl rfl <| WOL.skp (b:=false) rfl rfl <| WOL.skp (b:=false) rfl rfl <| WOL.skp (b:=false) rfl rfl <| WOL.skp (b:=false) rfl rfl <| WOL.skp (b:=false) rfl rfl <| WOL.skp (b:=false) rfl rfl <| WOL.skp (b:=false) rfl rfl ?_
   refine WOL.pkf rfl rfl <| WOL.as rfl <| WOL.nil <| keep [(6,_)] ⟨rfl,trivial⟩ ?_
   exact WL.done rfl ⟨rfl,X2⟩
  | true =>
   refine WOL.now (b:=true) rfl rfl <| WOL.fa rfl (fa_of fo134_0) <| WOL.now (b:=true) rfl rfl ?_
   refine WOL.ld rfl (load_one tp3 A3 rfl) <| WOL.now (b:=true) rfl rfl ?_
   refine WOL.fa rfl (fa_of fo134_0) <| WOL.now (b:=true) rfl rfl ?_
   refine WOL.ld rfl (load_one tp3 A4 rfl) <| WOL.now (b:=true) rfl rfl ?_
   refine WOL.sub rfl rfl (by omega) (by omega) <| WOL.now (b:=true) rfl rfl ?_
   refine WOL.fa rfl (fa_of fo134_0) <| WOL.now (b:=true) rfl rfl ?_
   refine WOL.ld rfl (load_one tp3 A4 rfl) <| WOL.now (b:=true) rfl rfl ?_
   refine WOL.fa rfl (fa_of fo134_0) <| WOL.now (b:=true) rfl rfl ?_
   refine WOL.ld rfl (load_one tp3 A3 rfl) <| WOL.now (b:=true) rfl rfl ?_
   refine WOL.sub rfl rfl (by omega) (by omega) <| WOL.now (b:=true) rfl rfl ?_
   refine WOL.imax rfl rfl <| WOL.now (b:=true) rfl rfl <| WOL.mv rfl <| WOL.now (b:=true) rfl rfl ?_
   refine WOL.bi (v:=.bool (decide (max (x - n) (n - x) > m))) rfl rfl rfl <| WOL.pkt rfl rfl <| WOL.as rfl <| WOL.nil <| keep [(6,_)] ⟨rfl,trivial⟩ ?_
   refine WL.done rfl ⟨?_,X2⟩
   unfold wrongB
   simp
   rfl
end Go.Tidy
namespace Go.Tidy
open Go Go.Proofs Tab
variable {tp:TProg}
theorem pv_q0 (a b c:Int):pv Tryz.prog (Go.part 3 #[.int .i64 a,.int .i64 b,.int .i64 c] 0) = some (.int .i64 a):=by kernel_rfl
theorem pv_q1 (a b c:Int):pv Tryz.prog (Go.part 3 #[.int .i64 a,.int .i64 b,.int .i64 c] 1) = some (.int .i64 b):=by kernel_rfl
theorem pv_q2 (a b c:Int):pv Tryz.prog (Go.part 3 #[.int .i64 a,.int .i64 b,.int .i64 c] 2) = some (.int .i64 c):=by kernel_rfl
theorem u83:Tryz.prog.underlying 83 = some (.array 3 3):=by kernel_rfl
theorem pv_s3:pv Tryz.prog (sizeOf 3) = some 1:=by kernel_rfl
theorem pv_eq83 (a b c:Int):pv Tryz.prog (Op.equal 83 (.agg #[.int .i64 a,.int .i64 b,.int .i64 c]) (.agg #[.int .i64 a,.int .i64 b,.int .i64 c])) = some true:=by
 show pv Tryz.prog (Op.equalIn (9999 + 1) 83 _ _) = _
 rw [Op.equalIn,pv_bind,pv_underlying u83,Option.bind_some]
 simp only [Std.Legacy.Range.forIn_eq_forIn_range',Std.Legacy.Range.size,pv_bind,pv_s3,Option.bind_some,List.range',List.forIn_cons,List.forIn_nil]
 have e:∀ c:Int,pv Tryz.prog (Op.equalIn 9999 3 (.int .i64 c) (.int .i64 c)) = some true:=fun c => by rw [pv_eq3 c c 9998]; simp
 simp [pv_bind,pv_q0,pv_q1,pv_q2,e,pv_pure]
def midV (a b c:Int):Int:=a + b + c - min (min a b) c - max (max a b) c
def voteR (m:Int):List Int → Int × Bool
 | [a,b] => (rnd (a + b) 2,decide (max (a - b) (b - a) ≤ m))
 | [a,b,c] => (midV a b c,decide (midV a b c - min (min a b) c ≤ m) || decide (max (max a b) c - midV a b c ≤ m))
 | _ => (0,false)
theorem ins2 (a b:Int):insL [a,b] 2 = if b < a then [b,a] else [a,b]:=by
 by_cases h:b < a <;> simp [insL,down,h]
theorem ins3 (a b c:Int):insL [a,b,c] 3 = if b < a then (if c < a then (if c < b then [c,b,a] else [b,c,a]) else [b,a,c]) else (if c < b then (if c < a then [c,a,b] else [a,c,b]) else [a,b,c]):=by
 by_cases h1:b < a <;> by_cases h2:c < a <;> by_cases h3:c < b <;> first | omega | simp [insL,down,h1,h2,h3]
theorem vote_join (m:Int):∀ l:List Int,l.length ≤ 3 → voteS m (insL l l.length) = cond (voteR m l).2 ((voteR m l).1,true) (0,false)
  | [],_ => rfl
  | [_],_ => rfl
  | [a,b],_ => by
    show voteS m (insL [a,b] 2) = _
    rw [ins2]
    unfold voteR
    by_cases h:b < a
    · rw [if_pos h]
      simp only [voteS]
      rw [Int.max_eq_left (by omega),Int.add_comm b a]
      by_cases h2:a - b ≤ m
      · rw [if_pos h2,decide_eq_true h2]; rfl
      · rw [if_neg h2,decide_eq_false h2]; rfl
    · rw [if_neg h]
      simp only [voteS]
      rw [Int.max_eq_right (by omega)]
      by_cases h2:b - a ≤ m
      · rw [if_pos h2,decide_eq_true h2]; rfl
      · rw [if_neg h2,decide_eq_false h2]; rfl
  | [a, b, c], _ => by
    show voteS m (insL [a,b,c] 3) = _
    rw [ins3]
    have key:∀ x y z:Int,x ≤ y → y ≤ z → min (min a b) c = x → max (max a b) c = z → a + b + c = x + y + z → voteS m [x,y,z] = cond (voteR m [a,b,c]).2 ((voteR m [a,b,c]).1,true) (0,false):=by
      intro x y z h1 h2 h3 h4 h5
      have hm:midV a b c = y:=by unfold midV; omega
      simp only [voteS,voteR]
      rw [hm,h3,h4]
      by_cases g1:y - x ≤ m
      · rw [decide_eq_true g1,if_pos (by omega)]; rfl
      · by_cases g2:z - y ≤ m
        · rw [decide_eq_false g1,decide_eq_true g2,if_pos (by omega)]; rfl
        · rw [decide_eq_false g1,decide_eq_false g2,if_neg (by omega)]; rfl
    split
    · split
      · split
        · exact key _ _ _ (by omega) (by omega) (by omega) (by omega) (by omega)
        · exact key _ _ _ (by omega) (by omega) (by omega) (by omega) (by omega)
      · exact key _ _ _ (by omega) (by omega) (by omega) (by omega) (by omega)
    · split
      · split
        · exact key _ _ _ (by omega) (by omega) (by omega) (by omega) (by omega)
        · exact key _ _ _ (by omega) (by omega) (by omega) (by omega) (by omega)
      · exact key _ _ _ (by omega) (by omega) (by omega) (by omega) (by omega)
  | _ :: _ :: _ :: _ :: _,h => by simp at h
end Go.Tidy
namespace Go.Tidy
open Go Go.Proofs Tab
variable {tp:TProg}
def cellD (C:Nat → List (Int × Bool)) (k i:Nat):Int × Bool:=(C k).getD i (0,false)
def voteA (m:Int) (C:Nat → List (Int × Bool)) (i:Nat):Int × Bool:=voteC m [cellD C 0 i,cellD C 1 i,cellD C 2 i]
def wrN (m:Int) (C:Nat → List (Int × Bool)):Nat → Nat → Int
 | 0,_ => 0
 | i + 1,k => wrN m C i k + cond (wrongB m (cellD C k i) (voteA m C i)) 1 0
def pwR (m:Int) (C:Nat → List (Int × Bool)) (i k j:Nat):Int:=if j < k then wrN m C (i + 1) j else wrN m C i j
def cel3 (w:Nat → Int):List Value:=[zi (w 0),zi (w 1),zi (w 2)]
section
variable {m:Int} {C:Nat → List (Int × Bool)}
theorem wrN_le:∀ i k,0 ≤ wrN m C i k ∧ wrN m C i k ≤ i
 | 0,_ => by unfold wrN; omega
 | i + 1,k => by
  have:=wrN_le i k
  unfold wrN
  cases wrongB m (cellD C k i) (voteA m C i) <;> simp <;> omega
theorem pw_same {i k:Nat} (h:wrongB m (cellD C k i) (voteA m C i) = false):pwR m C i (k + 1) = pwR m C i k:=by
 funext j
 unfold pwR
 by_cases h1:j < k
 ·rw [if_pos (by omega),if_pos h1]
 ·by_cases h2:j = k
  ·subst h2
   rw [if_pos (by omega),if_neg h1]
   show wrN m C i j + cond (wrongB m (cellD C j i) (voteA m C i)) 1 0 = _
   rw [h]; simp
  ·rw [if_neg (by omega),if_neg h1]
theorem pw_at (i k:Nat):pwR m C i k k = wrN m C i k:=by unfold pwR; rw [if_neg (by omega)]
theorem pw_next {i k:Nat} (h:wrongB m (cellD C k i) (voteA m C i) = true) (hk:k < 3):splice (cel3 (pwR m C i k)) k [zi (wrN m C i k + 1)] = cel3 (pwR m C i (k + 1)):=by
 have e:wrN m C (i + 1) k = wrN m C i k + 1:=by
  show wrN m C i k + cond (wrongB m (cellD C k i) (voteA m C i)) 1 0 = _
  rw [h]; rfl
 rw [← e]
 obtain rfl | rfl | rfl:k = 0 ∨ k = 1 ∨ k = 2:=by omega
 all_goals rfl
theorem cells3_get {w:Nat → Int} {k:Nat} (hk:k < 3):(cel3 w)[k]? = some (zi (w k)):=by
 obtain rfl | rfl | rfl:k = 0 ∨ k = 1 ∨ k = 2:=by omega
 all_goals rfl
theorem cellD_get {k i:Nat} (h:i < (C k).length):(C k)[i]? = some (cellD C k i):=by
 unfold cellD
 rw [List.getD_eq_getElem?_getD,List.getElem?_eq_getElem h]; rfl
theorem cellD_lim (lim:∀ k c,c ∈ C k → c.1.natAbs ≤ 16384) (k i:Nat):(cellD C k i).1.natAbs ≤ 16384:=by
 unfold cellD
 rw [List.getD_eq_getElem?_getD]
 cases hi:(C k)[i]? with
 | none => decide
 | some x => exact lim k x (List.mem_of_getElem? hi)
theorem voteS_lim:∀ {S:List Int},(∀ x,x ∈ S → x.natAbs ≤ 16384) → (voteS m S).1.natAbs ≤ 16384
 | [],_ => by show (0:Int).natAbs ≤ _; decide
 | [a],_ => by show (0:Int).natAbs ≤ _; decide
 | [a,b],h => by
  have h1:=h a (by simp)
  have h2:=h b (by simp)
  simp only [voteS]
  split
  ·show (rnd (a + b) 2).natAbs ≤ _
   unfold rnd
   omega
  ·decide
 | [a,b,c],h => by
  have h2:=h b (by simp)
  simp only [voteS]
  split
  ·exact h2
  ·decide
 | a :: b :: c :: d :: S,_ => by show (0:Int).natAbs ≤ _; decide
theorem voteC_lim {D:List (Int × Bool)} (h:∀ c,c ∈ D → c.1.natAbs ≤ 16384):(voteC m D).1.natAbs ≤ 16384:=by
 unfold voteC
 exact voteS_lim (insL_all (p:=fun x => x.natAbs ≤ 16384) (knownV_all (p:=fun x => x.natAbs ≤ 16384) h) _ (Nat.le_refl _))
theorem row_lim (lim:∀ k c,c ∈ C k → c.1.natAbs ≤ 16384) (i:Nat):∀ c,c ∈ [cellD C 0 i,cellD C 1 i,cellD C 2 i] → c.1.natAbs ≤ 16384:=by
 intro c hc
 simp at hc
 rcases hc with rfl | rfl | rfl <;> exact cellD_lim lim _ _
theorem voteA_lim (lim:∀ k c,c ∈ C k → c.1.natAbs ≤ 16384) (i:Nat):(voteA m C i).1.natAbs ≤ 16384:=voteC_lim (row_lim lim i)
end
theorem tp158:Tp Tryz.prog 158 3 [.slice none 0 0,.slice none 0 0,.slice none 0 0] true:=tp_of (by kernel_rfl) (by kernel_rfl) rfl
theorem tp83:Tp Tryz.prog 83 3 [.int .i64 0,.int .i64 0,.int .i64 0] true:=tp_of (by kernel_rfl) (by kernel_rfl) rfl
theorem ix158 {c k:Nat} (hk:k < 3):indexAddrT Tryz.prog 158 (.pointer (some ⟨c,0,none⟩)) (zi (k:Nat)) = some (.pointer (some ⟨c,k,none⟩)):=by
 have e0:indexAddrT Tryz.prog 158 (.pointer (some ⟨c,0,none⟩)) (zi 0) = some (.pointer (some ⟨c,0,none⟩)):=by kernel_rfl
 have e1:indexAddrT Tryz.prog 158 (.pointer (some ⟨c,0,none⟩)) (zi 1) = some (.pointer (some ⟨c,1,none⟩)):=by kernel_rfl
 have e2:indexAddrT Tryz.prog 158 (.pointer (some ⟨c,0,none⟩)) (zi 2) = some (.pointer (some ⟨c,2,none⟩)):=by kernel_rfl
 obtain rfl | rfl | rfl:k = 0 ∨ k = 1 ∨ k = 2:=by omega
 ·exact e0
 ·exact e1
 ·exact e2
theorem ix83 {c k:Nat} (hk:k < 3):indexAddrT Tryz.prog 83 (.pointer (some ⟨c,0,none⟩)) (zi (k:Nat)) = some (.pointer (some ⟨c,k,none⟩)):=by
 have e0:indexAddrT Tryz.prog 83 (.pointer (some ⟨c,0,none⟩)) (zi 0) = some (.pointer (some ⟨c,0,none⟩)):=by kernel_rfl
 have e1:indexAddrT Tryz.prog 83 (.pointer (some ⟨c,0,none⟩)) (zi 1) = some (.pointer (some ⟨c,1,none⟩)):=by kernel_rfl
 have e2:indexAddrT Tryz.prog 83 (.pointer (some ⟨c,0,none⟩)) (zi 2) = some (.pointer (some ⟨c,2,none⟩)):=by kernel_rfl
 obtain rfl | rfl | rfl:k = 0 ∨ k = 1 ∨ k = 2:=by omega
 ·exact e0
 ·exact e1
 ·exact e2
theorem rows_get {us:Nat → Value} {k:Nat} (hk:k < 3):[us 0,us 1,us 2][k]? = some (us k):=by
 obtain rfl | rfl | rfl:k = 0 ∨ k = 1 ∨ k = 2:=by omega
 all_goals rfl
theorem filled_cells3 (x y z:Int × Bool):filled 2 3 [zi 0,.bool false] [(0,.agg (encC x).toArray),(1,.agg (encC y).toArray),(2,.agg (encC z).toArray)] = some (cat encC [x,y,z]):=by
 simp [filled,zeros,Instr.fill,encC,cat,Value.cells]
 rfl
set_option maxHeartbeats 4000000 in
set_option maxRecDepth 10000 in
theorem k53loop (H:Has tp) {m:Int} {C:Nat → List (Int × Bool)} {us:Nat → Value} {N c2 c4 c5 c9 c11 bv:Nat} {h gb g0:TH} {rest:TCode} {Q:Exit → Regs → TH → Prop} (f:Free0 h.next h) (X:HX h gb) (X0:HX gb g0)
    (A9:At gb c9 (.cells [us 0,us 1,us 2] true true 158)) (sl:∀ k,k < 3 → SlL encC 2 gb (us k) (C k)) (hlen:∀ k,(C k).length = N) (hN:N ≤ 900000) (lim:∀ k c,c ∈ C k → c.1.natAbs ≤ 16384)
    (Av:At g0 bv (.cells (cat encC (List.replicate N (0,false))) true true 134)) (Aw:At g0 c11 (.cells (cel3 (wrN m C 0)) true true 83)) (hbv:gb.next ≤ bv) (hcw:gb.next ≤ c11) (hne:bv ≠ c11)
    (K:∀ g,HX gb g → At g bv (.cells (cat encC (setN (List.replicate N (0,false)) 0 (voteA m C) N)) true true 134) → At g c11 (.cells (cel3 (wrN m C N)) true true 83) → ∀ a,Kn [(2,ptr c2),(4,ptr c4),(5,ptr c5),(10,.slice (some ⟨bv,0,none⟩) N N),(11,ptr c11)] a → W Tryz.prog tp false rest a g Q) :
    ∀ a,Kn [(2,ptr c2),(4,ptr c4),(5,ptr c5),(8,zi m),(9,ptr c9),(10,.slice (some ⟨bv,0,none⟩) N N),(11,ptr c11)] a → W Tryz.prog tp false (.seq (.seq (.reg r53_8) (.block 0 (.loop (.seq (.reg r53_9) (.seq (.cond (.tmp 69) .skip (.exit 0)) (.seq (.block 1 (.seq (.reg r53_10) (.seq (.reg r53_11) (.seq (.reg r53_12) (.block 2 (.loop (.seq (.reg r53_13) (.seq (.cond (.tmp 93) .skip (.exit 2)) (.seq (.block 3 (.seq (.reg r53_14) (.seq (.reg r53_15) (.cond (.tmp 106) (.reg r53_16) .skip)))) (.reg r53_17)))))))))) (.reg r53_18))))))) rest) a g0 Q:=by
  have lv:∀ {i:Nat},(setN (List.replicate N ((0:Int),false)) 0 (voteA m C) i).length = N:=fun {i} => by rw [setN_len,List.length_replicate]
  have slv:∀ {g:TH} {i:Nat},At g bv (.cells (cat encC (setN (List.replicate N (0,false)) 0 (voteA m C) i)) true true 134) → SlL encC 2 g (.slice (some ⟨bv,0,none⟩) N N) (setN (List.replicate N (0,false)) 0 (voteA m C) i):=fun {g i} a => SlL.own eC a lv
  refine WL.seq <| WL.sr <| WOL.mv rfl ?_
  refine WOL.len rfl (slv (i:=0) Av) u135 ?_
  rw [lv]
  refine WOL.mv rfl <| WOL.nil <| keep [(2,_),(4,_),(5,_),(8,_),(9,_),(10,_),(11,_),(67,_),(68,_)] ⟨rfl,rfl,rfl,rfl,rfl,rfl,rfl,rfl,rfl,trivial⟩ ?_
  refine WL.block ?_
  refine WL.loop (fun q a g => ∃ i:Nat,i ≤ N ∧ q = N - i ∧ HX gb g ∧ At g bv (.cells (cat encC (setN (List.replicate N (0,false)) 0 (voteA m C) i)) true true 134) ∧ At g c11 (.cells (cel3 (wrN m C i)) true true 83) ∧ Kn [(2,ptr c2),(4,ptr c4),(5,ptr c5),(8,zi m),(9,ptr c9),(10,.slice (some ⟨bv,0,none⟩) N N),(11,ptr c11),(67,zi N),(68,zi (i:Nat))] a) N (fun a q => ⟨0,by omega,by omega,X0,Av,Aw,q.sub ⟨rfl,rfl,rfl,rfl,rfl,rfl,rfl,rfl,rfl,trivial⟩⟩) ?_
  rintro q a g ⟨i,hi,rfl,X1,Bv,Bw,q⟩
  refine q.go ?_
  refine WL.sr <| WOL.bi (v:=.bool (decide ((i:Int) < (N:Int)))) rfl rfl rfl <| WOL.nil <| keep [(2,_),(4,_),(5,_),(8,_),(9,_),(10,_),(11,_),(67,_),(68,_),(69,_)] ⟨rfl,rfl,rfl,rfl,rfl,rfl,rfl,rfl,rfl,rfl,trivial⟩ ?_
  refine WL.seq ?_
  by_cases hlt:i < N
  · rw [show decide ((i:Int) < (N:Int)) = true by simpa using hlt]
    refine WL.yes rfl <| WL.skip ?_
    refine WL.seq <| WL.block ?_
    refine WL.sr <| WOL.mv rfl <| WOL.as rfl <| WOL.nil <| keep [(2,_),(4,_),(5,_),(8,_),(9,_),(10,_),(11,_),(12,_),(67,_),(68,_)] ⟨rfl,rfl,rfl,rfl,rfl,rfl,rfl,rfl,rfl,rfl,trivial⟩ ?_
    have i158:∀ {c k:Nat},k < 3 → indexAddrT Tryz.prog 158 (.pointer (some ⟨c,0,none⟩)) (zi (k:Nat)) = some (.pointer (some ⟨c,k,none⟩)):=fun hk => ix158 hk
    have p0:=cellD_get (C:=C) (k:=0) (i:=i) (by rw [hlen]; exact hlt)
    have p1:=cellD_get (C:=C) (k:=1) (i:=i) (by rw [hlen]; exact hlt)
    have p2:=cellD_get (C:=C) (k:=2) (i:=i) (by rw [hlen]; exact hlt)
    obtain ⟨b0,o0,cc0,fix0,wr0,el0,d1,d2,d3,d4,d5⟩:=((sl 0 (by decide)).hx X1).at eC u135 tp134 p0 .i64
    obtain ⟨b1,o1,cc1,fix1,wr1,el1,e1,e2,e3,e4,e5⟩:=((sl 1 (by decide)).hx X1).at eC u135 tp134 p1 .i64
    obtain ⟨b2,o2,cc2,fix2,wr2,el2,k1,k2,k3,k4,k5⟩:=((sl 2 (by decide)).hx X1).at eC u135 tp134 p2 .i64
    have B9:=A9.hx X1
    refine WL.sr <| WOL.mv rfl <| WOL.mv rfl <| WOL.mv rfl <| WOL.ix rfl rfl (i158 (k:=0) (by decide)) ?_
    refine WOL.ld rfl (load_one tp135 B9 rfl) <| WOL.mv rfl <| WOL.ix rfl rfl d1 ?_
    refine WOL.ld rfl (load_row tp134 d2 d4 d3) <| WOL.ix rfl rfl (i158 (k:=1) (by decide)) ?_
    refine WOL.ld rfl (load_one tp135 B9 rfl) <| WOL.mv rfl <| WOL.ix rfl rfl e1 ?_
    refine WOL.ld rfl (load_row tp134 e2 e4 e3) <| WOL.ix rfl rfl (i158 (k:=2) (by decide)) ?_
    refine WOL.ld rfl (load_one tp135 B9 rfl) <| WOL.mv rfl <| WOL.ix rfl rfl k1 ?_
    refine WOL.ld rfl (load_row tp134 k2 k4 k3) ?_
    refine WOL.bsl rfl u135 tp134 (by decide) (by decide) (by decide) (filled_cells3 _ _ _) fun h3 N3 => ?_
    have Y3:=X1.trans N3.hx
    refine WOL.cl2 rfl rfl rfl ((k112 H (C:=[cellD C 0 i,cellD C 1 i,cellD C 2 i]) (SlL.own eC N3.at_ rfl) (by simp) (row_lim lim i) (f.on (X.trans Y3))).mono ?_)
    rintro w h4 ⟨rfl,X4⟩
    have Y4:=Y3.trans X4
    have Z4:=N3.hx.trans X4
    refine WOL.ix rfl rfl (indexAddr_tp u135 tp134 hlt) ?_
    refine WOL.sto rfl rfl tp134 (Bv.hx Z4) rfl rfl (by rw [eC.cat_len,lv]; omega) rfl (f.hx (X.trans Y4)) (by have:=X.next; omega) fun h5 P5 => ?_
    have B5:=P5.at_
    rw [show (0:Nat) + i * 2 = (0 + i) * 2 by omega,show (Value.agg #[zi (voteC m [cellD C 0 i,cellD C 1 i,cellD C 2 i]).1,.bool (voteC m [cellD C 0 i,cellD C 1 i,cellD C 2 i]).2]).cells.toList = encC (voteA m C i) from rfl,eC.set (by rw [lv]; omega)] at B5
    have Y5:=P5.hx _ Y4 hbv
    have W5:=P5.oth c11 _ (fun e => hne e.symm) (Bw.hx Z4)
    refine WOL.nil <| keep [(2,_),(4,_),(5,_),(8,_),(9,_),(10,_),(11,_),(12,_),(67,_),(68,_)] ⟨rfl,rfl,rfl,rfl,rfl,rfl,rfl,rfl,rfl,rfl,trivial⟩ ?_
    refine WL.sr <| WOL.mv rfl <| WOL.nil ?_
    refine WL.block ?_
    refine WL.loop (fun q a g => ∃ k:Nat,k ≤ 3 ∧ q = 3 - k ∧ HX gb g ∧ At g bv (.cells (cat encC (setN (List.replicate N (0,false)) 0 (voteA m C) (i + 1))) true true 134) ∧ At g c11 (.cells (cel3 (pwR m C i k)) true true 83) ∧ Kn [(2,ptr c2),(4,ptr c4),(5,ptr c5),(8,zi m),(9,ptr c9),(10,.slice (some ⟨bv,0,none⟩) N N),(11,ptr c11),(12,zi (i:Nat)),(67,zi N),(68,zi (i:Nat)),(92,zi (k:Nat))] a) 3 (fun a q => ⟨0,by omega,by omega,Y5,B5,W5,q.sub ⟨rfl,rfl,rfl,rfl,rfl,rfl,rfl,rfl,rfl,rfl,rfl,trivial⟩⟩) ?_
    clear B5 W5 Y5 P5 h5 Bv Bw q a Z4 Y4 X4 h4 Y3 N3 h3
    rintro q a g' ⟨k,hk,rfl,Y1,Cv,Cw,q⟩
    refine q.go ?_
    refine WL.sr <| WOL.bi (v:=.bool (decide ((k:Int) < 3))) rfl rfl rfl <| WOL.nil <| keep [(2,_),(4,_),(5,_),(8,_),(9,_),(10,_),(11,_),(12,_),(67,_),(68,_),(92,_),(93,_)] ⟨rfl,rfl,rfl,rfl,rfl,rfl,rfl,rfl,rfl,rfl,rfl,rfl,trivial⟩ ?_
    refine WL.seq ?_
    by_cases hk3:k < 3
    · rw [show decide ((k:Int) < 3) = true from decide_eq_true (by omega)]
      refine WL.yes rfl <| WL.skip ?_
      refine WL.seq <| WL.block ?_
      refine WL.sr <| WOL.mv rfl <| WOL.as rfl <| WOL.nil <| keep [(2,_),(4,_),(5,_),(8,_),(9,_),(10,_),(11,_),(12,_),(13,_),(67,_),(68,_),(92,_)] ⟨rfl,rfl,rfl,rfl,rfl,rfl,rfl,rfl,rfl,rfl,rfl,rfl,trivial⟩ ?_
      have pk:=cellD_get (C:=C) (k:=k) (i:=i) (by rw [hlen]; exact hlt)
      obtain ⟨b0,o0,cc0,fix0,wr0,el0,d1,d2,d3,d4,d5⟩:=((sl k hk3).hx Y1).at eC u135 tp134 pk .i64
      have pv:(setN (List.replicate N ((0:Int),false)) 0 (voteA m C) (i + 1))[i]? = some (voteA m C i):=by
        rw [setN_in (by omega) (by rw [List.length_replicate]; exact hlt) _ (by omega)]; rfl
      obtain ⟨b1,o1,cc1,fix1,wr1,el1,e1,e2,e3,e4,e5⟩:=(slv Cv).at eC u135 tp134 pv .i64
      refine WL.sr <| WOL.mv rfl <| WOL.ix rfl rfl (i158 hk3) ?_
      refine WOL.ld rfl (load_one tp135 (A9.hx Y1) (rows_get hk3)) <| WOL.mv rfl <| WOL.ix rfl rfl d1 ?_
      refine WOL.ld rfl (load_row tp134 d2 d4 d3) <| WOL.mv rfl <| WOL.mv rfl <| WOL.ix rfl rfl e1 ?_
      refine WOL.ld rfl (load_row tp134 e2 e4 e3) <| WOL.mv rfl ?_
      refine WOL.cl3 rfl rfl rfl rfl ((k113 H (m:=m) (x:=(cellD C k i).1) (p:=(cellD C k i).2) (n:=(voteA m C i).1) (q:=(voteA m C i).2) (cellD_lim lim k i) (voteA_lim lim i)).mono ?_)
      rintro w h4 ⟨rfl,X4⟩
      have Y4:=Y1.trans X4
      refine WOL.nil <| keep [(2,_),(4,_),(5,_),(8,_),(9,_),(10,_),(11,_),(12,_),(13,_),(67,_),(68,_),(92,_),(106,_)] ⟨rfl,rfl,rfl,rfl,rfl,rfl,rfl,rfl,rfl,rfl,rfl,rfl,rfl,trivial⟩ ?_
      have fin:∀ {Q:Exit → Regs → TH → Prop} g',HX gb g' → At g' bv (.cells (cat encC (setN (List.replicate N (0,false)) 0 (voteA m C) (i + 1))) true true 134) → At g' c11 (.cells (cel3 (pwR m C i (k + 1))) true true 83) → ∀ a,Kn [(2,ptr c2),(4,ptr c4),(5,ptr c5),(8,zi m),(9,ptr c9),(10,.slice (some ⟨bv,0,none⟩) N N),(11,ptr c11),(12,zi (i:Nat)),(67,zi N),(68,zi (i:Nat)),(92,zi (k:Nat))] a → W Tryz.prog tp false (.reg r53_17) a g' (andThen (fun a g => ∃ q',q' < 3 - k ∧ ∃ k:Nat,k ≤ 3 ∧ q' = 3 - k ∧ HX gb g ∧ At g bv (.cells (cat encC (setN (List.replicate N (0,false)) 0 (voteA m C) (i + 1))) true true 134) ∧ At g c11 (.cells (cel3 (pwR m C i k)) true true 83) ∧ Kn [(2,ptr c2),(4,ptr c4),(5,ptr c5),(8,zi m),(9,ptr c9),(10,.slice (some ⟨bv,0,none⟩) N N),(11,ptr c11),(12,zi (i:Nat)),(67,zi N),(68,zi (i:Nat)),(92,zi (k:Nat))] a) Q):=by
        intro Q g' Y' V' W'
        refine WL.reg ?_
        refine WOL.bi (v:=zi ((k + 1:Nat):Int)) rfl rfl (by show some (Value.int .i64 (fwrap .i64 ((k:Int) + 1))) = _; rw [fwrap_i64 (by omega) (by omega)]; rfl) ?_
        refine WOL.mv rfl <| WOL.nil ?_
        exact fun a q => ⟨3 - (k + 1),by omega,k + 1,by omega,rfl,Y',V',W',q.sub ⟨rfl,rfl,rfl,rfl,rfl,rfl,rfl,rfl,rfl,rfl,rfl,trivial⟩⟩
      cases hb:wrongB m (cellD C k i) (voteA m C i) with
      | false =>
        refine WL.no rfl <| WL.skip ?_
        exact fun a q => fin h4 Y4 (Cv.hx X4) (by rw [pw_same hb]; exact Cw.hx X4) a (q.sub ⟨rfl,rfl,rfl,rfl,rfl,rfl,rfl,rfl,rfl,rfl,rfl,trivial⟩)
      | true =>
        have hw:=wrN_le (m:=m) (C:=C) i k
        refine WL.yes rfl <| WL.reg ?_
        refine WOL.mv rfl <| WOL.ix rfl rfl (ix83 hk3) ?_
        refine WOL.ld rfl (load_one tp3 (Cw.hx X4) (cells3_get hk3)) ?_
        rw [pw_at]
        refine WOL.add rfl rfl (by omega) (by omega) <| WOL.ix rfl rfl (ix83 hk3) ?_
        refine WOL.sto rfl rfl tp3 (Cw.hx X4) rfl rfl (by show k + 1 ≤ 3; omega) rfl (f.hx (X.trans Y4)) (by have:=X.next; omega) fun h5 P5 => ?_
        have W5:=P5.at_
        rw [show (zi (wrN m C i k + 1)).cells.toList = [zi (wrN m C i k + 1)] from rfl,pw_next hb hk3] at W5
        refine WOL.nil ?_
        exact fun a q => fin h5 (P5.hx _ Y4 hcw) (P5.oth bv _ hne (Cv.hx X4)) W5 a (q.sub ⟨rfl,rfl,rfl,rfl,rfl,rfl,rfl,rfl,rfl,rfl,rfl,trivial⟩)
    · rw [show decide ((k:Int) < 3) = false from decide_eq_false (by omega)]
      obtain rfl:k = 3:=by omega
      refine WL.no rfl <| WL.exit ?_
      refine WL.reg ?_
      refine WOL.bi (v:=zi ((i + 1:Nat):Int)) rfl rfl (by show some (Value.int .i64 (fwrap .i64 ((i:Int) + 1))) = _; rw [fwrap_i64 (by omega) (by omega)]; rfl) ?_
      refine WOL.mv rfl <| WOL.nil ?_
      exact fun a q => ⟨N - (i + 1),by omega,i + 1,by omega,rfl,Y1,Cv,Cw,q.sub ⟨rfl,rfl,rfl,rfl,rfl,rfl,rfl,rfl,rfl,trivial⟩⟩
  · rw [show decide ((i:Int) < (N:Int)) = false by simpa using hlt]
    obtain rfl:i = N:=by omega
    refine WL.no rfl <| WL.exit ?_
    exact kto (K g X1 Bv Bw) ⟨rfl,rfl,rfl,rfl,rfl,trivial⟩
end Go.Tidy
namespace Go.Tidy
open Go Go.Proofs Tab
variable {tp:TProg}
section
variable {P:Program} {a:Regs} {h:TH} {K:Regs → TH → Prop} {rest:List TOper} {d:Option Tmp} {ty:TypeId} {i:Nat} {f x0 x1 x2 l0:Operand} {ls:List Operand} {fv v0 v1 v2:Value} {ts:Array TypeId}
theorem WO.lq3 (bs:List Nat) (hb:(l0 :: ls).map (fun x => (getO a x).bind blockOf) = bs.map some) (hf:getO a f = some fv) (h0:getO a x0 = some v0) (h1:getO a x1 = some v1) (h2:getO a x2 = some v2) (w:∀ L,(∀ l,l ∈ L → l ∈ bs ∨ l ∈ h.lock) → CallW P tp fv #[v0,v1,v2] (h.withLock L) fun v h1 => WO P tp rest (a.put d v) (h1.withLock h.lock) K):WO P tp (⟨d,.call ⟨.value f,#[x0,x1,x2],ts⟩,ty,none,l0 :: ls,i⟩ :: rest) a h K :=
 WO.cons_lock rfl rfl (StepW.call (by rw [getO_eval hf]; simpa [getO_eval h0,getO_eval h1,getO_eval h2] using w _ (lockOf_bs _ a bs h.lock hb)))
theorem WOL.lq3 {L:Rg} (bs:List Nat) (hb:(l0 :: ls).map (fun x => (getL L x).bind blockOf) = bs.map some) (hf:getL L f = some fv) (h0:getL L x0 = some v0) (h1:getL L x1 = some v1) (h2:getL L x2 = some v2) (w:∀ M,(∀ l,l ∈ M → l ∈ bs ∨ l ∈ h.lock) → CallW P tp fv #[v0,v1,v2] (h.withLock M) fun v h1 => ∀ a,Kn (putL L d v) a → WO P tp rest a (h1.withLock h.lock) K):∀ a,Kn L a → WO P tp (⟨d,.call ⟨.value f,#[x0,x1,x2],ts⟩,ty,none,l0 :: ls,i⟩ :: rest) a h K :=
 fun _ k => WO.lq3 bs (locks_o k hb) (k.o hf) (k.o h0) (k.o h1) (k.o h2) fun M hM => (w M hM).mono fun _ _ q => k.nx q
end
def RefS (B:Nat) (g:TH) (c:Nat) (s:ByteArray) (n:Int) (C:List (Int × Bool)) (e:Int):Prop :=
  ∃ sz nz w1 w2,At g c (.cells (runV sz nz w1 w2).cells.toList true true 46) ∧ (e ≠ 0 → w1 = .slice none 0 0 ∧ w2 = .slice none 0 0) ∧
    (e = 0 → (sz = s ∧ nz = n) ∧ RunO B g w1 w2 (C.map fun c => smp c.1) (holesOf (C.map fun c => c.2)) ∧ Lev (C.map fun c => smp c.1) (C.map fun c => c.1) ∧ C.length ≤ 4096)
section
variable {B c c':Nat} {g g':TH} {s:ByteArray} {n:Int} {C:List (Int × Bool)} {e:Int}
theorem RefS.hx (q:RefS B g c s n C e) (x:HX g g'):RefS B g' c s n C e:=by
 obtain ⟨sz,nz,w1,w2,a,q1,q2⟩:=q
 exact ⟨sz,nz,w1,w2,a.hx x,q1,fun h => ⟨(q2 h).1,(q2 h).2.1.hx x,(q2 h).2.2⟩⟩
theorem RefS.away {x:TB} (q:RefS B g c s n C e) (p:Put g g' c' x) (h1:c' ≠ c) (h2:c' < B):RefS B g' c s n C e:=by
 obtain ⟨sz,nz,w1,w2,a,q1,q2⟩:=q
 exact ⟨sz,nz,w1,w2,p.oth _ _ (Ne.symm h1) a,q1,fun h => ⟨(q2 h).1,(q2 h).2.1.away p h2,(q2 h).2.2⟩⟩
end
end Go.Tidy
namespace Go.Tidy
open Go Go.Proofs Tab
variable {tp:TProg}
section
variable {P:Program} {h:TH} {K:Regs → TH → Prop} {rest:List TOper} {d:Option Tmp} {ty:TypeId} {i:Nat} {x y l0:Operand} {ls:List Operand} {t u:TypeId} {L:Rg} {v:Value} {n:Nat} {zl:List Value} {row:Bool}
theorem WOL.stQ {b off m:Nat} {c vs:List Value} {fix:Bool} {el:TypeId} (bs:List Nat) (hb:(l0 :: ls).map (fun x => (getL L x).bind blockOf) = bs.map some) (hx:getL L x = some (.pointer (some ⟨b,off,none⟩))) (hy:getL L y = some v) (he:Tp P t n zl row) (hg:At h b (.cells c fix true el)) (hv:v.cells.toList = vs) (hn:vs.length = n) (ho:off + n ≤ c.length) (h1:vs.all oneCell = true) (f:Free0 m h) (hm:m ≤ b) (hnb:b ∉ bs)
  (w:∀ h',Put h h' b (.cells (splice c off vs) fix true el) → ∀ a,Kn (putL L d undef) a → WO P tp rest a h' K):∀ a,Kn L a → WO P tp (⟨d,.store t x y,ty,none,l0 :: ls,i⟩ :: rest) a h K:=by
 intro a k
 refine WO.cons_lock rfl rfl ?_
 have hM:=lockOf_bs (l0 :: ls) a bs h.lock (locks_o k hb)
 generalize lockOf (l0 :: ls) a.eval h.lock = M at *
 have hnM:b ∉ M:=fun hin => by
  rcases hM b hin with q | q
  ·exact hnb q
  ·have:=f.lock b q; omega
 have ex:=getO_eval (k.o hx)
 have ey:=getO_eval (k.o hy)
 obtain ⟨inf,q1,q2,_⟩:=he.i
 have e1:Nat.beq v.cells.size inf.size = true:=by
  rw [q2,← hn,← hv]; simp
 have e2:Nat.ble (off + vs.length) c.length = true:=by rw [Nat.ble_eq,hn]; exact ho
 have hp:(h.withLock M).put b (.cells (splice c off vs) fix true el) = some ((h.withLock M).upd b (.cells (splice c off vs) fix true el)):=TH.put_upd (Nat.le_trans f.floor hm) hg.lt hnM
 have hs:storeT P t (.pointer (some ⟨b,off,none⟩)) v (h.withLock M) = some ((h.withLock M).upd b (.cells (splice c off vs) fix true el)):=by
  simp only [storeT,q1,e1,Bool.cond_true,putCells,(hg.relock M).get,hv,e2,h1,Bool.and_self]
  exact hp
 refine StepW.of (v:=undef) (h1:=(h.withLock M).upd b (.cells (splice c off vs) fix true el)) (fun call => ?_) ?_
 ·have hpl:plainOp P ⟨d,.store t x y,ty,none,l0 :: ls,i⟩ a.eval = none:=rfl
  simp [stepOp,heapFirst,fastOp,valueOp,hpl,heapOp,ex,ey,hs]
 ·have:=w (h.upd b (.cells (splice c off vs) fix true el)) (Put.mk' hg _) _ (k.put d undef)
  exact this
def lt0 (b:Nat):Bool:=if nanB .f32 b = true then false else Ieee.single.order b 0 == some .lt
theorem WOL.flz {b:Nat} (hx:getL L x = some (.float .f32 b)) (hy:getL L y = some (.float .f32 0)) (w:∀ a,Kn (putL L d (.bool (lt0 b))) a → WO P tp rest a h K):∀ a,Kn L a → WO P tp (⟨d,.binOp .lss t x y u,ty,none,[],i⟩ :: rest) a h K:=by
 unfold lt0 at w
 cases hb:nanB .f32 b with
 | true =>
  rw [hb,if_pos rfl] at w
  exact WOL.bi hx hy (by show cond (fKindEq .f32 .f32 && (nanB .f32 b || nanB .f32 0)) (nanOut .lss) none = _; rw [hb]; rfl) w
 | false =>
  rw [hb,if_neg (by decide)] at w
  exact fun a k => WO.fcmp (k.o hx) (k.o hy) hb (by decide) rfl (w _ (k.put d _))
variable {V:Value → TH → Prop}
theorem WL.endCC1 {t s r:Nat} {p q w v1 v2:Value} {ty1 ty2:TypeId} (hx:lkR L t = some p) (hx2:lkR L s = some q) (hs:lkR L r = some w) (hv:loadT P ty1 p h = some v1) (hv2:loadT P ty2 q h = some v2) (qq:V (.tuple #[v1,v2,w]) h):∀ a,Kn L a → Fin P [.cell t ty1,.cell s ty2,.tmp r] V .ret a h :=
 fun a k => by
  unfold Fin
  refine ⟨.inr rfl,[v1,v2,w],?_,qq⟩
  have e1:a.at_ t = p:=by simp only [Regs.at_,k _ _ hx]
  have e2:a.at_ s = q:=by simp only [Regs.at_,k _ _ hx2]
  have e3:a.at_ r = w:=by simp only [Regs.at_,k _ _ hs]
  simp [resultsT,e1,e2,e3,hv,hv2]
end
theorem filled_ints6 (a b c d e f:Int):filled 1 6 [.int .i64 0] [(0,.int .i64 a),(1,.int .i64 b),(2,.int .i64 c),(3,.int .i64 d),(4,.int .i64 e),(5,.int .i64 f)] = some ([a,b,c,d,e,f].map (.int .i64)):=by
 simp [filled,zeros,Instr.fill,Value.cells]
theorem bd83z:buildT Tryz.prog 83 [] = some (.agg #[.int .i64 0,.int .i64 0,.int .i64 0]):=by kernel_rfl
theorem bd158 {b1 b2 b3:Option Addr} {l1 c1 l2 c2 l3 c3:Nat}:buildT Tryz.prog 158 [(0,.slice b1 l1 c1),(1,.slice b2 l2 c2),(2,.slice b3 l3 c3)] = some (.agg #[.slice b1 l1 c1,.slice b2 l2 c2,.slice b3 l3 c3]):=by kernel_rfl
theorem ix86_0 {c:Nat}:indexAddrT Tryz.prog 86 (.pointer (some ⟨c,0,none⟩)) (.int .i64 0) = some (.pointer (some ⟨c,0,none⟩)):=by kernel_rfl
theorem ix86_1 {c:Nat}:indexAddrT Tryz.prog 86 (.pointer (some ⟨c,0,none⟩)) (.int .i64 1) = some (.pointer (some ⟨c,4,none⟩)):=by kernel_rfl
theorem ix86_2 {c:Nat}:indexAddrT Tryz.prog 86 (.pointer (some ⟨c,0,none⟩)) (.int .i64 2) = some (.pointer (some ⟨c,8,none⟩)):=by kernel_rfl
def runs3 (s:Nat → ByteArray) (n:Nat → Int) (v1 v2:Nat → Value):Value:=.agg #[.string (s 0),zi (n 0),v1 0,v2 0,.string (s 1),zi (n 1),v1 1,v2 1,.string (s 2),zi (n 2),v1 2,v2 2]
def votesC (m:Int) (C:Nat → List (Int × Bool)) (N:Nat):List (Int × Bool):=setN (List.replicate N (0,false)) 0 (voteA m C) N
def voteE (e:Nat → Int) (n:Nat → Int) (l:Nat → Nat) (el:Int) (b:Nat):Int:=firstNZ [e 0,e 1,e 2,cond (!shapeB (n 0) (l 0) (n 1) (l 1) || !shapeB (n 0) (l 0) (n 2) (l 2)) 2 0,el,cond (lt0 b) 3 0]
theorem votesC_len {m:Int} {C:Nat → List (Int × Bool)} {N:Nat}:(votesC m C N).length = N:=by unfold votesC; rw [setN_len,List.length_replicate]
theorem votesC_get {m:Int} {C:Nat → List (Int × Bool)} {N i:Nat} (h:i < N):(votesC m C N)[i]? = some (voteA m C i):=by
 unfold votesC
 rw [setN_in (by omega) (by rw [List.length_replicate]; exact h) _ (by omega)]; rfl
theorem votesC_lim {m:Int} {C:Nat → List (Int × Bool)} {N:Nat} (lim:∀ k c,c ∈ C k → c.1.natAbs ≤ 16384):∀ c,c ∈ votesC m C N → c.1.natAbs ≤ 16384:=by
 intro c hc
 unfold votesC at hc
 rcases setN_mem N hc with hc | ⟨j,_,rfl⟩
 ·rw [(List.mem_replicate.1 hc).2]; decide
 ·exact voteA_lim lim j
def r53w:TCode:=(.seq (.reg r53_4) (.seq (.reg r53_5) (.seq (.reg r53_6) (.seq (.reg r53_7) (.seq (.seq (.reg r53_8) (.block 0 (.loop (.seq (.reg r53_9) (.seq (.cond (.tmp 69) .skip (.exit 0)) (.seq (.block 1 (.seq (.reg r53_10) (.seq (.reg r53_11) (.seq (.reg r53_12) (.block 2 (.loop (.seq (.reg r53_13) (.seq (.cond (.tmp 93) .skip (.exit 2)) (.seq (.block 3 (.seq (.reg r53_14) (.seq (.reg r53_15) (.cond (.tmp 106) (.reg r53_16) .skip)))) (.reg r53_17)))))))))) (.reg r53_18))))))) (.seq (.reg r53_19) .ret))))))
section
variable {s:Nat → ByteArray} {n:Nat → Int} {v1 v2:Nat → Value} {F:Nat → List Nat} {S:Nat → List (Int × Int)} {es L:Nat → List Int} {h:TH} {lb:Nat}
set_option maxHeartbeats 8000000 in
set_option maxRecDepth 10000 in
theorem k53w (H:Has tp) {m:Int} {N c2 c4 c5:Nat} {g:TH} {CC:Nat → List (Int × Bool)} (sm:Samp lb m) (r:∀ k,RunH h (v1 k) (v2 k) (F k) (S k)) (hL:∀ k,Lev (F k) (L k)) (hF:∀ k,(F k).length ≤ 4096) (hS:∀ k,(S k).length ≤ 900000) (hin:∀ k,In (F k).length (S k)) (hN:∀ k,(F k).length = N) (hC:CC = fun k => cellsL (L k) (S k)) (f:Free0 h.next h) (Y:HX h g)
    (A2:At g c2 (.cells [.string (s 0),zi (n 0),v1 0,v2 0,.string (s 1),zi (n 1),v1 1,v2 1,.string (s 2),zi (n 2),v1 2,v2 2] true true 86)) (A4:At g c4 (.cells [.string ⟨#[]⟩,.int .i64 0,.slice none 0 0,.slice none 0 0] true true 52)) (A5:At g c5 (.cells [.int .i64 0,.int .i64 0,.int .i64 0] true true 83)) (hc4:h.next ≤ c4) (hc5:h.next ≤ c5) (hc2:h.next ≤ c2) (h45:c4 ≠ c5) :
    ∀ a,Kn [(1,.float .f32 lb),(2,ptr c2),(4,ptr c4),(5,ptr c5)] a → W Tryz.prog tp false r53w a g (Fin Tryz.prog [.cell 4 52,.cell 5 83,.tmp 6] fun v h' => HX h h' ∧ ∃ w1 w2,v = .tuple #[runV (s 0) (n 0) w1 w2,.agg (cel3 (wrN m CC N)).toArray,zi 0] ∧
        RunO h.next h' w1 w2 ((votesC m CC N).map fun c => smp c.1) (holesOf ((votesC m CC N).map fun c => c.2))):=by
  have lt2:=A2.lt
  have lt4:=A4.lt
  have lt5:=A5.lt
  have hcl:∀ k,(cellsL (L k) (S k)).length = N:=fun k => by rw [cells_len (hL k) (hin k),hN k]
  have lim:∀ k c,c ∈ CC k → c.1.natAbs ≤ 16384:=fun k c hc => by subst hC; exact cells_lim (hL k) (S k) c hc
  have hCl:∀ k,(CC k).length = N:=fun k => by subst hC; exact hcl k
  have N4:N ≤ 4096:=by rw [← hN 0]; exact hF 0
  unfold r53w
  refine WL.sr <| WOL.mv rfl ?_
  refine WOL.cl1 rfl rfl ((k111 H sm g).mono ?_)
  rintro v g' ⟨rfl,rfl⟩
  refine WOL.as rfl <| WOL.nil <| keep [(2,_),(4,_),(5,_),(8,_)] ⟨rfl,rfl,rfl,rfl,trivial⟩ ?_
  refine WL.sr <| WOL.ix rfl rfl ix86_0 ?_
  refine WOL.ld rfl (load_row tp52 A2 rfl (Nat.le_of_ble_eq_true rfl)) <| WOL.ix rfl rfl ix86_1 ?_
  refine WOL.ld rfl (load_row tp52 A2 rfl (Nat.le_of_ble_eq_true rfl)) <| WOL.ix rfl rfl ix86_2 ?_
  refine WOL.ld rfl (load_row tp52 A2 rfl (Nat.le_of_ble_eq_true rfl)) ?_
  refine WOL.al tp158 fun h1 N1 => ?_
  have n1:=N1.next
  have Y1:=Y.trans N1.hx
  refine WOL.lq1 [g'.next,c2,c2] rfl rfl rfl fun M hM => ((k85 H (s:=s 0) (n:=n 0) (((r 0).hx Y1).relock' M) (hL 0) (by have:=hF 0; omega) (by have:=hS 0; omega) (hin 0) ((f.on Y1).held hM (fun b hb => by simp at hb; omega))).mono ?_)
  rintro v h2 ⟨b1,rfl,o1,B1,X2⟩
  replace B1:=B1.relock h1.lock
  replace X2:=X2.relock
  replace o1:h1.next ≤ b1:=o1
  generalize h2.withLock h1.lock = h2 at *
  have Y2:=Y1.trans X2
  have n2:=X2.next
  refine WOL.lq1 [g'.next,c2] rfl rfl rfl fun M hM => ((k85 H (s:=s 1) (n:=n 1) (((r 1).hx Y2).relock' M) (hL 1) (by have:=hF 1; omega) (by have:=hS 1; omega) (hin 1) ((f.on Y2).held hM (fun b hb => by simp at hb; omega))).mono ?_)
  rintro v h3 ⟨b2,rfl,o2,B2,X3⟩
  replace B2:=B2.relock h2.lock
  replace X3:=X3.relock
  replace o2:h2.next ≤ b2:=o2
  generalize h3.withLock h2.lock = h3 at *
  have Y3:=Y2.trans X3
  have n3:=X3.next
  refine WOL.lq1 [g'.next] rfl rfl rfl fun M hM => ((k85 H (s:=s 2) (n:=n 2) (((r 2).hx Y3).relock' M) (hL 2) (by have:=hF 2; omega) (by have:=hS 2; omega) (hin 2) ((f.on Y3).held hM (fun b hb => by simp at hb; omega))).mono ?_)
  rintro v h4 ⟨b3,rfl,o3,B3,X4⟩
  replace B3:=B3.relock h3.lock
  replace X4:=X4.relock
  replace o3:h3.next ≤ b3:=o3
  generalize h4.withLock h3.lock = h4 at *
  have Y4:=Y3.trans X4
  have n4:=X4.next
  have Z4:=(X2.trans X3).trans X4
  rw [hN 0,hN 1,hN 2]
  refine WOL.bd rfl bd158 ?_
  have z1:=N1.hx.next
  refine WOL.sto rfl rfl tp158 (N1.at_.hx Z4) rfl rfl (Nat.le_of_ble_eq_true rfl) rfl (f.hx Y4) (by have:=Y.next; omega) fun h5 P5 => ?_
  have Y5:=P5.hx _ Y4 (by have:=Y.next; omega)
  have A9:=P5.at_
  have X5:HX g' h5:=P5.hx _ (N1.hx.trans Z4) (Nat.le_refl _)
  have nx5:=P5.next
  have lb1:=B1.lt
  have lb2:=B2.lt
  have lb3:=B3.lt
  have C1:=P5.oth b1 _ (by omega) ((B1.hx X3).hx X4)
  have C2:=P5.oth b2 _ (by omega) (B2.hx X4)
  have C3:=P5.oth b3 _ (by omega) B3
  obtain ⟨us,u0,u1,u2⟩:∃ us:Nat → Value,us 0 = .slice (some ⟨b1,0,none⟩) N N ∧ us 1 = .slice (some ⟨b2,0,none⟩) N N ∧ us 2 = .slice (some ⟨b3,0,none⟩) N N:=⟨fun k => match k with | 0 => Value.slice (some ⟨b1,0,none⟩) N N | 1 => .slice (some ⟨b2,0,none⟩) N N | _ => .slice (some ⟨b3,0,none⟩) N N,rfl,rfl,rfl⟩
  have A9:At h5 g'.next (.cells [us 0,us 1,us 2] true true 158):=by rw [u0,u1,u2]; exact A9
  have slk:∀ k,k < 3 → SlL encC 2 h5 (us k) (CC k):=by
    intro k hk
    subst hC
    obtain rfl | rfl | rfl:k = 0 ∨ k = 1 ∨ k = 2:=by omega
    · rw [u0]; exact SlL.own eC C1 (hcl 0)
    · rw [u1]; exact SlL.own eC C2 (hcl 1)
    · rw [u2]; exact SlL.own eC C3 (hcl 2)
  clear C1 C2 C3 u0 u1 u2
  refine WOL.nil <| keep [(2,_),(4,_),(5,_),(8,_),(9,_)] ⟨rfl,rfl,rfl,rfl,rfl,trivial⟩ ?_
  refine WL.sr <| WOL.ix rfl rfl (ix158 (k:=0) (by decide)) ?_
  refine WOL.ld rfl (load_one tp135 A9 rfl) ?_
  refine WOL.len rfl (slk 0 (by decide)) u135 ?_
  rw [hCl 0]
  refine WOL.ms rfl rfl u135 tp134 (by decide) (by omega) fun h6 N6 => ?_
  refine WOL.as rfl <| WOL.nil <| keep [(2,_),(4,_),(5,_),(8,_),(9,_),(10,_)] ⟨rfl,rfl,rfl,rfl,rfl,rfl,trivial⟩ ?_
  refine WL.sr <| WOL.al tp83 fun h7 N7 => WOL.nil <| keep [(2,_),(4,_),(5,_),(8,_),(9,_),(10,_),(11,_)] ⟨rfl,rfl,rfl,rfl,rfl,rfl,rfl,trivial⟩ ?_
  have Av:At h7 h5.next (.cells (cat encC (List.replicate N ((0:Int),false))) true true 134):=by rw [← cellsL_flat]; exact N6.at_.hx N7.hx
  have nx6:=N6.next
  have gx5:=X5.next
  refine kto (k53loop H (m:=m) (C:=CC) (us:=us) f Y5 (N6.hx.trans N7.hx) A9 slk hCl (by omega) lim Av N7.at_ (Nat.le_refl _) (by omega) (by omega) ?_) ⟨rfl,rfl,rfl,rfl,rfl,rfl,rfl,trivial⟩
  intro g9 X9 Bv Bw
  have Y9:=Y5.trans X9
  have W9:=X5.trans X9
  have A2':=A2.hx W9
  have A4':=A4.hx W9
  have A5':=A5.hx W9
  have lw:=Bw.lt
  refine WL.sr <| WOL.ix rfl rfl ix86_0 <| WOL.fa rfl (fa_of fo52_0) ?_
  refine WOL.ld rfl (load_one tp9 A2' rfl) <| WOL.ix rfl rfl ix86_0 <| WOL.fa rfl (fa_of fo52_1) ?_
  refine WOL.ld rfl (load_one tp3 A2' rfl) <| WOL.mv rfl ?_
  refine WOL.ld rfl (load_row tp83 Bw rfl (Nat.le_of_ble_eq_true rfl)) ?_
  refine WOL.lq3 [h6.next] rfl rfl rfl rfl rfl fun M hM => ((k89 H (s:=s 0) (n:=n 0) (C:=votesC m CC N) ((SlL.own eC Bv (votesC_len (m:=m) (C:=CC))).relock M) (votesC_lim lim) (by rw [votesC_len]; omega) ((f.on Y9).held hM (fun b hb => by simp at hb; omega))).mono ?_)
  rintro v h10 ⟨w1,w2,rfl,X10,O10⟩
  replace X10:=X10.relock
  replace O10:=O10.relock' g9.lock
  replace O10:RunO g9.next (h10.withLock g9.lock) w1 w2 ((votesC m CC N).map fun c => smp c.1) (holesOf ((votesC m CC N).map fun c => c.2)):=O10
  generalize h10.withLock g9.lock = h10 at *
  have Y10:=Y9.trans X10
  have n9:=Y9.next
  have gw:=W9.next
  obtain ⟨bo1,k1,rfl⟩:=O10.r.f.form
  obtain ⟨bo2,k2,rfl⟩:=O10.r.s.form
  refine WOL.stQ [h6.next] rfl rfl rfl tp52 (A4'.hx X10) rfl rfl (Nat.le_of_ble_eq_true rfl) rfl (f.hx Y10) hc4 (by simp; omega) fun h11 P11 => ?_
  refine WOL.sto rfl rfl tp83 (P11.oth c5 _ (fun e => h45 e.symm) (A5'.hx X10)) rfl rfl (Nat.le_of_ble_eq_true rfl) rfl (f.hx (P11.hx _ Y10 hc4)) hc5 fun h12 P12 => ?_
  refine WOL.as rfl <| WOL.nil ?_
  refine WL.ret (WL.endCC1 (t:=4) (s:=5) (r:=6) rfl rfl rfl (load_row tp52 (P12.oth c4 _ h45 P11.at_) rfl (Nat.le_of_ble_eq_true rfl)) (load_row tp83 P12.at_ rfl (Nat.le_of_ble_eq_true rfl)) ⟨P12.hx _ (P11.hx _ Y10 hc4) hc5,_,_,rfl,((O10.away P11 (by omega)).away P12 (by omega)).le (by omega)⟩)
end
set_option maxHeartbeats 8000000 in
set_option maxRecDepth 10000 in
theorem k53 (H:Has tp) (X:HasX tp) {s:Nat → ByteArray} {n:Nat → Int} {v1 v2:Nat → Value} {F:Nat → List Nat} {S:Nat → List (Int × Int)} {es L:Nat → List Int} {h:TH} {lb:Nat} {el:Int} (r:∀ k,RunH h (v1 k) (v2 k) (F k) (S k)) (hE:∀ k,SErr (F k) (es k)) (hL:∀ k,firstNZ (es k) = 0 → Lev (F k) (L k)) (hF:∀ k,(F k).length ≤ 900000) (hS:∀ k,(S k).length ≤ 900000) (eL:SampleE lb el) (f:Free0 h.next h)
    (h3:∀ k,∃ j,j < 3 ∧ s k = s j ∧ n k = n j ∧ F k = F j ∧ S k = S j ∧ es k = es j ∧ L k = L j) {E:Int} (hEE:voteE (fun k => runE (s k) (n k) (F k).length (S k) (es k) (L k)) n (fun k => (F k).length) el lb = E) :
    CallW Tryz.prog tp (.func (.func 53) #[] #[]) #[runs3 s n v1 v2,.float .f32 lb] h fun v h' => HX h h' ∧ ((E ≠ 0 ∧ v = .tuple #[run0,.agg #[zi 0,zi 0,zi 0],zi E]) ∨
      (E = 0 ∧ ∃ m w1 w2,Samp lb m ∧ v = .tuple #[runV (s 0) (n 0) w1 w2,.agg (cel3 (wrN m (fun k => cellsL (L k) (S k)) (F 0).length)).toArray,zi 0] ∧
        RunO h.next h' w1 w2 ((votesC m (fun k => cellsL (L k) (S k)) (F 0).length).map fun c => smp c.1) (holesOf ((votesC m (fun k => cellsL (L k) (S k)) (F 0).length).map fun c => c.2)))):=by
  refine CallW.fnL (H.fn 53 f53 rfl rfl) ?_
  refine WL.sr <| WOL.box rfl fun h1 N1 => ?_
  refine WOL.al tp52 fun h2 N2 => ?_
  refine WOL.al tp83 fun h3' N3 => ?_
  have n1:=N1.next
  have n2:=N2.next
  have n3:=N3.next
  have X3:HX h h3':=(N1.hx.trans N2.hx).trans N3.hx
  have A2:At h3' h.next (.cells [.string (s 0),zi (n 0),v1 0,v2 0,.string (s 1),zi (n 1),v1 1,v2 1,.string (s 2),zi (n 2),v1 2,v2 2] true true 86):=(N1.at_.hx N2.hx).hx N3.hx
  have A4:=N2.at_.hx N3.hx
  have A5:=N3.at_
  refine WOL.as rfl <| WOL.nil <| keep [(1,_),(2,_),(4,_),(5,_),(6,_)] ⟨rfl,rfl,rfl,rfl,rfl,trivial⟩ ?_
  refine WL.sr <| WOL.ix rfl rfl ix86_0 ?_
  refine WOL.ld rfl (load_row tp52 A2 rfl (Nat.le_of_ble_eq_true rfl)) <| WOL.ix rfl rfl ix86_1 ?_
  refine WOL.ld rfl (load_row tp52 A2 rfl (Nat.le_of_ble_eq_true rfl)) <| WOL.ix rfl rfl ix86_2 ?_
  refine WOL.ld rfl (load_row tp52 A2 rfl (Nat.le_of_ble_eq_true rfl)) <| WOL.ix rfl rfl ix86_0 ?_
  refine WOL.ld rfl (load_row tp52 A2 rfl (Nat.le_of_ble_eq_true rfl)) <| WOL.ix rfl rfl ix86_1 ?_
  refine WOL.ld rfl (load_row tp52 A2 rfl (Nat.le_of_ble_eq_true rfl)) <| WOL.mv rfl <| WOL.mv rfl <| WOL.flz rfl rfl ?_
  refine WOL.lq1 [h.next,h.next,h.next,h.next] rfl rfl rfl fun M hM => ((k41 H X (s:=s 0) (n:=n 0) (((r 0).hx X3).relock' M) (hE 0) (hL 0) (by have:=hF 0; omega) (by have:=hS 0; omega) ((f.on X3).held hM (fun b hb => by simp at hb; omega))).mono ?_)
  rintro v h4 ⟨rfl,X4⟩
  replace X4:=X4.relock
  generalize h4.withLock h3'.lock = h4 at *
  have Y4:=X3.trans X4
  have y4:=X4.next
  refine WOL.lq1 [h.next,h.next,h.next] rfl rfl rfl fun M hM => ((k41 H X (s:=s 1) (n:=n 1) (((r 1).hx Y4).relock' M) (hE 1) (hL 1) (by have:=hF 1; omega) (by have:=hS 1; omega) ((f.on Y4).held hM (fun b hb => by simp at hb; omega))).mono ?_)
  rintro v h5 ⟨rfl,X5⟩
  replace X5:=X5.relock
  generalize h5.withLock h4.lock = h5 at *
  have Y5:=Y4.trans X5
  have y5:=X5.next
  refine WOL.lq1 [h.next,h.next] rfl rfl rfl fun M hM => ((k41 H X (s:=s 2) (n:=n 2) (((r 2).hx Y5).relock' M) (hE 2) (hL 2) (by have:=hF 2; omega) (by have:=hS 2; omega) ((f.on Y5).held hM (fun b hb => by simp at hb; omega))).mono ?_)
  rintro v h6 ⟨rfl,X6⟩
  replace X6:=X6.relock
  generalize h6.withLock h5.lock = h6 at *
  have Y6:=Y5.trans X6
  refine WOL.cl2 rfl rfl rfl ((k109 H (s:=s 0) (s':=s 1) (n:=n 0) (n':=n 1) ((r 0).f.hx Y6) ((r 1).f.hx Y6)).mono ?_)
  rintro v h7 ⟨rfl,X7⟩
  have Y7:=Y6.trans X7
  have Z7:=((X4.trans X5).trans X6).trans X7
  refine WOL.nt rfl <| WOL.mv rfl ?_
  have go:∀ g,HX h3' g → ∀ a,Kn [(1,.float .f32 lb),(2,ptr h.next),(4,ptr h1.next),(5,ptr h2.next),(16,zi (runE (s 0) (n 0) (F 0).length (S 0) (es 0) (L 0))),(19,zi (runE (s 1) (n 1) (F 1).length (S 1) (es 1) (L 1))),(22,zi (runE (s 2) (n 2) (F 2).length (S 2) (es 2) (L 2))),(36,.bool (!shapeB (n 0) (F 0).length (n 1) (F 1).length || !shapeB (n 0) (F 0).length (n 2) (F 2).length)),(38,.float .f32 lb),(41,.bool (lt0 lb))] a → WO Tryz.prog tp (r53_1.drop 26) a g (fun a g => ∃ g',HX h3' g' ∧ g' = g ∧ Kn [(1,.float .f32 lb),(2,ptr h.next),(4,ptr h1.next),(5,ptr h2.next),(7,zi E)] a):=by
    intro g Xg
    refine WOL.cl2 rfl rfl rfl ((k77 H _ _ _).mono ?_)
    rintro v g1 ⟨rfl,rfl⟩
    refine WOL.cl1 rfl rfl ((k21 H X eL _).mono ?_)
    rintro v g2 ⟨rfl,rfl⟩
    refine WOL.cl2 rfl rfl rfl ((k77 H _ _ _).mono ?_)
    rintro v g3 ⟨rfl,rfl⟩
    refine WOL.bsl rfl u166 tp30 (by decide) (by decide) (by decide) (filled_ints6 _ _ _ _ _ _) fun h8 N8 => ?_
    refine WOL.cl1 rfl rfl ((k71 H (l:=[_,_,_,_,_,_]) N8.at_.get (by simp)).mono ?_)
    rintro v h8 ⟨rfl,rfl⟩
    refine WOL.as rfl <| WOL.nil ?_
    exact fun a q => ⟨_,Xg.trans N8.hx,rfl,by rw [← hEE]; exact q.sub ⟨rfl,rfl,rfl,rfl,rfl,trivial⟩⟩
  have rest:∀ g,HX h3' g → ∀ a,Kn [(1,.float .f32 lb),(2,ptr h.next),(4,ptr h1.next),(5,ptr h2.next),(7,zi E)] a → W Tryz.prog tp false (.seq (.seq (.reg r53_2) (.cond (.tmp 46) (.seq (.reg r53_3) .ret) .skip)) r53w) a g (Fin Tryz.prog [.cell 4 52,.cell 5 83,.tmp 6] fun v h' => HX h h' ∧ ((E ≠ 0 ∧ v = .tuple #[run0,.agg #[zi 0,zi 0,zi 0],zi E]) ∨
      (E = 0 ∧ ∃ m w1 w2,Samp lb m ∧ v = .tuple #[runV (s 0) (n 0) w1 w2,.agg (cel3 (wrN m (fun k => cellsL (L k) (S k)) (F 0).length)).toArray,zi 0] ∧
        RunO h.next h' w1 w2 ((votesC m (fun k => cellsL (L k) (S k)) (F 0).length).map fun c => smp c.1) (holesOf ((votesC m (fun k => cellsL (L k) (S k)) (F 0).length).map fun c => c.2))))):=by
    intro g Xg
    have Yg:=X3.trans Xg
    have A2':=A2.hx Xg
    have A4':=A4.hx Xg
    have A5':=A5.hx Xg
    refine WL.seq <| WL.sr <| WOL.mv rfl <| WOL.bi rfl rfl nzero <| WOL.nil <| keep [(1,_),(2,_),(4,_),(5,_),(7,_),(46,_)] ⟨rfl,rfl,rfl,rfl,rfl,rfl,trivial⟩ ?_
    rcases nz_cases E with h0 | h0
    · subst h0
      have z:=firstNZ_zero hEE
      have e0:=z _ (List.mem_cons_self ..)
      have e1:=z _ (List.mem_cons_of_mem _ (List.mem_cons_self ..))
      have e2:=z _ (List.mem_cons_of_mem _ (List.mem_cons_of_mem _ (List.mem_cons_self ..)))
      have e3:=z _ (List.mem_cons_of_mem _ (List.mem_cons_of_mem _ (List.mem_cons_of_mem _ (List.mem_cons_self ..))))
      have e4:=z _ (List.mem_cons_of_mem _ (List.mem_cons_of_mem _ (List.mem_cons_of_mem _ (List.mem_cons_of_mem _ (List.mem_cons_self ..)))))
      subst e4
      obtain ⟨m,sm⟩:=samp_of eL
      have ek:∀ k,runE (s k) (n k) (F k).length (S k) (es k) (L k) = 0:=by
        intro k
        obtain ⟨j,hj,q1,q2,q3,q4,q5,q6⟩:=h3 k
        rw [q1,q2,q3,q4,q5,q6]
        obtain rfl | rfl | rfl:j = 0 ∨ j = 1 ∨ j = 2:=by omega
        · exact e0
        · exact e1
        · exact e2
      have V:∀ k,Valid (s k) (n k) (F k) (S k) (L k):=fun k => valid_of (hL k) (ek k)
      have sh:(F 1).length = (F 0).length ∧ (F 2).length = (F 0).length:=by
        have e3:cond (!shapeB (n 0) (F 0).length (n 1) (F 1).length || !shapeB (n 0) (F 0).length (n 2) (F 2).length) (2:Int) 0 = 0:=e3
        cases g1:shapeB (n 0) (F 0).length (n 1) (F 1).length with
        | false => rw [g1] at e3; cases e3
        | true =>
          cases g2:shapeB (n 0) (F 0).length (n 2) (F 2).length with
          | false => rw [g1,g2] at e3; cases e3
          | true =>
            unfold shapeB at g1 g2
            simp at g1 g2
            omega
      have hN:∀ k,(F k).length = (F 0).length:=by
        intro k
        obtain ⟨j,hj,q1,q2,q3,q4,q5,q6⟩:=h3 k
        rw [q3]
        obtain rfl | rfl | rfl:j = 0 ∨ j = 1 ∨ j = 2:=by omega
        · rfl
        · exact sh.1
        · exact sh.2
      refine WL.no rfl <| WL.skip ?_
      refine kto (WL.mono (k53w H sm r (fun k => (V k).lev) (fun k => (V k).m) hS (fun k => (V k).in_) hN rfl f Yg A2' A4' A5' (by omega) (by omega) (Nat.le_refl _) (by omega)) ?_) ⟨rfl,rfl,rfl,rfl,trivial⟩
      intro x a g' q
      unfold Fin at q ⊢
      obtain ⟨q1,vs,q2,q3,w1,w2,q4,q5⟩:=q
      exact ⟨q1,vs,q2,q3,.inr ⟨rfl,m,w1,w2,sm,q4,q5⟩⟩
    · rw [h0]
      refine WL.yes rfl <| WL.sr <| WOL.bd rfl bd52z <| WOL.bd rfl bd83z <| WOL.mv rfl ?_
      refine WOL.sto rfl rfl tp52 A4' rfl rfl (Nat.le_of_ble_eq_true rfl) rfl (f.hx Yg) (by omega) fun g5 P5 => ?_
      refine WOL.sto rfl rfl tp83 (P5.oth h2.next _ (by omega) A5') rfl rfl (Nat.le_of_ble_eq_true rfl) rfl (f.hx (P5.hx _ Yg (by omega))) (by omega) fun g6 P6 => ?_
      refine WOL.as rfl <| WOL.nil ?_
      exact WL.ret (WL.endCC1 (t:=4) (s:=5) (r:=6) rfl rfl rfl (load_row tp52 (P6.oth h1.next _ (by omega) P5.at_) rfl (Nat.le_of_ble_eq_true rfl)) (load_row tp83 P6.at_ rfl (Nat.le_of_ble_eq_true rfl)) ⟨P6.hx _ (P5.hx _ Yg (by omega)) (by omega),.inl ⟨by simpa using h0,rfl⟩⟩)
  cases hsh:shapeB (n 0) (F 0).length (n 1) (F 1).length with
  | false =>
    rw [hsh] at go
    refine WOL.skp (b:=true) rfl rfl <| WOL.skp (b:=true) rfl rfl <| WOL.skp (b:=true) rfl rfl <| WOL.skp (b:=true) rfl rfl <| WOL.skp (b:=true) rfl rfl <| WOL.skp (b:=true) rfl rfl <| WOL.pkt rfl rfl ?_
    refine WOL.mono (kto (go h7 Z7) ⟨rfl,rfl,rfl,rfl,rfl,rfl,rfl,rfl,rfl,rfl,trivial⟩) ?_
    rintro a g ⟨g',Xg,rfl,q⟩
    exact rest g' Xg a q
  | true =>
    rw [hsh] at go
    refine WOL.now (b:=false) rfl rfl <| WOL.ix rfl rfl ix86_0 <| WOL.now (b:=false) rfl rfl ?_
    refine WOL.ld rfl (load_row tp52 (A2.hx Z7) rfl (Nat.le_of_ble_eq_true rfl)) <| WOL.now (b:=false) rfl rfl <| WOL.ix rfl rfl ix86_2 <| WOL.now (b:=false) rfl rfl ?_
    refine WOL.ld rfl (load_row tp52 (A2.hx Z7) rfl (Nat.le_of_ble_eq_true rfl)) <| WOL.now (b:=false) rfl rfl ?_
    refine WOL.cl2 rfl rfl rfl ((k109 H (s:=s 0) (s':=s 2) (n:=n 0) (n':=n 2) ((r 0).f.hx Y7) ((r 2).f.hx Y7)).mono ?_)
    rintro v h8 ⟨rfl,X8⟩
    refine WOL.now (b:=false) rfl rfl <| WOL.nt rfl <| WOL.pkf rfl rfl ?_
    refine WOL.mono (kto (go h8 (Z7.trans X8)) ⟨rfl,rfl,rfl,rfl,rfl,rfl,rfl,rfl,rfl,rfl,trivial⟩) ?_
    rintro a g ⟨g',Xg,rfl,q⟩
    exact rest g' Xg a q
end Go.Tidy
namespace Go.Tidy
open Go Go.Proofs Tab
variable {tp:TProg}
section
variable {P:Program} {a:Regs} {h:TH} {K:Regs → TH → Prop} {rest:List TOper} {d:Option Tmp} {ty:TypeId} {i:Nat} {f x0 x1 x2 x3 l0:Operand} {ls:List Operand} {fv v0 v1 v2 v3:Value} {ts:Array TypeId}
variable {V:Value → TH → Prop}
end
def rowC (C:Nat → List (Int × Bool)) (i:Nat):List (Int × Bool):=[cellD C 0 i,cellD C 1 i,cellD C 2 i]
def voteL (m:Int) (C:Nat → List (Int × Bool)) (i:Nat):Int × Bool:=voteR m (knownV (rowC C i))
section
variable {m:Int} {C:Nat → List (Int × Bool)}
theorem row_take {i k:Nat} (hk:k < 3):(rowC C i).take (k + 1) = (rowC C i).take k ++ [cellD C k i]:=by
 obtain rfl | rfl | rfl:k = 0 ∨ k = 1 ∨ k = 2:=by omega
 all_goals rfl
theorem knownV_snoc (A:List (Int × Bool)) (c:Int × Bool):knownV (A ++ [c]) = knownV A ++ cond c.2 [c.1] []:=by
 unfold knownV
 rw [List.filter_append,List.map_append]
 congr 1
 cases h:c.2 <;> simp [h]
theorem voteA_L (i:Nat):voteA m C i = cond (voteL m C i).2 ((voteL m C i).1,true) (0,false):=by
 show voteS m (insL (knownV (rowC C i)) (knownV (rowC C i)).length) = _
 exact vote_join m _ (by have:=knownV_le (rowC C i); simpa [rowC] using this)
end
theorem ix82 {c k:Nat} (hk:k < 3):indexAddrT Tryz.prog 82 (.pointer (some ⟨c,0,none⟩)) (zi (k:Nat)) = some (.pointer (some ⟨c,4 * k,none⟩)):=by
 have e0:indexAddrT Tryz.prog 82 (.pointer (some ⟨c,0,none⟩)) (zi 0) = some (.pointer (some ⟨c,0,none⟩)):=by kernel_rfl
 have e1:indexAddrT Tryz.prog 82 (.pointer (some ⟨c,0,none⟩)) (zi 1) = some (.pointer (some ⟨c,4,none⟩)):=by kernel_rfl
 have e2:indexAddrT Tryz.prog 82 (.pointer (some ⟨c,0,none⟩)) (zi 2) = some (.pointer (some ⟨c,8,none⟩)):=by kernel_rfl
 obtain rfl | rfl | rfl:k = 0 ∨ k = 1 ∨ k = 2:=by omega
 ·exact e0
 ·exact e1
 ·exact e2
def cells12 (s:Nat → ByteArray) (n:Nat → Int) (v1 v2:Nat → Value):List Value:=[.string (s 0),zi (n 0),v1 0,v2 0,.string (s 1),zi (n 1),v1 1,v2 1,.string (s 2),zi (n 2),v1 2,v2 2]
end Go.Tidy
namespace Go.Tidy
open Go Go.Proofs Tab
variable {tp:TProg}
theorem cond_self (y:Int):cond (y != 0) y 0 = y:=by
 by_cases h:y = 0
 ·subst h; rfl
 ·rw [show (y != 0) = true by simpa using h]; rfl
theorem firstNZ_join:∀ l l':List Int,firstNZ [firstNZ l,firstNZ l'] = firstNZ (l ++ l')
 | [],l' => by
  show cond (firstNZ l' != 0) (firstNZ l') 0 = _
  rw [cond_self]; rfl
 | x :: r,l' => by
  have ih:=firstNZ_join r l'
  show cond (cond (x != 0) x (firstNZ r) != 0) (cond (x != 0) x (firstNZ r)) (cond (firstNZ l' != 0) (firstNZ l') 0) = cond (x != 0) x (firstNZ (r ++ l'))
  cases hx:(x != 0) with
  | true => rw [cond_true,cond_true,hx]; rfl
  | false => rw [cond_false,cond_false,← ih]; rfl
theorem load_wide {P:Program} {h:TH} {t:TypeId} {b off n:Nat} {c l:List Value} {fix wr:Bool} {el:TypeId} (hi:(P.info? t).map (fun i => i.size) = some n) (hd:(P.underlying t).map isRow = some true) (hg:At h b (.cells c fix wr el)) (hl:(c.drop off).take n = l) (hn:off + n ≤ c.length):loadT P t (.pointer (some ⟨b,off,none⟩)) h = some (.agg l.toArray):=by
 rw [Option.map_eq_some_iff] at hi hd
 obtain ⟨inf,q1,q2⟩:=hi
 obtain ⟨d,q3,q4⟩:=hd
 have hb:Nat.ble (off + n) c.length = true:=by rw [Nat.ble_eq]; exact hn
 simp only [loadT,q3,q1,q4,Bool.cond_true,cellsAt,hg.get,q2,hb,hl,Option.map_some]
theorem w82:(Tryz.prog.info? 82).map (fun i => i.size) = some 12:=by kernel_rfl
theorem d82:(Tryz.prog.underlying 82).map isRow = some true:=by kernel_rfl
section
variable {s:Nat → ByteArray} {n:Nat → Int} {v1 v2:Nat → Value} {F:Nat → List Nat} {S:Nat → List (Int × Int)} {es L:Nat → List Int} {h:TH}
set_option maxHeartbeats 4000000 in
set_option maxRecDepth 10000 in
theorem k54 (H:Has tp) (r:∀ k,RunH h (v1 k) (v2 k) (F k) (S k)) (hE:∀ k,SErr (F k) (es k)) (hL:∀ k,firstNZ (es k) = 0 → Lev (F k) (L k)) (hF:∀ k,(F k).length ≤ 900000) (hS:∀ k,(S k).length ≤ 900000) :
  CallW Tryz.prog tp (.func (.func 54) #[] #[]) #[runs3 s n v1 v2] h fun v h' => v = zi (firstNZ [runE (s 0) (n 0) (F 0).length (S 0) (es 0) (L 0),runE (s 1) (n 1) (F 1).length (S 1) (es 1) (L 1),runE (s 2) (n 2) (F 2).length (S 2) (es 2) (L 2),cond (!shapeB (n 0) (F 0).length (n 1) (F 1).length || !shapeB (n 0) (F 0).length (n 2) (F 2).length) 2 0]) ∧ HX h h':=by
 refine CallW.fnL (H.fn 54 f54 rfl rfl) ?_
 refine WL.sr <| WOL.box rfl fun h1 N1 => WOL.as rfl <| WOL.nil <| keep [(1,_)] ⟨rfl,trivial⟩ ?_
 have A2:At h1 h.next (.cells (cells12 s n v1 v2) true true 82):=N1.at_
 have X1:=N1.hx
 refine WL.sr <| WOL.ix rfl rfl (ix82 (k:=0) (by decide)) ?_
 refine WOL.ld rfl (load_row tp46 A2 rfl (Nat.le_of_ble_eq_true rfl)) <| WOL.ix rfl rfl (ix82 (k:=1) (by decide)) ?_
 refine WOL.ld rfl (load_row tp46 A2 rfl (Nat.le_of_ble_eq_true rfl)) <| WOL.ix rfl rfl (ix82 (k:=2) (by decide)) ?_
 refine WOL.ld rfl (load_row tp46 A2 rfl (Nat.le_of_ble_eq_true rfl)) <| WOL.ix rfl rfl (ix82 (k:=0) (by decide)) ?_
 refine WOL.ld rfl (load_row tp46 A2 rfl (Nat.le_of_ble_eq_true rfl)) <| WOL.ix rfl rfl (ix82 (k:=1) (by decide)) ?_
 refine WOL.ld rfl (load_row tp46 A2 rfl (Nat.le_of_ble_eq_true rfl)) ?_
 refine WOL.lk1 rfl rfl fun M => ((k31 H (s:=s 0) (n:=n 0) (((r 0).hx X1).relock' M) (hE 0) (hL 0) (by have:=hF 0; omega) (by have:=hS 0; omega)).mono ?_)
 rintro v h4 ⟨rfl,X4⟩
 replace X4:=X4.relock
 generalize h4.withLock h1.lock = h4 at *
 have Y4:=X1.trans X4
 refine WOL.lk1 rfl rfl fun M => ((k31 H (s:=s 1) (n:=n 1) (((r 1).hx Y4).relock' M) (hE 1) (hL 1) (by have:=hF 1; omega) (by have:=hS 1; omega)).mono ?_)
 rintro v h5 ⟨rfl,X5⟩
 replace X5:=X5.relock
 generalize h5.withLock h4.lock = h5 at *
 have Y5:=Y4.trans X5
 refine WOL.lk1 rfl rfl fun M => ((k31 H (s:=s 2) (n:=n 2) (((r 2).hx Y5).relock' M) (hE 2) (hL 2) (by have:=hF 2; omega) (by have:=hS 2; omega)).mono ?_)
 rintro v h6 ⟨rfl,X6⟩
 replace X6:=X6.relock
 generalize h6.withLock h5.lock = h6 at *
 have Y6:=Y5.trans X6
 refine WOL.cl2 rfl rfl rfl ((k110 H (s:=s 0) (s':=s 1) (n:=n 0) (n':=n 1) ((r 0).f.hx Y6) ((r 1).f.hx Y6)).mono ?_)
 rintro v h7 ⟨rfl,X7⟩
 have Y7:=Y6.trans X7
 have Z7:=((X4.trans X5).trans X6).trans X7
 refine WOL.nt rfl <| WOL.mv rfl ?_
 have go:∀ g,HX h g → ∀ a,Kn [(5,zi (runE (s 0) (n 0) (F 0).length (S 0) (es 0) (L 0))),(8,zi (runE (s 1) (n 1) (F 1).length (S 1) (es 1) (L 1))),(11,zi (runE (s 2) (n 2) (F 2).length (S 2) (es 2) (L 2))),(25,.bool (!shapeB (n 0) (F 0).length (n 1) (F 1).length || !shapeB (n 0) (F 0).length (n 2) (F 2).length))] a → WO Tryz.prog tp (r54_1.drop 23) a g (fun a g => W Tryz.prog tp false .ret a g (Fin Tryz.prog [.tmp 2] fun v h' => v = zi (firstNZ [runE (s 0) (n 0) (F 0).length (S 0) (es 0) (L 0),runE (s 1) (n 1) (F 1).length (S 1) (es 1) (L 1),runE (s 2) (n 2) (F 2).length (S 2) (es 2) (L 2),cond (!shapeB (n 0) (F 0).length (n 1) (F 1).length || !shapeB (n 0) (F 0).length (n 2) (F 2).length) 2 0]) ∧ HX h h')):=by
  intro g Xg
  refine WOL.cl2 rfl rfl rfl ((k32 H _ _ _).mono ?_)
  rintro v g1 ⟨rfl,rfl⟩
  refine WOL.bsl rfl u29 tp3 (by decide) (by decide) (by decide) (filled_ints4 _ _ _ _) fun h8 N8 => ?_
  refine WOL.cl1 rfl rfl ((k13 H (l:=[_,_,_,_]) N8.at_.get (by simp)).mono ?_)
  rintro v h8 ⟨rfl,rfl⟩
  refine WOL.as rfl <| WOL.nil ?_
  exact WL.done rfl ⟨rfl,Xg.trans N8.hx⟩
 cases hsh:shapeB (n 0) (F 0).length (n 1) (F 1).length with
 | false =>
  rw [hsh] at go
  refine WOL.skp (b:=true) rfl rfl <| WOL.skp (b:=true) rfl rfl <| WOL.skp (b:=true) rfl rfl <| WOL.skp (b:=true) rfl rfl <| WOL.skp (b:=true) rfl rfl <| WOL.skp (b:=true) rfl rfl <| WOL.pkt rfl rfl ?_
  exact kto (go h7 Y7) ⟨rfl,rfl,rfl,rfl,trivial⟩
 | true =>
  rw [hsh] at go
  refine WOL.now (b:=false) rfl rfl <| WOL.ix rfl rfl (ix82 (k:=0) (by decide)) <| WOL.now (b:=false) rfl rfl ?_
  refine WOL.ld rfl (load_row tp46 (A2.hx Z7) rfl (Nat.le_of_ble_eq_true rfl)) <| WOL.now (b:=false) rfl rfl <| WOL.ix rfl rfl (ix82 (k:=2) (by decide)) <| WOL.now (b:=false) rfl rfl ?_
  refine WOL.ld rfl (load_row tp46 (A2.hx Z7) rfl (Nat.le_of_ble_eq_true rfl)) <| WOL.now (b:=false) rfl rfl ?_
  refine WOL.cl2 rfl rfl rfl ((k110 H (s:=s 0) (s':=s 2) (n:=n 0) (n':=n 2) ((r 0).f.hx Y7) ((r 2).f.hx Y7)).mono ?_)
  rintro v h8 ⟨rfl,X8⟩
  refine WOL.now (b:=false) rfl rfl <| WOL.nt rfl <| WOL.pkf rfl rfl ?_
  exact kto (go h8 (Y7.trans X8)) ⟨rfl,rfl,rfl,rfl,trivial⟩
end
theorem k55 (H:Has tp) {b:Nat} {e:Int} {h:TH} (eL:SampleE b e):CallW Tryz.prog tp (.func (.func 55) #[] #[]) #[.float .f32 b] h fun v h' => v = zi (firstNZ [e,cond (lt0 b) 3 0]) ∧ HX h h':=by
 refine CallW.fnL (H.fn 55 f55 rfl rfl) ?_
 refine WL.sr <| WOL.as rfl <| WOL.nil <| keep [(0,_)] ⟨rfl,trivial⟩ ?_
 refine WL.sr <| WOL.mv rfl ?_
 refine WOL.cl1 rfl rfl ((k22 H eL h).mono ?_)
 rintro v g ⟨rfl,rfl⟩
 refine WOL.mv rfl <| WOL.flz rfl rfl ?_
 refine WOL.cl2 rfl rfl rfl ((k32 H _ _ _).mono ?_)
 rintro v g1 ⟨rfl,rfl⟩
 refine WOL.bsl rfl u29 tp3 (by decide) (by decide) (by decide) (filled_ints _ _) fun h8 N8 => ?_
 refine WOL.cl1 rfl rfl ((k13 H (l:=[_,_]) N8.at_.get (by simp)).mono ?_)
 rintro v h8 ⟨rfl,rfl⟩
 refine WOL.as rfl <| WOL.nil ?_
 exact WL.done rfl ⟨rfl,N8.hx⟩
end Go.Tidy
namespace Go.Tidy
open Go Go.Proofs Tab
variable {tp:TProg}
theorem bd86 {s0 s1 s2:ByteArray} {n0 n1 n2:Int} {a0 b0 a1 b1 a2 b2:Value}:buildT Tryz.prog 86 [(0,runV s0 n0 a0 b0),(1,runV s1 n1 a1 b1),(2,runV s2 n2 a2 b2)] = some (.agg #[.string s0,zi n0,a0,b0,.string s1,zi n1,a1,b1,.string s2,zi n2,a2,b2]):=by kernel_rfl
theorem WOL.idx {P:Program} {h:TH} {K:Regs → TH → Prop} {rest:List TOper} {d:Option Tmp} {ty:TypeId} {i:Nat} {x y:Operand} {t:TypeId} {L:Rg} {cs:Array Value} {k:IntKind} {z:Int} {v:Value} (hx:getL L x = some (.agg cs)) (hy:getL L y = some (.int k z)) (hv:indexT P t (.agg cs) (.int k z) = some v) (w:∀ a,Kn (putL L d v) a → WO P tp rest a h K):∀ a,Kn L a → WO P tp (⟨d,.index t x y,ty,none,[],i⟩ :: rest) a h K:=fun a q => by
 have ex:=getO_eval (q.o hx)
 have ey:=getO_eval (q.o hy)
 exact WO.op (h1:=h) rfl rfl (fun call => by simp [stepOp,heapFirst,fastOp,valueOp,ex,ey,hv]) (w _ (q.put d _))
theorem idx82 {s:Nat → ByteArray} {n:Nat → Int} {v1 v2:Nat → Value} {k:Nat} (hk:k < 3):indexT Tryz.prog 82 (.agg (cells12 s n v1 v2).toArray) (zi (k:Nat)) = some (runV (s k) (n k) (v1 k) (v2 k)):=by
 have e0:indexT Tryz.prog 82 (.agg (cells12 s n v1 v2).toArray) (zi 0) = some (runV (s 0) (n 0) (v1 0) (v2 0)):=by kernel_rfl
 have e1:indexT Tryz.prog 82 (.agg (cells12 s n v1 v2).toArray) (zi 1) = some (runV (s 1) (n 1) (v1 1) (v2 1)):=by kernel_rfl
 have e2:indexT Tryz.prog 82 (.agg (cells12 s n v1 v2).toArray) (zi 2) = some (runV (s 2) (n 2) (v1 2) (v2 2)):=by kernel_rfl
 obtain rfl | rfl | rfl:k = 0 ∨ k = 1 ∨ k = 2:=by omega
 ·exact e0
 ·exact e1
 ·exact e2
def Tail3 (s:Nat → ByteArray) (n:Nat → Int) (F:Nat → List Nat) (S:Nat → List (Int × Int)) (es L:Nat → List Int):Prop:=∀ k,2 ≤ k → s k = s 2 ∧ n k = n 2 ∧ F k = F 2 ∧ S k = S 2 ∧ es k = es 2 ∧ L k = L 2
section
variable {s:Nat → ByteArray} {n:Nat → Int} {v1 v2:Nat → Value} {F:Nat → List Nat} {S:Nat → List (Int × Int)} {es L:Nat → List Int} {h:TH} {lb:Nat} {el:Int}
theorem Tail3.some (t:Tail3 s n F S es L):∀ k,∃ j,j < 3 ∧ s k = s j ∧ n k = n j ∧ F k = F j ∧ S k = S j ∧ es k = es j ∧ L k = L j:=by
 intro k
 by_cases h0:k = 0
 ·subst h0; exact ⟨0,by decide,rfl,rfl,rfl,rfl,rfl,rfl⟩
 ·by_cases h1:k = 1
  ·subst h1; exact ⟨1,by decide,rfl,rfl,rfl,rfl,rfl,rfl⟩
  ·exact ⟨2,by decide,t k (by omega)⟩
theorem three_valid (t:Tail3 s n F S es L) (hL:∀ k,firstNZ (es k) = 0 → Lev (F k) (L k)) (hEE:voteE (fun k => runE (s k) (n k) (F k).length (S k) (es k) (L k)) n (fun k => (F k).length) el lb = 0):(∀ k,Valid (s k) (n k) (F k) (S k) (L k)) ∧ ∀ k,(F k).length = (F 0).length:=by
  have z:=firstNZ_zero hEE
  have e0:=z _ (List.mem_cons_self ..)
  have e1:=z _ (List.mem_cons_of_mem _ (List.mem_cons_self ..))
  have e2:=z _ (List.mem_cons_of_mem _ (List.mem_cons_of_mem _ (List.mem_cons_self ..)))
  have e3:=z _ (List.mem_cons_of_mem _ (List.mem_cons_of_mem _ (List.mem_cons_of_mem _ (List.mem_cons_self ..))))
  have ek:∀ k,runE (s k) (n k) (F k).length (S k) (es k) (L k) = 0:=by
    intro k
    obtain ⟨j,hj,q1,q2,q3,q4,q5,q6⟩:=t.some k
    rw [q1,q2,q3,q4,q5,q6]
    obtain rfl | rfl | rfl:j = 0 ∨ j = 1 ∨ j = 2:=by omega
    · exact e0
    · exact e1
    · exact e2
  have sh:(F 1).length = (F 0).length ∧ (F 2).length = (F 0).length:=by
    have e3:cond (!shapeB (n 0) (F 0).length (n 1) (F 1).length || !shapeB (n 0) (F 0).length (n 2) (F 2).length) (2:Int) 0 = 0:=e3
    cases g1:shapeB (n 0) (F 0).length (n 1) (F 1).length with
    | false => rw [g1] at e3; cases e3
    | true =>
      cases g2:shapeB (n 0) (F 0).length (n 2) (F 2).length with
      | false => rw [g1,g2] at e3; cases e3
      | true =>
        unfold shapeB at g1 g2
        simp at g1 g2
        omega
  refine ⟨fun k => valid_of (hL k) (ek k),fun k => ?_⟩
  obtain ⟨j,hj,q1,q2,q3,q4,q5,q6⟩:=t.some k
  rw [q3]
  obtain rfl | rfl | rfl:j = 0 ∨ j = 1 ∨ j = 2:=by omega
  · rfl
  · exact sh.1
  · exact sh.2
end
end Go.Tidy
namespace Go.Tidy
open Go Go.Proofs Tab
variable {tp:TProg}
def three {α:Type} (a b c:α) (k:Nat):α:=match k with | 0 => a | 1 => b | _ => c
theorem three_two {α:Type} {a b c:α}:∀ k,2 ≤ k → three a b c k = c
 | 0,h => by omega
 | 1,h => by omega
 | _ + 2,_ => rfl
theorem three_all {p:Nat → Prop} (h0:p 0) (h1:p 1) (h2:∀ k,p (k + 2)):∀ k,p k
 | 0 => h0
 | 1 => h1
 | k + 2 => h2 k
section
variable {s:Nat → ByteArray} {n:Nat → Int} {v1 v2:Nat → Value} {F:Nat → List Nat} {S:Nat → List (Int × Int)} {es L:Nat → List Int} {h:TH} {lb:Nat} {el:Int}
end
attribute [local irreducible] Ty valOf
theorem u82:Tryz.prog.underlying 82 = some (.array 3 46):=by kernel_rfl
theorem ty_runs3 {h:TH} {n:Nat} {ps:List Value} (y:Ty Tryz.prog h (n + 5) 82 ps):∃ (s:Nat → ByteArray) (z:Nat → Int) (v1 v2:Nat → Value) (F:Nat → List Nat) (S:Nat → List (Int × Int)) (es L:Nat → List Int),ps = cells12 s z v1 v2 ∧ Tail3 s z F S es L ∧ (∀ k,RunH h (v1 k) (v2 k) (F k) (S k)) ∧ (∀ k,SErr (F k) (es k)) ∧ ∀ k,firstNZ (es k) = 0 → Lev (F k) (L k):=by
 obtain ⟨p,q,rfl,_,y1,p',q',rfl,_,y2,p3,q3,rfl,_,y3,rfl⟩:=tyg_array u82 y
 obtain ⟨s0,z0,a0,b0,F0,S0,rfl,r0⟩:=ty_run y1
 obtain ⟨s1,z1,a1,b1,F1,S1,rfl,r1⟩:=ty_run y2
 obtain ⟨s2,z2,a2,b2,F2,S2,rfl,r2⟩:=ty_run y3
 obtain ⟨e0,L0,g0,l0⟩:=lev_some F0
 obtain ⟨e1,L1,g1,l1⟩:=lev_some F1
 obtain ⟨e2,L2,g2,l2⟩:=lev_some F2
 exact ⟨three s0 s1 s2,three z0 z1 z2,three a0 a1 a2,three b0 b1 b2,three F0 F1 F2,three S0 S1 S2,three e0 e1 e2,three L0 L1 L2,rfl,
  fun k hk => ⟨three_two k hk,three_two k hk,three_two k hk,three_two k hk,three_two k hk,three_two k hk⟩,
  three_all r0 r1 fun _ => r2,three_all g0 g1 fun _ => g2,three_all l0 l1 fun _ => l2⟩
end Go.Tidy
namespace Go.Tidy
open Go Go.Proofs Tab
variable {tp:TProg}
structure Sx (b:Nat) (n:Int):Prop where
 ok:∃ neg q,V32 b neg q ∧ (∀ D,2 ^ 149 = D → q * 16 = n.natAbs * D) ∧ sg neg n.natAbs = n
theorem Samp.x {b:Nat} {n:Int} (s:Samp b n):Sx b n:=⟨s.ok⟩
theorem Sx.nan {b:Nat} {n:Int} (s:Sx b n):nanB .f32 b = false:=by
 obtain ⟨neg,q,h,_⟩:=s.ok
 exact h.nan
theorem Sx.order {b c:Nat} {n m:Int} (s:Sx b n) (t:Sx c m):Ieee.single.order b c = some (compare n m):=by
 obtain ⟨neg,q,h1,h2,h3⟩:=s.ok
 obtain ⟨neg',q',g1,g2,g3⟩:=t.ok
 obtain ⟨D,hD⟩:∃ D:Nat,2 ^ 149 = D:=⟨_,rfl⟩
 have hDp:0 < D:=by rw [← hD]; exact two_pow_pos 149
 have e1:=h2 D hD
 have e2:=g2 D hD
 have a1:sg neg q * (16:Nat) = n * (D:Nat):=by rw [← sg_mul,e1,sg_mul,h3]
 have a2:sg neg' q' * (16:Nat) = m * (D:Nat):=by rw [← sg_mul,e2,sg_mul,g3]
 rw [h1.order g1]
 generalize sg neg q = x at *
 generalize sg neg' q' = y at *
 have hDi:(0:Int) < (D:Int):=by omega
 have hlt:x < y ↔ n < m:=by
  constructor
  ·intro hq
   have:n * (D:Int) < m * (D:Int):=by rw [← a1,← a2]; omega
   exact Int.lt_of_mul_lt_mul_right this (by omega)
  ·intro hq
   have:n * (D:Int) < m * (D:Int):=Int.mul_lt_mul_of_pos_right hq hDi
   rw [← a1,← a2] at this
   omega
 have heq:x = y ↔ n = m:=by
  constructor
  ·intro hq
   rw [hq,a2] at a1
   exact (Int.eq_of_mul_eq_mul_right (by omega) a1).symm
  ·intro hq
   rw [hq,← a2] at a1
   omega
 congr 1
 show compareOfLessAndEq _ _ = compareOfLessAndEq _ _
 unfold compareOfLessAndEq
 simp only [hlt,heq]
theorem sg_not (s:Bool) (q:Nat):sg (!s) q = -sg s q:=by
 unfold sg
 cases s <;> simp
theorem sg_sign {z:Int} {P:Nat} {w:Int} {s t:Bool} (hP:0 < P) (h:w = z * (P:Int) ∨ z = w * (P:Int)):sg (if z = 0 then s && t else decide (z < 0)) w.natAbs = w:=by
  by_cases hz:z = 0
  · have hw:w = 0:=by
      rcases h with h | h
      · rw [h,hz,Int.zero_mul]
      · rw [hz] at h
        rcases Int.mul_eq_zero.1 h.symm with h | h
        · exact h
        · omega
    rw [if_pos hz,hw]
    cases s && t <;> rfl
  · rw [if_neg hz]
    have hPi:(0:Int) < (P:Int):=by omega
    have key:z < 0 ↔ w < 0:=by
      rcases h with h | h
      · rw [h]
        constructor
        · intro hl
          have:=Int.mul_lt_mul_of_pos_right hl hPi
          omega
        · intro hl
          have:z * (P:Int) < 0 * (P:Int):=by omega
          exact Int.lt_of_mul_lt_mul_right this (by omega)
      · rw [h]
        constructor
        · intro hl
          have:w * (P:Int) < 0 * (P:Int):=by omega
          exact Int.lt_of_mul_lt_mul_right this (by omega)
        · intro hl
          have:=Int.mul_lt_mul_of_pos_right hl hPi
          omega
    unfold sg
    by_cases hl:w < 0
    · rw [decide_eq_true (key.2 hl),if_pos rfl]; omega
    · rw [decide_eq_false (fun q => hl (key.1 q)),if_neg (by decide)]; omega
theorem arr1 {z w:Int} {P Q D:Nat} (hP:0 < P) (h:z * (P:Int) * 16 = w * (D:Int)) (hq:Q * P * 16 = D):z = w * (Q:Int):=by
 subst hq
 refine Int.eq_of_mul_eq_mul_right (a:=(P:Int) * 16) (by omega) ?_
 rw [← Int.mul_assoc,h,Int.natCast_mul,Int.natCast_mul,Int.mul_assoc,Int.mul_assoc]
 rfl
theorem arr2 {z w:Int} {P Q D:Nat} (hD:0 < D) (h:z * (P:Int) * 16 = w * (D:Int)) (hq:D * Q = P * 16):w = z * (Q:Int):=by
 refine Int.eq_of_mul_eq_mul_right (a:=(D:Int)) (by omega) ?_
 rw [← h,Int.mul_assoc,Int.mul_assoc]
 have e:(P:Int) * 16 = ((P * 16:Nat):Int):=by rw [Int.natCast_mul]; rfl
 rw [e,← hq,Int.natCast_mul,Int.mul_comm (D:Int)]
theorem arr3 {Z P Q D:Nat} (hq:D * Q = P * 16):Z * P * 16 = Z * Q * D:=by
 rw [Nat.mul_assoc,← hq,Nat.mul_assoc,Nat.mul_comm D]
theorem Sx.sub {b c:Nat} {n m:Int} (s:Sx b n) (t:Sx c m) (hn:n.natAbs ≤ 100000) (hm:m.natAbs ≤ 100000):∃ r,Ieee.single.sub b c = some r ∧ Sx r (n - m):=by
 obtain ⟨s1,q1,⟨m1,k1,r1,p1,l1⟩,h2,h3⟩:=s.ok
 obtain ⟨s2,q2,⟨m2,k2,r2,p2,l2⟩,g2,g3⟩:=t.ok
 obtain ⟨D,hD⟩:∃ D:Nat,2 ^ 149 = D:=⟨_,rfl⟩
 have hDp:0 < D:=by rw [← hD]; exact two_pow_pos 149
 have e1:=h2 D hD
 have e2:=g2 D hD
 have a1:sg s1 q1 * (16:Nat) = n * (D:Nat):=by rw [← sg_mul,e1,sg_mul,h3]
 have a2:sg s2 q2 * (16:Nat) = m * (D:Nat):=by rw [← sg_mul,e2,sg_mul,g3]
 obtain ⟨K,hK⟩:∃ K,min k1 k2 = K:=⟨_,rfl⟩
 have hmin:min ((-149:Int) + (k1:Int)) (-149 + (k2:Int)) = -149 + (K:Int):=by omega
 obtain ⟨z,hz⟩:∃ z:Int,sg s1 (m1 * 2 ^ (k1 - K)) + sg (!s2) (m2 * 2 ^ (k2 - K)) = z:=⟨_,rfl⟩
 have hsub:Ieee.single.sub b c = some (Ieee.single.nearest (if z = 0 then s1 && !s2 else decide (z < 0)) z.natAbs (-149 + (K:Int))):=by
  unfold Ieee.Format.sub
  rw [r1,r2]
  show (Ieee.Datum.sum (.number s1 m1 (-149 + (k1:Int))) (.number (!s2) m2 (-149 + (k2:Int)))).map _ = _
  unfold Ieee.Datum.sum
  simp only [hmin,signed_sg]
  rw [show ((-149:Int) + (k1:Int) - (-149 + (K:Int))).toNat = k1 - K by omega,show ((-149:Int) + (k2:Int) - (-149 + (K:Int))).toNat = k2 - K by omega,hz]
  rfl
 have pk1:m1 * 2 ^ (k1 - K) * 2 ^ K = q1:=by rw [Nat.mul_assoc,← Nat.pow_add,show k1 - K + K = k1 by omega,p1]
 have pk2:m2 * 2 ^ (k2 - K) * 2 ^ K = q2:=by rw [Nat.mul_assoc,← Nat.pow_add,show k2 - K + K = k2 by omega,p2]
 have hzP:z * ((2 ^ K:Nat):Int) * 16 = (n - m) * (D:Int):=by
  rw [← hz,Int.add_mul,← sg_mul,← sg_mul,pk1,pk2,sg_not,Int.sub_mul,← a1,← a2]
  omega
 by_cases hK2:K ≤ 145
 ·have hpw:2 ^ (145 - K) * 2 ^ K * 16 = D:=by
   rw [← Nat.pow_add,show 145 - K + K = 145 by omega,← hD]
  have hzz:z = (n - m) * ((2 ^ (145 - K):Nat):Int):=arr1 (two_pow_pos K) hzP hpw
  have hab:z.natAbs = (n - m).natAbs * 2 ^ (145 - K):=by rw [hzz,Int.natAbs_mul,Int.natAbs_natCast]
  refine ⟨_,hsub,⟨⟨(if z = 0 then s1 && !s2 else decide (z < 0)),(n - m).natAbs * 2 ^ 145,?_,?_,sg_sign (s:=s1) (t:=!s2) (P:=2 ^ (145 - K)) (two_pow_pos _) (.inr hzz)⟩⟩⟩
  ·rw [hab,nearest_shift Ieee.single _ (n - m).natAbs (145 - K) _ (by show _ < 2 ^ 24; omega) (by rw [lp32]; omega)]
   exact near32 (by omega) _ (by omega) (by decide)
  ·intro D' hD'
   rw [Nat.mul_assoc,← hD']
 ·have hpw:D * 2 ^ (K - 145) = 2 ^ K * 16:=by
   rw [← hD]
   exact (Nat.pow_add 2 149 (K - 145)).symm.trans ((congrArg (fun x => 2 ^ x) (show 149 + (K - 145) = K + 4 by omega)).trans (Nat.pow_add 2 K 4))
  have hzz:n - m = z * ((2 ^ (K - 145):Nat):Int):=arr2 hDp hzP hpw
  have hab:(n - m).natAbs = z.natAbs * 2 ^ (K - 145):=by rw [hzz,Int.natAbs_mul,Int.natAbs_natCast]
  have hle:z.natAbs ≤ (n - m).natAbs:=by rw [hab]; exact Nat.le_mul_of_pos_right _ (two_pow_pos _)
  refine ⟨_,hsub,⟨⟨(if z = 0 then s1 && !s2 else decide (z < 0)),_,near32 (m:=z.natAbs) (k:=K) (by omega) _ rfl (by omega),?_,sg_sign (s:=s1) (t:=!s2) (P:=2 ^ (K - 145)) (two_pow_pos _) (.inl hzz)⟩⟩⟩
  intro D' hD'
  rw [hab,← hD',hD]
  exact arr3 hpw
end Go.Tidy
namespace Go.Tidy
open Go Go.Proofs Tab
variable {tp:TProg}
theorem read2':Ieee.single.read 1073741824 = .number false 8388608 (-22):=by decide
theorem mul2' {b:Nat} {neg:Bool} {m k:Nat} (N:N32 b neg m k) (hk:k ≤ 200):∃ c,Ieee.single.mul 1073741824 b = some c ∧ V32 c neg (m * 2 ^ (k + 1)):=by
 have e0:(-22:Int) + (-149 + (k:Int)) + (23:Nat) = -148 + k:=by omega
 have hsh:=nearest_shift Ieee.single neg m 23 (-22 + (-149 + (k:Int))) N.hm (by rw [lp32,e0]; omega)
 rw [e0] at hsh
 refine ⟨Ieee.single.nearest neg m (-148 + k),?_,near32 N.hm _ (by omega) (by omega)⟩
 unfold Ieee.Format.mul
 rw [read2',N.read]
 show some (Ieee.single.nearest (false ^^ neg) (8388608 * m) (-22 + (-149 + (k:Int)))) = _
 rw [← hsh,Nat.mul_comm]
 congr 1
 cases neg <;> rfl
theorem Samp.two {b:Nat} {n:Int} (s:Samp b n):∃ r,Ieee.single.mul 1073741824 b = some r ∧ Sx r (2 * n):=by
  obtain ⟨neg,q,hV,h2,h3⟩:=s.ok
  obtain ⟨D,hD⟩:∃ D:Nat,2 ^ 149 = D:=⟨_,rfl⟩
  have hDp:0 < D:=by rw [← hD]; exact two_pow_pos 149
  have e1:=h2 D hD
  have hlim:=s.lim
  rcases single_cases b with h | ⟨s',h⟩ | ⟨neg',m,k,N⟩
  · rw [s.nan] at h; cases h
  · obtain ⟨m',k',r,_⟩:=hV.ok
    rw [h] at r; cases r
  · obtain ⟨m',k',r1,r2,r3⟩:=hV.ok
    rw [N.read] at r1
    simp only [Ieee.Datum.number.injEq] at r1
    obtain ⟨e2,e3,r4⟩:=r1
    subst e2 e3
    obtain rfl:k = k':=by omega
    have hk:k ≤ 200:=by
      by_cases hm0:m = 0
      · rw [N.hz hm0]; omega
      · by_cases hk:k ≤ 200
        · exact hk
        · have h1:2 ^ k ≤ m * 2 ^ k:=Nat.le_mul_of_pos_left _ (by omega)
          have h2:2 ^ 201 ≤ 2 ^ k:=Nat.pow_le_pow_right (by decide) (by omega)
          have h3:16384 * D < 2 ^ 201:=by rw [← hD]; decide
          have h4:n.natAbs * D ≤ 16384 * D:=Nat.mul_le_mul_right _ hlim
          omega
    obtain ⟨c,c1,c2⟩:=mul2' N hk
    refine ⟨c,c1,⟨neg',_,c2,?_,?_⟩⟩
    · intro D' hD'
      rw [Int.natAbs_mul,show (2:Int).natAbs = 2 from rfl,Nat.mul_assoc 2,← h2 D' hD',← r2,Nat.pow_succ,Nat.mul_comm (2 ^ k) 2,Nat.mul_left_comm m 2,Nat.mul_assoc 2]
    · rw [Int.natAbs_mul,show (2:Int).natAbs = 2 from rfl,Nat.mul_comm,sg_mul,h3]
      omega
section
variable {P:Program} {h:TH} {K:Regs → TH → Prop} {rest:List TOper} {d:Option Tmp} {ty:TypeId} {i:Nat} {x y:Operand} {t u:TypeId} {L:Rg}
theorem WO.fsub {a:Regs} {k:FloatKind} {b c r:Nat} (hx:getO a x = some (.float k b)) (hy:getO a y = some (.float k c)) (hb:nanB k b = false) (hc:nanB k c = false) (hr:k.format.sub b c = some r) (hn:nanB k r = false)
  (w:WO P tp rest (a.put d (.float k r)) h K):WO P tp (⟨d,.binOp .sub t x y u,ty,none,[],i⟩ :: rest) a h K:=by
 have ex:=getO_eval hx
 have ey:=getO_eval hy
 refine WO.plainly rfl rfl rfl (by simp [fastOp,fastBin,ex,ey,hb,hc]) rfl (plainOp_of (by rfl) (fun q hq => ?_) ?_ (plain_float hn)) w
 ·simp only [Op.operands] at hq
  simp at hq
  rcases hq with rfl | rfl
  ·rw [ex]; exact plain_float hb
  ·rw [ey]; exact plain_float hc
 ·simp [toOper,execOp,pv_bind,pv_map,pv_pure,ex,ey,eqGuard,binOp,Op.floatArith,hr]
theorem WOL.fsub {b c:Nat} {m n:Int} (s:Sx b m) (s':Sx c n) (hm:m.natAbs ≤ 100000) (hn:n.natAbs ≤ 100000) (hx:getL L x = some (.float .f32 b)) (hy:getL L y = some (.float .f32 c)) (w:∀ r,Sx r (m - n) → ∀ a,Kn (putL L d (.float .f32 r)) a → WO P tp rest a h K):∀ a,Kn L a → WO P tp (⟨d,.binOp .sub t x y u,ty,none,[],i⟩ :: rest) a h K:=by
 obtain ⟨r,hr,q⟩:=s.sub s' hm hn
 exact fun a k => WO.fsub (k.o hx) (k.o hy) s.nan s'.nan hr q.nan (w r q _ (k.put d _))
theorem WOL.ftwo {b:Nat} {n:Int} (s:Samp b n) (hx:getL L x = some (.float .f32 1073741824)) (hy:getL L y = some (.float .f32 b)) (w:∀ r,Sx r (2 * n) → ∀ a,Kn (putL L d (.float .f32 r)) a → WO P tp rest a h K):∀ a,Kn L a → WO P tp (⟨d,.binOp .mul t x y u,ty,none,[],i⟩ :: rest) a h K:=by
 obtain ⟨r,hr,q⟩:=s.two
 exact fun a k => WO.fmul (k.o hx) (k.o hy) (by decide) s.nan hr q.nan (w r q _ (k.put d _))
theorem cmpI_le {n m:Int}:(some (compare n m) == some Ordering.lt || some (compare n m) == some Ordering.eq) = decide (n ≤ m):=by
 show (some (compareOfLessAndEq n m) == some Ordering.lt || some (compareOfLessAndEq n m) == some Ordering.eq) = _
 unfold compareOfLessAndEq
 by_cases h:n < m
 ·simp [h]; omega
 ·by_cases h2:n = m
  ·simp [h2]
  ·have:¬ n ≤ m:=by omega
   simp [h,h2,this]
theorem WOL.fle {b c:Nat} {m n:Int} (s:Sx b m) (s':Sx c n) (hx:getL L x = some (.float .f32 b)) (hy:getL L y = some (.float .f32 c)) (w:∀ a,Kn (putL L d (.bool (decide (m ≤ n)))) a → WO P tp rest a h K):∀ a,Kn L a → WO P tp (⟨d,.binOp .leq t x y u,ty,none,[],i⟩ :: rest) a h K:=fun a k => WO.fcmp (k.o hx) (k.o hy) s.nan s'.nan (by show some (Ieee.single.order b c == some .lt || Ieee.single.order b c == some .eq) = some (decide (m ≤ n)); rw [s.order s',cmpI_le]) (w _ (k.put d _))
theorem WOL.feq {b c:Nat} {m n:Int} (s:Samp b m) (s':Samp c n) (hx:getL L x = some (.float .f32 b)) (hy:getL L y = some (.float .f32 c)) (w:∀ a,Kn (putL L d (.bool (decide (m = n)))) a → WO P tp rest a h K):∀ a,Kn L a → WO P tp (⟨d,.binOp .eql t x y u,ty,none,[],i⟩ :: rest) a h K:=fun a k => WO.fcmp (k.o hx) (k.o hy) s.nan s'.nan (s.cmp s').1 (w _ (k.put d _))
end
theorem WOL.ne83 {h:TH} {K:Regs → TH → Prop} {rest:List TOper} {d:Option Tmp} {ty:TypeId} {i:Nat} {x y:Operand} {u:TypeId} {L:Rg} {a b c:Int} (hx:getL L x = some (.agg #[zi a,zi b,zi c])) (hy:getL L y = some (.agg #[zi a,zi b,zi c]))
    (w:∀ r,Kn (putL L d (.bool false)) r → WO Tryz.prog tp rest r h K):∀ r,Kn L r → WO Tryz.prog tp (⟨d,.binOp .neq 83 x y u,ty,none,[],i⟩ :: rest) r h K:=by
  intro r k
  have ex:=getO_eval (k.o hx)
  have ey:=getO_eval (k.o hy)
  refine WO.plainly rfl rfl rfl (by simp [fastOp,fastBin,ex,ey]) (by simp [valueOp,ex,ey,eqT_agg]) (plainOp_of (by rfl) (fun q hq => ?_) ?_ rfl) (w _ (k.put d _))
  · simp only [Op.operands] at hq
    simp at hq
    rcases hq with rfl | rfl
    · rw [ex]; rfl
    · rw [ey]; rfl
  · show pv Tryz.prog (execOp r.eval ⟨d, .binOp .neq 83 x y u, ty, "", #[], none⟩) = _
    have hg:Tryz.prog.eqGuardType Tryz.prog.depth 83 = false:=by kernel_rfl
    simp [execOp,pv_bind,pv_map,pv_pure,pv_program,ex,ey,eqGuard,binOp,pv_eq83,hg]
section
variable {m:Int}
theorem voteR_two (a b:Int):voteR m [b,a] = voteR m [a,b]:=by
 simp only [voteR]
 rw [Int.add_comm b a,show max (b - a) (a - b) = max (a - b) (b - a) by omega]
theorem voteR_rot (a b c:Int):voteR m [c,a,b] = voteR m [a,b,c]:=by
 simp only [voteR]
 have h1:min (min c a) b = min (min a b) c:=by omega
 have h2:max (max c a) b = max (max a b) c:=by omega
 have h3:midV c a b = midV a b c:=by unfold midV; omega
 rw [h1,h2,h3]
theorem voteC_R (D:List (Int × Bool)) (h:D.length ≤ 3):voteC m D = cond (voteR m (knownV D)).2 ((voteR m (knownV D)).1,true) (0,false):=vote_join m _ (by have:=knownV_le D; omega)
theorem voteC_rot (x y z:Int × Bool):voteC m [z,x,y] = voteC m [x,y,z]:=by
 rw [voteC_R _ (by simp),voteC_R _ (by simp)]
 have:voteR m (knownV [z,x,y]) = voteR m (knownV [x,y,z]):=by
  unfold knownV
  cases hx:x.2 <;> cases hy:y.2 <;> cases hz:z.2 <;> simp [hx,hy,hz,voteR_two,voteR_rot]
 rw [this]
theorem voteC_twice (hm:0 ≤ m) (x y:Int × Bool) (hx:x.2 = true):voteC m [x,y,x] = (x.1,true):=by
 rw [voteC_R _ (by simp)]
 obtain ⟨a,k⟩:=x
 obtain ⟨b,k'⟩:=y
 cases hx
 cases k' with
 | true =>
  show cond (voteR m [a,b,a]).2 ((voteR m [a,b,a]).1,true) (0,false) = _
  have h3:midV a b a = a:=by unfold midV; omega
  simp only [voteR]
  rw [h3]
  have:(decide (a - min (min a b) a ≤ m) || decide (max (max a b) a - a ≤ m)) = true:=by
   by_cases hab:a ≤ b
   ·rw [decide_eq_true (by omega)]; rfl
   ·rw [decide_eq_true (show max (max a b) a - a ≤ m by omega),Bool.or_true]
  rw [this]; rfl
 | false =>
  show cond (voteR m [a,a]).2 ((voteR m [a,a]).1,true) (0,false) = _
  simp only [voteR]
  have h3:rnd (a + a) 2 = a:=by unfold rnd; omega
  rw [h3,decide_eq_true (by omega)]; rfl
theorem voteC_dark (D:List (Int × Bool)) (h:D.length ≤ 3) (hk:(voteC m D).2 = false):(voteC m D).1 = 0:=by
 rw [voteC_R D h] at hk ⊢
 cases hv:(voteR m (knownV D)).2 with
 | true => rw [hv] at hk; cases hk
 | false => rfl
theorem votes_dark {C:Nat → List (Int × Bool)} {N:Nat}:DarkC (votesC m C N):=by
 intro c hc hk
 obtain ⟨i,hi⟩:=List.getElem?_of_mem hc
 have hlt:i < N:=by
  have:=(List.getElem?_eq_some_iff.1 hi).1
  rwa [votesC_len] at this
 rw [votesC_get hlt] at hi
 cases hi
 exact voteC_dark _ (by simp) hk
end
end Go.Tidy
namespace Go.Tidy
open Go Go.Proofs Tab
variable {tp:TProg}
theorem headC_of {s:ByteArray} {n:Int} {h:TH} {v1 v2:Value} {C:List (Int × Bool)} (r:RunC s n h v1 v2 C):headE s n C.length = 0:=by
 obtain ⟨F,es,_,c⟩:=r
 exact c.head
theorem RunC.forms {s:ByteArray} {n:Int} {h:TH} {v1 v2:Value} {C:List (Int × Bool)} (r:RunC s n h v1 v2 C):∃ b1 l1 k1 b2 l2 k2,v1 = .slice b1 l1 k1 ∧ v2 = .slice b2 l2 k2:=by
 obtain ⟨F,es,r,_⟩:=r
 obtain ⟨b1,k1,e1⟩:=r.f.form
 obtain ⟨b2,k2,e2⟩:=r.s.form
 exact ⟨_,_,_,_,_,_,e1,e2⟩
theorem shapeB_same (n:Int) (m:Nat):shapeB n m n m = true:=by unfold shapeB; simp
set_option maxHeartbeats 2000000 in
set_option maxRecDepth 10000 in
theorem c53 (H:Has tp) (X:HasX tp) {s0 s1 s2:ByteArray} {n:Int} {a0 b0 a1 b1 a2 b2:Value} {C0 C1 C2:List (Int × Bool)} {N lb:Nat} {m:Int} {h:TH} (r0:RunC s0 n h a0 b0 C0) (r1:RunC s1 n h a1 b1 C1) (r2:RunC s2 n h a2 b2 C2) (l0:C0.length = N) (l1:C1.length = N) (l2:C2.length = N) (sm:Samp lb m) (h0:lt0 lb = false) (f:Free0 h.next h) :
    CallW Tryz.prog tp (.func (.func 53) #[] #[]) #[.agg #[.string s0,zi n,a0,b0,.string s1,zi n,a1,b1,.string s2,zi n,a2,b2],.float .f32 lb] h fun v h' => HX h h' ∧ ∃ w1 w2,v = .tuple #[runV s0 n w1 w2,.agg (cel3 (wrN m (three C0 C1 C2) N)).toArray,zi 0] ∧ RunC s0 n h' w1 w2 (votesC m (three C0 C1 C2) N) ∧ Above h.next w1 ∧ Above h.next w2:=by
  have hd:=headC_of r0
  obtain ⟨q1,q2,q3,_,_⟩:=r0.small
  obtain ⟨F0,e0,g0,c0⟩:=r0
  obtain ⟨F1,e1,g1,c1⟩:=r1
  obtain ⟨F2,e2,g2,c2⟩:=r2
  have hh0:=c0.holes
  have hh1:=c1.holes
  have hh2:=c2.holes
  have f0:=c0.len
  have f1:=c1.len
  have f2:=c2.len
  have hC:(fun k => cellsL ((three (C0.map fun c:Int × Bool => c.1) (C1.map fun c:Int × Bool => c.1) (C2.map fun c:Int × Bool => c.1)) k) ((three (holesOf (C0.map fun c:Int × Bool => c.2)) (holesOf (C1.map fun c:Int × Bool => c.2)) (holesOf (C2.map fun c:Int × Bool => c.2))) k)) = three C0 C1 C2:=by
    funext k
    exact three_all (p:=fun k => cellsL ((three (C0.map fun c:Int × Bool => c.1) (C1.map fun c:Int × Bool => c.1) (C2.map fun c:Int × Bool => c.1)) k) ((three (holesOf (C0.map fun c:Int × Bool => c.2)) (holesOf (C1.map fun c:Int × Bool => c.2)) (holesOf (C2.map fun c:Int × Bool => c.2))) k) = three C0 C1 C2 k) c0.c c1.c (fun _ => c2.c) k
  have lim:∀ k c,c ∈ three C0 C1 C2 k → c.1.natAbs ≤ 16384:=fun k => three_all (p:=fun k => ∀ c,c ∈ three C0 C1 C2 k → c.1.natAbs ≤ 16384) c0.lim c1.lim (fun _ => c2.lim) k
  have hF0:((three F0 F1 F2) 0).length = N:=by show F0.length = N; omega
  refine (k53 H X (s:=three s0 s1 s2) (n:=three n n n) (v1:=three a0 a1 a2) (v2:=three b0 b1 b2) (F:=three F0 F1 F2) (S:=three (holesOf (C0.map fun c:Int × Bool => c.2)) (holesOf (C1.map fun c:Int × Bool => c.2)) (holesOf (C2.map fun c:Int × Bool => c.2))) (es:=three e0 e1 e2) (L:=three (C0.map fun c:Int × Bool => c.1) (C1.map fun c:Int × Bool => c.1) (C2.map fun c:Int × Bool => c.1))
    (three_all g0 g1 fun _ => g2) (three_all c0.e c1.e fun _ => c2.e) (three_all (fun _ => c0.lev) (fun _ => c1.lev) fun _ _ => c2.lev)
    (three_all (p:=fun k => (three F0 F1 F2 k).length ≤ 900000) (by show F0.length ≤ _; omega) (by show F1.length ≤ _; omega) fun _ => by show F2.length ≤ _; omega)
    (three_all (p:=fun k => (three (holesOf (C0.map fun c:Int × Bool => c.2)) (holesOf (C1.map fun c:Int × Bool => c.2)) (holesOf (C2.map fun c:Int × Bool => c.2)) k).length ≤ 900000) (by show (holesOf (C0.map fun c:Int × Bool => c.2)).length ≤ _; omega) (by show (holesOf (C1.map fun c:Int × Bool => c.2)).length ≤ _; omega) fun _ => by show (holesOf (C2.map fun c:Int × Bool => c.2)).length ≤ _; omega)
    sm.e0 f (fun k => by
      by_cases h0:k = 0
      · subst h0; exact ⟨0,by decide,rfl,rfl,rfl,rfl,rfl,rfl⟩
      · by_cases h1:k = 1
        · subst h1; exact ⟨1,by decide,rfl,rfl,rfl,rfl,rfl,rfl⟩
        · exact ⟨2,by decide,three_two k (by omega),three_two k (by omega),three_two k (by omega),three_two k (by omega),three_two k (by omega),three_two k (by omega)⟩)
    (E:=0) ?_).mono ?_
  · show firstNZ [runE s0 n F0.length (holesOf (C0.map fun c:Int × Bool => c.2)) e0 (C0.map fun c:Int × Bool => c.1),runE s1 n F1.length (holesOf (C1.map fun c:Int × Bool => c.2)) e1 (C1.map fun c:Int × Bool => c.1),runE s2 n F2.length (holesOf (C2.map fun c:Int × Bool => c.2)) e2 (C2.map fun c:Int × Bool => c.1),cond (!shapeB n F0.length n F1.length || !shapeB n F0.length n F2.length) 2 0,0,cond (lt0 lb) 3 0] = 0
    rw [c0.r,c1.r,c2.r,h0,f0,f1,f2,l0,l1,l2,shapeB_same]
    rfl
  · rintro v h' ⟨X',R⟩
    rcases R with ⟨e,_⟩ | ⟨_,m',w1,w2,sm',rfl,O⟩
    · exact absurd rfl e
    · obtain rfl:m' = m:=by
        have:=(sm'.cmp sm).1
        have h2:=(sm.cmp sm).1
        have:(some (decide (m' = m))) = some (decide (m = m)):=this.symm.trans h2
        simpa using this
      rw [hC,hF0] at O ⊢
      refine ⟨X',w1,w2,rfl,O.cel ?_ ?_ (votesC_lim lim) votes_dark,O.o1,O.o2⟩
      · rw [votesC_len,← l0]; exact hd
      · rw [votesC_len,← l0]; exact q3
section
variable {s0 s1 s2:ByteArray} {n:Int} {x0 y0 x1 y1 x2 y2:Value} {C0 C1 C2:List (Int × Bool)} {N lb c2:Nat} {m:Int} {h g:TH} {rest:TCode} {Q:Exit → Regs → TH → Prop}
set_option maxHeartbeats 4000000 in
set_option maxRecDepth 10000 in
theorem k10a (H:Has tp) (X:HasX tp) (r0:RunC s0 n g x0 y0 C0) (r1:RunC s1 n g x1 y1 C1) (r2:RunC s2 n g x2 y2 C2) (l0:C0.length = N) (l1:C1.length = N) (l2:C2.length = N) (sm:Samp lb m) (h0:lt0 lb = false) (f:Free0 h.next h) (Y:HX h g) (hc2:h.next ≤ c2)
  (A2:At g c2 (.cells [.string s0,zi n,x0,y0,.string s1,zi n,x1,y1,.string s2,zi n,x2,y2] true true 82))
  (K:∀ g',HX g g' → ∀ c7 c8 w1 w2,At g' c7 (.cells (runV s0 n w1 w2).cells.toList true true 52) → At g' c8 (.cells (cel3 (wrN m (three C0 C1 C2) N)) true true 83) → RunC s0 n g' w1 w2 (votesC m (three C0 C1 C2) N) →
   ∀ a,Kn [(1,.float .f32 lb),(2,ptr c2),(7,ptr c7),(8,ptr c8),(9,zi 0)] a → W Tryz.prog tp false rest a g' Q) :
  ∀ a,Kn [(1,.float .f32 lb),(2,ptr c2)] a → W Tryz.prog tp false (.seq (.reg r10_9) rest) a g Q:=by
 have lt2:=A2.lt
 refine WL.sr <| WOL.ix rfl rfl (ix82 (k:=0) (by decide)) ?_
 refine WOL.ld rfl (load_row tp46 A2 rfl (Nat.le_of_ble_eq_true rfl)) <| WOL.ix rfl rfl (ix82 (k:=1) (by decide)) ?_
 refine WOL.ld rfl (load_row tp46 A2 rfl (Nat.le_of_ble_eq_true rfl)) <| WOL.ix rfl rfl (ix82 (k:=2) (by decide)) ?_
 refine WOL.ld rfl (load_row tp46 A2 rfl (Nat.le_of_ble_eq_true rfl)) <| WOL.mv rfl ?_
 refine WOL.al tp52 fun h1 N1 => ?_
 refine WOL.al tp83 fun h2 N2 => ?_
 have n1:=N1.next
 have n2:=N2.next
 have Z2:=N1.hx.trans N2.hx
 have Y2:=Y.trans Z2
 have y0':=Y.next
 refine WOL.lq1 [h1.next,g.next,c2,c2] rfl rfl rfl fun M hM => ((c25 H (r0.hx' Z2 M) ((f.on Y2).held hM (fun b hb => by simp at hb; omega))).mono ?_)
 rintro v h3 ⟨a0,b0,rfl,X3,O3⟩
 replace X3:=X3.relock
 replace O3:=O3.relock h2.lock
 generalize h3.withLock h2.lock = h3 at *
 have Z3:=Z2.trans X3
 have Y3:=Y.trans Z3
 have y3:=X3.next
 refine WOL.lq1 [h1.next,g.next,c2] rfl rfl rfl fun M hM => ((c25 H (r1.hx' Z3 M) ((f.on Y3).held hM (fun b hb => by simp at hb; omega))).mono ?_)
 rintro v h4 ⟨a1,b1,rfl,X4,O4⟩
 replace X4:=X4.relock
 replace O4:=O4.relock h3.lock
 generalize h4.withLock h3.lock = h4 at *
 have Z4:=Z3.trans X4
 have Y4:=Y.trans Z4
 have y4:=X4.next
 refine WOL.lq1 [h1.next,g.next] rfl rfl rfl fun M hM => ((c25 H (r2.hx' Z4 M) ((f.on Y4).held hM (fun b hb => by simp at hb; omega))).mono ?_)
 rintro v h5 ⟨a2,b2,rfl,X5,O5⟩
 replace X5:=X5.relock
 replace O5:=O5.relock h4.lock
 generalize h5.withLock h4.lock = h5 at *
 have Z5:=Z4.trans X5
 have Y5:=Y.trans Z5
 have y5:=X5.next
 refine WOL.bd rfl bd86 ?_
 refine WOL.lq2 [h1.next,g.next] rfl rfl rfl rfl fun M hM => ((c53 H X (((O3.hx X4).hx X5).relock M) ((O4.hx X5).relock M) (O5.relock M) l0 l1 l2 sm h0 ((f.on Y5).held hM (fun b hb => by simp at hb; omega))).mono ?_)
 rintro v h6 ⟨X6,w1,w2,rfl,R6,o1,o2⟩
 replace X6:=X6.relock
 replace R6:=R6.relock h5.lock
 replace o1:Above h5.next w1:=o1
 replace o2:Above h5.next w2:=o2
 generalize h6.withLock h5.lock = h6 at *
 have Z6:=Z5.trans X6
 have Y6:=Y.trans Z6
 have W6:=((X3.trans X4).trans X5).trans X6
 have B7:=(N1.at_.hx N2.hx).hx W6
 have B8:=N2.at_.hx W6
 obtain ⟨bo1,ln1,k1,bo2,ln2,k2,rfl,rfl⟩:=R6.forms
 refine WOL.mv rfl <| WOL.ex rfl rfl <| WOL.ex rfl rfl <| WOL.ex rfl rfl ?_
 refine WOL.sto rfl rfl tp52 B7 rfl rfl (Nat.le_of_ble_eq_true rfl) rfl (f.hx Y6) y0' fun h7 P7 => ?_
 refine WOL.sto rfl rfl tp83 (P7.oth h1.next _ (by omega) B8) rfl rfl (Nat.le_of_ble_eq_true rfl) rfl (f.hx (P7.hx _ Y6 y0')) (by omega) fun h8 P8 => ?_
 have R8:=(R6.away o1 o2 P7 (by omega)).away o1 o2 P8 (by omega)
 refine WOL.as rfl <| WOL.nil ?_
 exact fun a q => K h8 (P8.hx _ (P7.hx _ Z6 (Nat.le_refl _)) (by omega)) _ _ _ _ (P8.oth g.next _ (by omega) P7.at_) P8.at_ R8 a (q.sub ⟨rfl,rfl,rfl,rfl,rfl,trivial⟩)
set_option maxHeartbeats 4000000 in
set_option maxRecDepth 10000 in
theorem k10b {p7:Value} {p8:Value} {p9:Value} (H:Has tp) (X:HasX tp) (r0:RunC s0 n g x0 y0 C0) (r1:RunC s1 n g x1 y1 C1) (r2:RunC s2 n g x2 y2 C2) (l0:C0.length = N) (l1:C1.length = N) (l2:C2.length = N) (sm:Samp lb m) (h0:lt0 lb = false) (f:Free0 h.next h) (Y:HX h g) (hc2:h.next ≤ c2)
  (A2:At g c2 (.cells [.string s0,zi n,x0,y0,.string s1,zi n,x1,y1,.string s2,zi n,x2,y2] true true 82))
  (K:∀ g',HX g g' → ∀ c7 c8 w1 w2,At g' c7 (.cells (runV s2 n w1 w2).cells.toList true true 52) → At g' c8 (.cells (cel3 (wrN m (three C2 C0 C1) N)) true true 83) → RunC s2 n g' w1 w2 (votesC m (three C2 C0 C1) N) →
   ∀ a,Kn [(1,.float .f32 lb),(2,ptr c2),(7,p7),(8,p8),(9,p9),(10,ptr c7),(11,ptr c8),(12,zi 0)] a → W Tryz.prog tp false rest a g' Q) :
  ∀ a,Kn [(1,.float .f32 lb),(2,ptr c2),(7,p7),(8,p8),(9,p9)] a → W Tryz.prog tp false (.seq (.reg r10_10) rest) a g Q:=by
 have lt2:=A2.lt
 refine WL.sr <| WOL.ix rfl rfl (ix82 (k:=2) (by decide)) ?_
 refine WOL.ld rfl (load_row tp46 A2 rfl (Nat.le_of_ble_eq_true rfl)) <| WOL.ix rfl rfl (ix82 (k:=0) (by decide)) ?_
 refine WOL.ld rfl (load_row tp46 A2 rfl (Nat.le_of_ble_eq_true rfl)) <| WOL.ix rfl rfl (ix82 (k:=1) (by decide)) ?_
 refine WOL.ld rfl (load_row tp46 A2 rfl (Nat.le_of_ble_eq_true rfl)) <| WOL.mv rfl ?_
 refine WOL.al tp52 fun h1 N1 => ?_
 refine WOL.al tp83 fun h2 N2 => ?_
 have n1:=N1.next
 have n2:=N2.next
 have Z2:=N1.hx.trans N2.hx
 have Y2:=Y.trans Z2
 have y0':=Y.next
 refine WOL.lq1 [h1.next,g.next,c2,c2] rfl rfl rfl fun M hM => ((c25 H (r2.hx' Z2 M) ((f.on Y2).held hM (fun b hb => by simp at hb; omega))).mono ?_)
 rintro v h3 ⟨a0,b0,rfl,X3,O3⟩
 replace X3:=X3.relock
 replace O3:=O3.relock h2.lock
 generalize h3.withLock h2.lock = h3 at *
 have Z3:=Z2.trans X3
 have Y3:=Y.trans Z3
 have y3:=X3.next
 refine WOL.lq1 [h1.next,g.next,c2] rfl rfl rfl fun M hM => ((c25 H (r0.hx' Z3 M) ((f.on Y3).held hM (fun b hb => by simp at hb; omega))).mono ?_)
 rintro v h4 ⟨a1,b1,rfl,X4,O4⟩
 replace X4:=X4.relock
 replace O4:=O4.relock h3.lock
 generalize h4.withLock h3.lock = h4 at *
 have Z4:=Z3.trans X4
 have Y4:=Y.trans Z4
 have y4:=X4.next
 refine WOL.lq1 [h1.next,g.next] rfl rfl rfl fun M hM => ((c25 H (r1.hx' Z4 M) ((f.on Y4).held hM (fun b hb => by simp at hb; omega))).mono ?_)
 rintro v h5 ⟨a2,b2,rfl,X5,O5⟩
 replace X5:=X5.relock
 replace O5:=O5.relock h4.lock
 generalize h5.withLock h4.lock = h5 at *
 have Z5:=Z4.trans X5
 have Y5:=Y.trans Z5
 have y5:=X5.next
 refine WOL.bd rfl bd86 ?_
 refine WOL.lq2 [h1.next,g.next] rfl rfl rfl rfl fun M hM => ((c53 H X (((O3.hx X4).hx X5).relock M) ((O4.hx X5).relock M) (O5.relock M) l2 l0 l1 sm h0 ((f.on Y5).held hM (fun b hb => by simp at hb; omega))).mono ?_)
 rintro v h6 ⟨X6,w1,w2,rfl,R6,o1,o2⟩
 replace X6:=X6.relock
 replace R6:=R6.relock h5.lock
 replace o1:Above h5.next w1:=o1
 replace o2:Above h5.next w2:=o2
 generalize h6.withLock h5.lock = h6 at *
 have Z6:=Z5.trans X6
 have Y6:=Y.trans Z6
 have W6:=((X3.trans X4).trans X5).trans X6
 have B7:=(N1.at_.hx N2.hx).hx W6
 have B8:=N2.at_.hx W6
 obtain ⟨bo1,ln1,k1,bo2,ln2,k2,rfl,rfl⟩:=R6.forms
 refine WOL.mv rfl <| WOL.ex rfl rfl <| WOL.ex rfl rfl <| WOL.ex rfl rfl ?_
 refine WOL.sto rfl rfl tp52 B7 rfl rfl (Nat.le_of_ble_eq_true rfl) rfl (f.hx Y6) y0' fun h7 P7 => ?_
 refine WOL.sto rfl rfl tp83 (P7.oth h1.next _ (by omega) B8) rfl rfl (Nat.le_of_ble_eq_true rfl) rfl (f.hx (P7.hx _ Y6 y0')) (by omega) fun h8 P8 => ?_
 have R8:=(R6.away o1 o2 P7 (by omega)).away o1 o2 P8 (by omega)
 refine WOL.as rfl <| WOL.nil ?_
 exact fun a q => K h8 (P8.hx _ (P7.hx _ Z6 (Nat.le_refl _)) (by omega)) _ _ _ _ (P8.oth g.next _ (by omega) P7.at_) P8.at_ R8 a (q.sub ⟨rfl,rfl,rfl,rfl,rfl,rfl,rfl,rfl,trivial⟩)
set_option maxHeartbeats 4000000 in
set_option maxRecDepth 10000 in
theorem k10g (H:Has tp) (X:HasX tp) (r0:RunC s0 n g x0 y0 C0) (r1:RunC s1 n g x1 y1 C1) (r2:RunC s2 n g x2 y2 C2) (l0:C0.length = N) (l1:C1.length = N) (l2:C2.length = N) (sm:Samp lb m) (h0:lt0 lb = false) (f:Free0 h.next h) (Y:HX h g) (hc2:h.next ≤ c2)
  (A2:At g c2 (.cells [.string s0,zi n,x0,y0,.string s1,zi n,x1,y1,.string s2,zi n,x2,y2] true true 82))
  (K:∀ g',HX g g' → ∀ c7 c8 w1 w2,At g' c7 (.cells (runV s0 n w1 w2).cells.toList true true 52) → At g' c8 (.cells (cel3 (wrN m (three C0 C1 C0) N)) true true 83) → RunC s0 n g' w1 w2 (votesC m (three C0 C1 C0) N) →
   ∀ a,Kn [(1,.float .f32 lb),(2,ptr c2),(22,ptr c7),(23,ptr c8),(24,zi 0)] a → W Tryz.prog tp false rest a g' Q) :
  ∀ a,Kn [(1,.float .f32 lb),(2,ptr c2)] a → W Tryz.prog tp false (.seq (.reg r10_39) rest) a g Q:=by
 have lt2:=A2.lt
 refine WL.sr <| WOL.ix rfl rfl (ix82 (k:=0) (by decide)) ?_
 refine WOL.ld rfl (load_row tp46 A2 rfl (Nat.le_of_ble_eq_true rfl)) <| WOL.ix rfl rfl (ix82 (k:=1) (by decide)) ?_
 refine WOL.ld rfl (load_row tp46 A2 rfl (Nat.le_of_ble_eq_true rfl)) <| WOL.ix rfl rfl (ix82 (k:=0) (by decide)) ?_
 refine WOL.ld rfl (load_row tp46 A2 rfl (Nat.le_of_ble_eq_true rfl)) <| WOL.mv rfl ?_
 refine WOL.al tp52 fun h1 N1 => ?_
 refine WOL.al tp83 fun h2 N2 => ?_
 have n1:=N1.next
 have n2:=N2.next
 have Z2:=N1.hx.trans N2.hx
 have Y2:=Y.trans Z2
 have y0':=Y.next
 refine WOL.lq1 [h1.next,g.next,c2,c2] rfl rfl rfl fun M hM => ((c25 H (r0.hx' Z2 M) ((f.on Y2).held hM (fun b hb => by simp at hb; omega))).mono ?_)
 rintro v h3 ⟨a0,b0,rfl,X3,O3⟩
 replace X3:=X3.relock
 replace O3:=O3.relock h2.lock
 generalize h3.withLock h2.lock = h3 at *
 have Z3:=Z2.trans X3
 have Y3:=Y.trans Z3
 have y3:=X3.next
 refine WOL.lq1 [h1.next,g.next,c2] rfl rfl rfl fun M hM => ((c25 H (r1.hx' Z3 M) ((f.on Y3).held hM (fun b hb => by simp at hb; omega))).mono ?_)
 rintro v h4 ⟨a1,b1,rfl,X4,O4⟩
 replace X4:=X4.relock
 replace O4:=O4.relock h3.lock
 generalize h4.withLock h3.lock = h4 at *
 have Z4:=Z3.trans X4
 have Y4:=Y.trans Z4
 have y4:=X4.next
 refine WOL.lq1 [h1.next,g.next] rfl rfl rfl fun M hM => ((c25 H (r0.hx' Z4 M) ((f.on Y4).held hM (fun b hb => by simp at hb; omega))).mono ?_)
 rintro v h5 ⟨a2,b2,rfl,X5,O5⟩
 replace X5:=X5.relock
 replace O5:=O5.relock h4.lock
 generalize h5.withLock h4.lock = h5 at *
 have Z5:=Z4.trans X5
 have Y5:=Y.trans Z5
 have y5:=X5.next
 refine WOL.bd rfl bd86 ?_
 refine WOL.lq2 [h1.next,g.next] rfl rfl rfl rfl fun M hM => ((c53 H X (((O3.hx X4).hx X5).relock M) ((O4.hx X5).relock M) (O5.relock M) l0 l1 l0 sm h0 ((f.on Y5).held hM (fun b hb => by simp at hb; omega))).mono ?_)
 rintro v h6 ⟨X6,w1,w2,rfl,R6,o1,o2⟩
 replace X6:=X6.relock
 replace R6:=R6.relock h5.lock
 replace o1:Above h5.next w1:=o1
 replace o2:Above h5.next w2:=o2
 generalize h6.withLock h5.lock = h6 at *
 have Z6:=Z5.trans X6
 have Y6:=Y.trans Z6
 have W6:=((X3.trans X4).trans X5).trans X6
 have B7:=(N1.at_.hx N2.hx).hx W6
 have B8:=N2.at_.hx W6
 obtain ⟨bo1,ln1,k1,bo2,ln2,k2,rfl,rfl⟩:=R6.forms
 refine WOL.mv rfl <| WOL.ex rfl rfl <| WOL.ex rfl rfl <| WOL.ex rfl rfl ?_
 refine WOL.sto rfl rfl tp52 B7 rfl rfl (Nat.le_of_ble_eq_true rfl) rfl (f.hx Y6) y0' fun h7 P7 => ?_
 refine WOL.sto rfl rfl tp83 (P7.oth h1.next _ (by omega) B8) rfl rfl (Nat.le_of_ble_eq_true rfl) rfl (f.hx (P7.hx _ Y6 y0')) (by omega) fun h8 P8 => ?_
 have R8:=(R6.away o1 o2 P7 (by omega)).away o1 o2 P8 (by omega)
 refine WOL.as rfl <| WOL.nil ?_
 exact fun a q => K h8 (P8.hx _ (P7.hx _ Z6 (Nat.le_refl _)) (by omega)) _ _ _ _ (P8.oth g.next _ (by omega) P7.at_) P8.at_ R8 a (q.sub ⟨rfl,rfl,rfl,rfl,rfl,trivial⟩)
end
end Go.Tidy
namespace Go.Tidy
open Go Go.Proofs Tab
variable {tp:TProg}
theorem voteA_rot {m:Int} {C0 C1 C2:List (Int × Bool)}:voteA m (three C2 C0 C1) = voteA m (three C0 C1 C2):=funext fun _ => voteC_rot _ _ _
theorem votes_rot {m:Int} {C0 C1 C2:List (Int × Bool)} {N:Nat}:votesC m (three C2 C0 C1) N = votesC m (three C0 C1 C2) N:=by unfold votesC; rw [voteA_rot]
theorem wrN_eq {m:Int} {C D:Nat → List (Int × Bool)} {k j:Nat} (hv:voteA m C = voteA m D) (hc:∀ i,cellD C k i = cellD D j i):∀ N,wrN m C N k = wrN m D N j
 | 0 => rfl
 | N + 1 => by
  show wrN m C N k + cond (wrongB m (cellD C k N) (voteA m C N)) 1 0 = wrN m D N j + cond (wrongB m (cellD D j N) (voteA m D N)) 1 0
  rw [wrN_eq hv hc N,hc,hv]
theorem wr_rot {m:Int} {C0 C1 C2:List (Int × Bool)} {N:Nat}:cel3 (wrN m (three C2 C0 C1) N) = [zi (wrN m (three C0 C1 C2) N 2),zi (wrN m (three C0 C1 C2) N 0),zi (wrN m (three C0 C1 C2) N 1)]:=by
 show [zi (wrN m (three C2 C0 C1) N 0),zi (wrN m (three C2 C0 C1) N 1),zi (wrN m (three C2 C0 C1) N 2)] = _
 have e0:wrN m (three C2 C0 C1) N 0 = wrN m (three C0 C1 C2) N 2:=wrN_eq (C:=three C2 C0 C1) (D:=three C0 C1 C2) (k:=0) (j:=2) voteA_rot (fun _ => rfl) N
 have e1:wrN m (three C2 C0 C1) N 1 = wrN m (three C0 C1 C2) N 0:=wrN_eq (C:=three C2 C0 C1) (D:=three C0 C1 C2) (k:=1) (j:=0) voteA_rot (fun _ => rfl) N
 have e2:wrN m (three C2 C0 C1) N 2 = wrN m (three C0 C1 C2) N 1:=wrN_eq (C:=three C2 C0 C1) (D:=three C0 C1 C2) (k:=2) (j:=1) voteA_rot (fun _ => rfl) N
 rw [e0,e1,e2]
theorem bd83 {a b c:Int}:buildT Tryz.prog 83 [(0,.int .i64 a),(1,.int .i64 b),(2,.int .i64 c)] = some (.agg #[.int .i64 a,.int .i64 b,.int .i64 c]):=by kernel_rfl
section
variable {s0 s1 s2:ByteArray} {n:Int} {x0 y0 x1 y1 x2 y2:Value} {C0 C1 C2:List (Int × Bool)} {N lb c2:Nat} {m:Int} {h g:TH} {rest:TCode} {Q:Exit → Regs → TH → Prop}
set_option maxHeartbeats 4000000 in
set_option maxRecDepth 10000 in
theorem k10e (H:Has tp) {c7 c8 c10 c11:Nat} {w1 w2 u1 u2 p1:Value} (r0:RunC s0 n g x0 y0 C0) (l0:C0.length = N)
  (A2:At g c2 (.cells [.string s0,zi n,x0,y0,.string s1,zi n,x1,y1,.string s2,zi n,x2,y2] true true 82))
  (B7:At g c7 (.cells (runV s0 n w1 w2).cells.toList true true 52)) (B8:At g c8 (.cells (cel3 (wrN m (three C0 C1 C2) N)) true true 83)) (RV:RunC s0 n g w1 w2 (votesC m (three C0 C1 C2) N))
  (B10:At g c10 (.cells (runV s2 n u1 u2).cells.toList true true 52)) (B11:At g c11 (.cells (cel3 (wrN m (three C2 C0 C1) N)) true true 83)) (RO:RunC s2 n g u1 u2 (votesC m (three C2 C0 C1) N))
  (K:∀ g',HX g g' → ∀ a,Kn [(1,p1),(2,ptr c2),(7,ptr c7)] a → W Tryz.prog tp false rest a g' Q) :
  ∀ a,Kn [(1,p1),(2,ptr c2),(7,ptr c7),(8,ptr c8),(9,zi 0),(10,ptr c10),(11,ptr c11),(12,zi 0)] a → W Tryz.prog tp false (.seq (.seq (.reg r10_11) (.cond (.tmp 124) (.seq (.reg r10_12) .ret) .skip)) rest) a g Q:=by
 rw [votes_rot] at RO
 rw [wr_rot] at B11
 obtain ⟨FF,hFF,sFF⟩:=r0.lens
 rw [l0] at hFF
 have hVl:=votesC_len (m:=m) (C:=three C0 C1 C2) (N:=N)
 have RV':=RV
 obtain ⟨m4,_⟩:=RV.small
 obtain ⟨F,es,rv,cv⟩:=RV
 obtain ⟨G,es',ro,co⟩:=RO
 have fl:=cv.len
 have gl:=co.len
 have hh:=cv.holes
 generalize votesC m (three C0 C1 C2) N = VC at *
 generalize hW:wrN m (three C0 C1 C2) N = W at *
 refine WL.seq ?_
 refine WL.sr <| WOL.mv rfl <| WOL.bi (v:=.bool false) rfl rfl rfl <| WOL.mv rfl ?_
 refine WOL.now (b:=false) rfl rfl <| WOL.mv rfl <| WOL.now (b:=false) rfl rfl <| WOL.bi (v:=.bool false) rfl rfl rfl <| WOL.pkf rfl rfl <| WOL.mv rfl <| WOL.now (b:=false) rfl rfl ?_
 refine WOL.ld rfl (load_row tp52 B7 rfl (Nat.le_of_ble_eq_true rfl)) <| WOL.now (b:=false) rfl rfl ?_
 refine WOL.cl1 rfl rfl ((c31 H RV').mono ?_)
 rintro v h1 ⟨rfl,X1⟩
 refine WOL.now (b:=false) rfl rfl <| WOL.bi (v:=.bool false) rfl rfl rfl <| WOL.pkf rfl rfl <| WOL.mv rfl <| WOL.now (b:=false) rfl rfl ?_
 refine WOL.fa rfl (fa_of fo52_2) <| WOL.now (b:=false) rfl rfl ?_
 refine WOL.ld rfl (load_one tp43 (B7.hx X1) rfl) <| WOL.now (b:=false) rfl rfl ?_
 refine WOL.len rfl (rv.f.hx X1) u43 <| WOL.now (b:=false) rfl rfl ?_
 refine WOL.ix rfl rfl (ix82 (k:=0) (by decide)) <| WOL.now (b:=false) rfl rfl <| WOL.fa rfl (fa_of fo46_2) <| WOL.now (b:=false) rfl rfl ?_
 refine WOL.ld rfl (load_one tp43 (A2.hx X1) rfl) <| WOL.now (b:=false) rfl rfl ?_
 refine WOL.len rfl (SlC.hx sFF X1) u43 <| WOL.now (b:=false) rfl rfl ?_
 rw [hFF,fl,hVl]
 refine WOL.bi rfl rfl (ne_same _) <| WOL.pkf rfl rfl <| WOL.mv rfl <| WOL.now (b:=false) rfl rfl ?_
 refine WOL.fa rfl (fa_of fo52_2) <| WOL.now (b:=false) rfl rfl ?_
 refine WOL.ld rfl (load_one tp43 (B10.hx X1) rfl) <| WOL.now (b:=false) rfl rfl <| WOL.fa rfl (fa_of fo52_2) <| WOL.now (b:=false) rfl rfl ?_
 refine WOL.ld rfl (load_one tp43 (B7.hx X1) rfl) <| WOL.now (b:=false) rfl rfl ?_
 refine WOL.cl2 rfl rfl rfl ((k58 H (ro.f.hx X1) (rv.f.hx X1) co.lev cv.lev (by omega)).mono ?_)
 rintro v h2 ⟨rfl,rfl⟩
 refine WOL.now (b:=false) rfl rfl <| WOL.nt rfl <| WOL.pkf rfl rfl <| WOL.mv rfl <| WOL.now (b:=false) rfl rfl ?_
 refine WOL.fa rfl (fa_of fo52_3) <| WOL.now (b:=false) rfl rfl ?_
 refine WOL.ld rfl (load_one tp44 (B10.hx X1) rfl) <| WOL.now (b:=false) rfl rfl <| WOL.fa rfl (fa_of fo52_3) <| WOL.now (b:=false) rfl rfl ?_
 refine WOL.ld rfl (load_one tp44 (B7.hx X1) rfl) <| WOL.now (b:=false) rfl rfl ?_
 refine WOL.cl2 rfl rfl rfl ((k59 H (ro.s.hx X1) (rv.s.hx X1) (by omega)).mono ?_)
 rintro v h3 ⟨rfl,rfl⟩
 refine WOL.now (b:=false) rfl rfl <| WOL.nt rfl <| WOL.pkf rfl rfl <| WOL.mv rfl <| WOL.now (b:=false) rfl rfl ?_
 refine WOL.ld rfl (load_row tp83 (B11.hx X1) rfl (Nat.le_of_ble_eq_true rfl)) <| WOL.now (b:=false) rfl rfl ?_
 refine WOL.ix rfl rfl (ix83 (k:=2) (by decide)) <| WOL.now (b:=false) rfl rfl ?_
 refine WOL.ld rfl (load_one tp3 (B8.hx X1) rfl) <| WOL.now (b:=false) rfl rfl <| WOL.ix rfl rfl (ix83 (k:=0) (by decide)) <| WOL.now (b:=false) rfl rfl ?_
 refine WOL.ld rfl (load_one tp3 (B8.hx X1) rfl) <| WOL.now (b:=false) rfl rfl <| WOL.ix rfl rfl (ix83 (k:=1) (by decide)) <| WOL.now (b:=false) rfl rfl ?_
 refine WOL.ld rfl (load_one tp3 (B8.hx X1) rfl) <| WOL.now (b:=false) rfl rfl ?_
 refine WOL.bd rfl bd83 <| WOL.now (b:=false) rfl rfl ?_
 refine WOL.ne83 (a:=W 2) (b:=W 0) (c:=W 1) rfl rfl <| WOL.pkf rfl rfl <| WOL.nil <| keep [(1,_),(2,_),(7,_),(124,_)] ⟨rfl,rfl,rfl,rfl,trivial⟩ ?_
 refine WL.no rfl <| WL.skip ?_
 exact kto (K _ X1) ⟨rfl,rfl,rfl,trivial⟩
end
end Go.Tidy
namespace Go.Tidy
open Go Go.Proofs Tab
variable {tp:TProg}
theorem Lev.snoc {F:List Nat} {L:List Int} {b:Nat} {l:Int} (h:Lev F L) (s:Samp b l):Lev (F ++ [b]) (L ++ [l]):=by
 refine ⟨by simp [h.1],fun i x n hx hn => ?_⟩
 by_cases hi:i < F.length
 ·rw [List.getElem?_append_left hi] at hx
  rw [List.getElem?_append_left (by rw [← h.1]; exact hi)] at hn
  exact h.2 i x n hx hn
 ·have hl:=h.1
  rw [List.getElem?_append_right (by omega)] at hx hn
  rw [← hl] at hn
  cases hj:i - F.length with
  | zero =>
   rw [hj] at hx hn
   simp at hx hn
   subst hx hn
   exact s
  | succ j => rw [hj] at hx; simp at hx
theorem Lev.empty:Lev [] []:=⟨rfl,fun i b n h => by simp at h⟩
def lane (s:Nat → ByteArray) (n:Int) (h:TH) (v1 v2:Nat → Value) (C:Nat → List (Int × Bool)) (N:Nat):Prop:=∀ k,RunC (s k) n h (v1 k) (v2 k) (C k) ∧ (C k).length = N
theorem lane.hx {s:Nat → ByteArray} {n:Int} {h h':TH} {v1 v2:Nat → Value} {C:Nat → List (Int × Bool)} {N:Nat} (l:lane s n h v1 v2 C N) (x:HX h h'):lane s n h' v1 v2 C N:=fun k => ⟨(l k).1.hx x,(l k).2⟩
section
variable {s:Nat → ByteArray} {n:Int} {v1 v2:Nat → Value} {C:Nat → List (Int × Bool)} {N lb c2 c7:Nat} {m:Int} {hb g:TH} {Q:Exit → Regs → TH → Prop} {gx:Nat} {p126 p127 p128:Value}
set_option maxHeartbeats 4000000 in
set_option maxRecDepth 10000 in
theorem k10h (H:Has tp) {i:Nat} {rest:TCode} (l:lane s n g v1 v2 C N) (hi:i < N) (f:Free0 hb.next hb) (Y:HX hb g) (A2:At g c2 (.cells (cells12 s (fun _ => n) v1 v2) true true 82))
  (K:∀ g' w Hs,HX g g' → OwnL encF g.next g' w 25 Hs → Lev Hs (knownV (rowC C i)) → ∀ a,Kn [(1,.float .f32 lb),(2,ptr c2),(7,ptr c7),(13,zi (i:Nat)),(14,.float .f32 gx),(15,w),(126,p126),(127,p127),(128,p128)] a → W Tryz.prog tp false rest a g' Q) :
  ∀ a,Kn [(1,.float .f32 lb),(2,ptr c2),(7,ptr c7),(13,zi (i:Nat)),(14,.float .f32 gx),(126,p126),(127,p127),(128,p128)] a → W Tryz.prog tp false (.seq (.reg r10_16) (.seq (.seq (.reg r10_17) (.block 4 (.loop (.seq (.reg r10_18) (.seq (.cond (.tmp 135) .skip (.exit 4)) (.seq (.block 5 (.seq (.reg r10_19) (.seq (.reg r10_20) (.cond (.tmp 139) (.reg r10_21) .skip)))) (.reg r10_22))))))) rest)) a g Q:=by
 have ff:Free0 g.next g:=f.on Y
 refine WL.sr <| WOL.as rfl <| WOL.nil ?_
 refine WL.seq <| WL.sr ?_
 refine WOL.ld rfl (load_wide w82 d82 A2 rfl (Nat.le_of_ble_eq_true rfl)) <| WOL.mv rfl <| WOL.nil ?_
 refine WL.block ?_
 refine WL.loop (fun q a g' => ∃ (k:Nat) (w:Value) (Hs:List Nat),k ≤ 3 ∧ q = 3 - k ∧ HX g g' ∧ OwnL encF g.next g' w 25 Hs ∧ Lev Hs (knownV ((rowC C i).take k)) ∧ Kn [(1,.float .f32 lb),(2,ptr c2),(7,ptr c7),(13,zi (i:Nat)),(14,.float .f32 gx),(15,w),(126,p126),(127,p127),(128,p128),(133,.agg (cells12 s (fun _ => n) v1 v2).toArray),(134,zi (k:Nat))] a) 3 (fun a q => ⟨0,_,[],by omega,by omega,HX.refl _,OwnL.nil,Lev.empty,q.sub ⟨rfl,rfl,rfl,rfl,rfl,rfl,rfl,rfl,rfl,rfl,rfl,trivial⟩⟩) ?_
 rintro q a g1 ⟨k,w,Hs,hk,rfl,X1,O1,lv,q⟩
 refine q.go ?_
 refine WL.sr <| WOL.bi (v:=.bool (decide ((k:Int) < 3))) rfl rfl rfl <| WOL.nil <| keep [(1,_),(2,_),(7,_),(13,_),(14,_),(15,_),(126,_),(127,_),(128,_),(133,_),(134,_),(135,_)] ⟨rfl,rfl,rfl,rfl,rfl,rfl,rfl,rfl,rfl,rfl,rfl,rfl,trivial⟩ ?_
 refine WL.seq ?_
 by_cases hk3:k < 3
 ·rw [show decide ((k:Int) < 3) = true from decide_eq_true (by omega)]
  refine WL.yes rfl <| WL.skip ?_
  refine WL.seq <| WL.block ?_
  obtain ⟨rk,lk⟩:=l k
  obtain ⟨bo1,ln1,kk1,bo2,ln2,kk2,e1,e2⟩:=rk.forms
  obtain ⟨F,hF,sF,sp⟩:=rk.samp
  have hc:(C k)[i]? = some (cellD C k i):=cellD_get (by omega)
  have hfb:F[i]? = some F[i]:=List.getElem?_eq_getElem (by omega)
  have sb:=sp i _ _ hfb hc
  generalize F[i] = fb at *
  have hkl:=knownV_le ((rowC C i).take k)
  have hkl2:((rowC C i).take k).length ≤ 3:=by rw [List.length_take]; simp [rowC]; omega
  have hHs:=lv.1
  refine WL.sr <| WOL.idx rfl rfl (idx82 hk3) ?_
  refine WOL.al tp46 fun h3 N3 => ?_
  have Y3:=X1.trans N3.hx
  rw [e1,e2]
  refine WOL.sto rfl rfl tp46 N3.at_ rfl rfl (Nat.le_of_ble_eq_true rfl) rfl (ff.hx Y3) X1.next fun h4 P4 => ?_
  have Y4:=P4.hx _ Y3 X1.next
  have Z4:=P4.hx _ N3.hx (Nat.le_refl _)
  have A17:=P4.at_
  rw [← e1,← e2] at A17
  refine WOL.nil <| keep [(1,_),(2,_),(7,_),(13,_),(14,_),(15,_),(17,_),(126,_),(127,_),(128,_),(133,_),(134,_)] ⟨rfl,rfl,rfl,rfl,rfl,rfl,rfl,rfl,rfl,rfl,rfl,rfl,trivial⟩ ?_
  refine WL.sr ?_
  refine WOL.ld rfl (load_row tp46 A17 rfl (Nat.le_of_ble_eq_true rfl)) <| WOL.mv rfl ?_
  refine WOL.cl2 rfl rfl rfl ((c39 H (i:Int) (rk.hx Y4)).mono ?_)
  rintro v h5 ⟨rfl,X5⟩
  have Y5:=Y4.trans X5
  have Z5:=Z4.trans X5
  rw [knownC_get hc]
  refine WOL.nil <| keep [(1,_),(2,_),(7,_),(13,_),(14,_),(15,_),(17,_),(126,_),(127,_),(128,_),(133,_),(134,_),(139,_)] ⟨rfl,rfl,rfl,rfl,rfl,rfl,rfl,rfl,rfl,rfl,rfl,rfl,rfl,trivial⟩ ?_
  have fin:∀ {Q:Exit → Regs → TH → Prop} g' w' Hs',HX g g' → OwnL encF g.next g' w' 25 Hs' → Lev Hs' (knownV ((rowC C i).take (k + 1))) → ∀ a,Kn [(1,.float .f32 lb),(2,ptr c2),(7,ptr c7),(13,zi (i:Nat)),(14,.float .f32 gx),(15,w'),(126,p126),(127,p127),(128,p128),(133,.agg (cells12 s (fun _ => n) v1 v2).toArray),(134,zi (k:Nat))] a → W Tryz.prog tp false (.reg r10_22) a g' (andThen (fun a g' => ∃ q',q' < 3 - k ∧ ∃ (k:Nat) (w:Value) (Hs:List Nat),k ≤ 3 ∧ q' = 3 - k ∧ HX g g' ∧ OwnL encF g.next g' w 25 Hs ∧ Lev Hs (knownV ((rowC C i).take k)) ∧ Kn [(1,.float .f32 lb),(2,ptr c2),(7,ptr c7),(13,zi (i:Nat)),(14,.float .f32 gx),(15,w),(126,p126),(127,p127),(128,p128),(133,.agg (cells12 s (fun _ => n) v1 v2).toArray),(134,zi (k:Nat))] a) Q):=by
   intro Q g' w' Hs' Y' O' lv'
   refine WL.reg ?_
   refine WOL.bi (v:=zi ((k + 1:Nat):Int)) rfl rfl (by show some (Value.int .i64 (fwrap .i64 ((k:Int) + 1))) = _; rw [fwrap_i64 (by omega) (by omega)]; rfl) ?_
   refine WOL.mv rfl <| WOL.nil ?_
   exact fun a q => ⟨3 - (k + 1),by omega,k + 1,w',Hs',by omega,rfl,Y',O',lv',q.sub ⟨rfl,rfl,rfl,rfl,rfl,rfl,rfl,rfl,rfl,rfl,rfl,trivial⟩⟩
  rw [row_take hk3,knownV_snoc] at fin
  cases hkn:(cellD C k i).2 with
  | false =>
   rw [hkn] at fin
   refine WL.no rfl <| WL.skip ?_
   exact fun a q => fin h5 w Hs Y5 (O1.hx Z5) (by simpa using lv) a (q.sub ⟨rfl,rfl,rfl,rfl,rfl,rfl,rfl,rfl,rfl,rfl,rfl,trivial⟩)
  | true =>
   rw [hkn] at fin
   obtain ⟨b',o',cc,fix,wr,el,g1',g2,g3,g4,g5⟩:=(sF.hx Y5).at eF u43 tp25 hfb .i64
   refine WL.yes rfl <| WL.reg ?_
   refine WOL.mv rfl <| WOL.fa rfl (fa_of fo46_2) ?_
   refine WOL.ld rfl (load_one tp43 (A17.hx X5) rfl) <| WOL.mv rfl <| WOL.ix rfl rfl g1' ?_
   refine WOL.ld rfl (load_one tp25 g2 (g5 0 (by decide))) ?_
   refine WOL.bs1 rfl u43 tp25 rfl fun h6 N6 => ?_
   have Y6:=Y5.trans N6.hx
   obtain ⟨w5,h7,ap,O7,x7,_,_,_⟩:=own_push (sT:=43) (x:=fb) eF u43 tp25 ((O1.hx Z5).hx N6.hx) (SlC.own (sz:=1) (m:=1) rfl N6.at_) (ff.hx Y6) (by omega) Y6.next
   refine WOL.ap rfl rfl ap <| WOL.as rfl <| WOL.nil ?_
   exact fun a q => fin h7 w5 _ (x7 g Y6 (Nat.le_refl _)) O7 (lv.snoc sb) a (q.sub ⟨rfl,rfl,rfl,rfl,rfl,rfl,rfl,rfl,rfl,rfl,rfl,trivial⟩)
 ·rw [show decide ((k:Int) < 3) = false from decide_eq_false (by omega)]
  obtain rfl:k = 3:=by omega
  refine WL.no rfl <| WL.exit ?_
  exact kto (K g1 w Hs X1 O1 lv) ⟨rfl,rfl,rfl,rfl,rfl,rfl,rfl,rfl,rfl,trivial⟩
end
end Go.Tidy
namespace Go.Tidy
open Go Go.Proofs Tab
variable {tp:TProg}
theorem elemF {h:TH} {w:Value} {l:List Nat} (s:SlL encF 1 h w l) {j:Nat} {b:Nat} (hj:l[j]? = some b):∃ p,indexAddrT Tryz.prog 43 w (zi (j:Nat)) = some p ∧ loadT Tryz.prog 25 p h = some (.float .f32 b):=by
 obtain ⟨b',o',cc,fix,wr,el,g1,g2,g3,g4,g5⟩:=s.at eF u43 tp25 hj .i64
 exact ⟨_,g1,load_one tp25 g2 (g5 0 (by decide))⟩
section
variable {P:Program} {h:TH} {K:Regs → TH → Prop} {rest:List TOper} {d:Option Tmp} {ty:TypeId} {i:Nat} {x y:Operand} {t u:TypeId} {L:Rg}
end
theorem lt0_pos {b:Nat} {m:Int} (s:Samp b m) (h:lt0 b = false):0 ≤ m:=by
 have z:Samp 0 0:=by have:=(smp_ok (n:=0) (by decide)).2.2; rwa [smp_zero] at this
 unfold lt0 at h
 rw [s.nan,s.order z] at h
 rw [if_neg (by decide)] at h
 have:(some (compare m 0) == some Ordering.lt) = decide (m < 0):=by
  show (some (compareOfLessAndEq m 0) == some Ordering.lt) = _
  unfold compareOfLessAndEq
  by_cases h:m < 0
  ·simp [h]
  ·by_cases h2:m = 0
   ·subst h2; rfl
   ·simp [h,h2]
 rw [this] at h
 simpa using h
section
variable {s:Nat → ByteArray} {n:Int} {v1 v2:Nat → Value} {C:Nat → List (Int × Bool)} {N lb c2 c7:Nat} {m:Int} {hb g:TH} {Q:Exit → Regs → TH → Prop} {gx:Nat} {p126 p127 p128:Value}
set_option maxHeartbeats 4000000 in
set_option maxRecDepth 10000 in
theorem k10i {rest:TCode} {w:Value} {Hs:List Nat} {L:List Int} {kn:Bool} {vl:Int} {i:Nat} (sH:SlL encF 1 g w Hs) (lv:Lev Hs L) (hL:L.length ≤ 3) (sx:Samp gx vl) (h2:L.length < 2 → kn = false) (h3:∀ a,L = [a,a,a] → kn = true ∧ vl = a)
    (K:∀ a,Kn [(1,.float .f32 lb),(2,ptr c2),(7,ptr c7),(13,zi (i:Nat)),(14,.float .f32 gx),(15,w),(18,.bool kn),(126,p126),(127,p127),(128,p128)] a → W Tryz.prog tp false rest a g Q) :
    ∀ a,Kn [(1,.float .f32 lb),(2,ptr c2),(7,ptr c7),(13,zi (i:Nat)),(14,.float .f32 gx),(15,w),(18,.bool kn),(126,p126),(127,p127),(128,p128)] a → W Tryz.prog tp false (.seq (.seq (.reg r10_24) (.cond (.tmp 191) (.seq (.reg r10_25) .ret) .skip)) rest) a g Q:=by
  refine WL.seq <| WL.sr ?_
  match Hs,L,lv.1 with
  | [],[],_ =>
    obtain rfl:=h2 (by simp)
    repeat' (first
    | (refine WOL.len rfl sH u43 ?_)
    | refine WOL.now (b:=true) rfl rfl ?_ | refine WOL.now (b:=false) rfl rfl ?_
    | refine WOL.skp (b:=true) rfl rfl ?_ | refine WOL.skp (b:=false) rfl rfl ?_ | refine WOL.gu rfl rfl ?_
    | refine WOL.mv rfl ?_ | refine WOL.as rfl ?_
    | refine WOL.bi rfl rfl rfl ?_ | refine WOL.nt rfl ?_
    | refine WOL.pkt rfl rfl ?_ | refine WOL.pkf rfl rfl ?_)
    refine WOL.nil ?_
    exact WL.no rfl <| WL.skip <| kto K ⟨rfl,rfl,rfl,rfl,rfl,rfl,rfl,rfl,rfl,rfl,trivial⟩
  | [_],[_],_ =>
    obtain rfl:=h2 (by simp)
    repeat' (first
    | (refine WOL.len rfl sH u43 ?_)
    | refine WOL.now (b:=true) rfl rfl ?_ | refine WOL.now (b:=false) rfl rfl ?_
    | refine WOL.skp (b:=true) rfl rfl ?_ | refine WOL.skp (b:=false) rfl rfl ?_ | refine WOL.gu rfl rfl ?_
    | refine WOL.mv rfl ?_ | refine WOL.as rfl ?_
    | refine WOL.bi rfl rfl rfl ?_ | refine WOL.nt rfl ?_
    | refine WOL.pkt rfl rfl ?_ | refine WOL.pkf rfl rfl ?_)
    refine WOL.nil ?_
    exact WL.no rfl <| WL.skip <| kto K ⟨rfl,rfl,rfl,rfl,rfl,rfl,rfl,rfl,rfl,rfl,trivial⟩
  | [_,_],[_,_],_ =>
    repeat' (first
    | (refine WOL.len rfl sH u43 ?_)
    | refine WOL.now (b:=true) rfl rfl ?_ | refine WOL.now (b:=false) rfl rfl ?_
    | refine WOL.skp (b:=true) rfl rfl ?_ | refine WOL.skp (b:=false) rfl rfl ?_ | refine WOL.gu rfl rfl ?_
    | refine WOL.mv rfl ?_ | refine WOL.as rfl ?_
    | refine WOL.bi rfl rfl rfl ?_ | refine WOL.nt rfl ?_
    | refine WOL.pkt rfl rfl ?_ | refine WOL.pkf rfl rfl ?_)
    refine WOL.nil ?_
    exact WL.no rfl <| WL.skip <| kto K ⟨rfl,rfl,rfl,rfl,rfl,rfl,rfl,rfl,rfl,rfl,trivial⟩
  | [a, b, c], [x, y, z], _ =>
    obtain ⟨p0,i0,l0⟩:=elemF sH (j:=0) rfl
    obtain ⟨p1,i1,l1⟩:=elemF sH (j:=1) rfl
    obtain ⟨p2,i2,l2⟩:=elemF sH (j:=2) rfl
    have s0:=lv.2 0 a x rfl rfl
    have s1:=lv.2 1 b y rfl rfl
    have s2:=lv.2 2 c z rfl rfl
    by_cases e1:x = y
    · by_cases e2:y = z
      · obtain ⟨rfl,e3⟩:=h3 y (by rw [e1,e2])
        repeat' (first
    | (refine WOL.len rfl sH u43 ?_)
    | (refine WOL.ix rfl rfl i0 ?_)
    | (refine WOL.ix rfl rfl i1 ?_)
    | (refine WOL.ix rfl rfl i2 ?_)
    | (refine WOL.ld rfl l0 ?_)
    | (refine WOL.ld rfl l1 ?_)
    | (refine WOL.ld rfl l2 ?_)
    | ((refine WOL.feq s0 s1 rfl rfl ?_; rw [decide_eq_true e1]))
    | ((refine WOL.feq s1 s2 rfl rfl ?_; rw [decide_eq_true e2]))
    | ((refine WOL.fne sx s0 rfl rfl ?_; rw [decide_eq_true (by omega:vl = x)]))
    | refine WOL.now (b:=true) rfl rfl ?_ | refine WOL.now (b:=false) rfl rfl ?_
    | refine WOL.skp (b:=true) rfl rfl ?_ | refine WOL.skp (b:=false) rfl rfl ?_ | refine WOL.gu rfl rfl ?_
    | refine WOL.mv rfl ?_ | refine WOL.as rfl ?_
    | refine WOL.bi rfl rfl rfl ?_ | refine WOL.nt rfl ?_
    | refine WOL.pkt rfl rfl ?_ | refine WOL.pkf rfl rfl ?_)
        refine WOL.nil ?_
        exact WL.no rfl <| WL.skip <| kto K ⟨rfl,rfl,rfl,rfl,rfl,rfl,rfl,rfl,rfl,rfl,trivial⟩
      · repeat' (first
    | (refine WOL.len rfl sH u43 ?_)
    | (refine WOL.ix rfl rfl i0 ?_)
    | (refine WOL.ix rfl rfl i1 ?_)
    | (refine WOL.ix rfl rfl i2 ?_)
    | (refine WOL.ld rfl l0 ?_)
    | (refine WOL.ld rfl l1 ?_)
    | (refine WOL.ld rfl l2 ?_)
    | ((refine WOL.feq s0 s1 rfl rfl ?_; rw [decide_eq_true e1]))
    | ((refine WOL.feq s1 s2 rfl rfl ?_; rw [decide_eq_false e2]))
    | refine WOL.now (b:=true) rfl rfl ?_ | refine WOL.now (b:=false) rfl rfl ?_
    | refine WOL.skp (b:=true) rfl rfl ?_ | refine WOL.skp (b:=false) rfl rfl ?_ | refine WOL.gu rfl rfl ?_
    | refine WOL.mv rfl ?_ | refine WOL.as rfl ?_
    | refine WOL.bi rfl rfl rfl ?_ | refine WOL.nt rfl ?_
    | refine WOL.pkt rfl rfl ?_ | refine WOL.pkf rfl rfl ?_)
        refine WOL.nil ?_
        exact WL.no rfl <| WL.skip <| kto K ⟨rfl,rfl,rfl,rfl,rfl,rfl,rfl,rfl,rfl,rfl,trivial⟩
    · repeat' (first
    | (refine WOL.len rfl sH u43 ?_)
    | (refine WOL.ix rfl rfl i0 ?_)
    | (refine WOL.ix rfl rfl i1 ?_)
    | (refine WOL.ld rfl l0 ?_)
    | (refine WOL.ld rfl l1 ?_)
    | ((refine WOL.feq s0 s1 rfl rfl ?_; rw [decide_eq_false e1]))
    | refine WOL.now (b:=true) rfl rfl ?_ | refine WOL.now (b:=false) rfl rfl ?_
    | refine WOL.skp (b:=true) rfl rfl ?_ | refine WOL.skp (b:=false) rfl rfl ?_ | refine WOL.gu rfl rfl ?_
    | refine WOL.mv rfl ?_ | refine WOL.as rfl ?_
    | refine WOL.bi rfl rfl rfl ?_ | refine WOL.nt rfl ?_
    | refine WOL.pkt rfl rfl ?_ | refine WOL.pkf rfl rfl ?_)
      refine WOL.nil ?_
      exact WL.no rfl <| WL.skip <| kto K ⟨rfl,rfl,rfl,rfl,rfl,rfl,rfl,rfl,rfl,rfl,trivial⟩
  | _ :: _ :: _ :: _ :: _,_ :: _ :: _ :: _ :: _,_ => simp at hL
end
end Go.Tidy
namespace Go.Tidy
open Go Go.Proofs Tab
variable {tp:TProg}
def btw (m x:Int) (a b:Nat) (la lb:Int):Bool:=((a:Int) != (b:Int)) && (decide (la ≤ x) && (decide (x ≤ lb) && decide (lb - la ≤ 2 * m)))
def btL (m x:Int) (L:List Int) (a b:Nat):Bool:=btw m x a b (L.getD a 0) (L.getD b 0)
def anyN (p:Nat → Bool):Nat → Bool
 | 0 => false
 | n + 1 => anyN p n || p n
theorem anyN_of {p:Nat → Bool}:∀ {n i:Nat},i < n → p i = true → anyN p n = true
 | n + 1,i,h,hp => by
  unfold anyN
  by_cases hi:i = n
  ·subst hi; rw [hp,Bool.or_true]
  ·rw [anyN_of (by omega:i < n) hp]; rfl
def btA (m x:Int) (L:List Int):Bool:=anyN (fun a => anyN (btL m x L a) L.length) L.length
theorem btA_of {m x:Int} {L:List Int} {a b:Nat} {la lb:Int} (ha:L[a]? = some la) (hb:L[b]? = some lb) (hab:a ≠ b) (h1:la ≤ x) (h2:x ≤ lb) (h3:lb - la ≤ 2 * m):btA m x L = true:=by
 have q1:=(List.getElem?_eq_some_iff.1 ha).1
 have q2:=(List.getElem?_eq_some_iff.1 hb).1
 refine anyN_of q1 (anyN_of q2 ?_)
 unfold btL btw
 rw [List.getD_eq_getElem?_getD,List.getD_eq_getElem?_getD,ha,hb]
 have e:((a:Int) != (b:Int)) = true:=by simp; omega
 rw [e]
 simp [h1,h2,h3]
theorem rnd2 (z:Int):rnd z 2 = (2 * z + 2) / 4:=rfl
theorem vote_between {m x:Int} (hm:0 ≤ m):∀ {L:List Int},voteR m L = (x,true) → btA m x L = true
  | [],h => by cases h
  | [_],h => by cases h
  | [a,b],h => by
    unfold voteR at h
    injection h with h1 h2
    rw [rnd2] at h1
    have h2:=of_decide_eq_true h2
    by_cases hab:a ≤ b
    · exact btA_of (a:=0) (b:=1) (la:=a) (lb:=b) rfl rfl (by decide) (by omega) (by omega) (by omega)
    · exact btA_of (a:=1) (b:=0) (la:=b) (lb:=a) rfl rfl (by decide) (by omega) (by omega) (by omega)
  | [a, b, c], h => by
    unfold voteR midV at h
    injection h with h1 h2
    rw [Bool.or_eq_true] at h2
    have h2:a + b + c - min (min a b) c - max (max a b) c - min (min a b) c ≤ m ∨ max (max a b) c - (a + b + c - min (min a b) c - max (max a b) c) ≤ m:=h2.imp of_decide_eq_true of_decide_eq_true
    rcases h2 with h2 | h2
    · by_cases hab:a ≤ b
      · by_cases hbc:b ≤ c
        · exact btA_of (a:=0) (b:=1) (la:=a) (lb:=b) rfl rfl (by decide) (by omega) (by omega) (by omega)
        · by_cases hac:a ≤ c
          · exact btA_of (a:=0) (b:=2) (la:=a) (lb:=c) rfl rfl (by decide) (by omega) (by omega) (by omega)
          · exact btA_of (a:=2) (b:=0) (la:=c) (lb:=a) rfl rfl (by decide) (by omega) (by omega) (by omega)
      · by_cases hac:a ≤ c
        · exact btA_of (a:=1) (b:=0) (la:=b) (lb:=a) rfl rfl (by decide) (by omega) (by omega) (by omega)
        · by_cases hbc:b ≤ c
          · exact btA_of (a:=1) (b:=2) (la:=b) (lb:=c) rfl rfl (by decide) (by omega) (by omega) (by omega)
          · exact btA_of (a:=2) (b:=1) (la:=c) (lb:=b) rfl rfl (by decide) (by omega) (by omega) (by omega)
    · by_cases hab:a ≤ b
      · by_cases hbc:b ≤ c
        · exact btA_of (a:=1) (b:=2) (la:=b) (lb:=c) rfl rfl (by decide) (by omega) (by omega) (by omega)
        · by_cases hac:a ≤ c
          · exact btA_of (a:=2) (b:=1) (la:=c) (lb:=b) rfl rfl (by decide) (by omega) (by omega) (by omega)
          · exact btA_of (a:=0) (b:=1) (la:=a) (lb:=b) rfl rfl (by decide) (by omega) (by omega) (by omega)
      · by_cases hac:a ≤ c
        · exact btA_of (a:=0) (b:=2) (la:=a) (lb:=c) rfl rfl (by decide) (by omega) (by omega) (by omega)
        · by_cases hbc:b ≤ c
          · exact btA_of (a:=2) (b:=0) (la:=c) (lb:=a) rfl rfl (by decide) (by omega) (by omega) (by omega)
          · exact btA_of (a:=1) (b:=0) (la:=b) (lb:=a) rfl rfl (by decide) (by omega) (by omega) (by omega)
  | _ :: _ :: _ :: _ :: _,h => by cases h
section
variable {lb c2 c7:Nat} {m:Int} {g:TH} {Q:Exit → Regs → TH → Prop} {gx:Nat} {p13 p18 p126 p127 p128 p192 p193 p194 p198 p199 w:Value}
set_option maxHeartbeats 4000000 in
set_option maxRecDepth 10000 in
theorem k10s {Hs:List Nat} {a b ba bb:Nat} {la lc x:Int} {bt:Bool} (sH:SlL encF 1 g w Hs) (ha:Hs[a]? = some ba) (hb:Hs[b]? = some bb) (sa:Samp ba la) (sb:Samp bb lc) (hla:la.natAbs ≤ 16384) (hlc:lc.natAbs ≤ 16384) (sx:Samp gx x) (sm:Samp lb m)
    (K:∀ b',b' = (bt || btw m x a b la lc) → ∀ r,Kn [(1,.float .f32 lb),(2,ptr c2),(7,ptr c7),(13,p13),(14,.float .f32 gx),(15,w),(18,p18),(19,.bool b'),(20,zi (a:Nat)),(126,p126),(127,p127),(128,p128),(193,p193),(194,p194),(198,p198),(199,p199)] r → Q .normal r g) :
    ∀ r,Kn [(1,.float .f32 lb),(2,ptr c2),(7,ptr c7),(13,p13),(14,.float .f32 gx),(15,w),(18,p18),(19,.bool bt),(20,zi (a:Nat)),(21,zi (b:Nat)),(126,p126),(127,p127),(128,p128),(193,p193),(194,p194),(198,p198),(199,p199)] r → W Tryz.prog tp false (.reg r10_33) r g Q:=by
  refine WL.reg ?_
  cases bt with
  | true =>
    repeat' (first
    | refine WOL.now (b:=true) rfl rfl ?_ | refine WOL.now (b:=false) rfl rfl ?_
    | refine WOL.skp (b:=true) rfl rfl ?_ | refine WOL.skp (b:=false) rfl rfl ?_ | refine WOL.gu rfl rfl ?_
    | refine WOL.mv rfl ?_ | refine WOL.as rfl ?_
    | refine WOL.bi rfl rfl rfl ?_ | refine WOL.nt rfl ?_
    | refine WOL.pkt rfl rfl ?_ | refine WOL.pkf rfl rfl ?_)
    refine WOL.nil ?_
    exact kto (K true rfl) ⟨rfl,rfl,rfl,rfl,rfl,rfl,rfl,rfl,rfl,rfl,rfl,rfl,rfl,rfl,rfl,rfl,trivial⟩
  | false =>
    obtain ⟨pa,ia,va⟩:=elemF sH ha
    obtain ⟨pb,ib,vb⟩:=elemF sH hb
    refine WOL.mv rfl <| WOL.mv rfl ?_
    repeat' (first
    | refine WOL.now (b:=true) rfl rfl ?_ | refine WOL.now (b:=false) rfl rfl ?_
    | refine WOL.skp (b:=true) rfl rfl ?_ | refine WOL.skp (b:=false) rfl rfl ?_ | refine WOL.gu rfl rfl ?_
    | refine WOL.mv rfl ?_ | refine WOL.as rfl ?_
    | refine WOL.bi rfl rfl rfl ?_ | refine WOL.nt rfl ?_
    | refine WOL.pkt rfl rfl ?_ | refine WOL.pkf rfl rfl ?_)
    cases h1:((a:Int) != (b:Int)) with
    | false =>
      repeat' (first
    | refine WOL.now (b:=true) rfl rfl ?_ | refine WOL.now (b:=false) rfl rfl ?_
    | refine WOL.skp (b:=true) rfl rfl ?_ | refine WOL.skp (b:=false) rfl rfl ?_ | refine WOL.gu rfl rfl ?_
    | refine WOL.mv rfl ?_ | refine WOL.as rfl ?_
    | refine WOL.bi rfl rfl rfl ?_ | refine WOL.nt rfl ?_
    | refine WOL.pkt rfl rfl ?_ | refine WOL.pkf rfl rfl ?_)
      refine WOL.nil ?_
      exact kto (K false (by unfold btw; rw [h1]; rfl)) ⟨rfl,rfl,rfl,rfl,rfl,rfl,rfl,rfl,rfl,rfl,rfl,rfl,rfl,rfl,rfl,rfl,trivial⟩
    | true =>
      repeat' (first
    | (refine WOL.ix rfl rfl ia ?_)
    | (refine WOL.ld rfl va ?_)
    | (refine WOL.fle sa.x sx.x rfl rfl ?_)
    | refine WOL.now (b:=true) rfl rfl ?_ | refine WOL.now (b:=false) rfl rfl ?_
    | refine WOL.skp (b:=true) rfl rfl ?_ | refine WOL.skp (b:=false) rfl rfl ?_ | refine WOL.gu rfl rfl ?_
    | refine WOL.mv rfl ?_ | refine WOL.as rfl ?_
    | refine WOL.bi rfl rfl rfl ?_ | refine WOL.nt rfl ?_
    | refine WOL.pkt rfl rfl ?_ | refine WOL.pkf rfl rfl ?_)
      cases h2:decide (la ≤ x) with
      | false =>
        repeat' (first
    | refine WOL.now (b:=true) rfl rfl ?_ | refine WOL.now (b:=false) rfl rfl ?_
    | refine WOL.skp (b:=true) rfl rfl ?_ | refine WOL.skp (b:=false) rfl rfl ?_ | refine WOL.gu rfl rfl ?_
    | refine WOL.mv rfl ?_ | refine WOL.as rfl ?_
    | refine WOL.bi rfl rfl rfl ?_ | refine WOL.nt rfl ?_
    | refine WOL.pkt rfl rfl ?_ | refine WOL.pkf rfl rfl ?_)
        refine WOL.nil ?_
        exact kto (K false (by unfold btw; rw [h1,h2]; rfl)) ⟨rfl,rfl,rfl,rfl,rfl,rfl,rfl,rfl,rfl,rfl,rfl,rfl,rfl,rfl,rfl,rfl,trivial⟩
      | true =>
        repeat' (first
    | (refine WOL.ix rfl rfl ib ?_)
    | (refine WOL.ld rfl vb ?_)
    | (refine WOL.fle sx.x sb.x rfl rfl ?_)
    | refine WOL.now (b:=true) rfl rfl ?_ | refine WOL.now (b:=false) rfl rfl ?_
    | refine WOL.skp (b:=true) rfl rfl ?_ | refine WOL.skp (b:=false) rfl rfl ?_ | refine WOL.gu rfl rfl ?_
    | refine WOL.mv rfl ?_ | refine WOL.as rfl ?_
    | refine WOL.bi rfl rfl rfl ?_ | refine WOL.nt rfl ?_
    | refine WOL.pkt rfl rfl ?_ | refine WOL.pkf rfl rfl ?_)
        cases h3:decide (x ≤ lc) with
        | false =>
          repeat' (first
    | refine WOL.now (b:=true) rfl rfl ?_ | refine WOL.now (b:=false) rfl rfl ?_
    | refine WOL.skp (b:=true) rfl rfl ?_ | refine WOL.skp (b:=false) rfl rfl ?_ | refine WOL.gu rfl rfl ?_
    | refine WOL.mv rfl ?_ | refine WOL.as rfl ?_
    | refine WOL.bi rfl rfl rfl ?_ | refine WOL.nt rfl ?_
    | refine WOL.pkt rfl rfl ?_ | refine WOL.pkf rfl rfl ?_)
          refine WOL.nil ?_
          exact kto (K false (by unfold btw; rw [h1,h2,h3]; rfl)) ⟨rfl,rfl,rfl,rfl,rfl,rfl,rfl,rfl,rfl,rfl,rfl,rfl,rfl,rfl,rfl,rfl,trivial⟩
        | true =>
          repeat' (first
    | (refine WOL.ix rfl rfl ib ?_)
    | (refine WOL.ld rfl vb ?_)
    | (refine WOL.ix rfl rfl ia ?_)
    | (refine WOL.ld rfl va ?_)
    | (refine WOL.fsub sb.x sa.x (by omega) (by omega) rfl rfl fun r1 q1 => ?_)
    | (refine WOL.ftwo sm rfl rfl fun r2 q2 => ?_)
    | (refine WOL.fle q1 q2 rfl rfl ?_)
    | refine WOL.now (b:=true) rfl rfl ?_ | refine WOL.now (b:=false) rfl rfl ?_
    | refine WOL.skp (b:=true) rfl rfl ?_ | refine WOL.skp (b:=false) rfl rfl ?_ | refine WOL.gu rfl rfl ?_
    | refine WOL.mv rfl ?_ | refine WOL.as rfl ?_
    | refine WOL.bi rfl rfl rfl ?_ | refine WOL.nt rfl ?_
    | refine WOL.pkt rfl rfl ?_ | refine WOL.pkf rfl rfl ?_)
          refine WOL.nil ?_
          exact kto (K _ (by unfold btw; rw [h1,h2,h3]; rfl)) ⟨rfl,rfl,rfl,rfl,rfl,rfl,rfl,rfl,rfl,rfl,rfl,rfl,rfl,rfl,rfl,rfl,trivial⟩
set_option maxHeartbeats 4000000 in
set_option maxRecDepth 10000 in
theorem k10j {rest:TCode} {Hs:List Nat} {L:List Int} {x:Int} (sH:SlL encF 1 g w Hs) (lv:Lev Hs L) (hL:L.length ≤ 3) (lim:∀ l,l ∈ L → l.natAbs ≤ 16384) (sx:Samp gx x) (sm:Samp lb m)
    (K:∀ r,Kn [(1,.float .f32 lb),(2,ptr c2),(7,ptr c7),(13,p13),(18,p18),(19,.bool (btA m x L)),(126,p126),(127,p127),(128,p128)] r → W Tryz.prog tp false rest r g Q) :
    ∀ r,Kn [(1,.float .f32 lb),(2,ptr c2),(7,ptr c7),(13,p13),(14,.float .f32 gx),(15,w),(18,p18),(126,p126),(127,p127),(128,p128)] r → W Tryz.prog tp false (.seq (.reg r10_26) (.seq (.seq (.reg r10_27) (.block 6 (.loop (.seq (.reg r10_28) (.seq (.cond (.tmp 195) .skip (.exit 6)) (.seq (.block 7 (.seq (.reg r10_29) (.seq (.reg r10_30) (.block 8 (.loop (.seq (.reg r10_31) (.seq (.cond (.tmp 200) .skip (.exit 8)) (.seq (.block 9 (.seq (.reg r10_32) (.reg r10_33))) (.reg r10_34))))))))) (.reg r10_35))))))) rest)) r g Q:=by
  have hl:=lv.1
  refine WL.sr <| WOL.as rfl <| WOL.nil ?_
  refine WL.seq <| WL.sr <| WOL.mv rfl <| WOL.len rfl sH u43 <| WOL.mv rfl <| WOL.nil <| keep [(1,_),(2,_),(7,_),(13,_),(14,_),(15,_),(18,_),(19,_),(126,_),(127,_),(128,_),(193,_),(194,_)] ⟨rfl,rfl,rfl,rfl,rfl,rfl,rfl,rfl,rfl,rfl,rfl,rfl,rfl,trivial⟩ ?_
  rw [hl]
  refine WL.block ?_
  refine WL.loop (fun q r g' => ∃ a:Nat,a ≤ L.length ∧ q = L.length - a ∧ g' = g ∧ Kn [(1,.float .f32 lb),(2,ptr c2),(7,ptr c7),(13,p13),(14,.float .f32 gx),(15,w),(18,p18),(19,.bool (anyN (fun a => anyN (btL m x L a) L.length) a)),(126,p126),(127,p127),(128,p128),(193,zi (L.length:Nat)),(194,zi (a:Nat))] r) L.length (fun r q => ⟨0,by omega,by omega,rfl,q.sub ⟨rfl,rfl,rfl,rfl,rfl,rfl,rfl,rfl,rfl,rfl,rfl,rfl,rfl,trivial⟩⟩) ?_
  rintro q r g ⟨a,ha,rfl,rfl,q⟩
  refine q.go ?_
  refine WL.sr <| WOL.bi (v:=.bool (decide ((a:Int) < (L.length:Int)))) rfl rfl rfl <| WOL.nil <| keep [(1,_),(2,_),(7,_),(13,_),(14,_),(15,_),(18,_),(19,_),(126,_),(127,_),(128,_),(193,_),(194,_),(195,_)] ⟨rfl,rfl,rfl,rfl,rfl,rfl,rfl,rfl,rfl,rfl,rfl,rfl,rfl,rfl,trivial⟩ ?_
  refine WL.seq ?_
  by_cases hlt:a < L.length
  · rw [show decide ((a:Int) < (L.length:Int)) = true from decide_eq_true (by omega)]
    refine WL.yes rfl <| WL.skip ?_
    refine WL.seq <| WL.block ?_
    refine WL.sr <| WOL.mv rfl <| WOL.as rfl <| WOL.nil ?_
    refine WL.sr <| WOL.mv rfl <| WOL.len rfl sH u43 <| WOL.mv rfl <| WOL.nil <| keep [(1,_),(2,_),(7,_),(13,_),(14,_),(15,_),(18,_),(19,_),(20,_),(126,_),(127,_),(128,_),(193,_),(194,_),(198,_),(199,_)] ⟨rfl,rfl,rfl,rfl,rfl,rfl,rfl,rfl,rfl,rfl,rfl,rfl,rfl,rfl,rfl,rfl,trivial⟩ ?_
    rw [hl]
    refine WL.block ?_
    refine WL.loop (fun q r g' => ∃ b:Nat,b ≤ L.length ∧ q = L.length - b ∧ g' = g ∧ Kn [(1,.float .f32 lb),(2,ptr c2),(7,ptr c7),(13,p13),(14,.float .f32 gx),(15,w),(18,p18),(19,.bool (anyN (fun a => anyN (btL m x L a) L.length) a || anyN (btL m x L a) b)),(20,zi (a:Nat)),(126,p126),(127,p127),(128,p128),(193,zi (L.length:Nat)),(194,zi (a:Nat)),(198,zi (L.length:Nat)),(199,zi (b:Nat))] r) L.length (fun r q => ⟨0,by omega,by omega,rfl,by rw [show (anyN (fun a => anyN (btL m x L a) L.length) a || anyN (btL m x L a) 0) = anyN (fun a => anyN (btL m x L a) L.length) a from Bool.or_false _]; exact q.sub ⟨rfl,rfl,rfl,rfl,rfl,rfl,rfl,rfl,rfl,rfl,rfl,rfl,rfl,rfl,rfl,rfl,trivial⟩⟩) ?_
    rintro q r g ⟨b,hb,rfl,rfl,q⟩
    refine q.go ?_
    refine WL.sr <| WOL.bi (v:=.bool (decide ((b:Int) < (L.length:Int)))) rfl rfl rfl <| WOL.nil <| keep [(1,_),(2,_),(7,_),(13,_),(14,_),(15,_),(18,_),(19,_),(20,_),(126,_),(127,_),(128,_),(193,_),(194,_),(198,_),(199,_),(200,_)] ⟨rfl,rfl,rfl,rfl,rfl,rfl,rfl,rfl,rfl,rfl,rfl,rfl,rfl,rfl,rfl,rfl,rfl,trivial⟩ ?_
    refine WL.seq ?_
    by_cases hlb:b < L.length
    · rw [show decide ((b:Int) < (L.length:Int)) = true from decide_eq_true (by omega)]
      refine WL.yes rfl <| WL.skip ?_
      refine WL.seq <| WL.block ?_
      refine WL.sr <| WOL.mv rfl <| WOL.as rfl <| WOL.nil <| keep [(1,_),(2,_),(7,_),(13,_),(14,_),(15,_),(18,_),(19,_),(20,_),(21,_),(126,_),(127,_),(128,_),(193,_),(194,_),(198,_),(199,_)] ⟨rfl,rfl,rfl,rfl,rfl,rfl,rfl,rfl,rfl,rfl,rfl,rfl,rfl,rfl,rfl,rfl,rfl,trivial⟩ ?_
      have ea:Hs[a]? = some Hs[a]:=List.getElem?_eq_getElem (by omega)
      have eb:Hs[b]? = some Hs[b]:=List.getElem?_eq_getElem (by omega)
      have la:L[a]? = some L[a]:=List.getElem?_eq_getElem hlt
      have lc:L[b]? = some L[b]:=List.getElem?_eq_getElem hlb
      refine k10s sH ea eb (lv.2 _ _ _ ea la) (lv.2 _ _ _ eb lc) (lim _ (List.getElem_mem hlt)) (lim _ (List.getElem_mem hlb)) sx sm fun b' hb' => ?_
      have e:b' = (anyN (fun a => anyN (btL m x L a) L.length) a || anyN (btL m x L a) (b + 1)):=by
        rw [hb']
        show (_ || _ || _) = (_ || (_ || btL m x L a b))
        rw [Bool.or_assoc]
        unfold btL
        rw [List.getD_eq_getElem?_getD,List.getD_eq_getElem?_getD,la,lc]
        rfl
      rw [e]
      refine WL.reg ?_
      refine WOL.bi (v:=zi ((b + 1:Nat):Int)) rfl rfl (by show some (Value.int .i64 (fwrap .i64 ((b:Int) + 1))) = _; rw [fwrap_i64 (by omega) (by omega)]; rfl) ?_
      refine WOL.mv rfl <| WOL.nil ?_
      exact fun r q => ⟨L.length - (b + 1),by omega,b + 1,by omega,rfl,rfl,q.sub ⟨rfl,rfl,rfl,rfl,rfl,rfl,rfl,rfl,rfl,rfl,rfl,rfl,rfl,rfl,rfl,rfl,trivial⟩⟩
    · rw [show decide ((b:Int) < (L.length:Int)) = false from decide_eq_false (by omega)]
      obtain rfl:b = L.length:=by omega
      refine WL.no rfl <| WL.exit ?_
      refine WL.reg ?_
      refine WOL.bi (v:=zi ((a + 1:Nat):Int)) rfl rfl (by show some (Value.int .i64 (fwrap .i64 ((a:Int) + 1))) = _; rw [fwrap_i64 (by omega) (by omega)]; rfl) ?_
      refine WOL.mv rfl <| WOL.nil ?_
      exact fun r q => ⟨L.length - (a + 1),by omega,a + 1,by omega,rfl,rfl,q.sub ⟨rfl,rfl,rfl,rfl,rfl,rfl,rfl,rfl,rfl,rfl,rfl,rfl,rfl,trivial⟩⟩
  · rw [show decide ((a:Int) < (L.length:Int)) = false from decide_eq_false (by omega)]
    obtain rfl:a = L.length:=by omega
    refine WL.no rfl <| WL.exit ?_
    exact kto K ⟨rfl,rfl,rfl,rfl,rfl,rfl,rfl,rfl,rfl,trivial⟩
end
end Go.Tidy
namespace Go.Tidy
open Go Go.Proofs Tab
variable {tp:TProg}
theorem vote_few {m:Int} {C:Nat → List (Int × Bool)} {i:Nat} (h:(knownV (rowC C i)).length < 2):(voteA m C i).2 = false:=by
 rw [voteA_L]
 unfold voteL
 match knownV (rowC C i),h with
 | [],_ => rfl
 | [_],_ => rfl
 | _ :: _ :: _,h => simp at h; omega
theorem vote_equal {m:Int} (hm:0 ≤ m) {C:Nat → List (Int × Bool)} {i:Nat} {a:Int} (h:knownV (rowC C i) = [a,a,a]):(voteA m C i).2 = true ∧ (voteA m C i).1 = a:=by
 rw [voteA_L]
 unfold voteL
 rw [h]
 have h3:midV a a a = a:=by unfold midV; omega
 have e:voteR m [a,a,a] = (a,true):=by
  simp only [voteR]
  rw [h3]
  have:(decide (a - min (min a a) a ≤ m) || decide (max (max a a) a - a ≤ m)) = true:=by
   rw [show min (min a a) a = a by omega,show max (max a a) a = a by omega]
   simp
   omega
  rw [this]
 rw [e]
 exact ⟨rfl,rfl⟩
theorem vote_in {m:Int} (hm:0 ≤ m) {C:Nat → List (Int × Bool)} {i:Nat} (h:(voteA m C i).2 = true):btA m (voteA m C i).1 (knownV (rowC C i)) = true:=by
 rw [voteA_L] at h ⊢
 unfold voteL at *
 cases hv:(voteR m (knownV (rowC C i))).2 with
 | false => rw [hv] at h; cases h
 | true =>
  rw [cond_true]
  exact vote_between hm (Prod.ext rfl hv)
theorem wr_twice {m:Int} (hm:0 ≤ m) {C D:List (Int × Bool)}:∀ N,wrN m (three C D C) N 0 = 0 ∧ wrN m (three C D C) N 2 = 0
  | 0 => ⟨rfl,rfl⟩
  | N + 1 => by
    obtain ⟨h1,h2⟩:=wr_twice hm N
    have e:wrongB m (cellD (three C D C) 0 N) (voteA m (three C D C) N) = false:=by
      show wrongB m (C.getD N (0,false)) (voteC m [C.getD N (0,false),D.getD N (0,false),C.getD N (0,false)]) = false
      generalize C.getD N (0,false) = x
      cases hx:x.2 with
      | false => unfold wrongB; rw [hx]; rfl
      | true =>
        rw [voteC_twice hm x _ hx]
        unfold wrongB
        rw [hx]
        simp
        omega
    exact ⟨by show wrN m (three C D C) N 0 + cond (wrongB m (cellD (three C D C) 0 N) (voteA m (three C D C) N)) 1 0 = 0; rw [h1,e]; rfl,
      by show wrN m (three C D C) N 2 + cond (wrongB m (cellD (three C D C) 0 N) (voteA m (three C D C) N)) 1 0 = 0; rw [h2,e]; rfl⟩
section
variable {s:Nat → ByteArray} {s':ByteArray} {n:Int} {v1 v2:Nat → Value} {w1 w2:Value} {C:Nat → List (Int × Bool)} {N lb c2 c7:Nat} {m:Int} {g:TH} {Q:Exit → Regs → TH → Prop}
set_option maxHeartbeats 4000000 in
set_option maxRecDepth 10000 in
theorem k10c (H:Has tp) {rest:TCode} (l:lane s n g v1 v2 C N) (sm:Samp lb m) (hm:0 ≤ m) (f:Free0 g.next g) (A2:At g c2 (.cells (cells12 s (fun _ => n) v1 v2) true true 82)) (B7:At g c7 (.cells (runV s' n w1 w2).cells.toList true true 52)) (RV:RunC s' n g w1 w2 (votesC m C N))
  (K:∀ g',HX g g' → ∀ a,Kn [(1,.float .f32 lb),(2,ptr c2)] a → W Tryz.prog tp false rest a g' Q) :
  ∀ a,Kn [(1,.float .f32 lb),(2,ptr c2),(7,ptr c7)] a → W Tryz.prog tp false (.seq (.seq (.reg r10_13) (.block 2 (.loop (.seq (.reg r10_14) (.seq (.cond (.tmp 129) .skip (.exit 2)) (.seq (.block 3 (.seq (.reg r10_15) (.seq (.reg r10_16) (.seq (.seq (.reg r10_17) (.block 4 (.loop (.seq (.reg r10_18) (.seq (.cond (.tmp 135) .skip (.exit 4)) (.seq (.block 5 (.seq (.reg r10_19) (.seq (.reg r10_20) (.cond (.tmp 139) (.reg r10_21) .skip)))) (.reg r10_22))))))) (.seq (.reg r10_23) (.seq (.seq (.reg r10_24) (.cond (.tmp 191) (.seq (.reg r10_25) .ret) .skip)) (.seq (.reg r10_26) (.seq (.seq (.reg r10_27) (.block 6 (.loop (.seq (.reg r10_28) (.seq (.cond (.tmp 195) .skip (.exit 6)) (.seq (.block 7 (.seq (.reg r10_29) (.seq (.reg r10_30) (.block 8 (.loop (.seq (.reg r10_31) (.seq (.cond (.tmp 200) .skip (.exit 8)) (.seq (.block 9 (.seq (.reg r10_32) (.reg r10_33))) (.reg r10_34))))))))) (.reg r10_35))))))) (.seq (.reg r10_36) (.cond (.tmp 244) (.seq (.reg r10_37) .ret) .skip)))))))))) (.reg r10_38))))))) rest) a g Q:=by
 have hVl:=votesC_len (m:=m) (C:=C) (N:=N)
 have lim:∀ k c,c ∈ C k → c.1.natAbs ≤ 16384:=fun k => (l k).1.small.2.2.2.2
 obtain ⟨b1,n1,q1,b2,n2,q2,rfl,rfl⟩:=RV.forms
 obtain ⟨F,hF,sF,sp⟩:=RV.samp
 obtain ⟨hsm,_⟩:=RV.small
 refine WL.seq ?_
 refine WL.sr <| WOL.fa rfl (fa_of fo52_2) ?_
 refine WOL.ld rfl (load_one tp43 B7 rfl) <| WOL.len rfl sF u43 ?_
 rw [show F.length = N by omega]
 refine WOL.mv rfl <| WOL.nil <| keep [(1,_),(2,_),(7,_),(126,_),(127,_),(128,_)] ⟨rfl,rfl,rfl,rfl,rfl,rfl,trivial⟩ ?_
 refine WL.block ?_
 refine WL.loop (fun q a g' => ∃ i:Nat,i ≤ N ∧ q = N - i ∧ HX g g' ∧ Kn [(1,.float .f32 lb),(2,ptr c2),(7,ptr c7),(126,.slice b1 n1 q1),(127,zi (N:Nat)),(128,zi (i:Nat))] a) N (fun a q => ⟨0,by omega,by omega,HX.refl _,q.sub ⟨rfl,rfl,rfl,rfl,rfl,rfl,trivial⟩⟩) ?_
 rintro q a g1 ⟨i,hi,rfl,X1,q⟩
 refine q.go ?_
 refine WL.sr <| WOL.bi (v:=.bool (decide ((i:Int) < (N:Int)))) rfl rfl rfl <| WOL.nil <| keep [(1,_),(2,_),(7,_),(126,_),(127,_),(128,_),(129,_)] ⟨rfl,rfl,rfl,rfl,rfl,rfl,rfl,trivial⟩ ?_
 refine WL.seq ?_
 by_cases hlt:i < N
 ·rw [show decide ((i:Int) < (N:Int)) = true from decide_eq_true (by omega)]
  have hV:(votesC m C N)[i]? = some (voteA m C i):=votesC_get hlt
  have hfb:F[i]? = some F[i]:=List.getElem?_eq_getElem (by omega)
  have sb:=sp i _ _ hfb hV
  obtain ⟨p,ip,lp⟩:=elemF (SlL.hx sF X1) hfb
  generalize F[i] = gx at *
  refine WL.yes rfl <| WL.skip ?_
  refine WL.seq <| WL.block ?_
  refine WL.sr <| WOL.mv rfl <| WOL.ix rfl rfl ip <| WOL.ld rfl lp <| WOL.as rfl <| WOL.as rfl <| WOL.nil <| keep [(1,_),(2,_),(7,_),(13,_),(14,_),(126,_),(127,_),(128,_)] ⟨rfl,rfl,rfl,rfl,rfl,rfl,rfl,rfl,trivial⟩ ?_
  refine k10h H (l.hx X1) hlt f X1 (A2.hx X1) fun g2 w Hs X2 O2 lv => ?_
  have Y2:=X1.trans X2
  refine WL.sr <| WOL.ld rfl (load_row tp52 (B7.hx Y2) rfl (Nat.le_of_ble_eq_true rfl)) <| WOL.mv rfl ?_
  refine WOL.cl2 rfl rfl rfl ((c39 H (i:Int) (RV.hx Y2)).mono ?_)
  rintro v g3 ⟨rfl,X3⟩
  have Y3:=Y2.trans X3
  rw [knownC_get hV]
  refine WOL.as rfl <| WOL.nil <| keep [(1,_),(2,_),(7,_),(13,_),(14,_),(15,_),(18,_),(126,_),(127,_),(128,_)] ⟨rfl,rfl,rfl,rfl,rfl,rfl,rfl,rfl,rfl,rfl,trivial⟩ ?_
  have hkl:=knownV_le (rowC C i)
  have hr3:(rowC C i).length = 3:=rfl
  have sH:SlL encF 1 g3 w Hs:=(O2.hx X3).sl eF
  refine k10i sH lv (by omega) sb (fun h => vote_few h) (fun a h => vote_equal hm h) ?_
  refine kto (k10j sH lv (by omega) (knownV_lim (row_lim lim i)) sb sm ?_) ⟨rfl,rfl,rfl,rfl,rfl,rfl,rfl,rfl,rfl,rfl,trivial⟩
  cases hk:(voteA m C i).2 with
  | false =>
   refine WL.sr ?_
   repeat' (first
  | refine WOL.now (b:=true) rfl rfl ?_ | refine WOL.now (b:=false) rfl rfl ?_
  | refine WOL.skp (b:=true) rfl rfl ?_ | refine WOL.skp (b:=false) rfl rfl ?_ | refine WOL.gu rfl rfl ?_
  | refine WOL.mv rfl ?_ | refine WOL.as rfl ?_
  | refine WOL.bi rfl rfl rfl ?_ | refine WOL.nt rfl ?_
  | refine WOL.pkt rfl rfl ?_ | refine WOL.pkf rfl rfl ?_)
   refine WOL.nil <| WL.no rfl <| WL.skip ?_
   refine WL.reg ?_
   refine WOL.bi (v:=zi ((i + 1:Nat):Int)) rfl rfl (by show some (Value.int .i64 (fwrap .i64 ((i:Int) + 1))) = _; rw [fwrap_i64 (by omega) (by omega)]; rfl) ?_
   refine WOL.mv rfl <| WOL.nil ?_
   exact fun a q => ⟨N - (i + 1),by omega,i + 1,by omega,rfl,Y3,q.sub ⟨rfl,rfl,rfl,rfl,rfl,rfl,trivial⟩⟩
  | true =>
   rw [vote_in hm hk]
   refine WL.sr ?_
   repeat' (first
  | refine WOL.now (b:=true) rfl rfl ?_ | refine WOL.now (b:=false) rfl rfl ?_
  | refine WOL.skp (b:=true) rfl rfl ?_ | refine WOL.skp (b:=false) rfl rfl ?_ | refine WOL.gu rfl rfl ?_
  | refine WOL.mv rfl ?_ | refine WOL.as rfl ?_
  | refine WOL.bi rfl rfl rfl ?_ | refine WOL.nt rfl ?_
  | refine WOL.pkt rfl rfl ?_ | refine WOL.pkf rfl rfl ?_)
   refine WOL.nil <| WL.no rfl <| WL.skip ?_
   refine WL.reg ?_
   refine WOL.bi (v:=zi ((i + 1:Nat):Int)) rfl rfl (by show some (Value.int .i64 (fwrap .i64 ((i:Int) + 1))) = _; rw [fwrap_i64 (by omega) (by omega)]; rfl) ?_
   refine WOL.mv rfl <| WOL.nil ?_
   exact fun a q => ⟨N - (i + 1),by omega,i + 1,by omega,rfl,Y3,q.sub ⟨rfl,rfl,rfl,rfl,rfl,rfl,trivial⟩⟩
 ·rw [show decide ((i:Int) < (N:Int)) = false from decide_eq_false (by omega)]
  refine WL.no rfl <| WL.exit ?_
  exact kto (K g1 X1) ⟨rfl,rfl,trivial⟩
set_option maxHeartbeats 4000000 in
set_option maxRecDepth 10000 in
theorem k10d (H:Has tp) {rest:TCode} {D:List (Int × Bool)} {c22 c23:Nat} (l:lane s n g v1 v2 C N) (hm:0 ≤ m) (A2:At g c2 (.cells (cells12 s (fun _ => n) v1 v2) true true 82)) (B7:At g c22 (.cells (runV s' n w1 w2).cells.toList true true 52)) (B8:At g c23 (.cells (cel3 (wrN m (three (C 0) D (C 0)) N)) true true 83)) (RV:RunC s' n g w1 w2 (votesC m (three (C 0) D (C 0)) N))
  (K:∀ g',HX g g' → ∀ a,Kn [] a → W Tryz.prog tp false rest a g' Q) :
  ∀ a,Kn [(1,.float .f32 lb),(2,ptr c2),(22,ptr c22),(23,ptr c23),(24,zi 0)] a → W Tryz.prog tp false (.seq (.seq (.reg r10_40) (.cond (.tmp 283) (.seq (.reg r10_41) .ret) .skip)) (.seq (.seq (.reg r10_42) (.block 10 (.loop (.seq (.reg r10_43) (.seq (.cond (.tmp 289) .skip (.exit 10)) (.seq (.block 11 (.seq (.reg r10_44) (.seq (.reg r10_45) (.cond (.tmp 311) (.seq (.reg r10_46) .ret) .skip)))) (.reg r10_47))))))) rest)) a g Q:=by
 have hVl:=votesC_len (m:=m) (C:=three (C 0) D (C 0)) (N:=N)
 obtain ⟨z0,z2⟩:=wr_twice hm (C:=C 0) (D:=D) N
 obtain ⟨b1,n1,q1,b2,n2,q2,rfl,rfl⟩:=RV.forms
 obtain ⟨F,hF,sF,sp⟩:=RV.samp
 obtain ⟨R0,L0⟩:=l 0
 obtain ⟨bo1,ln1,k1,bo2,ln2,k2,e1,e2⟩:=R0.forms
 obtain ⟨G,hG,sG,sp0⟩:=R0.samp
 obtain ⟨hsm,_⟩:=R0.small
 generalize hw:wrN m (three (C 0) D (C 0)) N = wr at *
 refine WL.seq <| WL.sr ?_
 refine WOL.mv rfl <| WOL.bi (v:=.bool false) rfl rfl rfl <| WOL.mv rfl <| WOL.now (b:=false) rfl rfl ?_
 refine WOL.ix rfl rfl (ix83 (k:=0) (by decide)) <| WOL.now (b:=false) rfl rfl ?_
 refine WOL.ld rfl (load_one tp3 B8 rfl) <| WOL.now (b:=false) rfl rfl ?_
 rw [z0]
 refine WOL.bi (v:=.bool false) rfl rfl rfl <| WOL.pkf rfl rfl <| WOL.mv rfl <| WOL.now (b:=false) rfl rfl ?_
 refine WOL.ix rfl rfl (ix83 (k:=2) (by decide)) <| WOL.now (b:=false) rfl rfl ?_
 refine WOL.ld rfl (load_one tp3 B8 rfl) <| WOL.now (b:=false) rfl rfl ?_
 rw [z2]
 refine WOL.bi (v:=.bool false) rfl rfl rfl <| WOL.pkf rfl rfl <| WOL.mv rfl <| WOL.now (b:=false) rfl rfl ?_
 refine WOL.fa rfl (fa_of fo52_2) <| WOL.now (b:=false) rfl rfl ?_
 refine WOL.ld rfl (load_one tp43 B7 rfl) <| WOL.now (b:=false) rfl rfl ?_
 refine WOL.len rfl sF u43 <| WOL.now (b:=false) rfl rfl ?_
 refine WOL.ix rfl rfl (ix82 (k:=0) (by decide)) <| WOL.now (b:=false) rfl rfl <| WOL.fa rfl (fa_of fo46_2) <| WOL.now (b:=false) rfl rfl ?_
 refine WOL.ld rfl (load_one tp43 A2 rfl) <| WOL.now (b:=false) rfl rfl ?_
 refine WOL.len rfl sG u43 <| WOL.now (b:=false) rfl rfl ?_
 rw [show F.length = N by omega,show G.length = N by omega]
 refine WOL.bi rfl rfl (ne_same _) <| WOL.pkf rfl rfl <| WOL.nil <| keep [(2,_),(22,_),(283,_)] ⟨rfl,rfl,rfl,trivial⟩ ?_
 refine WL.no rfl <| WL.skip ?_
 refine WL.seq <| WL.sr ?_
 refine WOL.ix rfl rfl (ix82 (k:=0) (by decide)) <| WOL.fa rfl (fa_of fo46_2) ?_
 refine WOL.ld rfl (load_one tp43 A2 rfl) <| WOL.len rfl sG u43 ?_
 rw [show G.length = N by omega]
 refine WOL.mv rfl <| WOL.nil <| keep [(2,_),(22,_),(286,_),(287,_),(288,_)] ⟨rfl,rfl,rfl,rfl,rfl,trivial⟩ ?_
 refine WL.block ?_
 refine WL.loop (fun q a g' => ∃ i:Nat,i ≤ N ∧ q = N - i ∧ HX g g' ∧ Kn [(2,ptr c2),(22,ptr c22),(286,v1 0),(287,zi (N:Nat)),(288,zi (i:Nat))] a) N (fun a q => ⟨0,by omega,by omega,HX.refl _,q.sub ⟨rfl,rfl,rfl,rfl,rfl,trivial⟩⟩) ?_
 rintro q a g1 ⟨i,hi,rfl,X1,q⟩
 refine q.go ?_
 refine WL.sr <| WOL.bi (v:=.bool (decide ((i:Int) < (N:Int)))) rfl rfl rfl <| WOL.nil <| keep [(2,_),(22,_),(286,_),(287,_),(288,_),(289,_)] ⟨rfl,rfl,rfl,rfl,rfl,rfl,trivial⟩ ?_
 refine WL.seq ?_
 by_cases hlt:i < N
 ·rw [show decide ((i:Int) < (N:Int)) = true from decide_eq_true (by omega)]
  have hV:(votesC m (three (C 0) D (C 0)) N)[i]? = some (voteA m (three (C 0) D (C 0)) i):=votesC_get hlt
  have hc:(C 0)[i]? = some (cellD C 0 i):=cellD_get (by omega)
  have hfb:F[i]? = some F[i]:=List.getElem?_eq_getElem (by omega)
  have hgb:G[i]? = some G[i]:=List.getElem?_eq_getElem (by omega)
  have sb:=sp i _ _ hfb hV
  have sc:=sp0 i _ _ hgb hc
  obtain ⟨p,ip,lp⟩:=elemF (SlL.hx sG X1) hgb
  generalize F[i] = fx at *
  generalize G[i] = gx at *
  have nx:∀ {Q':Exit → Regs → TH → Prop} g',HX g g' → ∀ a,Kn [(2,ptr c2),(22,ptr c22),(286,v1 0),(287,zi (N:Nat)),(288,zi (i:Nat))] a → W Tryz.prog tp false (.reg r10_47) a g' (andThen (fun a g' => ∃ q',q' < N - i ∧ ∃ i:Nat,i ≤ N ∧ q' = N - i ∧ HX g g' ∧ Kn [(2,ptr c2),(22,ptr c22),(286,v1 0),(287,zi (N:Nat)),(288,zi (i:Nat))] a) Q'):=by
   intro Q' g' Y'
   refine WL.reg ?_
   refine WOL.bi (v:=zi ((i + 1:Nat):Int)) rfl rfl (by show some (Value.int .i64 (fwrap .i64 ((i:Int) + 1))) = _; rw [fwrap_i64 (by omega) (by omega)]; rfl) ?_
   refine WOL.mv rfl <| WOL.nil ?_
   exact fun a q => ⟨N - (i + 1),by omega,i + 1,by omega,rfl,Y',q.sub ⟨rfl,rfl,rfl,rfl,rfl,trivial⟩⟩
  refine WL.yes rfl <| WL.skip ?_
  refine WL.seq <| WL.block ?_
  refine WL.sr <| WOL.mv rfl <| WOL.ix rfl rfl ip <| WOL.ld rfl lp <| WOL.as rfl <| WOL.as rfl <| WOL.nil <| keep [(2,_),(22,_),(25,_),(26,_),(286,_),(287,_),(288,_)] ⟨rfl,rfl,rfl,rfl,rfl,rfl,rfl,trivial⟩ ?_
  refine WL.sr <| WOL.ix rfl rfl (ix82 (k:=0) (by decide)) ?_
  refine WOL.ld rfl (load_row tp46 (A2.hx X1) rfl (Nat.le_of_ble_eq_true rfl)) <| WOL.mv rfl ?_
  refine WOL.cl2 rfl rfl rfl ((c39 H (i:Int) (R0.hx X1)).mono ?_)
  rintro v g3 ⟨rfl,X3⟩
  have Y3:=X1.trans X3
  rw [knownC_get hc]
  cases hk:(cellD C 0 i).2 with
  | false =>
   repeat' (first
  | refine WOL.now (b:=true) rfl rfl ?_ | refine WOL.now (b:=false) rfl rfl ?_
  | refine WOL.skp (b:=true) rfl rfl ?_ | refine WOL.skp (b:=false) rfl rfl ?_ | refine WOL.gu rfl rfl ?_
  | refine WOL.mv rfl ?_ | refine WOL.as rfl ?_
  | refine WOL.bi rfl rfl rfl ?_ | refine WOL.nt rfl ?_
  | refine WOL.pkt rfl rfl ?_ | refine WOL.pkf rfl rfl ?_)
   refine WOL.nil <| WL.no rfl <| WL.skip ?_
   exact kto (nx g3 Y3) ⟨rfl,rfl,rfl,rfl,rfl,trivial⟩
  | true =>
   have ht:voteA m (three (C 0) D (C 0)) i = ((cellD C 0 i).1,true):=voteC_twice hm (cellD C 0 i) _ hk
   rw [ht] at hV sb
   refine WOL.mv rfl <| WOL.now (b:=true) rfl rfl ?_
   refine WOL.ld rfl (load_row tp52 (B7.hx Y3) rfl (Nat.le_of_ble_eq_true rfl)) <| WOL.now (b:=true) rfl rfl <| WOL.mv rfl <| WOL.now (b:=true) rfl rfl ?_
   refine WOL.cl2 rfl rfl rfl ((c39 H (i:Int) (RV.hx Y3)).mono ?_)
   rintro v g4 ⟨rfl,X4⟩
   have Y4:=Y3.trans X4
   rw [knownC_get hV]
   obtain ⟨p',ip',lp'⟩:=elemF (SlL.hx sF Y4) hfb
   refine WOL.now (b:=true) rfl rfl <| WOL.nt rfl ?_
   refine WOL.now (b:=true) rfl rfl <| WOL.mv rfl <| WOL.now (b:=false) rfl rfl <| WOL.fa rfl (fa_of fo52_2) <| WOL.now (b:=false) rfl rfl ?_
   refine WOL.ld rfl (load_one tp43 (B7.hx Y4) rfl) <| WOL.now (b:=false) rfl rfl <| WOL.mv rfl <| WOL.now (b:=false) rfl rfl ?_
   refine WOL.ix rfl rfl ip' <| WOL.now (b:=false) rfl rfl <| WOL.ld rfl lp' <| WOL.now (b:=false) rfl rfl <| WOL.mv rfl <| WOL.now (b:=false) rfl rfl ?_
   refine WOL.fne sb sc rfl rfl ?_
   rw [decide_eq_true (rfl:((cellD C 0 i).1,true).1 = (cellD C 0 i).1)]
   repeat' (first
  | refine WOL.now (b:=true) rfl rfl ?_ | refine WOL.now (b:=false) rfl rfl ?_
  | refine WOL.skp (b:=true) rfl rfl ?_ | refine WOL.skp (b:=false) rfl rfl ?_ | refine WOL.gu rfl rfl ?_
  | refine WOL.mv rfl ?_ | refine WOL.as rfl ?_
  | refine WOL.bi rfl rfl rfl ?_ | refine WOL.nt rfl ?_
  | refine WOL.pkt rfl rfl ?_ | refine WOL.pkf rfl rfl ?_)
   refine WOL.nil <| WL.no rfl <| WL.skip ?_
   exact kto (nx g4 Y4) ⟨rfl,rfl,rfl,rfl,rfl,trivial⟩
 ·rw [show decide ((i:Int) < (N:Int)) = false from decide_eq_false (by omega)]
  refine WL.no rfl <| WL.exit ?_
  exact kto (K g1 X1) trivial
end
end Go.Tidy
namespace Go.Tidy
open Go Go.Proofs Tab
variable {tp:TProg}
def r10m:TCode:=(.seq (.seq (.reg r10_7) (.cond (.tmp 43) (.seq (.reg r10_8) .ret) .skip)) (.seq (.reg r10_9) (.seq (.reg r10_10) (.seq (.seq (.reg r10_11) (.cond (.tmp 124) (.seq (.reg r10_12) .ret) .skip)) (.seq (.seq (.reg r10_13) (.block 2 (.loop (.seq (.reg r10_14) (.seq (.cond (.tmp 129) .skip (.exit 2)) (.seq (.block 3 (.seq (.reg r10_15) (.seq (.reg r10_16) (.seq (.seq (.reg r10_17) (.block 4 (.loop (.seq (.reg r10_18) (.seq (.cond (.tmp 135) .skip (.exit 4)) (.seq (.block 5 (.seq (.reg r10_19) (.seq (.reg r10_20) (.cond (.tmp 139) (.reg r10_21) .skip)))) (.reg r10_22))))))) (.seq (.reg r10_23) (.seq (.seq (.reg r10_24) (.cond (.tmp 191) (.seq (.reg r10_25) .ret) .skip)) (.seq (.reg r10_26) (.seq (.seq (.reg r10_27) (.block 6 (.loop (.seq (.reg r10_28) (.seq (.cond (.tmp 195) .skip (.exit 6)) (.seq (.block 7 (.seq (.reg r10_29) (.seq (.reg r10_30) (.block 8 (.loop (.seq (.reg r10_31) (.seq (.cond (.tmp 200) .skip (.exit 8)) (.seq (.block 9 (.seq (.reg r10_32) (.reg r10_33))) (.reg r10_34))))))))) (.reg r10_35))))))) (.seq (.reg r10_36) (.cond (.tmp 244) (.seq (.reg r10_37) .ret) .skip)))))))))) (.reg r10_38))))))) (.seq (.reg r10_39) (.seq (.seq (.reg r10_40) (.cond (.tmp 283) (.seq (.reg r10_41) .ret) .skip)) (.seq (.seq (.reg r10_42) (.block 10 (.loop (.seq (.reg r10_43) (.seq (.cond (.tmp 289) .skip (.exit 10)) (.seq (.block 11 (.seq (.reg r10_44) (.seq (.reg r10_45) (.cond (.tmp 311) (.seq (.reg r10_46) .ret) .skip)))) (.reg r10_47))))))) (.seq (.reg r10_48) .ret)))))))))
theorem c10_eq:c10 = .seq (.reg r10_0) (.seq (.seq (.reg r10_1) (.block 0 (.loop (.seq (.reg r10_2) (.seq (.cond (.tmp 29) .skip (.exit 0)) (.seq (.block 1 (.seq (.reg r10_3) (.seq (.reg r10_4) (.cond (.tmp 33) (.seq (.reg r10_5) .ret) .skip)))) (.reg r10_6))))))) r10m):=rfl
theorem shapeB_n {n n':Int} {m m':Nat} (h:shapeB n m n' m' = true):n = n' ∧ m = m':=by
 unfold shapeB at h
 simp at h
 omega
section
variable {s:Nat → ByteArray} {n:Nat → Int} {v1 v2:Nat → Value} {F:Nat → List Nat} {S:Nat → List (Int × Int)} {es L:Nat → List Int} {h:TH} {lb:Nat} {el:Int}
set_option maxHeartbeats 4000000 in
set_option maxRecDepth 100000 in
theorem k10m (H:Has tp) (X:HasX tp) (A:Awk tp) (t:Tail3 s n F S es L) (r:∀ k,RunH h (v1 k) (v2 k) (F k) (S k)) (hE:∀ k,SErr (F k) (es k)) (hL:∀ k,firstNZ (es k) = 0 → Lev (F k) (L k)) (hF:∀ k,(F k).length ≤ 900000) (hS:∀ k,(S k).length ≤ 900000) (eL:SampleE lb el) {g:TH} {c2:Nat} (f:Free0 h.next h) (Y:HX h g) (A2:At g c2 (.cells (cells12 s n v1 v2) true true 82)) (hc2:h.next ≤ c2) :
    ∀ a,Kn [(1,.float .f32 lb),(2,ptr c2)] a → W Tryz.prog tp false r10m a g (Fin Tryz.prog [.tmp 4] fun v _ => v = .bool true):=by
  have exit:∀ g,∀ a,Kn [] a → W Tryz.prog tp false (.seq (.reg r10_8) .ret) a g (andThen (fun a h => W Tryz.prog tp false (.seq (.reg r10_9) (.seq (.reg r10_10) (.seq (.seq (.reg r10_11) (.cond (.tmp 124) (.seq (.reg r10_12) .ret) .skip)) (.seq (.seq (.reg r10_13) (.block 2 (.loop (.seq (.reg r10_14) (.seq (.cond (.tmp 129) .skip (.exit 2)) (.seq (.block 3 (.seq (.reg r10_15) (.seq (.reg r10_16) (.seq (.seq (.reg r10_17) (.block 4 (.loop (.seq (.reg r10_18) (.seq (.cond (.tmp 135) .skip (.exit 4)) (.seq (.block 5 (.seq (.reg r10_19) (.seq (.reg r10_20) (.cond (.tmp 139) (.reg r10_21) .skip)))) (.reg r10_22))))))) (.seq (.reg r10_23) (.seq (.seq (.reg r10_24) (.cond (.tmp 191) (.seq (.reg r10_25) .ret) .skip)) (.seq (.reg r10_26) (.seq (.seq (.reg r10_27) (.block 6 (.loop (.seq (.reg r10_28) (.seq (.cond (.tmp 195) .skip (.exit 6)) (.seq (.block 7 (.seq (.reg r10_29) (.seq (.reg r10_30) (.block 8 (.loop (.seq (.reg r10_31) (.seq (.cond (.tmp 200) .skip (.exit 8)) (.seq (.block 9 (.seq (.reg r10_32) (.reg r10_33))) (.reg r10_34))))))))) (.reg r10_35))))))) (.seq (.reg r10_36) (.cond (.tmp 244) (.seq (.reg r10_37) .ret) .skip)))))))))) (.reg r10_38))))))) (.seq (.reg r10_39) (.seq (.seq (.reg r10_40) (.cond (.tmp 283) (.seq (.reg r10_41) .ret) .skip)) (.seq (.seq (.reg r10_42) (.block 10 (.loop (.seq (.reg r10_43) (.seq (.cond (.tmp 289) .skip (.exit 10)) (.seq (.block 11 (.seq (.reg r10_44) (.seq (.reg r10_45) (.cond (.tmp 311) (.seq (.reg r10_46) .ret) .skip)))) (.reg r10_47))))))) (.seq (.reg r10_48) .ret)))))))) a h (Fin Tryz.prog [.tmp 4] fun v _ => v = .bool true)) (Fin Tryz.prog [.tmp 4] fun v _ => v = .bool true)):=by
    intro g
    refine WL.sr <| WOL.cl0 rfl ((k11 A g).mono ?_)
    rintro v h4 ⟨rfl,rfl⟩
    refine WOL.as rfl <| WOL.nil ?_
    exact WL.ret (WL.end_ rfl rfl)
  unfold r10m
  refine WL.seq <| WL.sr ?_
  refine WOL.ld rfl (load_wide w82 d82 A2 rfl (Nat.le_of_ble_eq_true rfl)) ?_
  refine WOL.cl1 rfl rfl ((k54 H (s:=s) (n:=n) (v1:=v1) (v2:=v2) (fun k => (r k).hx Y) hE hL hF hS).mono ?_)
  rintro v h1 ⟨rfl,X1⟩
  refine WOL.bi rfl rfl nzero <| WOL.mv rfl ?_
  have Y1:=Y.trans X1
  rcases nz_cases (firstNZ [runE (s 0) (n 0) (F 0).length (S 0) (es 0) (L 0),runE (s 1) (n 1) (F 1).length (S 1) (es 1) (L 1),runE (s 2) (n 2) (F 2).length (S 2) (es 2) (L 2),cond (!shapeB (n 0) (F 0).length (n 1) (F 1).length || !shapeB (n 0) (F 0).length (n 2) (F 2).length) 2 0]) with h0 | h0
  · rw [h0]
    refine WOL.now (b:=false) rfl rfl <| WOL.mv rfl <| WOL.now (b:=false) rfl rfl ?_
    refine WOL.cl1 rfl rfl ((k55 H eL).mono ?_)
    rintro v h2 ⟨rfl,X2⟩
    have Y2:=Y1.trans X2
    refine WOL.now (b:=false) rfl rfl <| WOL.bi rfl rfl nzero ?_
    rcases nz_cases (firstNZ [el,cond (lt0 lb) 3 0]) with h3 | h3
    · rw [h3]
      refine WOL.pkf rfl rfl <| WOL.nil <| keep [(1,_),(2,_),(43,_)] ⟨rfl,rfl,rfl,trivial⟩ ?_
      refine WL.no rfl <| WL.skip ?_
      have hEE:voteE (fun k => runE (s k) (n k) (F k).length (S k) (es k) (L k)) n (fun k => (F k).length) el lb = 0:=by
        have:=firstNZ_join [runE (s 0) (n 0) (F 0).length (S 0) (es 0) (L 0),runE (s 1) (n 1) (F 1).length (S 1) (es 1) (L 1),runE (s 2) (n 2) (F 2).length (S 2) (es 2) (L 2),cond (!shapeB (n 0) (F 0).length (n 1) (F 1).length || !shapeB (n 0) (F 0).length (n 2) (F 2).length) 2 0] [el,cond (lt0 lb) 3 0]
        rw [h0,h3] at this
        exact this.symm
      have z:=firstNZ_zero hEE
      have e0:=z _ (List.mem_cons_self ..)
      have e1:=z _ (List.mem_cons_of_mem _ (List.mem_cons_self ..))
      have e2:=z _ (List.mem_cons_of_mem _ (List.mem_cons_of_mem _ (List.mem_cons_self ..)))
      have e3:=z _ (List.mem_cons_of_mem _ (List.mem_cons_of_mem _ (List.mem_cons_of_mem _ (List.mem_cons_self ..))))
      have e4:el = 0:=z _ (List.mem_cons_of_mem _ (List.mem_cons_of_mem _ (List.mem_cons_of_mem _ (List.mem_cons_of_mem _ (List.mem_cons_self ..)))))
      have e5:=z _ (List.mem_cons_of_mem _ (List.mem_cons_of_mem _ (List.mem_cons_of_mem _ (List.mem_cons_of_mem _ (List.mem_cons_of_mem _ (List.mem_cons_self ..))))))
      obtain ⟨V,sh⟩:=three_valid t hL hEE
      have h00:lt0 lb = false:=by
        cases hb:lt0 lb with
        | false => rfl
        | true => rw [hb] at e5; cases e5
      subst e4
      obtain ⟨m,sm⟩:=samp_of eL
      have hm:=lt0_pos sm h00
      have e3:cond (!shapeB (n 0) (F 0).length (n 1) (F 1).length || !shapeB (n 0) (F 0).length (n 2) (F 2).length) (2:Int) 0 = 0:=e3
      have hn:n 1 = n 0 ∧ n 2 = n 0:=by
        cases g1:shapeB (n 0) (F 0).length (n 1) (F 1).length with
        | false => rw [g1] at e3; cases e3
        | true =>
          cases g2:shapeB (n 0) (F 0).length (n 2) (F 2).length with
          | false => rw [g1,g2] at e3; cases e3
          | true => exact ⟨(shapeB_n g1).1.symm,(shapeB_n g2).1.symm⟩
      have ek:∀ k,runE (s k) (n k) (F k).length (S k) (es k) (L k) = 0 ∧ n k = n 0:=by
        intro k
        obtain ⟨j,hj,q1,q2,q3,q4,q5,q6⟩:=t.some k
        rw [q1,q2,q3,q4,q5,q6]
        obtain rfl | rfl | rfl:j = 0 ∨ j = 1 ∨ j = 2:=by omega
        · exact ⟨e0,rfl⟩
        · exact ⟨e1,hn.1⟩
        · exact ⟨e2,hn.2⟩
      have hC:∀ k,RunC (s k) (n 0) h (v1 k) (v2 k) (cellsL (L k) (S k)) ∧ (cellsL (L k) (S k)).length = (F 0).length:=by
        intro k
        have V':=V k
        have q:=(ek k).1
        rw [(ek k).2] at V' q
        obtain ⟨_,b2⟩:=V'.back
        have c:=Cel.of V' (hE k) q
        exact ⟨⟨F k,es k,by rw [b2]; exact r k,c⟩,by rw [← c.len]; exact sh k⟩
      have h3':(fun k => cellsL (L k) (S k)) = three (cellsL (L 0) (S 0)) (cellsL (L 1) (S 1)) (cellsL (L 2) (S 2)):=by
        funext k
        refine three_all (p:=fun k => cellsL (L k) (S k) = three (cellsL (L 0) (S 0)) (cellsL (L 1) (S 1)) (cellsL (L 2) (S 2)) k) rfl rfl (fun k => ?_) k
        obtain ⟨_,_,_,q4,_,q6⟩:=t (k + 2) (by omega)
        show cellsL (L (k + 2)) (S (k + 2)) = cellsL (L 2) (S 2)
        rw [q4,q6]
      have lane0:∀ {g':TH},HX h g' → lane s (n 0) g' v1 v2 (three (cellsL (L 0) (S 0)) (cellsL (L 1) (S 1)) (cellsL (L 2) (S 2))) (F 0).length:=by
        intro g' Z
        rw [← h3']
        exact fun k => ⟨(hC k).1.hx Z,(hC k).2⟩
      have A2':At h2 c2 (.cells (cells12 s (fun _ => n 0) v1 v2) true true 82):=by
        have:cells12 s n v1 v2 = cells12 s (fun _ => n 0) v1 v2:=by unfold cells12; rw [hn.1,hn.2]
        rw [← this]
        exact (A2.hx X1).hx X2
      have rr:∀ {g':TH} (k:Nat),HX h g' → RunC (s k) (n 0) g' (v1 k) (v2 k) (cellsL (L k) (S k)):=fun k Z => (hC k).1.hx Z
      have ll:∀ k,(cellsL (L k) (S k)).length = (F 0).length:=fun k => (hC k).2
      refine kto (k10a H X (rr 0 Y2) (rr 1 Y2) (rr 2 Y2) (ll 0) (ll 1) (ll 2) sm h00 f Y2 hc2 A2' fun h4 X4 c7 c8 w1 w2 B7 B8 RV => ?_) ⟨rfl,rfl,trivial⟩
      have Y4:=Y2.trans X4
      refine k10b H X (rr 0 Y4) (rr 1 Y4) (rr 2 Y4) (ll 0) (ll 1) (ll 2) sm h00 f Y4 hc2 (A2'.hx X4) fun h5 X5 c10 c11 u1 u2 B10 B11 RO => ?_
      have Y5:=Y4.trans X5
      refine k10e H (rr 0 Y5) (ll 0) ((A2'.hx X4).hx X5) (B7.hx X5) (B8.hx X5) (RV.hx X5) B10 B11 RO fun h6 X6 => ?_
      have Y6:=Y5.trans X6
      have Z6:=(X4.trans X5).trans X6
      refine k10c H (lane0 Y6) sm hm (f.on Y6) (A2'.hx Z6) (B7.hx (X5.trans X6)) (RV.hx (X5.trans X6)) fun h7 X7 => ?_
      have Y7:=Y6.trans X7
      have Z7:=Z6.trans X7
      refine k10g H X (rr 0 Y7) (rr 1 Y7) (rr 2 Y7) (ll 0) (ll 1) (ll 2) sm h00 f Y7 hc2 (A2'.hx Z7) fun h8 X8 c22 c23 y1 y2 B22 B23 RT => ?_
      have Y8:=Y7.trans X8
      have Z8:=Z7.trans X8
      refine k10d H (lane0 Y8) hm (A2'.hx Z8) B22 B23 RT fun h9 X9 => ?_
      refine WL.sr <| WOL.cl0 rfl ((k11 A h9).mono ?_)
      rintro v h10 ⟨rfl,rfl⟩
      refine WOL.as rfl <| WOL.nil ?_
      exact WL.done rfl rfl
    · rw [h3]
      refine WOL.pkf rfl rfl <| WOL.nil ?_
      exact WL.yes rfl <| kto (exit h2) trivial
  · rw [h0]
    repeat' (first
    | refine WOL.now (b:=true) rfl rfl ?_ | refine WOL.now (b:=false) rfl rfl ?_
    | refine WOL.skp (b:=true) rfl rfl ?_ | refine WOL.skp (b:=false) rfl rfl ?_ | refine WOL.gu rfl rfl ?_
    | refine WOL.mv rfl ?_ | refine WOL.as rfl ?_
    | refine WOL.bi rfl rfl rfl ?_ | refine WOL.nt rfl ?_
    | refine WOL.pkt rfl rfl ?_ | refine WOL.pkf rfl rfl ?_)
    refine WOL.nil ?_
    exact WL.yes rfl <| kto (exit h1) trivial
set_option maxHeartbeats 4000000 in
set_option maxRecDepth 100000 in
theorem k10all (H:Has tp) (X:HasX tp) (A:Awk tp) (t:Tail3 s n F S es L) (r:∀ k,RunH h (v1 k) (v2 k) (F k) (S k)) (hE:∀ k,SErr (F k) (es k)) (hL:∀ k,firstNZ (es k) = 0 → Lev (F k) (L k)) (eL:SampleE lb el) (f:Free0 h.next h) :
    CallW Tryz.prog tp (.func (.func 10) #[] #[]) #[.agg (cells12 s n v1 v2).toArray,.float .f32 lb] h fun v _ => v = .bool true:=by
  refine CallW.fnL (H.fn 10 f10 rfl rfl) ?_
  show ∀ a,Kn _ a → W Tryz.prog tp false c10 a h _
  rw [c10_eq]
  refine WL.sr <| WOL.box rfl fun h1 N1 => WOL.as rfl <| WOL.nil <| keep [(1,_),(2,_)] ⟨rfl,rfl,trivial⟩ ?_
  have A2:At h1 h.next (.cells (cells12 s n v1 v2) true true 82):=N1.at_
  refine WL.seq <| WL.sr ?_
  refine WOL.ld rfl (load_wide w82 d82 A2 rfl (Nat.le_of_ble_eq_true rfl)) <| WOL.mv rfl <| WOL.nil ?_
  refine WL.block ?_
  refine WL.loop (fun q a g => ∃ k:Nat,k ≤ 3 ∧ q = 3 - k ∧ HX h1 g ∧ (∀ j,j < k → shortB (s j) (F j).length (S j).length = true) ∧ Kn [(1,.float .f32 lb),(2,ptr h.next),(27,.agg (cells12 s n v1 v2).toArray),(28,zi (k:Nat))] a) 3 (fun a q => ⟨0,by omega,by omega,HX.refl _,fun j hj => absurd hj (by omega),q.sub ⟨rfl,rfl,rfl,rfl,trivial⟩⟩) ?_
  rintro q a g ⟨k,hk,rfl,X1,hs,q⟩
  refine q.go ?_
  refine WL.sr <| WOL.bi (v:=.bool (decide ((k:Int) < 3))) rfl rfl rfl <| WOL.nil <| keep [(1,_),(2,_),(27,_),(28,_),(29,_)] ⟨rfl,rfl,rfl,rfl,rfl,trivial⟩ ?_
  refine WL.seq ?_
  by_cases hk3:k < 3
  · rw [show decide ((k:Int) < 3) = true from decide_eq_true (by omega)]
    have Y1:=N1.hx.trans X1
    refine WL.yes rfl <| WL.skip ?_
    refine WL.seq <| WL.block ?_
    obtain ⟨bv1,kv1,ev1⟩:=(r k).f.form
    obtain ⟨bv2,kv2,ev2⟩:=(r k).s.form
    refine WL.sr <| WOL.idx rfl rfl (idx82 hk3) ?_
    refine WOL.al tp46 fun h3 N3 => ?_
    have Y3:=Y1.trans N3.hx
    rw [ev1,ev2]
    refine WOL.sto rfl rfl tp46 N3.at_ rfl rfl (Nat.le_of_ble_eq_true rfl) rfl (f.hx Y3) (by have:=Y1.next; omega) fun h4 P4 => ?_
    have Y4:=P4.hx _ Y3 (by have:=Y1.next; omega)
    have Z4:=P4.hx _ (X1.trans N3.hx) (by have:=X1.next; omega)
    refine WOL.nil <| keep [(1,_),(2,_),(6,_),(27,_),(28,_)] ⟨rfl,rfl,rfl,rfl,rfl,trivial⟩ ?_
    refine WL.sr ?_
    refine WOL.ld rfl (load_row tp46 P4.at_ rfl (Nat.le_of_ble_eq_true rfl)) ?_
    refine WOL.cl1 rfl rfl ((k23 H (s:=s k) (n:=n k) (by rw [← ev1]; exact (r k).f.hx Y4) (by rw [← ev2]; exact (r k).s.hx Y4)).mono ?_)
    rintro v h5 ⟨rfl,X5⟩
    refine WOL.nt rfl <| WOL.nil <| keep [(1,_),(2,_),(27,_),(28,_),(33,_)] ⟨rfl,rfl,rfl,rfl,rfl,trivial⟩ ?_
    cases hb:shortB (s k) (F k).length (S k).length with
    | false =>
      refine WL.yes rfl <| WL.sr <| WOL.cl0 rfl ((k11 A h5).mono ?_)
      rintro v h6 ⟨rfl,rfl⟩
      refine WOL.as rfl <| WOL.nil ?_
      exact WL.ret (WL.end_ rfl rfl)
    | true =>
      refine WL.no rfl <| WL.skip ?_
      refine WL.reg ?_
      refine WOL.bi (v:=zi ((k + 1:Nat):Int)) rfl rfl (by show some (Value.int .i64 (fwrap .i64 ((k:Int) + 1))) = _; rw [fwrap_i64 (by omega) (by omega)]; rfl) ?_
      refine WOL.mv rfl <| WOL.nil ?_
      exact fun a q => ⟨3 - (k + 1),by omega,k + 1,by omega,rfl,Z4.trans X5,fun j hj => by
        by_cases hjk:j = k
        · subst hjk; exact hb
        · exact hs j (by omega),q.sub ⟨rfl,rfl,rfl,rfl,trivial⟩⟩
  · rw [show decide ((k:Int) < 3) = false from decide_eq_false (by omega)]
    obtain rfl:k = 3:=by omega
    have small:∀ k,(F k).length ≤ 900000 ∧ (S k).length ≤ 900000:=by
      intro k
      obtain ⟨j,hj,q1,q2,q3,q4,_⟩:=t.some k
      rw [q3,q4]
      have:=short_small (hs j hj)
      omega
    refine WL.no rfl <| WL.exit ?_
    exact kto (k10m H X A t r hE hL (fun k => (small k).1) (fun k => (small k).2) eL f (N1.hx.trans X1) (A2.hx X1) (Nat.le_refl _)) ⟨rfl,rfl,trivial⟩
end
attribute [local irreducible] Ty valOf
theorem law10:Law tpE 10 5 [82,25]:=by
 intro h us f ha
 match us,ha with
 | [x0,x1],⟨⟨p0,y0,e0⟩,⟨p1,y1,e1⟩,_⟩ =>
  obtain ⟨s,z,v1,v2,F,S,es,L,rfl,t,r,hE,hL⟩:=ty_runs3 y0
  obtain ⟨b,rfl,_⟩:=ty_float y1
  rw [val_agg (.inr ⟨_,_,u82⟩)] at e0
  rw [val_float] at e1
  subst e0 e1
  obtain ⟨e,eL⟩:=sampleE_ex b
  exact k10all hasE hasXE awkE t r hE hL eL f
end Go.Tidy
