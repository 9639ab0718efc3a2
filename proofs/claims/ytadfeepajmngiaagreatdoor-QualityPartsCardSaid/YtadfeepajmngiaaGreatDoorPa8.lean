/- A part of the proof. -/
import Derived.Test.YtadfeepajmngiaaGreatDoorPa7
import Derived.Test.YtadfeepajmngiaaGreatDoorPa6
import Derived.Test.YtadfeepajmngiaaGreatDoorPa2
import Derived.Test.YtadfeepajmngiaaGreatDoorPa1
import Derived.Test.YtadfeepajmngiaaGreatDoorProg
set_option linter.all false
namespace Go.Tidy
open Go Go.Proofs Tab
variable {tp:TProg}
theorem RevR.ok {n p e:Int} {L:List Int} {S:List (Int × Int)} {n0:Nat} {g:TH} {v:Value} (r:RevR n p e L S n0 g v) (he:e=0) (h0:0≤2*p+1 - (n+L.length)) (h1:2*p+1 - (n+L.length)+L.length≤100000000):∃ bv b2 m2 k2,v=.tuple #[trcV (2*p+1 - (n+L.length)) (slA bv L.length) (.slice b2 m2 k2),zi 0]∧n0≤bv∧TrcO n0 g bv (.slice b2 m2 k2) L.reverse (holesOf (knownL S L.length).reverse):=by
 rcases r with ⟨q,_⟩ | ⟨_,q,_⟩ | ⟨_,_,_,bv,w,q2,q3,q4⟩
 ·exact absurd he q
 ·omega
 ·obtain ⟨b2,m2,k2,rfl⟩:=q4.form
  exact ⟨bv,b2,m2,k2,q2,q3,q4⟩
section
variable {h h0:TH} {x y n:Int} {p q c3 c4 c5:Nat} {v1 v2 w1 w2:Value} {L1 L2:List Int} {S1 S2:List (Int × Int)}
end
end Go.Tidy
namespace Go.Tidy
open Go Go.Proofs Tab
variable {tp:TProg}
theorem lev_limI {F:List Nat} {L:List Int} (h:Lev F L):∀ x,x ∈ L→x.natAbs≤16384:=fun x hx=>by
 obtain ⟨i,hi⟩:=List.mem_iff_getElem?.1 hx
 have hlt:=(List.getElem?_eq_some_iff.1 hi).1
 have hF:i < F.length:=by rw [h.1];exact hlt
 exact (h.2 i _ _ (List.getElem?_eq_getElem hF) hi).lim
section
variable {h:TH} {v w fv:Value} {F G:List Nat} {es es' L M A B D:List Int} {n z:Int}
end
end Go.Tidy
namespace Go.Tidy
open Go Go.Proofs Tab
variable {tp:TProg}
section
variable {L D Z:List Int} {i k:Nat}
theorem lev_getD {F:List Nat} (h:Lev F L) (j:Nat):(L.getD j 0).natAbs≤16384:=by
 by_cases hj:j < L.length
 ·exact lev_limI h _ (List.mem_of_getElem? (at_getD hj))
 ·rw [List.getD_eq_getElem?_getD,List.getElem?_eq_none (by omega)];decide
end
section
variable {h:TH} {v w fv:Value} {F G:List Nat} {es es' L M A B D:List Int} {n z:Int}
end
end Go.Tidy
namespace Go.Tidy
open Go Go.Proofs Tab
variable {tp:TProg}
structure Sx (b:Nat) (n:Int):Prop where
 ok:∃ neg q,V32 b neg q∧(∀ D,2 ^ 149=D→q*16=n.natAbs*D)∧sg neg n.natAbs=n
theorem Samp.x {b:Nat} {n:Int} (s:Samp b n):Sx b n:=⟨s.ok⟩
theorem Sx.nan {b:Nat} {n:Int} (s:Sx b n):nanB .f32 b=false:=by
 obtain ⟨neg,q,h,_⟩:=s.ok
 exact h.nan
theorem Sx.order {b c:Nat} {n m:Int} (s:Sx b n) (t:Sx c m):Ieee.single.order b c=some (compare n m):=by
 obtain ⟨neg,q,h1,h2,h3⟩:=s.ok
 obtain ⟨neg',q',g1,g2,g3⟩:=t.ok
 obtain ⟨D,hD⟩:∃ D:Nat,2 ^ 149=D:=⟨_,rfl⟩
 have hDp:0 < D:=by rw [← hD];exact two_pow_pos 149
 have e1:=h2 D hD
 have e2:=g2 D hD
 have a1:sg neg q*(16:Nat)=n*(D:Nat):=by rw [← sg_mul,e1,sg_mul,h3]
 have a2:sg neg' q'*(16:Nat)=m*(D:Nat):=by rw [← sg_mul,e2,sg_mul,g3]
 rw [h1.order g1]
 generalize sg neg q=x at *
 generalize sg neg' q'=y at *
 have hDi:(0:Int) < (D:Int):=by omega
 have hlt:x < y ↔ n < m:=by
  constructor
  ·intro hq
   have:n*(D:Int) < m*(D:Int):=by rw [← a1,← a2];omega
   exact Int.lt_of_mul_lt_mul_right this (by omega)
  ·intro hq
   have:n*(D:Int) < m*(D:Int):=Int.mul_lt_mul_of_pos_right hq hDi
   rw [← a1,← a2] at this
   omega
 have heq:x=y ↔ n=m:=by
  constructor
  ·intro hq
   rw [hq,a2] at a1
   exact (Int.eq_of_mul_eq_mul_right (by omega) a1).symm
  ·intro hq
   rw [hq,← a2] at a1
   omega
 congr 1
 show compareOfLessAndEq _ _=compareOfLessAndEq _ _
 unfold compareOfLessAndEq
 simp only [hlt,heq]
theorem sg_not (s:Bool) (q:Nat):sg (!s) q=-sg s q:=by
 unfold sg
 cases s <;> simp
theorem sg_sign {z:Int} {P:Nat} {w:Int} {s t:Bool} (hP:0 < P) (h:w=z*(P:Int)∨z=w*(P:Int)):sg (if z=0 then s && t else decide (z < 0)) w.natAbs=w:=by
  by_cases hz:z=0
  · have hw:w=0:=by
      rcases h with h | h
      · rw [h,hz,Int.zero_mul]
      · rw [hz] at h
        rcases Int.mul_eq_zero.1 h.symm with h | h
        · exact h
        · omega
    rw [if_pos hz,hw]
    cases s && t <;> rfl
  · rw [if_neg hz]
    have hPi:(0:Int) < (P:Int):=by omega
    have key:z < 0 ↔ w < 0:=by
      rcases h with h | h
      · rw [h]
        constructor
        · intro hl
          have:=Int.mul_lt_mul_of_pos_right hl hPi
          omega
        · intro hl
          have:z*(P:Int) < 0*(P:Int):=by omega
          exact Int.lt_of_mul_lt_mul_right this (by omega)
      · rw [h]
        constructor
        · intro hl
          have:w*(P:Int) < 0*(P:Int):=by omega
          exact Int.lt_of_mul_lt_mul_right this (by omega)
        · intro hl
          have:=Int.mul_lt_mul_of_pos_right hl hPi
          omega
    unfold sg
    by_cases hl:w < 0
    · rw [decide_eq_true (key.2 hl),if_pos rfl];omega
    · rw [decide_eq_false (fun q=>hl (key.1 q)),if_neg (by decide)];omega
theorem arr1 {z w:Int} {P Q D:Nat} (hP:0 < P) (h:z*(P:Int)*16=w*(D:Int)) (hq:Q*P*16=D):z=w*(Q:Int):=by
 subst hq
 refine Int.eq_of_mul_eq_mul_right (a:=(P:Int)*16) (by omega) ?_
 rw [← Int.mul_assoc,h,Int.natCast_mul,Int.natCast_mul,Int.mul_assoc,Int.mul_assoc]
 rfl
theorem arr2 {z w:Int} {P Q D:Nat} (hD:0 < D) (h:z*(P:Int)*16=w*(D:Int)) (hq:D*Q=P*16):w=z*(Q:Int):=by
 refine Int.eq_of_mul_eq_mul_right (a:=(D:Int)) (by omega) ?_
 rw [← h,Int.mul_assoc,Int.mul_assoc]
 have e:(P:Int)*16=((P*16:Nat):Int):=by rw [Int.natCast_mul];rfl
 rw [e,← hq,Int.natCast_mul,Int.mul_comm (D:Int)]
theorem arr3 {Z P Q D:Nat} (hq:D*Q=P*16):Z*P*16=Z*Q*D:=by
 rw [Nat.mul_assoc,← hq,Nat.mul_assoc,Nat.mul_comm D]
theorem Sx.sub {b c:Nat} {n m:Int} (s:Sx b n) (t:Sx c m) (hn:n.natAbs≤100000) (hm:m.natAbs≤100000):∃ r,Ieee.single.sub b c=some r∧Sx r (n - m):=by
 obtain ⟨s1,q1,⟨m1,k1,r1,p1,l1⟩,h2,h3⟩:=s.ok
 obtain ⟨s2,q2,⟨m2,k2,r2,p2,l2⟩,g2,g3⟩:=t.ok
 obtain ⟨D,hD⟩:∃ D:Nat,2 ^ 149=D:=⟨_,rfl⟩
 have hDp:0 < D:=by rw [← hD];exact two_pow_pos 149
 have e1:=h2 D hD
 have e2:=g2 D hD
 have a1:sg s1 q1*(16:Nat)=n*(D:Nat):=by rw [← sg_mul,e1,sg_mul,h3]
 have a2:sg s2 q2*(16:Nat)=m*(D:Nat):=by rw [← sg_mul,e2,sg_mul,g3]
 obtain ⟨K,hK⟩:∃ K,min k1 k2=K:=⟨_,rfl⟩
 have hmin:min ((-149:Int)+(k1:Int)) (-149+(k2:Int))=-149+(K:Int):=by omega
 obtain ⟨z,hz⟩:∃ z:Int,sg s1 (m1*2 ^ (k1 - K))+sg (!s2) (m2*2 ^ (k2 - K))=z:=⟨_,rfl⟩
 have hsub:Ieee.single.sub b c=some (Ieee.single.nearest (if z=0 then s1 && !s2 else decide (z < 0)) z.natAbs (-149+(K:Int))):=by
  unfold Ieee.Format.sub
  rw [r1,r2]
  show (Ieee.Datum.sum (.number s1 m1 (-149+(k1:Int))) (.number (!s2) m2 (-149+(k2:Int)))).map _=_
  unfold Ieee.Datum.sum
  simp only [hmin,signed_sg]
  rw [show ((-149:Int)+(k1:Int) - (-149+(K:Int))).toNat=k1 - K by omega,show ((-149:Int)+(k2:Int) - (-149+(K:Int))).toNat=k2 - K by omega,hz]
  rfl
 have pk1:m1*2 ^ (k1 - K)*2 ^ K=q1:=by rw [Nat.mul_assoc,← Nat.pow_add,show k1 - K+K=k1 by omega,p1]
 have pk2:m2*2 ^ (k2 - K)*2 ^ K=q2:=by rw [Nat.mul_assoc,← Nat.pow_add,show k2 - K+K=k2 by omega,p2]
 have hzP:z*((2 ^ K:Nat):Int)*16=(n - m)*(D:Int):=by
  rw [← hz,Int.add_mul,← sg_mul,← sg_mul,pk1,pk2,sg_not,Int.sub_mul,← a1,← a2]
  omega
 by_cases hK2:K≤145
 ·have hpw:2 ^ (145 - K)*2 ^ K*16=D:=by
   rw [← Nat.pow_add,show 145 - K+K=145 by omega,← hD]
  have hzz:z=(n - m)*((2 ^ (145 - K):Nat):Int):=arr1 (two_pow_pos K) hzP hpw
  have hab:z.natAbs=(n - m).natAbs*2 ^ (145 - K):=by rw [hzz,Int.natAbs_mul,Int.natAbs_natCast]
  refine ⟨_,hsub,⟨⟨(if z=0 then s1 && !s2 else decide (z < 0)),(n - m).natAbs*2 ^ 145,?_,?_,sg_sign (s:=s1) (t:=!s2) (P:=2 ^ (145 - K)) (two_pow_pos _) (.inr hzz)⟩⟩⟩
  ·rw [hab,nearest_shift Ieee.single _ (n - m).natAbs (145 - K) _ (by show _ < 2 ^ 24;omega) (by rw [lp32];omega)]
   exact near32 (by omega) _ (by omega) (by decide)
  ·intro D' hD'
   rw [Nat.mul_assoc,← hD']
 ·have hpw:D*2 ^ (K - 145)=2 ^ K*16:=by
   rw [← hD]
   exact (Nat.pow_add 2 149 (K - 145)).symm.trans ((congrArg (fun x=>2 ^ x) (show 149+(K - 145)=K+4 by omega)).trans (Nat.pow_add 2 K 4))
  have hzz:n - m=z*((2 ^ (K - 145):Nat):Int):=arr2 hDp hzP hpw
  have hab:(n - m).natAbs=z.natAbs*2 ^ (K - 145):=by rw [hzz,Int.natAbs_mul,Int.natAbs_natCast]
  have hle:z.natAbs≤(n - m).natAbs:=by rw [hab];exact Nat.le_mul_of_pos_right _ (two_pow_pos _)
  refine ⟨_,hsub,⟨⟨(if z=0 then s1 && !s2 else decide (z < 0)),_,near32 (m:=z.natAbs) (k:=K) (by omega) _ rfl (by omega),?_,sg_sign (s:=s1) (t:=!s2) (P:=2 ^ (K - 145)) (two_pow_pos _) (.inl hzz)⟩⟩⟩
  intro D' hD'
  rw [hab,← hD',hD]
  exact arr3 hpw
end Go.Tidy
namespace Go.Tidy
open Go Go.Proofs Tab
variable {tp:TProg}
theorem read2':Ieee.single.read 1073741824=.number false 8388608 (-22):=by decide
theorem mul2' {b:Nat} {neg:Bool} {m k:Nat} (N:N32 b neg m k) (hk:k≤200):∃ c,Ieee.single.mul 1073741824 b=some c∧V32 c neg (m*2 ^ (k+1)):=by
 have e0:(-22:Int)+(-149+(k:Int))+(23:Nat)=-148+k:=by omega
 have hsh:=nearest_shift Ieee.single neg m 23 (-22+(-149+(k:Int))) N.hm (by rw [lp32,e0];omega)
 rw [e0] at hsh
 refine ⟨Ieee.single.nearest neg m (-148+k),?_,near32 N.hm _ (by omega) (by omega)⟩
 unfold Ieee.Format.mul
 rw [read2',N.read]
 show some (Ieee.single.nearest (false ^^ neg) (8388608*m) (-22+(-149+(k:Int))))=_
 rw [← hsh,Nat.mul_comm]
 congr 1
 cases neg <;> rfl
theorem Samp.two {b:Nat} {n:Int} (s:Samp b n):∃ r,Ieee.single.mul 1073741824 b=some r∧Sx r (2*n):=by
  obtain ⟨neg,q,hV,h2,h3⟩:=s.ok
  obtain ⟨D,hD⟩:∃ D:Nat,2 ^ 149=D:=⟨_,rfl⟩
  have hDp:0 < D:=by rw [← hD];exact two_pow_pos 149
  have e1:=h2 D hD
  have hlim:=s.lim
  rcases single_cases b with h | ⟨s',h⟩ | ⟨neg',m,k,N⟩
  · rw [s.nan] at h;cases h
  · obtain ⟨m',k',r,_⟩:=hV.ok
    rw [h] at r;cases r
  · obtain ⟨m',k',r1,r2,r3⟩:=hV.ok
    rw [N.read] at r1
    simp only [Ieee.Datum.number.injEq] at r1
    obtain ⟨e2,e3,r4⟩:=r1
    subst e2 e3
    obtain rfl:k=k':=by omega
    have hk:k≤200:=by
      by_cases hm0:m=0
      · rw [N.hz hm0];omega
      · by_cases hk:k≤200
        · exact hk
        · have h1:2 ^ k≤m*2 ^ k:=Nat.le_mul_of_pos_left _ (by omega)
          have h2:2 ^ 201≤2 ^ k:=Nat.pow_le_pow_right (by decide) (by omega)
          have h3:16384*D < 2 ^ 201:=by rw [← hD];decide
          have h4:n.natAbs*D≤16384*D:=Nat.mul_le_mul_right _ hlim
          omega
    obtain ⟨c,c1,c2⟩:=mul2' N hk
    refine ⟨c,c1,⟨neg',_,c2,?_,?_⟩⟩
    · intro D' hD'
      rw [Int.natAbs_mul,show (2:Int).natAbs=2 from rfl,Nat.mul_assoc 2,← h2 D' hD',← r2,Nat.pow_succ,Nat.mul_comm (2 ^ k) 2,Nat.mul_left_comm m 2,Nat.mul_assoc 2]
    · rw [Int.natAbs_mul,show (2:Int).natAbs=2 from rfl,Nat.mul_comm,sg_mul,h3]
      omega
section
variable {P:Program} {h:TH} {K:Regs→TH→Prop} {rest:List TOper} {d:Option Tmp} {ty:TypeId} {i:Nat} {x y:Operand} {t u:TypeId} {L:Rg}
end
section
variable {m:Int}
end
end Go.Tidy
namespace Go.Tidy
open Go Go.Proofs Tab
variable {tp:TProg}
theorem Sx.add {b c:Nat} {n m:Int} (s:Sx b n) (t:Sx c m) (hn:n.natAbs≤100000) (hm:m.natAbs≤100000):∃ r,Ieee.single.add b c=some r∧Sx r (n+m):=by
 obtain ⟨s1,q1,⟨m1,k1,r1,p1,l1⟩,h2,h3⟩:=s.ok
 obtain ⟨s2,q2,⟨m2,k2,r2,p2,l2⟩,g2,g3⟩:=t.ok
 obtain ⟨D,hD⟩:∃ D:Nat,2 ^ 149=D:=⟨_,rfl⟩
 have hDp:0 < D:=by rw [← hD];exact two_pow_pos 149
 have e1:=h2 D hD
 have e2:=g2 D hD
 have a1:sg s1 q1*(16:Nat)=n*(D:Nat):=by rw [← sg_mul,e1,sg_mul,h3]
 have a2:sg s2 q2*(16:Nat)=m*(D:Nat):=by rw [← sg_mul,e2,sg_mul,g3]
 obtain ⟨K,hK⟩:∃ K,min k1 k2=K:=⟨_,rfl⟩
 have hmin:min ((-149:Int)+(k1:Int)) (-149+(k2:Int))=-149+(K:Int):=by omega
 obtain ⟨z,hz⟩:∃ z:Int,sg s1 (m1*2 ^ (k1 - K))+sg s2 (m2*2 ^ (k2 - K))=z:=⟨_,rfl⟩
 have hadd:Ieee.single.add b c=some (Ieee.single.nearest (if z=0 then s1 && s2 else decide (z < 0)) z.natAbs (-149+(K:Int))):=by
  unfold Ieee.Format.add
  rw [r1,r2]
  show (Ieee.Datum.sum (.number s1 m1 (-149+(k1:Int))) (.number s2 m2 (-149+(k2:Int)))).map _=_
  unfold Ieee.Datum.sum
  simp only [hmin,signed_sg]
  rw [show ((-149:Int)+(k1:Int) - (-149+(K:Int))).toNat=k1 - K by omega,show ((-149:Int)+(k2:Int) - (-149+(K:Int))).toNat=k2 - K by omega,hz]
  rfl
 have pk1:m1*2 ^ (k1 - K)*2 ^ K=q1:=by rw [Nat.mul_assoc,← Nat.pow_add,show k1 - K+K=k1 by omega,p1]
 have pk2:m2*2 ^ (k2 - K)*2 ^ K=q2:=by rw [Nat.mul_assoc,← Nat.pow_add,show k2 - K+K=k2 by omega,p2]
 have hzP:z*((2 ^ K:Nat):Int)*16=(n+m)*(D:Int):=by
  rw [← hz,Int.add_mul,← sg_mul,← sg_mul,pk1,pk2,Int.add_mul,Int.add_mul n m,← a1,← a2] <;> omega
 by_cases hK2:K≤145
 ·have hpw:2 ^ (145 - K)*2 ^ K*16=D:=by
   rw [← Nat.pow_add,show 145 - K+K=145 by omega,← hD]
  have hzz:z=(n+m)*((2 ^ (145 - K):Nat):Int):=arr1 (two_pow_pos K) hzP hpw
  have hab:z.natAbs=(n+m).natAbs*2 ^ (145 - K):=by rw [hzz,Int.natAbs_mul,Int.natAbs_natCast]
  refine ⟨_,hadd,⟨⟨(if z=0 then s1 && s2 else decide (z < 0)),(n+m).natAbs*2 ^ 145,?_,?_,sg_sign (s:=s1) (t:=s2) (P:=2 ^ (145 - K)) (two_pow_pos _) (.inr hzz)⟩⟩⟩
  ·rw [hab,nearest_shift Ieee.single _ (n+m).natAbs (145 - K) _ (by show _ < 2 ^ 24;omega) (by rw [lp32];omega)]
   exact near32 (by omega) _ (by omega) (by decide)
  ·intro D' hD'
   rw [Nat.mul_assoc,← hD']
 ·have hpw:D*2 ^ (K - 145)=2 ^ K*16:=by
   rw [← hD]
   exact (Nat.pow_add 2 149 (K - 145)).symm.trans ((congrArg (fun x=>2 ^ x) (show 149+(K - 145)=K+4 by omega)).trans (Nat.pow_add 2 K 4))
  have hzz:n+m=z*((2 ^ (K - 145):Nat):Int):=arr2 hDp hzP hpw
  have hab:(n+m).natAbs=z.natAbs*2 ^ (K - 145):=by rw [hzz,Int.natAbs_mul,Int.natAbs_natCast]
  have hle:z.natAbs≤(n+m).natAbs:=by rw [hab];exact Nat.le_mul_of_pos_right _ (two_pow_pos _)
  refine ⟨_,hadd,⟨⟨(if z=0 then s1 && s2 else decide (z < 0)),_,near32 (m:=z.natAbs) (k:=K) (by omega) _ rfl (by omega),?_,sg_sign (s:=s1) (t:=s2) (P:=2 ^ (K - 145)) (two_pow_pos _) (.inl hzz)⟩⟩⟩
  intro D' hD'
  rw [hab,← hD',hD]
  exact arr3 hpw
section
variable {P:Program} {h:TH} {K:Regs→TH→Prop} {rest:List TOper} {d:Option Tmp} {ty:TypeId} {i:Nat} {x y:Operand} {t u:TypeId} {L:Rg}
end
section
variable {h:TH} {v w fv:Value} {F G:List Nat} {es es' ee L M D S:List Int} {x y m:Int} {fa fb fc:Nat}
end
end Go.Tidy
namespace Go.Tidy
section
variable {keep:Nat→Bool} {x:Nat→Int}
def celJ (keep:Nat→Bool) (x:Nat→Int) (p:Nat):Int × Bool:=if keep (p / 3) then (x p,true) else (0,false)
def rowJ (keep:Nat→Bool) (x:Nat→Int) (lo hi:Nat):List (Int × Bool):=(List.range' lo (hi - lo)).map (celJ keep x)
end
def keptJ (keep:Nat→Bool) (n:Nat):List Nat:=(List.range n).filter keep
end Go.Tidy
namespace Go.Tidy
open Go Go.Proofs Tab
variable {tp:TProg}
def lane (s:Nat→ByteArray) (n:Int) (h:TH) (v1 v2:Nat→Value) (C:Nat→List (Int × Bool)) (N:Nat):Prop:=∀ k,RunC (s k) n h (v1 k) (v2 k) (C k)∧(C k).length=N
theorem lane.hx {s:Nat→ByteArray} {n:Int} {h h':TH} {v1 v2:Nat→Value} {C:Nat→List (Int × Bool)} {N:Nat} (l:lane s n h v1 v2 C N) (x:HX h h'):lane s n h' v1 v2 C N:=fun k=>⟨(l k).1.hx x,(l k).2⟩
section
variable {s:Nat→ByteArray} {n:Int} {v1 v2:Nat→Value} {C:Nat→List (Int × Bool)} {N lb c2 c7:Nat} {m:Int} {hb g:TH} {Q:Exit→Regs→TH→Prop} {gx:Nat} {p126 p127 p128:Value}
end
end Go.Tidy
namespace Go.Tidy
open Go Go.Proofs Tab
variable {tp:TProg}
section
variable {src n:Nat} {kp:Nat→Bool} {x:Nat→Int}
end
abbrev rN:ByteArray:=⟨#[114]⟩
theorem Above.none {n0 m c:Nat}:Above n0 (.slice .none m c):=fun b off sp m c h=>by cases h
theorem Above.of {n0 b m c:Nat} (h:n0≤b):Above n0 (.slice (some ⟨b,0,.none⟩) m c):=fun b off sp m c e=>by cases e;exact h
def JRun (kp:Nat→Bool) (x:Nat→Int) (n j:Nat) (s:Int × Value × Value) (g:TH):Prop :=
 (j=0∧s=(0,.slice none 0 0,.slice none 0 0))∨∃ k c0 cl,j=k+1∧(keptJ kp n)[0]?=some c0∧(keptJ kp n)[k]?=some cl∧c0≤cl∧s.1=((3*c0:Nat):Int)∧RunC rN ((3*c0:Nat):Int) g s.2.1 s.2.2 (rowJ kp x (3*c0) (3*(cl+1)))
theorem JRun.hx {kp:Nat→Bool} {x:Nat→Int} {n j:Nat} {s:Int × Value × Value} {g g':TH} (q:JRun kp x n j s g) (X:HX g g'):JRun kp x n j s g':=by
 rcases q with q | ⟨k,c0,cl,q1,q2,q3,q4,q5,q6⟩
 ·exact .inl q
 ·exact .inr ⟨k,c0,cl,q1,q2,q3,q4,q5,q6.hx X⟩
section
variable {hB i7:TH} {n:Nat} {kp:Nat→Bool} {x:Nat→Int} {c7 c10 c0 cl c N:Nat} {p2 v1 v2 u1 u2 w17:Value} {j:Int}
end
end Go.Tidy
namespace Go.Tidy
open Go Go.Proofs Tab
variable {tp:TProg}
section
variable {kp:Nat→Bool} {x:Nat→Int} {n j:Nat}
end
section
variable {P:Program} {h:TH} {K:Regs→TH→Prop} {rest:List TOper} {d:Option Tmp} {ty t u:TypeId} {i:Nat} {x y:Operand} {L:Rg}
theorem WOL.fdiv {k:FloatKind} {b c r:Nat} (hx:getL L x=some (.float k b)) (hy:getL L y=some (.float k c)) (hb:nanB k b=false) (hc:nanB k c=false) (hr:k.format.div b c=some r) (hn:nanB k r=false)
  (w:∀ a,Kn (putL L d (.float k r)) a→WO P tp rest a h K):∀ a,Kn L a→WO P tp (⟨d,.binOp .quo t x y u,ty,none,[],i⟩::rest) a h K:=fun a k=>WO.fdiv (k.o hx) (k.o hy) hb hc hr hn (w _ (k.put d _))
end
end Go.Tidy
namespace Go.Tidy
open Go Go.Proofs Tab
variable {tp:TProg}
structure RowsI (h:TH) (b:Nat) (Xs:List Value) (Cs:List (List Int)):Prop where
 at_:At h b (.cells Xs true true 49)
 len:Xs.length=Cs.length
 sl:∀ (i:Nat) (x:Value) (C:List Int),Xs[i]?=some x→Cs[i]?=some C→SlL encI 1 h x C
theorem RowsI.hx {h h':TH} {b:Nat} {Xs:List Value} {Cs:List (List Int)} (r:RowsI h b Xs Cs) (x:HX h h'):RowsI h' b Xs Cs:=⟨r.at_.hx x,r.len,fun i y C h1 h2=>(r.sl i y C h1 h2).hx x⟩
end Go.Tidy
namespace Go.Tidy
open Go Go.Proofs Tab
variable {tp:TProg}
section
variable {P:Program} {h:TH} {K:Regs→TH→Prop} {rest:List TOper} {d:Option Tmp} {ty:TypeId} {i:Nat} {x y:Operand} {t u:TypeId} {L:Rg}
end
section
variable {h:TH} {v w v8 v9 v14 v16 v22:Value} {F G:List Nat} {es es' L M D:List Int} {x y z n d ez o:Int} {fz c3:Nat} {s:ByteArray}
def addLI (L:List Int) (o:Int):List Int:=L.map fun x=>x+o
theorem add_len:(addLI L o).length=L.length:=List.length_map ..
theorem add_get {i:Nat} (h:i < L.length):(addLI L o).getD i 0=L.getD i 0+o:=by
 unfold addLI
 rw [List.getD_eq_getElem?_getD,List.getElem?_map,at_getD h];rfl
end
end Go.Tidy
namespace Go.Tidy
open Go Go.Proofs Tab
variable {tp:TProg}
section
variable {h:TH} {v w v5 v6 v8 v9 v14 v18 v22:Value} {F G R Q T:List Nat} {es es' L M D:List Int} {x y z n d ez o p:Int} {fz fo c13 c8 c9:Nat} {s:ByteArray}
def MixS (j:Nat) (o:Int) (F:List Nat) (L:List Int) (R:List Nat):Prop:=R.length=F.length∧(∀ i,i < j→Samp (R.getD i 0) (L.getD i 0+o))∧∀ i,j≤i→R[i]?=F[i]?
theorem MixS.set {j r:Nat} (m:MixS j o F L R) (hj:j < F.length) (sr:Samp r (L.getD j 0+o)):MixS (j+1) o F L (R.set j r):=by
 obtain ⟨h1,h2,h3⟩:=m
 refine ⟨by rw [List.length_set];exact h1,fun i hi=>?_,fun i hi=>?_⟩
 ·by_cases e:i=j
  ·subst e
   rw [List.getD_eq_getElem?_getD,List.getElem?_set_self (by omega)]
   exact sr
  ·rw [List.getD_eq_getElem?_getD,List.getElem?_set_ne (Ne.symm e),← List.getD_eq_getElem?_getD]
   exact h2 i (by omega)
 ·rw [List.getElem?_set_ne (by omega)]
  exact h3 i (by omega)
theorem MixS.lev (m:MixS F.length o F L R) (ll:F.length=L.length):Lev R (addLI L o):=by
 obtain ⟨h1,h2,h3⟩:=m
 refine ⟨by rw [add_len];omega,fun i bb nn e1 e2=>?_⟩
 have hi:i < R.length:=(List.getElem?_eq_some_iff.1 e1).1
 have q1:=h2 i (by omega)
 rw [List.getD_eq_getElem?_getD (l:=R),e1] at q1
 have q2:=add_get (L:=L) (o:=o) (i:=i) (by omega)
 rw [List.getD_eq_getElem?_getD,e2] at q2
 replace q2:nn=_:=q2
 rw [q2];exact q1
end
end Go.Tidy
namespace Go.Tidy
open Go Go.Proofs Tab
variable {tp:TProg}
section
variable {P:Program}
theorem pv_eqJ {t:TypeId} {d:Nat} {k:IntKind} {a b:Int} (hu:P.underlying t=some (.int k)):pv P (Op.equalIn (d+1) t (.int k a) (.int k b))=some (a == b):=by
 rw [Op.equalIn,pv_bind,pv_underlying hu]
 simp [pv_pure]
variable {h:TH} {K:Regs→TH→Prop} {rest:List TOper} {d:Option Tmp} {ty:TypeId} {i:Nat} {x y:Operand} {t u:TypeId} {L:Rg}
end
section
variable {h:TH} {p q r s k:Nat} {a b c d:Int}
end
end Go.Tidy
namespace Go.Tidy
open Go Go.Proofs Tab
variable {tp:TProg}
def parE (E n:Int) (m:Nat) (p q:Int):Int:=cond (E != 0) E (cond (!partW n m p q) 14 0)
theorem first_par {E n p q:Int} {m:Nat}:firstNZ [E,cond (!partW n m p q) 14 0]=parE E n m p q:=by
 unfold parE
 cases h:(E != 0) with
 | true=>simp only [firstNZ,List.find?,h,cond_true]
 | false =>
  have e0:E=0:=by simpa using h
  subst e0
  cases partW n m p q <;> rfl
theorem partW_of {n p q:Int} {m:Nat} (h0:0≤n) (h1:n+m≤100000000):partW n m p q=(decide (n≤p) && (decide (p≤q) && decide (q≤n+m))):=by
 unfold partW
 rw [fwrap_i64 (by omega) (by omega)]
theorem part_nat {n p q:Int} {m:Nat} (h0:0≤n) (h1:n+m≤100000000) (h:partW n m p q=true):∃ x N:Nat,p=n+(x:Nat)∧q=n+(x:Nat)+(N:Nat)∧x+N≤m:=by
 rw [partW_of h0 h1] at h
 simp only [Bool.and_eq_true,decide_eq_true_eq] at h
 exact ⟨(p - n).toNat,(q - p).toNat,by omega,by omega,by omega⟩
theorem tp1628:Tp Tryz.prog 38 3 [.int .i64 0,.int .i64 0,.int .i64 0] true:=tp_of (by kernel_rfl) (by kernel_rfl) rfl
theorem fo1628_0:fieldOff Tryz.prog 38 0=some 0:=by kernel_rfl
theorem fo1628_1:fieldOff Tryz.prog 38 1=some 1:=by kernel_rfl
theorem fo1628_2:fieldOff Tryz.prog 38 2=some 2:=by kernel_rfl
theorem bd1628 {a b c:Int}:buildT Tryz.prog 38 [(0,zi a),(1,zi b),(2,zi c)]=some (.agg #[zi a,zi b,zi c]):=by kernel_rfl
theorem bd1629z:buildT Tryz.prog 31 []=some (.agg #[zi 0,zi 0,zi 0]):=by kernel_rfl
theorem pt1628_0 {a b c:Int}:pv Tryz.prog (Go.part 3 #[zi a,zi b,zi c] 0)=some (zi a):=by kernel_rfl
theorem pt1628_1 {a b c:Int}:pv Tryz.prog (Go.part 3 #[zi a,zi b,zi c] 1)=some (zi b):=by kernel_rfl
theorem pt1628_2 {a b c:Int}:pv Tryz.prog (Go.part 3 #[zi a,zi b,zi c] 2)=some (zi c):=by kernel_rfl
theorem so1628:Tryz.prog.stoodInHeld 38=false:=by kernel_rfl
theorem eg1628:Tryz.prog.eqGuardType Tryz.prog.depth 38=false:=by kernel_rfl
theorem pv_eq1628 {a b c d e f:Int}:pv Tryz.prog (Op.equal 38 (.agg #[zi a,zi b,zi c]) (.agg #[zi d,zi e,zi f]))=some (cond (a == d) (cond (b == e) (c == f) false) false):=by
 show pv Tryz.prog (Op.equalIn (9998+1+1) 38 _ _)=_
 have q1:=pv_eqJ (P:=Tryz.prog) (d:=9998) (a:=a) (b:=d) Tryz.underlying3
 have q2:=pv_eqJ (P:=Tryz.prog) (d:=9998) (a:=b) (b:=e) Tryz.underlying3
 have q3:=pv_eqJ (P:=Tryz.prog) (d:=9998) (a:=c) (b:=f) Tryz.underlying3
 rw [Op.equalIn,pv_bind,pv_underlying Tryz.underlying38]
 simp only [Option.bind_some]
 rw [pv_bind,pv_program]
 simp only [Option.bind_some,so1628]
 cases ha:(a == d) <;> cases hb:(b == e) <;> cases hc:(c == f) <;> simp [pv_bind,pv_pure,q1,q2,q3,pt1628_0,pt1628_1,pt1628_2,ha,hb,hc]
section
variable {hp:TH} {K:Regs→TH→Prop} {rest:List TOper} {dd:Option Tmp} {ty:TypeId} {i:Nat} {x y:Operand} {u:TypeId} {L:Rg}
theorem WOL.eq1628 {a b c d e f:Int} (hx:getL L x=some (.agg #[zi a,zi b,zi c])) (hy:getL L y=some (.agg #[zi d,zi e,zi f])) (w:∀ r,Kn (putL L dd (.bool (cond (a == d) (cond (b == e) (c == f) false) false))) r→WO Tryz.prog tp rest r hp K):∀ r,Kn L r→WO Tryz.prog tp (⟨dd,.binOp .eql 38 x y u,ty,none,[],i⟩::rest) r hp K:=by
  intro r k
  have ex:=getO_eval (k.o hx)
  have ey:=getO_eval (k.o hy)
  refine WO.plainly rfl rfl rfl (by simp [fastOp,fastBin,ex,ey]) (by simp [valueOp,ex,ey,eqT_aggs]) (plainOp_of (by rfl) (fun q hq=>?_) ?_ rfl) (w _ (k.put dd _))
  · simp only [Op.operands] at hq
    simp at hq
    rcases hq with rfl | rfl
    · rw [ex];rfl
    · rw [ey];rfl
  · show pv Tryz.prog (execOp r.eval ⟨dd, .binOp .eql 38 x y u, ty, "", #[], none⟩) = _
    simp [execOp,pv_bind,pv_map,pv_pure,pv_program,ex,ey,eqGuard,binOp,eg1628,pv_eq1628]
end
theorem mom_out {L:List Int} {B:List Bool} {x N j:Nat} (h:¬ (x≤j∧j < x+N)):momL L B x (min (j+1 - x) N)=momL L B x (min (j - x) N):=by
 rw [show min (j+1 - x) N=min (j - x) N by omega]
theorem mom_in {L:List Int} {B:List Bool} {x N j:Nat} (h1:x≤j) (h2:j < x+N):momL L B x (min (j+1 - x) N)=cond (B.getD j false) ((momL L B x (min (j - x) N)).1+1,(momL L B x (min (j - x) N)).2.1+L.getD j 0,(momL L B x (min (j - x) N)).2.2+L.getD j 0*L.getD j 0) (momL L B x (min (j - x) N)):=by
 have e1:min (j+1 - x) N=j - x+1:=by omega
 have e2:min (j - x) N=j - x:=by omega
 have e3:x+(j - x)=j:=by omega
 rw [e1,e2]
 show cond (B.getD (x+(j - x)) false) _ _=_
 rw [e3]
section
variable {h:TH} {s:ByteArray} {n p q:Int} {v v1 v2:Value} {F:List Nat} {S:List (Int × Int)} {es L:List Int} {x N:Nat}
theorem k1594 (H:Has tp) (r:RunH h v1 v2 F S) (hF:F.length≤900000) (hS:S.length≤900000) (f:Free0 h.next h) :
  CallW Tryz.prog tp (.func (.func 12) #[] #[]) #[runV s n v1 v2] h fun v h'=>∃ w1 w2,v=runV s n w1 w2∧HX h h'∧RunO h.next h' w1 w2 F S:=by
 refine CallW.fnL (H.fn 12 f1594 rfl rfl) ?_
 obtain ⟨b1,k1,rfl⟩:=r.f.form
 obtain ⟨b2,k2,rfl⟩:=r.s.form
 refine WL.sr<|WOL.box rfl fun h1 N1=>WOL.al tp52 fun h2 N2=>WOL.nil<|keep [(1,_),(2,_)] ⟨rfl,rfl,trivial⟩ ?_
 have n1:=N1.next
 have n2:=N2.next
 have A1:At h2 h.next (.cells [.string s,zi n,.slice b1 F.length k1,.slice b2 S.length k2] true true 25):=N1.at_.hx N2.hx
 have A2:=N2.at_
 have X2:=N1.hx.trans N2.hx
 refine WL.sr<|WOL.ld rfl (load_row tp46 A1 rfl (Nat.le_of_ble_eq_true rfl))<|WOL.cl1 rfl rfl ((k87 (s:=s) (n:=n) H (r.hx X2) (by omega) (by omega) (f.on X2)).mono ?_)
 rintro v h3 ⟨w1,w2,rfl,X3,ro⟩
 obtain ⟨b3,k3,rfl⟩:=ro.r.f.form
 obtain ⟨b4,k4,rfl⟩:=ro.r.s.form
 refine WOL.sto (vs:=[.string s,zi n,.slice b3 F.length k3,.slice b4 S.length k4]) rfl rfl tp52 (A2.hx X3) rfl rfl (Nat.le_of_ble_eq_true rfl) rfl (f.hx (X2.trans X3)) (by omega) fun h4 P4=>WOL.nil ?_
 exact WL.ret (WL.endC rfl (load_row tp52 P4.at_ rfl (Nat.le_of_ble_eq_true rfl)) ⟨_,_,rfl,P4.hx _ (X2.trans X3) (by omega),(ro.away P4 (by omega)).le (by omega)⟩)
def parM (e:Int) (L:List Int) (B:List Bool) (n p q:Int):Int × Int × Int:=cond (e != 0) (0,0,0) (momL L B (p - n).toNat (q - p).toNat)
set_option maxHeartbeats 4000000 in
set_option maxRecDepth 10000 in
theorem k1593 (H:Has tp) (X:HasX tp) (r:RunH h v1 v2 F S) (hE:SErr F es) (hL:firstNZ es=0→Lev F L) (hF:F.length≤900000) (hS:S.length≤900000) (f:Free0 h.next h) :
  CallW Tryz.prog tp (.func (.func 11) #[] #[]) #[runV s n v1 v2,.agg #[zi p,zi q]] h fun v h'=>HX h h'∧v=.tuple #[momV (parM (parE (runE s n F.length S es L) n F.length p q) L (knownL S F.length) n p q).1 (parM (parE (runE s n F.length S es L) n F.length p q) L (knownL S F.length) n p q).2.1 (parM (parE (runE s n F.length S es L) n F.length p q) L (knownL S F.length) n p q).2.2,zi (parE (runE s n F.length S es L) n F.length p q)]:=by
 refine CallW.fnL (H.fn 11 f1593 rfl rfl) ?_
 obtain ⟨b1,k1,rfl⟩:=r.f.form
 obtain ⟨b2,k2,rfl⟩:=r.s.form
 refine WL.sr<|WOL.box rfl fun h1 N1=>WOL.box rfl fun h2 N2=>WOL.al tp1629 fun h3 N3=>WOL.as rfl<|WOL.nil<|keep [(2,_),(3,_),(4,_)] ⟨rfl,rfl,rfl,trivial⟩ ?_
 have n1:=N1.next
 have n2:=N2.next
 have n3:=N3.next
 have A2:At h3 h.next (.cells [.string s,zi n,.slice b1 F.length k1,.slice b2 S.length k2] true true 35):=(N1.at_.hx N2.hx).hx N3.hx
 have A3:At h3 h1.next (.cells [zi p,zi q] true true 27):=N2.at_.hx N3.hx
 have A4:=N3.at_
 have X3:=(N1.hx.trans N2.hx).trans N3.hx
 refine WL.seq<|WL.sr<|WOL.ld rfl (load_row tp52 A2 rfl (Nat.le_of_ble_eq_true rfl))<|WOL.ld rfl (load_row tp52 A2 rfl (Nat.le_of_ble_eq_true rfl))<|WOL.ld rfl (load_row tp48 A3 rfl (Nat.le_of_ble_eq_true rfl)) ?_
 refine WOL.lq1 [h1.next,h.next] rfl rfl rfl fun M hM=>((k41 (s:=s) (n:=n) (es:=es) (L:=L) H X ((r.hx X3).relock M) hE hL (by omega) (by omega) ((f.on X3).held hM (fun b hb=>by simp at hb;omega))).mono ?_)
 rintro v h4 ⟨rfl,X4⟩
 replace X4:=X4.relock
 generalize h4.withLock h3.lock=h4 at *
 have Y4:=X3.trans X4
 refine WOL.cl2 rfl rfl rfl ((k1648 (s:=s) (n:=n) (p:=p) (q:=q) H (r.hx Y4)).mono ?_)
 rintro v h5 ⟨rfl,X5⟩
 refine WOL.bsl rfl u166 tp30 (by decide) (by decide) (by decide) (filled_ints _ _) fun h6 N6=>?_
 refine WOL.cl1 rfl rfl ((k71 H (l:=[_,_]) N6.at_.get (by simp)).mono ?_)
 rintro v h7 ⟨rfl,rfl⟩
 have Z:=(X4.trans X5).trans N6.hx
 have Y:=X3.trans Z
 have z:=Z.next
 replace A2:=A2.hx Z;replace A3:=A3.hx Z;replace A4:=A4.hx Z
 show ∀ a,Kn _ a→WO _ _ _ a _ _
 refine WOL.as rfl<|WOL.nil<|keep [(2,_),(3,_),(4,_),(6,_)] ⟨rfl,rfl,rfl,rfl,trivial⟩ ?_
 rw [first_par]
 generalize hEE:parE (runE s n F.length S es L) n F.length p q=E
 by_cases e0:E≠0
 ·refine WL.sr<|WOL.mv rfl<|WOL.bt rfl rfl rfl (bne_iff_ne.2 e0)<|WOL.nil<|WL.yes rfl<|WL.sr<|WOL.bd rfl bd1629z<|WOL.mv rfl<|WOL.sto (vs:=[zi 0,zi 0,zi 0]) rfl rfl tp1629 A4 rfl rfl (Nat.le_of_ble_eq_true rfl) rfl (f.hx Y) (by omega) fun i1 M1=>WOL.as rfl<|WOL.nil ?_
  refine WL.ret (WL.endC1 rfl rfl (load_row tp1629 M1.at_ rfl (Nat.le_of_ble_eq_true rfl)) ⟨M1.hx _ Y (by omega),?_⟩)
  unfold parM
  rw [bne_iff_ne.2 e0]
  rfl
 have e0:E=0:=Classical.not_not.1 e0
 subst e0
 have hR:runE s n F.length S es L=0:=by
  unfold parE at hEE
  rcases nz_cases (runE s n F.length S es L) with h0 | h0
  ·exact h0
  ·rw [h0] at hEE;exact hEE
 have hp:partW n F.length p q=true:=by
  unfold parE at hEE
  rw [hR] at hEE
  cases hq:partW n F.length p q with
  | true=>rfl
  | false=>rw [hq] at hEE;cases hEE
 have vd:=valid_of hL hR
 obtain ⟨x,N,rfl,rfl,hN⟩:=part_nat vd.n0 vd.n1 hp
 have hx1:=vd.n1
 have hx0:=vd.n0
 have lE:=vd.lev.1
 refine WL.sr<|WOL.mv rfl<|WOL.bf rfl rfl rfl rfl<|WOL.nil<|WL.no rfl<|WL.skip<|keep [(2,_),(3,_),(4,_)] ⟨rfl,rfl,rfl,trivial⟩ ?_
 refine WL.sr<|WOL.ld rfl (load_row tp52 A2 rfl (Nat.le_of_ble_eq_true rfl))<|WOL.fa rfl (fa_of fo48_0)<|WOL.ld rfl (load_one tp3 A3 rfl)<|WOL.fa rfl (fa_of fo52_1)<|WOL.ld rfl (load_one tp3 A2 rfl)<|WOL.sub rfl rfl (by omega) (by omega)<|WOL.fa rfl (fa_of fo48_1)<|WOL.ld rfl (load_one tp3 A3 rfl)<|WOL.fa rfl (fa_of fo52_1)<|WOL.ld rfl (load_one tp3 A2 rfl)<|WOL.sub rfl rfl (by omega) (by omega)<|WOL.bd rfl bd48 ?_
 refine WOL.lq1 [h.next,h1.next,h.next,h1.next] rfl rfl rfl fun M hM=>((k1649 (s:=s) (n:=n) H ((r.hx Y).relock M) vd.lev (by omega) (by omega) vd.in_ ((f.on Y).held hM (fun b hb=>by simp at hb;omega))).mono ?_)
 rintro v g1 ⟨W1,b3,m3,b4,m4,rfl,sL,sB⟩
 replace W1:=W1.relock
 replace sL:=sL.relock h7.lock
 replace sB:=sB.relock h7.lock
 generalize g1.withLock h7.lock=g1 at *
 have V1:=Y.trans W1
 rw [show n+(x:Int) - n=(x:Nat) by omega,show n+(x:Int)+(N:Int) - n=((x+N:Nat):Int) by omega]
 refine WOL.cl2 rfl rfl rfl ((k1650 (x:=x) (N:=N) H sL sB (by omega) (by rw [knownL_len];omega) (lev_getD vd.lev) (by have:=vd.m;omega) (f.on V1)).mono ?_)
 rintro v g2 ⟨rfl,W2⟩
 refine WOL.sto (vs:=[zi (momL L (knownL S F.length) x N).1,zi (momL L (knownL S F.length) x N).2.1,zi (momL L (knownL S F.length) x N).2.2]) rfl rfl tp1629 ((A4.hx W1).hx W2) rfl rfl (Nat.le_of_ble_eq_true rfl) rfl (f.hx (V1.trans W2)) (by omega) fun g3 P3=>WOL.as rfl<|WOL.nil ?_
 refine WL.ret (WL.endC1 rfl rfl (load_row tp1629 P3.at_ rfl (Nat.le_of_ble_eq_true rfl)) ⟨P3.hx _ (V1.trans W2) (by omega),?_⟩)
 unfold parM
 rw [show (n+(x:Int) - n).toNat=x by omega,show (n+(x:Int)+(N:Int) - (n+(x:Int))).toNat=N by omega]
 rfl
end
end Go.Tidy
namespace Go.Tidy
open Go Go.Proofs Tab
variable {tp:TProg}
section
variable {h:TH} {s:ByteArray} {n p q:Int} {v v1 v2:Value} {F:List Nat} {S:List (Int × Int)} {es L:List Int} {x N:Nat}
theorem partW_or {n p q:Int} {m:Nat} (h0:0≤n) (h1:n+m≤100000000):(!partW n m p q)=(decide (p < n) || (decide (p > q) || decide (q > n+m))):=by
 rw [partW_of h0 h1]
 by_cases c1:n≤p <;> by_cases c2:p≤q <;> by_cases c3:q≤n+m <;> simp [c1,c2,c3] <;> omega
set_option maxHeartbeats 4000000 in
set_option maxRecDepth 10000 in
theorem k1595 (H:Has tp) (r:RunH h v1 v2 F S) (hF:F.length≤900000) (hn0:0≤n) (hn1:n+F.length≤100000000) :
  CallW Tryz.prog tp (.func (.func 14) #[] #[]) #[runV s n v1 v2,.agg #[zi p,zi q]] h fun v h'=>v=zi (cond (!partW n F.length p q) 14 0)∧HX h h':=by
 rw [partW_or hn0 hn1]
 refine CallW.fnL (H.fn 14 f1595 rfl rfl) ?_
 obtain ⟨b1,k1,rfl⟩:=r.f.form
 obtain ⟨b2,k2,rfl⟩:=r.s.form
 refine WL.sr<|WOL.box rfl fun h1 N1=>WOL.box rfl fun h2 N2=>WOL.as rfl<|WOL.nil<|keep [(2,_),(3,_)] ⟨rfl,rfl,trivial⟩ ?_
 have A2:At h2 h.next (.cells [.string s,zi n,.slice b1 F.length k1,.slice b2 S.length k2] true true 25):=N1.at_.hx N2.hx
 have A3:At h2 h1.next (.cells [zi p,zi q] true true 27):=N2.at_
 have X2:=N1.hx.trans N2.hx
 refine WL.sr<|WOL.fa rfl (fa_of fo48_0)<|WOL.ld rfl (load_one tp3 A3 rfl)<|WOL.fa rfl (fa_of fo46_1)<|WOL.ld rfl (load_one tp3 A2 rfl) ?_
 by_cases c1:p < n
 ·refine WOL.bt rfl rfl rfl (decide_eq_true c1)<|WOL.mv rfl<|WOL.skp (b:=true) rfl rfl<|WOL.skp (b:=true) rfl rfl<|WOL.skp (b:=true) rfl rfl<|WOL.skp (b:=true) rfl rfl<|WOL.skp (b:=true) rfl rfl<|WOL.pkt rfl rfl<|WOL.mv rfl<|WOL.skp (b:=true) rfl rfl<|WOL.skp (b:=true) rfl rfl<|WOL.skp (b:=true) rfl rfl<|WOL.skp (b:=true) rfl rfl<|WOL.skp (b:=true) rfl rfl<|WOL.pkt rfl rfl<|WOL.cl2 rfl rfl rfl ((k32 H _ _ _).mono ?_)
  rintro v h3 ⟨rfl,rfl⟩
  exact WOL.as rfl<|WOL.nil<|WL.ret (WL.end_ rfl ⟨by rw [decide_eq_true c1];rfl,X2⟩)
 refine WOL.bf rfl rfl rfl (decide_eq_false c1)<|WOL.mv rfl<|WOL.now (b:=false) rfl rfl<|WOL.fa rfl (fa_of fo48_0)<|WOL.now (b:=false) rfl rfl<|WOL.ld rfl (load_one tp3 A3 rfl)<|WOL.now (b:=false) rfl rfl<|WOL.fa rfl (fa_of fo48_1)<|WOL.now (b:=false) rfl rfl<|WOL.ld rfl (load_one tp3 A3 rfl)<|WOL.now (b:=false) rfl rfl ?_
 by_cases c2:p > q
 ·refine WOL.bt rfl rfl rfl (decide_eq_true c2)<|WOL.pkf rfl rfl<|WOL.mv rfl<|WOL.skp (b:=true) rfl rfl<|WOL.skp (b:=true) rfl rfl<|WOL.skp (b:=true) rfl rfl<|WOL.skp (b:=true) rfl rfl<|WOL.skp (b:=true) rfl rfl<|WOL.pkt rfl rfl<|WOL.cl2 rfl rfl rfl ((k32 H _ _ _).mono ?_)
  rintro v h3 ⟨rfl,rfl⟩
  exact WOL.as rfl<|WOL.nil<|WL.ret (WL.end_ rfl ⟨by rw [decide_eq_false c1,decide_eq_true c2];rfl,X2⟩)
 refine WOL.bf rfl rfl rfl (decide_eq_false c2)<|WOL.pkf rfl rfl<|WOL.mv rfl<|WOL.now (b:=false) rfl rfl<|WOL.fa rfl (fa_of fo48_1)<|WOL.now (b:=false) rfl rfl<|WOL.ld rfl (load_one tp3 A3 rfl)<|WOL.now (b:=false) rfl rfl<|WOL.ld rfl (load_row tp46 A2 rfl (Nat.le_of_ble_eq_true rfl))<|WOL.now (b:=false) rfl rfl ?_
 refine WOL.lk1 rfl rfl fun M=>((k33 (s:=s) (v2:=.slice b2 S.length k2) H ((r.f.hx X2).relock M) hn0 (by omega) (by omega)).mono ?_)
 rintro v h3 ⟨rfl,X3⟩
 replace X3:=X3.relock
 generalize h3.withLock h2.lock=h3 at *
 refine WOL.now (b:=false) rfl rfl<|WOL.bi rfl rfl rfl<|WOL.pkf rfl rfl<|WOL.cl2 rfl rfl rfl ((k32 H _ _ _).mono ?_)
 rintro v h4 ⟨rfl,rfl⟩
 exact WOL.as rfl<|WOL.nil<|WL.ret (WL.end_ rfl ⟨by rw [decide_eq_false c1,decide_eq_false c2];rfl,X2.trans X3⟩)
set_option maxHeartbeats 8000000 in
set_option maxRecDepth 10000 in
theorem k1596 (H:Has tp) (r:RunH h v1 v2 F S) (V:Valid s n F S L) (hS:S.length≤900000) (hN:x+N≤F.length) (f:Free0 h.next h) :
    CallW Tryz.prog tp (.func (.func 15) #[] #[]) #[runV s n v1 v2,.agg #[zi (n+(x:Nat)),zi (n+(x:Nat)+(N:Nat))]] h fun v h'=>v=momV (momL L (knownL S F.length) x N).1 (momL L (knownL S F.length) x N).2.1 (momL L (knownL S F.length) x N).2.2∧HX h h':=by
  refine CallW.fnL (H.fn 15 f1596 rfl rfl) ?_
  obtain ⟨b1,k1,rfl⟩:=r.f.form
  obtain ⟨b2,k2,rfl⟩:=r.s.form
  have V0:=V.n0
  have V1:=V.n1
  have Vm:=V.m
  generalize hB:knownL S F.length=B
  have hBg:∀ j,j < F.length→B.getD j false=knownB S (j:Nat):=fun j hj=>by rw [← hB];exact knownL_getD hj
  refine WL.sr<|WOL.box rfl fun h1 N1=>WOL.box rfl fun h2 N2=>WOL.al tp1628 fun h3 N3=>WOL.nil<|keep [(2,_),(3,_),(4,_)] ⟨rfl,rfl,rfl,trivial⟩ ?_
  have n1:=N1.next
  have n2:=N2.next
  have n3:=N3.next
  have A2:At h3 h.next (.cells [.string s,zi n,.slice b1 F.length k1,.slice b2 S.length k2] true true 25):=(N1.at_.hx N2.hx).hx N3.hx
  have A3:At h3 h1.next (.cells [zi (n+(x:Nat)),zi (n+(x:Nat)+(N:Nat))] true true 27):=N2.at_.hx N3.hx
  have A4:=N3.at_
  have X3:=(N1.hx.trans N2.hx).trans N3.hx
  refine WL.sr<|WOL.al tp1628 fun h4 N4=>WOL.nil<|keep [(2,_),(3,_),(4,_),(5,_)] ⟨rfl,rfl,rfl,rfl,trivial⟩ ?_
  have A5:=N4.at_
  refine WL.seq<|WL.sr<|WOL.as rfl<|WOL.nil ?_
  refine WL.forz (α:=Unit) F.length (fun j _ g=>HX h3 g∧At g h3.next (.cells [zi (momL L B x (min (j - x) N)).1,zi (momL L B x (min (j - x) N)).2.1,zi (momL L B x (min (j - x) N)).2.2] true true 38)) (fun j _=>[(2,ptr h.next),(3,ptr h1.next),(4,ptr h2.next),(5,ptr h3.next),(6,zi (j:Nat))]) (fun j _=>[(2,ptr h.next),(3,ptr h1.next),(4,ptr h2.next),(5,ptr h3.next),(6,zi (j:Nat))]) () ⟨N4.hx,by rw [Nat.zero_sub,Nat.zero_min];exact A5⟩ ⟨rfl,rfl,rfl,rfl,rfl,trivial⟩ ?_ ?_ (fun _ _ _=>⟨rfl,rfl,rfl,rfl,rfl,trivial⟩) ?_ ?_
  · rintro j _ g hj ⟨X,_⟩
    exact WOL.mv rfl<|WOL.fa rfl (fa_of fo46_2)<|WOL.ld rfl (load_one tp43 (A2.hx X) rfl)<|WOL.len rfl (r.f.hx (X3.trans X)) u43<|WOL.bi rfl rfl rfl<|WOL.nil fun a q=>⟨rfl,q.sub ⟨rfl,rfl,rfl,rfl,rfl,rfl,trivial⟩⟩
  · rintro j _ g hj q
    exact WOL.mv rfl<|WOL.inc rfl (by omega)<|WOL.as rfl<|WOL.nil fun a k=>⟨q,k.sub ⟨rfl,rfl,rfl,rfl,rfl,trivial⟩⟩
  · rintro j _ g hj ⟨X,A⟩
    have la:=A.lt
    have xg:=X.next
    have hp:F[j]?=some F[j]:=List.getElem?_eq_getElem hj
    obtain ⟨z,hz,sm⟩:=V.lev.get hp
    obtain ⟨_,_,_,_,_,_,p1,p2,_,_,p5⟩:=(r.f.hx (X3.trans X)).at eF u43 tp25 hp .i64
    have px:=p5 0 (by decide)
    rw [Nat.add_zero] at px
    have lim:=mom_lim (B:=B) (k:=x) (lev_getD V.lev) (min (j - x) N)
    have hm:min (j - x) N≤4096:=by omega
    have ez:L.getD j 0=z:=by rw [List.getD_eq_getElem?_getD,hz];rfl
    have hzl:=sm.lim
    have hy:(z*z).natAbs≤268435456:=by rw [Int.natAbs_mul];exact Nat.mul_le_mul hzl hzl
    have X3g:=X3.trans X
    refine WL.sr<|WOL.fa rfl (fa_of fo46_1)<|WOL.ld rfl (load_one tp3 (A2.hx X) rfl)<|WOL.mv rfl<|WOL.add rfl rfl (by omega) (by omega)<|WOL.as rfl<|WOL.nil<|keep [(2,_),(3,_),(4,_),(5,_),(6,_),(7,_)] ⟨rfl,rfl,rfl,rfl,rfl,rfl,trivial⟩ ?_
    refine WL.sr<|WOL.mv rfl<|WOL.fa rfl (fa_of fo48_0)<|WOL.ld rfl (load_one tp3 (A3.hx X) rfl) ?_
    by_cases c1:x≤j
    · refine WOL.bt rfl rfl rfl (decide_eq_true (by omega))<|WOL.mv rfl<|WOL.now (b:=true) rfl rfl<|WOL.mv rfl<|WOL.now (b:=true) rfl rfl<|WOL.fa rfl (fa_of fo48_1)<|WOL.now (b:=true) rfl rfl<|WOL.ld rfl (load_one tp3 (A3.hx X) rfl)<|WOL.now (b:=true) rfl rfl ?_
      by_cases c2:j < x+N
      · refine WOL.bt rfl rfl rfl (decide_eq_true (by omega))<|WOL.pkt rfl rfl<|WOL.mv rfl<|WOL.now (b:=true) rfl rfl<|WOL.ld rfl (load_row tp46 (A2.hx X) rfl (Nat.le_of_ble_eq_true rfl))<|WOL.now (b:=true) rfl rfl<|WOL.mv rfl<|WOL.now (b:=true) rfl rfl<|WOL.cl2 rfl rfl rfl ((k39 (s:=s) (n:=n) (v1:=.slice b1 F.length k1) H (r.s.hx X3g) (by omega)).mono ?_)
        rintro v g1 ⟨rfl,Y⟩
        have hs:=mom_in (L:=L) (B:=B) c1 c2
        rw [hBg j hj,ez] at hs
        refine WOL.pkt rfl rfl<|WOL.nil<|keep [(2,_),(3,_),(4,_),(5,_),(6,_),(34,_)] ⟨rfl,rfl,rfl,rfl,rfl,rfl,trivial⟩ ?_
        cases hb:knownB S (j:Nat) with
        | false =>
          rw [hb] at hs
          refine WL.no rfl<|WL.skip fun y k=>⟨(),⟨X.trans Y,?_⟩,k.sub ⟨rfl,rfl,rfl,rfl,rfl,trivial⟩⟩
          rw [hs];exact A.hx Y
        | true =>
          rw [hb] at hs
          replace hs:momL L B x (min (j+1 - x) N)=((momL L B x (min (j - x) N)).1+1,(momL L B x (min (j - x) N)).2.1+z,(momL L B x (min (j - x) N)).2.2+z*z):=hs
          refine WL.yes rfl<|WL.sr<|WOL.fa rfl (fa_of fo46_2)<|WOL.ld rfl (load_one tp43 ((A2.hx X).hx Y) rfl)<|WOL.mv rfl<|WOL.ix rfl rfl p1<|WOL.ld rfl (load_one tp25 (p2.hx Y) px)<|WOL.cl1 rfl rfl ((k95 H sm _).mono ?_)
          rintro v g2 ⟨rfl,rfl⟩
          refine WOL.as rfl<|WOL.nil<|keep [(2,_),(3,_),(4,_),(5,_),(6,_),(8,_)] ⟨rfl,rfl,rfl,rfl,rfl,rfl,trivial⟩ ?_
          have Ag:=A.hx Y
          refine WL.reg<|WOL.fa rfl (fa_of fo1628_0)<|WOL.ld rfl (load_one tp3 Ag rfl)<|WOL.add rfl rfl (by omega) (by omega)<|WOL.fa rfl (fa_of fo1628_1)<|WOL.ld rfl (load_one tp3 Ag rfl)<|WOL.mv rfl<|WOL.add rfl rfl (by omega) (by omega)<|WOL.fa rfl (fa_of fo1628_2)<|WOL.ld rfl (load_one tp3 Ag rfl)<|WOL.mv rfl<|WOL.mv rfl<|WOL.mul rfl rfl (by omega) (by omega)<|WOL.add rfl rfl (by omega) (by omega)<|WOL.bd rfl bd1628 ?_
          refine WOL.sto (vs:=[zi ((momL L B x (min (j - x) N)).1+1),zi ((momL L B x (min (j - x) N)).2.1+z),zi ((momL L B x (min (j - x) N)).2.2+z*z)]) rfl rfl tp1628 Ag rfl rfl (Nat.le_of_ble_eq_true rfl) rfl (f.hx (X3g.trans Y)) (show h.next≤h3.next by omega) fun i2 P2=>WOL.nil fun y k=>⟨(),⟨P2.hx _ (X.trans Y) (Nat.le_refl _),?_⟩,k.sub ⟨rfl,rfl,rfl,rfl,rfl,trivial⟩⟩
          rw [hs];exact P2.at_
      · refine WOL.bf rfl rfl rfl (decide_eq_false (by omega))<|WOL.pkt rfl rfl<|WOL.mv rfl<|WOL.skp (b:=false) rfl rfl<|WOL.skp (b:=false) rfl rfl<|WOL.skp (b:=false) rfl rfl<|WOL.pkf rfl rfl<|WOL.nil<|WL.no rfl<|WL.skip fun y k=>⟨(),⟨X,?_⟩,k.sub ⟨rfl,rfl,rfl,rfl,rfl,trivial⟩⟩
        rw [mom_out (by omega)];exact A
    · refine WOL.bf rfl rfl rfl (decide_eq_false (by omega))<|WOL.mv rfl<|WOL.skp (b:=false) rfl rfl<|WOL.skp (b:=false) rfl rfl<|WOL.skp (b:=false) rfl rfl<|WOL.skp (b:=false) rfl rfl<|WOL.pkf rfl rfl<|WOL.mv rfl<|WOL.skp (b:=false) rfl rfl<|WOL.skp (b:=false) rfl rfl<|WOL.skp (b:=false) rfl rfl<|WOL.pkf rfl rfl<|WOL.nil<|WL.no rfl<|WL.skip fun y k=>⟨(),⟨X,?_⟩,k.sub ⟨rfl,rfl,rfl,rfl,rfl,trivial⟩⟩
      rw [mom_out (by omega)];exact A
  · rintro _ g ⟨X,A⟩
    rw [show min (F.length - x) N=N by omega] at A
    refine WL.sr<|WOL.ld rfl (load_row tp1628 A rfl (Nat.le_of_ble_eq_true rfl))<|WOL.sto (vs:=[zi (momL L B x N).1,zi (momL L B x N).2.1,zi (momL L B x N).2.2]) rfl rfl tp1628 (A4.hx X) rfl rfl (Nat.le_of_ble_eq_true rfl) rfl (f.hx (X3.trans X)) (show h.next≤h2.next by omega) fun i2 P2=>WOL.nil ?_
    exact WL.ret (WL.endC rfl (load_row tp1628 P2.at_ rfl (Nat.le_of_ble_eq_true rfl)) ⟨rfl,P2.hx _ (X3.trans X) (by omega)⟩)
set_option maxHeartbeats 8000000 in
set_option maxRecDepth 10000 in
theorem k1577 (H:Has tp) (X:HasX tp) (K:Awk tp) (r:RunH h v1 v2 F S) (f:Free0 h.next h) :
    CallW Tryz.prog tp (.func (.func 3) #[] #[]) #[runV s n v1 v2,.agg #[zi p,zi q]] h fun v _=>v=.bool true:=by
  obtain ⟨b1,k1,e1⟩:=r.f.form
  obtain ⟨b2,k2,e2⟩:=r.s.form
  subst e1 e2
  obtain ⟨es,L,hE,hLv⟩:=lev_some F
  refine CallW.fnL (H.fn 3 f1577 rfl rfl) ?_
  refine WL.sr<|WOL.box rfl fun h1 N1=>WOL.box rfl fun h2 N2=>WOL.as rfl<|WOL.nil<|keep [(2,_),(3,_)] ⟨rfl,rfl,trivial⟩ ?_
  have n1:=N1.next
  have n2:=N2.next
  have A2:At h2 h.next (.cells [.string s,zi n,.slice b1 F.length k1,.slice b2 S.length k2] true true 25):=N1.at_.hx N2.hx
  have A3:At h2 h1.next (.cells [zi p,zi q] true true 27):=N2.at_
  have X2:=N1.hx.trans N2.hx
  refine WL.seq<|WL.sr<|WOL.cl0 rfl ((k11t K _).mono ?_)
  rintro v h3 ⟨rfl,rfl⟩
  refine WOL.nt rfl<|WOL.mv rfl<|WOL.now (b:=false) rfl rfl<|WOL.ld rfl (load_row tp46 A2 rfl (Nat.le_of_ble_eq_true rfl))<|WOL.now (b:=false) rfl rfl<|WOL.cl1 rfl rfl ((k23 (s:=s) (n:=n) H (r.f.hx X2) (r.s.hx X2)).mono ?_)
  rintro v h4 ⟨rfl,X4⟩
  have Y4:=X2.trans X4
  have x4:=X4.next
  replace A2:=A2.hx X4;replace A3:=A3.hx X4
  cases hb:shortB s F.length S.length with
  | false =>
    refine WOL.now (b:=false) rfl rfl<|WOL.nt rfl<|WOL.pkf rfl rfl<|WOL.nil<|WL.yes rfl<|WL.sr<|WOL.cl0 rfl ((k11t K _).mono ?_)
    rintro v h5 ⟨rfl,rfl⟩
    exact WOL.as rfl<|WOL.nil<|WL.ret (WL.end_ rfl rfl)
  | true =>
    obtain ⟨hF,hS⟩:=short_small hb
    refine WOL.now (b:=false) rfl rfl<|WOL.nt rfl<|WOL.pkf rfl rfl<|WOL.nil<|WL.no rfl<|WL.skip<|keep [(2,_),(3,_)] ⟨rfl,rfl,trivial⟩ ?_
    have y4:=Y4.next
    refine WL.sr<|WOL.ld rfl (load_row tp46 A2 rfl (Nat.le_of_ble_eq_true rfl))<|WOL.ld rfl (load_row tp48 A3 rfl (Nat.le_of_ble_eq_true rfl))<|WOL.al tp1629 fun h5 N5=>?_
    have n5:=N5.next
    have Y5:=Y4.trans N5.hx
    refine WOL.lq1 [h4.next,h1.next] rfl rfl rfl fun M hM=>((k1594 (s:=s) (n:=n) H ((r.hx Y5).relock M) (by omega) (by omega) ((f.on Y5).held hM (fun b hb=>by simp at hb;omega))).mono ?_)
    rintro v h6 ⟨w1,w2,rfl,X6,ro⟩
    replace X6:=X6.relock
    have rr:RunH (h6.withLock h5.lock) w1 w2 F S:=ro.r.relock h5.lock
    clear ro
    generalize h6.withLock h5.lock=h6 at *
    have Y6:=Y5.trans X6
    have y6:=X6.next
    refine WOL.lq2 [h4.next] rfl rfl rfl rfl fun M hM=>((k1593 (s:=s) (n:=n) (p:=p) (q:=q) (es:=es) (L:=L) H X (rr.relock M) hE hLv (by omega) (by omega) ((f.on Y6).held hM (fun b hb=>by simp at hb;omega))).mono ?_)
    rintro v h7 ⟨X7,rfl⟩
    replace X7:=X7.relock
    generalize h7.withLock h6.lock=h7 at *
    have Y7:=Y6.trans X7
    have y7:=X7.next
    generalize hEE:runE s n F.length S es L=EE
    generalize hM:parM (parE EE n F.length p q) L (knownL S F.length) n p q=MM
    obtain ⟨m1,m2,m3⟩:=MM
    refine WOL.mv rfl<|WOL.ex rfl rfl<|WOL.ex rfl rfl<|WOL.sto (vs:=[zi m1,zi m2,zi m3]) rfl rfl tp1629 ((N5.at_.hx X6).hx X7) rfl rfl (Nat.le_of_ble_eq_true rfl) rfl (f.hx Y7) (by omega) fun h8 P8=>WOL.as rfl<|WOL.nil<|keep [(2,_),(3,_),(5,_),(6,_)] ⟨rfl,rfl,rfl,rfl,trivial⟩ ?_
    have Z8:HX h4 h8:=P8.hx _ ((N5.hx.trans X6).trans X7) (by omega)
    have Y8:=Y4.trans Z8
    have A5:=P8.at_
    have y8:=Z8.next
    have p8:=P8.next
    replace A2:=A2.hx Z8;replace A3:=A3.hx Z8
    refine WL.sr<|WOL.ld rfl (load_row tp46 A2 rfl (Nat.le_of_ble_eq_true rfl))<|WOL.cl1 rfl rfl ((k31 (s:=s) (n:=n) (es:=es) (L:=L) H (r.hx Y8) hE hLv (by omega) (by omega)).mono ?_)
    rintro v h9 ⟨rfl,X9⟩
    rw [hEE]
    refine WOL.as rfl<|WOL.nil<|keep [(2,_),(3,_),(5,_),(6,_),(7,_)] ⟨rfl,rfl,rfl,rfl,rfl,trivial⟩ ?_
    have Y9:=Y8.trans X9
    have y9:=X9.next
    refine WL.sr<|WOL.al tp1628 fun h10 N10=>WOL.nil<|keep [(2,_),(3,_),(5,_),(6,_),(7,_),(8,_)] ⟨rfl,rfl,rfl,rfl,rfl,rfl,trivial⟩ ?_
    have n10:=N10.next
    have Z10:=X9.trans N10.hx
    have Y10:=Y8.trans Z10
    have l5:=A5.lt
    replace A2:=A2.hx Z10;replace A3:=A3.hx Z10;replace A5:=A5.hx Z10
    have A8:=N10.at_
    have tail:∀ (e:Int) g,At g h4.next (.cells [zi m1,zi m2,zi m3] true true 31)→At g h9.next (.cells [zi m1,zi m2,zi m3] true true 38)→∀ a,Kn [(5,ptr h4.next),(6,zi e),(7,zi e),(8,ptr h9.next)] a→W Tryz.prog tp false (.seq (.reg r1577_10) .ret) a g (Fin Tryz.prog [.tmp 4] fun v _=>v=.bool true):=by
      intro e g B5 B8
      refine WL.sr<|WOL.ld rfl (load_row tp1629 B5 rfl (Nat.le_of_ble_eq_true rfl))<|WOL.ld rfl (load_row tp1628 B8 rfl (Nat.le_of_ble_eq_true rfl))<|WOL.eq1628 rfl rfl ?_
      rw [beq_self_eq_true,beq_self_eq_true,beq_self_eq_true]
      exact WOL.mv rfl<|WOL.now (b:=true) rfl rfl<|WOL.mv rfl<|WOL.now (b:=true) rfl rfl<|WOL.mv rfl<|WOL.now (b:=true) rfl rfl<|WOL.bt rfl rfl rfl (beq_self_eq_true _)<|WOL.pkt rfl rfl<|WOL.as rfl<|WOL.nil<|WL.ret (WL.end_ rfl rfl)
    by_cases e0:EE=0
    · subst e0
      have vd:=valid_of hLv hEE
      have hx0:=vd.n0
      have hx1:=vd.n1
      refine WL.seq<|WL.sr<|WOL.mv rfl<|WOL.bt rfl rfl rfl rfl<|WOL.nil<|WL.yes rfl<|WL.reg<|WOL.ld rfl (load_row tp46 A2 rfl (Nat.le_of_ble_eq_true rfl))<|WOL.ld rfl (load_row tp48 A3 rfl (Nat.le_of_ble_eq_true rfl))<|WOL.cl2 rfl rfl rfl ((k1595 (s:=s) (n:=n) (p:=p) (q:=q) H (r.hx Y10) (by omega) hx0 hx1).mono ?_)
      rintro v h11 ⟨rfl,X11⟩
      refine WOL.as rfl<|WOL.nil<|keep [(2,_),(3,_),(5,_),(6,_),(7,_),(8,_)] ⟨rfl,rfl,rfl,rfl,rfl,rfl,trivial⟩ ?_
      have Y11:=Y10.trans X11
      replace A2:=A2.hx X11;replace A3:=A3.hx X11;replace A5:=A5.hx X11;replace A8:=A8.hx X11
      unfold parE at hM
      unfold parE
      cases hp:partW n F.length p q with
      | false =>
        rw [hp] at hM
        cases hM
        refine WL.seq<|WL.sr<|WOL.mv rfl<|WOL.bf rfl rfl rfl rfl<|WOL.nil<|WL.no rfl<|WL.skip ?_
        exact kto (tail 14 _ A5 A8) ⟨rfl,rfl,rfl,rfl,trivial⟩
      | true =>
        rw [hp] at hM
        obtain ⟨x,N,rfl,rfl,hN⟩:=part_nat hx0 hx1 hp
        replace hM:momL L (knownL S F.length) x N=(m1,m2,m3):=by
          rw [← hM]
          unfold parM
          rw [show (n+(x:Int) - n).toNat=x by omega,show (n+(x:Int)+(N:Int) - (n+(x:Int))).toNat=N by omega]
          rfl
        refine WL.seq<|WL.sr<|WOL.mv rfl<|WOL.bt rfl rfl rfl rfl<|WOL.nil<|WL.yes rfl<|WL.reg<|WOL.ld rfl (load_row tp46 A2 rfl (Nat.le_of_ble_eq_true rfl))<|WOL.ld rfl (load_row tp48 A3 rfl (Nat.le_of_ble_eq_true rfl))<|WOL.cl2 rfl rfl rfl ((k1596 (s:=s) (n:=n) (x:=x) (N:=N) H (r.hx Y11) vd (by omega) hN (f.on Y11)).mono ?_)
        rintro v h12 ⟨rfl,X12⟩
        rw [hM]
        refine WOL.sto (vs:=[zi m1,zi m2,zi m3]) rfl rfl tp1628 (A8.hx X12) rfl rfl (Nat.le_of_ble_eq_true rfl) rfl (f.hx (Y11.trans X12)) (by omega) fun h13 P13=>WOL.nil ?_
        exact kto (tail 0 _ (P13.oth _ _ (by omega) (A5.hx X12)) P13.at_) ⟨rfl,rfl,rfl,rfl,trivial⟩
    · have hP:parE EE n F.length p q=EE:=by unfold parE;rw [bne_iff_ne.2 e0];rfl
      rw [hP] at hM
      rw [hP]
      unfold parM at hM
      rw [bne_iff_ne.2 e0] at hM
      cases hM
      refine WL.seq<|WL.sr<|WOL.mv rfl<|WOL.bf rfl rfl rfl (beq_eq_false_iff_ne.2 e0)<|WOL.nil<|WL.no rfl<|WL.skip ?_
      refine WL.seq<|WL.sr<|WOL.mv rfl<|WOL.bf rfl rfl rfl (beq_eq_false_iff_ne.2 e0)<|WOL.nil<|WL.no rfl<|WL.skip ?_
      exact kto (tail EE _ A5 A8) ⟨rfl,rfl,rfl,rfl,trivial⟩
end
set_option maxRecDepth 100000 in
theorem law1577:Law tpE 3 5 [25,27]:=by
 intro h us f ha
 obtain ⟨x0,x1,rfl,⟨p0,y0,e0⟩,⟨p1,y1,e1⟩⟩:=args2 ha
 rw [val_agg (.inl ⟨_,Tryz.underlying25⟩)] at e0
 rw [val_agg (.inl ⟨_,Tryz.underlying27⟩)] at e1
 obtain ⟨s,n1,v1,v2,F,S,rfl,r1⟩:=ty_run (n:=1) y0
 obtain ⟨⟨a,b⟩,rfl⟩:=ty_span y1
 subst e0 e1
 exact k1577 hasE hasXE awkE r1 f
end Go.Tidy
