/- A part of the proof. -/
import Derived.Test.YtmjflkiiakmbiaaPa5
import Derived.Test.YtmjflkiiakmbiaaPa4
import Derived.Test.YtmjflkiiakmbiaaPa2
import Derived.KernelRfl
set_option linter.all false
namespace Go.Tidy
open Go Go.Proofs Tab
theorem Samp.e0 {b:Nat} {n:Int} (s:Samp b n):SampleE b 0:=by
 obtain ⟨neg,q,h,h2,_⟩:=s.ok
 obtain ⟨m,k,hr,hq,hk⟩:=h
 obtain ⟨D,hD⟩:∃ D:Nat,2 ^ 149 = D:=⟨_,rfl⟩
 have hDp:0 < D:=by rw [← hD];exact two_pow_pos 149
 have e1:=h2 D hD
 have hl:=s.lim
 have hU:m * 2 ^ (k + 4) = n.natAbs * D:=by rw [Nat.pow_add,← Nat.mul_assoc,← e1,hq]
 have ok:okU (m * 2 ^ (k + 4)) = true:=by
  rw [okU_eq hD]
  unfold okD
  rw [hU,decide_eq_true (Nat.mul_le_mul_right D hl),Nat.mul_div_cancel _ hDp]
  simp
 rcases single_cases b with h | ⟨s',h⟩ | ⟨neg',m',k',N⟩
 ·rw [s.nan] at h;cases h
 ·rw [hr] at h;cases h
 ·have e:=hr.symm.trans N.read
  injection e with e1 e2 e3
  obtain rfl:k = k':=by omega
  subst e2
  have:=SampleE.num neg' m k N
  rw [ok] at this
  exact this
theorem serr_zero {F:List Nat} {L:List Int} (h:Lev F L):∃ es,SErr F es ∧ firstNZ es = 0:=by
 refine ⟨List.replicate F.length 0,⟨by simp,fun i b e hb he => ?_⟩,?_⟩
 ·have hi:i < F.length:=(List.getElem?_eq_some_iff.1 hb).1
  have hiL:i < L.length:=by rw [← h.1];exact hi
  have hx:L[i]? = some L[i]:=List.getElem?_eq_getElem hiL
  rw [List.getElem?_replicate,if_pos hi] at he
  cases he
  exact (h.2 i b _ hb hx).e0
 ·have:∀ k,firstNZ (List.replicate k 0) = 0:=by
   intro k
   induction k with
   | zero => rfl
   | succ k ih => rw [List.replicate_succ];show cond ((0:Int) != 0) 0 _ = 0;exact ih
  exact this _
def endOf (prev:Int):List (Int × Int) → Int
 | [] => prev
 | p :: r => endOf p.2 r
theorem endOf_le {i:Int}:∀ (S:List (Int × Int)) (prev:Int),prev ≤ i → (∀ p,p ∈ S → p.2 ≤ i) → endOf prev S ≤ i
 | [],_,h,_ => h
 | x :: r,prev,_,h => endOf_le r x.2 (h x (List.mem_cons_self ..)) fun p hp => h p (List.mem_cons_of_mem _ hp)
theorem holeE_snoc {m:Nat} (p:Int × Int):∀ (S:List (Int × Int)) (prev:Int),holeE m prev (S ++ [p]) = 0 ↔ holeE m prev S = 0 ∧ badS m p = false ∧ endOf prev S < p.1
  | [], prev => by
    show holeE m prev [p] = 0 ↔ _
    rw [holeE_cons]
    cases hb:badS m p with
    | true => simp
    | false =>
      by_cases hc:p.1 ≤ prev
      · rw [decide_eq_true hc]
        simp only [Bool.cond_false,Bool.cond_true,endOf]
        constructor
        · intro h;cases h
        · rintro ⟨_,_,h⟩;omega
      · rw [decide_eq_false hc]
        simp only [Bool.cond_false,endOf]
        exact ⟨fun _ => ⟨by trivial,by trivial,by omega⟩,fun _ => by trivial⟩
  | x :: r,prev => by
    show holeE m prev (x :: (r ++ [p])) = 0 ↔ _
    rw [holeE_cons,holeE_cons]
    cases hb:badS m x with
    | true => simp
    | false =>
      by_cases hc:x.1 ≤ prev
      · rw [decide_eq_true hc];simp
      · rw [decide_eq_false hc]
        exact holeE_snoc p r x.2
theorem badS_no {m:Nat} {p:Int × Int}:badS m p = false ↔ 0 ≤ p.1 ∧ p.1 < p.2 ∧ p.2 ≤ m:=by
 unfold badS
 simp only [Bool.or_eq_false_iff,decide_eq_false_iff_not]
 omega
structure HoleI (B:List Bool) (i:Nat) (S:List (Int × Int)):Prop where
 h0:holeE B.length (-1) S = 0
 hi:∀ p,p ∈ S → p.2 ≤ (i:Int)
 hk:∀ x:Nat,x < i → S.any (inS x) = !B.getD x false
 ho:0 < i ∧ B.getD (i - 1) false = false → ∃ T a,S = T ++ [((a:Int),(i:Int))]
 hc:¬ (0 < i ∧ B.getD (i - 1) false = false) → endOf (-1) S < (i:Int)
theorem inS_past {S:List (Int × Int)} {i:Nat} (h:∀ p,p ∈ S → p.2 ≤ (i:Int)):S.any (inS i) = false:=by
 rw [List.any_eq_false]
 intro p hp
 have:=h p hp
 unfold inS
 rw [decide_eq_false (by omega:¬ (i:Int) < p.2),Bool.and_false]
 decide
theorem holeI (B:List Bool):∀ i,i ≤ B.length → HoleI B i (holesN B i)
  | 0,_ => ⟨rfl,fun p hp => (by cases hp),fun x hx => by omega,fun h => by omega,fun _ => (by show (-1:Int) < 0;decide)⟩
  | i + 1,hle => by
    obtain ⟨h0,hi,hk,ho,hc⟩:=holeI B i (by omega)
    show HoleI B (i + 1) (hstep B (holesN B i) i)
    generalize holesN B i = S at *
    have sub1:i + 1 - 1 = i:=by omega
    unfold hstep
    by_cases hb:B.getD i false = true
    · rw [if_pos hb]
      refine ⟨h0,fun p hp => by have:=hi p hp;omega,fun x hx => ?_,fun h => ?_,fun _ => ?_⟩
      · by_cases hxi:x < i
        · exact hk x hxi
        · obtain rfl:x = i:=by omega
          rw [inS_past hi,hb];rfl
      · rw [sub1,hb] at h;cases h.2
      · have:=endOf_le S (-1) (show (-1:Int) ≤ (i:Int) by omega) hi
        omega
    · have hb':B.getD i false = false:=by simpa using hb
      rw [if_neg hb]
      by_cases hp:0 < i ∧ B.getD (i - 1) false = false
      · rw [if_pos hp]
        obtain ⟨T,a,rfl⟩:=ho hp
        obtain ⟨t0,t1,t2⟩:=(holeE_snoc _ T (-1)).1 h0
        have t1':=badS_no.1 t1
        have hS:(T ++ [(a,(i:Int))]).set ((T ++ [(a,(i:Int))]).length - 1) (((T ++ [(a,(i:Int))]).getD ((T ++ [(a,(i:Int))]).length - 1) (0,0)).1,(i:Int) + 1) = T ++ [(a,((i + 1:Nat):Int))]:=by
          simp
        rw [hS]
        refine ⟨(holeE_snoc _ T (-1)).2 ⟨t0,badS_no.2 ⟨t1'.1,?_,?_⟩,t2⟩,fun p hp => ?_,fun x hx => ?_,fun _ => ⟨T,a,rfl⟩,fun h => ?_⟩
        · have:a < (i:Int):=t1'.2.1
          show a < ((i + 1:Nat):Int)
          omega
        · show ((i + 1:Nat):Int) ≤ _
          omega
        · rcases List.mem_append.1 hp with hp | hp
          · have:=hi p (List.mem_append_left _ hp);omega
          · simp at hp;subst hp;exact Int.le_refl _
        · have ha:a < (i:Int):=t1'.2.1
          by_cases hxi:x < i
          · rw [← hk x hxi,List.any_append,List.any_append]
            congr 1
            simp only [List.any_cons,List.any_nil,Bool.or_false,inS]
            congr 1
            rw [decide_eq_true (by omega:(x:Int) < ((i + 1:Nat):Int)),decide_eq_true (by omega:(x:Int) < (i:Int))]
          · obtain rfl:x = i:=by omega
            rw [hb',List.any_append]
            simp only [List.any_cons,List.any_nil,Bool.or_false,inS]
            rw [decide_eq_true (by omega:(x:Int) ≥ a),decide_eq_true (by omega:(x:Int) < ((x + 1:Nat):Int))]
            simp
        · rw [sub1] at h
          exact absurd ⟨by omega,hb'⟩ h
      · rw [if_neg hp]
        have hc':=hc hp
        refine ⟨(holeE_snoc _ S (-1)).2 ⟨h0,badS_no.2 ⟨by show (0:Int) ≤ (i:Int);omega,by show (i:Int) < (i:Int) + 1;omega,by show (i:Int) + 1 ≤ _;omega⟩,hc'⟩,fun p hp => ?_,fun x hx => ?_,fun _ => ⟨S,(i:Int),rfl⟩,fun h => ?_⟩
        · rcases List.mem_append.1 hp with hp | hp
          · have:=hi p hp;omega
          · simp at hp;subst hp;show (i:Int) + 1 ≤ _;omega
        · rw [List.any_append]
          by_cases hxi:x < i
          · rw [← hk x hxi]
            simp only [List.any_cons,List.any_nil,Bool.or_false,inS]
            rw [decide_eq_false (by omega:¬ (x:Int) ≥ (i:Int))]
            simp
          · obtain rfl:x = i:=by omega
            rw [hb']
            simp only [List.any_cons,List.any_nil,Bool.or_false,inS]
            rw [decide_eq_true (by omega:(x:Int) ≥ (x:Int)),decide_eq_true (by omega:(x:Int) < (x:Int) + 1)]
            simp
        · rw [sub1] at h
          exact absurd ⟨by omega,hb'⟩ h
theorem known_holes (B:List Bool):knownL (holesOf B) B.length = B:=by
 have H:=holeI B B.length (Nat.le_refl _)
 apply List.ext_getElem?
 intro x
 by_cases hx:x < B.length
 ·unfold knownL
  rw [List.getElem?_map,List.getElem?_range hx]
  show some (knownB (holesOf B) x) = _
  unfold knownB
  rw [show (holesOf B).any (inS x) = !B.getD x false from H.hk x hx,Bool.not_not,List.getD_eq_getElem?_getD,List.getElem?_eq_getElem hx]
  rfl
 ·rw [List.getElem?_eq_none (by rw [knownL_len];omega),List.getElem?_eq_none (by omega)]
theorem holes_ok (B:List Bool):holeE B.length (-1) (holesOf B) = 0:=(holeI B B.length (Nat.le_refl _)).h0
def DarkC (C:List (Int × Bool)):Prop:=∀ c,c ∈ C → c.2 = false → c.1 = 0
theorem made_run {s:ByteArray} {n:Int} {C:List (Int × Bool)} (hd:headE s n C.length = 0) (hn:n + C.length ≤ 100000000) (lim:∀ c,c ∈ C → c.1.natAbs ≤ 16384) (dk:DarkC C) :
    ∃ es,SErr (C.map fun c => smp c.1) es ∧ Lev (C.map fun c => smp c.1) (C.map fun c => c.1) ∧ runE s n (C.map fun c => smp c.1).length (holesOf (C.map fun c => c.2)) es (C.map fun c => c.1) = 0 ∧ Valid s n (C.map fun c => smp c.1) (holesOf (C.map fun c => c.2)) (C.map fun c => c.1) ∧ cellsL (C.map fun c => c.1) (holesOf (C.map fun c => c.2)) = C:=by
  have hL:=lev_smp lim
  obtain ⟨es,hE,h0⟩:=serr_zero hL
  have hlen:(C.map fun c => smp c.1).length = C.length:=by simp
  have hlen2:(C.map fun c => c.2).length = C.length:=by simp
  have ho:holeE C.length (-1) (holesOf (C.map fun c => c.2)) = 0:=by have:=holes_ok (C.map fun c => c.2);rwa [hlen2] at this
  have hK:knownL (holesOf (C.map fun c => c.2)) C.length = C.map fun c => c.2:=by have:=known_holes (C.map fun c => c.2);rwa [hlen2] at this
  have hin:=holeE_in ho
  have hform:(holesOf (C.map fun c => c.2)).any (anyIn (C.map fun c => c.1)) = false:=by
    cases hb:(holesOf (C.map fun c => c.2)).any (anyIn (C.map fun c => c.1)) with
    | false => rfl
    | true =>
      obtain ⟨j,x,hj,hx,hk⟩:=(form_iff hin).1 hb
      rw [List.getElem?_map] at hj
      cases hc:C[j]? with
      | none => rw [hc] at hj;cases hj
      | some c =>
        have hjl:j < C.length:=(List.getElem?_eq_some_iff.1 hc).1
        have hkj:(knownL (holesOf (C.map fun c => c.2)) C.length)[j]? = some (knownB (holesOf (C.map fun c => c.2)) j):=by
          unfold knownL
          rw [List.getElem?_map,List.getElem?_range hjl];rfl
        rw [hK,List.getElem?_map,hc,hk] at hkj
        rw [hc] at hj
        exact absurd ((Option.some.inj hj).symm.trans (dk c (List.mem_of_getElem? hc) (Option.some.inj hkj))) hx
  obtain ⟨_,n0,n1,hm⟩:=headE_zero hd
  have hr:runE s n (C.map fun c => smp c.1).length (holesOf (C.map fun c => c.2)) es (C.map fun c => c.1) = 0:=by
    unfold runE tailE formE
    rw [hlen,hd,h0,ho,hform,decide_eq_false (by omega)]
    rfl
  refine ⟨es,hE,hL,hr,valid_of (fun _ => hL) hr,?_⟩
  rw [cells_eq hL (by rw [hlen];exact hin),hlen,hK]
  apply List.ext_getElem?
  intro i
  cases hc:C[i]? with
  | none =>
    have:C.length ≤ i:=List.getElem?_eq_none_iff.1 hc
    rw [List.getElem?_eq_none (by rw [cellsK_ln (by simp)];simp;omega)]
  | some c =>
    rw [cellsK_get (x:=c.1) (p:=c.2) (by rw [List.getElem?_map,hc];rfl) (by rw [List.getElem?_map,hc];rfl)]
    obtain ⟨x,k⟩:=c
    cases k with
    | true => rfl
    | false =>
      have h1:x = 0:=dk _ (List.mem_of_getElem? hc) rfl
      subst h1;rfl
theorem Valid.darkC {s:ByteArray} {n:Int} {F:List Nat} {S:List (Int × Int)} {L:List Int} (V:Valid s n F S L):DarkC (cellsL L S):=by
 rw [V.cells]
 intro c hc hk
 obtain ⟨i,hi,e⟩:=List.getElem_of_mem hc
 have kl:=V.kl
 rw [cellsK_ln kl] at hi
 have hx:L[i]? = some L[i]:=List.getElem?_eq_getElem hi
 have hp:(knownL S F.length)[i]? = some (knownL S F.length)[i]:=List.getElem?_eq_getElem (by omega)
 have hg:=cellsK_get hx hp
 rw [List.getElem?_eq_getElem (by rw [cellsK_ln kl];exact hi),e] at hg
 have:=Option.some.inj hg
 cases hb:(knownL S F.length)[i] with
 | true => rw [hb] at this;rw [this] at hk;cases hk
 | false => rw [hb] at this;rw [this];rfl
end Go.Tidy
namespace Go.Tidy
open Go Go.Proofs Tab
theorem known_no {S:List (Int × Int)} {x:Int}:knownB S x = false ↔ ∃ p,p ∈ S ∧ p.1 ≤ x ∧ x < p.2:=by
 unfold knownB
 rw [Bool.not_eq_false',List.any_eq_true]
 constructor
 ·rintro ⟨p,hp,h⟩
  unfold inS at h
  simp only [Bool.and_eq_true,decide_eq_true_eq] at h
  exact ⟨p,hp,h.1,h.2⟩
 ·rintro ⟨p,hp,h1,h2⟩
  refine ⟨p,hp,?_⟩
  unfold inS
  rw [decide_eq_true h1,decide_eq_true h2];rfl
theorem holeE_tail {m:Nat} {prev:Int} {p:Int × Int} {r:List (Int × Int)} (h:holeE m prev (p :: r) = 0):badS m p = false ∧ prev < p.1 ∧ holeE m p.2 r = 0:=by
 rw [holeE_cons] at h
 cases hb:badS m p with
 | true => rw [hb] at h;cases h
 | false =>
  rw [hb] at h
  by_cases hc:p.1 ≤ prev
  ·rw [decide_eq_true hc] at h;cases h
  ·rw [decide_eq_false hc] at h
   exact ⟨rfl,by omega,h⟩
theorem known_tail {p:Int × Int} {r:List (Int × Int)} {x:Int} (hx:p.2 ≤ x):knownB (p :: r) x = knownB r x:=by
 unfold knownB
 rw [List.any_cons]
 unfold inS
 rw [decide_eq_false (by omega:¬ x < p.2),Bool.and_false,Bool.false_or]
theorem holes_first {m:Nat} {prev:Int} {p:Int × Int} {r:List (Int × Int)} (h:holeE m prev (p :: r) = 0) {x:Int} (hx:knownB (p :: r) x = false):p.1 ≤ x:=by
 obtain ⟨q,hq,h1,_⟩:=known_no.1 hx
 obtain ⟨b,_,t⟩:=holeE_tail h
 have:=badS_no.1 b
 rcases List.mem_cons.1 hq with rfl | hq
 ·exact h1
 ·have:=holeE_after t q hq
  omega
theorem holes_end {m:Nat} {prev:Int} {p:Int × Int} {r:List (Int × Int)} (h:holeE m prev (p :: r) = 0):knownB (p :: r) p.2 = true:=by
 cases hb:knownB (p :: r) p.2 with
 | true => rfl
 | false =>
  rw [known_tail (Int.le_refl _)] at hb
  obtain ⟨q,hq,h1,_⟩:=known_no.1 hb
  have:=holeE_after (holeE_tail h).2.2 q hq
  omega
theorem holes_uniq {m:Nat}:∀ {S T:List (Int × Int)} {prev:Int},-1 ≤ prev → holeE m prev S = 0 → holeE m prev T = 0 → (∀ x:Nat,prev < (x:Int) → knownB S x = knownB T x) → S = T
  | [],[],_,_,_,_,_ => rfl
  | [],q :: t,prev,h0,_,hT,h => by
    obtain ⟨b,a,_⟩:=holeE_tail hT
    have b':=badS_no.1 b
    obtain ⟨x,hx⟩:=Int.eq_ofNat_of_zero_le b'.1
    have h1:=h x (by omega)
    rw [show knownB (q :: t) (x:Int) = false from known_no.2 ⟨q,List.mem_cons_self ..,by omega,by omega⟩] at h1
    cases h1
  | p :: r,[],prev,h0,hS,_,h => by
    obtain ⟨b,a,_⟩:=holeE_tail hS
    have b':=badS_no.1 b
    obtain ⟨x,hx⟩:=Int.eq_ofNat_of_zero_le b'.1
    have h1:=h x (by omega)
    rw [show knownB (p :: r) (x:Int) = false from known_no.2 ⟨p,List.mem_cons_self ..,by omega,by omega⟩] at h1
    cases h1
  | p :: r,q :: t,prev,h0,hS,hT,h => by
    obtain ⟨b,a,tS⟩:=holeE_tail hS
    obtain ⟨c,d,tT⟩:=holeE_tail hT
    have b':=badS_no.1 b
    have c':=badS_no.1 c
    obtain ⟨p1,p2⟩:=p
    obtain ⟨q1,q2⟩:=q
    simp only at b' c' a d
    obtain ⟨x,rfl⟩:=Int.eq_ofNat_of_zero_le b'.1
    obtain ⟨y,rfl⟩:=Int.eq_ofNat_of_zero_le c'.1
    obtain ⟨u,rfl⟩:=Int.eq_ofNat_of_zero_le (show 0 ≤ p2 by omega)
    obtain ⟨v,rfl⟩:=Int.eq_ofNat_of_zero_le (show 0 ≤ q2 by omega)
    have e1:(y:Int) ≤ x:=holes_first hT (x:=(x:Int)) (by rw [← h x a];exact known_no.2 ⟨_,List.mem_cons_self ..,Int.le_refl _,b'.2.1⟩)
    have e2:(x:Int) ≤ y:=holes_first hS (x:=(y:Int)) (by rw [h y d];exact known_no.2 ⟨_,List.mem_cons_self ..,Int.le_refl _,c'.2.1⟩)
    obtain rfl:x = y:=by omega
    have f1:¬ (u:Int) < v:=fun hl => by
      have:=h u (by omega)
      rw [show knownB (((x:Int),(u:Int)) :: r) (u:Int) = true from holes_end hS,show knownB (((x:Int),(v:Int)) :: t) (u:Int) = false from known_no.2 ⟨_,List.mem_cons_self ..,by show (x:Int) ≤ u;omega,hl⟩] at this
      cases this
    have f2:¬ (v:Int) < u:=fun hl => by
      have:=h v (by omega)
      rw [show knownB (((x:Int),(v:Int)) :: t) (v:Int) = true from holes_end hT,show knownB (((x:Int),(u:Int)) :: r) (v:Int) = false from known_no.2 ⟨_,List.mem_cons_self ..,by show (x:Int) ≤ v;omega,hl⟩] at this
      cases this
    obtain rfl:u = v:=by omega
    congr 1
    refine holes_uniq (prev:=(u:Int)) (by omega) tS tT fun z hz => ?_
    have:=h z (by omega)
    rwa [known_tail (by show (u:Int) ≤ z;omega),known_tail (by show (u:Int) ≤ z;omega)] at this
theorem known_past {m:Nat} {S:List (Int × Int)} (hin:In m S) {x:Int} (hx:(m:Int) ≤ x):knownB S x = true:=by
 cases hb:knownB S x with
 | true => rfl
 | false =>
  obtain ⟨p,hp,h1,h2⟩:=known_no.1 hb
  have:=(hin p hp).2.2
  omega
theorem knownL_get {S:List (Int × Int)} {m i:Nat} (hi:i < m):(knownL S m)[i]? = some (knownB S i):=by
 unfold knownL
 rw [List.getElem?_map,List.getElem?_range hi];rfl
theorem holesOf_get {K:List Bool} {i:Nat} (hi:i < K.length):K[i]? = some (knownB (holesOf K) i):=by
 have:=knownL_get (S:=holesOf K) hi
 rwa [known_holes] at this
theorem holes_back {m:Nat} {S:List (Int × Int)} (h:holeE m (-1) S = 0):holesOf (knownL S m) = S:=by
 have hl:=knownL_len S m
 have h2:=holes_ok (knownL S m)
 rw [hl] at h2
 refine holes_uniq (Int.le_refl _) h2 h fun x _ => ?_
 by_cases hx:x < m
 ·have e1:=holesOf_get (K:=knownL S m) (i:=x) (by omega)
  rw [knownL_get hx] at e1
  exact (Option.some.inj e1).symm
 ·rw [known_past (holeE_in h2) (by omega),known_past (holeE_in h) (by omega)]
end Go.Tidy
namespace Go.Tidy
open Go Go.Proofs Tab
variable {tp:TProg}
theorem JoinR.out {h h':TH} {v:Value} {s:ByteArray} {n:Int} {Z:List Int} {Y:List Bool} {e:Int} (r:JoinR h h' v s n Z Y e):∃ sz nz bo1 l1 k1 bo2 l2 k2,v = .tuple #[runV sz nz (.slice bo1 l1 k1) (.slice bo2 l2 k2),.int .i64 e] ∧ HX h h' ∧ (e ≠ 0 → (Value.slice bo1 l1 k1 = .slice none 0 0 ∧ Value.slice bo2 l2 k2 = .slice none 0 0)) ∧ (e = 0 → (sz = s ∧ nz = n) ∧ RunO h.next h' (.slice bo1 l1 k1) (.slice bo2 l2 k2) (madeF Z Y) (holesOf Y)):=by
 obtain ⟨X,⟨he,rfl⟩ | ⟨rfl,w1,w2,rfl,O⟩⟩:=r
 ·exact ⟨_,_,_,_,_,_,_,_,rfl,X,fun _ => ⟨rfl,rfl⟩,fun h => absurd h he⟩
 ·obtain ⟨bo1,k1,rfl⟩:=O.r.f.form
  obtain ⟨bo2,k2,rfl⟩:=O.r.s.form
  exact ⟨_,_,_,_,_,_,_,_,rfl,X,fun h => absurd rfl h,fun _ => ⟨⟨rfl,rfl⟩,O⟩⟩
theorem SumR.out {h h':TH} {v:Value} {s:ByteArray} {n:Int} {Z:List Int} {Y:List Bool} {sh:Bool} (hY:sh = true → Y.length = Z.length) (r:SumR h h' v s n Z Y sh):JoinR h h' v s n Z Y (cond (!sh) 2 (cond (allOk (cellsK Z Y)) 0 4)):=by
 obtain ⟨X,⟨rfl,rfl⟩ | ⟨rfl,no,rfl⟩ | ⟨rfl,ok,w1,w2,rfl,O⟩⟩:=r
 ·exact ⟨X,.inl ⟨by simp,rfl⟩⟩
 ·have:allOk (cellsK Z Y) = false:=by
   cases hb:allOk (cellsK Z Y) with
   | false => rfl
   | true => exact absurd ((ok_cells (hY rfl)).1 hb) no
  rw [this]
  exact ⟨X,.inl ⟨by decide,rfl⟩⟩
 ·rw [(ok_cells (hY rfl)).2 ok]
  exact ⟨X,.inr ⟨rfl,w1,w2,rfl,O⟩⟩
end Go.Tidy
namespace Go.Tidy
open Go Go.Proofs Tab
variable {tp:TProg}
structure Cel (s:ByteArray) (n:Int) (F:List Nat) (es:List Int) (C:List (Int × Bool)):Prop where
 len:F.length = C.length
 e:SErr F es
 lev:Lev F (C.map fun c => c.1)
 r:runE s n F.length (holesOf (C.map fun c => c.2)) es (C.map fun c => c.1) = 0
 v:Valid s n F (holesOf (C.map fun c => c.2)) (C.map fun c => c.1)
 c:cellsL (C.map fun c => c.1) (holesOf (C.map fun c => c.2)) = C
def RunC (s:ByteArray) (n:Int) (h:TH) (v1 v2:Value) (C:List (Int × Bool)):Prop:=∃ F es,RunH h v1 v2 F (holesOf (C.map fun c => c.2)) ∧ Cel s n F es C
theorem RunC.hx {s:ByteArray} {n:Int} {h h':TH} {v1 v2:Value} {C:List (Int × Bool)} (r:RunC s n h v1 v2 C) (x:HX h h'):RunC s n h' v1 v2 C:=by
 obtain ⟨F,es,r,c⟩:=r
 exact ⟨F,es,r.hx x,c⟩
section
variable {s:ByteArray} {n:Int} {F:List Nat} {es L:List Int} {S:List (Int × Int)} {C:List (Int × Bool)}
theorem Cel.m (c:Cel s n F es C):C.length ≤ 4096:=by have:=c.v.m;rw [c.len] at this;exact this
theorem Cel.lim (c:Cel s n F es C):∀ x,x ∈ C → x.1.natAbs ≤ 16384:=by have:=c.v.lim;rwa [c.c] at this
theorem Cel.dk (c:Cel s n F es C):DarkC C:=by have:=c.v.darkC;rwa [c.c] at this
theorem Cel.holes (_:Cel s n F es C):(holesOf (C.map fun c => c.2)).length ≤ C.length:=by
 have:=holesN_len (C.map fun c => c.2) (C.map fun c => c.2).length
 show (holesN _ _).length ≤ _
 rwa [List.length_map] at this ⊢
theorem Cel.head (c:Cel s n F es C):headE s n C.length = 0:=by
 have:=c.r
 unfold runE at this
 rw [c.len] at this
 rcases nz_cases (headE s n C.length) with h | h
 ·exact h
 ·rw [h] at this;rw [show headE s n C.length = 0 from this] at h;cases h
theorem Cel.top (c:Cel s n F es C):n + C.length ≤ 100000000:=by have:=c.v.n1;rw [c.len] at this;exact this
theorem Valid.back (V:Valid s n F S L):((cellsL L S).map fun c => c.1) = L ∧ holesOf ((cellsL L S).map fun c => c.2) = S:=by
 have kl:=V.kl
 have ll:=V.lev.1
 constructor
 ·apply List.ext_getElem?
  intro i
  rw [List.getElem?_map]
  by_cases hi:i < F.length
  ·obtain ⟨k,hk⟩:=V.cell hi
   rw [hk,List.getElem?_eq_getElem (by omega:i < L.length)]
   simp [List.getD_eq_getElem?_getD,List.getElem?_eq_getElem (by omega:i < L.length)]
  ·rw [List.getElem?_eq_none (by rw [cells_len V.lev V.in_];omega),List.getElem?_eq_none (by omega)]
   rfl
 ·rw [V.cells,cellsK_snd kl,holes_back V.hole]
theorem Cel.of (V:Valid s n F S L) (hE:SErr F es) (h0:runE s n F.length S es L = 0):Cel s n F es (cellsL L S):=by
 obtain ⟨b1,b2⟩:=V.back
 refine ⟨(cells_len V.lev V.in_).symm,hE,by rw [b1];exact V.lev,by rw [b1,b2];exact h0,by rw [b1,b2];exact V,by rw [b1,b2]⟩
theorem Cel.made (hd:headE s n C.length = 0) (hn:n + C.length ≤ 100000000) (lim:∀ c,c ∈ C → c.1.natAbs ≤ 16384) (dk:DarkC C):∃ es,Cel s n (C.map fun c => smp c.1) es C:=by
 obtain ⟨es,e1,e2,e3,e4,e5⟩:=made_run hd hn lim dk
 exact ⟨es,by simp,e1,e2,e3,e4,e5⟩
theorem RunO.cel {B:Nat} {h:TH} {w1 w2:Value} (o:RunO B h w1 w2 (C.map fun c => smp c.1) (holesOf (C.map fun c => c.2))) (hd:headE s n C.length = 0) (hn:n + C.length ≤ 100000000) (lim:∀ c,c ∈ C → c.1.natAbs ≤ 16384) (dk:DarkC C):RunC s n h w1 w2 C:=by
 obtain ⟨es,c⟩:=Cel.made hd hn lim dk
 exact ⟨_,es,o.r,c⟩
end
section
variable {s:ByteArray} {n:Int} {h:TH} {v1 v2 w1 w2:Value} {C D:List (Int × Bool)}
def NewC (s:ByteArray) (n:Int) (C:List (Int × Bool)) (h:TH) (v:Value) (h':TH):Prop :=
 ∃ bo1 l1 k1 bo2 l2 k2,v = .tuple #[runV s n (.slice bo1 l1 k1) (.slice bo2 l2 k2),.int .i64 0] ∧ HX h h' ∧ RunC s n h' (.slice bo1 l1 k1) (.slice bo2 l2 k2) C ∧ Above h.next (.slice bo1 l1 k1) ∧ Above h.next (.slice bo2 l2 k2)
theorem RunR.new {h':TH} {v:Value} (r:RunR h h' v s n C 0) (hd:headE s n C.length = 0) (hn:n + C.length ≤ 100000000) (lim:∀ c,c ∈ C → c.1.natAbs ≤ 16384) (dk:DarkC C):NewC s n C h v h':=by
 obtain ⟨X,⟨he,_⟩ | ⟨_,w1,w2,rfl,O⟩⟩:=r
 ·exact absurd rfl he
 ·obtain ⟨bo1,k1,rfl⟩:=O.r.f.form
  obtain ⟨bo2,k2,rfl⟩:=O.r.s.form
  exact ⟨_,_,_,_,_,_,rfl,X,O.cel hd hn lim dk,O.o1,O.o2⟩
theorem c31 (H:Has tp) (r:RunC s n h v1 v2 C):CallW Try.prog tp (.func (.func 16) #[] #[]) #[runV s n v1 v2] h fun v h' => v = .int .i64 0 ∧ HX h h':=by
 obtain ⟨F,es,r,c⟩:=r
 have m:=c.m
 have l:=c.len
 have q:=c.holes
 refine (k31 H r c.e (fun _ => c.lev) (by omega) (by omega)).mono ?_
 rintro v h' ⟨rfl,x⟩
 rw [c.r]
 exact ⟨rfl,x⟩
theorem c28 (H:Has tp) (X:HasX tp) (r:RunC s n h v1 v2 C) (f:Free0 h.next h):CallW Try.prog tp (.func (.func 11) #[] #[]) #[runV s n v1 v2] h fun v h' => NewC s n C.reverse h v h':=by
 obtain ⟨F,es,r,c⟩:=r
 have m:=c.m
 have l:=c.len
 have q:=c.holes
 refine (k28 H X r c.e (fun _ => c.lev) (by omega) (by omega) f).mono ?_
 intro v h' R
 rw [c.r,c.c] at R
 exact R.new (by rw [List.length_reverse];exact c.head) (by rw [List.length_reverse];exact c.top) (fun x hx => c.lim x (List.mem_reverse.1 hx)) (fun x hx => c.dk x (List.mem_reverse.1 hx))
theorem c24 (H:Has tp) (X:HasX tp) {place:Int} (r:RunC s n h v1 v2 C) (h1:n ≤ place) (h2:place < n + C.length) (f:Free0 h.next h):CallW Try.prog tp (.func (.func 9) #[] #[]) #[runV s n v1 v2,.int .i64 place] h fun v h' => v = .tuple #[.float .f32 (smp (C.getD (place - n).toNat (0,false)).1),.bool (C.getD (place - n).toNat (0,false)).2,.int .i64 0] ∧ HX h h':=by
 obtain ⟨F,es,r,c⟩:=r
 have m:=c.m
 have l:=c.len
 have q:=c.holes
 refine (k24 H X r c.e (fun _ => c.lev) (by omega) (by omega) f).mono ?_
 rintro v h' ⟨rfl,x⟩
 refine ⟨?_,x⟩
 unfold atV
 rw [c.r,c.c,decide_eq_false (by omega),decide_eq_false (by rw [l];omega)]
 rfl
end
end Go.Tidy
namespace Go.Tidy
open Go Go.Proofs Tab
variable {tp:TProg}
theorem u91:Try.prog.underlying 30 = some (.int .i8):=by kernel_rfl
theorem u92:Try.prog.underlying 31 = some (.array 3 30):=by kernel_rfl
theorem tp91:Tp Try.prog 30 1 [.int .i8 0] false:=tp_of (by kernel_rfl) (by kernel_rfl) rfl
end Go.Tidy
namespace Go.Tidy
open Go Go.Proofs Tab
variable {tp:TProg}
theorem headE_of {s:ByteArray} {n:Int} {m:Nat} (h1:nameB s = true) (h2:0 ≤ n) (h3:n ≤ 100000000) (h4:m ≤ 4096):headE s n m = 0:=by
 unfold headE outB
 rw [h1,decide_eq_false (by omega:¬ n < 0),decide_eq_false (by omega:¬ n > 100000000),decide_eq_false (by omega:¬ (m:Int) > 4096)]
 rfl
section
variable {s s':ByteArray} {n n':Int} {h:TH} {v1 v2 w1 w2:Value} {C D:List (Int × Bool)}
theorem joinC_len (h1:n + C.length ≤ n'):((joinC n n' C D).length:Int) = n' + D.length - n:=by
 unfold joinC
 simp
 omega
theorem joinC_mem {c:Int × Bool} (h:c ∈ joinC n n' C D):c ∈ C ∨ c = (0,false) ∨ c ∈ D:=by
 unfold joinC at h
 simp only [List.mem_flatten,List.mem_cons,List.not_mem_nil,or_false] at h
 obtain ⟨l,rfl | rfl | rfl,hc⟩:=h
 ·exact .inl hc
 ·exact .inr (.inl (List.mem_replicate.1 hc).2)
 ·exact .inr (.inr hc)
theorem c49 (H:Has tp) (X:HasX tp) (h1:n + C.length ≤ n') (h2:n' + D.length - n ≤ 4096) (r:RunC s n h v1 v2 C) (r':RunC s' n' h w1 w2 D) (f:Free0 h.next h):CallW Try.prog tp (.func (.func 15) #[] #[]) #[runV s n v1 v2,runV s' n' w1 w2] h fun v h' => NewC s n (joinC n n' C D) h v h':=by
 obtain ⟨F,es,r,c⟩:=r
 obtain ⟨F',es',r',c'⟩:=r'
 have m:=c.m
 have l:=c.len
 have q:=c.holes
 have m':=c'.m
 have l':=c'.len
 have q':=c'.holes
 have n1:=c'.top
 obtain ⟨e1,e2,e3,_⟩:=headE_zero c.head
 refine (k49 H X r r' c.e (fun _ => c.lev) c'.e (fun _ => c'.lev) (by omega) (by omega) (by omega) (by omega) f).mono ?_
 intro v h' R
 have ho:joinErr 0 0 n F.length n' F'.length = 0:=by
  unfold joinErr joinE
  rw [l,l',decide_eq_false (by omega:¬ n' < n + C.length),decide_eq_false (by omega:¬ n' + D.length - n > 4096)]
  rfl
 rw [c.r,c.c,c'.r,c'.c,ho] at R
 have jl:=joinC_len (D:=D) h1
 refine R.new (headE_of e1 e2 e3 (by omega)) (by omega) (fun x hx => ?_) (fun x hx hk => ?_)
 ·rcases joinC_mem hx with h | rfl | h
  ·exact c.lim x h
  ·decide
  ·exact c'.lim x h
 ·rcases joinC_mem hx with h | rfl | h
  ·exact c.dk x h hk
  ·rfl
  ·exact c'.dk x h hk
end
end Go.Tidy
namespace Go.Tidy
open Go Go.Proofs Tab
variable {tp:TProg}
section
variable {P:Program} {h:TH} {K:Regs → TH → Prop} {rest:List TOper} {d:Option Tmp} {ty:TypeId} {i:Nat} {x y:Operand} {t u:TypeId} {L:Rg}
theorem WO.neb {a:Regs} {b c:Bool} (hu:P.underlying t = some .bool) (hx:getO a x = some (.bool b)) (hy:getO a y = some (.bool c)) (w:WO P tp rest (a.put d (.bool (b != c))) h K):WO P tp (⟨d,.binOp .neq t x y u,ty,none,[],i⟩ :: rest) a h K:=by
  have ex:=getO_eval hx
  have ey:=getO_eval hy
  refine WO.plainly rfl rfl rfl (by simp [fastOp,fastBin,ex,ey]) (by simp [valueOp,ex,ey,eqT_bool]) (plainOp_of (by rfl) (fun q hq => ?_) ?_ rfl) w
  · simp only [Op.operands] at hq
    simp at hq
    rcases hq with rfl | rfl
    · rw [ex];rfl
    · rw [ey];rfl
  · show pv P (execOp a.eval ⟨d, .binOp .neq t x y u, ty, "", #[], none⟩) = _
    simp [execOp,pv_bind,pv_map,pv_pure,ex,ey,eqGuard,binOp,pv_eqb hu]
    cases b <;> cases c <;> rfl
theorem WOL.neb {b c:Bool} (hu:P.underlying t = some .bool) (hx:getL L x = some (.bool b)) (hy:getL L y = some (.bool c)) (w:∀ a,Kn (putL L d (.bool (b != c))) a → WO P tp rest a h K):∀ a,Kn L a → WO P tp (⟨d,.binOp .neq t x y u,ty,none,[],i⟩ :: rest) a h K:=fun a k => WO.neb hu (k.o hx) (k.o hy) (w _ (k.put d _))
theorem WOL.fne {b c:Nat} {m n:Int} (s:Samp b m) (s':Samp c n) (hx:getL L x = some (.float .f32 b)) (hy:getL L y = some (.float .f32 c)) (w:∀ a,Kn (putL L d (.bool (!decide (m = n)))) a → WO P tp rest a h K):∀ a,Kn L a → WO P tp (⟨d,.binOp .neq t x y u,ty,none,[],i⟩ :: rest) a h K:=fun a k => WO.fcmp (k.o hx) (k.o hy) s.nan s'.nan (s.cmp s').2 (w _ (k.put d _))
end
section
variable {s:ByteArray} {n:Int} {g:TH} {v1 v2 p1 p2:Value} {C:List (Int × Bool)} {c2 c3 c5':Nat}
end
end Go.Tidy
namespace Go.Tidy
open Go Go.Proofs Tab
variable {tp:TProg}
section
variable {s:ByteArray} {n:Int} {g:TH} {v1 v2 p1 p2:Value} {C:List (Int × Bool)} {c2 c3 c5':Nat}
theorem RunC.relock (r:RunC s n g v1 v2 C) (M:List Nat):RunC s n (g.withLock M) v1 v2 C:=by
 obtain ⟨F,es,r,c⟩:=r
 exact ⟨F,es,r.relock' M,c⟩
theorem RunC.small (r:RunC s n g v1 v2 C):C.length ≤ 4096 ∧ 0 ≤ n ∧ n + C.length ≤ 100000000 ∧ DarkC C ∧ ∀ x,x ∈ C → x.1.natAbs ≤ 16384:=by
 obtain ⟨F,es,r,c⟩:=r
 exact ⟨c.m,c.v.n0,c.top,c.dk,c.lim⟩
end
attribute [local irreducible] Ty valOf
theorem i8_in {z:Int} (h:(Lit.int .i8 z).wf = true):-128 ≤ z ∧ z ≤ 127:=by
 have h:(decide (IntKind.i8.min ≤ z) && decide (z ≤ IntKind.i8.max)) = true:=h
 have e1:IntKind.i8.min = -128:=by decide
 have e2:IntKind.i8.max = 127:=by decide
 rw [e1,e2] at h
 simpa using h
end Go.Tidy
namespace Go.Tidy
open Go Go.Proofs Tab
variable {tp:TProg}
theorem RunC.away {s:ByteArray} {n:Int} {h h':TH} {v1 v2:Value} {C:List (Int × Bool)} {n0 c:Nat} {x:TB} (r:RunC s n h v1 v2 C) (a1:Above n0 v1) (a2:Above n0 v2) (p:Put h h' c x) (hc:c < n0):RunC s n h' v1 v2 C:=by
 obtain ⟨F,es,r,q⟩:=r
 exact ⟨F,es,(RunO.away (n0:=n0) ⟨r,a1,a2⟩ p hc).r,q⟩
theorem u5:Try.prog.underlying 5 = some (.int .u8):=by kernel_rfl
theorem tp5:Tp Try.prog 5 1 [.int .u8 0] false:=tp_of (by kernel_rfl) (by kernel_rfl) rfl
theorem WOL.convU {P:Program} {tp:TProg} {h:TH} {K:Regs → TH → Prop} {rest:List TOper} {d:Option Tmp} {ty:TypeId} {i:Nat} {x:Operand} {L:Rg} {s t:TypeId} {ds:TypeDesc} {k:IntKind} {n:Int} (hs:P.underlying s = some ds) (ht:P.underlying t = some (.int .i64)) (hx:getL L x = some (.int k n)) (h1:0 ≤ n) (h2:n ≤ 255) (w:∀ a,Kn (putL L d (.int .i64 n)) a → WO P tp rest a h K):∀ a,Kn L a → WO P tp (⟨d,.convert s t x,ty,none,[],i⟩ :: rest) a h K:=fun a q => by
 refine WO.conv (q.o hx) rfl (conv_i2i hs ht) rfl ?_
 rw [show IntKind.i64.wrap n = n from IntWalk.i64_in _ (by omega)]
 exact w _ (q.put d _)
section
variable {s:ByteArray} {n:Int} {g:TH} {v1 v2:Value} {C:List (Int × Bool)} {c2 c3:Nat}
end
end Go.Tidy
namespace Go.Tidy
open Go Go.Proofs Tab
variable {tp:TProg}
section
variable {s:ByteArray} {n:Int} {g:TH} {v1 v2:Value} {C:List (Int × Bool)} {c2 c3:Nat}
theorem RunC.samp (r:RunC s n g v1 v2 C):∃ F:List Nat,F.length = C.length ∧ SlL encF 1 g v1 F ∧ ∀ (i b:Nat) (c:Int × Bool),F[i]? = some b → C[i]? = some c → Samp b c.1:=by
 obtain ⟨F,es,r,q⟩:=r
 exact ⟨F,q.len,r.f,fun i b c hb hc => q.lev.2 i b c.1 hb (by rw [List.getElem?_map,hc];rfl)⟩
end
end Go.Tidy
namespace Go.Tidy
open Go Go.Proofs Tab
variable {tp:TProg}
theorem Samp.order {b c:Nat} {n m:Int} (s:Samp b n) (t:Samp c m):Ieee.single.order b c = some (compare n m):=by
 obtain ⟨neg,q,h1,h2,h3⟩:=s.ok
 obtain ⟨neg',q',g1,g2,g3⟩:=t.ok
 obtain ⟨D,hD⟩:∃ D:Nat,2 ^ 149 = D:=⟨_,rfl⟩
 have hDp:0 < D:=by rw [← hD];exact two_pow_pos 149
 have e1:=h2 D hD
 have e2:=g2 D hD
 have a1:sg neg q * (16:Nat) = n * (D:Nat):=by rw [← sg_mul,e1,sg_mul,h3]
 have a2:sg neg' q' * (16:Nat) = m * (D:Nat):=by rw [← sg_mul,e2,sg_mul,g3]
 rw [h1.order g1]
 generalize sg neg q = x at *
 generalize sg neg' q' = y at *
 have hDi:(0:Int) < (D:Int):=by omega
 have hlt:x < y ↔ n < m:=by
  constructor
  ·intro hq
   have:n * (D:Int) < m * (D:Int):=by rw [← a1,← a2];omega
   exact Int.lt_of_mul_lt_mul_right this (by omega)
  ·intro hq
   have:n * (D:Int) < m * (D:Int):=Int.mul_lt_mul_of_pos_right hq hDi
   rw [← a1,← a2] at this
   omega
 have heq:x = y ↔ n = m:=by
  constructor
  ·intro hq
   rw [hq,a2] at a1
   exact (Int.eq_of_mul_eq_mul_right (by omega) a1).symm
  ·intro hq
   rw [hq,← a2] at a1
   omega
 congr 1
 show compareOfLessAndEq _ _ = compareOfLessAndEq _ _
 unfold compareOfLessAndEq
 simp only [hlt,heq]
section
variable {P:Program} {h:TH} {K:Regs → TH → Prop} {rest:List TOper} {d:Option Tmp} {ty:TypeId} {i:Nat} {x y:Operand} {t u:TypeId} {L:Rg}
end
end Go.Tidy
namespace Go.Tidy
open Go Go.Proofs Tab
variable {tp:TProg}
theorem WOL.si {P:Program} {tp:TProg} {h:TH} {K:Regs → TH → Prop} {rest:List TOper} {d:Option Tmp} {ty:TypeId} {i:Nat} {x y:Operand} {t:TypeId} {L:Rg} {s:ByteArray} {k:IntKind} {j:Nat} (hx:getL L x = some (.string s)) (hy:getL L y = some (.int k (j:Nat))) (hu:P.underlying t = some .string) (hj:j < s.size) (w:∀ a,Kn (putL L d (.int .u8 (s[j].toNat:Nat))) a → WO P tp rest a h K):∀ a,Kn L a → WO P tp (⟨d,.index t x y,ty,none,[],i⟩ :: rest) a h K:=fun a q => WO.si (q.o hx) (q.o hy) hu hj (w _ (q.put d _))
end Go.Tidy
namespace Go.Tidy
open Go Go.Proofs Tab
variable {tp:TProg}
section
variable {P:Program} {h:TH} {K:Regs → TH → Prop} {rest:List TOper} {d:Option Tmp} {ty:TypeId} {i:Nat} {x y:Operand} {t u:TypeId} {L:Rg}
theorem pv_shl {n:Int} {s:Nat} {yk:IntKind} {t:TypeId} (hs:s ≤ 64) (h1:-9223372036854775808 ≤ n * 2 ^ s) (h2:n * 2 ^ s ≤ 9223372036854775807):pv P (binOp .shl t (.int .i64 n) (.int yk (s:Nat))) = some (.int .i64 (n * 2 ^ s)):=by
 show pv P (Op.shift .shl .i64 n yk s) = _
 unfold Op.shift
 rw [if_neg (by omega)]
 show some (Value.int .i64 (IntKind.i64.wrap (n * 2 ^ (min (s:Int).toNat IntKind.i64.bits)))) = _
 have e:min (s:Int).toNat IntKind.i64.bits = s:=by
  have:IntKind.i64.bits = 64:=rfl
  rw [this];omega
 rw [e,IntWalk.i64_in _ (by omega)]
theorem pv_shr {n:Int} {s:Nat} {yk:IntKind} {t:TypeId} (hs:s ≤ 64) (h0:0 ≤ n):pv P (binOp .shr t (.int .i64 n) (.int yk (s:Nat))) = some (.int .i64 (n / 2 ^ s)):=by
 show pv P (Op.shift .shr .i64 n yk s) = _
 unfold Op.shift
 rw [if_neg (by omega)]
 show some (Value.int .i64 (n.fdiv (2 ^ (min (s:Int).toNat IntKind.i64.bits)))) = _
 have e:min (s:Int).toNat IntKind.i64.bits = s:=by
  have:IntKind.i64.bits = 64:=rfl
  rw [this];omega
 rw [e,Int.fdiv_eq_ediv_of_nonneg _ (Int.le_of_lt (Int.pow_pos (by decide)))]
theorem pv_or {a b:Nat} {t:TypeId} (ha:256 * a + b < 2 ^ 62) (hb:b < 256):pv P (binOp .or t (.int .i64 ((256 * a:Nat):Int)) (.int .i64 (b:Nat))) = some (.int .i64 ((256 * a + b:Nat):Int)):=by
 have e:(BitVec.ofInt 64 ((256 * a:Nat):Int) ||| BitVec.ofInt 64 (b:Int)).toNat = 256 * a + b:=by
  have e1:BitVec.ofInt 64 ((256 * a:Nat):Int) = BitVec.ofNat 64 (256 * a):=BitVec.ofInt_natCast ..
  have e2:BitVec.ofInt 64 (b:Int) = BitVec.ofNat 64 b:=BitVec.ofInt_natCast ..
  rw [e1,e2,BitVec.toNat_or,BitVec.toNat_ofNat,BitVec.toNat_ofNat,Nat.mod_eq_of_lt (by omega),Nat.mod_eq_of_lt (by omega)]
  have:=Nat.shiftLeft_add_eq_or_of_lt (b:=b) (i:=8) (by omega) a
  rw [Nat.shiftLeft_eq] at this
  rw [show 256 * a = a * 2 ^ 8 by omega,← this]
 show pv P (pure (Value.int .i64 (IntKind.i64.wrap ((BitVec.ofInt 64 ((256 * a:Nat):Int) ||| BitVec.ofInt 64 (b:Int)).toNat:Nat)))) = _
 rw [e,IntWalk.i64_in _ (by omega)]
 rfl
theorem WOL.pbin {op:BinOp} {vx vy v:Value} (hx:getL L x = some vx) (hy:getL L y = some vy) (px:plain vx = true) (py:plain vy = true) (hf:fastBin op vx vy = none) (hq:op ≠ .eql ∧ op ≠ .neq) (hv:pv P (binOp op t vx vy) = some v) (hp:plain v = true) (w:∀ a,Kn (putL L d v) a → WO P tp rest a h K):∀ a,Kn L a → WO P tp (⟨d,.binOp op t x y u,ty,none,[],i⟩ :: rest) a h K:=fun a k => by
 have ex:=getO_eval (k.o hx)
 have ey:=getO_eval (k.o hy)
 refine WO.plainly rfl rfl rfl (by simp only [fastOp,ex,ey];exact hf) (by cases op <;> first | rfl | exact absurd rfl hq.1 | exact absurd rfl hq.2) (plainOp_of (by rfl) (fun q hq => ?_) ?_ hp) (w _ (k.put d _))
 ·simp only [Op.operands] at hq
  simp at hq
  rcases hq with rfl | rfl
  ·rw [ex];exact px
  ·rw [ey];exact py
 ·have e:eqGuard op t x y vx vy = (pure ():Sem Unit):=by
   unfold eqGuard
   cases op <;> first | rfl | exact absurd rfl hq.1 | exact absurd rfl hq.2
  simp [toOper,execOp,pv_bind,pv_map,pv_pure,ex,ey,e,hv]
theorem WOL.shl {n:Int} {s:Nat} {yk:IntKind} (hx:getL L x = some (zi n)) (hy:getL L y = some (.int yk (s:Nat))) (hs:s ≤ 64) (h1:-9223372036854775808 ≤ n * 2 ^ s) (h2:n * 2 ^ s ≤ 9223372036854775807) (w:∀ a,Kn (putL L d (zi (n * 2 ^ s))) a → WO P tp rest a h K):∀ a,Kn L a → WO P tp (⟨d,.binOp .shl t x y u,ty,none,[],i⟩ :: rest) a h K :=
 WOL.pbin hx hy rfl rfl (by show cond _ (fastInt .shl _ _ _) none = none;cases Nat.beq _ _ <;> rfl) ⟨by decide,by decide⟩ (pv_shl hs h1 h2) rfl w
theorem WOL.shr {n:Int} {s:Nat} {yk:IntKind} (hx:getL L x = some (zi n)) (hy:getL L y = some (.int yk (s:Nat))) (hs:s ≤ 64) (h0:0 ≤ n) (w:∀ a,Kn (putL L d (zi (n / 2 ^ s))) a → WO P tp rest a h K):∀ a,Kn L a → WO P tp (⟨d,.binOp .shr t x y u,ty,none,[],i⟩ :: rest) a h K :=
 WOL.pbin hx hy rfl rfl (by show cond _ (fastInt .shr _ _ _) none = none;cases Nat.beq _ _ <;> rfl) ⟨by decide,by decide⟩ (pv_shr hs h0) rfl w
theorem WOL.or8 {a b:Nat} (hx:getL L x = some (zi ((256 * a:Nat):Int))) (hy:getL L y = some (zi (b:Nat))) (ha:256 * a + b < 2 ^ 62) (hb:b < 256) (w:∀ r,Kn (putL L d (zi ((256 * a + b:Nat):Int))) r → WO P tp rest r h K):∀ r,Kn L r → WO P tp (⟨d,.binOp .or t x y u,ty,none,[],i⟩ :: rest) r h K :=
 WOL.pbin hx hy rfl rfl rfl ⟨by decide,by decide⟩ (pv_or ha hb) rfl w
end
theorem u8_wrap (n:Int):IntKind.u8.wrap n = n % 256:=rfl
theorem u32_wrap (n:Int):IntKind.u32.wrap n = n % 4294967296:=rfl
theorem u116:Try.prog.underlying 29 = some (.slice 5):=by kernel_rfl
theorem tp116:Tp Try.prog 29 1 [.slice none 0 0] false:=tp_of (by kernel_rfl) (by kernel_rfl) rfl
def encY (b:Nat):List Value:=[.int .u8 (b:Nat)]
theorem eY:Enc encY 1:=⟨fun _ => rfl,fun _ => rfl⟩
section
variable {h:TH} {v:Value} {l:List Nat} {c:Nat}
theorem elemY (s:SlL encY 1 h v l) {j:Nat} (hj:j < l.length):∃ p,indexAddrT Try.prog 29 v (zi (j:Nat)) = some p ∧ loadT Try.prog 5 p h = some (.int .u8 (l.getD j 0:Nat)):=by
 have hj':l[j]? = some (l.getD j 0):=by rw [List.getD_eq_getElem?_getD,List.getElem?_eq_getElem hj];rfl
 obtain ⟨b',o',cc,fix,wr,el,g1,g2,g3,g4,g5⟩:=s.at eY u116 tp5 hj' .i64
 exact ⟨_,g1,load_one tp5 g2 (g5 0 (by decide))⟩
theorem k160 (H:Has tp) {bo:Option Addr} {n k:Nat} (h:TH):CallW Try.prog tp (.func (.func 68) #[] #[]) #[.slice bo n k] h fun w h' => ∃ c,w = .func (.func 80) #[] #[ptr c] ∧ HX h h' ∧ At h' c (.cells [.slice bo n k] true true 29) ∧ h.next ≤ c:=by
 refine CallW.fnL (H.fn 68 f160 rfl rfl) ?_
 refine WL.sr <| WOL.box rfl fun h1 N1 => WOL.as rfl <| WOL.nil <| keep [(1,_)] ⟨rfl,trivial⟩ ?_
 refine WL.sr <| WOL.mf rfl <| WOL.as rfl <| WOL.nil ?_
 exact WL.done rfl ⟨_,rfl,N1.hx,N1.at_,Nat.le_refl _⟩
set_option maxRecDepth 10000 in
theorem y175 (H:Has tp) {bo:Option Addr} {n k:Nat} (hl:l.length ≤ 1000000):Yields Try.prog tp (.func (.func 80) #[] #[ptr c]) (fun g => At g c (.cells [.slice bo n k] true true 29) ∧ SlL encY 1 g (.slice bo n k) l) l.length fun j => .int .u8 (l.getD j 0:Nat):=by
 intro h' yv I I0 hI step
 refine CallW.fnC (H.fn 80 f175 rfl rfl) ?_
 refine WL.sr ?_
 obtain ⟨A0,s0⟩:=hI 0 h' I0
 refine WOL.ld rfl (load_one tp116 A0 rfl) <| WOL.len rfl s0 u116 <| WOL.mv rfl <| WOL.nil <| keep [(0,_),(5,_),(6,_),(7,_)] ⟨rfl,rfl,rfl,rfl,trivial⟩ ?_
 refine WL.block ?_
 refine WL.loop (fun q a g => ∃ j:Nat,j ≤ l.length ∧ q = l.length - j ∧ I j g ∧ Kn [(0,yv),(5,.slice bo n k),(6,zi (l.length:Nat)),(7,zi (j:Nat))] a) l.length (fun a q => ⟨0,by omega,by omega,I0,q.sub ⟨rfl,rfl,rfl,rfl,trivial⟩⟩) ?_
 rintro q a g ⟨j,hj,rfl,q1,q⟩
 refine q.go ?_
 refine WL.sr <| WOL.bi (v:=.bool (decide ((j:Int) < (l.length:Int)))) rfl rfl rfl <| WOL.nil <| keep [(0,_),(5,_),(6,_),(7,_),(8,_)] ⟨rfl,rfl,rfl,rfl,rfl,trivial⟩ ?_
 refine WL.seq ?_
 by_cases hlt:j < l.length
 ·rw [show decide ((j:Int) < (l.length:Int)) = true from decide_eq_true (by omega)]
  obtain ⟨p,ip,lp⟩:=elemY (hI j g q1).2 hlt
  refine WL.yes rfl <| WL.skip ?_
  refine WL.seq <| WL.block ?_
  refine WL.sr <| WOL.ix rfl rfl ip <| WOL.ld rfl lp <| WOL.as rfl <| WOL.nil <| keep [(0,_),(4,_),(5,_),(6,_),(7,_)] ⟨rfl,rfl,rfl,rfl,rfl,trivial⟩ ?_
  refine WL.sr <| WOL.mv rfl <| WOL.mv rfl ?_
  refine WOL.cl1 rfl rfl ((step j g hlt q1).mono ?_)
  rintro v g2 ⟨rfl,q2⟩
  refine WOL.nt rfl <| WOL.nil <| WL.no rfl <| WL.skip ?_
  refine WL.reg ?_
  refine WOL.bi (v:=zi ((j + 1:Nat):Int)) rfl rfl (by show some (Value.int .i64 (fwrap .i64 ((j:Int) + 1))) = _;rw [fwrap_i64 (by omega) (by omega)];rfl) ?_
  refine WOL.mv rfl <| WOL.nil ?_
  exact fun a q => ⟨l.length - (j + 1),by omega,j + 1,by omega,rfl,q2,q.sub ⟨rfl,rfl,rfl,rfl,trivial⟩⟩
 ·rw [show decide ((j:Int) < (l.length:Int)) = false from decide_eq_false (by omega)]
  obtain rfl:j = l.length:=by omega
  refine WL.no rfl <| WL.exit ?_
  exact WL.endn rfl q1
end
def totStep (x:Int) (b:Nat):Int:=(271 * x + (b:Int)) % 16777213
def tot (l:List Nat):Int:=l.foldl totStep 1
theorem tot_step {l:List Nat} {j:Nat} (h:j < l.length):tot (l.take (j + 1)) = totStep (tot (l.take j)) (l.getD j 0):=by
 unfold tot
 rw [List.take_succ_eq_append_getElem h,List.foldl_append,List.getD_eq_getElem?_getD,List.getElem?_eq_getElem h]
 rfl
theorem tot_in (l:List Nat) (j:Nat):0 ≤ tot (l.take j) ∧ tot (l.take j) < 16777213:=by
 have:∀ (m:List Nat) (x:Int),0 ≤ x ∧ x < 16777213 → 0 ≤ m.foldl totStep x ∧ m.foldl totStep x < 16777213:=by
  intro m
  induction m with
  | nil => intro x hx;exact hx
  | cons b m ih =>
   intro x hx
   exact ih _ ⟨Int.emod_nonneg _ (by decide),Int.emod_lt_of_pos _ (by decide)⟩
 exact this _ 1 (by decide)
def Byt (l:List Nat):Prop:=∀ b,b ∈ l → b < 256
theorem Byt.at {l:List Nat} (h:Byt l) (j:Nat):l.getD j 0 < 256:=by
 rw [List.getD_eq_getElem?_getD]
 cases hj:l[j]? with
 | none => show (0:Nat) < 256;decide
 | some b => exact h b (List.mem_of_getElem? hj)
section
variable {h:TH} {l:List Nat} {bo:Option Addr} {n k:Nat}
set_option maxRecDepth 10000 in
theorem k129 (H:Has tp) (s:SlL encY 1 h (.slice bo n k) l) (hb:Byt l) (hl:l.length ≤ 1000000) (f:Free0 h.next h):CallW Try.prog tp (.func (.func 46) #[] #[]) #[.slice bo n k] h fun v h' => v = zi (tot l) ∧ HX h h':=by
 refine CallW.fnL (H.fn 46 f129 rfl rfl) ?_
 refine WL.sr <| WOL.as rfl <| WOL.nil <| keep [(0,_)] ⟨rfl,trivial⟩ ?_
 refine WL.sr <| WOL.al tp3 fun h1 N1 => ?_
 refine WOL.sto rfl rfl tp3 N1.at_ rfl rfl (Nat.le_of_ble_eq_true rfl) rfl (f.hx N1.hx) (Nat.le_refl _) fun h2 P2 => ?_
 have X2:=P2.hx _ N1.hx (Nat.le_refl _)
 have A3:At h2 h.next (.cells [zi (tot (l.take 0))] true true 3):=P2.at_
 refine WOL.nil <| keep [(0,_),(3,_)] ⟨rfl,rfl,trivial⟩ ?_
 refine WL.seq <| WL.sr <| WOL.mv rfl ?_
 refine WOL.cl1 rfl rfl ((k160 H h2).mono ?_)
 rintro v h3 ⟨c,rfl,X3,A4,hc⟩
 have a3:=A3.lt
 refine WOL.nil <| keep [(3,_),(6,_)] ⟨rfl,rfl,trivial⟩ ?_
 refine WL.block ?_
 have Y3:=X2.trans X3
 have f3:=f.on Y3
 have hc3:h.next < h3.next:=by have:=(A3.hx X3).lt;omega
 refine WL.range rfl (H.fn 80 f175 rfl rfl) (y175 H hl) (fun j g => HX h g ∧ At g h.next (.cells [zi (tot (l.take j))] true true 3) ∧ At g c (.cells [.slice bo n k] true true 29)) (fun j g q => ⟨q.2.2,s.hx q.1⟩) (fun j g q => (f.hx q.1).up (by omega)) ?_ ?_ ?_ ?_
 ·rintro j g g' x ⟨q1,q2,q3⟩ P
  exact ⟨P.hx _ q1 (by omega),P.oth _ _ (by omega) q2,P.oth _ _ (by have:=A4.lt;omega) q3⟩
 ·rintro g x N
  exact ⟨Y3.trans N.hx,(A3.hx X3).hx N.hx,A4.hx N.hx⟩
 ·rintro j g x hj q A
  refine WL.reg <| WOL.as rfl <| WOL.nil ?_
  intro r hr
  refine ⟨rfl,rfl,fun g2 x2 ⟨q1,q2,q3⟩ A2 => ?_⟩
  refine hr.go ?_
  have bt:=hb.at j
  have ti:=tot_in l j
  refine WL.block <| WL.reg ?_
  refine WOL.ld rfl (load_one tp3 q2 rfl) ?_
  refine WOL.bi (v:=zi (271 * tot (l.take j))) rfl rfl (by show some (Value.int .i64 (fwrap .i64 (271 * tot (l.take j)))) = _;rw [fwrap_i64 (by omega) (by omega)]) ?_
  refine WOL.mv rfl <| WOL.convU u5 u3 rfl (by omega) (by omega) ?_
  refine WOL.add rfl rfl (by omega) (by omega) <| WOL.rem rfl rfl (by omega) (by decide) ?_
  refine WOL.sto rfl rfl tp3 q2 rfl rfl (Nat.le_of_ble_eq_true rfl) rfl (f.hx q1) (Nat.le_refl _) fun g3 P3 => ?_
  refine WOL.nil fun r hr => ?_
  have B3:At g3 h.next (.cells [zi (totStep (tot (l.take j)) (l.getD j 0))] true true 3):=P3.at_
  rw [← tot_step hj] at B3
  exact ⟨rfl,⟨P3.hx _ q1 (Nat.le_refl _),B3,P3.oth _ _ (by omega) q3⟩,P3.oth _ _ (by omega) A2⟩
 ·rintro g ⟨q1,q2,q3⟩
  rw [List.take_length] at q2
  refine WL.sr <| WOL.ld rfl (load_one tp3 q2 rfl) <| WOL.as rfl <| WOL.nil ?_
  exact WL.done rfl ⟨rfl,q1⟩
end
end Go.Tidy
namespace Go.Tidy
open Go Go.Proofs Tab
variable {tp:TProg}
section
variable {h:TH} {l:List Nat} {v:Value} {bo:Option Addr} {n k:Nat}
end
def numB (l:List Nat):Nat:=l.foldl (fun n b => 256 * n + b) 0
theorem numB_step {l:List Nat} {j:Nat} (h:j < l.length):numB (l.take (j + 1)) = 256 * numB (l.take j) + l.getD j 0:=by
 unfold numB
 rw [List.take_succ_eq_append_getElem h,List.foldl_append,List.getD_eq_getElem?_getD,List.getElem?_eq_getElem h]
 rfl
theorem numB_lt {l:List Nat} (hb:Byt l):∀ j,j ≤ l.length → numB (l.take j) < 256 ^ j
 | 0,_ => Nat.one_pos
 | j + 1,h => by
  have:=numB_lt hb j (by omega)
  have b:=hb.at j
  rw [numB_step (by omega),Nat.pow_succ]
  omega
section
variable {h:TH} {l:List Nat} {bo:Option Addr} {n k:Nat}
set_option maxRecDepth 10000 in
theorem k170 (H:Has tp) (s:SlL encY 1 h (.slice bo n k) l) (hb:Byt l) (hl:l.length ≤ 4) (f:Free0 h.next h):CallW Try.prog tp (.func (.func 69) #[] #[]) #[.slice bo n k] h fun v h' => v = zi (numB l:Nat) ∧ HX h h':=by
 refine CallW.fnL (H.fn 69 f170 rfl rfl) ?_
 refine WL.sr <| WOL.as rfl <| WOL.nil <| keep [(0,_)] ⟨rfl,trivial⟩ ?_
 refine WL.sr <| WOL.al tp3 fun h1 N1 => ?_
 refine WOL.sto rfl rfl tp3 N1.at_ rfl rfl (Nat.le_of_ble_eq_true rfl) rfl (f.hx N1.hx) (Nat.le_refl _) fun h2 P2 => ?_
 have X2:=P2.hx _ N1.hx (Nat.le_refl _)
 have A3:At h2 h.next (.cells [zi (numB (l.take 0):Nat)] true true 3):=P2.at_
 refine WOL.nil <| keep [(0,_),(3,_)] ⟨rfl,rfl,trivial⟩ ?_
 refine WL.seq <| WL.sr <| WOL.mv rfl ?_
 refine WOL.cl1 rfl rfl ((k160 H h2).mono ?_)
 rintro v h3 ⟨c,rfl,X3,A4,hc⟩
 have a3:=A3.lt
 refine WOL.nil <| keep [(3,_),(6,_)] ⟨rfl,rfl,trivial⟩ ?_
 refine WL.block ?_
 have Y3:=X2.trans X3
 have f3:=f.on Y3
 have hc3:h.next < h3.next:=by have:=(A3.hx X3).lt;omega
 refine WL.range rfl (H.fn 80 f175 rfl rfl) (y175 H (by omega)) (fun j g => HX h g ∧ At g h.next (.cells [zi (numB (l.take j):Nat)] true true 3) ∧ At g c (.cells [.slice bo n k] true true 29)) (fun j g q => ⟨q.2.2,s.hx q.1⟩) (fun j g q => (f.hx q.1).up (by omega)) ?_ ?_ ?_ ?_
 ·rintro j g g' x ⟨q1,q2,q3⟩ P
  exact ⟨P.hx _ q1 (by omega),P.oth _ _ (by omega) q2,P.oth _ _ (by have:=A4.lt;omega) q3⟩
 ·rintro g x N
  exact ⟨Y3.trans N.hx,(A3.hx X3).hx N.hx,A4.hx N.hx⟩
 ·rintro j g x hj q A
  refine WL.reg <| WOL.as rfl <| WOL.nil ?_
  intro r hr
  refine ⟨rfl,rfl,fun g2 x2 ⟨q1,q2,q3⟩ A2 => ?_⟩
  refine hr.go ?_
  have bt:=hb.at j
  have ti:numB (l.take j) < 256 ^ 4:=Nat.lt_of_lt_of_le (numB_lt hb j (by omega)) (Nat.pow_le_pow_right (by decide) (by omega))
  refine WL.block <| WL.reg ?_
  refine WOL.ld rfl (load_one tp3 q2 rfl) ?_
  refine WOL.shl (s:=8) rfl rfl (by decide) (by omega) (by omega) ?_
  rw [show ((numB (l.take j):Nat):Int) * 2 ^ 8 = ((256 * numB (l.take j):Nat):Int) by omega]
  refine WOL.mv rfl <| WOL.convU u5 u3 rfl (by omega) (by omega) ?_
  refine WOL.or8 rfl rfl (by omega) bt ?_
  refine WOL.sto rfl rfl tp3 q2 rfl rfl (Nat.le_of_ble_eq_true rfl) rfl (f.hx q1) (Nat.le_refl _) fun g3 P3 => ?_
  refine WOL.nil fun r hr => ?_
  have B3:At g3 h.next (.cells [zi ((256 * numB (l.take j) + l.getD j 0:Nat):Int)] true true 3):=P3.at_
  rw [← numB_step hj] at B3
  exact ⟨rfl,⟨P3.hx _ q1 (Nat.le_refl _),B3,P3.oth _ _ (by omega) q3⟩,P3.oth _ _ (by omega) A2⟩
 ·rintro g ⟨q1,q2,q3⟩
  rw [List.take_length] at q2
  refine WL.sr <| WOL.ld rfl (load_one tp3 q2 rfl) <| WOL.as rfl <| WOL.nil ?_
  exact WL.done rfl ⟨rfl,q1⟩
end
def OwnF {α:Type} (enc:α → List Value) (n0:Nat) (h:TH) (v:Value) (e:TypeId) (l:List α):Prop :=
 OwnL enc n0 h v e l ∨ (∃ b,v = .slice (some ⟨b,0,none⟩) l.length l.length ∧ n0 ≤ b ∧ At h b (.cells (cat enc l) true true e))
section
variable {P:Program} {h:TH} {α:Type} {enc:α → List Value} {n0 n:Nat} {v:Value} {e:TypeId} {l:List α} {z:List Value} {row:Bool}
theorem OwnF.hx {h':TH} (o:OwnF enc n0 h v e l) (x:HX h h'):OwnF enc n0 h' v e l:=o.imp (fun o => o.hx x) fun ⟨b,h1,h2,h3⟩ => ⟨b,h1,h2,h3.hx x⟩
theorem OwnF.sl (E:Enc enc n) (o:OwnF enc n0 h v e l):SlL enc n h v l:=by
 rcases o with o | ⟨b,rfl,_,h3⟩
 ·exact o.sl E
 ·exact SlL.own E h3 rfl
theorem OwnF.form (o:OwnF enc n0 h v e l):∃ bo,v = .slice bo l.length l.length:=by
 rcases o with (⟨rfl,rfl⟩ | ⟨_,b,rfl,_⟩) | ⟨b,rfl,_⟩
 ·exact ⟨_,rfl⟩
 ·exact ⟨_,rfl⟩
 ·exact ⟨_,rfl⟩
theorem append_fix {sT:TypeId} {b j k:Nat} {c new:List Value} {wr:Bool} {e':TypeId} (hu:P.underlying sT = some (.slice e)) (he:Tp P e n z row) (hg:At h b (.cells c true wr e')) (hc:c.length = j * n) (s:SlC h v n k new) (hk:0 < k) (hk2:j + k ≤ 1000000000) (h1:new.all oneCell = true) :
  appendT P #[sT,sT] #[.slice (some ⟨b,0,none⟩) j j,v] h = some (.slice (some ⟨h.next,0,none⟩) (j + k) (j + k),h.new (.cells (c ++ new) false true e)):=by
 obtain ⟨inf,q1,q2,q3,_⟩:=he.i
 have hf:=firstT_C s
 obtain ⟨bo,cap,rfl,_⟩:=s
 have e1:Nat.beq k 0 = false:=beq_no (by omega)
 have e2:Nat.ble (j + k) j = false:=ble_no (by omega)
 have e3:room (j + k) inf.bytes = true:=room_of q3 (by omega)
 have e4:zeroFits inf = true:=zeroFits_of he q1
 have e5:cellsAt h b 0 (j * n) = some c:=by
  simp only [cellsAt,hg.get,ble_yes (show 0 + j * n ≤ c.length by omega),Bool.cond_true,List.drop_zero]
  rw [← hc,List.take_length]
 simp only [appendT,elemInfo,List.getElem?_toArray,List.getElem?_cons_zero,List.getElem?_cons_succ,hu,Option.bind_some,q1,Option.map_some,newOf,lenT,q2,hf,e1,Bool.cond_false,e2,e3,e4,h1,Bool.and_self,Bool.cond_true,hg.get,e5]
 rfl
theorem own_pushF {sT:TypeId} {v2:Value} {x:α} (E:Enc enc n) (hu:P.underlying sT = some (.slice e)) (he:Tp P e n z row) (o:OwnF enc n0 h v e l) (s2:SlC h v2 n 1 (enc x)) (f:Free0 n0 h) (hl:l.length < 1000000) (hn0:n0 ≤ h.next) :
  ∃ v' h',appendT P #[sT,sT] #[v,v2] h = some (v',h') ∧ OwnF enc n0 h' v' e (l ++ [x]) ∧ (∀ h0,HX h0 h → h0.next ≤ n0 → HX h0 h') ∧ (∀ c y,bl v ≠ some c → At h c y → At h' c y) ∧ h.next ≤ h'.next:=by
 rcases o with o | ⟨b,rfl,h2,h3⟩
 ·obtain ⟨v',h',q1,q2,q3,q4,_,q5⟩:=own_push E hu he o s2 f hl hn0
  exact ⟨v',h',q1,.inl q2,q3,q4,q5⟩
 ·refine ⟨_,_,append_fix hu he h3 (E.cat_len l) s2 (by decide) (by omega) (E.one x),.inl (.inr ⟨by simp,h.next,?_,hn0,?_⟩),fun h0 hx hb => hx.trans (HX.new _ _),fun c y hc ha => ha.hx (HX.new _ _),Nat.le_succ _⟩
  ·rw [List.length_append];rfl
  ·rw [cat_append,cat_one]
   exact At.new h _
end
def bytN (n k i:Nat):Nat:=n / 2 ^ (8 * (k - 1 - i)) % 256
def bytesN (n k:Nat):List Nat:=(List.range k).map (bytN n k)
section
variable {P:Program} {h:TH} {K:Regs → TH → Prop} {rest:List TOper} {d:Option Tmp} {ty:TypeId} {i:Nat} {x:Operand} {L:Rg}
theorem WOL.cvw {s t:TypeId} {ds:TypeDesc} {k k':IntKind} {n:Int} (hs:P.underlying s = some ds) (ht:P.underlying t = some (.int k')) (hx:getL L x = some (.int k n)) (w:∀ a,Kn (putL L d (.int k' (k'.wrap n))) a → WO P tp rest a h K):∀ a,Kn L a → WO P tp (⟨d,.convert s t x,ty,none,[],i⟩ :: rest) a h K:=fun a q =>
 WO.conv (q.o hx) rfl (conv_i2i hs ht) rfl (w _ (q.put d _))
end
section
variable {h hb:TH} {l:List Nat} {v:Value} {n k n0:Nat}
set_option maxHeartbeats 1000000 in
set_option maxRecDepth 10000 in
theorem k127 (H:Has tp) (O:OwnF encY n0 h v 5 l) (hl:l.length ≤ 1000) (hk:k ≤ 8) (X:HX hb h) (hn0:hb.next ≤ n0) (hn1:n0 ≤ h.next) (f:Free0 hb.next hb) :
  CallW Try.prog tp (.func (.func 44) #[] #[]) #[v,zi (n:Nat),zi (k:Nat)] h fun w h' => HX hb h' ∧ OwnF encY n0 h' w 5 (l ++ bytesN n k) ∧ h.next ≤ h'.next:=by
 refine CallW.fnL (H.fn 44 f127 rfl rfl) ?_
 refine WL.sr <| WOL.as rfl <| WOL.nil <| keep [(0,_),(1,_),(2,_)] ⟨rfl,rfl,rfl,trivial⟩ ?_
 refine WL.seq <| WL.sr <| WOL.mv rfl <| WOL.mv rfl <| WOL.nil <| keep [(0,_),(1,_),(2,_),(8,_),(9,_)] ⟨rfl,rfl,rfl,rfl,rfl,trivial⟩ ?_
 refine WL.block ?_
 refine WL.loop (fun q a g => ∃ (i:Nat) (w:Value),i ≤ k ∧ q = k - i ∧ HX hb g ∧ OwnF encY n0 g w 5 (l ++ (List.range i).map (bytN n k)) ∧ h.next ≤ g.next ∧ Kn [(0,w),(1,zi (n:Nat)),(2,zi (k:Nat)),(8,zi (k:Nat)),(9,zi (i:Nat))] a) k (fun a q => ⟨0,v,by omega,by omega,X,by simpa using O,Nat.le_refl _,q.sub ⟨rfl,rfl,rfl,rfl,rfl,trivial⟩⟩) ?_
 rintro q a g ⟨i,w,hi,rfl,X1,O1,hg,q⟩
 refine q.go ?_
 refine WL.sr <| WOL.bi (v:=.bool (decide ((i:Int) < (k:Int)))) rfl rfl rfl <| WOL.nil <| keep [(0,_),(1,_),(2,_),(8,_),(9,_),(10,_)] ⟨rfl,rfl,rfl,rfl,rfl,rfl,trivial⟩ ?_
 refine WL.seq ?_
 by_cases hlt:i < k
 ·rw [show decide ((i:Int) < (k:Int)) = true from decide_eq_true (by omega)]
  refine WL.yes rfl <| WL.skip ?_
  refine WL.seq <| WL.block ?_
  refine WL.sr <| WOL.mv rfl <| WOL.as rfl <| WOL.nil <| keep [(0,_),(1,_),(2,_),(7,_),(8,_),(9,_)] ⟨rfl,rfl,rfl,rfl,rfl,rfl,trivial⟩ ?_
  refine WL.reg ?_
  refine WOL.mv rfl <| WOL.mv rfl <| WOL.mv rfl <| WOL.sub rfl rfl (by omega) (by omega) <| WOL.mv rfl <| WOL.sub rfl rfl (by omega) (by omega) ?_
  refine WOL.bi (v:=zi ((8 * (k - 1 - i):Nat):Int)) rfl rfl (by show some (Value.int .i64 (fwrap .i64 (8 * ((k:Int) - 1 - i)))) = _;rw [fwrap_i64 (by omega) (by omega)];congr 2;omega) ?_
  refine WOL.shr (s:=8 * (k - 1 - i)) rfl rfl (by omega) (by omega) ?_
  refine WOL.cvw u3 u5 rfl ?_
  rw [u8_wrap,show ((n:Nat):Int) / 2 ^ (8 * (k - 1 - i)) % 256 = ((bytN n k i:Nat):Int) by unfold bytN;push_cast;rfl]
  refine WOL.bs1 rfl u116 tp5 rfl fun g1 N1 => ?_
  have f1:Free0 n0 g1:=(f.hx (X1.trans N1.hx)).up hn0
  obtain ⟨w2,g2,ap,O2,x2,_,n2⟩:=own_pushF (sT:=29) (x:=bytN n k i) eY u116 tp5 (O1.hx N1.hx) (SlC.own (sz:=1) (m:=1) rfl N1.at_) f1 (by simp;omega) (by have:=N1.hx.next;omega)
  refine WOL.ap rfl rfl ap <| WOL.as rfl <| WOL.nil ?_
  refine WL.reg ?_
  refine WOL.bi (v:=zi ((i + 1:Nat):Int)) rfl rfl (by show some (Value.int .i64 (fwrap .i64 ((i:Int) + 1))) = _;rw [fwrap_i64 (by omega) (by omega)];rfl) ?_
  refine WOL.mv rfl <| WOL.nil ?_
  exact fun a q => ⟨k - (i + 1),by omega,i + 1,w2,by omega,rfl,x2 _ (X1.trans N1.hx) hn0,by rw [List.range_succ,List.map_append,← List.append_assoc];exact O2,by have:=N1.hx.next;omega,q.sub ⟨rfl,rfl,rfl,rfl,rfl,trivial⟩⟩
 ·rw [show decide ((i:Int) < (k:Int)) = false from decide_eq_false (by omega)]
  obtain rfl:i = k:=by omega
  refine WL.no rfl <| WL.exit ?_
  refine WL.sr <| WOL.mv rfl <| WOL.as rfl <| WOL.nil ?_
  exact WL.done rfl ⟨X1,O1,hg⟩
end
end Go.Tidy
namespace Go.Tidy
open Go Go.Proofs Tab
variable {tp:TProg}
theorem word_cases (b:Nat):(∃ s,b % 2147483648 = 0 ∧ Ieee.single.read b = .number s 0 (-149)) ∨ (b % 2147483648 ≠ 0 ∧ (nanB .f32 b = true ∨ (∃ s,Ieee.single.read b = .infinity s) ∨ ∃ s m,∃ k:Nat,m ≠ 0 ∧ Ieee.single.read b = .number s m (-149 + (k:Int)))):=by
  have hb:Ieee.single.binade = 8388608:=rfl
  have hi:Ieee.single.infRung = 2139095040:=rfl
  have hs:Ieee.single.signWeight = 2147483648:=rfl
  have hl:Ieee.single.leastPlace = -149:=rfl
  by_cases h0:b % 2147483648 = 0
  · refine .inl ⟨b / 2147483648 % 2 == 1,h0,?_⟩
    unfold Ieee.Format.read
    simp only [hb,hs,hl,h0]
    rfl
  · refine .inr ⟨h0,?_⟩
    by_cases h1:b % 2147483648 < 8388608
    · refine .inr (.inr ⟨b / 2147483648 % 2 == 1,b % 2147483648,0,h0,?_⟩)
      unfold Ieee.Format.read
      simp only [hb,hs,hl,if_pos h1]
      rfl
    · by_cases h2:b % 2147483648 < 2139095040
      · refine .inr (.inr ⟨b / 2147483648 % 2 == 1,8388608 + b % 2147483648 % 8388608,b % 2147483648 / 8388608 - 1,by omega,?_⟩)
        unfold Ieee.Format.read
        simp only [hb,hs,hl,hi,if_neg h1,if_pos h2]
      · by_cases h3:b % 2147483648 = 2139095040
        · refine .inr (.inl ⟨b / 2147483648 % 2 == 1,?_⟩)
          unfold Ieee.Format.read
          simp only [hb,hs,hi,if_neg h1,if_neg h2,if_pos h3]
        · refine .inl ?_
          simp only [nanB,Nat.blt_eq]
          omega
theorem read_zero:Ieee.single.read 0 = .number false 0 (-149):=by decide
def zeroF (b:Nat):Bool:=decide (b % 2147483648 = 0)
theorem zero_cmp {b:Nat} (hn:nanB .f32 b = false):cmpF .eql .f32 b 0 = some (zeroF b):=by
 show some (Ieee.single.order b 0 == some .eq) = some (zeroF b)
 congr 1
 unfold Ieee.Format.order
 rw [read_zero]
 rcases word_cases b with ⟨s,h0,hr⟩ | ⟨h0,h | ⟨s,hr⟩ | ⟨s,m,k,hm,hr⟩⟩
 ·rw [hr]
  have e1:∀ (s:Bool) (u:Nat),Ieee.signed s 0 u = 0:=by intro s u;cases s <;> simp [Ieee.signed]
  have:zeroF b = true:=by unfold zeroF;rw [decide_eq_true h0]
  rw [this]
  show (some (compare (Ieee.signed s 0 _) (Ieee.signed false 0 _)) == some Ordering.eq) = true
  rw [e1,e1]
  rfl
 ·rw [hn] at h;cases h
 ·rw [hr]
  have:zeroF b = false:=by unfold zeroF;rw [decide_eq_false h0]
  rw [this]
  cases s <;> rfl
 ·rw [hr]
  have:zeroF b = false:=by unfold zeroF;rw [decide_eq_false h0]
  rw [this]
  have e1:∀ (u:Nat),Ieee.signed false 0 u = 0:=by intro u;simp [Ieee.signed]
  have e2:∀ (u:Nat),Ieee.signed s m u ≠ 0:=by
   intro u
   have hp:m <<< u ≠ 0:=by rw [Nat.shiftLeft_eq];exact Nat.ne_of_gt (Nat.mul_pos (by omega) (Nat.two_pow_pos u))
   unfold Ieee.signed
   cases s
   ·show ((m <<< u:Nat):Int) ≠ 0;omega
   ·show -((m <<< u:Nat):Int) ≠ 0;omega
  show (some (compare (Ieee.signed s m _) (Ieee.signed false 0 _)) == some Ordering.eq) = false
  rw [e1]
  cases hc:compare (Ieee.signed s m ((-149 + (k:Int)) - min (-149 + (k:Int)) (-149)).toNat) 0 with
  | eq => exact absurd ((cmp_iff _ _).1 hc) (e2 _)
  | lt => rfl
  | gt => rfl
section
variable {P:Program} {h:TH} {K:Regs → TH → Prop} {rest:List TOper} {d:Option Tmp} {ty:TypeId} {i:Nat} {x y:Operand} {t u:TypeId} {L:Rg}
theorem WOL.feq0 {b:Nat} (hx:getL L x = some (.float .f32 b)) (hy:getL L y = some (.float .f32 0)) (w:∀ a,Kn (putL L d (.bool (zeroF b))) a → WO P tp rest a h K):∀ a,Kn L a → WO P tp (⟨d,.binOp .eql t x y u,ty,none,[],i⟩ :: rest) a h K:=by
 cases hn:nanB .f32 b with
 | true =>
  have hz:zeroF b = false:=by
   unfold zeroF
   simp only [nanB,Nat.blt_eq] at hn
   exact decide_eq_false (by omega)
  rw [hz] at w
  refine WOL.bi hx hy ?_ w
  show cond (fKindEq .f32 .f32 && (nanB .f32 b || nanB .f32 0)) (nanOut .eql) none = _
  rw [hn];rfl
 | false => exact fun a k => WO.fcmp (k.o hx) (k.o hy) hn (by decide) (zero_cmp hn) (w _ (k.put d _))
theorem WOL.x1E {f:Nat} {v v0:Value} {ts:Array TypeId} {e:List Value → Option Value} (h0:getL L x = some v0) (hk:tp.fn f = none) (he:tp.ext f = some e) (hp:exactB v0 = true) (hv:e [v0] = some v) (hpv:exactB v = true)
  (w:∀ a,Kn (putL L d v) a → WO P tp rest a h K):∀ a,Kn L a → WO P tp (⟨d,.call ⟨.value (.func f),#[x],ts⟩,ty,none,[],i⟩ :: rest) a h K :=
 WOL.cl1 rfl h0 (CallW.extX hk he (by simp [hp]) hv hpv w)
end
structure HasY (tp:TProg):Prop where
 no1:tp.fn 67 = none
 no2:tp.fn 81 = none
 bits:tp.ext 67 = some (Bare.run .float32bits)
 back:tp.ext 81 = some (Bare.run .float32frombits)
theorem word_exact {b:Nat} (hb:b < 4294967296):exactB (.float .f32 b) = true:=by
 show (!Nat.beq b 6438256640) = true
 rw [beq_no (by omega)];rfl
theorem u216:Try.prog.underlying 120 = some (.int .u32):=by kernel_rfl
section
variable {h hb:TH} {l:List Nat} {v:Value} {bo:Option Addr} {n k n0:Nat}
theorem k171 (H:Has tp) (Y:HasY tp) (s:SlL encY 1 h (.slice bo n k) l) (hb:Byt l) (hl:l.length = 4) (f:Free0 h.next h):CallW Try.prog tp (.func (.func 70) #[] #[]) #[.slice bo n k] h fun v h' => v = .float .f32 (numB l) ∧ HX h h':=by
 refine CallW.fnL (H.fn 70 f171 rfl rfl) ?_
 have hlt:numB l < 4294967296:=by have:=numB_lt hb l.length (Nat.le_refl _);rw [List.take_length,hl] at this;exact this
 refine WL.sr <| WOL.as rfl <| WOL.nil <| keep [(0,_)] ⟨rfl,trivial⟩ ?_
 refine WL.sr <| WOL.mv rfl ?_
 refine WOL.cl1 rfl rfl ((k170 H s hb (by omega) f).mono ?_)
 rintro v h1 ⟨rfl,X1⟩
 refine WOL.cvw u3 u216 rfl ?_
 rw [u32_wrap,Int.emod_eq_of_lt (by omega) (by omega)]
 refine WOL.x1E (v:=.float .f32 (numB l)) rfl Y.no2 Y.back rfl rfl (word_exact hlt) ?_
 refine WOL.as rfl <| WOL.nil ?_
 exact WL.done rfl ⟨rfl,X1⟩
def wordF (b:Nat):Nat:=cond (zeroF b) 0 b
theorem k128 (H:Has tp) (Y:HasY tp) {b:Nat} (hw:b < 4294967296) (O:OwnF encY n0 h v 5 l) (hl:l.length ≤ 1000) (X:HX hb h) (hn0:hb.next ≤ n0) (hn1:n0 ≤ h.next) (f:Free0 hb.next hb) :
  CallW Try.prog tp (.func (.func 45) #[] #[]) #[v,.float .f32 b] h fun w h' => HX hb h' ∧ OwnF encY n0 h' w 5 (l ++ bytesN (wordF b) 4) ∧ h.next ≤ h'.next:=by
 refine CallW.fnL (H.fn 45 f128 rfl rfl) ?_
 have hw':wordF b < 4294967296:=by unfold wordF;cases zeroF b <;> simp <;> omega
 refine WL.sr <| WOL.as rfl <| WOL.nil <| keep [(0,_),(1,_)] ⟨rfl,rfl,trivial⟩ ?_
 have rest:∀ a,Kn [(0,v),(1,.float .f32 (wordF b))] a → W Try.prog tp false (.seq (.reg r128_3) .ret) a h (Fin Try.prog f128.results fun w h' => HX hb h' ∧ OwnF encY n0 h' w 5 (l ++ bytesN (wordF b) 4) ∧ h.next ≤ h'.next):=by
  refine WL.sr <| WOL.mv rfl <| WOL.mv rfl ?_
  refine WOL.x1E (v:=.int .u32 (wordF b:Nat)) rfl Y.no1 Y.bits (word_exact hw') rfl rfl ?_
  refine WOL.cvw u216 u3 rfl ?_
  rw [show IntKind.i64.wrap (wordF b:Nat) = ((wordF b:Nat):Int) from IntWalk.i64_in _ (by omega)]
  refine WOL.cl3 rfl rfl rfl rfl ((k127 H (k:=4) O hl (by decide) X hn0 hn1 f).mono ?_)
  rintro w h1 ⟨X1,O1,n1⟩
  refine WOL.as rfl <| WOL.nil ?_
  exact WL.done rfl ⟨X1,O1,n1⟩
 refine WL.seq <| WL.sr <| WOL.mv rfl <| WOL.feq0 rfl rfl <| WOL.nil <| keep [(0,_),(1,_),(6,_)] ⟨rfl,rfl,rfl,trivial⟩ ?_
 cases hz:zeroF b with
 | true =>
  rw [show wordF b = 0 by unfold wordF;rw [hz];rfl] at rest
  refine WL.yes rfl <| WL.reg <| WOL.as rfl <| WOL.nil ?_
  rw [show wordF b = 0 by unfold wordF;rw [hz];rfl]
  exact kto rest ⟨rfl,rfl,trivial⟩
 | false =>
  rw [show wordF b = b by unfold wordF;rw [hz];rfl] at rest
  refine WL.no rfl <| WL.skip ?_
  rw [show wordF b = b by unfold wordF;rw [hz];rfl]
  exact kto rest ⟨rfl,rfl,trivial⟩
end
end Go.Tidy
namespace Go.Tidy
open Go Go.Proofs Tab
variable {tp:TProg}
section
variable {P:Program} {a:Regs} {h:TH} {K:Regs → TH → Prop} {rest:List TOper} {d:Option Tmp} {ty:TypeId} {i:Nat} {f x0 x1 x2 l0:Operand} {ls:List Operand} {fv v0 v1 v2:Value} {ts:Array TypeId}
theorem WO.lq3 (bs:List Nat) (hb:(l0 :: ls).map (fun x => (getO a x).bind blockOf) = bs.map some) (hf:getO a f = some fv) (h0:getO a x0 = some v0) (h1:getO a x1 = some v1) (h2:getO a x2 = some v2) (w:∀ L,(∀ l,l ∈ L → l ∈ bs ∨ l ∈ h.lock) → CallW P tp fv #[v0,v1,v2] (h.withLock L) fun v h1 => WO P tp rest (a.put d v) (h1.withLock h.lock) K):WO P tp (⟨d,.call ⟨.value f,#[x0,x1,x2],ts⟩,ty,none,l0 :: ls,i⟩ :: rest) a h K :=
 WO.cons_lock rfl rfl (StepW.call (by rw [getO_eval hf];simpa [getO_eval h0,getO_eval h1,getO_eval h2] using w _ (lockOf_bs _ a bs h.lock hb)))
theorem WOL.lq3 {L:Rg} (bs:List Nat) (hb:(l0 :: ls).map (fun x => (getL L x).bind blockOf) = bs.map some) (hf:getL L f = some fv) (h0:getL L x0 = some v0) (h1:getL L x1 = some v1) (h2:getL L x2 = some v2) (w:∀ M,(∀ l,l ∈ M → l ∈ bs ∨ l ∈ h.lock) → CallW P tp fv #[v0,v1,v2] (h.withLock M) fun v h1 => ∀ a,Kn (putL L d v) a → WO P tp rest a (h1.withLock h.lock) K):∀ a,Kn L a → WO P tp (⟨d,.call ⟨.value f,#[x0,x1,x2],ts⟩,ty,none,l0 :: ls,i⟩ :: rest) a h K :=
 fun _ k => WO.lq3 bs (locks_o k hb) (k.o hf) (k.o h0) (k.o h1) (k.o h2) fun M hM => (w M hM).mono fun _ _ q => k.nx q
end
def RefS (B:Nat) (g:TH) (c:Nat) (s:ByteArray) (n:Int) (C:List (Int × Bool)) (e:Int):Prop :=
  ∃ sz nz w1 w2,At g c (.cells (runV sz nz w1 w2).cells.toList true true 40) ∧ (e ≠ 0 → w1 = .slice none 0 0 ∧ w2 = .slice none 0 0) ∧
    (e = 0 → (sz = s ∧ nz = n) ∧ RunO B g w1 w2 (C.map fun c => smp c.1) (holesOf (C.map fun c => c.2)) ∧ Lev (C.map fun c => smp c.1) (C.map fun c => c.1) ∧ C.length ≤ 4096)
section
variable {B c c':Nat} {g g':TH} {s:ByteArray} {n:Int} {C:List (Int × Bool)} {e:Int}
theorem RefS.hx (q:RefS B g c s n C e) (x:HX g g'):RefS B g' c s n C e:=by
 obtain ⟨sz,nz,w1,w2,a,q1,q2⟩:=q
 exact ⟨sz,nz,w1,w2,a.hx x,q1,fun h => ⟨(q2 h).1,(q2 h).2.1.hx x,(q2 h).2.2⟩⟩
theorem RefS.away {x:TB} (q:RefS B g c s n C e) (p:Put g g' c' x) (h1:c' ≠ c) (h2:c' < B):RefS B g' c s n C e:=by
 obtain ⟨sz,nz,w1,w2,a,q1,q2⟩:=q
 exact ⟨sz,nz,w1,w2,p.oth _ _ (Ne.symm h1) a,q1,fun h => ⟨(q2 h).1,(q2 h).2.1.away p h2,(q2 h).2.2⟩⟩
end
end Go.Tidy
namespace Go.Tidy
open Go Go.Proofs Tab
variable {tp:TProg}
theorem WOL.idx {P:Program} {h:TH} {K:Regs → TH → Prop} {rest:List TOper} {d:Option Tmp} {ty:TypeId} {i:Nat} {x y:Operand} {t:TypeId} {L:Rg} {cs:Array Value} {k:IntKind} {z:Int} {v:Value} (hx:getL L x = some (.agg cs)) (hy:getL L y = some (.int k z)) (hv:indexT P t (.agg cs) (.int k z) = some v) (w:∀ a,Kn (putL L d v) a → WO P tp rest a h K):∀ a,Kn L a → WO P tp (⟨d,.index t x y,ty,none,[],i⟩ :: rest) a h K:=fun a q => by
 have ex:=getO_eval (q.o hx)
 have ey:=getO_eval (q.o hy)
 exact WO.op (h1:=h) rfl rfl (fun call => by simp [stepOp,heapFirst,fastOp,valueOp,ex,ey,hv]) (w _ (q.put d _))
def Tail3 (s:Nat → ByteArray) (n:Nat → Int) (F:Nat → List Nat) (S:Nat → List (Int × Int)) (es L:Nat → List Int):Prop:=∀ k,2 ≤ k → s k = s 2 ∧ n k = n 2 ∧ F k = F 2 ∧ S k = S 2 ∧ es k = es 2 ∧ L k = L 2
section
variable {s:Nat → ByteArray} {n:Nat → Int} {v1 v2:Nat → Value} {F:Nat → List Nat} {S:Nat → List (Int × Int)} {es L:Nat → List Int} {h:TH} {lb:Nat} {el:Int}
theorem Tail3.some (t:Tail3 s n F S es L):∀ k,∃ j,j < 3 ∧ s k = s j ∧ n k = n j ∧ F k = F j ∧ S k = S j ∧ es k = es j ∧ L k = L j:=by
 intro k
 by_cases h0:k = 0
 ·subst h0;exact ⟨0,by decide,rfl,rfl,rfl,rfl,rfl,rfl⟩
 ·by_cases h1:k = 1
  ·subst h1;exact ⟨1,by decide,rfl,rfl,rfl,rfl,rfl,rfl⟩
  ·exact ⟨2,by decide,t k (by omega)⟩
end
end Go.Tidy
namespace Go.Tidy
open Go Go.Proofs Tab
variable {tp:TProg}
def optL (L:Rg):Option Operand → Option (Option Value)
 | none => some none
 | some x => (getL L x).map some
theorem optL_o {L:Rg} {a:Regs} (k:Kn L a) {x:Option Operand} {v:Option Value} (h:optL L x = some v):x.map a.eval = v:=by
 cases x with
 | none => cases h;rfl
 | some x =>
  simp only [optL,Option.map_eq_some_iff] at h
  obtain ⟨w,h1,rfl⟩:=h
  show some (a.eval x) = some w
  rw [getO_eval (k.o h1)]
section
variable {P:Program} {h:TH} {K:Regs → TH → Prop} {rest:List TOper} {d:Option Tmp} {ty:TypeId} {i:Nat} {x y:Operand} {t u e:TypeId} {L:Rg} {v vx:Value}
theorem WOL.slG {lo hi:Option Operand} {vlo vhi:Option Value} (hx:getL L x = some vx) (hp:plain vx = false) (hl:optL L lo = some vlo) (hh:optL L hi = some vhi) (hv:sliceT P t vx vlo vhi none h = some v) (w:∀ a,Kn (putL L d v) a → WO P tp rest a h K):∀ a,Kn L a → WO P tp (⟨d,.slice t x lo hi none,ty,none,[],i⟩ :: rest) a h K:=fun a k => by
 have e1:=getO_eval (k.o hx)
 have e2:=optL_o k hl
 have e3:=optL_o k hh
 refine WO.op (h1:=h) rfl rfl (fun call => ?_) (w _ (k.put d _))
 have hq:plainOp P ⟨d,.slice t x lo hi none,ty,none,[],i⟩ a.eval = none:=by
  unfold plainOp
  simp [plainly,Op.operands,e1,hp]
 simp only [stepOp,heapFirst,fastOp,valueOp,hq,heapOp,e1,e2,e3,Option.map_none,hv,Bool.cond_false]
 rfl
theorem sliceA {b off n l hh m:Nat} {z:List Value} {row:Bool} {cc:List Value} {wr:Bool} {el:TypeId} {lo hi:Option Value} (hu:P.underlying t = some (.array n e)) (he:Tp P e 1 z row) (hg:At h b (.cells cc true wr el)) (hc:cut3 n n lo hi none = some (l,hh,m)):sliceT P t (.pointer (some ⟨b,off,none⟩)) lo hi none h = some (.slice (some ⟨b,off + l,none⟩) (hh - l) (m - l)):=by
 obtain ⟨inf,q1,q2,_⟩:=he.i
 simp only [sliceT,hu,hc,Option.bind_some,q1,hg.get,q2,Nat.mul_one]
end
theorem u109:Try.prog.underlying 33 = some (.array 3 32):=by kernel_rfl
theorem fo111_0:fieldOff Try.prog 35 0 = some 0:=by kernel_rfl
theorem fo111_1:fieldOff Try.prog 35 1 = some 1:=by kernel_rfl
theorem fo111_2:fieldOff Try.prog 35 2 = some 2:=by kernel_rfl
theorem tp111:Tp Try.prog 35 5 [.int .i64 0,.int .i64 0,.float .f32 0,.float .f32 0,.float .f32 0] true:=tp_of (by kernel_rfl) (by kernel_rfl) rfl
theorem tp109:Tp Try.prog 33 3 [.float .f32 0,.float .f32 0,.float .f32 0] true:=tp_of (by kernel_rfl) (by kernel_rfl) rfl
def pak (s c:Int) (x y z:Nat):Value:=.agg #[zi s,zi c,.float .f32 x,.float .f32 y,.float .f32 z]
def pakE (s c:Int) (es:List Int):Int:=firstNZ [outB s 0 255,outB c 0 65535,firstNZ es]
section
variable {h:TH} {s c:Int} {x y z:Nat} {es:List Int}
theorem slR {b:Nat} {wr:Bool} {el:TypeId} (A:At h b (.cells [zi s,zi c,.float .f32 x,.float .f32 y,.float .f32 z] true wr el)):SlL encF 1 h (.slice (some ⟨b,2,none⟩) 3 3) [x,y,z] :=
 ⟨_,3,rfl,Nat.le_refl _,rfl,.inr ⟨b,2,_,_,_,_,rfl,A,rfl,Nat.le_of_ble_eq_true rfl⟩⟩
theorem k116 (H:Has tp) (X:HasX tp) (hE:SErr [x,y,z] es):CallW Try.prog tp (.func (.func 19) #[] #[]) #[pak s c x y z] h fun v h' => v = zi (pakE s c es) ∧ HX h h':=by
 refine CallW.fnL (H.fn 19 f116 rfl rfl) ?_
 refine WL.sr <| WOL.box rfl fun h1 N1 => WOL.as rfl <| WOL.nil <| keep [(1,_)] ⟨rfl,trivial⟩ ?_
 have A1:At h1 h.next (.cells [zi s,zi c,.float .f32 x,.float .f32 y,.float .f32 z] true true 35):=N1.at_
 refine WL.sr <| WOL.fa rfl (fa_of fo111_0) <| WOL.ld rfl (load_one tp3 A1 rfl) <| WOL.fa rfl (fa_of fo111_1) <| WOL.ld rfl (load_one tp3 A1 rfl) <| WOL.fa rfl (fa_of fo111_2) ?_
 refine WOL.slG rfl rfl rfl rfl (sliceA u109 tp25 A1 rfl) ?_
 refine WOL.lk3 rfl rfl rfl rfl fun M => ((k72 H s 0 255 _).mono ?_)
 rintro v h2 ⟨rfl,rfl⟩
 refine WOL.lk3 rfl rfl rfl rfl fun M2 => ((k72 H c 0 65535 _).mono ?_)
 rintro v h3 ⟨rfl,rfl⟩
 refine WOL.cl1 rfl rfl ((k99 H X (slR A1) hE (by simp)).mono ?_)
 rintro v h4 ⟨rfl,rfl⟩
 refine WOL.bsl rfl u166 tp30 (by decide) (by decide) (by decide) (filled_ints3 _ _ _) fun h5 N5 => ?_
 refine WOL.cl1 rfl rfl ((k71 H (l:=[_,_,_]) N5.at_.get (by simp)).mono ?_)
 rintro v h6 ⟨rfl,rfl⟩
 refine WOL.as rfl <| WOL.nil ?_
 exact WL.done rfl ⟨rfl,N1.hx.trans N5.hx⟩
end
theorem u106:Try.prog.underlying 36 = some (.array 20 5):=by kernel_rfl
theorem tp106:Tp Try.prog 36 20 (List.replicate 20 (.int .u8 0)) true:=tp_of (by kernel_rfl) (by kernel_rfl) rfl
section
variable {P:Program} {h:TH} {K:Regs → TH → Prop} {rest:List TOper} {d:Option Tmp} {ty:TypeId} {i:Nat} {x:Operand} {t e:TypeId} {L:Rg}
theorem WOL.sap {q:Addr} {n m c:Nat} (hu:P.underlying t = some (.array n e)) (hn:0 < n) (hm:n ≤ m) (hx:getL L x = some (.slice (some q) m c)) (w:∀ a,Kn (putL L d (.pointer (some q))) a → WO P tp rest a h K):∀ a,Kn L a → WO P tp (⟨d,.sliceToArrayPointer t x,ty,none,[],i⟩ :: rest) a h K:=fun a k => by
 have e1:=getO_eval (k.o hx)
 refine WO.op (h1:=h) rfl rfl (fun call => ?_) (w _ (k.put d _))
 have hq:plainOp P ⟨d,.sliceToArrayPointer t x,ty,none,[],i⟩ a.eval = none:=by
  unfold plainOp
  simp [plainly,Op.operands,e1,plain,plain1,plain0]
 have ha:arrayAtT P t (.slice (some q) m c) = some (.pointer (some q)):=by
  simp only [arrayAtT,hu]
  rw [ble_yes hm,show Nat.blt 0 n = true by rw [Nat.blt_eq];exact hn]
  rfl
 simp only [stepOp,heapFirst,fastOp,valueOp,hq,heapOp,e1,ha,Bool.cond_false]
end
def wd (x y z:Nat):Nat → Nat | 0 => x | 1 => y | _ => z
def bodyK (s c x y z:Nat) (k:Nat):List Nat:=[90,s] ++ bytesN c 2 ++ (List.range k).flatMap fun i => bytesN (wordF (wd x y z i)) 4
def bodyB (s c x y z:Nat):List Nat:=bodyK s c x y z 3
def frameB (s c x y z:Nat):List Nat:=bodyB s c x y z ++ bytesN (tot (bodyB s c x y z)).toNat 4
theorem bytesN_len {n k:Nat}:(bytesN n k).length = k:=by simp [bytesN]
theorem bytesN_byt {n k:Nat}:Byt (bytesN n k):=fun b hb => by
 unfold bytesN at hb
 obtain ⟨i,_,rfl⟩:=List.mem_map.1 hb
 exact Nat.mod_lt _ (by decide)
theorem bodyK_len {s c x y z:Nat}:∀ k,(bodyK s c x y z k).length = 4 + 4 * k:=by
 intro k
 have:∀ k,((List.range k).flatMap fun i => bytesN (wordF (wd x y z i)) 4).length = 4 * k:=by
  intro k
  induction k with
  | zero => rfl
  | succ k ih => rw [List.range_succ,List.flatMap_append,List.length_append,ih];simp [bytesN_len];omega
 unfold bodyK
 rw [List.length_append,List.length_append,this,bytesN_len]
 rfl
theorem bodyK_byt {s c x y z:Nat} (hs:s < 256):∀ k,Byt (bodyK s c x y z k):=by
 intro k b hb
 unfold bodyK at hb
 rw [List.mem_append,List.mem_append] at hb
 rcases hb with (hb | hb) | hb
 ·simp at hb;rcases hb with rfl | rfl <;> omega
 ·exact bytesN_byt b hb
 ·obtain ⟨i,_,hb⟩:=List.mem_flatMap.1 hb
  exact bytesN_byt b hb
theorem frameB_len {s c x y z:Nat}:(frameB s c x y z).length = 20:=by
 unfold frameB bodyB
 rw [List.length_append,bodyK_len,bytesN_len]
theorem idx109 {x y z k:Nat} (hk:k < 3):indexT Try.prog 33 (.agg #[.float .f32 x,.float .f32 y,.float .f32 z]) (zi (k:Nat)) = some (.float .f32 (wd x y z k)):=by
 have e0:indexT Try.prog 33 (.agg #[.float .f32 x,.float .f32 y,.float .f32 z]) (zi 0) = some (.float .f32 x):=by kernel_rfl
 have e1:indexT Try.prog 33 (.agg #[.float .f32 x,.float .f32 y,.float .f32 z]) (zi 1) = some (.float .f32 y):=by kernel_rfl
 have e2:indexT Try.prog 33 (.agg #[.float .f32 x,.float .f32 y,.float .f32 z]) (zi 2) = some (.float .f32 z):=by kernel_rfl
 obtain rfl | rfl | rfl:k = 0 ∨ k = 1 ∨ k = 2:=by omega
 ·exact e0
 ·exact e1
 ·exact e2
theorem OwnF.at_ {α:Type} {enc:α → List Value} {n0:Nat} {h:TH} {v:Value} {e:TypeId} {l:List α} (o:OwnF enc n0 h v e l) (hl:l ≠ []):∃ b fix,v = .slice (some ⟨b,0,none⟩) l.length l.length ∧ At h b (.cells (cat enc l) fix true e):=by
 rcases o with (⟨_,rfl⟩ | ⟨_,b,rfl,_,h3⟩) | ⟨b,rfl,_,h3⟩
 ·exact absurd rfl hl
 ·exact ⟨b,_,rfl,h3⟩
 ·exact ⟨b,_,rfl,h3⟩
section
variable {h:TH} {s c x y z:Nat}
set_option maxHeartbeats 2000000 in
set_option maxRecDepth 10000 in
theorem k117 (H:Has tp) (Y:HasY tp) (hs:s < 256) (hc:c < 65536) (hx:x < 4294967296) (hy:y < 4294967296) (hz:z < 4294967296) (f:Free0 h.next h) :
    CallW Try.prog tp (.func (.func 20) #[] #[]) #[pak s c x y z] h fun v h' => v = .agg (cat encY (frameB s c x y z)).toArray ∧ HX h h':=by
  have hw:∀ k,wd x y z k < 4294967296:=fun k => by unfold wd;split <;> assumption
  refine CallW.fnL (H.fn 20 f117 rfl rfl) ?_
  refine WL.sr <| WOL.box rfl fun h1 N1 => WOL.al tp106 fun h2 N2 => WOL.nil <| keep [(1,_),(2,_)] ⟨rfl,rfl,trivial⟩ ?_
  have A1:At h2 h.next (.cells [zi s,zi c,.float .f32 x,.float .f32 y,.float .f32 z] true true 35):=N1.at_.hx N2.hx
  have A2:=N2.at_
  have X2:=N1.hx.trans N2.hx
  have f2:=f.on X2
  refine WL.sr <| WOL.fa rfl (fa_of fo111_0) <| WOL.ld rfl (load_one tp3 A1 rfl) ?_
  refine WOL.cvw u3 u5 rfl ?_
  rw [u8_wrap,Int.emod_eq_of_lt (by omega) (by omega)]
  refine WOL.bsl rfl u116 tp5 (by decide) (by decide) (by decide) (cs:=cat encY [90,s]) rfl fun h3 N3 => ?_
  refine WOL.fa rfl (fa_of fo111_1) <| WOL.ld rfl (load_one tp3 (A1.hx N3.hx) rfl) ?_
  have O3:OwnF encY h2.next h3 (.slice (some ⟨h2.next,0,none⟩) 2 2) 5 [90,s]:=.inr ⟨_,rfl,Nat.le_refl _,N3.at_⟩
  refine WOL.cl3 rfl rfl rfl rfl ((k127 H (k:=2) O3 (by simp) (by decide) N3.hx (Nat.le_refl _) N3.hx.next f2).mono ?_)
  rintro w h4 ⟨X4,O4,n4⟩
  refine WOL.as rfl <| WOL.nil <| keep [(1,_),(2,_),(3,_)] ⟨rfl,rfl,rfl,trivial⟩ ?_
  refine WL.seq <| WL.sr <| WOL.fa rfl (fa_of fo111_2) ?_
  refine WOL.ld rfl (load_row tp109 (A1.hx X4) rfl (Nat.le_of_ble_eq_true rfl)) <| WOL.mv rfl <| WOL.nil <| keep [(1,_),(2,_),(3,_),(14,_),(15,_)] ⟨rfl,rfl,rfl,rfl,rfl,trivial⟩ ?_
  refine WL.block ?_
  have n3:=N3.hx.next
  refine WL.loop (fun q a g => ∃ (k:Nat) (w:Value),k ≤ 3 ∧ q = 3 - k ∧ HX h2 g ∧ OwnF encY h2.next g w 5 (bodyK s c x y z k) ∧ h2.next ≤ g.next ∧ Kn [(1,ptr h.next),(2,ptr h1.next),(3,w),(14,.agg #[.float .f32 x,.float .f32 y,.float .f32 z]),(15,zi (k:Nat))] a) 3 (fun a q => ⟨0,w,by omega,by omega,X4,by simpa [bodyK] using O4,by omega,q.sub ⟨rfl,rfl,rfl,rfl,rfl,trivial⟩⟩) ?_
  rintro q a g ⟨k,w,hk,rfl,X5,O5,n5,q⟩
  refine q.go ?_
  refine WL.sr <| WOL.bi (v:=.bool (decide ((k:Int) < 3))) rfl rfl rfl <| WOL.nil <| keep [(1,_),(2,_),(3,_),(14,_),(15,_),(16,_)] ⟨rfl,rfl,rfl,rfl,rfl,rfl,trivial⟩ ?_
  refine WL.seq ?_
  have lk:=bodyK_len (s:=s) (c:=c) (x:=x) (y:=y) (z:=z) k
  by_cases hk3:k < 3
  · rw [show decide ((k:Int) < 3) = true from decide_eq_true (by omega)]
    refine WL.yes rfl <| WL.skip ?_
    refine WL.seq <| WL.block ?_
    refine WL.sr <| WOL.idx rfl rfl (idx109 hk3) <| WOL.as rfl <| WOL.nil <| keep [(1,_),(2,_),(3,_),(5,_),(14,_),(15,_)] ⟨rfl,rfl,rfl,rfl,rfl,rfl,trivial⟩ ?_
    refine WL.reg <| WOL.mv rfl <| WOL.mv rfl ?_
    refine WOL.cl2 rfl rfl rfl ((k128 H Y (hw k) O5 (by omega) X5 (Nat.le_refl _) n5 f2).mono ?_)
    rintro w2 g2 ⟨X6,O6,n6⟩
    refine WOL.as rfl <| WOL.nil ?_
    refine WL.reg ?_
    refine WOL.bi (v:=zi ((k + 1:Nat):Int)) rfl rfl (by show some (Value.int .i64 (fwrap .i64 ((k:Int) + 1))) = _;rw [fwrap_i64 (by omega) (by omega)];rfl) ?_
    refine WOL.mv rfl <| WOL.nil ?_
    exact fun a q => ⟨3 - (k + 1),by omega,k + 1,w2,by omega,rfl,X6,by
      have e:bodyK s c x y z (k + 1) = bodyK s c x y z k ++ bytesN (wordF (wd x y z k)) 4:=by
        unfold bodyK
        rw [List.range_succ,List.flatMap_append,← List.append_assoc]
        simp
      rw [e];exact O6,by omega,q.sub ⟨rfl,rfl,rfl,rfl,rfl,trivial⟩⟩
  · rw [show decide ((k:Int) < 3) = false from decide_eq_false (by omega)]
    obtain rfl:k = 3:=by omega
    refine WL.no rfl <| WL.exit ?_
    have hb:=bodyK_byt (c:=c) (x:=x) (y:=y) (z:=z) hs 3
    obtain ⟨bo,ew⟩:=O5.form
    have sl:=O5.sl eY
    subst ew
    have ti:=tot_in (bodyK s c x y z 3) (bodyK s c x y z 3).length
    rw [List.take_length] at ti
    obtain ⟨T,hT⟩:∃ T:Nat,tot (bodyK s c x y z 3) = (T:Int):=⟨(tot (bodyK s c x y z 3)).toNat,by omega⟩
    refine WL.sr <| WOL.mv rfl <| WOL.mv rfl ?_
    refine WOL.cl1 rfl rfl ((k129 H sl hb (by omega) (f2.on X5)).mono ?_)
    rintro v g2 ⟨rfl,X6⟩
    have X7:=X5.trans X6
    rw [hT]
    refine WOL.cl3 rfl rfl rfl rfl ((k127 H (k:=4) (O5.hx X6) (by omega) (by decide) X7 (Nat.le_refl _) (by have:=X6.next;omega) f2).mono ?_)
    rintro w3 g3 ⟨X8,O8,n8⟩
    have e:bodyK s c x y z 3 ++ bytesN T 4 = frameB s c x y z:=by
      unfold frameB bodyB
      rw [hT,Int.toNat_natCast]
    rw [e] at O8
    have fl:=frameB_len (s:=s) (c:=c) (x:=x) (y:=y) (z:=z)
    obtain ⟨b,fix,rfl,B⟩:=O8.at_ (fun e => by rw [e] at fl;cases fl)
    have cl:(cat encY (frameB s c x y z)).length = 20:=by rw [eY.cat_len,fl]
    refine WOL.sap u106 (by decide) (by omega) rfl ?_
    refine WOL.ld rfl (load_row tp106 B (l:=cat encY (frameB s c x y z)) (by rw [List.drop_zero,List.take_of_length_le (by omega)]) (by omega)) ?_
    refine WOL.sto (vs:=cat encY (frameB s c x y z)) rfl rfl tp106 (A2.hx X8) rfl cl (Nat.le_of_ble_eq_true rfl) (eY.all _) (f.hx (X2.trans X8)) N1.hx.next fun g4 P4 => ?_
    have X9:=P4.hx _ (X2.trans X8) N1.hx.next
    have B4:=P4.at_
    rw [splice_all _ _ (by rw [cl];rfl)] at B4
    refine WOL.nil ?_
    exact WL.ret (WL.endC rfl (load_row tp106 B4 (l:=cat encY (frameB s c x y z)) (by rw [List.drop_zero,List.take_of_length_le (by omega)]) (by omega)) ⟨rfl,X9⟩)
end
end Go.Tidy
namespace Go.Tidy
open Go Go.Proofs Tab
variable {tp:TProg}
theorem cat_Y (l:List Nat):cat encY l = l.map fun b => Value.int .u8 (b:Nat):=by
 unfold cat
 induction l with
 | nil => rfl
 | cons b l ih => rw [List.flatMap_cons,ih];rfl
section
variable {P:Program}
theorem pv_part_at {t:TypeId} {k:IntKind} {xs:List Value} {i:Nat} {v:Value} (hu:P.underlying t = some (.int k)) (hv:xs[i]? = some v):pv P (Go.part t xs.toArray i) = some v:=by
 have e:pv P (isAgg t) = some false:=by unfold isAgg;simp [pv_bind,pv_underlying hu,pv_pure]
 unfold Go.part
 rw [pv_bind,e,Option.bind_some]
 simp only [Bool.false_eq_true,if_false,List.getElem?_toArray,hv]
 rfl
theorem pv_byte {d:Nat} {a b:Nat} (hu:P.underlying 5 = some (.int .u8)):pv P (Op.equalIn (d + 1) 5 (.int .u8 (a:Nat)) (.int .u8 (b:Nat))) = some (decide (a = b)):=by
 rw [Op.equalIn,pv_bind,pv_underlying hu,Option.bind_some]
 simp only [if_pos,pv_pure]
 congr 1
 by_cases h:a = b
 ·subst h;simp
 ·simp [h];omega
theorem pv_bytes {l l':List Nat} {d:Nat} (hu:P.underlying 5 = some (.int .u8)) (hs:pv P (sizeOf 5) = some 1) (hl:l.length = l'.length)
    (hp:∀ (m:List Nat) i b,m[i]? = some b → pv P (Go.part 5 (m.map fun b => Value.int .u8 (b:Nat)).toArray i) = some (.int .u8 (b:Nat))):∀ m i,i + m = l.length →
    pv P (forIn (List.range' i m) ((none,()):Option Bool × Unit) fun i __s => do
            let __do_lift ← Go.part 5 (l.map fun b => Value.int .u8 (b:Nat)).toArray (i * 1)
            let __do_lift_1 ← Go.part 5 (l'.map fun b => Value.int .u8 (b:Nat)).toArray (i * 1)
            let __do_lift ← Op.equalIn (d + 1) 5 __do_lift __do_lift_1
            if (!__do_lift) = true then pure (ForInStep.done (some false,()))
              else pure (ForInStep.yield (none,()))) = some (if l.drop i = l'.drop i then (none,()) else (some false,()))
  | 0,i,h => by
    rw [List.drop_of_length_le (by omega),List.drop_of_length_le (by omega),if_pos rfl]
    rfl
  | m + 1,i,h => by
    have ih:=pv_bytes (d:=d) hu hs hl hp m (i + 1) (by omega)
    have h1:i < l.length:=by omega
    have h2:i < l'.length:=by omega
    have e1:l[i]? = some l[i]:=List.getElem?_eq_getElem h1
    have e2:l'[i]? = some l'[i]:=List.getElem?_eq_getElem h2
    rw [List.range'_succ,List.forIn_cons,pv_bind,pv_bind,Nat.mul_one,hp _ _ _ e1,Option.bind_some,pv_bind,hp _ _ _ e2,Option.bind_some,pv_bind,pv_byte hu,Option.bind_some]
    rw [List.drop_eq_getElem_cons h1,List.drop_eq_getElem_cons h2]
    by_cases hb:l[i] = l'[i]
    · rw [decide_eq_true hb]
      simp only [Bool.not_true,Bool.false_eq_true,if_false,pv_pure,Option.bind_some]
      rw [ih,hb]
      by_cases hd:l.drop (i + 1) = l'.drop (i + 1)
      · rw [if_pos hd,if_pos (by rw [hd])]
      · rw [if_neg hd,if_neg fun e => hd (List.cons.inj e).2]
    · rw [decide_eq_false hb]
      simp only [Bool.not_false,if_true,pv_pure,Option.bind_some]
      rw [if_neg fun e => hb (List.cons.inj e).1]
end
theorem pv_s5:pv Try.prog (sizeOf 5) = some 1:=by kernel_rfl
theorem pv_eq106 {l l':List Nat} (h1:l.length = 20) (h2:l'.length = 20):pv Try.prog (Op.equal 36 (.agg (cat encY l).toArray) (.agg (cat encY l').toArray)) = some (decide (l = l')):=by
 rw [cat_Y,cat_Y]
 show pv Try.prog (Op.equalIn (9998 + 1 + 1) 36 _ _) = _
 rw [Op.equalIn,pv_bind,pv_underlying u106,Option.bind_some]
 simp only [Std.Legacy.Range.forIn_eq_forIn_range',Std.Legacy.Range.size,pv_bind,pv_s5,Option.bind_some]
 have e:=pv_bytes (P:=Try.prog) (l:=l) (l':=l') (d:=9998) u5 pv_s5 (by omega) (fun m i b hb => pv_part_at u5 (by rw [List.getElem?_map,hb];rfl)) 20 0 (by omega)
 rw [show (20 - 0 + 1 - 1) / 1 = 20 from rfl,e,Option.bind_some,List.drop_zero,List.drop_zero]
 by_cases h:l = l'
 ·rw [if_pos h,decide_eq_true h];rfl
 ·rw [if_neg h,decide_eq_false h];rfl
theorem WOL.ne106 {h:TH} {K:Regs → TH → Prop} {rest:List TOper} {d:Option Tmp} {ty:TypeId} {i:Nat} {x y:Operand} {u:TypeId} {L:Rg} {l l':List Nat} (h1:l.length = 20) (h2:l'.length = 20) (hx:getL L x = some (.agg (cat encY l).toArray)) (hy:getL L y = some (.agg (cat encY l').toArray))
    (w:∀ r,Kn (putL L d (.bool !decide (l = l'))) r → WO Try.prog tp rest r h K):∀ r,Kn L r → WO Try.prog tp (⟨d,.binOp .neq 36 x y u,ty,none,[],i⟩ :: rest) r h K:=by
  intro r k
  have ex:=getO_eval (k.o hx)
  have ey:=getO_eval (k.o hy)
  have px:∀ l:List Nat,plain (.agg (cat encY l).toArray) = true:=fun l => by
    rw [cat_Y]
    show ((l.map fun b => Value.int .u8 (b:Nat)).toArray.toList).all plain0 = true
    simp [plain0]
  refine WO.plainly rfl rfl rfl (by simp [fastOp,fastBin,ex,ey]) (by simp [valueOp,ex,ey,eqT_agg]) (plainOp_of (by rfl) (fun q hq => ?_) ?_ rfl) (w _ (k.put d _))
  · simp only [Op.operands] at hq
    simp at hq
    rcases hq with rfl | rfl
    · rw [ex];exact px l
    · rw [ey];exact px l'
  · show pv Try.prog (execOp r.eval ⟨d, .binOp .neq 36 x y u, ty, "", #[], none⟩) = _
    have hg:Try.prog.eqGuardType Try.prog.depth 36 = false:=by kernel_rfl
    simp [execOp,pv_bind,pv_map,pv_pure,pv_program,ex,ey,eqGuard,binOp,pv_eq106 h1 h2,hg]
end Go.Tidy
namespace Go.Tidy
open Go Go.Proofs Tab
variable {tp:TProg}
theorem lockOf_in:∀ (ls:List Operand) (a:Regs) (os:List (Option Nat)) (lk:List Nat),ls.map (fun x => (getO a x).map blockOf) = os.map some → ∀ l,l ∈ lockOf ls a.eval lk → some l ∈ os ∨ l ∈ lk
  | [],_,[],_,_,l,h => .inr h
  | [],_,_ :: _,_,e,_,_ => by simp at e
  | _ :: _,_,[],_,e,_,_ => by simp at e
  | x :: r,a,o :: os,lk,e,l,h => by
    simp only [List.map_cons,List.cons.injEq] at e
    obtain ⟨e1,e2⟩:=e
    rw [Option.map_eq_some_iff] at e1
    obtain ⟨v,e3,e4⟩:=e1
    unfold lockOf at h
    rw [getO_eval e3,e4] at h
    cases o with
    | none => exact (lockOf_in r a os lk e2 l h).imp (List.mem_cons_of_mem _) id
    | some b =>
      rcases List.mem_cons.1 h with rfl | h
      · exact .inl (List.mem_cons_self ..)
      · exact (lockOf_in r a os lk e2 l h).imp (List.mem_cons_of_mem _) id
theorem Free0.heldO {n:Nat} {M:List Nat} {h:TH} {os:List (Option Nat)} (f:Free0 n h) (hM:∀ l,l ∈ M → some l ∈ os ∨ l ∈ h.lock) (hb:∀ b,some b ∈ os → b < n):Free0 n (h.withLock M) :=
 ⟨f.floor,fun l hl => (hM l hl).elim (hb l) (f.lock l)⟩
section
variable {P:Program} {h:TH} {K:Regs → TH → Prop} {rest:List TOper} {d:Option Tmp} {ty:TypeId} {i:Nat} {L:Rg} {f x0 l0:Operand} {ls:List Operand} {fv v0:Value} {ts:Array TypeId}
theorem lockL_o {a:Regs} (k:Kn L a):∀ {l:List Operand} {os:List (Option Nat)},l.map (fun x => (getL L x).map blockOf) = os.map some → l.map (fun x => (getO a x).map blockOf) = os.map some
 | [],[],_ => rfl
 | [],_ :: _,e => by simp at e
 | _ :: _,[],e => by simp at e
 | x :: r,o :: os,e => by
  simp only [List.map_cons,List.cons.injEq] at e ⊢
  obtain ⟨e1,e2⟩:=e
  rw [Option.map_eq_some_iff] at e1
  obtain ⟨v,e3,e4⟩:=e1
  exact ⟨by rw [k.o e3];exact congrArg some e4,lockL_o k e2⟩
theorem WOL.lr1 (os:List (Option Nat)) (hb:(l0 :: ls).map (fun x => (getL L x).map blockOf) = os.map some) (hf:getL L f = some fv) (h0:getL L x0 = some v0) (w:∀ M,(∀ l,l ∈ M → some l ∈ os ∨ l ∈ h.lock) → CallW P tp fv #[v0] (h.withLock M) fun v h1 => ∀ a,Kn (putL L d v) a → WO P tp rest a (h1.withLock h.lock) K):∀ a,Kn L a → WO P tp (⟨d,.call ⟨.value f,#[x0],ts⟩,ty,none,l0 :: ls,i⟩ :: rest) a h K :=
 fun a k => WO.cons_lock rfl rfl (StepW.call (by
  rw [getO_eval (k.o hf)]
  simpa [getO_eval (k.o h0)] using (w _ (lockOf_in _ a os h.lock (lockL_o k hb))).mono fun _ _ q => k.nx q))
end
theorem bd106z:buildT Try.prog 36 [] = some (.agg (cat encY (List.replicate 20 0)).toArray):=by kernel_rfl
section
variable {h:TH} {s c:Int} {x y z:Nat} {es:List Int}
def encV (s c:Int) (x y z:Nat) (es:List Int):Value:=cond (pakE s c es != 0) (.tuple #[.agg (cat encY (List.replicate 20 0)).toArray,zi (pakE s c es)]) (.tuple #[.agg (cat encY (frameB s.toNat c.toNat x y z)).toArray,zi 0])
set_option maxRecDepth 10000 in
theorem k65 (H:Has tp) (X:HasX tp) (Y:HasY tp) (hE:SErr [x,y,z] es) (hx:x < 4294967296) (hy:y < 4294967296) (hz:z < 4294967296) (f:Free0 h.next h):CallW Try.prog tp (.func (.func 5) #[] #[]) #[pak s c x y z] h fun v h' => v = encV s c x y z es ∧ HX h h':=by
 refine CallW.fnL (H.fn 5 f65 rfl rfl) ?_
 refine WL.sr <| WOL.box rfl fun h1 N1 => WOL.al tp106 fun h2 N2 => WOL.as rfl <| WOL.nil <| keep [(1,_),(2,_)] ⟨rfl,rfl,trivial⟩ ?_
 have A1:At h2 h.next (.cells [zi s,zi c,.float .f32 x,.float .f32 y,.float .f32 z] true true 35):=N1.at_.hx N2.hx
 have X2:=N1.hx.trans N2.hx
 refine WL.seq <| WL.sr <| WOL.ld rfl (load_row tp111 A1 rfl (Nat.le_of_ble_eq_true rfl)) ?_
 refine WOL.cl1 rfl rfl ((k116 H X hE (s:=s) (c:=c)).mono ?_)
 rintro v h3 ⟨rfl,X3⟩
 have Y3:=X2.trans X3
 refine WOL.as rfl <| WOL.nil <| keep [(1,_),(2,_),(4,_)] ⟨rfl,rfl,rfl,trivial⟩ ?_
 refine WL.sr <| WOL.mv rfl <| WOL.bi rfl rfl nzero <| WOL.nil <| keep [(1,_),(2,_),(4,_),(8,_)] ⟨rfl,rfl,rfl,rfl,trivial⟩ ?_
 rcases nz_cases (pakE s c es) with h0 | h0
 ·rw [h0]
  refine WL.no rfl <| WL.skip ?_
  have z0:=firstNZ_zero h0
  have z1:=outB_zero (z0 _ (List.mem_cons_self ..))
  have z2:=outB_zero (z0 _ (List.mem_cons_of_mem _ (List.mem_cons_self ..)))
  obtain ⟨s,rfl⟩:∃ n:Nat,s = (n:Int):=⟨s.toNat,by omega⟩
  obtain ⟨c,rfl⟩:∃ n:Nat,c = (n:Int):=⟨c.toNat,by omega⟩
  refine WL.sr <| WOL.ld rfl (load_row tp111 (A1.hx X3) rfl (Nat.le_of_ble_eq_true rfl)) ?_
  refine WOL.cl1 rfl rfl ((k117 H Y (by omega) (by omega) hx hy hz (f.on Y3)).mono ?_)
  rintro v h4 ⟨rfl,X4⟩
  have Y4:=Y3.trans X4
  have fl:=frameB_len (s:=s) (c:=c) (x:=x) (y:=y) (z:=z)
  have cl:(cat encY (frameB s c x y z)).length = 20:=by rw [eY.cat_len,fl]
  refine WOL.sto (vs:=cat encY (frameB s c x y z)) rfl rfl tp106 ((N2.at_.hx X3).hx X4) rfl cl (Nat.le_of_ble_eq_true rfl) (eY.all _) (f.hx Y4) N1.hx.next fun h5 P5 => ?_
  have B5:=P5.at_
  rw [splice_all _ _ (by rw [cl];rfl)] at B5
  refine WOL.as rfl <| WOL.nil ?_
  refine WL.ret (WL.endC1 rfl rfl (load_row tp106 B5 (l:=cat encY (frameB s c x y z)) (by rw [List.drop_zero,List.take_of_length_le (by omega)]) (by omega)) ⟨?_,P5.hx _ Y4 N1.hx.next⟩)
  unfold encV
  rw [h0,Int.toNat_natCast,Int.toNat_natCast]
  rfl
 ·rw [h0]
  refine WL.yes rfl <| WL.sr ?_
  refine WOL.bd rfl bd106z <| WOL.mv rfl ?_
  refine WOL.sto (vs:=cat encY (List.replicate 20 0)) rfl rfl tp106 (N2.at_.hx X3) rfl rfl (Nat.le_of_ble_eq_true rfl) (eY.all _) (f.hx Y3) N1.hx.next fun h5 P5 => ?_
  refine WOL.as rfl <| WOL.nil ?_
  refine WL.ret (WL.endC1 rfl rfl (load_row tp106 P5.at_ rfl (Nat.le_of_ble_eq_true rfl)) ⟨?_,P5.hx _ Y3 N1.hx.next⟩)
  unfold encV
  rw [h0]
  rfl
end
end Go.Tidy
namespace Go.Tidy
open Go Go.Proofs Tab
variable {tp:TProg}
def srcB (l:List Nat):Nat:=l.getD 1 0
def cntB (l:List Nat):Nat:=numB ((l.drop 2).take 2)
def wrdB (l:List Nat) (i:Nat):Nat:=numB ((l.drop (4 + 4 * i)).take 4)
def decE (l:List Nat) (es:List Int):Int:=firstNZ [cond ((l.getD 0 0:Int) != 90) 1 0,cond (((numB (l.drop 16):Nat):Int) != tot (l.take 16)) 27 0,firstNZ es,cond (!decide (frameB (srcB l) (cntB l) (wrdB l 0) (wrdB l 1) (wrdB l 2) = l)) 1 0]
def decV (l:List Nat) (es:List Int):Value:=cond (decE l es != 0) (.tuple #[pak 0 0 0 0 0,zi (decE l es)]) (.tuple #[pak (srcB l) (cntB l) (wrdB l 0) (wrdB l 1) (wrdB l 2),zi 0])
theorem Byt.drop {l:List Nat} (h:Byt l) (k:Nat):Byt (l.drop k):=fun b hb => h b (List.mem_of_mem_drop hb)
theorem Byt.take {l:List Nat} (h:Byt l) (k:Nat):Byt (l.take k):=fun b hb => h b (List.mem_of_mem_take hb)
theorem numB_lt' {l:List Nat} {k:Nat} (h:Byt l) (hl:l.length ≤ k):numB l < 256 ^ k:=by
 have:=numB_lt h l.length (Nat.le_refl _)
 rw [List.take_length] at this
 exact Nat.lt_of_lt_of_le this (Nat.pow_le_pow_right (by decide) hl)
theorem wrdB_lt {l:List Nat} (h:Byt l) (i:Nat):wrdB l i < 4294967296:=numB_lt' (k:=4) ((h.drop _).take 4) (by rw [List.length_take];omega)
theorem cntB_lt {l:List Nat} (h:Byt l):cntB l < 65536:=numB_lt' (k:=2) ((h.drop _).take 2) (by rw [List.length_take];omega)
section
variable {h:TH} {l:List Nat} {b:Nat} {fix wr:Bool} {el:TypeId}
theorem slY {lo hi m:Nat} (A:At h b (.cells (cat encY l) fix wr el)) (h1:lo ≤ hi) (h2:hi ≤ l.length) (h3:hi ≤ m):SlL encY 1 h (.slice (some ⟨b,0 + lo,none⟩) (hi - lo) (m - lo)) ((l.drop lo).take (hi - lo)):=by
 have e:((l.drop lo).take (hi - lo)).length = hi - lo:=by rw [List.length_take,List.length_drop];omega
 refine ⟨_,m - lo,by rw [e],by omega,by rw [eY.cat_len],.inr ⟨b,0 + lo,_,_,_,_,rfl,A,?_,?_⟩⟩
 ·rw [e,Nat.zero_add]
  have:=eY.part l lo (hi - lo)
  rw [Nat.mul_one,Nat.mul_one] at this
  rw [Nat.mul_one]
  exact this
 ·rw [e,eY.cat_len];omega
end
theorem ix106_0 {c:Nat}:indexAddrT Try.prog 36 (.pointer (some ⟨c,0,none⟩)) (.int .i64 0) = some (.pointer (some ⟨c,0,none⟩)):=by kernel_rfl
theorem ix106_1 {c:Nat}:indexAddrT Try.prog 36 (.pointer (some ⟨c,0,none⟩)) (.int .i64 1) = some (.pointer (some ⟨c,1,none⟩)):=by kernel_rfl
theorem ix109 {c k:Nat} (hk:k < 3):indexAddrT Try.prog 33 (.pointer (some ⟨c,2,none⟩)) (zi (k:Nat)) = some (.pointer (some ⟨c,2 + k,none⟩)):=by
 have e0:indexAddrT Try.prog 33 (.pointer (some ⟨c,2,none⟩)) (zi 0) = some (.pointer (some ⟨c,2,none⟩)):=by kernel_rfl
 have e1:indexAddrT Try.prog 33 (.pointer (some ⟨c,2,none⟩)) (zi 1) = some (.pointer (some ⟨c,3,none⟩)):=by kernel_rfl
 have e2:indexAddrT Try.prog 33 (.pointer (some ⟨c,2,none⟩)) (zi 2) = some (.pointer (some ⟨c,4,none⟩)):=by kernel_rfl
 obtain rfl | rfl | rfl:k = 0 ∨ k = 1 ∨ k = 2:=by omega
 ·exact e0
 ·exact e1
 ·exact e2
theorem bd111 {a b:Int}:buildT Try.prog 35 [(0,.int .i64 a),(1,.int .i64 b)] = some (pak a b 0 0 0):=by kernel_rfl
theorem bd111z:buildT Try.prog 35 [] = some (pak 0 0 0 0 0):=by kernel_rfl
theorem cut_at {k:Nat} (hk:k < 3):cut3 20 20 (some (zi ((4 + 4 * k:Nat):Int))) (some (zi ((8 + 4 * k:Nat):Int))) none = some (4 + 4 * k,8 + 4 * k,20):=by
 obtain rfl | rfl | rfl:k = 0 ∨ k = 1 ∨ k = 2:=by omega
 ·rfl
 ·rfl
 ·rfl
def pr (w:Nat → Nat) (k i:Nat):Nat:=cond (Nat.blt i k) (w i) 0
def pakC (s c:Int) (w:Nat → Nat) (k:Nat):List Value:=[zi s,zi c,.float .f32 (pr w k 0),.float .f32 (pr w k 1),.float .f32 (pr w k 2)]
theorem pakC_next {s c:Int} {w:Nat → Nat} {k:Nat} (hk:k < 3):splice (pakC s c w k) (2 + k) [.float .f32 (w k)] = pakC s c w (k + 1):=by
 obtain rfl | rfl | rfl:k = 0 ∨ k = 1 ∨ k = 2:=by omega
 ·rfl
 ·rfl
 ·rfl
section
variable {h:TH} {l:List Nat} {es:List Int}
set_option maxHeartbeats 4000000 in
set_option maxRecDepth 10000 in
theorem k153 (H:Has tp) (X:HasX tp) (Y:HasY tp) (hl:l.length = 20) (hb:Byt l) (hE:SErr [wrdB l 0,wrdB l 1,wrdB l 2] es) (f:Free0 h.next h):CallW Try.prog tp (.func (.func 48) #[] #[]) #[.agg (cat encY l).toArray] h fun v h' => v = decV l es ∧ HX h h':=by
 refine CallW.fnL (H.fn 48 f153 rfl rfl) ?_
 have cl:(cat encY l).length = 20:=by rw [eY.cat_len,hl]
 refine WL.sr <| WOL.box rfl fun h1 N1 => WOL.al tp111 fun h2 N2 => WOL.as rfl <| WOL.nil <| keep [(1,_),(2,_)] ⟨rfl,rfl,trivial⟩ ?_
 have A1:At h2 h.next (.cells (cat encY l) true true 36):=N1.at_.hx N2.hx
 have X2:=N1.hx.trans N2.hx
 have n1:=N1.next
 have n2:=N2.next
 have b0:=hb.at 0
 have b1:=hb.at 1
 have cg:∀ j,j < 20 → (cat encY l)[j]? = some (.int .u8 (l.getD j 0:Nat)):=fun j hj => by
  rw [cat_Y,List.getElem?_map,List.getD_eq_getElem?_getD,List.getElem?_eq_getElem (by omega:j < l.length)]
  rfl
 refine WL.sr <| WOL.ix rfl rfl ix106_1 ?_
 refine WOL.ld rfl (load_one tp5 A1 (cg 1 (by decide))) <| WOL.convU u5 u3 rfl (by omega) (by omega) ?_
 refine WOL.slG rfl rfl rfl rfl (sliceA u106 tp5 A1 (l:=2) (hh:=4) (m:=20) rfl) ?_
 refine WOL.al tp111 fun h3 N3 => ?_
 have n3:=N3.next
 have X3:=X2.trans N3.hx
 refine WOL.lr1 [some h2.next,none,none,some h.next] rfl rfl rfl fun M hM => ((k170 H ((slY (lo:=2) (hi:=4) (m:=20) A1 (by decide) (by omega) (by decide)).hx N3.hx |>.relock M) ((hb.drop 2).take _) (by rw [List.length_take];omega) ((f.on X3).heldO hM (fun b hb => by simp at hb;omega))).mono ?_)
 rintro v h4 ⟨rfl,X4⟩
 replace X4:=X4.relock
 generalize h4.withLock h3.lock = h4 at *
 have Y4:=X3.trans X4
 have x4:=X4.next
 refine WOL.bd rfl bd111 ?_
 refine WOL.sto rfl rfl tp111 (N3.at_.hx X4) rfl rfl (Nat.le_of_ble_eq_true rfl) rfl (f.hx Y4) (by omega) fun h5 P5 => ?_
 have Y5:=P5.hx _ Y4 (by omega)
 have n5:=P5.next
 have A15:At h5 h.next (.cells (cat encY l) true true 36):=P5.oth _ _ (by omega) ((A1.hx N3.hx).hx X4)
 have A25:=P5.oth h1.next _ (by omega) ((N2.at_.hx N3.hx).hx X4)
 have A45:At h5 h2.next (.cells (pakC (srcB l) (cntB l) (wrdB l) 0) true true 35):=P5.at_
 refine WOL.nil <| keep [(1,_),(2,_),(4,_)] ⟨rfl,rfl,rfl,trivial⟩ ?_
 refine WL.seq <| WL.sr <| WOL.mv rfl <| WOL.nil <| keep [(1,_),(2,_),(4,_),(15,_)] ⟨rfl,rfl,rfl,rfl,trivial⟩ ?_
 refine WL.block ?_
 refine WL.loop (fun q a g => ∃ k:Nat,k ≤ 3 ∧ q = 3 - k ∧ HX h g ∧ h2.next < g.next ∧ At g h.next (.cells (cat encY l) true true 36) ∧ At g h1.next (.cells [.int .i64 0,.int .i64 0,.float .f32 0,.float .f32 0,.float .f32 0] true true 35) ∧ At g h2.next (.cells (pakC (srcB l) (cntB l) (wrdB l) k) true true 35) ∧ Kn [(1,ptr h.next),(2,ptr h1.next),(4,ptr h2.next),(15,zi (k:Nat))] a) 3 (fun a q => ⟨0,by omega,by omega,Y5,A45.lt,A15,A25,A45,q.sub ⟨rfl,rfl,rfl,rfl,trivial⟩⟩) ?_
 rintro q a g ⟨k,hk,rfl,X6,hg,B1,B2,B4,q⟩
 refine q.go ?_
 refine WL.sr <| WOL.bi (v:=.bool (decide ((k:Int) < 3))) rfl rfl rfl <| WOL.nil <| keep [(1,_),(2,_),(4,_),(15,_),(16,_)] ⟨rfl,rfl,rfl,rfl,rfl,trivial⟩ ?_
 refine WL.seq ?_
 by_cases hk3:k < 3
 ·rw [show decide ((k:Int) < 3) = true from decide_eq_true (by omega)]
  refine WL.yes rfl <| WL.skip ?_
  refine WL.seq <| WL.block ?_
  refine WL.sr <| WOL.mv rfl <| WOL.as rfl <| WOL.nil <| keep [(1,_),(2,_),(4,_),(5,_),(15,_)] ⟨rfl,rfl,rfl,rfl,rfl,trivial⟩ ?_
  refine WL.sr <| WOL.mv rfl ?_
  refine WOL.bi (v:=zi ((4 * k:Nat):Int)) rfl rfl (by show some (Value.int .i64 (fwrap .i64 (4 * (k:Int)))) = _;rw [fwrap_i64 (by omega) (by omega)];rfl) ?_
  refine WOL.bi (v:=zi ((4 + 4 * k:Nat):Int)) rfl rfl (by show some (Value.int .i64 (fwrap .i64 (4 + ((4 * k:Nat):Int)))) = _;rw [fwrap_i64 (by omega) (by omega)];congr 2) ?_
  refine WOL.as rfl <| WOL.nil <| keep [(1,_),(2,_),(4,_),(5,_),(6,_),(15,_)] ⟨rfl,rfl,rfl,rfl,rfl,rfl,trivial⟩ ?_
  refine WL.reg <| WOL.mv rfl <| WOL.mv rfl <| WOL.mv rfl ?_
  refine WOL.bi (v:=zi ((8 + 4 * k:Nat):Int)) rfl rfl (by show some (Value.int .i64 (fwrap .i64 (((4 + 4 * k:Nat):Int) + 4))) = _;rw [fwrap_i64 (by omega) (by omega)];congr 2;omega) ?_
  refine WOL.slG rfl rfl rfl rfl (sliceA u106 tp5 B1 (cut_at hk3)) ?_
  have sl:=slY (lo:=4 + 4 * k) (hi:=8 + 4 * k) (m:=20) B1 (by omega) (by omega) (by omega)
  rw [show 8 + 4 * k - (4 + 4 * k) = 4 by omega] at sl ⊢
  refine WOL.cl1 rfl rfl ((k171 H Y sl ((hb.drop _).take _) (by rw [List.length_take,List.length_drop];omega) (f.on X6)).mono ?_)
  rintro v g2 ⟨rfl,X7⟩
  have Y7:=X6.trans X7
  have x7:=X7.next
  refine WOL.fa rfl (fa_of fo111_2) <| WOL.ix rfl rfl (ix109 hk3) ?_
  refine WOL.sto rfl rfl tp25 (B4.hx X7) rfl rfl (by show 2 + k + 1 ≤ 5;omega) rfl (f.hx Y7) (by omega) fun g3 P3 => ?_
  have C4:At g3 h2.next (.cells (splice (pakC (srcB l) (cntB l) (wrdB l) k) (2 + k) [.float .f32 (wrdB l k)]) true true 35):=P3.at_
  rw [pakC_next hk3] at C4
  have p3:=P3.next
  refine WOL.nil ?_
  refine WL.reg ?_
  refine WOL.bi (v:=zi ((k + 1:Nat):Int)) rfl rfl (by show some (Value.int .i64 (fwrap .i64 ((k:Int) + 1))) = _;rw [fwrap_i64 (by omega) (by omega)];rfl) ?_
  refine WOL.mv rfl <| WOL.nil ?_
  exact fun a q => ⟨3 - (k + 1),by omega,k + 1,by omega,rfl,P3.hx _ Y7 (by omega),by omega,P3.oth _ _ (by omega) (B1.hx X7),P3.oth _ _ (by omega) (B2.hx X7),C4,q.sub ⟨rfl,rfl,rfl,rfl,trivial⟩⟩
 ·rw [show decide ((k:Int) < 3) = false from decide_eq_false (by omega)]
  obtain rfl:k = 3:=by omega
  refine WL.no rfl <| WL.exit ?_
  have B4':At g h2.next (.cells [zi (srcB l),zi (cntB l),.float .f32 (wrdB l 0),.float .f32 (wrdB l 1),.float .f32 (wrdB l 2)] true true 35):=B4
  have w0:=wrdB_lt hb 0
  have w1:=wrdB_lt hb 1
  have w2:=wrdB_lt hb 2
  have cc:=cntB_lt hb
  have ss:srcB l < 256:=b1
  refine WL.sr ?_
  refine WOL.slG rfl rfl rfl rfl (sliceA u106 tp5 B1 (l:=0) (hh:=16) (m:=20) rfl) ?_
  refine WOL.as rfl <| WOL.nil <| keep [(1,_),(2,_),(4,_),(7,_)] ⟨rfl,rfl,rfl,rfl,trivial⟩ ?_
  refine WL.sr <| WOL.ix rfl rfl ix106_0 ?_
  refine WOL.ld rfl (load_one tp5 B1 (cg 0 (by decide))) ?_
  refine WOL.bi (v:=.bool ((l.getD 0 0:Int) != 90)) rfl rfl rfl ?_
  refine WOL.slG rfl rfl rfl rfl (sliceA u106 tp5 B1 (l:=16) (hh:=20) (m:=20) rfl) ?_
  refine WOL.mv rfl <| WOL.fa rfl (fa_of fo111_2) ?_
  refine WOL.slG rfl rfl rfl rfl (sliceA u109 tp25 B4' rfl) ?_
  refine WOL.ld rfl (load_row tp111 B4' rfl (Nat.le_of_ble_eq_true rfl)) ?_
  refine WOL.ld rfl (load_row tp106 B1 (l:=cat encY l) (by rw [List.drop_zero,List.take_of_length_le (by omega)]) (by omega)) ?_
  refine WOL.lk2 rfl rfl rfl fun M => ((k77 H _ 1 _).mono ?_)
  rintro v g2 ⟨rfl,rfl⟩
  have s16:=slY (lo:=16) (hi:=20) (m:=20) B1 (by decide) (by omega) (by decide)
  have s0:=slY (lo:=0) (hi:=16) (m:=20) B1 (by decide) (by omega) (by decide)
  rw [show ((l.drop 16).take (20 - 16)) = l.drop 16 from List.take_of_length_le (by rw [List.length_drop];omega)] at s16
  rw [List.drop_zero] at s0
  refine WOL.lr1 [some h.next,some h2.next,some h2.next] rfl rfl rfl fun M hM => ((k170 H (s16.relock M) (hb.drop 16) (by rw [List.length_drop];omega) ((f.on X6).heldO hM (fun b hb => by simp at hb;have:=B1.lt;omega))).mono ?_)
  rintro v g3 ⟨rfl,X7⟩
  replace X7:HX g (g3.withLock g.lock):=X7.relock
  show ∀ a,Kn _ a → WO _ _ _ a (g3.withLock g.lock) _
  generalize g3.withLock g.lock = g3 at *
  have Y7:=X6.trans X7
  have h1lt:=B1.lt
  refine WOL.lr1 [some h.next,some h2.next,some h2.next] rfl rfl rfl fun M hM => ((k129 H ((s0.hx X7).relock M) (hb.take _) (by rw [List.length_take];omega) ((f.on Y7).heldO hM (fun b hb => by simp at hb;have:=X7.next;omega))).mono ?_)
  rintro v g4 ⟨rfl,X8⟩
  replace X8:HX g3 (g4.withLock g3.lock):=X8.relock
  show ∀ a,Kn _ a → WO _ _ _ a (g4.withLock g3.lock) _
  generalize g4.withLock g3.lock = g4 at *
  have Z8:=X7.trans X8
  have Y8:=X6.trans Z8
  refine WOL.bi (v:=.bool (((numB (l.drop 16):Nat):Int) != tot (l.take 16))) rfl rfl rfl ?_
  refine WOL.lk2 rfl rfl rfl fun M => ((k77 H _ 27 _).mono ?_)
  rintro v g5 ⟨rfl,rfl⟩
  refine WOL.lk1 rfl rfl fun M => ((k99 H X ((slR (B4'.hx Z8)).relock M) hE (by simp)).mono ?_)
  rintro v g5 ⟨rfl,rfl⟩
  show ∀ a,Kn _ a → WO _ _ _ a g4 _
  refine WOL.lr1 [some h.next] rfl rfl rfl fun M hM => ((k117 H Y (h:=g4.withLock M) (s:=srcB l) (c:=cntB l) (x:=wrdB l 0) (y:=wrdB l 1) (z:=wrdB l 2) ss cc w0 w1 w2 ((f.on Y8).heldO hM (fun b hb => by simp at hb;have:=Z8.next;omega))).mono ?_)
  rintro v g5 ⟨rfl,X9⟩
  replace X9:HX g4 (g5.withLock g4.lock):=X9.relock
  show ∀ a,Kn _ a → WO _ _ _ a (g5.withLock g4.lock) _
  generalize g5.withLock g4.lock = g5 at *
  have Z9:=Z8.trans X9
  have Y9:=X6.trans Z9
  refine WOL.ne106 frameB_len hl rfl rfl ?_
  refine WOL.cl2 rfl rfl rfl ((k77 H _ 1 _).mono ?_)
  rintro v g6 ⟨rfl,rfl⟩
  refine WOL.bsl rfl u166 tp30 (by decide) (by decide) (by decide) (cs:=[_,_,_,_].map (.int .i64)) rfl fun g7 N7 => ?_
  have Z10:=Z9.trans N7.hx
  have Y10:=X6.trans Z10
  refine WOL.cl1 rfl rfl ((k71 H (l:=[_,_,_,_]) N7.at_.get (by simp)).mono ?_)
  rintro v g8 ⟨rfl,rfl⟩
  show ∀ a,Kn _ a → WO _ _ _ a _ _
  have B2':=B2.hx Z10
  have B4'':=B4'.hx Z10
  refine WOL.as rfl <| WOL.nil <| keep [(1,_),(2,_),(4,_),(8,_)] ⟨rfl,rfl,rfl,rfl,trivial⟩ ?_
  refine WL.seq <| WL.sr <| WOL.mv rfl <| WOL.bi rfl rfl nzero <| WOL.nil <| keep [(1,_),(2,_),(4,_),(8,_),(52,_)] ⟨rfl,rfl,rfl,rfl,rfl,trivial⟩ ?_
  show ∀ a,Kn [(1,_),(2,_),(4,_),(8,zi (decE l es)),(52,.bool (decE l es != 0))] a → _
  rcases nz_cases (decE l es) with h0 | h0
  ·rw [h0]
   refine WL.no rfl <| WL.skip ?_
   refine WL.sr <| WOL.ld rfl (load_row tp111 B4'' rfl (Nat.le_of_ble_eq_true rfl)) ?_
   refine WOL.sto rfl rfl tp111 B2' rfl rfl (Nat.le_of_ble_eq_true rfl) rfl (f.hx Y10) (by omega) fun g9 P9 => ?_
   refine WOL.as rfl <| WOL.nil ?_
   refine WL.ret (WL.endC1 rfl rfl (load_row tp111 P9.at_ rfl (Nat.le_of_ble_eq_true rfl)) ⟨?_,P9.hx _ Y10 (by omega)⟩)
   unfold decV
   rw [h0]
   rfl
  ·rw [h0]
   refine WL.yes rfl <| WL.sr <| WOL.bd rfl bd111z <| WOL.mv rfl ?_
   refine WOL.sto rfl rfl tp111 B2' rfl rfl (Nat.le_of_ble_eq_true rfl) rfl (f.hx Y10) (by omega) fun g9 P9 => ?_
   refine WOL.as rfl <| WOL.nil ?_
   refine WL.ret (WL.endC1 rfl rfl (load_row tp111 P9.at_ rfl (Nat.le_of_ble_eq_true rfl)) ⟨?_,P9.hx _ Y10 (by omega)⟩)
   unfold decV
   rw [h0]
   rfl
end
end Go.Tidy
namespace Go.Tidy
open Go Go.Proofs Tab
variable {tp:TProg}
section
variable {P:Program} {h:TH} {α:Type} {enc:α → List Value} {n0 n:Nat} {v v2:Value} {e:TypeId} {l m:List α} {z:List Value} {row:Bool}
end
section
variable {P:Program} {h:TH} {K:Regs → TH → Prop} {rest:List TOper} {d:Option Tmp} {ty:TypeId} {i:Nat} {L:Rg} {f x0 x1 l0:Operand} {ls:List Operand} {fv v0 v1:Value} {ts:Array TypeId}
end
theorem OwnL.relock {α:Type} {enc:α → List Value} {n0:Nat} {h:TH} {v:Value} {e:TypeId} {l:List α} (o:OwnL enc n0 h v e l) (M:List Nat):OwnL enc n0 (h.withLock M) v e l:=o.imp id fun ⟨h0,b,h1,h2,h3⟩ => ⟨h0,b,h1,h2,h3.relock M⟩
section
variable {h:TH} {s c x y z:Nat}
end
end Go.Tidy
namespace Go.Tidy
open Go Go.Proofs Tab
variable {tp:TProg}
def hdF (l:List Nat):Int:=firstNZ [cond ((l.getD 0 0:Int) != 90) 1 0,cond (((numB (l.drop 16):Nat):Int) != tot (l.take 16)) 27 0]
def badW (l:List Nat):Nat → Bool
 | 0 => false
 | k + 1 => cond (badW l k) true (((wrdB l k:Nat):Int) == 2147483648)
def tlF (l:List Nat) (es:List Int):Int:=firstNZ [firstNZ es,cond (badW l 3) 1 0]
def decF (l:List Nat) (es:List Int):Int:=cond (hdF l != 0) (hdF l) (tlF l es)
def decR (l:List Nat) (es:List Int):Value:=cond (decF l es != 0) (.tuple #[pak 0 0 0 0 0,zi (decF l es)]) (.tuple #[pak (srcB l) (cntB l) (wrdB l 0) (wrdB l 1) (wrdB l 2),zi 0])
section
variable {h:TH} {l:List Nat} {es:List Int}
end
end Go.Tidy
namespace Go.Tidy
open Go Go.Proofs Tab
theorem numB_div {l:List Nat} (hb:Byt l):∀ d j,j + d = l.length → numB l / 256 ^ d = numB (l.take j)
 | 0,j,h => by
  rw [List.take_of_length_le (by omega),Nat.pow_zero,Nat.div_one]
 | d + 1,j,h => by
  rw [Nat.pow_succ,← Nat.div_div_eq_div_mul,numB_div hb d (j + 1) (by omega),numB_step (by omega)]
  have:=hb.at j
  omega
theorem bytesB {m:List Nat} (hb:Byt m):bytesN (numB m) m.length = m:=by
 refine List.ext_getElem bytesN_len fun i h1 h2 => ?_
 have e:(bytesN (numB m) m.length)[i] = bytN (numB m) m.length i:=by simp [bytesN]
 rw [e]
 unfold bytN
 rw [show (2:Nat) ^ (8 * (m.length - 1 - i)) = 256 ^ (m.length - 1 - i) by rw [Nat.pow_mul],numB_div hb (m.length - 1 - i) (i + 1) (by omega),numB_step h2]
 have:=hb.at i
 rw [List.getD_eq_getElem?_getD,List.getElem?_eq_getElem h2] at this ⊢
 simp only [Option.getD_some] at this ⊢
 omega
theorem bytesB' {m:List Nat} {k:Nat} (hb:Byt m) (hk:m.length = k):bytesN (numB m) k = m:=hk ▸ bytesB hb
theorem wordF_id {w:Nat} (h:w < 4294967296) (hn:(((w:Nat):Int) == 2147483648) = false):wordF w = w:=by
 have:¬ (w:Int) = 2147483648:=by simpa using hn
 unfold wordF zeroF
 by_cases h0:w % 2147483648 = 0
 ·rw [decide_eq_true h0]
  show 0 = w
  omega
 ·rw [decide_eq_false h0];rfl
theorem wordF_bad {w:Nat} (hn:(((w:Nat):Int) == 2147483648) = true):w = 2147483648 ∧ wordF w = 0:=by
 have:(w:Int) = 2147483648:=by simpa using hn
 obtain rfl:w = 2147483648:=by omega
 exact ⟨rfl,rfl⟩
theorem part_f {s c x y z:Nat} {k:Nat} (hk:k < 3):((frameB s c x y z).drop (4 + 4 * k)).take 4 = bytesN (wordF (wd x y z k)) 4:=by
 obtain rfl | rfl | rfl:k = 0 ∨ k = 1 ∨ k = 2:=by omega
 ·rfl
 ·rfl
 ·rfl
theorem cut_body (l:List Nat) (hl:l.length = 20):l.take 16 = [l.getD 0 0,l.getD 1 0] ++ (l.drop 2).take 2 ++ (l.drop 4).take 4 ++ (l.drop 8).take 4 ++ (l.drop 12).take 4:=by
 match l,hl with
 | [_,_,_,_,_,_,_,_,_,_,_,_,_,_,_,_,_,_,_,_],_ => rfl
theorem bad_at {l:List Nat} (h:badW l 3 = true):∃ k,k < 3 ∧ (((wrdB l k:Nat):Int) == 2147483648) = true:=by
 by_cases h0:(((wrdB l 0:Nat):Int) == 2147483648) = true
 ·exact ⟨0,by decide,h0⟩
 by_cases h1:(((wrdB l 1:Nat):Int) == 2147483648) = true
 ·exact ⟨1,by decide,h1⟩
 by_cases h2:(((wrdB l 2:Nat):Int) == 2147483648) = true
 ·exact ⟨2,by decide,h2⟩
 rw [Bool.not_eq_true] at h0 h1 h2
 unfold badW badW badW badW at h
 rw [h0,h1,h2] at h
 cases h
theorem bad_not {l:List Nat} (h:badW l 3 = false):∀ k,k < 3 → (((wrdB l k:Nat):Int) == 2147483648) = false:=by
 unfold badW badW badW badW at h
 intro k hk
 cases h0:(((wrdB l 0:Nat):Int) == 2147483648) <;> rw [h0] at h <;> try cases h
 cases h1:(((wrdB l 1:Nat):Int) == 2147483648) <;> rw [h1] at h <;> try cases h
 obtain rfl | rfl | rfl:k = 0 ∨ k = 1 ∨ k = 2:=by omega
 ·exact h0
 ·exact h1
 ·exact h
theorem wd_wrd {l:List Nat} {k:Nat} (hk:k < 3):wd (wrdB l 0) (wrdB l 1) (wrdB l 2) k = wrdB l k:=by
 obtain rfl | rfl | rfl:k = 0 ∨ k = 1 ∨ k = 2:=by omega
 ·rfl
 ·rfl
 ·rfl
theorem again {l:List Nat} (hl:l.length = 20) (hb:Byt l) (h90:l.getD 0 0 = 90) (ht:((numB (l.drop 16):Nat):Int) = tot (l.take 16)):(!decide (frameB (srcB l) (cntB l) (wrdB l 0) (wrdB l 1) (wrdB l 2) = l)) = badW l 3:=by
 cases h:badW l 3 with
 | true =>
  obtain ⟨k,hk,hw⟩:=bad_at h
  obtain ⟨e1,e2⟩:=wordF_bad hw
  rw [decide_eq_false]
  ·rfl
  intro e
  have p:=part_f (s:=srcB l) (c:=cntB l) (x:=wrdB l 0) (y:=wrdB l 1) (z:=wrdB l 2) hk
  rw [e,wd_wrd hk,e2] at p
  have q:wrdB l k = numB (bytesN 0 4):=by rw [← p];rfl
  rw [e1] at q
  exact absurd q (by decide)
 | false =>
  have nb:=bad_not h
  have e0:=wordF_id (wrdB_lt hb 0) (nb 0 (by decide))
  have e1:=wordF_id (wrdB_lt hb 1) (nb 1 (by decide))
  have e2:=wordF_id (wrdB_lt hb 2) (nb 2 (by decide))
  have hB:bodyB (srcB l) (cntB l) (wrdB l 0) (wrdB l 1) (wrdB l 2) = l.take 16:=by
   have:bodyB (srcB l) (cntB l) (wrdB l 0) (wrdB l 1) (wrdB l 2) = [90,srcB l] ++ bytesN (cntB l) 2 ++ bytesN (wordF (wrdB l 0)) 4 ++ bytesN (wordF (wrdB l 1)) 4 ++ bytesN (wordF (wrdB l 2)) 4:=rfl
   rw [this,e0,e1,e2,cut_body l hl,h90]
   unfold srcB cntB wrdB
   rw [bytesB' (k:=2) ((hb.drop _).take _) (by simp [hl]),bytesB' (k:=4) ((hb.drop _).take _) (by simp [hl]),bytesB' (k:=4) ((hb.drop _).take _) (by simp [hl]),bytesB' (k:=4) ((hb.drop _).take _) (by simp [hl])]
  have hF:frameB (srcB l) (cntB l) (wrdB l 0) (wrdB l 1) (wrdB l 2) = l:=by
   unfold frameB
   rw [hB,← ht,Int.toNat_natCast,bytesB' (k:=4) (hb.drop _) (by simp [hl]),List.take_append_drop]
  rw [decide_eq_true hF]
  rfl
theorem decE_eq {l:List Nat} {es:List Int} (hl:l.length = 20) (hb:Byt l):decE l es = decF l es:=by
 unfold decE decF tlF hdF
 by_cases h0:(l.getD 0 0:Int) = 90
 ·rw [show ((l.getD 0 0:Int) != 90) = false by rw [h0];rfl]
  by_cases h1:((numB (l.drop 16):Nat):Int) = tot (l.take 16)
  ·rw [show (((numB (l.drop 16):Nat):Int) != tot (l.take 16)) = false by simp [h1],again hl hb (by omega) h1]
   rfl
  ·rw [show (((numB (l.drop 16):Nat):Int) != tot (l.take 16)) = true by simp [h1]]
   rfl
 ·rw [show ((l.getD 0 0:Int) != 90) = true from bne_iff_ne.2 h0]
  rfl
theorem decV_eq {l:List Nat} {es:List Int} (hl:l.length = 20) (hb:Byt l):decV l es = decR l es:=by
 unfold decV decR
 rw [decE_eq hl hb]
end Go.Tidy
namespace Go.Tidy
open Go Go.Proofs Tab
variable {tp:TProg}
abbrev Pkt:=Int × Int × Nat × Nat × Nat
def encP (p:Pkt):List Value:=[zi p.1,zi p.2.1,.float .f32 p.2.2.1,.float .f32 p.2.2.2.1,.float .f32 p.2.2.2.2]
def pakP (p:Pkt):Value:=pak p.1 p.2.1 p.2.2.1 p.2.2.2.1 p.2.2.2.2
theorem eP:Enc encP 5:=⟨fun _ => rfl,fun _ => rfl⟩
def PE (p:Pkt) (e:Int):Prop:=∃ es,SErr [p.2.2.1,p.2.2.2.1,p.2.2.2.2] es ∧ e = pakE p.1 p.2.1 es
def PErr (l:List Pkt) (E:List Int):Prop:=l.length = E.length ∧ ∀ (i:Nat) (p:Pkt) (e:Int),l[i]? = some p → E[i]? = some e → PE p e
theorem u113:Try.prog.underlying 43 = some (.slice 35):=by kernel_rfl
section
variable {h:TH} {p:Pkt} {v:Value} {l:List Pkt} {E:List Int}
theorem k151 (H:Has tp) {n:Int} (h0:0 ≤ n) (h1:n < 65536):CallW Try.prog tp (.func (.func 49) #[] #[]) #[zi n] h fun v h' => v = zi ((n + 1) % 65536) ∧ h' = h:=by
 refine CallW.fnL (H.fn 49 f151 rfl rfl) ?_
 refine WL.sr <| WOL.as rfl <| WOL.nil <| keep [(0,_)] ⟨rfl,trivial⟩ ?_
 refine WL.sr <| WOL.mv rfl <| WOL.add (m:=n) (n:=1) rfl rfl (by omega) (by omega) ?_
 refine WOL.rem (m:=n + 1) (n:=65536) rfl rfl (by omega) (by decide) ?_
 refine WOL.as rfl <| WOL.nil ?_
 exact WL.done rfl ⟨rfl,rfl⟩
def chkE (n:Nat) (E:List Int):Int:=cond (decide ((n:Int) > 1024)) 5 (firstNZ E)
end
end Go.Tidy
namespace Go.Tidy
open Go Go.Proofs Tab
variable {tp:TProg}
theorem cat_I:∀ l:List Int,cat encI l = l.map (.int .i64)
 | [] => rfl
 | x :: l => by
  show encI x ++ cat encI l = _
  rw [cat_I l];rfl
theorem ms_I (m:Nat):(List.replicate m [Value.int .i64 0]).flatten = cat encI (List.replicate m 0):=by
 rw [cat_I,List.map_replicate]
 induction m with
 | zero => rfl
 | succ m ih => rw [List.replicate_succ,List.flatten_cons,ih,List.replicate_succ];rfl
theorem ixS {P:Program} {t e:TypeId} {z:List Value} {row:Bool} {b off n c j:Nat} (hu:P.underlying t = some (.slice e)) (he:Tp P e 1 z row) (hj:j < n):indexAddrT P t (.slice (some ⟨b,off,none⟩) n c) (zi (j:Nat)) = some (.pointer (some ⟨b,off + j,none⟩)):=by
 obtain ⟨inf,q1,q2,_⟩:=he.i
 have h0:(0:Int) ≤ (j:Int):=by omega
 have h1:(j:Int) < (n:Int):=by omega
 simp [indexAddrT,hu,h0,h1,q1,q2,hj]
section
variable {h:TH} {v:Value} {l:List Pkt} {E:List Int}
theorem k118 (H:Has tp) (X:HasX tp) (s:SlL encP 5 h v l) (hE:PErr l E) (hl:l.length ≤ 1000000) (f:Free0 h.next h):CallW Try.prog tp (.func (.func 23) #[] #[]) #[v,.func (.func 19) #[] #[]] h fun w h' => HX h h' ∧ ∃ b,w = .slice (some ⟨b,0,none⟩) E.length E.length ∧ At h' b (.cells (E.map (.int .i64)) true true 37) ∧ h.next ≤ b:=by
 refine CallW.fnL (H.fn 23 f118 rfl rfl) ?_
 refine WL.sr <| WOL.as rfl <| WOL.nil <| keep [(0,_),(1,_)] ⟨rfl,rfl,trivial⟩ ?_
 refine WL.sr <| WOL.mv rfl <| WOL.len rfl s u113 ?_
 refine WOL.ms rfl rfl u166 tp30 (by decide) (by omega) fun h1 N1 => WOL.as rfl <| WOL.nil <| keep [(0,_),(1,_),(5,_)] ⟨rfl,rfl,rfl,trivial⟩ ?_
 have n1:=N1.next
 have A1:=N1.at_
 rw [ms_I,hE.1] at A1
 refine WL.seq <| WL.sr <| WOL.mv rfl <| WOL.len rfl (s.hx N1.hx) u113 <| WOL.mv rfl <| WOL.nil <| keep [(1,_),(5,_),(11,_),(12,_),(13,_)] ⟨rfl,rfl,rfl,rfl,rfl,trivial⟩ ?_
 refine WL.block ?_
 refine WL.loop (fun q a g => ∃ j:Nat,j ≤ l.length ∧ q = l.length - j ∧ HX h g ∧ At g h.next (.cells (cat encI (E.take j ++ List.replicate (E.length - j) 0)) true true 37) ∧ h.next < g.next ∧ Kn [(1,.func (.func 19) #[] #[]),(5,.slice (some ⟨h.next,0,none⟩) l.length l.length),(11,v),(12,zi (l.length:Nat)),(13,zi (j:Nat))] a) l.length (fun a q => ⟨0,by omega,by omega,N1.hx,A1,by omega,q.sub ⟨rfl,rfl,rfl,rfl,rfl,trivial⟩⟩) ?_
 rintro q a g ⟨j,hj,rfl,X1,B1,m1,q⟩
 refine q.go ?_
 refine WL.sr <| WOL.bi (v:=.bool (decide ((j:Int) < (l.length:Int)))) rfl rfl rfl <| WOL.nil <| keep [(1,_),(5,_),(11,_),(12,_),(13,_),(14,_)] ⟨rfl,rfl,rfl,rfl,rfl,rfl,trivial⟩ ?_
 refine WL.seq ?_
 by_cases hlt:j < l.length
 ·rw [show decide ((j:Int) < (l.length:Int)) = true from decide_eq_true (by omega)]
  refine WL.yes rfl <| WL.skip ?_
  have hp:l[j]? = some l[j]:=List.getElem?_eq_getElem hlt
  have hlE:j < E.length:=hE.1 ▸ hlt
  have hpE:E[j]? = some E[j]:=List.getElem?_eq_getElem hlE
  obtain ⟨b,o,cc,fix,wr,el,g1,g2,g3,g4,g5⟩:=(s.hx X1).at eP u113 tp111 hp .i64
  refine WL.seq <| WL.block ?_
  refine WL.sr <| WOL.mv rfl <| WOL.ix rfl rfl g1 <| WOL.ld rfl (load_row tp111 g2 g4 g3) ?_
  refine WOL.al tp111 fun h2 N2 => WOL.as rfl ?_
  have X2:=X1.trans N2.hx
  have n2:=N2.next
  refine WOL.sto (vs:=encP l[j]) rfl rfl tp111 N2.at_ rfl rfl (Nat.le_of_ble_eq_true rfl) rfl (f.hx X2) (by omega) fun h3 P3 => ?_
  have X3:=P3.hx _ X2 (by omega)
  have n3:=P3.next
  have A3:At h3 g.next (.cells (encP l[j]) true true 35):=P3.at_
  have B3:=P3.oth _ _ (by omega) (B1.hx N2.hx)
  refine WOL.nil <| keep [(1,_),(5,_),(6,_),(7,_),(11,_),(12,_),(13,_)] ⟨rfl,rfl,rfl,rfl,rfl,rfl,rfl,trivial⟩ ?_
  refine WL.reg <| WOL.mv rfl <| WOL.mv rfl <| WOL.mv rfl <| WOL.ld rfl (load_row tp111 A3 rfl (Nat.le_of_ble_eq_true rfl)) ?_
  obtain ⟨es,hes,he⟩:=hE.2 j _ _ hp hpE
  refine WOL.cl1 rfl rfl ((k116 H X hes).mono ?_)
  rintro w h4 ⟨rfl,X4⟩
  rw [← he]
  have X5:=X3.trans X4
  have n4:=X4.next
  refine WOL.ix rfl rfl (ixS u166 tp30 hlt) ?_
  have lE:(E.take j ++ List.replicate (E.length - j) 0).length = E.length:=by rw [List.length_append,List.length_take,List.length_replicate];omega
  refine WOL.sto (vs:=encI E[j]) rfl rfl tp30 (B3.hx X4) rfl rfl (by rw [eI.cat_len,lE];omega) rfl (f.hx X5) (Nat.le_refl _) fun h5 P5 => ?_
  have B5:=P5.at_
  have X6:=P5.hx _ X5 (Nat.le_refl _)
  have n5:=P5.next
  have hs:=eI.set (l:=E.take j ++ List.replicate (E.length - j) 0) (i:=j) (by omega) E[j]
  rw [Nat.mul_one] at hs
  rw [Nat.zero_add,hs,fill_set E 0 j hlE] at B5
  refine WOL.nil <| keep [(1,_),(5,_),(11,_),(12,_),(13,_)] ⟨rfl,rfl,rfl,rfl,rfl,trivial⟩ ?_
  refine WL.reg ?_
  refine WOL.bi (v:=zi ((j + 1:Nat):Int)) rfl rfl (by show some (Value.int .i64 (fwrap .i64 ((j:Int) + 1))) = _;rw [fwrap_i64 (by omega) (by omega)];rfl) ?_
  refine WOL.mv rfl <| WOL.nil ?_
  exact fun a q => ⟨l.length - (j + 1),by omega,j + 1,by omega,rfl,X6,B5,by omega,q.sub ⟨rfl,rfl,rfl,rfl,rfl,trivial⟩⟩
 ·rw [show decide ((j:Int) < (l.length:Int)) = false from decide_eq_false (by omega)]
  obtain rfl:j = l.length:=by omega
  refine WL.no rfl <| WL.exit ?_
  refine WL.sr <| WOL.mv rfl <| WOL.as rfl <| WOL.nil ?_
  rw [hE.1,Nat.sub_self,List.replicate_zero,List.append_nil,List.take_length,cat_I] at B1
  exact WL.done rfl ⟨X1,_,by rw [hE.1];rfl,B1,Nat.le_refl _⟩
end
end Go.Tidy
namespace Go.Tidy
open Go Go.Proofs Tab
variable {tp:TProg}
def gapN (a c:Nat):Nat:=(c + 65535 - a) % 65536
def seqAt (a j:Nat):Nat:=(a + 1 + j) % 65536
def gap (a c:Nat):List Int:=(List.range (gapN a c)).map fun j => ((seqAt a j:Nat):Int)
def more (o:Option Nat) (c:Nat):List Int:=match o with | none => [] | some a => gap a c
def lstep (src:Int) (st:Option Nat × List Int) (p:Pkt):Option Nat × List Int:=cond (p.1 != src) st (some p.2.1.toNat,st.2 ++ more st.1 p.2.1.toNat)
def lostS (src:Int) (l:List Pkt):Option Nat × List Int:=l.foldl (lstep src) (none,[])
theorem lostS_step {src:Int} {l:List Pkt} {j:Nat} (hj:j < l.length):lostS src (l.take (j + 1)) = lstep src (lostS src (l.take j)) l[j]:=by
 unfold lostS
 rw [List.take_succ_eq_append_getElem hj,List.foldl_append]
 rfl
theorem lost_grow {src:Int}:∀ (r:List Pkt) (st:Option Nat × List Int),st.2.length ≤ (r.foldl (lstep src) st).2.length
  | [],_ => Nat.le_refl _
  | p :: r,st => by
    refine Nat.le_trans ?_ (lost_grow r (lstep src st p))
    unfold lstep
    cases p.1 != src
    · show st.2.length ≤ (st.2 ++ _).length
      rw [List.length_append];omega
    · exact Nat.le_refl _
theorem lost_le {src:Int} {l:List Pkt} (j:Nat):(lostS src (l.take j)).2.length ≤ (lostS src l).2.length:=by
 conv => rhs;rw [← List.take_append_drop j l]
 unfold lostS
 rw [List.foldl_append]
 exact lost_grow _ _
theorem seq_end {a c t:Nat} (ha:a < 65536) (hc:c < 65536) (ht:t ≤ gapN a c):(((seqAt a t:Nat):Int) != (c:Int)) = decide (t < gapN a c):=by
 unfold seqAt gapN at *
 by_cases h:t < (c + 65535 - a) % 65536
 ·rw [decide_eq_true h,bne_iff_ne]
  omega
 ·rw [decide_eq_false h]
  have e:(((a + 1 + t) % 65536:Nat):Int) = (c:Int):=by omega
  rw [e,bne_self_eq_false]
theorem seq_next {a t:Nat}:(((seqAt a t:Nat):Int) + 1) % 65536 = ((seqAt a (t + 1):Nat):Int):=by
 unfold seqAt
 omega
theorem gap_len {a c:Nat}:(gap a c).length = gapN a c:=by simp [gap]
theorem gap_next {a c t:Nat} (h:t < gapN a c):(gap a c).take (t + 1) = (gap a c).take t ++ [((seqAt a t:Nat):Int)]:=by
 rw [List.take_succ_eq_append_getElem (by rw [gap_len];exact h)]
 simp [gap]
section
variable {h:TH} {v:Value} {l:List Pkt} {src:Int}
def LostA (L:List Int) (n0:Nat) (h:TH) (w:Value) (e:Int):Prop:=(L.length ≤ 256 ∧ e = 0 ∧ OwnL encI n0 h w 3 L) ∨ (256 < L.length ∧ e = 5 ∧ w = .slice none 0 0)
end
end Go.Tidy
namespace Go.Tidy
open Go Go.Proofs Tab
variable {tp:TProg}
theorem pv_none111:pv Try.prog (Op.equal 35 (pak (-1) 0 0 0 0) (pak (-1) 0 0 0 0)) = some true:=by kernel_rfl
theorem pv_some111 {n:Nat} {c:Int} {x y z:Nat}:pv Try.prog (Op.equal 35 (pak (n:Nat) c x y z) (pak (-1) 0 0 0 0)) = some false:=by kernel_rfl
def NoNan (p:Pkt):Prop:=nanB .f32 p.2.2.1 = false ∧ nanB .f32 p.2.2.2.1 = false ∧ nanB .f32 p.2.2.2.2 = false
theorem pakP_plain {p:Pkt} (h:NoNan p):plain (pakP p) = true:=by
 obtain ⟨h1,h2,h3⟩:=h
 simp [pakP,pak,plain,plain1,plain0,h1,h2,h3]
def noP:Pkt:=(-1,0,0,0,0)
theorem noP_plain:plain (pakP noP) = true:=by decide
theorem WOL.eq111 {h:TH} {K:Regs → TH → Prop} {rest:List TOper} {d:Option Tmp} {ty:TypeId} {i:Nat} {x y:Operand} {u:TypeId} {L:Rg} {p q:Pkt} {b:Bool} (hp:plain (pakP p) = true) (hp2:plain (pakP q) = true) (hb:pv Try.prog (Op.equal 35 (pakP p) (pakP q)) = some b) (hx:getL L x = some (pakP p)) (hy:getL L y = some (pakP q))
    (w:∀ r,Kn (putL L d (.bool b)) r → WO Try.prog tp rest r h K):∀ r,Kn L r → WO Try.prog tp (⟨d,.binOp .eql 35 x y u,ty,none,[],i⟩ :: rest) r h K:=by
  intro r k
  have ex:=getO_eval (k.o hx)
  have ey:=getO_eval (k.o hy)
  have eg:eqT Try.prog 35 (pakP p) (pakP q) = none:=eqT_agg
  refine WO.plainly rfl rfl rfl (by simp [fastOp,fastBin,ex,ey,pakP,pak]) (by simp [valueOp,ex,ey,eg]) (plainOp_of (by rfl) (fun q hq => ?_) ?_ rfl) (w _ (k.put d _))
  · simp only [Op.operands] at hq
    simp at hq
    rcases hq with rfl | rfl
    · rw [ex];exact hp
    · rw [ey];exact hp2
  · show pv Try.prog (execOp r.eval ⟨d, .binOp .eql 35 x y u, ty, "", #[], none⟩) = _
    have hg:Try.prog.eqGuardType Try.prog.depth 35 = false:=by kernel_rfl
    unfold pakP pak at hb ex ey
    simp [execOp,pv_bind,pv_map,pv_pure,pv_program,ex,ey,eqGuard,binOp,hb,hg]
theorem bd111n:buildT Try.prog 35 [(0,.int .i64 (-1))] = some (pakP noP):=by kernel_rfl
def PkOk (p:Pkt):Prop:=0 ≤ p.1 ∧ 0 ≤ p.2.1 ∧ p.2.1 < 65536 ∧ NoNan p
def PrevIs (o:Option Nat) (p:Pkt):Prop:=match o with | none => p = noP | some a => PkOk p ∧ p.2.1 = (a:Int)
theorem eq_prev {o:Option Nat} {p:Pkt} (h:PrevIs o p):plain (pakP p) = true ∧ pv Try.prog (Op.equal 35 (pakP p) (pakP noP)) = some o.isNone:=by
 cases o with
 | none => obtain rfl:p = noP:=h;exact ⟨noP_plain,pv_none111⟩
 | some a =>
  obtain ⟨⟨h1,_,_,h4⟩,_⟩:=h
  refine ⟨pakP_plain h4,?_⟩
  obtain ⟨s,c,x,y,z⟩:=p
  obtain ⟨n,rfl⟩:∃ n:Nat,s = (n:Int):=⟨s.toNat,by simp at h1;omega⟩
  exact pv_some111
section
variable {h:TH} {v:Value} {l:List Pkt} {src:Int}
def LostB (L:List Int) (n0:Nat) (h:TH) (w:Value) (b:Bool):Prop:=(L.length ≤ 256 ∧ b = true ∧ OwnL encI n0 h w 3 L) ∨ (256 < L.length ∧ b = false)
set_option maxHeartbeats 4000000 in
theorem k119 (H:Has tp) (s:SlL encP 5 h v l) (hl:l.length ≤ 1000000) (hk:∀ p,p ∈ l → PkOk p) (f:Free0 h.next h):CallW Try.prog tp (.func (.func 26) #[] #[]) #[v,zi src] h fun w h' => HX h h' ∧ ∃ w1 b,w = .tuple #[w1,.bool b] ∧ LostB (lostS src l).2 h.next h' w1 b:=by
  refine CallW.fnL (H.fn 26 f119 rfl rfl) ?_
  refine WL.sr <| WOL.as rfl <| WOL.as rfl <| WOL.nil <| keep [(0,_),(1,_)] ⟨rfl,rfl,trivial⟩ ?_
  refine WL.sr <| WOL.as rfl <| WOL.nil <| keep [(0,_),(1,_),(6,_)] ⟨rfl,rfl,rfl,trivial⟩ ?_
  refine WL.sr <| WOL.as rfl <| WOL.nil <| keep [(0,_),(1,_),(6,_),(7,_)] ⟨rfl,rfl,rfl,rfl,trivial⟩ ?_
  refine WL.sr <| WOL.bd rfl bd111n <| WOL.al tp111 fun h1 N1 => ?_
  have n1:=N1.next
  refine WOL.sto (vs:=encP noP) rfl rfl tp111 N1.at_ rfl rfl (Nat.le_of_ble_eq_true rfl) rfl (f.hx N1.hx) (Nat.le_refl _) fun h2 P2 => WOL.nil <| keep [(0,_),(1,_),(6,_),(7,_),(8,_)] ⟨rfl,rfl,rfl,rfl,rfl,trivial⟩ ?_
  have X2:=P2.hx _ N1.hx (Nat.le_refl _)
  have n2:=P2.next
  have A2:At h2 h.next (.cells (encP noP) true true 35):=P2.at_
  refine WL.sr <| WOL.ld rfl (load_row tp111 A2 rfl (Nat.le_of_ble_eq_true rfl)) <| WOL.al tp111 fun h3 N3 => ?_
  have n3:=N3.next
  have X3:=X2.trans N3.hx
  refine WOL.sto (vs:=encP noP) rfl rfl tp111 N3.at_ rfl rfl (Nat.le_of_ble_eq_true rfl) rfl (f.hx X3) (by omega) fun h4 P4 => WOL.nil <| keep [(0,_),(1,_),(6,_),(7,_),(8,_),(9,_)] ⟨rfl,rfl,rfl,rfl,rfl,rfl,trivial⟩ ?_
  have X4:=P4.hx _ X3 (by omega)
  have n4:=P4.next
  have A4:At h4 h2.next (.cells (encP noP) true true 35):=P4.at_
  have B4:=P4.oth h.next _ (by omega) (A2.hx N3.hx)
  refine WL.seq <| WL.skip ?_
  refine WL.seq <| WL.sr <| WOL.mv rfl <| WOL.len rfl (s.hx X4) u113 <| WOL.mv rfl <| WOL.nil <| keep [(1,_),(6,_),(7,_),(8,_),(9,_),(15,_),(16,_),(17,_)] ⟨rfl,rfl,rfl,rfl,rfl,rfl,rfl,rfl,trivial⟩ ?_
  refine WL.block ?_
  refine WL.loop (fun q a g => ∃ (j:Nat) (w:Value) (p0:Pkt),j ≤ l.length ∧ q = l.length - j ∧ HX h g ∧ OwnL encI (h2.next + 1) g w 3 (lostS src (l.take j)).2 ∧ h2.next + 1 ≤ g.next ∧ (lostS src (l.take j)).2.length ≤ 256 ∧ PrevIs (lostS src (l.take j)).1 p0 ∧ At g h.next (.cells (encP noP) true true 35) ∧ At g h2.next (.cells (encP p0) true true 35) ∧ Kn [(1,zi src),(6,w),(7,.bool true),(8,ptr h.next),(9,ptr h2.next),(15,v),(16,zi (l.length:Nat)),(17,zi (j:Nat))] a) l.length (fun a q => ⟨0,_,noP,by omega,by omega,X4,OwnL.nil,by omega,Nat.zero_le _,rfl,B4,A4,q.sub ⟨rfl,rfl,rfl,rfl,rfl,rfl,rfl,rfl,trivial⟩⟩) ?_
  rintro q a g ⟨j,w,p0,hj,rfl,X1,O1,m1,l1,hp0,C8,C9,q⟩
  refine q.go ?_
  refine WL.sr <| WOL.bi (v:=.bool (decide ((j:Int) < (l.length:Int)))) rfl rfl rfl <| WOL.nil <| keep [(1,_),(6,_),(7,_),(8,_),(9,_),(15,_),(16,_),(17,_),(18,_)] ⟨rfl,rfl,rfl,rfl,rfl,rfl,rfl,rfl,rfl,trivial⟩ ?_
  refine WL.seq ?_
  by_cases hlt:j < l.length
  · rw [show decide ((j:Int) < (l.length:Int)) = true from decide_eq_true (by omega)]
    refine WL.yes rfl <| WL.skip ?_
    have hp:l[j]? = some l[j]:=List.getElem?_eq_getElem hlt
    have hk1:=hk l[j] (List.getElem_mem hlt)
    have es:=lostS_step (src:=src) hlt
    have gr:=lost_le (src:=src) (l:=l) (j + 1)
    obtain ⟨o,acc,hS⟩:∃ o acc,lostS src (l.take j) = (o,acc):=⟨_,_,rfl⟩
    rw [hS] at es O1 l1 hp0
    generalize l[j] = p at hp hk1 es
    obtain ⟨c,hc⟩:∃ c:Nat,p.2.1 = (c:Int):=⟨p.2.1.toNat,by have:=hk1.2.1;omega⟩
    have hcl:c < 65536:=by have:=hk1.2.2.1;omega
    refine WL.seq <| WL.block ?_
    obtain ⟨b,o',cc,fix,wr,el,g1,g2,g3,g4,g5⟩:=(s.hx X1).at eP u113 tp111 hp .i64
    refine WL.sr <| WOL.ix rfl rfl g1 <| WOL.ld rfl (load_row tp111 g2 g4 g3) ?_
    refine WOL.al tp111 fun h5 N5 => ?_
    have n5:=N5.next
    have X5:=X1.trans N5.hx
    refine WOL.sto (vs:=encP p) rfl rfl tp111 N5.at_ rfl rfl (Nat.le_of_ble_eq_true rfl) rfl (f.hx X5) (by omega) fun h6 P6 => ?_
    have X6:=P6.hx _ X5 (by omega)
    have n6:=P6.next
    have A6:At h6 g.next (.cells (encP p) true true 35):=P6.at_
    have D8:=P6.oth h.next _ (by omega) (C8.hx N5.hx)
    have D9:=P6.oth h2.next _ (by omega) (C9.hx N5.hx)
    have O6:OwnL encI (h2.next + 1) h6 w 3 acc:=O1.keep fun c y hcc hA => P6.oth c y (by have:=hA.lt;omega) (hA.hx N5.hx)
    refine WOL.nil <| keep [(1,_),(6,_),(7,_),(8,_),(9,_),(11,_),(15,_),(16,_),(17,_)] ⟨rfl,rfl,rfl,rfl,rfl,rfl,rfl,rfl,rfl,trivial⟩ ?_
    refine WL.seq <| WL.sr <| WOL.fa rfl (fa_of fo111_0) <| WOL.ld rfl (load_one tp3 A6 rfl) <| WOL.mv rfl <| WOL.bi (v:=.bool (p.1 != src)) rfl rfl rfl <| WOL.nil <| keep [(1,_),(6,_),(7,_),(8,_),(9,_),(11,_),(15,_),(16,_),(17,_),(24,_)] ⟨rfl,rfl,rfl,rfl,rfl,rfl,rfl,rfl,rfl,rfl,trivial⟩ ?_
    cases hs:p.1 != src with
    | true =>
      have e1:lostS src (l.take (j + 1)) = (o,acc):=by rw [es];unfold lstep;rw [hs];rfl
      refine WL.yes rfl <| WL.exit ?_
      refine WL.reg ?_
      refine WOL.bi (v:=zi ((j + 1:Nat):Int)) rfl rfl (by show some (Value.int .i64 (fwrap .i64 ((j:Int) + 1))) = _;rw [fwrap_i64 (by omega) (by omega)];rfl) ?_
      refine WOL.mv rfl <| WOL.nil ?_
      exact fun a q => ⟨l.length - (j + 1),by omega,j + 1,w,p0,by omega,rfl,X6,by rw [e1];exact O6,by omega,by rw [e1];exact l1,by rw [e1];exact hp0,D8,D9,q.sub ⟨rfl,rfl,rfl,rfl,rfl,rfl,rfl,rfl,trivial⟩⟩
    | false =>
      have e1:lostS src (l.take (j + 1)) = (some c,acc ++ more o c):=by rw [es];unfold lstep;rw [hs,hc];rfl
      refine WL.no rfl <| WL.skip ?_
      obtain ⟨pl,pe⟩:=eq_prev hp0
      refine WL.seq <| WL.sr <| WOL.ld rfl (load_row tp111 D9 rfl (Nat.le_of_ble_eq_true rfl)) <| WOL.ld rfl (load_row tp111 D8 rfl (Nat.le_of_ble_eq_true rfl)) ?_
      refine WOL.eq111 (p:=p0) (q:=noP) pl noP_plain pe rfl rfl <| WOL.nil <| keep [(1,_),(6,_),(7,_),(8,_),(9,_),(11,_),(15,_),(16,_),(17,_),(27,_)] ⟨rfl,rfl,rfl,rfl,rfl,rfl,rfl,rfl,rfl,rfl,trivial⟩ ?_
      cases o with
      | none =>
        refine WL.yes rfl <| WL.sr <| WOL.ld rfl (load_row tp111 A6 rfl (Nat.le_of_ble_eq_true rfl)) ?_
        refine WOL.sto (vs:=encP p) rfl rfl tp111 D9 rfl rfl (Nat.le_of_ble_eq_true rfl) rfl (f.hx X6) (by omega) fun h7 P7 => WOL.nil <| keep [(1,_),(6,_),(7,_),(8,_),(9,_),(11,_),(15,_),(16,_),(17,_)] ⟨rfl,rfl,rfl,rfl,rfl,rfl,rfl,rfl,rfl,trivial⟩ ?_
        have X7:=P7.hx _ X6 (by omega)
        have n7:=P7.next
        have F9:At h7 h2.next (.cells (encP p) true true 35):=P7.at_
        have F8:=P7.oth h.next _ (by omega) D8
        have O7:OwnL encI (h2.next + 1) h7 w 3 acc:=O6.keep fun c y hcc hA => P7.oth c y (by have:=(O6.lt hcc).1;omega) hA
        refine WL.exit ?_
        refine WL.reg ?_
        refine WOL.bi (v:=zi ((j + 1:Nat):Int)) rfl rfl (by show some (Value.int .i64 (fwrap .i64 ((j:Int) + 1))) = _;rw [fwrap_i64 (by omega) (by omega)];rfl) ?_
        refine WOL.mv rfl <| WOL.nil ?_
        rw [show acc ++ more none c = acc from List.append_nil _] at e1
        exact fun a q => ⟨l.length - (j + 1),by omega,j + 1,w,p,by omega,rfl,X7,by rw [e1];exact O7,by omega,by rw [e1];exact l1,by rw [e1];exact ⟨hk1,hc⟩,F8,F9,q.sub ⟨rfl,rfl,rfl,rfl,rfl,rfl,rfl,rfl,trivial⟩⟩
      | some a0 =>
        obtain ⟨hpo,ha0⟩:=hp0
        have ha:a0 < 65536:=by have:=hpo.2.2.1;omega
        refine WL.no rfl <| WL.skip ?_
        refine WL.seq ?_
        have g7:=load_one tp3 D9 (off:=1) (v:=zi (a0:Nat)) (by rw [← ha0];rfl)
        refine WL.sr <| WOL.fa rfl (fa_of fo111_1) <| WOL.ld rfl g7 ?_
        refine WOL.cl1 rfl rfl ((k151 H (by omega) (by omega)).mono ?_)
        rintro w5 g8 ⟨rfl,e8⟩
        replace e8:=e8.symm
        subst e8
        refine WOL.as rfl <| WOL.nil <| keep [(1,_),(6,_),(7,_),(8,_),(9,_),(11,_),(12,_),(15,_),(16,_),(17,_)] ⟨rfl,rfl,rfl,rfl,rfl,rfl,rfl,rfl,rfl,rfl,trivial⟩ ?_
        rw [show ((a0:Int) + 1) % 65536 = ((seqAt a0 0:Nat):Int) by unfold seqAt;omega]
        refine WL.block ?_
        refine WL.loop (fun q a g' => ∃ (t:Nat) (w:Value),t ≤ gapN a0 c ∧ q = gapN a0 c - t ∧ HX h g' ∧ OwnL encI (h2.next + 1) g' w 3 (acc ++ (gap a0 c).take t) ∧ h2.next + 1 ≤ g'.next ∧ (acc ++ (gap a0 c).take t).length ≤ 256 ∧ At g' h.next (.cells (encP noP) true true 35) ∧ At g' h2.next (.cells (encP p0) true true 35) ∧ At g' g.next (.cells (encP p) true true 35) ∧ (∀ c,bl w = some c → c ≠ g.next) ∧ Kn [(1,zi src),(6,w),(7,.bool true),(8,ptr h.next),(9,ptr h2.next),(11,ptr g.next),(12,zi (seqAt a0 t:Nat)),(15,v),(16,zi (l.length:Nat)),(17,zi (j:Nat))] a) (gapN a0 c) (fun a q => ⟨0,w,by omega,by omega,X6,by rw [List.take_zero,List.append_nil];exact O6,by omega,by rw [List.take_zero,List.append_nil];exact l1,D8,D9,A6,fun c hcc => by have:=(O1.lt hcc).2;omega,q.sub ⟨rfl,rfl,rfl,rfl,rfl,rfl,rfl,rfl,rfl,rfl,trivial⟩⟩) ?_
        rintro q a g2' ⟨t,w2,ht,rfl,Y2,Q2,k2,l2,E8,E9,E11,ne,q⟩
        refine q.go ?_
        have g6:=load_one tp3 E11 (off:=1) (v:=zi (c:Nat)) (by rw [← hc];rfl)
        refine WL.seq <| WL.sr <| WOL.mv rfl <| WOL.fa rfl (fa_of fo111_1) <| WOL.ld rfl g6 <| WOL.bi (v:=.bool (((seqAt a0 t:Nat):Int) != (c:Int))) rfl rfl rfl <| WOL.nil <| keep [(1,_),(6,_),(7,_),(8,_),(9,_),(11,_),(12,_),(15,_),(16,_),(17,_),(35,_)] ⟨rfl,rfl,rfl,rfl,rfl,rfl,rfl,rfl,rfl,rfl,rfl,trivial⟩ ?_
        rw [seq_end ha hcl ht]
        by_cases htl:t < gapN a0 c
        · rw [decide_eq_true htl]
          refine WL.yes rfl <| WL.skip ?_
          refine WL.seq <| WL.block ?_
          refine WL.seq <| WL.sr <| WOL.mv rfl <| WOL.len rfl (Q2.sl eI) u29 <| WOL.bi (v:=.bool (((acc ++ (gap a0 c).take t).length:Int) == 256)) rfl rfl rfl <| WOL.nil <| keep [(1,_),(6,_),(7,_),(8,_),(9,_),(11,_),(12,_),(15,_),(16,_),(17,_),(40,_)] ⟨rfl,rfl,rfl,rfl,rfl,rfl,rfl,rfl,rfl,rfl,rfl,trivial⟩ ?_
          have l4:(acc ++ (gap a0 c).take (t + 1)).length = (acc ++ (gap a0 c).take t).length + 1:=by rw [gap_next htl,← List.append_assoc,List.length_append];rfl
          cases hf:((acc ++ (gap a0 c).take t).length:Int) == 256 with
          | true =>
            have hf':((acc ++ (gap a0 c).take t).length:Int) = 256:=by simpa using hf
            refine WL.yes rfl <| WL.sr <| WOL.as rfl <| WOL.nil ?_
            refine WL.exit ?_
            refine WL.sr <| WOL.mv rfl <| WOL.mv rfl <| WOL.as rfl <| WOL.as rfl <| WOL.nil ?_
            refine WL.ret (WL.end_ rfl ⟨Y2,_,_,rfl,.inr ⟨?_,rfl⟩⟩)
            rw [e1] at gr
            replace gr:(acc ++ more (some a0) c).length ≤ (lostS src l).2.length:=gr
            have:(acc ++ (gap a0 c).take (t + 1)).length ≤ (acc ++ more (some a0) c).length:=by
              show _ ≤ (acc ++ gap a0 c).length
              rw [List.length_append,List.length_append,List.length_take];omega
            omega
          | false =>
            have hf':¬ ((acc ++ (gap a0 c).take t).length:Int) = 256:=by simpa using hf
            refine WL.no rfl <| WL.skip ?_
            refine WL.reg <| WOL.mv rfl <| WOL.mv rfl <| WOL.bs1 rfl u29 tp3 rfl fun h7 N7 => ?_
            have Y7:=Y2.trans N7.hx
            have n7:=N7.next
            obtain ⟨w4,h8,ap,O8,x8,keep8,bw,n8⟩:=own_push (sT:=46) (x:=((seqAt a0 t:Nat):Int)) eI u29 tp3 (Q2.hx N7.hx) (SlC.own (sz:=1) (m:=1) rfl N7.at_) ((f.hx Y7).up (by omega)) (by omega) (by omega)
            have Y8:=x8 _ Y7 (by omega)
            rw [List.append_assoc,← gap_next htl] at O8
            have lw:∀ c,bl w2 = some c → h2.next + 1 ≤ c:=fun c hcc => (Q2.lt hcc).1
            refine WOL.ap rfl rfl ap <| WOL.as rfl <| WOL.nil <| keep [(1,_),(6,_),(7,_),(8,_),(9,_),(11,_),(12,_),(15,_),(16,_),(17,_)] ⟨rfl,rfl,rfl,rfl,rfl,rfl,rfl,rfl,rfl,rfl,trivial⟩ ?_
            refine WL.reg <| WOL.mv rfl ?_
            refine WOL.cl1 rfl rfl ((k151 H (n:=(seqAt a0 t:Nat)) (by omega) (by unfold seqAt;omega)).mono ?_)
            rintro w5 g8 ⟨rfl,e8⟩
            replace e8:=e8.symm
            subst e8
            rw [seq_next]
            refine WOL.as rfl <| WOL.nil ?_
            exact fun a q => ⟨gapN a0 c - (t + 1),by omega,t + 1,w4,by omega,rfl,Y8,O8,by omega,by omega,keep8 _ _ (fun e => by have:=lw _ e;omega) (E8.hx N7.hx),keep8 _ _ (fun e => by have:=lw _ e;omega) (E9.hx N7.hx),keep8 _ _ (fun e => ne _ e rfl) (E11.hx N7.hx),fun c hcc => by rw [bw] at hcc;cases hcc;have:=E11.lt;omega,q.sub ⟨rfl,rfl,rfl,rfl,rfl,rfl,rfl,rfl,rfl,rfl,trivial⟩⟩
        · rw [decide_eq_false htl]
          obtain rfl:t = gapN a0 c:=by omega
          rw [List.take_of_length_le (by rw [gap_len];exact Nat.le_refl _)] at Q2 l2
          refine WL.no rfl <| WL.exit ?_
          refine WL.reg <| WOL.ld rfl (load_row tp111 E11 rfl (Nat.le_of_ble_eq_true rfl)) ?_
          refine WOL.sto (vs:=encP p) rfl rfl tp111 E9 rfl rfl (Nat.le_of_ble_eq_true rfl) rfl (f.hx Y2) (by omega) fun h7 P7 => WOL.nil <| keep [(1,_),(6,_),(7,_),(8,_),(9,_),(11,_),(15,_),(16,_),(17,_)] ⟨rfl,rfl,rfl,rfl,rfl,rfl,rfl,rfl,rfl,trivial⟩ ?_
          have X7:=P7.hx _ Y2 (by omega)
          have n7:=P7.next
          have F9:At h7 h2.next (.cells (encP p) true true 35):=P7.at_
          have F8:=P7.oth h.next _ (by omega) E8
          have O7:OwnL encI (h2.next + 1) h7 w2 3 (acc ++ gap a0 c):=Q2.keep fun c y hcc hA => P7.oth c y (by have:=(Q2.lt hcc).1;omega) hA
          refine WL.reg ?_
          refine WOL.bi (v:=zi ((j + 1:Nat):Int)) rfl rfl (by show some (Value.int .i64 (fwrap .i64 ((j:Int) + 1))) = _;rw [fwrap_i64 (by omega) (by omega)];rfl) ?_
          refine WOL.mv rfl <| WOL.nil ?_
          exact fun a q => ⟨l.length - (j + 1),by omega,j + 1,w2,p,by omega,rfl,X7,by rw [e1];exact O7,by omega,by rw [e1];exact l2,by rw [e1];exact ⟨hk1,hc⟩,F8,F9,q.sub ⟨rfl,rfl,rfl,rfl,rfl,rfl,rfl,rfl,trivial⟩⟩
  · rw [show decide ((j:Int) < (l.length:Int)) = false from decide_eq_false (by omega)]
    obtain rfl:j = l.length:=by omega
    refine WL.no rfl <| WL.exit ?_
    refine WL.sr <| WOL.mv rfl <| WOL.mv rfl <| WOL.as rfl <| WOL.as rfl <| WOL.nil ?_
    rw [List.take_length] at O1 l1
    exact WL.ret (WL.end_ rfl ⟨X1,_,_,rfl,.inl ⟨l1,rfl,O1.imp id fun ⟨h0,b,e1,e2,e3⟩ => ⟨h0,b,e1,by omega,e3⟩⟩⟩)
end
end Go.Tidy
namespace Go.Tidy
open Go Go.Proofs Tab
variable {tp:TProg}
theorem sampleE_nan {b:Nat} {e:Int} (h:SampleE b e) (h0:e = 0):nanB .f32 b = false:=by
 cases h with
 | nan h => cases h0
 | inf s h => cases h0
 | num neg m k h => exact not_nan h.read
theorem outB_in {n l m:Int} (h:outB n l m = 0):l ≤ n ∧ n ≤ m:=by
 unfold outB at h
 by_cases h1:n < l
 ·simp [h1] at h
 ·by_cases h2:n > m
  ·simp [h2] at h
  ·omega
theorem pe_ok {p:Pkt} (h:PE p 0):PkOk p:=by
 obtain ⟨es,hE,h⟩:=h
 have z:=firstNZ_zero h.symm
 have z1:=outB_in (z (outB p.1 0 255) (by simp))
 have z2:=outB_in (z (outB p.2.1 0 65535) (by simp))
 have z3:=firstNZ_zero (z (firstNZ es) (by simp))
 obtain ⟨hl,hs⟩:=hE
 match es,hl with
 | [e1,e2,e3],_ =>
  exact ⟨z1.1,z2.1,by omega,sampleE_nan (hs 0 _ e1 rfl rfl) (z3 _ (by simp)),sampleE_nan (hs 1 _ e2 rfl rfl) (z3 _ (by simp)),sampleE_nan (hs 2 _ e3 rfl rfl) (z3 _ (by simp))⟩
theorem perr_ok {l:List Pkt} {E:List Int} (h:PErr l E) (h0:firstNZ E = 0):∀ p,p ∈ l → PkOk p:=by
 intro p hp
 obtain ⟨i,hi,rfl⟩:=List.getElem_of_mem hp
 have hiE:i < E.length:=h.1 ▸ hi
 have q:=h.2 i l[i] E[i] (List.getElem?_eq_getElem hi) (List.getElem?_eq_getElem hiE)
 rw [firstNZ_zero h0 E[i] (List.getElem_mem hiE)] at q
 exact pe_ok q
section
variable {h:TH} {v:Value} {l:List Pkt} {E:List Int} {src:Int}
def lostE (n:Nat) (E:List Int) (src:Int):Int:=firstNZ [chkE n E,outB src 0 255]
def LostQ (l:List Pkt) (E:List Int) (src:Int) (n0:Nat) (h:TH) (w:Value) (e:Int):Prop :=
 (lostE l.length E src ≠ 0 ∧ w = .slice none 0 0 ∧ e = lostE l.length E src) ∨ (lostE l.length E src = 0 ∧ LostA (lostS src l).2 n0 h w e)
set_option maxHeartbeats 1000000 in
theorem k66 (H:Has tp) (X:HasX tp) (s:SlL encP 5 h v l) (hE:PErr l E) (hl:l.length ≤ 1000000) (f:Free0 h.next h):CallW Try.prog tp (.func (.func 8) #[] #[]) #[v,zi src] h fun w h' => HX h h' ∧ ∃ w1 e,w = .tuple #[w1,zi e] ∧ LostQ l E src h.next h' w1 e:=by
  refine CallW.fnL (H.fn 8 f66 rfl rfl) ?_
  refine WL.sr <| WOL.as rfl <| WOL.as rfl <| WOL.nil <| keep [(0,_),(1,_)] ⟨rfl,rfl,trivial⟩ ?_
  refine WL.seq <| WL.sr <| WOL.mv rfl <| WOL.len rfl s u113 <| WOL.bi (v:=.bool (decide ((l.length:Int) > 1024))) rfl rfl rfl <| WOL.nil <| keep [(0,_),(1,_),(12,_)] ⟨rfl,rfl,rfl,trivial⟩ ?_
  cases hb:decide ((l.length:Int) > 1024) with
  | true =>
    have e5:lostE l.length E src = 5:=by unfold lostE chkE;rw [hb];rfl
    refine WL.yes rfl <| WL.sr <| WOL.as rfl <| WOL.as rfl <| WOL.nil ?_
    exact WL.ret (WL.end_ rfl ⟨HX.refl _,_,_,rfl,.inl ⟨by rw [e5];decide,rfl,e5.symm⟩⟩)
  | false =>
    have ec:chkE l.length E = firstNZ E:=by unfold chkE;rw [hb];rfl
    refine WL.no rfl <| WL.skip ?_
    refine WL.sr <| WOL.mv rfl <| WOL.cl2 rfl rfl rfl ((k118 H X s hE hl f).mono ?_)
    rintro w h1 ⟨X1,b,rfl,A1,hb1⟩
    refine WOL.as rfl <| WOL.nil <| keep [(0,_),(1,_),(6,_)] ⟨rfl,rfl,rfl,trivial⟩ ?_
    refine WL.seq <| WL.sr <| WOL.mv rfl <| WOL.cl1 rfl rfl ((k71 H A1.get (by rw [← hE.1];exact hl)).mono ?_)
    rintro w h2 ⟨rfl,e2⟩
    replace e2:=e2.symm
    subst e2
    refine WOL.mv rfl <| WOL.cl3 rfl rfl rfl rfl ((k72 H src 0 255 _).mono ?_)
    rintro w h2 ⟨rfl,e2⟩
    replace e2:=e2.symm
    subst e2
    refine WOL.bsl rfl u166 tp30 (by decide) (by decide) (by decide) (cs:=[_,_].map (.int .i64)) rfl fun h3 N3 => ?_
    have X3:=X1.trans N3.hx
    refine WOL.cl1 rfl rfl ((k71 H (l:=[_,_]) N3.at_.get (by simp)).mono ?_)
    rintro w h2 ⟨rfl,e2⟩
    replace e2:=e2.symm
    subst e2
    refine WOL.as rfl <| WOL.nil <| keep [(0,_),(1,_),(7,_)] ⟨rfl,rfl,rfl,trivial⟩ ?_
    show ∀ a,Kn [(0,v),(1,zi src),(7,zi (firstNZ [firstNZ E,outB src 0 255]))] a → _
    rw [← ec]
    show ∀ a,Kn [(0,v),(1,zi src),(7,zi (lostE l.length E src))] a → _
    refine WL.sr <| WOL.mv rfl <| WOL.bi rfl rfl nzero <| WOL.nil <| keep [(0,_),(1,_),(7,_),(22,_)] ⟨rfl,rfl,rfl,rfl,trivial⟩ ?_
    rcases nz_cases (lostE l.length E src) with h0 | h0
    · rw [h0]
      have hz:=firstNZ_zero h0
      have hzE:firstNZ E = 0:=by rw [← ec];exact hz _ (by simp)
      have n3:h.next ≤ h3.next:=X3.next
      refine WL.no rfl <| WL.skip ?_
      refine WL.sr <| WOL.mv rfl <| WOL.mv rfl <| WOL.cl2 rfl rfl rfl ((k119 H (s.hx X3) hl (perr_ok hE hzE) ((f.hx X3).up n3)).mono ?_)
      rintro w h4 ⟨X4,w1,full,rfl,hL⟩
      have X5:=X3.trans X4
      refine WOL.mv rfl <| WOL.ex rfl rfl <| WOL.ex rfl rfl <| WOL.as rfl <| WOL.as rfl <| WOL.nil <| keep [(8,_),(9,_)] ⟨rfl,rfl,trivial⟩ ?_
      refine WL.seq <| WL.sr <| WOL.mv rfl <| WOL.nt rfl <| WOL.nil <| keep [(8,_),(31,_)] ⟨rfl,rfl,trivial⟩ ?_
      rcases hL with ⟨hL,rfl,O⟩ | ⟨hL,rfl⟩
      · refine WL.no rfl <| WL.skip ?_
        refine WL.sr <| WOL.mv rfl <| WOL.as rfl <| WOL.as rfl <| WOL.nil ?_
        exact WL.ret (WL.end_ rfl ⟨X5,_,_,rfl,.inr ⟨h0,.inl ⟨hL,rfl,O.imp id fun ⟨q0,b,q1,q2,q3⟩ => ⟨q0,b,q1,by omega,q3⟩⟩⟩⟩)
      · refine WL.yes rfl <| WL.sr <| WOL.as rfl <| WOL.as rfl <| WOL.nil ?_
        exact WL.ret (WL.end_ rfl ⟨X5,_,_,rfl,.inr ⟨h0,.inr ⟨hL,rfl,rfl⟩⟩⟩)
    · rw [h0]
      refine WL.yes rfl <| WL.sr <| WOL.mv rfl <| WOL.as rfl <| WOL.as rfl <| WOL.nil ?_
      exact WL.ret (WL.end_ rfl ⟨X3,_,_,rfl,.inl ⟨by simpa using h0,rfl,rfl⟩⟩)
end
end Go.Tidy
namespace Go.Tidy
open Go Go.Proofs Tab
def deP (l:List Nat) (e:Int):Pkt:=cond (e != 0) (0,0,0,0,0) (srcB l,cntB l,wrdB l 0,wrdB l 1,wrdB l 2)
theorem decR_eq {l:List Nat} {es:List Int}:decR l es = .tuple #[pakP (deP l (decF l es)),zi (decF l es)]:=by
 unfold decR deP
 cases h:decF l es != 0
 ·have:decF l es = 0:=by simpa using h
  rw [this];rfl
 ·rfl
theorem ownI_ints {n0:Nat} {h:TH} {w:Value} {L:List Int} (o:OwnL encI n0 h w 3 L):IsInts h w L:=by
 rcases o with o | ⟨_,b,rfl,_,h3⟩
 ·exact .inl o
 ·rw [cat_I] at h3
  exact .inr ⟨b,_,_,_,_,rfl,h3.lt,h3.get⟩
theorem LostA.hx {L:List Int} {n0:Nat} {g g':TH} {w:Value} {e:Int} (a:LostA L n0 g w e) (x:HX g g'):LostA L n0 g' w e :=
 a.imp (fun ⟨h1,h2,h3⟩ => ⟨h1,h2,h3.hx x⟩) id
end Go.Tidy
namespace Go.Tidy
def wsp (l:List (Int × Int)) (a b:Nat):List (Int × Int):=cond (Nat.beq a b) l (l ++ [((a:Int),(b:Int))])
def spn:List Nat → List (Int × Int) × Nat → List (Int × Int) × Nat
 | [],s => s
 | a :: P,s => spn P (wsp s.1 s.2 a,a + 20)
def spn0 (P:List Nat):List (Int × Int) × Nat:=spn P ([],0)
theorem spn_app:∀ (P:List Nat) (s:List (Int × Int) × Nat) (a:Nat),spn (P ++ [a]) s = (wsp (spn P s).1 (spn P s).2 a,a + 20)
 | [],_,_ => rfl
 | _ :: P,_,a => spn_app P _ a
theorem spn0_app {P:List Nat} {a:Nat}:spn0 (P ++ [a]) = (wsp (spn0 P).1 (spn0 P).2 a,a + 20):=spn_app P _ a
section
variable (n:Nat) (ok:Nat → Bool)
def isF (i:Nat):Bool:=Nat.ble (i + 20) n && ok i
def plc:Nat → List Nat
 | 0 => []
 | i + 1 => cond (Nat.ble (spn0 (plc i)).2 i && isF n ok i) (plc i ++ [i]) (plc i)
def nxt (i:Nat):Nat:=(spn0 (plc n ok i)).2
theorem plc_some {i:Nat} (h:nxt n ok i ≤ i) (g:isF n ok i = true):plc n ok (i + 1) = plc n ok i ++ [i]:=by
 show cond (Nat.ble (nxt n ok i) i && isF n ok i) _ _ = _
 rw [Nat.ble_eq_true_of_le h,g]
 rfl
theorem plc_not {i:Nat} (g:isF n ok i = false):plc n ok (i + 1) = plc n ok i:=by
 show cond (Nat.ble (nxt n ok i) i && isF n ok i) _ _ = _
 rw [g,Bool.and_false]
 rfl
theorem plc_in {i:Nat} (h:i < nxt n ok i):plc n ok (i + 1) = plc n ok i:=by
 show cond (Nat.ble (nxt n ok i) i && isF n ok i) _ _ = _
 have:Nat.ble (nxt n ok i) i = false:=by
  cases e:Nat.ble (nxt n ok i) i with
  | false => rfl
  | true => have:=Nat.le_of_ble_eq_true e;omega
 rw [this,Bool.false_and]
 rfl
theorem nxt_some {i:Nat} (h:nxt n ok i ≤ i) (g:isF n ok i = true):nxt n ok (i + 1) = i + 20:=by
 unfold nxt
 rw [plc_some n ok h g,spn0_app]
theorem plc_skip {i:Nat} (h:nxt n ok i ≤ i) (g:isF n ok i = true):∀ d,d < 20 → plc n ok (i + 1 + d) = plc n ok i ++ [i]
  | 0,_ => plc_some n ok h g
  | d + 1,hd => by
    have ih:=plc_skip h g d (by omega)
    have e:nxt n ok (i + 1 + d) = i + 20:=by
      unfold nxt
      rw [ih,spn0_app]
    rw [show i + 1 + (d + 1) = (i + 1 + d) + 1 by omega,plc_in n ok (by rw [e];omega),ih]
theorem plc_frame {i:Nat} (h:nxt n ok i ≤ i) (g:isF n ok i = true):plc n ok (i + 20) = plc n ok i ++ [i]:=by
 have:=plc_skip n ok h g 19 (by omega)
 rw [← this]
theorem nxt_frame {i:Nat} (h:nxt n ok i ≤ i) (g:isF n ok i = true):nxt n ok (i + 20) = i + 20:=by
 unfold nxt
 rw [plc_frame n ok h g,spn0_app]
theorem plc_end {i:Nat} (h:n < i + 20):∀ d,plc n ok (i + d) = plc n ok i
 | 0 => rfl
 | d + 1 => by
  rw [← plc_end h d]
  refine plc_not n ok (i:=i + d) ?_
  unfold isF
  cases e:Nat.ble (i + d + 20) n with
  | false => rfl
  | true => have:=Nat.le_of_ble_eq_true e;omega
theorem plc_last {i:Nat} (h:n < i + 20) (hi:i ≤ n):plc n ok n = plc n ok i:=by
 have:=plc_end n ok h (n - i)
 rwa [show i + (n - i) = n by omega] at this
theorem plc_lt:∀ i a,a ∈ plc n ok i → a + 20 ≤ n ∧ ok a = true ∧ a < i
  | 0,_,h => by cases h
  | i + 1,a,h => by
    cases e:(Nat.ble (spn0 (plc n ok i)).2 i && isF n ok i) with
    | false =>
      replace h:a ∈ cond (Nat.ble (spn0 (plc n ok i)).2 i && isF n ok i) (plc n ok i ++ [i]) (plc n ok i):=h
      rw [e] at h
      obtain ⟨h1,h2,h3⟩:=plc_lt i a h
      exact ⟨h1,h2,by omega⟩
    | true =>
      replace h:a ∈ cond (Nat.ble (spn0 (plc n ok i)).2 i && isF n ok i) (plc n ok i ++ [i]) (plc n ok i):=h
      rw [e] at h
      rw [Bool.and_eq_true] at e
      have g:=e.2
      unfold isF at g
      rw [Bool.and_eq_true] at g
      rcases List.mem_append.1 h with h | h
      · obtain ⟨h1,h2,h3⟩:=plc_lt i a h
        exact ⟨h1,h2,by omega⟩
      · cases List.mem_singleton.1 h
        exact ⟨Nat.le_of_ble_eq_true g.1,g.2,by omega⟩
theorem plc_len:∀ i,(plc n ok i).length ≤ i
 | 0 => Nat.le_refl _
 | i + 1 => by
  have:=plc_len i
  show (cond (Nat.ble (spn0 (plc n ok i)).2 i && isF n ok i) (plc n ok i ++ [i]) (plc n ok i)).length ≤ i + 1
  cases (Nat.ble (spn0 (plc n ok i)).2 i && isF n ok i) with
  | false => exact Nat.le_succ_of_le this
  | true => show (plc n ok i ++ [i]).length ≤ i + 1;rw [List.length_append];simp;exact this
def skp (i:Nat):List (Int × Int):=wsp (spn0 (plc n ok i)).1 (nxt n ok i) (max (nxt n ok i) i)
theorem wsp_same {l:List (Int × Int)} {a:Nat}:wsp l a a = l:=by
 unfold wsp;rw [Nat.beq_refl];rfl
theorem nxt_le:∀ i,nxt n ok i ≤ n
  | 0 => Nat.zero_le _
  | i + 1 => by
    cases e:(Nat.ble (nxt n ok i) i && isF n ok i) with
    | true =>
      rw [Bool.and_eq_true] at e
      have l:=Nat.le_of_ble_eq_true e.1
      rw [nxt_some n ok l e.2]
      have g:=e.2
      unfold isF at g
      rw [Bool.and_eq_true] at g
      exact Nat.le_of_ble_eq_true g.1
    | false =>
      have q:plc n ok (i + 1) = plc n ok i:=by
        show cond (Nat.ble (nxt n ok i) i && isF n ok i) _ _ = _
        rw [e];rfl
      unfold nxt
      rw [q]
      exact nxt_le i
theorem nxt_not {i:Nat} (g:isF n ok i = false):nxt n ok (i + 1) = nxt n ok i:=by
 unfold nxt;rw [plc_not n ok g]
theorem skp_end:skp n ok n = wsp (spn0 (plc n ok n)).1 (spn0 (plc n ok n)).2 n:=by
 unfold skp
 rw [Nat.max_eq_right (nxt_le n ok n)]
 rfl
theorem wsp_len {l:List (Int × Int)} {a b:Nat}:(wsp l a b).length ≤ l.length + 1:=by
 unfold wsp
 cases Nat.beq a b with
 | true => exact Nat.le_succ _
 | false => show (l ++ _).length ≤ _;rw [List.length_append];exact Nat.le_refl _
theorem spn_len:∀ i,(spn0 (plc n ok i)).1.length ≤ i
  | 0 => Nat.le_refl _
  | i + 1 => by
    have ih:=spn_len i
    cases e:(Nat.ble (nxt n ok i) i && isF n ok i) with
    | true =>
      rw [Bool.and_eq_true] at e
      rw [plc_some n ok (Nat.le_of_ble_eq_true e.1) e.2,spn0_app]
      exact Nat.le_trans wsp_len (by omega)
    | false =>
      have q:plc n ok (i + 1) = plc n ok i:=by
        show cond (Nat.ble (nxt n ok i) i && isF n ok i) _ _ = _
        rw [e];rfl
      rw [q]
      omega
theorem plc_pre {i:Nat}:∀ d,∃ r,plc n ok (i + d) = plc n ok i ++ r
  | 0 => ⟨[],(List.append_nil _).symm⟩
  | d + 1 => by
    obtain ⟨r,hr⟩:=plc_pre d
    cases e:(Nat.ble (spn0 (plc n ok (i + d))).2 (i + d) && isF n ok (i + d)) with
    | true =>
      refine ⟨r ++ [i + d],?_⟩
      show cond (Nat.ble (spn0 (plc n ok (i + d))).2 (i + d) && isF n ok (i + d)) (plc n ok (i + d) ++ [i + d]) (plc n ok (i + d)) = _
      rw [e,hr,List.append_assoc]
      rfl
    | false =>
      refine ⟨r,?_⟩
      show cond (Nat.ble (spn0 (plc n ok (i + d))).2 (i + d) && isF n ok (i + d)) (plc n ok (i + d) ++ [i + d]) (plc n ok (i + d)) = _
      rw [e,hr]
      rfl
theorem plc_next {i:Nat} (h:nxt n ok i ≤ i) (g:isF n ok i = true):(plc n ok i).length < (plc n ok n).length ∧ (plc n ok n).getD (plc n ok i).length 0 = i ∧ i + 20 ≤ n:=by
 have g':=g
 unfold isF at g'
 rw [Bool.and_eq_true] at g'
 have l:=Nat.le_of_ble_eq_true g'.1
 obtain ⟨r,hr⟩:=plc_pre n ok (i:=i + 1) (n - (i + 1))
 rw [show i + 1 + (n - (i + 1)) = n by omega,plc_some n ok h g,List.append_assoc] at hr
 rw [hr]
 refine ⟨?_,?_,l⟩
 ·rw [List.length_append];simp
 ·rw [List.getD_eq_getElem?_getD,List.getElem?_append_right (Nat.le_refl _),Nat.sub_self]
  rfl
end
end Go.Tidy
namespace Go.Tidy
open Go Go.Proofs Tab
variable {tp:TProg}
def frm (l:List Nat) (i:Nat):List Nat:=(l.drop i).take 20
theorem frm_len {l:List Nat} {i:Nat} (h:i + 20 ≤ l.length):(frm l i).length = 20:=by unfold frm;rw [List.length_take,List.length_drop];omega
theorem frm_byt {l:List Nat} (h:Byt l) (i:Nat):Byt (frm l i):=(h.drop i).take 20
def FmE (l:List Nat) (E:Nat → List Int):Prop:=∀ i,SErr [wrdB (frm l i) 0,wrdB (frm l i) 1,wrdB (frm l i) 2] (E i)
theorem fmE_ex (l:List Nat):∃ E,FmE l E:=⟨fun i => Classical.choose (serr_ex [wrdB (frm l i) 0,wrdB (frm l i) 1,wrdB (frm l i) 2]),fun i => Classical.choose_spec (serr_ex [wrdB (frm l i) 0,wrdB (frm l i) 1,wrdB (frm l i) 2])⟩
def okF (l:List Nat) (E:Nat → List Int) (i:Nat):Bool:=decF (frm l i) (E i) == 0
def pkF (l:List Nat) (i:Nat):Pkt:=(srcB (frm l i),cntB (frm l i),wrdB (frm l i) 0,wrdB (frm l i) 1,wrdB (frm l i) 2)
theorem okF_yes {l:List Nat} {E:Nat → List Int} {i:Nat} (h:okF l E i = true):decF (frm l i) (E i) = 0 ∧ deP (frm l i) (decF (frm l i) (E i)) = pkF l i:=by
 have e:decF (frm l i) (E i) = 0:=by unfold okF at h;simpa using h
 refine ⟨e,?_⟩
 rw [e]
 rfl
theorem okF_no {l:List Nat} {E:Nat → List Int} {i:Nat} (h:okF l E i = false):decF (frm l i) (E i) ≠ 0:=by
 unfold okF at h
 simpa using h
def pkL (l:List Nat) (P:List Nat):List Pkt:=P.map (pkF l)
def plcF (l:List Nat) (E:Nat → List Int) (i:Nat):List Nat:=plc l.length (okF l E) i
def nxtF (l:List Nat) (E:Nat → List Int) (i:Nat):Nat:=nxt l.length (okF l E) i
section
variable {h:TH} {l:List Nat} {E:Nat → List Int} {bo:Option Addr} {n k c:Nat}
theorem slice20 (s:SlL encY 1 h (.slice bo n k) l) (F:Fits h (.slice bo n k) 5) {i:Nat} (hi:i + 20 ≤ l.length) :
  ∃ q q':Addr,bo = some q ∧ sliceT Try.prog 29 (.slice (some q) n k) (some (zi (i:Nat))) (some (zi ((i:Nat) + 20))) none h = some (.slice (some q') 20 (k - i)) ∧ loadT Try.prog 36 (.pointer (some q')) h = some (.agg (cat encY (frm l i)).toArray):=by
 obtain ⟨bo',cap,e,h1,h2,h3⟩:=s
 cases e
 rcases h3 with ⟨_,h3⟩ | ⟨b,off,cc,fix,wr,el,rfl,A,e1,e2⟩
 ·omega
 obtain ⟨cc',fix',wr',el',A',hf⟩:=F b off l.length k rfl
 have ee:=A.get.symm.trans A'.get
 cases ee
 refine ⟨_,⟨b,off + i,none⟩,rfl,?_,?_⟩
 ·have:=sliceT_at (P:=Try.prog) (t:=29) (off:=off) (m:=l.length) (cap:=k) (lo:=i) (hi:=i + 20) (k:=.i64) (k':=.i64) u116 tp5 h1 (by omega) hi A hf
  rw [Nat.mul_one,show i + 20 - i = 20 by omega] at this
  exact this
 ·refine load_row tp106 A ?_ (by omega)
  have p:=eY.part l i 20
  rw [Nat.mul_one,Nat.mul_one] at p
  unfold frm
  rw [← p,← e1,List.drop_take,List.take_take,List.drop_drop,Nat.min_eq_left (by omega)]
theorem k120 (H:Has tp) (h:TH):CallW Try.prog tp (.func (.func 21) #[] #[]) #[.slice bo n k] h fun w h' => ∃ c,w = .func (.func 47) #[] #[ptr c] ∧ HX h h' ∧ At h' c (.cells [.slice bo n k] true true 29) ∧ h.next ≤ c:=by
 refine CallW.fnL (H.fn 21 f120 rfl rfl) ?_
 refine WL.sr <| WOL.box rfl fun h1 N1 => WOL.as rfl <| WOL.nil <| keep [(1,_)] ⟨rfl,trivial⟩ ?_
 refine WL.sr <| WOL.mf rfl <| WOL.as rfl <| WOL.nil ?_
 exact WL.done rfl ⟨_,rfl,N1.hx,N1.at_,Nat.le_refl _⟩
set_option maxHeartbeats 2000000 in
set_option maxRecDepth 10000 in
theorem y152 (H:Has tp) (X:HasX tp) (Y:HasY tp) (hb:Byt l) (hE:FmE l E) (hl:l.length ≤ 1000000) :
  Yields2 Try.prog tp (.func (.func 47) #[] #[ptr c]) (fun g => At g c (.cells [.slice bo n k] true true 29) ∧ SlL encY 1 g (.slice bo n k) l ∧ Fits g (.slice bo n k) 5 ∧ Free0 g.next g) (plcF l E l.length).length (fun j => zi ((plcF l E l.length).getD j 0:Nat)) fun j => pakP (pkF l ((plcF l E l.length).getD j 0)):=by
 intro h' yv I I0 hI hG step
 refine CallW.fnC (H.fn 47 f152 rfl rfl) ?_
 refine WL.sr <| WOL.as rfl <| WOL.nil <| keep [(0,_),(1,_),(3,_)] ⟨rfl,rfl,rfl,trivial⟩ ?_
 refine WL.block ?_
 refine WL.loop (fun q a g => ∃ i:Nat,i ≤ l.length ∧ q = l.length - i ∧ nxtF l E i ≤ i ∧ I (plcF l E i).length g ∧ Kn [(0,yv),(1,ptr c),(3,zi (i:Nat))] a) l.length (fun a q => ⟨0,by omega,by omega,Nat.le_refl _,I0,q.sub ⟨rfl,rfl,rfl,trivial⟩⟩) ?_
 rintro q a g ⟨i,hi,rfl,hx,q1,q⟩
 refine q.go ?_
 obtain ⟨A,s,F,f⟩:=hI _ g q1
 refine WL.seq <| WL.sr <| WOL.mv rfl <| WOL.add (m:=(i:Nat)) (n:=20) rfl rfl (by omega) (by omega) <| WOL.ld rfl (load_one tp116 A rfl) <| WOL.len rfl s u116 ?_
 refine WOL.bi (v:=.bool (decide ((i:Int) + 20 ≤ (l.length:Int)))) rfl rfl rfl <| WOL.nil <| keep [(0,_),(1,_),(3,_),(10,_)] ⟨rfl,rfl,rfl,rfl,trivial⟩ ?_
 by_cases hlt:i + 20 ≤ l.length
 ·rw [show decide ((i:Int) + 20 ≤ (l.length:Int)) = true from decide_eq_true (by omega)]
  obtain ⟨q0,q',rfl,sl,ld⟩:=slice20 s F hlt
  refine WL.yes rfl <| WL.skip ?_
  refine WL.block ?_
  refine WL.sr <| WOL.ld rfl (load_one tp116 A rfl) <| WOL.mv rfl <| WOL.mv rfl ?_
  refine WOL.add (m:=(i:Nat)) (n:=20) rfl rfl (by omega) (by omega) ?_
  refine WOL.sl rfl rfl rfl sl ?_
  refine WOL.sap u106 (by decide) (by decide) rfl <| WOL.ld rfl ld ?_
  refine WOL.cl1 rfl rfl ((k153 H X Y (frm_len hlt) (frm_byt hb i) (hE i) f).mono ?_)
  rintro w g1 ⟨rfl,X1⟩
  rw [decV_eq (frm_len hlt) (frm_byt hb i),decR_eq]
  refine WOL.mv rfl <| WOL.ex rfl rfl <| WOL.ex rfl rfl <| WOL.al tp111 fun g2 N2 => ?_
  refine WOL.sto rfl rfl tp111 N2.at_ rfl rfl (Nat.le_of_ble_eq_true rfl) rfl ((f.on X1).hx N2.hx) (Nat.le_refl _) fun g3 P3 => ?_
  have X3:HX g g3:=X1.trans (P3.hx _ N2.hx (Nat.le_refl _))
  have A4:=P3.at_
  refine WOL.as rfl <| WOL.nil <| keep [(0,_),(1,_),(3,_),(4,_),(5,_)] ⟨rfl,rfl,rfl,rfl,rfl,trivial⟩ ?_
  refine WL.seq <| WL.sr <| WOL.mv rfl ?_
  refine WOL.bi (v:=.bool (decF (frm l i) (E i) != 0)) rfl rfl rfl <| WOL.nil <| keep [(0,_),(1,_),(3,_),(4,_),(23,_)] ⟨rfl,rfl,rfl,rfl,rfl,trivial⟩ ?_
  cases ho:okF l E i with
  | false =>
   have g0:isF l.length (okF l E) i = false:=by unfold isF;rw [ho,Bool.and_false]
   rw [show (decF (frm l i) (E i) != 0) = true by have:=okF_no ho;simpa using this]
   refine WL.yes rfl <| WL.sr <| WOL.mv rfl <| WOL.add (m:=(i:Nat)) rfl rfl (by omega) (by omega) <| WOL.as rfl <| WOL.nil ?_
   refine WL.exit ?_
   refine fun a q => ⟨l.length - (i + 1),by omega,i + 1,by omega,rfl,?_,?_,q.sub ⟨rfl,rfl,rfl,trivial⟩⟩
   ·unfold nxtF;rw [nxt_not _ _ g0];exact Nat.le_succ_of_le hx
   ·unfold plcF;rw [plc_not _ _ g0];exact hG _ _ _ q1 X3
  | true =>
   have g0:isF l.length (okF l E) i = true:=by unfold isF;rw [ho,Bool.and_true];exact ble_yes hlt
   obtain ⟨e1,e2⟩:=okF_yes ho
   obtain ⟨p1,p2,p3⟩:=plc_next _ _ hx g0
   rw [e1]
   refine WL.no rfl <| WL.skip ?_
   refine WL.seq <| WL.sr <| WOL.mv rfl <| WOL.mv rfl ?_
   rw [e2] at A4
   refine WOL.ld rfl (load_row tp111 A4 rfl (Nat.le_of_ble_eq_true rfl)) ?_
   have st:CallW Try.prog tp yv #[zi ((plcF l E l.length).getD (plcF l E i).length 0:Nat),pakP (pkF l ((plcF l E l.length).getD (plcF l E i).length 0))] g3 fun r g' => r = .bool true ∧ I ((plcF l E i).length + 1) g':=step (plcF l E i).length g3 p1 (hG _ _ _ q1 X3)
   rw [show (plcF l E l.length).getD (plcF l E i).length 0 = i from p2] at st
   refine WOL.cl2 rfl rfl rfl (st.mono ?_)
   rintro v g4 ⟨rfl,q4⟩
   refine WOL.nt rfl <| WOL.nil <| WL.no rfl <| WL.skip ?_
   refine WL.reg <| WOL.mv rfl <| WOL.add (m:=(i:Nat)) rfl rfl (by omega) (by omega) <| WOL.as rfl <| WOL.nil ?_
   refine fun a q => ⟨l.length - (i + 20),by omega,i + 20,by omega,rfl,?_,?_,q.sub ⟨rfl,rfl,rfl,trivial⟩⟩
   ·unfold nxtF;rw [nxt_frame _ _ hx g0];exact Nat.le_refl _
   ·unfold plcF;rw [plc_frame _ _ hx g0,List.length_append];exact q4
 ·rw [show decide ((i:Int) + 20 ≤ (l.length:Int)) = false from decide_eq_false (by omega)]
  refine WL.no rfl <| WL.exit ?_
  have e:plcF l E l.length = plcF l E i:=plc_last _ _ (by omega) hi
  rw [e]
  exact WL.endn rfl q1
theorem k121 (H:Has tp) {n0:Nat} {v:Value} {S:List (Int × Int)} {a b:Nat} (O:OwnL encS n0 h v 63 S) (f:Free0 n0 h) (hl:S.length < 1000000) (hn0:n0 ≤ h.next) :
  CallW Try.prog tp (.func (.func 22) #[] #[]) #[v,zi (a:Nat),zi (b:Nat)] h fun w h' => OwnL encS n0 h' w 63 (wsp S a b) ∧ (∀ h0,HX h0 h → h0.next ≤ n0 → HX h0 h') ∧ (∀ c y,bl v ≠ some c → At h c y → At h' c y) ∧ (bl w = bl v ∨ ∃ c,bl w = some c ∧ h.next ≤ c) ∧ h.next ≤ h'.next:=by
 refine CallW.fnL (H.fn 22 f121 rfl rfl) ?_
 refine WL.sr <| WOL.as rfl <| WOL.nil <| keep [(0,_),(1,_),(2,_)] ⟨rfl,rfl,rfl,trivial⟩ ?_
 refine WL.seq <| WL.sr <| WOL.mv rfl <| WOL.mv rfl ?_
 refine WOL.bi (v:=.bool ((a:Int) == (b:Int))) rfl rfl rfl <| WOL.nil <| keep [(0,_),(1,_),(2,_),(9,_)] ⟨rfl,rfl,rfl,rfl,trivial⟩ ?_
 by_cases e:a = b
 ·subst e
  rw [show ((a:Int) == (a:Int)) = true from beq_self_eq_true _]
  refine WL.yes rfl <| WL.sr <| WOL.mv rfl <| WOL.as rfl <| WOL.nil ?_
  refine WL.ret (WL.end_ rfl ?_)
  rw [wsp_same]
  exact ⟨O,fun _ x _ => x,fun _ _ _ x => x,.inl rfl,Nat.le_refl _⟩
 ·have e1:((a:Int) == (b:Int)) = false:=by
   cases q:((a:Int) == (b:Int)) with
   | false => rfl
   | true => have:=eq_of_beq q;omega
  rw [e1]
  refine WL.no rfl <| WL.skip ?_
  refine WL.sr <| WOL.mv rfl <| WOL.mv rfl <| WOL.mv rfl <| WOL.bd rfl bd48 <| WOL.bs2 rfl u44 tp48 fun h1 N1 => ?_
  obtain ⟨w2,g2,ap,O2,x2,k2,b2,n2⟩:=own_push (sT:=26) (x:=((a:Int),(b:Int))) eS u44 tp48 (O.hx N1.hx) (SlC.own (sz:=2) (m:=1) rfl N1.at_) (f.hx N1.hx) hl (Nat.le_trans hn0 N1.hx.next)
  refine WOL.ap rfl rfl ap <| WOL.as rfl <| WOL.nil ?_
  refine WL.done rfl ?_
  have ew:wsp S a b = S ++ [((a:Int),(b:Int))]:=by
   unfold wsp;rw [beq_no e];rfl
  rw [ew]
  exact ⟨O2,fun h0 x hn => x2 h0 (x.trans N1.hx) hn,fun c y hc A => k2 c y hc (A.hx N1.hx),.inr ⟨_,b2,N1.hx.next⟩,Nat.le_trans N1.hx.next n2⟩
end
end Go.Tidy
namespace Go.Tidy
open Go Go.Proofs Tab
theorem numB_bytes {n k:Nat}:∀ j,j ≤ k → numB ((bytesN n k).take j) = n / 256 ^ (k - j) % 256 ^ j
  | 0,_ => by rw [List.take_zero,Nat.pow_zero,Nat.mod_one];rfl
  | j + 1,hj => by
    have hl:j < (bytesN n k).length:=by rw [bytesN_len];omega
    rw [numB_step hl,numB_bytes j (by omega)]
    have e1:(bytesN n k).getD j 0 = n / 256 ^ (k - (j + 1)) % 256:=by
      rw [List.getD_eq_getElem?_getD,List.getElem?_eq_getElem hl]
      show (bytesN n k)[j] = _
      have:(bytesN n k)[j] = bytN n k j:=by simp [bytesN]
      rw [this]
      unfold bytN
      rw [show (2:Nat) ^ (8 * (k - 1 - j)) = 256 ^ (k - (j + 1)) by rw [Nat.pow_mul,show k - 1 - j = k - (j + 1) by omega]]
    have e2:n / 256 ^ (k - j) = n / 256 ^ (k - (j + 1)) / 256:=by
      rw [Nat.div_div_eq_div_mul,← Nat.pow_succ,show (k - (j + 1)).succ = k - j by omega]
    rw [e1,e2,Nat.pow_succ,Nat.mul_comm (256 ^ j) 256,Nat.mod_mul]
    omega
theorem numB_bytesN {n k:Nat} (h:n < 256 ^ k):numB (bytesN n k) = n:=by
 have:=numB_bytes (n:=n) (k:=k) k (Nat.le_refl _)
 rw [List.take_of_length_le (by rw [bytesN_len];exact Nat.le_refl _),Nat.sub_self,Nat.pow_zero,Nat.div_one,Nat.mod_eq_of_lt h] at this
 exact this
theorem wordF_lt {w:Nat} (h:w < 4294967296):wordF w < 4294967296:=by
 unfold wordF
 cases zeroF w
 ·exact h
 ·show 0 < 4294967296;decide
theorem wordF_ne {w:Nat}:(((wordF w:Nat):Int) == 2147483648) = false:=by
 unfold wordF zeroF
 by_cases h0:w % 2147483648 = 0
 ·rw [decide_eq_true h0];rfl
 ·rw [decide_eq_false h0]
  show ((w:Int) == 2147483648) = false
  exact beq_eq_false_iff_ne.2 (by omega)
theorem bodyB_lt {s c x y z:Nat}:∃ T:Nat,tot (bodyB s c x y z) = (T:Int) ∧ T < 16777213:=by
 have ti:=tot_in (bodyB s c x y z) (bodyB s c x y z).length
 rw [List.take_length] at ti
 exact ⟨(tot (bodyB s c x y z)).toNat,by omega,by omega⟩
section
variable {s c x y z:Nat} {es:List Int}
theorem frame_src:srcB (frameB s c x y z) = s:=rfl
theorem frame_cnt (hc:c < 65536):cntB (frameB s c x y z) = c:=by
 have e:((frameB s c x y z).drop 2).take 2 = bytesN c 2:=rfl
 unfold cntB
 rw [e]
 exact numB_bytesN (show c < 256 ^ 2 from hc)
theorem frame_wrd (hx:x < 4294967296) (hy:y < 4294967296) (hz:z < 4294967296) {k:Nat} (hk:k < 3):wrdB (frameB s c x y z) k = wordF (wd x y z k):=by
 unfold wrdB
 rw [part_f hk]
 refine numB_bytesN (show _ < 4294967296 from wordF_lt ?_)
 unfold wd
 split <;> assumption
theorem hdF_zero {l:List Nat}:hdF l = 0 ↔ (l.getD 0 0 = 90 ∧ ((numB (l.drop 16):Nat):Int) = tot (l.take 16)):=by
 unfold hdF
 by_cases h0:(l.getD 0 0:Int) = 90
 ·rw [show ((l.getD 0 0:Int) != 90) = false by rw [h0];rfl]
  by_cases h1:((numB (l.drop 16):Nat):Int) = tot (l.take 16)
  ·rw [show (((numB (l.drop 16):Nat):Int) != tot (l.take 16)) = false by simp [h1]]
   exact ⟨fun _ => ⟨by omega,h1⟩,fun _ => rfl⟩
  ·rw [show (((numB (l.drop 16):Nat):Int) != tot (l.take 16)) = true by simp [h1]]
   exact ⟨fun e => (by cases e),fun e => absurd e.2 h1⟩
 ·rw [show ((l.getD 0 0:Int) != 90) = true from bne_iff_ne.2 h0]
  exact ⟨fun e => (by cases e),fun e => by have:=e.1;omega⟩
theorem frame_hd:hdF (frameB s c x y z) = 0:=by
 refine hdF_zero.2 ⟨rfl,?_⟩
 obtain ⟨T,hT,hl⟩:=bodyB_lt (s:=s) (c:=c) (x:=x) (y:=y) (z:=z)
 have e1:(frameB s c x y z).drop 16 = bytesN (tot (bodyB s c x y z)).toNat 4:=rfl
 have e2:(frameB s c x y z).take 16 = bodyB s c x y z:=rfl
 have e3:T < 256 ^ 4:=Nat.lt_trans hl (by decide)
 rw [e1,e2,hT,Int.toNat_natCast,numB_bytesN e3]
theorem frame_bad (hx:x < 4294967296) (hy:y < 4294967296) (hz:z < 4294967296):badW (frameB s c x y z) 3 = false:=by
 cases h:badW (frameB s c x y z) 3 with
 | false => rfl
 | true =>
  obtain ⟨k,hk,e⟩:=bad_at h
  rw [frame_wrd hx hy hz hk,wordF_ne] at e
  cases e
theorem frame_dec (hc:c < 65536) (hx:x < 4294967296) (hy:y < 4294967296) (hz:z < 4294967296) (h0:firstNZ es = 0):decF (frameB s c x y z) es = 0 ∧ deP (frameB s c x y z) 0 = ((s:Int),(c:Int),wordF x,wordF y,wordF z):=by
 refine ⟨?_,?_⟩
 ·unfold decF tlF
  rw [frame_hd,frame_bad hx hy hz,h0]
  rfl
 ·show ((srcB (frameB s c x y z):Int),(cntB (frameB s c x y z):Int),wrdB (frameB s c x y z) 0,wrdB (frameB s c x y z) 1,wrdB (frameB s c x y z) 2) = _
  rw [frame_src,frame_cnt hc,frame_wrd hx hy hz (by decide),frame_wrd hx hy hz (by decide),frame_wrd hx hy hz (by decide)]
  rfl
end
theorem sampE_zero:SampleE 0 0:=by
 have h:=(smp_ok (n:=0) (by decide)).2.2
 rw [smp_zero] at h
 exact h.e0
theorem sampE_word {w:Nat} (h:SampleE w 0):SampleE (wordF w) 0:=by
 unfold wordF
 cases zeroF w
 ·exact h
 ·exact sampE_zero
end Go.Tidy
namespace Go.Tidy
open Go Go.Proofs Tab
variable {tp:TProg}
theorem tp113:Tp Try.prog 43 1 [.slice none 0 0] false:=tp_of (by kernel_rfl) (by kernel_rfl) rfl
theorem spn_len':∀ (P:List Nat) (s:List (Int × Int) × Nat),(spn P s).1.length ≤ s.1.length + P.length
 | [],_ => Nat.le_refl _
 | a :: P,s => by
  have h1:=spn_len' P (wsp s.1 s.2 a,a + 20)
  have h2:=wsp_len (l:=s.1) (a:=s.2) (b:=a)
  show (spn P (wsp s.1 s.2 a,a + 20)).1.length ≤ s.1.length + (P.length + 1)
  have h3:(wsp s.1 s.2 a,a + 20).1.length ≤ s.1.length + 1:=h2
  omega
def RcvA (l:List Nat) (E:Nat → List Int) (h:TH) (w:Value):Prop :=
 (20480 < l.length ∧ w = .tuple #[.slice none 0 0,.slice none 0 0,zi 26]) ∨
 (l.length ≤ 20480 ∧ ∃ w1 w2,w = .tuple #[w1,w2,zi 0] ∧ SlL encP 5 h w1 (pkL l (plcF l E l.length)) ∧ SlL encS 2 h w2 (skp l.length (okF l E) l.length))
def RcJ (h:TH) (n0 c c5 c6 c7:Nat) (vs:Value) (l P:List Nat) (j:Nat) (g:TH):Prop :=
 HX h g ∧ n0 ≤ g.next ∧ At g c (.cells [vs] true true 29) ∧ ∃ w1 w2,At g c5 (.cells [w1] true true 43) ∧ At g c6 (.cells [w2] true true 26) ∧ At g c7 (.cells [zi ((spn0 (P.take j)).2:Nat)] true true 3) ∧ OwnL encP n0 g w1 35 (pkL l (P.take j)) ∧ OwnL encS n0 g w2 63 (spn0 (P.take j)).1 ∧ ∀ x,bl w1 = some x → bl w2 ≠ some x
section
variable {h g g':TH} {n0 c c5 c6 c7:Nat} {vs:Value} {l P:List Nat} {j:Nat}
theorem RcJ.hx (q:RcJ h n0 c c5 c6 c7 vs l P j g) (x:HX g g'):RcJ h n0 c c5 c6 c7 vs l P j g':=by
 obtain ⟨q1,q2,q3,w1,w2,q4,q5,q6,q7,q8,q9⟩:=q
 exact ⟨q1.trans x,Nat.le_trans q2 x.next,q3.hx x,w1,w2,q4.hx x,q5.hx x,q6.hx x,q7.hx x,q8.hx x,q9⟩
theorem RcJ.put {b:Nat} {x:TB} (q:RcJ h n0 c c5 c6 c7 vs l P j g) (p:Put g g' b x) (h0:h.next ≤ b) (hb:b < n0) (e:b ≠ c) (e5:b ≠ c5) (e6:b ≠ c6) (e7:b ≠ c7):RcJ h n0 c c5 c6 c7 vs l P j g':=by
 obtain ⟨q1,q2,q3,w1,w2,q4,q5,q6,q7,q8,q9⟩:=q
 exact ⟨p.hx _ q1 h0,by rw [p.next];exact q2,p.oth _ _ (Ne.symm e) q3,w1,w2,p.oth _ _ (Ne.symm e5) q4,p.oth _ _ (Ne.symm e6) q5,p.oth _ _ (Ne.symm e7) q6,
  q7.keep fun c y hc a => p.oth _ _ (by have:=(q7.lt hc).1;omega) a,q8.keep fun c y hc a => p.oth _ _ (by have:=(q8.lt hc).1;omega) a,q9⟩
end
theorem pk_take {P:List Nat} {j:Nat} (hj:j < P.length):P.take (j + 1) = P.take j ++ [P.getD j 0]:=by
 rw [List.take_succ_eq_append_getElem hj,List.getD_eq_getElem?_getD,List.getElem?_eq_getElem hj]
 rfl
section
variable {h:TH} {l:List Nat} {E:Nat → List Int} {bo:Option Addr} {n k:Nat}
set_option maxHeartbeats 4000000 in
set_option maxRecDepth 10000 in
theorem k67 (H:Has tp) (X:HasX tp) (Y:HasY tp) (hb:Byt l) (hE:FmE l E) (hl:l.length ≤ 1000000) (s:SlL encY 1 h (.slice bo n k) l) (F:Fits h (.slice bo n k) 5) (f:Free0 h.next h) :
    CallW Try.prog tp (.func (.func 7) #[] #[]) #[.slice bo n k] h fun w h' => HX h h' ∧ RcvA l E h' w:=by
  refine CallW.fnL (H.fn 7 f67 rfl rfl) ?_
  refine WL.sr <| WOL.as rfl <| WOL.as rfl <| WOL.as rfl <| WOL.nil <| keep [(0,_)] ⟨rfl,trivial⟩ ?_
  refine WL.seq <| WL.sr <| WOL.mv rfl <| WOL.len rfl s u116 ?_
  refine WOL.bi (v:=.bool (decide ((l.length:Int) > 20480))) rfl rfl rfl <| WOL.nil <| keep [(0,_),(12,_)] ⟨rfl,rfl,trivial⟩ ?_
  by_cases hbig:20480 < l.length
  · rw [show decide ((l.length:Int) > 20480) = true from decide_eq_true (by omega)]
    refine WL.yes rfl <| WL.sr <| WOL.as rfl <| WOL.as rfl <| WOL.as rfl <| WOL.nil ?_
    exact WL.ret (WL.end_ rfl ⟨HX.refl _,.inl ⟨hbig,rfl⟩⟩)
  rw [show decide ((l.length:Int) > 20480) = false from decide_eq_false (by omega)]
  refine WL.no rfl <| WL.skip ?_
  refine WL.sr <| WOL.al tp113 fun h1 N1 => WOL.nil ?_
  refine WL.sr <| WOL.al tp44 fun h2 N2 => WOL.nil ?_
  have n1:=N1.next
  have n2:=N2.next
  refine WL.sr <| WOL.al tp3 fun h3 N3 => ?_
  have n3:=N3.next
  have X3:=(N1.hx.trans N2.hx).trans N3.hx
  refine WOL.sto rfl rfl tp3 N3.at_ rfl rfl (Nat.le_of_ble_eq_true rfl) rfl (f.hx X3) (by omega) fun h4 P4 => ?_
  have n4:=P4.next
  have X4:HX h h4:=P4.hx _ X3 (by omega)
  have B5:At h4 h.next (.cells [.slice none 0 0] true true 43):=P4.oth _ _ (by omega) ((N1.at_.hx N2.hx).hx N3.hx)
  have B6:At h4 h1.next (.cells [.slice none 0 0] true true 26):=P4.oth _ _ (by omega) (N2.at_.hx N3.hx)
  have B7:At h4 h2.next (.cells [zi 0] true true 3):=P4.at_
  refine WOL.nil <| keep [(0,_),(5,_),(6,_),(7,_)] ⟨rfl,rfl,rfl,rfl,trivial⟩ ?_
  refine WL.seq <| WL.sr <| WOL.mv rfl ?_
  refine WOL.cl1 rfl rfl ((k120 H h4).mono ?_)
  rintro w h5 ⟨c,rfl,X5,Ac,hc⟩
  have n5:=X5.next
  have ac:=Ac.lt
  have X5':=X4.trans X5
  refine WOL.nil <| keep [(0,_),(5,_),(6,_),(7,_),(14,_)] ⟨rfl,rfl,rfl,rfl,rfl,trivial⟩ ?_
  refine WL.block ?_
  have hP:∀ j,j < (plcF l E l.length).length → (plcF l E l.length).getD j 0 + 20 ≤ l.length:=by
    intro j hj
    rw [List.getD_eq_getElem?_getD,List.getElem?_eq_getElem hj]
    exact (plc_lt _ _ _ _ (List.getElem_mem hj)).1
  have hPl:(plcF l E l.length).length ≤ l.length:=plc_len _ _ _
  refine WL.range2 rfl (H.fn 47 f152 rfl rfl) (y152 H X Y hb hE hl) (RcJ h (h5.next + 1) c h.next h1.next h2.next (.slice bo n k) l (plcF l E l.length)) (fun j g q => ⟨q.2.2.1,s.hx q.1,F.hx q.1,f.on q.1⟩) (fun j g q => (f.hx q.1).up (by omega)) (fun j g g' x q p => q.put p (by omega) (by omega) (by omega) (by omega) (by omega) (by omega)) (fun j g g' q x => q.hx x) ?_ ?_ ?_
  · rintro g x N
    exact ⟨X5'.trans N.hx,by have:=N.next;omega,Ac.hx N.hx,_,_,(B5.hx X5).hx N.hx,(B6.hx X5).hx N.hx,(B7.hx X5).hx N.hx,.inl ⟨rfl,rfl⟩,.inl ⟨rfl,rfl⟩,fun x e => by cases e⟩
  · rintro j g x hj q A
    have hpj:=hP j hj
    refine WL.sr <| WOL.as rfl <| WOL.nil <| keep [(0,_),(5,_),(6,_),(7,_),(8,_),(14,_),(16,_)] ⟨rfl,rfl,rfl,rfl,rfl,rfl,rfl,trivial⟩ ?_
    refine WL.reg <| WOL.al tp111 fun g1 N1' => ?_
    have m1:=N1'.next
    have gn:=q.2.1
    refine WOL.sto rfl rfl tp111 N1'.at_ rfl rfl (Nat.le_of_ble_eq_true rfl) rfl ((f.on q.1).hx N1'.hx) (Nat.le_refl _) fun g2 P2 => ?_
    have m2:=P2.next
    have Xg2:HX g g2:=P2.hx _ N1'.hx (Nat.le_refl _)
    have D9:At g2 g.next (.cells (encP (pkF l ((plcF l E l.length).getD j 0))) true true 35):=P2.at_
    refine WOL.nil <| keep [(0,_),(5,_),(6,_),(7,_),(8,_),(9,_),(14,_)] ⟨rfl,rfl,rfl,rfl,rfl,rfl,rfl,trivial⟩ ?_
    intro r hr
    refine ⟨rfl,(f.hx (q.1.trans Xg2)).up (by omega),A.hx Xg2,fun g3 x3 P3 => ?_⟩
    refine hr.go ?_
    obtain ⟨q1,q2,qc,w1,w2,q5,q6,q7,o1,o2,ne⟩:=q
    have T:∀ z y,z ≠ h5.next → At g z y → At g3 z y:=fun z y e a => P3.oth _ _ e (a.hx Xg2)
    have E9:=P3.oth _ _ (by omega) D9
    have A3:=P3.at_
    have m3:=P3.next
    have r1:HX h g3:=P3.hx _ (q1.trans Xg2) (by omega)
    have l1:=fun z (hz:bl w1 = some z) => o1.lt hz
    have l2:=fun z (hz:bl w2 = some z) => o2.lt hz
    have O1:OwnL encP (h5.next + 1) g3 w1 35 _:=o1.keep fun z y hz a => T z y (by have:=l1 z hz;omega) a
    have O2:OwnL encS (h5.next + 1) g3 w2 63 _:=o2.keep fun z y hz a => T z y (by have:=l2 z hz;omega) a
    replace qc:=T _ _ (by omega) qc
    replace q5:=T _ _ (by omega) q5
    replace q6:=T _ _ (by omega) q6
    replace q7:=T _ _ (by omega) q7
    have fg:Free0 (h5.next + 1) g3:=(f.hx r1).up (by omega)
    have ltk:((plcF l E l.length).take j).length ≤ l.length:=by rw [List.length_take];omega
    refine WL.block <| WL.sr ?_
    refine WOL.ld rfl (load_one tp44 q6 rfl) <| WOL.ld rfl (load_one tp3 q7 rfl) <| WOL.mv rfl ?_
    have ls:(spn0 ((plcF l E l.length).take j)).1.length < 1000000:=by
      have:=spn_len' ((plcF l E l.length).take j) ([],0)
      have e:(([],0):List (Int × Int) × Nat).1.length = 0:=rfl
      show (spn ((plcF l E l.length).take j) ([],0)).1.length < 1000000
      omega
    refine WOL.cl3 rfl rfl rfl rfl ((k121 H O2 fg ls (by omega)).mono ?_)
    rintro w2' g4 ⟨o2',x4,k4,b4,m4⟩
    obtain ⟨z2,e2⟩:=OwnF.form (Or.inl o2')
    have r4:HX h g4:=x4 _ r1 (by omega)
    have no:∀ z,z < h5.next + 1 → bl w2 ≠ some z:=fun z hz e => by have:=l2 z e;omega
    have U:∀ z y,bl w2 ≠ some z → At g3 z y → At g4 z y:=k4
    have F9:=U _ _ (fun e => by have:=l2 _ e;omega) E9
    have G1:OwnL encP (h5.next + 1) g4 w1 35 _:=O1.keep fun z y hz a => U z y (ne z hz) a
    refine WOL.sto (vs:=[w2']) rfl rfl tp44 (U _ _ (no _ (by omega)) q6) (by rw [e2];rfl) rfl (Nat.le_of_ble_eq_true rfl) (by rw [e2];rfl) (f.hx r4) (by omega) fun g5 P5 => ?_
    have r5:HX h g5:=P5.hx _ r4 (by omega)
    have m5:=P5.next
    have V:∀ z y,z ≠ h1.next → At g4 z y → At g5 z y:=P5.oth
    have C6:=P5.at_
    refine WOL.nil <| keep [(0,_),(5,_),(6,_),(7,_),(8,_),(9,_),(14,_)] ⟨rfl,rfl,rfl,rfl,rfl,rfl,rfl,trivial⟩ ?_
    -- the packet
    refine WL.sr <| WOL.ld rfl (load_one tp113 (V _ _ (by omega) (U _ _ (no _ (by omega)) q5)) rfl) ?_
    refine WOL.ld rfl (load_row tp111 (V _ _ (by omega) F9) rfl (Nat.le_of_ble_eq_true rfl)) ?_
    refine WOL.bsl rfl u113 tp111 (by decide) (by decide) (by decide) (cs:=encP (pkF l ((plcF l E l.length).getD j 0))) rfl fun g6 N6 => ?_
    have m6:=N6.next
    have K1:OwnL encP (h5.next + 1) g6 w1 35 _:=(G1.keep fun z y hz a => V z y (by have:=l1 z hz;omega) a).hx N6.hx
    have f6:Free0 (h5.next + 1) g6:=(f.hx (r5.trans N6.hx)).up (by omega)
    obtain ⟨w1',g7,ap,o1',x7,k7,b7,m7⟩:=own_push (sT:=43) (x:=pkF l ((plcF l E l.length).getD j 0)) eP u113 tp111 K1 (SlC.own (sz:=5) (m:=1) rfl N6.at_) f6 (by unfold pkL;rw [List.length_map];omega) (by omega)
    refine WOL.ap rfl rfl ap ?_
    obtain ⟨z1,e1⟩:=OwnF.form (Or.inl o1')
    have r7:HX h g7:=x7 _ (r5.trans N6.hx) (by omega)
    have no1:∀ z,z < h5.next + 1 → bl w1 ≠ some z:=fun z hz e => by have:=l1 z e;omega
    have W7:∀ z y,z < h5.next + 1 → At g5 z y → At g7 z y:=fun z y hz a => k7 z y (no1 z hz) (a.hx N6.hx)
    refine WOL.sto (vs:=[w1']) rfl rfl tp113 (W7 _ _ (by omega) (V _ _ (by omega) (U _ _ (no _ (by omega)) q5))) (by rw [e1];rfl) rfl (Nat.le_of_ble_eq_true rfl) (by rw [e1];rfl) (f.hx r7) (by omega) fun g8 P8 => ?_
    have m8:=P8.next
    have r8:HX h g8:=P8.hx _ r7 (by omega)
    have Y8:∀ z y,z ≠ h.next → At g7 z y → At g8 z y:=P8.oth
    refine WOL.nil <| keep [(0,_),(5,_),(6,_),(7,_),(8,_),(9,_),(14,_)] ⟨rfl,rfl,rfl,rfl,rfl,rfl,rfl,trivial⟩ ?_
    refine WL.reg <| WOL.mv rfl ?_
    refine WOL.add (m:=(((plcF l E l.length).getD j 0:Nat):Int)) (n:=20) rfl rfl (by omega) (by omega) ?_
    have D7:=Y8 _ _ (by omega) (W7 _ _ (by omega) (V _ _ (by omega) (U _ _ (no _ (by omega)) q7)))
    refine WOL.sto rfl rfl tp3 D7 rfl rfl (Nat.le_of_ble_eq_true rfl) rfl (f.hx r8) (by omega) fun g9 P9 => ?_
    have m9:=P9.next
    have Z9:∀ z y,z ≠ h2.next → At g8 z y → At g9 z y:=P9.oth
    refine WOL.nil fun r hr => ?_
    have all:∀ z y,z < h5.next + 1 → z ≠ h.next → z ≠ h1.next → z ≠ h2.next → At g3 z y → At g9 z y:=fun z y hz e1 e2 e3 a => Z9 _ _ e3 (Y8 _ _ e1 (W7 _ _ hz (V _ _ e2 (U _ _ (no _ hz) a))))
    refine ⟨rfl,⟨P9.hx _ r8 (by omega),by omega,all _ _ (by omega) (by omega) (by omega) (by omega) qc,w1',w2',?_,?_,?_,?_,?_,?_⟩,all _ _ (by omega) (by omega) (by omega) (by omega) A3⟩
    · exact Z9 _ _ (by omega) P8.at_
    · exact Z9 _ _ (by omega) (Y8 _ _ (by omega) (W7 _ _ (by omega) C6))
    · rw [pk_take hj,spn0_app]
      exact P9.at_
    · rw [pk_take hj]
      unfold pkL
      rw [List.map_append]
      exact o1'.keep fun z y hz a => Z9 z y (by have:=o1'.lt hz;omega) (Y8 z y (by have:=o1'.lt hz;omega) a)
    · rw [pk_take hj,spn0_app]
      refine o2'.keep fun z y hz a => ?_
      have lz:=o2'.lt hz
      refine Z9 z y (by omega) (Y8 z y (by omega) (k7 z y ?_ ((V z y (by omega) a).hx N6.hx)))
      intro e
      rcases b4 with b4 | ⟨z',b4,b5⟩
      · exact ne z e (b4 ▸ hz)
      · have:z' = z:=Option.some.inj (b4.symm.trans hz)
        have:=l1 z e
        omega
    · intro z hz e
      have:z = g6.next:=Option.some.inj (hz.symm.trans b7)
      have:=o2'.lt e
      omega
  · rintro g ⟨q1,q2,qc,w1,w2,q5,q6,q7,o1,o2,ne⟩
    rw [List.take_length] at q7 o1 o2
    refine WL.sr <| WOL.ld rfl (load_one tp113 q5 rfl) <| WOL.ld rfl (load_one tp44 q6 rfl) <| WOL.ld rfl (load_one tp3 q7 rfl) <| WOL.mv rfl <| WOL.len rfl (s.hx q1) u116 ?_
    have fg:Free0 (h5.next + 1) g:=(f.hx q1).up (by omega)
    have ls:(spn0 (plcF l E l.length)).1.length < 1000000:=by
      have:=spn_len l.length (okF l E) l.length
      have:(spn0 (plcF l E l.length)).1.length ≤ l.length:=this
      omega
    refine WOL.lq3 [h.next] rfl rfl rfl rfl rfl fun M hM => ((k121 H (o2.relock M) (fg.held hM (fun b hb => by simp at hb;omega)) ls q2).mono ?_)
    rintro w2' g4 ⟨o2',x4,k4,b4,m4⟩
    have r4:HX h (g4.withLock g.lock):=by
      rw [q1.lock]
      exact (x4 _ (q1.locked M) (by show h.next ≤ _;omega)).relock
    refine WOL.as rfl <| WOL.as rfl <| WOL.as rfl <| WOL.nil ?_
    refine WL.done rfl ⟨r4,.inr ⟨by omega,w1,w2',rfl,?_,?_⟩⟩
    · exact ((o1.relock M).keep fun z y hz a => (k4 z y (ne z hz) a).relock _).sl eP
    · have:=(o2'.relock g.lock).sl eS
      rw [skp_end]
      exact this
end
end Go.Tidy
namespace Go.Tidy
open Go Go.Proofs Tab
section
variable (l:List Pkt)
end
theorem serr_000 {x y z:Nat} (hx:SampleE x 0) (hy:SampleE y 0) (hz:SampleE z 0):SErr [x,y,z] [0,0,0]:=by
 refine ⟨rfl,fun i b e h1 h2 => ?_⟩
 match i,h1,h2 with
 | 0,h1,h2 => cases h1;cases h2;exact hx
 | 1,h1,h2 => cases h1;cases h2;exact hy
 | 2,h1,h2 => cases h1;cases h2;exact hz
section
variable {l:List Pkt} {m k a b:Nat}
theorem lost_app {src:Int} {L:List Pkt} {p:Pkt}:lostS src (L ++ [p]) = lstep src (lostS src L) p:=by
 unfold lostS
 rw [List.foldl_append]
 rfl
end
end Go.Tidy
namespace Go.Tidy
section
variable {keep:Nat → Bool} {x:Nat → Int}
def celJ (keep:Nat → Bool) (x:Nat → Int) (p:Nat):Int × Bool:=if keep (p / 3) then (x p,true) else (0,false)
def rowJ (keep:Nat → Bool) (x:Nat → Int) (lo hi:Nat):List (Int × Bool):=(List.range' lo (hi - lo)).map (celJ keep x)
theorem rowJ_len {lo hi:Nat}:(rowJ keep x lo hi).length = hi - lo:=by
 unfold rowJ
 rw [List.length_map,List.length_range']
theorem rowJ_app {a b c:Nat} (h1:a ≤ b) (h2:b ≤ c):rowJ keep x a b ++ rowJ keep x b c = rowJ keep x a c:=by
 unfold rowJ
 rw [← List.map_append]
 obtain ⟨m,rfl⟩:=Nat.le.dest h1
 obtain ⟨k,rfl⟩:=Nat.le.dest h2
 rw [show a + m - a = m by omega,show a + m + k - (a + m) = k by omega,show a + m + k - a = m + k by omega,List.range'_append_1]
theorem rowJ_dark {a b:Nat} (h:∀ p,a ≤ p → p < b → keep (p / 3) = false):rowJ keep x a b = List.replicate (b - a) ((0:Int),false):=by
 refine List.eq_replicate_iff.2 ⟨rowJ_len,fun c hc => ?_⟩
 unfold rowJ at hc
 obtain ⟨p,hp,rfl⟩:=List.mem_map.1 hc
 rw [List.mem_range'_1] at hp
 unfold celJ
 rw [h p hp.1 (by omega)]
 rfl
theorem rowJ_three {c:Nat} (h:keep c = true):rowJ keep x (3 * c) (3 * c + 3) = [(x (3 * c),true),(x (3 * c + 1),true),(x (3 * c + 2),true)]:=by
 unfold rowJ
 rw [show 3 * c + 3 - 3 * c = 3 by omega]
 show [celJ keep x (3 * c),celJ keep x (3 * c + 1),celJ keep x (3 * c + 1 + 1)] = _
 unfold celJ
 rw [show 3 * c / 3 = c by omega,show (3 * c + 1) / 3 = c by omega,show (3 * c + 1 + 1) / 3 = c by omega,h]
 rfl
theorem rowJ_join {lo b c:Nat} (h1:lo ≤ 3 * b) (h2:b ≤ c) (hd:∀ i,b ≤ i → i < c → keep i = false) (hk:keep c = true) :
  [rowJ keep x lo (3 * b),List.replicate (3 * c - 3 * b) ((0:Int),false),[(x (3 * c),true),(x (3 * c + 1),true),(x (3 * c + 2),true)]].flatten = rowJ keep x lo (3 * (c + 1)):=by
 rw [← rowJ_three hk,← rowJ_dark (keep:=keep) (x:=x) (a:=3 * b) (b:=3 * c) fun p p1 p2 => hd _ (by omega) (by omega)]
 show rowJ keep x lo (3 * b) ++ (rowJ keep x (3 * b) (3 * c) ++ (rowJ keep x (3 * c) (3 * c + 3) ++ [])) = _
 rw [List.append_nil,rowJ_app (by omega) (by omega),rowJ_app (by omega) (by omega),show 3 * c + 3 = 3 * (c + 1) by omega]
theorem rowJ_get {lo hi p:Nat} (h1:lo ≤ p) (h2:p < hi):(rowJ keep x lo hi)[p - lo]? = some (celJ keep x p):=by
 unfold rowJ
 rw [List.getElem?_map,List.getElem?_range' (by omega),show lo + 1 * (p - lo) = p by omega]
 rfl
theorem rowJ_rev {lo hi n:Nat} (h1:lo ≤ hi) (h2:hi ≤ 3 * n):(rowJ keep x lo hi).reverse = rowJ (fun i => keep (n - 1 - i)) (fun p => x (3 * n - 1 - p)) (3 * n - hi) (3 * n - lo):=by
 refine List.ext_getElem? fun i => ?_
 by_cases hi':i < hi - lo
 ·rw [List.getElem?_reverse (by rw [rowJ_len];exact hi'),rowJ_len,show hi - lo - 1 - i = (hi - 1 - i) - lo by omega,rowJ_get (by omega) (by omega)]
  have:=rowJ_get (keep:=fun i => keep (n - 1 - i)) (x:=fun p => x (3 * n - 1 - p)) (lo:=3 * n - hi) (hi:=3 * n - lo) (p:=3 * n - hi + i) (by omega) (by omega)
  rw [show 3 * n - hi + i - (3 * n - hi) = i by omega] at this
  rw [this]
  unfold celJ
  have e1:n - 1 - (3 * n - hi + i) / 3 = (hi - 1 - i) / 3:=by omega
  have e2:3 * n - 1 - (3 * n - hi + i) = hi - 1 - i:=by omega
  simp only [e1,e2]
 ·rw [List.getElem?_eq_none (by rw [List.length_reverse,rowJ_len];omega),List.getElem?_eq_none (by rw [rowJ_len];omega)]
end
def keptJ (keep:Nat → Bool) (n:Nat):List Nat:=(List.range n).filter keep
theorem keptJ_succ {keep:Nat → Bool} {n:Nat}:keptJ keep (n + 1) = if keep n then keptJ keep n ++ [n] else keptJ keep n:=by
 unfold keptJ
 rw [List.range_succ,List.filter_append]
 by_cases h:keep n = true
 ·rw [if_pos h,List.filter_cons_of_pos h];rfl
 ·rw [if_neg h,List.filter_cons_of_neg h,List.filter_nil,List.append_nil]
theorem keptJ_rev {keep:Nat → Bool} {n:Nat}:(keptJ keep n).reverse.map (fun i => n - 1 - i) = keptJ (fun i => keep (n - 1 - i)) n:=by
 unfold keptJ
 rw [← List.filter_reverse]
 have e:(List.range n).reverse = (List.range n).map fun i => n - 1 - i:=by
  refine List.ext_getElem (by simp) fun i i1 i2 => ?_
  simp at i1
  simp
 rw [e,List.filter_map,List.map_map]
 have e2:∀ l:List Nat,(∀ i,i ∈ l → i < n) → l.map ((fun i => n - 1 - i) ∘ fun i => n - 1 - i) = l:=by
  intro l hl
  induction l with
  | nil => rfl
  | cons a r ih =>
   have:=hl a (by simp)
   rw [List.map_cons,ih fun i hi => hl i (by simp [hi])]
   show (n - 1 - (n - 1 - a)) :: r = _
   rw [show n - 1 - (n - 1 - a) = a by omega]
 rw [e2 _ fun i hi => List.mem_range.1 (List.mem_filter.1 hi).1]
 rfl
theorem keptJ_mem {keep:Nat → Bool} {n c:Nat}:c ∈ keptJ keep n ↔ c < n ∧ keep c = true:=by
 unfold keptJ
 rw [List.mem_filter,List.mem_range]
theorem keptJ_last {keep:Nat → Bool}:∀ {n k c:Nat},(keptJ keep n)[k]? = some c → (keptJ keep n).length = k + 1 → ∀ i,c < i → i < n → keep i = false
  | 0,_,_,h,_ => by simp [keptJ] at h
  | n + 1,k,c,h,hl => by
    rw [keptJ_succ] at h hl
    intro i i1 i2
    by_cases g:keep n = true
    · rw [if_pos g] at h hl
      rw [List.length_append] at hl
      have hl:(keptJ keep n).length = k:=by simpa using hl
      rw [List.getElem?_append_right (by omega),hl,Nat.sub_self] at h
      have:n = c:=by simpa using h
      omega
    · rw [if_neg g] at h hl
      by_cases e:i = n
      · subst e;simpa using g
      · exact keptJ_last h hl i i1 (by omega)
theorem keptJ_next {keep:Nat → Bool}:∀ {n k c d:Nat},(keptJ keep n)[k]? = some c → (keptJ keep n)[k + 1]? = some d → c < d ∧ ∀ i,c < i → i < d → keep i = false
  | 0,_,_,_,h,_ => by simp [keptJ] at h
  | n + 1,k,c,d,h,h' => by
    rw [keptJ_succ] at h h'
    by_cases g:keep n = true
    · rw [if_pos g] at h h'
      by_cases e:k + 1 < (keptJ keep n).length
      · rw [List.getElem?_append_left (by omega)] at h h'
        exact keptJ_next h h'
      · have e2:k + 1 = (keptJ keep n).length:=by
          have:=(List.getElem?_eq_some_iff.1 h').1
          rw [List.length_append] at this
          simp at this
          omega
        rw [List.getElem?_append_left (by omega)] at h
        rw [List.getElem?_append_right (by omega),e2,Nat.sub_self] at h'
        have e3:n = d:=by simpa using h'
        subst e3
        have m:=keptJ_mem.1 (List.mem_of_getElem? h)
        exact ⟨m.1,fun i i1 i2 => keptJ_last h e2.symm i i1 i2⟩
    · rw [if_neg g] at h h'
      exact keptJ_next h h'
theorem keptJ_first {keep:Nat → Bool}:∀ {n c:Nat},(keptJ keep n)[0]? = some c → ∀ i,i < c → keep i = false
  | 0,_,h => by simp [keptJ] at h
  | n + 1,c,h => by
    rw [keptJ_succ] at h
    by_cases g:keep n = true
    · rw [if_pos g] at h
      by_cases e:(keptJ keep n).length = 0
      · rw [List.length_eq_zero_iff.1 e] at h
        have e3:n = c:=by simpa using h
        subst e3
        intro i hi
        cases q:keep i with
        | false => rfl
        | true =>
          have:=keptJ_mem.2 ⟨hi,q⟩
          rw [List.length_eq_zero_iff.1 e] at this
          cases this
      · rw [List.getElem?_append_left (by omega)] at h
        exact keptJ_first h
    · rw [if_neg g] at h
      exact keptJ_first h
end Go.Tidy
namespace Go.Tidy
open Go Go.Proofs Tab
def lastJ (keep:Nat → Bool):Nat → Option Nat
 | 0 => none
 | n + 1 => if keep n then some n else lastJ keep n
def goneJ (keep:Nat → Bool):Nat → List Int
 | 0 => []
 | n + 1 => if keep n then goneJ keep n ++ more (lastJ keep n) n else goneJ keep n
section
variable {keep:Nat → Bool}
theorem lostS_kept {src:Int} {P:Nat → Pkt} (hs:∀ i,(P i).1 = src) (hc:∀ i,(P i).2.1 = (i:Int)):∀ n,lostS src ((keptJ keep n).map P) = (lastJ keep n,goneJ keep n)
  | 0 => rfl
  | n + 1 => by
    have ih:=lostS_kept hs hc n
    rw [keptJ_succ]
    show _ = (if keep n then some n else lastJ keep n,if keep n then goneJ keep n ++ more (lastJ keep n) n else goneJ keep n)
    by_cases g:keep n = true
    · rw [if_pos g,if_pos g,if_pos g,List.map_append,List.map_cons,List.map_nil,lost_app,ih]
      unfold lstep
      rw [hs,hc,bne_self_eq_false,Int.toNat_natCast]
      rfl
    · rw [if_neg g,if_neg g,if_neg g,ih]
theorem lastJ_keep:∀ {n l:Nat},lastJ keep n = some l → l < n ∧ keep l = true ∧ ∀ i,l < i → i < n → keep i = false
  | 0,_,h => by cases h
  | n + 1,l,h => by
    replace h:(if keep n then some n else lastJ keep n) = some l:=h
    by_cases g:keep n = true
    · rw [if_pos g] at h
      cases h
      exact ⟨Nat.lt_succ_self _,g,fun i i1 i2 => by omega⟩
    · rw [if_neg g] at h
      obtain ⟨h1,h2,h3⟩:=lastJ_keep h
      refine ⟨by omega,h2,fun i i1 i2 => ?_⟩
      by_cases e:i = n
      · subst e;simpa using g
      · exact h3 i i1 (by omega)
theorem lastJ_none:∀ {n:Nat},lastJ keep n = none → keptJ keep n = []
  | 0,_ => rfl
  | n + 1,h => by
    replace h:(if keep n then some n else lastJ keep n) = none:=h
    by_cases g:keep n = true
    · rw [if_pos g] at h;cases h
    · rw [if_neg g] at h
      rw [keptJ_succ,if_neg g]
      exact lastJ_none h
theorem gap_plain {a c:Nat} (h:a < c) (hc:c < 65536):gap a c = (List.range' (a + 1) (c - a - 1)).map fun i:Nat => (i:Int):=by
 unfold gap
 have e:gapN a c = c - a - 1:=by unfold gapN;omega
 rw [e]
 refine List.ext_getElem? fun j => ?_
 rw [List.getElem?_map,List.getElem?_map]
 by_cases hj:j < c - a - 1
 ·rw [List.getElem?_range hj,List.getElem?_range' hj]
  show some ((seqAt a j:Nat):Int) = some ((a + 1 + 1 * j:Nat):Int)
  congr 2
  unfold seqAt
  omega
 ·rw [List.getElem?_eq_none (by rw [List.length_range];omega),List.getElem?_eq_none (by rw [List.length_range'];omega)]
  rfl
def wantJ (keep:Nat → Bool) (f m:Nat):List Int:=((List.range' f (m - f)).filter fun i => !keep i).map fun i:Nat => (i:Int)
theorem wantJ_all {f m:Nat} (h:∀ i,f ≤ i → i < m → keep i = false):wantJ keep f m = (List.range' f (m - f)).map fun i:Nat => (i:Int):=by
 unfold wantJ
 rw [List.filter_eq_self.2 fun i hi => by
  rw [List.mem_range'_1] at hi
  rw [h i hi.1 (by omega)]
  rfl]
theorem wantJ_app {a b c:Nat} (h1:a ≤ b) (h2:b ≤ c):wantJ keep a b ++ wantJ keep b c = wantJ keep a c:=by
 unfold wantJ
 rw [← List.map_append,← List.filter_append]
 obtain ⟨m,rfl⟩:=Nat.le.dest h1
 obtain ⟨k,rfl⟩:=Nat.le.dest h2
 rw [show a + m - a = m by omega,show a + m + k - (a + m) = k by omega,show a + m + k - a = m + k by omega,List.range'_append_1]
theorem wantJ_one {a:Nat} (h:keep a = true):wantJ keep a (a + 1) = []:=by
 unfold wantJ
 rw [show a + 1 - a = 1 by omega]
 show (([a].filter fun i => !keep i).map fun i:Nat => (i:Int)) = []
 rw [List.filter_cons_of_neg (by rw [h];decide)]
 rfl
theorem goneJ_want {f:Nat} (hf:∀ i,i < f → keep i = false) (hk:keep f = true):∀ {n l:Nat},n < 65536 → lastJ keep n = some l → f ≤ l ∧ goneJ keep n = wantJ keep f l
  | 0,_,_,h => by cases h
  | n + 1, l, hn, h => by
    replace h:(if keep n then some n else lastJ keep n) = some l:=h
    by_cases g:keep n = true
    · rw [if_pos g] at h
      cases h
      have hfn:f ≤ n:=by
        cases Nat.lt_or_ge n f with
        | inl q => rw [hf n q] at g;cases g
        | inr q => exact q
      refine ⟨hfn,?_⟩
      show (if keep n then goneJ keep n ++ more (lastJ keep n) n else goneJ keep n) = _
      rw [if_pos g]
      cases hl:lastJ keep n with
      | none =>
        have e:keptJ keep n = []:=lastJ_none hl
        have e2:f = n:=by
          cases Nat.lt_or_ge f n with
          | inl q =>
            have:=keptJ_mem.2 ⟨q,hk⟩
            rw [e] at this
            cases this
          | inr q => omega
        have e3:goneJ keep n = []:=by
          have:∀ m,(∀ i,i < m → keep i = false) → goneJ keep m = []:=by
            intro m
            induction m with
            | zero => exact fun _ => rfl
            | succ m ih =>
              intro hm
              show (if keep m then goneJ keep m ++ more (lastJ keep m) m else goneJ keep m) = _
              rw [if_neg (by rw [hm m (by omega)];decide)]
              exact ih fun i hi => hm i (by omega)
          exact this n (by rw [← e2];exact hf)
        rw [e3]
        subst e2
        show [] ++ [] = wantJ keep f f
        unfold wantJ
        rw [Nat.sub_self]
        rfl
      | some a =>
        obtain ⟨l1,l2,l3⟩:=lastJ_keep hl
        obtain ⟨q1,q2⟩:=goneJ_want hf hk (by omega) hl
        rw [q2]
        show wantJ keep f a ++ gap a n = _
        rw [gap_plain l1 (by omega),show n - a - 1 = n - (a + 1) by omega,← wantJ_all (keep:=keep) (f:=a + 1) (m:=n) (fun i i1 i2 => l3 i (by omega) i2)]
        have e1:=wantJ_app (keep:=keep) (a:=f) (b:=a) (c:=a + 1) q1 (by omega)
        rw [wantJ_one l2,List.append_nil] at e1
        rw [e1,wantJ_app (by omega) (by omega)]
    · rw [if_neg g] at h
      obtain ⟨q1,q2⟩:=goneJ_want hf hk (by omega) h
      refine ⟨q1,?_⟩
      show (if keep n then goneJ keep n ++ more (lastJ keep n) n else goneJ keep n) = _
      rw [if_neg g]
      exact q2
end
end Go.Tidy
namespace Go.Tidy
open Go Go.Proofs Tab
section
variable {n m:Nat} {ok:Nat → Bool}
theorem plc_full (hn:n = 20 * m) (h:∀ j,j < m → ok (20 * j) = true):∀ j,j ≤ m → plc n ok (20 * j) = (List.range j).map (20 * ·) ∧ spn0 (plc n ok (20 * j)) = ([],20 * j) ∧ nxt n ok (20 * j) ≤ 20 * j
  | 0,_ => ⟨rfl,rfl,Nat.le_refl _⟩
  | j + 1,hj => by
    obtain ⟨i1,i2,i3⟩:=plc_full hn h j (by omega)
    have g:isF n ok (20 * j) = true:=by
      unfold isF
      rw [h j (by omega),Nat.ble_eq_true_of_le (show 20 * j + 20 ≤ n by omega)]
      rfl
    have e20:20 * (j + 1) = 20 * j + 20:=by omega
    rw [e20]
    refine ⟨?_,?_,?_⟩
    · rw [plc_frame n ok i3 g,i1,List.range_succ,List.map_append]
      rfl
    · rw [plc_frame n ok i3 g,spn0_app,i2,← e20]
      show (wsp [] (20 * j) (20 * j),_) = _
      rw [wsp_same]
    · rw [nxt_frame n ok i3 g]
      exact Nat.le_refl _
theorem skp_full (hn:n = 20 * m) (h:∀ j,j < m → ok (20 * j) = true):plc n ok n = (List.range m).map (20 * ·) ∧ skp n ok n = []:=by
 obtain ⟨i1,i2,i3⟩:=plc_full hn h m (Nat.le_refl _)
 rw [← hn] at i1 i2
 refine ⟨i1,?_⟩
 rw [skp_end,i2]
 exact wsp_same
end
abbrev Snt:=Nat × Nat × Nat × Nat × Nat
structure SntOk (p:Snt):Prop where
 s:p.1 < 256
 c:p.2.1 < 65536
 x:p.2.2.1 < 4294967296
 y:p.2.2.2.1 < 4294967296
 z:p.2.2.2.2 < 4294967296
 ex:SampleE p.2.2.1 0
 ey:SampleE p.2.2.2.1 0
 ez:SampleE p.2.2.2.2 0
def frS (p:Snt):List Nat:=frameB p.1 p.2.1 p.2.2.1 p.2.2.2.1 p.2.2.2.2
def gotS (p:Snt):Pkt:=((p.1:Int),(p.2.1:Int),wordF p.2.2.1,wordF p.2.2.2.1,wordF p.2.2.2.2)
def strS (Q:List Snt):List Nat:=(Q.map frS).flatten
theorem frS_len {p:Snt}:(frS p).length = 20:=frameB_len
theorem strS_cons {p:Snt} {Q:List Snt}:strS (p :: Q) = frS p ++ strS Q:=rfl
theorem strS_app {Q R:List Snt}:strS (Q ++ R) = strS Q ++ strS R:=by
 unfold strS
 rw [List.map_append,List.flatten_append]
theorem strS_len:∀ Q:List Snt,(strS Q).length = 20 * Q.length
 | [] => rfl
 | p :: Q => by
  rw [strS_cons,List.length_append,strS_len Q,frS_len,List.length_cons]
  omega
theorem frS_byt {p:Snt} (h:SntOk p):Byt (frS p):=fun b hb => by
 rcases List.mem_append.1 (show b ∈ bodyB p.1 p.2.1 p.2.2.1 p.2.2.2.1 p.2.2.2.2 ++ bytesN (tot (bodyB p.1 p.2.1 p.2.2.1 p.2.2.2.1 p.2.2.2.2)).toNat 4 from hb) with hb | hb
 ·exact bodyK_byt h.s 3 b hb
 ·exact bytesN_byt b hb
theorem strS_byt:∀ Q:List Snt,(∀ p,p ∈ Q → SntOk p) → Byt (strS Q)
 | [],_ => fun _ h => by cases h
 | p :: Q,hQ => fun b hb => by
  rcases List.mem_append.1 (show b ∈ frS p ++ strS Q from hb) with hb | hb
  ·exact frS_byt (hQ p (by simp)) b hb
  ·exact strS_byt Q (fun q hq => hQ q (by simp [hq])) b hb
theorem frm_strS:∀ (Q:List Snt) (i:Nat) (p:Snt),Q[i]? = some p → frm (strS Q) (20 * i) = frS p
 | [],_,_,h => by simp at h
 | q :: Q,0,p,h => by
  cases h
  unfold frm
  rw [strS_cons,Nat.mul_zero,List.drop_zero,List.take_left' frS_len]
 | q :: Q,i + 1,p,h => by
  have ih:=frm_strS Q i p h
  rw [← ih]
  unfold frm
  rw [strS_cons,show 20 * (i + 1) = (frS q).length + 20 * i by rw [frS_len];omega,List.drop_append]
  rw [List.drop_eq_nil_of_le (by omega),List.nil_append,Nat.add_sub_cancel_left]
theorem found_str {Q:List Snt} (hQ:∀ p,p ∈ Q → SntOk p):∃ E,FmE (strS Q) E ∧ pkL (strS Q) (plcF (strS Q) E (strS Q).length) = Q.map gotS ∧ skp (strS Q).length (okF (strS Q) E) (strS Q).length = []:=by
 obtain ⟨E0,hE0⟩:=fmE_ex (strS Q)
 have hE:FmE (strS Q) (fun i => if i % 20 = 0 ∧ i / 20 < Q.length then [0,0,0] else E0 i):=by
  intro i
  by_cases c:i % 20 = 0 ∧ i / 20 < Q.length
  ·show SErr _ (if i % 20 = 0 ∧ i / 20 < Q.length then [0,0,0] else E0 i)
   rw [if_pos c]
   have hp:Q[i / 20]? = some Q[i / 20]:=List.getElem?_eq_getElem c.2
   have o:=hQ _ (List.mem_of_getElem? hp)
   rw [show i = 20 * (i / 20) by omega,frm_strS Q _ _ hp]
   unfold frS
   rw [frame_wrd o.x o.y o.z (by decide),frame_wrd o.x o.y o.z (by decide),frame_wrd o.x o.y o.z (by decide)]
   exact serr_000 (sampE_word o.ex) (sampE_word o.ey) (sampE_word o.ez)
  ·show SErr _ (if i % 20 = 0 ∧ i / 20 < Q.length then [0,0,0] else E0 i)
   rw [if_neg c]
   exact hE0 i
 generalize hEE:(fun i => if i % 20 = 0 ∧ i / 20 < Q.length then [0,0,0] else E0 i) = E at hE
 have hz:∀ j,j < Q.length → E (20 * j) = [0,0,0]:=by
  intro j h1
  rw [← hEE]
  show (if 20 * j % 20 = 0 ∧ 20 * j / 20 < Q.length then [0,0,0] else E0 (20 * j)) = _
  rw [if_pos ⟨by omega,by omega⟩]
 have h2:∀ j,j < Q.length → okF (strS Q) E (20 * j) = true:=by
  intro j hj
  have hp:Q[j]? = some Q[j]:=List.getElem?_eq_getElem hj
  have o:=hQ _ (List.mem_of_getElem? hp)
  unfold okF
  rw [frm_strS Q _ _ hp,hz j hj]
  unfold frS
  rw [(frame_dec o.c o.x o.y o.z rfl).1]
  rfl
 obtain ⟨q1,q2⟩:=skp_full (strS_len Q) h2
 refine ⟨E,hE,?_,q2⟩
 unfold plcF pkL
 rw [q1,List.map_map]
 refine List.ext_getElem? fun j => ?_
 rw [List.getElem?_map,List.getElem?_map]
 by_cases hj:j < Q.length
 ·have hp:Q[j]? = some Q[j]:=List.getElem?_eq_getElem hj
  have o:=hQ _ (List.mem_of_getElem? hp)
  rw [List.getElem?_range hj,hp]
  show some (pkF (strS Q) (20 * j)) = some (gotS Q[j])
  congr 1
  have:=(frame_dec (s:=Q[j].1) (c:=Q[j].2.1) (x:=Q[j].2.2.1) (y:=Q[j].2.2.2.1) (z:=Q[j].2.2.2.2) (es:=[0,0,0]) o.c o.x o.y o.z rfl).2
  unfold pkF
  rw [frm_strS Q _ _ hp]
  exact this
 ·rw [List.getElem?_eq_none (by rw [List.length_range];omega),List.getElem?_eq_none (by omega)]
  rfl
end Go.Tidy
namespace Go.Tidy
open Go Go.Proofs Tab
def smpAll:Bool:=(List.range 257).all fun i => Nat.beq (wordF (smp ((i:Int) - 128))) (smp ((i:Int) - 128)) && Nat.blt (smp ((i:Int) - 128)) 4294967296
theorem smpAll_ok:smpAll = true:=by kernel_rfl
theorem smp_word {n:Int} (h1:-128 ≤ n) (h2:n ≤ 128):wordF (smp n) = smp n ∧ smp n < 4294967296:=by
 have h:=List.all_eq_true.1 smpAll_ok (n + 128).toNat (List.mem_range.2 (by omega))
 rw [show (((n + 128).toNat:Nat):Int) - 128 = n by omega,Bool.and_eq_true] at h
 exact ⟨Nat.eq_of_beq_eq_true h.1,Nat.le_of_ble_eq_true h.2⟩
theorem dark3 {a b c:Int}:DarkC [(a,true),(b,true),(c,true)]:=by
 intro x hx h
 simp at hx
 rcases hx with rfl | rfl | rfl <;> cases h
theorem three_run {n:Int} {g:TH} {v1:Value} {a b c:Int} (h0:0 ≤ n) (hn:n ≤ 1000) (ha:-128 ≤ a ∧ a ≤ 127) (hb:-128 ≤ b ∧ b ≤ 127) (hc:-128 ≤ c ∧ c ≤ 127) (S:SlL encF 1 g v1 [smp a,smp b,smp c]) (F:Fits g v1 32):RunC ⟨#[114]⟩ n g v1 (.slice none 0 0) [(a,true),(b,true),(c,true)]:=by
 have hh:holesOf [true,true,true] = []:=by rfl
 obtain ⟨es,q⟩:=Cel.made (s:=⟨#[114]⟩) (n:=n) (C:=[(a,true),(b,true),(c,true)]) (headE_of (by kernel_rfl) h0 (by omega) (show 3 ≤ 4096 by omega)) (by simp;omega) (fun x hx => by simp at hx;rcases hx with rfl | rfl | rfl <;> (simp;omega)) dark3
 exact ⟨_,es,⟨S,by
  show SlL encS 2 g (.slice none 0 0) (holesOf [true,true,true])
  rw [hh]
  exact SlL.nil,F⟩,q⟩
end Go.Tidy
namespace Go.Tidy
open Go Go.Proofs Tab
variable {tp:TProg}
def three {α:Type} (a b c:α) (k:Nat):α:=match k with | 0 => a | 1 => b | _ => c
section
variable {s:Nat → ByteArray} {n:Nat → Int} {v1 v2:Nat → Value} {F:Nat → List Nat} {S:Nat → List (Int × Int)} {es L:Nat → List Int} {h:TH} {lb:Nat} {el:Int}
end
attribute [local irreducible] Ty valOf
end Go.Tidy
namespace Go.Tidy
open Go Go.Proofs Tab
variable {tp:TProg}
structure Sx (b:Nat) (n:Int):Prop where
 ok:∃ neg q,V32 b neg q ∧ (∀ D,2 ^ 149 = D → q * 16 = n.natAbs * D) ∧ sg neg n.natAbs = n
theorem Samp.x {b:Nat} {n:Int} (s:Samp b n):Sx b n:=⟨s.ok⟩
theorem Sx.nan {b:Nat} {n:Int} (s:Sx b n):nanB .f32 b = false:=by
 obtain ⟨neg,q,h,_⟩:=s.ok
 exact h.nan
theorem Sx.order {b c:Nat} {n m:Int} (s:Sx b n) (t:Sx c m):Ieee.single.order b c = some (compare n m):=by
 obtain ⟨neg,q,h1,h2,h3⟩:=s.ok
 obtain ⟨neg',q',g1,g2,g3⟩:=t.ok
 obtain ⟨D,hD⟩:∃ D:Nat,2 ^ 149 = D:=⟨_,rfl⟩
 have hDp:0 < D:=by rw [← hD];exact two_pow_pos 149
 have e1:=h2 D hD
 have e2:=g2 D hD
 have a1:sg neg q * (16:Nat) = n * (D:Nat):=by rw [← sg_mul,e1,sg_mul,h3]
 have a2:sg neg' q' * (16:Nat) = m * (D:Nat):=by rw [← sg_mul,e2,sg_mul,g3]
 rw [h1.order g1]
 generalize sg neg q = x at *
 generalize sg neg' q' = y at *
 have hDi:(0:Int) < (D:Int):=by omega
 have hlt:x < y ↔ n < m:=by
  constructor
  ·intro hq
   have:n * (D:Int) < m * (D:Int):=by rw [← a1,← a2];omega
   exact Int.lt_of_mul_lt_mul_right this (by omega)
  ·intro hq
   have:n * (D:Int) < m * (D:Int):=Int.mul_lt_mul_of_pos_right hq hDi
   rw [← a1,← a2] at this
   omega
 have heq:x = y ↔ n = m:=by
  constructor
  ·intro hq
   rw [hq,a2] at a1
   exact (Int.eq_of_mul_eq_mul_right (by omega) a1).symm
  ·intro hq
   rw [hq,← a2] at a1
   omega
 congr 1
 show compareOfLessAndEq _ _ = compareOfLessAndEq _ _
 unfold compareOfLessAndEq
 simp only [hlt,heq]
theorem sg_not (s:Bool) (q:Nat):sg (!s) q = -sg s q:=by
 unfold sg
 cases s <;> simp
theorem sg_sign {z:Int} {P:Nat} {w:Int} {s t:Bool} (hP:0 < P) (h:w = z * (P:Int) ∨ z = w * (P:Int)):sg (if z = 0 then s && t else decide (z < 0)) w.natAbs = w:=by
  by_cases hz:z = 0
  · have hw:w = 0:=by
      rcases h with h | h
      · rw [h,hz,Int.zero_mul]
      · rw [hz] at h
        rcases Int.mul_eq_zero.1 h.symm with h | h
        · exact h
        · omega
    rw [if_pos hz,hw]
    cases s && t <;> rfl
  · rw [if_neg hz]
    have hPi:(0:Int) < (P:Int):=by omega
    have key:z < 0 ↔ w < 0:=by
      rcases h with h | h
      · rw [h]
        constructor
        · intro hl
          have:=Int.mul_lt_mul_of_pos_right hl hPi
          omega
        · intro hl
          have:z * (P:Int) < 0 * (P:Int):=by omega
          exact Int.lt_of_mul_lt_mul_right this (by omega)
      · rw [h]
        constructor
        · intro hl
          have:w * (P:Int) < 0 * (P:Int):=by omega
          exact Int.lt_of_mul_lt_mul_right this (by omega)
        · intro hl
          have:=Int.mul_lt_mul_of_pos_right hl hPi
          omega
    unfold sg
    by_cases hl:w < 0
    · rw [decide_eq_true (key.2 hl),if_pos rfl];omega
    · rw [decide_eq_false (fun q => hl (key.1 q)),if_neg (by decide)];omega
theorem arr1 {z w:Int} {P Q D:Nat} (hP:0 < P) (h:z * (P:Int) * 16 = w * (D:Int)) (hq:Q * P * 16 = D):z = w * (Q:Int):=by
 subst hq
 refine Int.eq_of_mul_eq_mul_right (a:=(P:Int) * 16) (by omega) ?_
 rw [← Int.mul_assoc,h,Int.natCast_mul,Int.natCast_mul,Int.mul_assoc,Int.mul_assoc]
 rfl
theorem arr2 {z w:Int} {P Q D:Nat} (hD:0 < D) (h:z * (P:Int) * 16 = w * (D:Int)) (hq:D * Q = P * 16):w = z * (Q:Int):=by
 refine Int.eq_of_mul_eq_mul_right (a:=(D:Int)) (by omega) ?_
 rw [← h,Int.mul_assoc,Int.mul_assoc]
 have e:(P:Int) * 16 = ((P * 16:Nat):Int):=by rw [Int.natCast_mul];rfl
 rw [e,← hq,Int.natCast_mul,Int.mul_comm (D:Int)]
theorem arr3 {Z P Q D:Nat} (hq:D * Q = P * 16):Z * P * 16 = Z * Q * D:=by
 rw [Nat.mul_assoc,← hq,Nat.mul_assoc,Nat.mul_comm D]
theorem Sx.sub {b c:Nat} {n m:Int} (s:Sx b n) (t:Sx c m) (hn:n.natAbs ≤ 100000) (hm:m.natAbs ≤ 100000):∃ r,Ieee.single.sub b c = some r ∧ Sx r (n - m):=by
 obtain ⟨s1,q1,⟨m1,k1,r1,p1,l1⟩,h2,h3⟩:=s.ok
 obtain ⟨s2,q2,⟨m2,k2,r2,p2,l2⟩,g2,g3⟩:=t.ok
 obtain ⟨D,hD⟩:∃ D:Nat,2 ^ 149 = D:=⟨_,rfl⟩
 have hDp:0 < D:=by rw [← hD];exact two_pow_pos 149
 have e1:=h2 D hD
 have e2:=g2 D hD
 have a1:sg s1 q1 * (16:Nat) = n * (D:Nat):=by rw [← sg_mul,e1,sg_mul,h3]
 have a2:sg s2 q2 * (16:Nat) = m * (D:Nat):=by rw [← sg_mul,e2,sg_mul,g3]
 obtain ⟨K,hK⟩:∃ K,min k1 k2 = K:=⟨_,rfl⟩
 have hmin:min ((-149:Int) + (k1:Int)) (-149 + (k2:Int)) = -149 + (K:Int):=by omega
 obtain ⟨z,hz⟩:∃ z:Int,sg s1 (m1 * 2 ^ (k1 - K)) + sg (!s2) (m2 * 2 ^ (k2 - K)) = z:=⟨_,rfl⟩
 have hsub:Ieee.single.sub b c = some (Ieee.single.nearest (if z = 0 then s1 && !s2 else decide (z < 0)) z.natAbs (-149 + (K:Int))):=by
  unfold Ieee.Format.sub
  rw [r1,r2]
  show (Ieee.Datum.sum (.number s1 m1 (-149 + (k1:Int))) (.number (!s2) m2 (-149 + (k2:Int)))).map _ = _
  unfold Ieee.Datum.sum
  simp only [hmin,signed_sg]
  rw [show ((-149:Int) + (k1:Int) - (-149 + (K:Int))).toNat = k1 - K by omega,show ((-149:Int) + (k2:Int) - (-149 + (K:Int))).toNat = k2 - K by omega,hz]
  rfl
 have pk1:m1 * 2 ^ (k1 - K) * 2 ^ K = q1:=by rw [Nat.mul_assoc,← Nat.pow_add,show k1 - K + K = k1 by omega,p1]
 have pk2:m2 * 2 ^ (k2 - K) * 2 ^ K = q2:=by rw [Nat.mul_assoc,← Nat.pow_add,show k2 - K + K = k2 by omega,p2]
 have hzP:z * ((2 ^ K:Nat):Int) * 16 = (n - m) * (D:Int):=by
  rw [← hz,Int.add_mul,← sg_mul,← sg_mul,pk1,pk2,sg_not,Int.sub_mul,← a1,← a2]
  omega
 by_cases hK2:K ≤ 145
 ·have hpw:2 ^ (145 - K) * 2 ^ K * 16 = D:=by
   rw [← Nat.pow_add,show 145 - K + K = 145 by omega,← hD]
  have hzz:z = (n - m) * ((2 ^ (145 - K):Nat):Int):=arr1 (two_pow_pos K) hzP hpw
  have hab:z.natAbs = (n - m).natAbs * 2 ^ (145 - K):=by rw [hzz,Int.natAbs_mul,Int.natAbs_natCast]
  refine ⟨_,hsub,⟨⟨(if z = 0 then s1 && !s2 else decide (z < 0)),(n - m).natAbs * 2 ^ 145,?_,?_,sg_sign (s:=s1) (t:=!s2) (P:=2 ^ (145 - K)) (two_pow_pos _) (.inr hzz)⟩⟩⟩
  ·rw [hab,nearest_shift Ieee.single _ (n - m).natAbs (145 - K) _ (by show _ < 2 ^ 24;omega) (by rw [lp32];omega)]
   exact near32 (by omega) _ (by omega) (by decide)
  ·intro D' hD'
   rw [Nat.mul_assoc,← hD']
 ·have hpw:D * 2 ^ (K - 145) = 2 ^ K * 16:=by
   rw [← hD]
   exact (Nat.pow_add 2 149 (K - 145)).symm.trans ((congrArg (fun x => 2 ^ x) (show 149 + (K - 145) = K + 4 by omega)).trans (Nat.pow_add 2 K 4))
  have hzz:n - m = z * ((2 ^ (K - 145):Nat):Int):=arr2 hDp hzP hpw
  have hab:(n - m).natAbs = z.natAbs * 2 ^ (K - 145):=by rw [hzz,Int.natAbs_mul,Int.natAbs_natCast]
  have hle:z.natAbs ≤ (n - m).natAbs:=by rw [hab];exact Nat.le_mul_of_pos_right _ (two_pow_pos _)
  refine ⟨_,hsub,⟨⟨(if z = 0 then s1 && !s2 else decide (z < 0)),_,near32 (m:=z.natAbs) (k:=K) (by omega) _ rfl (by omega),?_,sg_sign (s:=s1) (t:=!s2) (P:=2 ^ (K - 145)) (two_pow_pos _) (.inl hzz)⟩⟩⟩
  intro D' hD'
  rw [hab,← hD',hD]
  exact arr3 hpw
end Go.Tidy
namespace Go.Tidy
open Go Go.Proofs Tab
variable {tp:TProg}
def lane (s:Nat → ByteArray) (n:Int) (h:TH) (v1 v2:Nat → Value) (C:Nat → List (Int × Bool)) (N:Nat):Prop:=∀ k,RunC (s k) n h (v1 k) (v2 k) (C k) ∧ (C k).length = N
theorem lane.hx {s:Nat → ByteArray} {n:Int} {h h':TH} {v1 v2:Nat → Value} {C:Nat → List (Int × Bool)} {N:Nat} (l:lane s n h v1 v2 C N) (x:HX h h'):lane s n h' v1 v2 C N:=fun k => ⟨(l k).1.hx x,(l k).2⟩
section
variable {s:Nat → ByteArray} {n:Int} {v1 v2:Nat → Value} {C:Nat → List (Int × Bool)} {N lb c2 c7:Nat} {m:Int} {hb g:TH} {Q:Exit → Regs → TH → Prop} {gx:Nat} {p126 p127 p128:Value}
end
end Go.Tidy
namespace Go.Tidy
open Go Go.Proofs Tab
variable {tp:TProg}
theorem elemF {h:TH} {w:Value} {l:List Nat} (s:SlL encF 1 h w l) {j:Nat} {b:Nat} (hj:l[j]? = some b):∃ p,indexAddrT Try.prog 25 w (zi (j:Nat)) = some p ∧ loadT Try.prog 32 p h = some (.float .f32 b):=by
 obtain ⟨b',o',cc,fix,wr,el,g1,g2,g3,g4,g5⟩:=s.at eF u43 tp25 hj .i64
 exact ⟨_,g1,load_one tp25 g2 (g5 0 (by decide))⟩
section
variable {P:Program} {h:TH} {K:Regs → TH → Prop} {rest:List TOper} {d:Option Tmp} {ty:TypeId} {i:Nat} {x y:Operand} {t u:TypeId} {L:Rg}
end
section
variable {s:Nat → ByteArray} {n:Int} {v1 v2:Nat → Value} {C:Nat → List (Int × Bool)} {N lb c2 c7:Nat} {m:Int} {hb g:TH} {Q:Exit → Regs → TH → Prop} {gx:Nat} {p126 p127 p128:Value}
end
end Go.Tidy
namespace Go.Tidy
open Go Go.Proofs Tab
variable {tp:TProg}
section
variable {m:Int} {C D:Nat → List (Int × Bool)} {N:Nat}
end
section
variable {s:ByteArray} {n:Int} {h:TH} {v1 v2 w1 w2:Value} {C D:List (Int × Bool)}
theorem c87 (H:Has tp) (r:RunC s n h v1 v2 C) (f:Free0 h.next h):CallW Try.prog tp (.func (.func 10) #[] #[]) #[runV s n v1 v2] h fun v h' => ∃ w1 w2,v = runV s n w1 w2 ∧ HX h h' ∧ RunC s n h' w1 w2 C ∧ Above h.next w1 ∧ Above h.next w2:=by
 obtain ⟨F,es,r,c⟩:=r
 have m:=c.m
 have l:=c.len
 have q:=c.holes
 refine (k87 H r (by omega) (by omega) f).mono ?_
 rintro v h' ⟨w1,w2,rfl,x,o⟩
 exact ⟨w1,w2,rfl,x,⟨F,es,o.r,c⟩,o.o1,o.o2⟩
end
end Go.Tidy
namespace Go.Tidy
open Go Go.Proofs Tab
variable {tp:TProg}
theorem new_relock (h:TH) (M:List Nat) (X:TB):((h.withLock M).new X).withLock h.lock = h.new X:=rfl
theorem WOL.apE {P:Program} {tp:TProg} {h:TH} {K:Regs → TH → Prop} {rest:List TOper} {d:Option Tmp} {ty sT e e':TypeId} {i b n k:Nat} {x y:Operand} {L:Rg} {l0:Operand} {ls:List Operand} {v:Value} {new:List Value} {z:List Value} {row wr:Bool} (bs:List Nat) (hb:(l0 :: ls).map (fun x => (getL L x).bind blockOf) = bs.map some)
  (hx:getL L x = some (.slice (some ⟨b,0,none⟩) 0 0)) (hy:getL L y = some v) (hu:P.underlying sT = some (.slice e)) (he:Tp P e n z row) (hg:At h b (.cells [] true wr e')) (s:SlC h v n k new) (hk:0 < k) (hk2:k ≤ 1000000000) (h1:new.all oneCell = true)
  (w:∀ h',New h h' (.cells new false true e) → ∀ a,Kn (putL L d (.slice (some ⟨h.next,0,none⟩) k k)) a → WO P tp rest a h' K):∀ a,Kn L a → WO P tp (⟨d,.call ⟨.builtin .append,#[x,y],#[sT,sT]⟩,ty,none,l0 :: ls,i⟩ :: rest) a h K:=by
 refine WOL.apQ bs hb hx hy fun M _ => ?_
 have e1:=append_fix (h:=h.withLock M) (j:=0) hu he (hg.relock M) (by rw [Nat.zero_mul];rfl) (s.relock M) hk (by omega) h1
 rw [List.nil_append,Nat.zero_add] at e1
 refine ⟨_,_,e1,?_⟩
 rw [new_relock]
 exact w _ (New.mk' h _)
def pJ (src:Nat) (x:Nat → Int) (c:Nat):Pkt:=((src:Int),(c:Int),smp (x (3 * c)),smp (x (3 * c + 1)),smp (x (3 * c + 2)))
def qJ (src:Nat) (kp:Nat → Bool) (x:Nat → Int) (n:Nat):List Snt:=(keptJ kp n).map fun c => (src,c,smp (x (3 * c)),smp (x (3 * c + 1)),smp (x (3 * c + 2)))
section
variable {src n:Nat} {kp:Nat → Bool} {x:Nat → Int}
theorem smp_e0 {m:Int} (h1:-128 ≤ m) (h2:m ≤ 127):SampleE (smp m) 0:=(smp_ok (n:=m) (by omega)).2.2.e0
theorem qJ_ok (hx:∀ p,-128 ≤ x p ∧ x p ≤ 127) (hs:src < 256) (hn:n ≤ 1000):∀ p,p ∈ qJ src kp x n → SntOk p:=by
 intro p hp
 obtain ⟨c,hc,rfl⟩:=List.mem_map.1 hp
 have hc:=(keptJ_mem.1 hc).1
 have w:∀ p,smp (x p) < 4294967296:=fun p => (smp_word (hx p).1 (by have:=(hx p).2;omega)).2
 have e:∀ p,SampleE (smp (x p)) 0:=fun p => smp_e0 (hx p).1 (hx p).2
 exact ⟨hs,by show c < 65536;omega,w _,w _,w _,e _,e _,e _⟩
theorem got_q (hx:∀ p,-128 ≤ x p ∧ x p ≤ 127):(qJ src kp x n).map gotS = (keptJ kp n).map (pJ src x):=by
 unfold qJ
 rw [List.map_map]
 refine List.map_congr_left fun c _ => ?_
 have w:∀ p,wordF (smp (x p)) = smp (x p):=fun p => (smp_word (hx p).1 (by have:=(hx p).2;omega)).1
 show ((src:Int),(c:Int),wordF _,wordF _,wordF _) = _
 rw [w,w,w]
 rfl
theorem keptJ_len:(keptJ kp n).length ≤ n:=by
 unfold keptJ
 have:=List.length_filter_le kp (List.range n)
 rw [List.length_range] at this
 exact this
end
abbrev rN:ByteArray:=⟨#[114]⟩
theorem bd52r:buildT Try.prog 28 [(0,.string rN)] = some (.agg #[.string rN,zi 0,.slice none 0 0,.slice none 0 0]):=by kernel_rfl
theorem bd52p {z:Int} {b:Option Addr} {m k:Nat}:buildT Try.prog 28 [(0,.string rN),(1,zi z),(2,.slice b m k)] = some (.agg #[.string rN,zi z,.slice b m k,.slice none 0 0]):=by kernel_rfl
theorem none_run {g:TH}:RunC rN 0 g (.slice none 0 0) (.slice none 0 0) []:=by
 obtain ⟨es,q⟩:=Cel.made (s:=rN) (n:=0) (C:=[]) (headE_of (by kernel_rfl) (by decide) (by decide) (by decide)) (by decide) (fun x hx => by cases hx) (fun x hx => by cases hx)
 refine ⟨_,es,⟨SlL.nil,SlL.nil,fun b off m cap hv => by cases hv⟩,q⟩
theorem Above.none {n0 m c:Nat}:Above n0 (.slice .none m c):=fun b off sp m c h => by cases h
theorem Above.of {n0 b m c:Nat} (h:n0 ≤ b):Above n0 (.slice (some ⟨b,0,.none⟩) m c):=fun b off sp m c e => by cases e;exact h
def JRun (kp:Nat → Bool) (x:Nat → Int) (n j:Nat) (s:Int × Value × Value) (g:TH):Prop :=
 (j = 0 ∧ s = (0,.slice none 0 0,.slice none 0 0)) ∨ ∃ k c0 cl,j = k + 1 ∧ (keptJ kp n)[0]? = some c0 ∧ (keptJ kp n)[k]? = some cl ∧ c0 ≤ cl ∧ s.1 = ((3 * c0:Nat):Int) ∧ RunC rN ((3 * c0:Nat):Int) g s.2.1 s.2.2 (rowJ kp x (3 * c0) (3 * (cl + 1)))
def JInv (kp:Nat → Bool) (x:Nat → Int) (n c7:Nat) (h:TH) (j:Nat) (s:Int × Value × Value) (g:TH):Prop :=
 HX h g ∧ At g c7 (.cells [.string rN,zi s.1,s.2.1,s.2.2] true true 28) ∧ Above (c7 + 1) s.2.1 ∧ Above (c7 + 1) s.2.2 ∧ JRun kp x n j s g
theorem JRun.hx {kp:Nat → Bool} {x:Nat → Int} {n j:Nat} {s:Int × Value × Value} {g g':TH} (q:JRun kp x n j s g) (X:HX g g'):JRun kp x n j s g':=by
 rcases q with q | ⟨k,c0,cl,q1,q2,q3,q4,q5,q6⟩
 ·exact .inl q
 ·exact .inr ⟨k,c0,cl,q1,q2,q3,q4,q5,q6.hx X⟩
def cd1099c:TCode:=.seq (.reg r1099_13) (.seq (.seq (.reg r1099_14) (.cond (.tmp 70) (.seq (.reg r1099_15) .ret) .skip)) (.reg r1099_16))
section
variable {hB i7:TH} {n:Nat} {kp:Nat → Bool} {x:Nat → Int} {c7 c10 c0 cl c N:Nat} {p2 v1 v2 u1 u2 w17:Value} {j:Int}
set_option maxHeartbeats 4000000 in
set_option maxRecDepth 10000 in
theorem k1099c (H:Has tp) (X:HasX tp) (hn:n ≤ 12) (nx1:cl < c) (nx2:∀ i,cl < i → i < c → kp i = false) (cn:c < n) (ck:kp c = true) (lc:c0 ≤ cl) (f:Free0 hB.next hB) (XB:HX hB i7) (hB':hB.next ≤ c7)
  (A7:At i7 c7 (.cells [.string rN,zi (3 * c0:Nat),v1,v2] true true 28)) (A10:At i7 c10 (.cells [.string rN,zi (3 * c:Nat),u1,u2] true true 28)) (RC:RunC rN ((3 * c0:Nat):Int) i7 v1 v2 (rowJ kp x (3 * c0) (3 * (cl + 1)))) (three:RunC rN ((3 * c:Nat):Int) i7 u1 u2 [(x (3 * c),true),(x (3 * c + 1),true),(x (3 * c + 2),true)])
  {Q:Exit → Regs → TH → Prop}
  (e:∀ g' w1 w2,HX hB g' → At g' c7 (.cells [.string rN,zi (3 * c0:Nat),w1,w2] true true 28) → Above (c7 + 1) w1 → Above (c7 + 1) w2 → RunC rN ((3 * c0:Nat):Int) g' w1 w2 (rowJ kp x (3 * c0) (3 * (c + 1))) → ∀ a,Kn [(32,zi j),(2,p2),(7,ptr c7),(30,w17),(31,zi (N:Nat))] a → Q .normal a g') :
  ∀ a,Kn [(2,p2),(7,ptr c7),(8,zi j),(10,ptr c10),(30,w17),(31,zi (N:Nat)),(32,zi j)] a → W Try.prog tp false cd1099c a i7 Q:=by
 unfold cd1099c
 have hB:=hB'
 have l7:=A7.lt
 have l10:=A10.lt
 have xb:=XB.next
 refine WL.sr <| WOL.ld rfl (load_row tp52 A7 rfl (Nat.le_of_ble_eq_true rfl)) <| WOL.ld rfl (load_row tp52 A10 rfl (Nat.le_of_ble_eq_true rfl)) <| WOL.al tp52 fun i8 M8 => ?_
 have m8:=M8.next
 have XI:=M8.hx
 refine WOL.lq1 [i7.next,c10] rfl rfl rfl fun M hM => ((c87 H ((RC.hx M8.hx).relock M) ((f.on (XB.trans XI)).held hM (fun b hb => by simp at hb;omega))).mono ?_)
 rintro v i9 ⟨w1,w2,rfl,X9,R9,_,_⟩
 replace R9:=R9.relock i8.lock
 replace X9:=X9.relock
 generalize i9.withLock i8.lock = i9 at *
 have x9:=X9.next
 replace XI:=XI.trans X9
 replace A7:=(A7.hx M8.hx).hx X9
 replace three:=(three.hx M8.hx).hx X9
 have A11:=M8.at_.hx X9
 have lr:(rowJ kp x (3 * c0) (3 * (cl + 1))).length = 3 * (cl + 1) - 3 * c0:=rowJ_len
 refine WOL.lq2 [i7.next] rfl rfl rfl rfl fun M hM => ((c49 H X (by omega) (by simp;omega) (R9.relock M) (three.relock M) ((f.on (XB.trans XI)).held hM (fun b hb => by simp at hb;omega))).mono ?_)
 rintro v i10 ⟨bo1,l1,k1,bo2,l2,k2,rfl,X10,R10,V1,V2⟩
 have ej:joinC ((3 * c0:Nat):Int) ((3 * c:Nat):Int) (rowJ kp x (3 * c0) (3 * (cl + 1))) [(x (3 * c),true),(x (3 * c + 1),true),(x (3 * c + 2),true)] = rowJ kp x (3 * c0) (3 * (c + 1)):=by
  unfold joinC
  rw [lr,show (((3 * c:Nat):Int) - (((3 * c0:Nat):Int) + ((3 * (cl + 1) - 3 * c0:Nat):Int))).toNat = 3 * c - 3 * (cl + 1) by omega]
  exact rowJ_join (by omega) (by omega) (fun i i1 i2 => nx2 i (by omega) i2) ck
 rw [ej] at R10
 replace R10:=R10.relock i9.lock
 replace X10:=X10.relock
 have V1':Above i9.next (.slice bo1 l1 k1):=V1
 have V2':Above i9.next (.slice bo2 l2 k2):=V2
 generalize i10.withLock i9.lock = i10 at *
 have x10:=X10.next
 replace XI:=XI.trans X10
 replace A7:=A7.hx X10
 replace A11:=A11.hx X10
 refine WOL.mv rfl <| WOL.ex rfl rfl <| WOL.ex rfl rfl ?_
 refine WOL.sto (vs:=[.string rN,zi (3 * c0:Nat),.slice bo1 l1 k1,.slice bo2 l2 k2]) rfl rfl tp52 A11 rfl rfl (Nat.le_of_ble_eq_true rfl) rfl (f.hx (XB.trans XI)) (by omega) fun i11 M11 => ?_
 replace R10:=R10.away (n0:=i9.next) V1' V2' M11 (by omega)
 replace A7:=M11.oth _ _ (by omega) A7
 replace A11:=M11.at_
 replace XI:=M11.hx _ XI (by omega)
 have m11:=M11.next
 refine WOL.as rfl <| WOL.nil <| keep [(2,_),(7,_),(8,_),(11,_),(12,_),(30,_),(31,_),(32,_)] ⟨rfl,rfl,rfl,rfl,rfl,rfl,rfl,rfl,trivial⟩ ?_
 refine WL.seq <| WL.sr <| WOL.mv rfl <| WOL.bf rfl rfl rfl rfl <| WOL.mv rfl <| WOL.now (b:=false) rfl rfl <| WOL.ld rfl (load_row tp52 A11 rfl (Nat.le_of_ble_eq_true rfl)) <| WOL.now (b:=false) rfl rfl ?_
 refine WOL.cl1 rfl rfl ((c31 H R10).mono ?_)
 rintro v i12 ⟨rfl,X12⟩
 replace XI:=XI.trans X12
 replace A7:=A7.hx X12;replace A11:=A11.hx X12;replace R10:=R10.hx X12
 refine WOL.now (b:=false) rfl rfl <| WOL.bf rfl rfl rfl rfl <| WOL.pkf rfl rfl <| WOL.nil <| keep [(2,_),(7,_),(8,_),(11,_),(30,_),(31,_),(32,_),(70,_)] ⟨rfl,rfl,rfl,rfl,rfl,rfl,rfl,rfl,trivial⟩ ?_
 refine WL.no rfl <| WL.skip ?_
 refine WL.reg <| WOL.ld rfl (load_row tp52 A11 rfl (Nat.le_of_ble_eq_true rfl)) ?_
 refine WOL.sto (vs:=[.string rN,zi (3 * c0:Nat),.slice bo1 l1 k1,.slice bo2 l2 k2]) rfl rfl tp52 A7 rfl rfl (Nat.le_of_ble_eq_true rfl) rfl (f.hx (XB.trans XI)) hB fun i13 M13 => ?_
 replace R10:=R10.away (n0:=i9.next) V1' V2' M13 (by omega)
 exact WOL.nil <| kto (e _ _ _ (M13.hx _ (XB.trans XI) hB) M13.at_ (V1'.le (by omega)) (V2'.le (by omega)) R10) ⟨rfl,rfl,rfl,rfl,rfl,trivial⟩
end
end Go.Tidy
namespace Go.Tidy
open Go Go.Proofs Tab
variable {tp:TProg}
def cd1099b:TCode:=.seq (.reg r1099_7) (.seq (.seq (.reg r1099_8) (.cond (.tmp 44) (.seq (.reg r1099_9) .ret) .skip)) (.seq (.reg r1099_10) (.seq (.seq (.reg r1099_11) (.cond (.tmp 55) (.seq (.reg r1099_12) (.exit 1)) .skip)) cd1099c)))
section
variable {hP:TH} {src n:Nat} {kp:Nat → Bool} {x:Nat → Int} {j:Nat} {z:Int} {v1 v2 w17 p2:Value} {g:TH}
set_option maxHeartbeats 4000000 in
set_option maxRecDepth 10000 in
theorem k1099b (H:Has tp) (X:HasX tp) (hx:∀ p,-128 ≤ x p ∧ x p ≤ 127) (hn:n ≤ 12) (hj:j < (keptJ kp n).length) (p17:SlL encP 5 hP w17 ((keptJ kp n).map (pJ src x))) (f:Free0 hP.next hP) (XG:HX hP g) (A7:At g hP.next (.cells [.string rN,zi z,v1,v2] true true 28)) (U1:Above (hP.next + 1) v1) (U2:Above (hP.next + 1) v2) (JR:JRun kp x n j (z,v1,v2) g) {Q:Exit → Regs → TH → Prop} :
  ∀ a,Kn [(32,zi (j:Nat)),(2,p2),(7,ptr hP.next),(30,w17),(31,zi ((keptJ kp n).length:Nat))] a → W Try.prog tp false cd1099b a g (Next 1 0 32 (j:Nat) (JInv kp x n hP.next hP (j + 1)) (fun _ => [(2,p2),(7,ptr hP.next),(30,w17),(31,zi ((keptJ kp n).length:Nat))]) Q):=by
 unfold cd1099b
 have hc:(keptJ kp n)[j]? = some (keptJ kp n)[j]:=List.getElem?_eq_getElem hj
 generalize (keptJ kp n)[j] = c at hc
 have hp:((keptJ kp n).map (pJ src x))[j]? = some (pJ src x c):=by rw [List.getElem?_map,hc];rfl
 obtain ⟨cn,ck⟩:=keptJ_mem.1 (List.mem_of_getElem? hc)
 obtain ⟨b1,o1,c1,x1,y1,e1,q1,q2,q3,q4,_⟩:=(p17.hx XG).at eP u113 tp111 hp .i64
 have xg:=XG.next
 have l7:=A7.lt
 have fg:=f.on XG
 refine WL.sr <| WOL.mv rfl <| WOL.ix rfl rfl q1 <| WOL.ld rfl (load_row tp111 q2 q4 q3) <| WOL.al tp111 fun i1 M1 => WOL.as rfl ?_
 have m1:=M1.next
 refine WOL.sto (vs:=encP (pJ src x c)) rfl rfl tp111 M1.at_ rfl rfl (Nat.le_of_ble_eq_true rfl) rfl (fg.hx M1.hx) (Nat.le_refl _) fun i2 M2 => ?_
 have m2:=M2.next
 have XI:HX g i2:=M2.hx _ M1.hx (Nat.le_refl _)
 have B9:At i2 g.next (.cells [zi src,zi c,.float .f32 (smp (x (3 * c))),.float .f32 (smp (x (3 * c + 1))),.float .f32 (smp (x (3 * c + 2)))] true true 35):=M2.at_
 refine WOL.nil <| keep [(2,_),(7,_),(8,_),(9,_),(30,_),(31,_),(32,_)] ⟨rfl,rfl,rfl,rfl,rfl,rfl,rfl,trivial⟩ ?_
 refine WL.seq <| WL.sr <| WOL.fa rfl (fa_of fo111_1) <| WOL.ld rfl (load_one tp3 B9 rfl) <| WOL.bf rfl rfl rfl (by first | exact decide_eq_false (by omega) | exact beq_eq_false_iff_ne.2 (by omega) | exact bne_eq_false_iff_eq.2 (by omega)) <| WOL.mv rfl <| WOL.now (b:=false) rfl rfl <| WOL.fa rfl (fa_of fo111_1) <| WOL.now (b:=false) rfl rfl <| WOL.ld rfl (load_one tp3 B9 rfl) <| WOL.now (b:=false) rfl rfl <| WOL.bf rfl rfl rfl (by first | exact decide_eq_false (by omega) | exact beq_eq_false_iff_ne.2 (by omega) | exact bne_eq_false_iff_eq.2 (by omega)) <| WOL.pkf rfl rfl <| WOL.nil <| keep [(2,_),(7,_),(8,_),(9,_),(30,_),(31,_),(32,_),(44,_)] ⟨rfl,rfl,rfl,rfl,rfl,rfl,rfl,rfl,trivial⟩ ?_
 refine WL.no rfl <| WL.skip ?_
 refine WL.sr <| WOL.fa rfl (fa_of fo111_1) <| WOL.ld rfl (load_one tp3 B9 rfl) <| WOL.mul (m:=3) (n:=((c:Nat):Int)) rfl rfl (by omega) (by omega) <| WOL.bs0 u43 tp25 (by decide) (by decide) fun i3 M3 => WOL.fa rfl (fa_of fo111_2) ?_
 have m3:=M3.next
 replace XI:=XI.trans M3.hx
 replace B9:=B9.hx M3.hx
 refine WOL.slG rfl rfl rfl rfl (sliceA u109 tp25 B9 rfl) <| WOL.al tp52 fun i4 M4 => ?_
 have m4:=M4.next
 replace XI:=XI.trans M4.hx
 replace B9:=B9.hx M4.hx
 have S3:=M3.at_.hx M4.hx
 refine WOL.apE [i3.next,g.next] rfl rfl rfl u43 tp25 S3 (slR B9) (by show 0 < 3;decide) (by show 3 ≤ 1000000000;decide) (eF.all _) fun i6 N6 => ?_
 have n6:=N6.next
 replace XI:=XI.trans N6.hx
 have A10:=M4.at_.hx N6.hx
 have s6:SlL encF 1 i6 (.slice (some ⟨i4.next,0,none⟩) 3 3) [smp (x (3 * c)),smp (x (3 * c + 1)),smp (x (3 * c + 2))]:=SlC.own (sz:=1) (m:=3) rfl N6.at_
 have F6:Fits i6 (.slice (some ⟨i4.next,0,none⟩) 3 3) 32:=fun b off m cap e => by
  cases e
  exact ⟨_,_,_,_,N6.at_,.inr rfl⟩
 have three:RunC rN ((3 * c:Nat):Int) i6 _ _ _:=three_run (by omega) (by omega) (hx _) (hx _) (hx _) s6 F6
 rw [show ((3:Int) * (c:Int)) = ((3 * c:Nat):Int) by omega]
 refine WOL.bd rfl bd52p <| WOL.sto (vs:=[.string rN,zi (3 * c:Nat),.slice (some ⟨i4.next,0,none⟩) 3 3,.slice none 0 0]) rfl rfl tp52 A10 rfl rfl (Nat.le_of_ble_eq_true rfl) rfl (fg.hx XI) (by omega) fun i7 M7 => ?_
 have m7:=M7.next
 replace three:=three.away (n0:=i3.next + 1) (Above.of (by omega)) Above.none M7 (by omega)
 replace A7:=M7.oth _ _ (by omega) (A7.hx XI)
 replace A10:=M7.at_
 replace XI:=M7.hx _ XI (by omega)
 have xi:=XI.next
 refine WOL.nil <| keep [(2,_),(7,_),(8,_),(10,_),(30,_),(31,_),(32,_)] ⟨rfl,rfl,rfl,rfl,rfl,rfl,rfl,trivial⟩ ?_
 by_cases h0:j = 0
 ·refine WL.seq <| WL.sr <| WOL.mv rfl <| WOL.bt rfl rfl rfl (by first | exact decide_eq_true (by omega) | exact beq_iff_eq.2 (by omega) | exact bne_iff_ne.2 (by omega)) <| WOL.nil <| keep [(2,_),(7,_),(8,_),(10,_),(30,_),(31,_),(32,_),(55,_)] ⟨rfl,rfl,rfl,rfl,rfl,rfl,rfl,rfl,trivial⟩ ?_
  refine WL.yes rfl <| WL.sr <| WOL.ld rfl (load_row tp52 A10 rfl (Nat.le_of_ble_eq_true rfl)) ?_
  refine WOL.sto (vs:=[.string rN,zi (3 * c:Nat),.slice (some ⟨i4.next,0,none⟩) 3 3,.slice none 0 0]) rfl rfl tp52 A7 rfl rfl (Nat.le_of_ble_eq_true rfl) rfl (f.hx (XG.trans XI)) (Nat.le_refl _) fun i8 M8 => ?_
  replace three:=three.away (n0:=hP.next + 1) (Above.of (by omega)) Above.none M8 (by omega)
  rw [← rowJ_three ck] at three
  refine WOL.nil <| WL.exit fun a q => ⟨(((3 * c:Nat):Int),_,_),⟨M8.hx _ (XG.trans XI) (Nat.le_refl _),M8.at_,Above.of (by omega),Above.none,.inr ⟨0,c,c,by omega,?_,?_,Nat.le_refl _,rfl,three⟩⟩,q.sub ⟨rfl,rfl,rfl,rfl,rfl,trivial⟩⟩
  ·rw [← h0];exact hc
  ·rw [← h0];exact hc
 ·obtain ⟨k0,c0,cl,rfl,e0,el,lc,ez,RC⟩:∃ k c0 cl,j = k + 1 ∧ (keptJ kp n)[0]? = some c0 ∧ (keptJ kp n)[k]? = some cl ∧ c0 ≤ cl ∧ z = ((3 * c0:Nat):Int) ∧ RunC rN ((3 * c0:Nat):Int) g v1 v2 (rowJ kp x (3 * c0) (3 * (cl + 1))):=by
   rcases JR with ⟨e,_⟩ | q
   ·exact absurd e h0
   ·exact q
  subst ez
  obtain ⟨nx1,nx2⟩:=keptJ_next el hc
  replace RC:=RC.hx XI
  refine WL.seq <| WL.sr <| WOL.mv rfl <| WOL.bf rfl rfl rfl (by first | exact decide_eq_false (by omega) | exact beq_eq_false_iff_ne.2 (by omega) | exact bne_eq_false_iff_eq.2 (by omega)) <| WOL.nil <| keep [(2,_),(7,_),(8,_),(10,_),(30,_),(31,_),(32,_),(55,_)] ⟨rfl,rfl,rfl,rfl,rfl,rfl,rfl,rfl,trivial⟩ ?_
  refine WL.no rfl <| WL.skip ?_
  refine keep [(2,_),(7,_),(8,_),(10,_),(30,_),(31,_),(32,_)] ⟨rfl,rfl,rfl,rfl,rfl,rfl,rfl,trivial⟩ ?_
  exact k1099c H X hn nx1 nx2 cn ck lc f (XG.trans XI) (Nat.le_refl _) A7 A10 RC three fun g' w1 w2 Z A7 V1 V2 R a q => ⟨(((3 * c0:Nat):Int),w1,w2),⟨Z,A7,V1,V2,.inr ⟨k0 + 1,c0,c,rfl,e0,hc,by omega,rfl,R⟩⟩,q⟩
end
end Go.Tidy
