/- A part of the proof. -/
import Derived.Test.YtmafhkcdhpkliaaGreatDoorPa5
import Derived.Test.YtmafhkcdhpkliaaGreatDoorPa4
import Derived.Test.YtmafhkcdhpkliaaGreatDoorPa2
set_option linter.all false
namespace Go.Tidy
open Go Go.Proofs Tab
variable {tp:TProg}
section
variable {h:TH} {n:Int} {v1 v2:Value} {L:List Int} {S:List (Int × Int)}
set_option maxHeartbeats 2000000 in
set_option maxRecDepth 10000 in
theorem k1177 (H:Has tp) (r:TrcH h v1 v2 L S) (hL:L.length≤1000000) (hS:S.length≤1000000) (hin:In L.length S) (f:Free0 h.next h):CallW Tryz.prog tp (.func (.func 194) #[] #[]) #[trcV n v1 v2] h fun v h'=>HX h h'∧∃ bv bk,v=rowV n (slA bv L.length) (slA bk L.length)∧h.next≤bv∧h.next≤bk∧RowA h' bv bk L (knownL S L.length):=by
 refine CallW.fnL (H.fn 194 f1177 rfl rfl) ?_
 refine WL.sr<|WOL.box rfl fun h1 N1=>WOL.al tp1194 fun h2 N2=>WOL.nil<|keep [(1,_),(2,_)] ⟨rfl,rfl,trivial⟩ ?_
 have n1:=N1.next
 have n2:=N2.next
 have A1:At h2 h.next (.cells [zi n,v1,v2] true true 121):=N1.at_.hx N2.hx
 have A2:=N2.at_
 have X2:=N1.hx.trans N2.hx
 have r0:=r
 replace r:=r.hx X2
 refine WL.sr<|WOL.fa rfl (fa_of fo1117_0)<|WOL.ld rfl (load_one tp3 A1 rfl)<|WOL.fa rfl (fa_of fo1117_1)<|WOL.ld rfl (load_one tp29 A1 rfl)<|WOL.len rfl r.l u29<|WOL.cl2 rfl rfl rfl ((k1178 H hL (f.on X2)).mono ?_)
 rintro v h3 ⟨X3,bv,bk,rfl,lv,lk,ra⟩
 have x3:=X3.next
 have bvl:=ra.v.lt
 have bkl:=ra.k.lt
 refine WOL.al tp1194 fun h4 N4=>?_
 have n4:=N4.next
 have X4:=(X2.trans X3).trans N4.hx
 refine WOL.sto (vs:=[zi n,slA bv L.length,.slice none 0 0,slA bk L.length]) rfl rfl tp1194 N4.at_ rfl rfl (Nat.le_of_ble_eq_true rfl) rfl (f.hx X4) (by omega) fun h5 P5=>WOL.nil<|keep [(1,_),(2,_),(3,_)] ⟨rfl,rfl,rfl,trivial⟩ ?_
 have n5:=P5.next
 have A3:At h5 h3.next (.cells [zi n,slA bv L.length,.slice none 0 0,slA bk L.length] true true 277):=P5.at_
 have X5:HX h h5:=P5.hx _ X4 (by omega)
 have x35:HX h3 h5:=P5.hx _ N4.hx (Nat.le_refl _)
 replace ra:=ra.hx x35
 have y5:=X3.trans x35
 replace A1:=A1.hx y5;replace A2:=A2.hx y5;replace r:=r.hx y5
 have A4:=ra.v
 -- the values
 refine WL.sr<|WOL.fa rfl (fa_of fo1194_0)<|WOL.fa rfl (fa_of fo1117_1)<|WOL.ld rfl (load_one tp29 A3 rfl)<|WOL.fa rfl (fa_of fo1117_1)<|WOL.ld rfl (load_one tp29 A1 rfl) ?_
 obtain ⟨h6,cp,P6⟩:=copy_into u29 tp3 A4 (by rw [eI.cat_len,List.length_replicate]) r.l (eI.all _) (f.hx X5) (by omega)
 refine WOL.cp rfl rfl cp<|WOL.nil<|keep [(1,_),(2,_),(3,_)] ⟨rfl,rfl,rfl,trivial⟩ ?_
 have n6:=P6.next
 have Av:=P6.at_
 have X6:HX h h6:=P6.hx _ X5 (by omega)
 have X26:HX h2 h6:=P6.hx _ y5 (by omega)
 have Ak:=P6.oth _ _ ra.n.symm ra.k
 replace A3:=P6.oth _ _ (by omega) A3
 replace A1:=P6.oth _ _ (by have:=A1.lt;have:=X2.next;omega) A1
 replace A2:=P6.oth _ _ (by omega) A2
 refine WL.sr<|WOL.fa rfl (fa_of fo1117_1)<|WOL.ld rfl (load_one tp29 A1 rfl)<|WOL.len rfl (r0.l.hx X6) u29<|WOL.fa rfl (fa_of fo1117_2)<|WOL.ld rfl (load_one tp44 A1 rfl)<|WOL.cl2 rfl rfl rfl ((k1223 H (r0.s.hx X6) hL hS hin (f.on X6)).mono ?_)
 rintro v h7 ⟨b,rfl,A7,X7,hb⟩
 have x7:=X7.next
 have x6:=X6.next
 have a3:=A3.lt
 have a2:=A2.lt
 have av:=Av.lt
 refine WOL.fa rfl (fa_of fo1194_1)<|WOL.sto (vs:=[slA b L.length]) rfl rfl tp145 (A3.hx X7) rfl rfl (Nat.le_of_ble_eq_true rfl) rfl (f.hx (X6.trans X7)) (by omega) fun h8 P8=>WOL.nil<|keep [(1,_),(2,_),(3,_)] ⟨rfl,rfl,rfl,trivial⟩ ?_
 have n8:=P8.next
 have B3:At h8 h3.next (.cells [zi n,slA bv L.length,.slice none 0 0,slA b L.length] true true 277):=P8.at_
 have X8:HX h h8:=P8.hx _ (X6.trans X7) (by omega)
 have B2:=P8.oth _ _ (by omega) (A2.hx X7)
 have Bv:=P8.oth _ _ (by omega) (Av.hx X7)
 have Bk:=P8.oth _ _ (by omega) A7
 refine WL.sr<|WOL.ld rfl (load_row tp1194 B3 rfl (Nat.le_of_ble_eq_true rfl))<|WOL.sto (vs:=[zi n,slA bv L.length,.slice none 0 0,slA b L.length]) rfl rfl tp1194 B2 rfl rfl (Nat.le_of_ble_eq_true rfl) rfl (f.hx X8) (by omega) fun h9 P9=>WOL.nil ?_
 refine WL.ret (WL.endC rfl (load_row tp1194 P9.at_ rfl (Nat.le_of_ble_eq_true rfl)) ⟨P9.hx _ X8 (by omega),bv,b,rfl,by omega,by omega,⟨P9.oth _ _ (by omega) Bv,P9.oth _ _ (by omega) Bk,knownL_len _ _,by omega⟩⟩)
end
end Go.Tidy
namespace Go.Tidy
open Go Go.Proofs Tab
variable {tp:TProg}
def valC (C:List (Int × Bool)):List Int:=C.map fun c=>cond c.2 c.1 0
def bigC (C:List (Int × Bool)):Bool:=C.any fun c=>c.2 && largeB c.1
section
variable {h g:TH} {n:Int} {v:Value} {C:List (Int × Bool)} {j:Nat}
end
end Go.Tidy
namespace Go.Tidy
open Go Go.Proofs Tab
variable {tp:TProg}
theorem OwnL.low {α:Type} {enc:α→List Value} {n0 n1:Nat} {h:TH} {v:Value} {e:TypeId} {l:List α} (o:OwnL enc n1 h v e l) (h0:n0≤n1):OwnL enc n0 h v e l:=by
 rcases o with q | ⟨q1,b,q2,q3,q4⟩
 ·exact .inl q
 ·exact .inr ⟨q1,b,q2,by omega,q4⟩
section
variable {h:TH} {n n':Int} {v1 v2 w1 w2:Value} {L1 L2:List Int} {S1 S2:List (Int × Int)}
end
end Go.Tidy
namespace Go.Tidy
open Go Go.Proofs Tab
variable {tp:TProg}
theorem tbl_get {α:Type} {f:Nat→α} {m i:Nat}:((List.range m).map f)[i]?=if i < m then some (f i) else none:=by
 rw [List.getElem?_map]
 by_cases h:i < m
 ·rw [List.getElem?_range h,if_pos h];rfl
 ·rw [List.getElem?_eq_none (by rw [List.length_range];omega),if_neg h];rfl
def upTo {α:Type} (z:α) (C:List α) (m j:Nat):List α:=(List.range m).map fun i=>cond (decide (i < j)) (C.getD i z) z
section
variable {α:Type} {z:α} {C:List α} {m j:Nat}
theorem upTo_len:(upTo z C m j).length=m:=by unfold upTo;rw [List.length_map,List.length_range]
theorem upTo_zero:upTo z C m 0=List.replicate m z:=by
 refine List.eq_replicate_iff.2 ⟨upTo_len,fun b hb=>?_⟩
 unfold upTo at hb
 obtain ⟨i,_,rfl⟩:=List.mem_map.1 hb
 rfl
theorem upTo_set:upTo z C m (j+1)=(upTo z C m j).set j (C.getD j z):=by
 refine List.ext_getElem? fun i=>?_
 unfold upTo
 rw [tbl_get]
 by_cases e:i=j
 ·subst e
  by_cases h:i < m
  ·rw [if_pos h,List.getElem?_set_self (by rw [List.length_map,List.length_range];exact h),decide_eq_true (Nat.lt_succ_self i)];rfl
  ·rw [if_neg h,List.getElem?_eq_none (by rw [List.length_set,List.length_map,List.length_range];omega)]
 ·rw [List.getElem?_set_ne (by omega),tbl_get,show decide (i < j+1)=decide (i < j) from decide_eq_decide.2 (by omega)]
theorem upTo_same (h:C.getD j z=z):upTo z C m (j+1)=upTo z C m j:=by
 unfold upTo
 refine List.map_congr_left fun i _=>?_
 by_cases e:i=j
 ·subst e
  rw [h]
  cases decide (i < i+1) <;> cases decide (i < i) <;> rfl
 ·rw [show decide (i < j+1)=decide (i < j) from decide_eq_decide.2 (by omega)]
theorem upTo_all (h:C.length=m):upTo z C m m=C:=by
 refine List.ext_getElem? fun i=>?_
 unfold upTo
 rw [tbl_get]
 by_cases hi:i < m
 ·rw [if_pos hi,decide_eq_true hi,List.getD_eq_getElem?_getD,List.getElem?_eq_getElem (by omega)];rfl
 ·rw [if_neg hi,List.getElem?_eq_none (by omega)]
end
theorem bigC_val (C:List (Int × Bool)):bigC C=(valC C).any largeB:=by
 unfold bigC valC
 rw [List.any_map]
 congr 1
 funext c
 obtain ⟨x,k⟩:=c
 cases k with
 | true=>rfl
 | false=>show false=largeB 0;rfl
def ProgR (n:Int) (e:Int) (C:List (Int × Bool)) (n0:Nat) (h':TH) (v:Value):Prop :=
 (e≠0∧v=.tuple #[trcV 0 (.slice none 0 0) (.slice none 0 0),zi e])∨(e=0∧bigC C=true∧v=.tuple #[trcV 0 (.slice none 0 0) (.slice none 0 0),zi 4])∨(e=0∧bigC C=false∧∃ bv w,v=.tuple #[trcV n (slA bv C.length) w,zi 0]∧n0≤bv∧TrcO n0 h' bv w (valC C) (holesOf (C.map fun c=>c.2)))
section
variable {h:TH} {n n':Int} {v1 v2 w1 w2:Value} {L1 L2:List Int} {S1 S2:List (Int × Int)}
end
end Go.Tidy
namespace Go.Tidy
open Go Go.Proofs Tab
variable {tp:TProg}
theorem trace_ok {n:Int} {L:List Int} {S:List (Int × Int)} (h:traceE n L S=0):(0≤n∧n≤100000000)∧(∀ i,-1073741824≤L.getD i 0∧L.getD i 0≤1073741824)∧holeE L.length (-1) S=0∧S.any (anyIn L)=false∧L.length≤4096∧n+(L.length:Int)≤100000000:=by
  have all:=firstNZ_zero h
  have a1:=all _ (List.mem_cons_self ..)
  have a2:=all (cond (decide ((L.length:Int) > 4096)) 5 0) (by simp)
  have a3:=all (cond (decide (n+(L.length:Int) > 100000000)) 4 0) (by simp)
  have a4:=all (firstNZ (L.map readE)) (by simp)
  have a5:=all (cond (holeE L.length (-1) S != 0) (holeE L.length (-1) S) (formE L S)) (by simp)
  have a6:=firstNZ_zero a4
  have hh:holeE L.length (-1) S=0:=by
    cases hb:(holeE L.length (-1) S != 0) with
    | true=>rw [hb] at a5;exact a5
    | false=>exact bne_eq_false_iff_eq.1 hb
  refine ⟨out_in a1,fun i=>?_,hh,?_,?_,?_⟩
  · rw [List.getD_eq_getElem?_getD]
    cases hL:L[i]? with
    | none=>exact ⟨by decide,by decide⟩
    | some x =>
      have:=a6 _ (List.mem_map.2 ⟨x,List.mem_of_getElem? hL,rfl⟩)
      unfold readE outB at this
      show -1073741824≤x∧x≤1073741824
      cases h1:decide (x < -1073741824) with
      | true=>rw [h1] at this;cases this
      | false =>
        cases h2:decide (x > 1073741824) with
        | true=>rw [h1,h2] at this;cases this
        | false =>
          have:=of_decide_eq_false h1
          have:=of_decide_eq_false h2
          omega
  · rw [hh] at a5
    replace a5:formE L S=0:=a5
    unfold formE at a5
    cases hf:S.any (anyIn L) with
    | true=>rw [hf] at a5;cases a5
    | false=>rfl
  · cases hb:decide ((L.length:Int) > 4096) with
    | true=>rw [hb] at a2;cases a2
    | false=>have:=of_decide_eq_false hb;omega
  · cases hb:decide (n+(L.length:Int) > 100000000) with
    | true=>rw [hb] at a3;cases a3
    | false=>have:=of_decide_eq_false hb;omega
section
variable {h:TH} {n n':Int} {v1 v2 w1 w2:Value} {L1 L2:List Int} {S1 S2:List (Int × Int)}
end
end Go.Tidy
namespace Go.Tidy
open Go Go.Proofs Tab
variable {tp:TProg}
def RevR (n p e:Int) (L:List Int) (S:List (Int × Int)) (n0:Nat) (h':TH) (v:Value):Prop :=
 (e≠0∧v=.tuple #[trcV 0 (.slice none 0 0) (.slice none 0 0),zi e])∨(e=0∧(2*p+1 - (n+L.length) < 0∨2*p+1 - (n+L.length)+L.length > 100000000)∧v=.tuple #[trcV 0 (.slice none 0 0) (.slice none 0 0),zi 14])∨(e=0∧0≤2*p+1 - (n+L.length)∧2*p+1 - (n+L.length)+L.length≤100000000∧∃ bv w,v=.tuple #[trcV (2*p+1 - (n+L.length)) (slA bv L.length) w,zi 0]∧n0≤bv∧TrcO n0 h' bv w L.reverse (holesOf (knownL S L.length).reverse))
section
variable {h:TH} {n p:Int} {v1 v2:Value} {L:List Int} {S:List (Int × Int)}
end
end Go.Tidy
namespace Go.Tidy
open Go Go.Proofs Tab
def Ans (n:Int) (o:Int × List Int × List (Int × Int)) (n0:Nat) (g:TH) (v:Value):Prop:=∃ z y1 y2,v=.tuple #[trcV z y1 y2,zi o.1]∧IsInts g y1 o.2.1∧SlL encS 2 g y2 o.2.2∧(∀ z,bl y1=some z→n0≤z)∧(∀ z,bl y2=some z→n0≤z)∧((o.1≠0∧z=0∧o.2.1=[]∧o.2.2=[])∨(o.1=0∧z=n))
theorem Ans.err {n e:Int} {n0:Nat} {g:TH} {v:Value} (he:e≠0) (hv:v=.tuple #[trcV 0 (.slice none 0 0) (.slice none 0 0),zi e]):Ans n (e,[],[]) n0 g v:=⟨0,_,_,hv,.inl ⟨rfl,rfl⟩,SlL.nil,fun z hz=>(by cases hz),fun z hz=>(by cases hz),.inl ⟨he,rfl,rfl,rfl⟩⟩
end Go.Tidy
namespace Go.Tidy
open Go Go.Proofs Tab
def tapN (L:List Int) (i:Nat):List (Nat × Int)→Int→Int
 | [],s=>s
 | t::T,s=>tapN L i T (s+t.2*L.getD (i+t.1) 0)
def tapK (S:List (Int × Int)) (i:Nat) (T:List (Nat × Int)):Bool:=T.all fun t=>knownB S ((i+t.1:Nat):Int)
def tapC (L:List Int) (S:List (Int × Int)) (T:List (Nat × Int)) (m:Nat):List (Int × Bool):=(List.range m).map fun i=>(tapN L i T 0,tapK S i T)
theorem tapC_len {L:List Int} {S:List (Int × Int)} {T:List (Nat × Int)} {m:Nat}:(tapC L S T m).length=m:=by unfold tapC;rw [List.length_map,List.length_range]
theorem tapC_get {L:List Int} {S:List (Int × Int)} {T:List (Nat × Int)} {m i:Nat} (h:i < m):(tapC L S T m)[i]?=some (tapN L i T 0,tapK S i T):=by
 unfold tapC
 rw [tbl_get,if_pos h]
theorem tapN_app {L:List Int} {i:Nat}:∀ {T U:List (Nat × Int)} {s:Int},tapN L i (T ++ U) s=tapN L i U (tapN L i T s)
 | [],_,_=>rfl
 | t::T,U,s=>by
  show tapN L i (T ++ U) _=tapN L i U (tapN L i T _)
  exact tapN_app
theorem tapN_lim {L:List Int} {i:Nat} (hL:∀ j,-1073741824≤L.getD j 0∧L.getD j 0≤1073741824):∀ {T:List (Nat × Int)} {s B:Int},(∀ t,t ∈ T→-10000≤t.2∧t.2≤10000)→-B≤s→s≤B→-(B+T.length*10737418240000)≤tapN L i T s∧tapN L i T s≤B+T.length*10737418240000
  | [],s,B,_,h1,h2=>by
    show -(B+((0:Nat):Int)*_)≤s∧s≤B+((0:Nat):Int)*_
    omega
  | t::T,s,B,hT,h1,h2=>by
    obtain ⟨a1,a2⟩:=hT t (List.mem_cons_self ..)
    obtain ⟨b1,b2⟩:=hL (i+t.1)
    have hp:(t.2*L.getD (i+t.1) 0).natAbs≤10737418240000:=by
      rw [Int.natAbs_mul]
      exact Nat.le_trans (Nat.mul_le_mul (show t.2.natAbs≤10000 by omega) (show (L.getD (i+t.1) 0).natAbs≤1073741824 by omega)) (by decide)
    have ih:=tapN_lim (i:=i) hL (T:=T) (s:=s+t.2*L.getD (i+t.1) 0) (B:=B+10737418240000) (fun u hu=>hT u (List.mem_cons_of_mem _ hu)) (by omega) (by omega)
    show _≤tapN L i T _∧tapN L i T _≤_
    rw [List.length_cons]
    omega
end Go.Tidy
namespace Go.Tidy
open Go Go.Proofs Tab
variable {tp:TProg}
theorem tp1242:Tp Tryz.prog 275 2 [.int .i64 0,.int .i64 0] true:=tp_of (by kernel_rfl) (by kernel_rfl) rfl
theorem u1214:Tryz.prog.underlying 226=some (.slice 275):=by kernel_rfl
theorem fo1242_0:fieldOff Tryz.prog 275 0=some 0:=by kernel_rfl
theorem fo1242_1:fieldOff Tryz.prog 275 1=some 1:=by kernel_rfl
theorem tp1214:Tp Tryz.prog 226 1 [.slice none 0 0] false:=tp_of (by kernel_rfl) (by kernel_rfl) rfl
theorem bd1242 {a b:Int}:buildT Tryz.prog 275 [(0,zi a),(1,zi b)]=some (.agg #[zi a,zi b]):=by kernel_rfl
theorem filled_taps3 (a b c:Int × Int):filled 2 3 [zi 0,zi 0] [(0,.agg #[zi a.1,zi a.2]),(1,.agg #[zi b.1,zi b.2]),(2,.agg #[zi c.1,zi c.2])]=some (cat encS [a,b,c]):=by
 rfl
def tapB (B:List Bool) (i:Nat) (T:List (Nat × Int)):Bool:=T.all fun t=>B.getD (i+t.1) false
theorem tapB_known {S:List (Int × Int)} {m i:Nat} {T:List (Nat × Int)} (h:∀ t,t ∈ T→i+t.1 < m):tapB (knownL S m) i T=tapK S i T:=by
 unfold tapB tapK
 rw [Bool.eq_iff_iff,List.all_eq_true,List.all_eq_true]
 have e:∀ t,t ∈ T→(knownL S m).getD (i+t.1) false=knownB S ((i+t.1:Nat):Int):=fun t ht=>by
  rw [List.getD_eq_getElem?_getD,knownL_get (h t ht)];rfl
 exact ⟨fun q t ht=>(e t ht) ▸ q t ht,fun q t ht=>(e t ht).symm ▸ q t ht⟩
def tapD (c:Int) (T:List (Nat × Int)):List (Int × Int):=T.map fun t=>((t.1:Int)+c,t.2)
theorem mul_lim {w x:Int} (a1:-10000≤w) (a2:w≤10000) (b1:-1073741824≤x) (b2:x≤1073741824):-10737418240000≤w*x∧w*x≤10737418240000:=by
 have hp:(w*x).natAbs≤10737418240000:=by
  rw [Int.natAbs_mul]
  exact Nat.le_trans (Nat.mul_le_mul (show w.natAbs≤10000 by omega) (show x.natAbs≤1073741824 by omega)) (by decide)
 omega
section
variable {h:TH} {n:Int} {L:List Int} {B:List Bool} {bv bk:Nat}
set_option maxRecDepth 10000 in
theorem k1199 (H:Has tp) {a b:Int} (a1:-1000000≤a) (a2:a≤1000000) (b1:-1000000≤b) (b2:b≤1000000) (h:TH):CallW Tryz.prog tp (.func (.func 200) #[] #[]) #[.agg #[zi a,zi b]] h fun v h'=>v=zi (a+b)∧HX h h':=by
 refine CallW.fnL (H.fn 200 f1199 rfl rfl) ?_
 refine WL.sr<|WOL.box rfl fun h1 N1=>WOL.as rfl<|WOL.nil<|keep [(1,_)] ⟨rfl,trivial⟩ ?_
 have A1:At h1 h.next (.cells [zi a,zi b] true true 117):=N1.at_
 refine WL.sr ?_
 repeat' (first
  | refine WOL.now (b:=true) rfl rfl ?_
  | refine WOL.now (b:=false) rfl rfl ?_
  | refine WOL.skp (b:=true) rfl rfl ?_
  | refine WOL.skp (b:=false) rfl rfl ?_
  | refine WOL.gu rfl rfl ?_
  | refine WOL.mv rfl ?_
  | refine WOL.as rfl ?_
  | refine WOL.ex rfl rfl ?_
  | refine WOL.nt rfl ?_
  | refine WOL.pkt rfl rfl ?_
  | refine WOL.pkf rfl rfl ?_
  | refine WOL.fa rfl (fa_of (by first | exact fo1117_0 | exact fo1117_1 | exact fo1117_2 | exact fo1114_0 | exact fo1114_1 | exact fo1114_2 | exact fo1194_0 | exact fo1194_1 | exact fo1112_0 | exact fo1112_1 | exact fo1128_0 | exact fo1128_1 | exact fo48_0 | exact fo48_1 | exact fo1207_0 | exact fo1207_1)) ?_
  | refine WOL.ld rfl (load_one (by first | exact tp3 | exact tp29 | exact tp4 | exact tp145 | exact tp44 | exact tp48 | exact tp1117 | exact tp1114 | exact tp1194 | exact tp1112 | exact tp1128 | exact tp1207) A1 rfl) ?_
  | refine WOL.ld rfl (load_row (by first | exact tp3 | exact tp29 | exact tp4 | exact tp145 | exact tp44 | exact tp48 | exact tp1117 | exact tp1114 | exact tp1194 | exact tp1112 | exact tp1128 | exact tp1207) A1 rfl (Nat.le_of_ble_eq_true rfl)) ?_
  | refine WOL.add rfl rfl (by omega) (by omega) ?_
  | refine WOL.sub rfl rfl (by omega) (by omega) ?_
  | refine WOL.bt rfl rfl rfl (by first | exact decide_eq_true (by omega) | exact beq_iff_eq.2 (by omega) | exact bne_iff_ne.2 (by omega)) ?_
  | refine WOL.bf rfl rfl rfl (by first | exact decide_eq_false (by omega) | exact beq_eq_false_iff_ne.2 (by omega) | exact bne_eq_false_iff_eq.2 (by omega)) ?_)
 exact WOL.nil<|WL.ret (WL.end_ rfl ⟨rfl,N1.hx⟩)
set_option maxRecDepth 10000 in
theorem k1194 (H:Has tp) {a b:Int} (a1:-1000000≤a) (a2:a≤1000000) (b1:-1000000≤b) (b2:b≤1000000) (h:TH):CallW Tryz.prog tp (.func (.func 148) #[] #[]) #[.agg #[zi a,zi b]] h fun v h'=>HX h h'∧∃ c,v=slA c 3∧h.next≤c∧At h' c (.cells (cat encS [(-a,-b),(0,a+b),(b,-a)]) true true 275):=by
 refine CallW.fnL (H.fn 148 f1194 rfl rfl) ?_
 refine WL.sr<|WOL.box rfl fun h1 N1=>WOL.as rfl<|WOL.nil<|keep [(1,_)] ⟨rfl,trivial⟩ ?_
 have n1:=N1.next
 have A1:At h1 h.next (.cells [zi a,zi b] true true 117):=N1.at_
 refine WL.sr ?_
 repeat' (first
  | refine WOL.neg rfl (by omega) (by omega) ?_
  | refine WOL.bd rfl bd1242 ?_
  | refine WOL.now (b:=true) rfl rfl ?_
  | refine WOL.now (b:=false) rfl rfl ?_
  | refine WOL.skp (b:=true) rfl rfl ?_
  | refine WOL.skp (b:=false) rfl rfl ?_
  | refine WOL.gu rfl rfl ?_
  | refine WOL.mv rfl ?_
  | refine WOL.as rfl ?_
  | refine WOL.ex rfl rfl ?_
  | refine WOL.nt rfl ?_
  | refine WOL.pkt rfl rfl ?_
  | refine WOL.pkf rfl rfl ?_
  | refine WOL.fa rfl (fa_of (by first | exact fo1117_0 | exact fo1117_1 | exact fo1117_2 | exact fo1114_0 | exact fo1114_1 | exact fo1114_2 | exact fo1194_0 | exact fo1194_1 | exact fo1112_0 | exact fo1112_1 | exact fo1128_0 | exact fo1128_1 | exact fo48_0 | exact fo48_1 | exact fo1207_0 | exact fo1207_1)) ?_
  | refine WOL.ld rfl (load_one (by first | exact tp3 | exact tp29 | exact tp4 | exact tp145 | exact tp44 | exact tp48 | exact tp1117 | exact tp1114 | exact tp1194 | exact tp1112 | exact tp1128 | exact tp1207) A1 rfl) ?_
  | refine WOL.ld rfl (load_row (by first | exact tp3 | exact tp29 | exact tp4 | exact tp145 | exact tp44 | exact tp48 | exact tp1117 | exact tp1114 | exact tp1194 | exact tp1112 | exact tp1128 | exact tp1207) A1 rfl (Nat.le_of_ble_eq_true rfl)) ?_
  | refine WOL.add rfl rfl (by omega) (by omega) ?_
  | refine WOL.sub rfl rfl (by omega) (by omega) ?_
  | refine WOL.bt rfl rfl rfl (by first | exact decide_eq_true (by omega) | exact beq_iff_eq.2 (by omega) | exact bne_iff_ne.2 (by omega)) ?_
  | refine WOL.bf rfl rfl rfl (by first | exact decide_eq_false (by omega) | exact beq_eq_false_iff_ne.2 (by omega) | exact bne_eq_false_iff_eq.2 (by omega)) ?_)
 refine WOL.lk1 rfl rfl fun M=>((k1199 H a1 a2 b1 b2 _).mono ?_)
 rintro v h2 ⟨rfl,X2⟩
 replace X2:=X2.relock
 generalize h2.withLock h1.lock=h2 at *
 have x2:=X2.next
 refine WOL.bd rfl bd1242<|WOL.bsl rfl u1214 tp1242 (by decide) (by decide) (by decide) (filled_taps3 (-a,-b) (0,a+b) (b,-a)) fun h3 N3=>WOL.as rfl<|WOL.nil ?_
 exact WL.ret (WL.end_ rfl ⟨(N1.hx.trans X2).trans N3.hx,h2.next,rfl,by omega,N3.at_⟩)
set_option maxHeartbeats 2000000 in
set_option maxRecDepth 10000 in
theorem k1226 (H:Has tp) (r:RowA h bv bk L B) {T:List (Nat × Int)} {c p:Int} {i:Nat} {v:Value} (s:SlL encS 2 h v (tapD c T)) (hp:p+c=n+(i:Nat)) (hT:∀ t,t ∈ T→i+t.1 < L.length) (hw:∀ t,t ∈ T→-10000≤t.2∧t.2≤10000) (lT:T.length≤1000) (lim:∀ j,-1073741824≤L.getD j 0∧L.getD j 0≤1073741824) (h0:0≤n) (h1:n≤1000000000) (hl:L.length≤1000000) (c1:-1000000≤c) (c2:c≤1000000) (f:Free0 h.next h) :
    CallW Tryz.prog tp (.func (.func 197) #[] #[]) #[rowV n (slA bv L.length) (slA bk L.length),zi p,v] h fun v h'=>v=.tuple #[zi (cond (tapB B i T) (tapN L i T 0) 0),.bool (tapB B i T)]∧HX h h':=by
  refine CallW.fnL (H.fn 197 f1226 rfl rfl) ?_
  refine WL.sr<|WOL.box rfl fun h1 N1=>WOL.as rfl<|WOL.as rfl<|WOL.nil<|keep [(1,_),(2,_),(3,_)] ⟨rfl,rfl,rfl,trivial⟩ ?_
  have n1:=N1.next
  have A1:At h1 h.next (.cells [zi n,slA bv L.length,.slice none 0 0,slA bk L.length] true true 277):=N1.at_
  have lD:(tapD c T).length=T.length:=by unfold tapD;rw [List.length_map]
  refine WL.sr<|WOL.as rfl<|WOL.nil ?_
  refine WL.seq<|WL.sr<|WOL.mv rfl<|WOL.len rfl (s.hx N1.hx) u1214<|WOL.mv rfl<|WOL.nil<|keep [(1,_),(3,_),(8,_),(13,_),(14,_),(15,_)] ⟨rfl,rfl,rfl,rfl,rfl,rfl,trivial⟩ ?_
  rw [lD]
  refine WL.upto (α:=Int) T.length (fun j z g=>HX h1 g∧tapB B i (T.take j)=true∧z=tapN L i (T.take j) 0) (fun j z=>[(1,zi p),(3,ptr h.next),(8,zi z),(13,v),(14,zi (T.length:Nat))]) 0 rfl rfl (by omega) ⟨HX.refl _,rfl,rfl⟩ ⟨rfl,rfl,rfl,rfl,rfl,rfl,trivial⟩ (fun _ _=>rfl) (fun _ _ _=>⟨rfl,rfl,rfl,rfl,rfl,rfl,trivial⟩) (fun _ _ _=>⟨rfl,rfl,rfl,rfl,rfl,rfl,trivial⟩) ?_ ?_
  · rintro j z g hj ⟨X,hB,hz⟩
    have hm:T[j] ∈ T:=List.getElem_mem hj
    have ht:T[j]?=some T[j]:=List.getElem?_eq_getElem hj
    have hz':tapN L i (T.take j) 0+T[j].2*L.getD (i+T[j].1) 0=tapN L i (T.take (j+1)) 0:=by
      rw [← List.take_append_getElem hj,tapN_app];rfl
    have hB':tapB B i (T.take (j+1))=B.getD (i+T[j].1) false:=by
      rw [← List.take_append_getElem hj]
      unfold tapB at hB ⊢
      rw [List.all_append,hB]
      simp
    have hT':=hT _ hm
    obtain ⟨w1,w2⟩:=hw _ hm
    generalize T[j]=t at *
    obtain ⟨o,w⟩:=t
    replace hT':i+o < L.length:=hT'
    replace w1:-10000≤w:=w1
    replace w2:w≤10000:=w2
    replace hz':tapN L i (T.take j) 0+w*L.getD (i+o) 0=tapN L i (T.take (j+1)) 0:=hz'
    replace hB':tapB B i (T.take (j+1))=B.getD (i+o) false:=hB'
    have hd:(tapD c T)[j]?=some ((o:Int)+c,w):=by unfold tapD;rw [List.getElem?_map,ht];rfl
    have A1':=A1.hx X
    have xg:=X.next
    obtain ⟨b,off,cc,fix,wr,el,g1,g2,g3,g4,g5⟩:=(s.hx (N1.hx.trans X)).at eS u1214 tp1242 hd .i64
    refine WL.sr<|WOL.ix rfl rfl g1<|WOL.ld rfl (load_row tp1242 g2 g4 g3)<|WOL.al tp1242 fun i1 M1=>?_
    refine WOL.sto (vs:=encS ((o:Int)+c,w)) rfl rfl tp1242 M1.at_ rfl rfl (Nat.le_of_ble_eq_true rfl) rfl (f.hx (N1.hx.trans (X.trans M1.hx))) (by omega) fun i2 M2=>WOL.nil<|keep [(1,_),(3,_),(8,_),(10,_),(13,_),(14,_),(15,_)] ⟨rfl,rfl,rfl,rfl,rfl,rfl,rfl,trivial⟩ ?_
    have A2:At i2 g.next (.cells [zi ((o:Int)+c),zi w] true true 275):=M2.at_
    have XI:HX g i2:=M2.hx _ M1.hx (Nat.le_refl _)
    replace A1':=A1'.hx XI
    have Y:=X.trans XI
    obtain ⟨b1,b2⟩:=lim (i+o)
    refine WL.sr<|WOL.ld rfl (load_row tp1194 A1' rfl (Nat.le_of_ble_eq_true rfl))<|WOL.mv rfl<|WOL.fa rfl (fa_of fo1242_0)<|WOL.ld rfl (load_one tp3 A2 rfl)<|WOL.add rfl rfl (by omega) (by omega) ?_
    rw [show p+((o:Int)+c)=n+((i+o:Nat):Int) by omega]
    refine WOL.cl2 rfl rfl rfl ((k1180 H (r.hx (N1.hx.trans Y)) hT' h0 ‹n≤1000000000› hl).mono ?_)
    rintro u i3 ⟨rfl,X3⟩
    replace A2:=A2.hx X3
    refine WOL.mv rfl<|WOL.ex rfl rfl<|WOL.ex rfl rfl<|WOL.as rfl<|WOL.as rfl<|WOL.nil<|keep [(1,_),(3,_),(8,_),(10,_),(11,_),(12,_),(13,_),(14,_),(15,_)] ⟨rfl,rfl,rfl,rfl,rfl,rfl,rfl,rfl,rfl,trivial⟩ ?_
    cases hb:B.getD (i+o) false with
    | false =>
      have hF:tapB B i T=false:=by
        unfold tapB
        rw [List.all_eq_false]
        exact ⟨(o,w),hm,by show ¬ B.getD (i+o) false=true;rw [hb];decide⟩
      refine WL.seq<|WL.sr<|WOL.mv rfl<|WOL.nt rfl<|WOL.nil<|WL.yes rfl<|WL.sr<|WOL.as rfl<|WOL.as rfl<|WOL.nil ?_
      exact WL.ret (WL.end_ rfl ⟨by rw [hF];rfl,N1.hx.trans (Y.trans X3)⟩)
    | true =>
      rw [hb] at hB'
      refine WL.seq<|WL.sr<|WOL.mv rfl<|WOL.nt rfl<|WOL.nil<|WL.no rfl<|WL.skip ?_
      obtain ⟨m1,m2⟩:=mul_lim w1 w2 b1 b2
      have ll:=tapN_lim (i:=i) lim (T:=T.take j) (s:=0) (B:=0) (fun t ht=>hw t (List.mem_of_mem_take ht)) (by omega) (by omega)
      have lj:(T.take j).length≤1000:=by rw [List.length_take];omega
      rw [← hz] at ll hz'
      refine WL.reg<|WOL.mv rfl<|WOL.fa rfl (fa_of fo1242_1)<|WOL.ld rfl (load_one tp3 A2 rfl)<|WOL.mv rfl<|WOL.mul rfl rfl (by omega) (by omega)<|WOL.add rfl rfl (by omega) (by omega)<|WOL.as rfl<|WOL.nil fun a q=>?_
      exact ⟨_,⟨Y.trans X3,hB',hz'⟩,q.sub ⟨rfl,rfl,rfl,rfl,rfl,rfl,trivial⟩⟩
  · rintro z g ⟨X,hB,hz⟩
    rw [List.take_length] at hB hz
    refine WL.sr<|WOL.mv rfl<|WOL.as rfl<|WOL.as rfl<|WOL.nil ?_
    exact WL.ret (WL.end_ rfl ⟨by rw [hB,hz];rfl,N1.hx.trans X⟩)
end
end Go.Tidy
namespace Go.Tidy
open Go Go.Proofs Tab
variable {tp:TProg}
theorem tapV_get {L:List Int} {S:List (Int × Int)} {T:List (Nat × Int)} {m j:Nat} (h:j < m):(valC (tapC L S T m)).getD j 0=cond (tapK S j T) (tapN L j T 0) 0:=by
 unfold valC
 rw [List.getD_eq_getElem?_getD,List.getElem?_map,tapC_get h];rfl
theorem tapM_get {L:List Int} {S:List (Int × Int)} {T:List (Nat × Int)} {m j:Nat} (h:j < m):((tapC L S T m).map fun c=>c.2).getD j false=tapK S j T:=by
 rw [List.getD_eq_getElem?_getD,List.getElem?_map,tapC_get h];rfl
structure Taps (T:List (Nat × Int)) (W:Nat):Prop where
 a:∃ y,T[0]?=some (0,y)
 z:∃ y,T[T.length - 1]?=some (W,y)
 o:∀ t,t ∈ T→t.1≤W
 w:∀ t,t ∈ T→-10000≤t.2∧t.2≤10000
 l:T.length≤1000
section
variable {h:TH} {n:Int} {v1 v2:Value} {L:List Int} {S:List (Int × Int)} {T:List (Nat × Int)} {W:Nat} {c:Int} {w:Value}
set_option maxHeartbeats 4000000 in
set_option maxRecDepth 10000 in
theorem k1193 (H:Has tp) (r:TrcH h v1 v2 L S) (s:SlL encS 2 h w (tapD c T)) (ts:Taps T W) (lim:∀ j,-1073741824≤L.getD j 0∧L.getD j 0≤1073741824) (n0:0≤n) (n1:n≤100000000) (nc:0≤n - c) (c1:-1000000≤c) (c2:c≤1000000) (l1:L.length≤900000) (t1:S.length≤1000000) (i1:In L.length S) (hW:W≤1000000) (f:Free0 h.next h) :
  CallW Tryz.prog tp (.func (.func 147) #[] #[]) #[trcV n v1 v2,w] h fun v h'=>HX h h'∧ProgR (n - c) (cond (decide (L.length≤W)) 16 0) (tapC L S T (L.length - W)) h.next h' v:=by
 refine CallW.fnL (H.fn 147 f1193 rfl rfl) ?_
 obtain ⟨b1,k1,e1,_⟩:=id r.l
 obtain ⟨b2,k2,e2,_⟩:=id r.s
 obtain ⟨b3,k3,e3,_⟩:=id s
 subst e1 e2 e3
 have lD:(tapD c T).length=T.length:=by unfold tapD;rw [List.length_map]
 refine WL.sr<|WOL.box rfl fun h1 N1=>WOL.box rfl fun h2 N2=>WOL.al tp1117 fun h3 N3=>WOL.as rfl<|WOL.nil<|keep [(2,_),(3,_),(4,_)] ⟨rfl,rfl,rfl,trivial⟩ ?_
 have q1:=N1.next
 have q2:=N2.next
 have q3:=N3.next
 have A2:At h3 h.next (.cells [zi n,.slice b1 L.length k1,.slice b2 S.length k2] true true 121):=(N1.at_.hx N2.hx).hx N3.hx
 have A3:At h3 h1.next (.cells [.slice b3 (tapD c T).length k3] true true 226):=N2.at_.hx N3.hx
 have A4:=N3.at_
 have X3:=(N1.hx.trans N2.hx).trans N3.hx
 have s3:=s.hx X3
 have r3:=r.hx X3
 obtain ⟨ya,ta⟩:=ts.a
 obtain ⟨yz,tz⟩:=ts.z
 have lT:0 < T.length:=(List.getElem?_eq_some_iff.1 ta).1
 have d0:(tapD c T)[0]?=some (c,ya):=by
  unfold tapD
  rw [List.getElem?_map,ta]
  show some (((0:Nat):Int)+c,ya)=_
  rw [show ((0:Nat):Int)+c=c by omega]
 have dz:(tapD c T)[T.length - 1]?=some ((W:Int)+c,yz):=by unfold tapD;rw [List.getElem?_map,tz];rfl
 obtain ⟨_,_,ca,fix,wr,el,g1,g2,g3,g4,g5⟩:=s3.at eS u1214 tp1242 d0 .i64
 obtain ⟨_,_,cz,fix',wr',el',y1,y2,y3,y4,y5⟩:=s3.at eS u1214 tp1242 dz .i64
 have ga:=g5 0 (by decide)
 have gz:=y5 0 (by decide)
 rw [Nat.add_zero] at ga gz
 replace ga:ca[_]?=some (zi c):=ga
 replace gz:cz[_]?=some (zi ((W:Int)+c)):=gz
 refine WL.sr<|WOL.ld rfl (load_one tp1214 A3 rfl)<|WOL.ix rfl rfl g1<|WOL.fa rfl (fa_of fo1242_0)<|WOL.ld rfl (load_one tp3 g2 ga)<|WOL.ld rfl (load_one tp1214 A3 rfl)<|WOL.ld rfl (load_one tp1214 A3 rfl)<|WOL.len rfl s3 u1214<|WOL.sub (m:=(((tapD c T).length:Nat):Int)) (n:=1) rfl rfl (by rw [lD];omega) (by rw [lD];have:=ts.l;omega) ?_
 rw [show (((tapD c T).length:Nat):Int) - 1=((T.length - 1:Nat):Int) by rw [lD];omega]
 refine WOL.ix rfl rfl y1<|WOL.fa rfl (fa_of fo1242_0)<|WOL.ld rfl (load_one tp3 y2 gz)<|WOL.as rfl<|WOL.as rfl<|WOL.nil<|keep [(2,_),(3,_),(4,_),(6,_),(7,_)] ⟨rfl,rfl,rfl,rfl,rfl,trivial⟩ ?_
 clear g1 g2 g3 g4 g5 y1 y2 y3 y4 y5 ga gz
 refine WL.sr<|WOL.fa rfl (fa_of fo1117_1)<|WOL.ld rfl (load_one tp29 A2 rfl)<|WOL.len rfl r3.l u29<|WOL.mv rfl<|WOL.mv rfl<|WOL.sub (m:=(W:Int)+c) (n:=c) rfl rfl (by omega) (by omega)<|WOL.sub (m:=((L.length:Nat):Int)) (n:=(W:Int)+c - c) rfl rfl (by omega) (by omega)<|WOL.as rfl<|WOL.nil<|keep [(2,_),(3,_),(4,_),(6,_),(8,_)] ⟨rfl,rfl,rfl,rfl,rfl,trivial⟩ ?_
 rw [show ((L.length:Nat):Int) - ((W:Int)+c - c)=(L.length:Int) - W by omega]
 have F0:∀ {g:TH},HX h g→Free0 g.next g:=fun X=>f.on X
 by_cases hc:L.length≤W
 ·rw [decide_eq_true hc]
  refine WL.seq<|WL.sr<|WOL.mv rfl<|WOL.bt rfl rfl rfl (by first | exact decide_eq_true (by omega) | exact beq_iff_eq.2 (by omega) | exact bne_iff_ne.2 (by omega))<|WOL.nil<|WL.yes rfl<|WL.sr<|WOL.bd rfl bd1117z<|WOL.sto (vs:=[zi 0,.slice none 0 0,.slice none 0 0]) rfl rfl tp1117 A4 rfl rfl (Nat.le_of_ble_eq_true rfl) rfl (f.hx X3) (by omega) fun i1 M1=>WOL.as rfl<|WOL.nil ?_
  exact WL.ret (WL.endC1 rfl rfl (load_row tp1117 M1.at_ rfl (Nat.le_of_ble_eq_true rfl)) ⟨M1.hx _ X3 (by omega),.inl ⟨by decide,rfl⟩⟩)
 rw [decide_eq_false hc]
 refine WL.seq<|WL.sr<|WOL.mv rfl<|WOL.bf rfl rfl rfl (by first | exact decide_eq_false (by omega) | exact beq_eq_false_iff_ne.2 (by omega) | exact bne_eq_false_iff_eq.2 (by omega))<|WOL.nil<|WL.no rfl<|WL.skip ?_
 rw [show (L.length:Int) - W=((L.length - W:Nat):Int) by omega]
 have hmW:L.length - W+W=L.length:=by omega
 generalize L.length - W=m at *
 refine keep [(2,_),(3,_),(4,_),(6,_),(8,_)] ⟨rfl,rfl,rfl,rfl,rfl,trivial⟩ ?_
 refine WL.sr<|WOL.ld rfl (load_row tp1117 A2 rfl (Nat.le_of_ble_eq_true rfl))<|WOL.fa rfl (fa_of fo1117_0)<|WOL.ld rfl (load_one tp3 A2 rfl)<|WOL.mv rfl<|WOL.sub (m:=n) (n:=c) rfl rfl (by omega) (by omega)<|WOL.mv rfl<|WOL.al tp1194 fun h4 N4=>WOL.al tp1194 fun h5 N5=>?_
 have q4:=N4.next
 have q5:=N5.next
 have X5:=(X3.trans N4.hx).trans N5.hx
 refine WOL.lq1 [h4.next,h3.next,h.next] rfl rfl rfl fun M hM=>((k1177 H ((r.hx X5).relock M) (by omega) t1 i1 ((F0 X5).held hM (fun b hb=>by simp at hb;omega))).mono ?_)
 rintro v h6 ⟨X6,p1,p2,rfl,a1,a2,R1⟩
 replace X6:=X6.relock
 replace R1:RowA (h6.withLock h5.lock) p1 p2 L (knownL S L.length):=⟨R1.v.relock _,R1.k.relock _,R1.e,R1.n⟩
 replace a1:h5.next≤p1:=a1
 replace a2:h5.next≤p2:=a2
 generalize h6.withLock h5.lock=h6 at *
 have Y6:=X5.trans X6
 have q6:=X6.next
 have l11:=R1.v.lt
 have l12:=R1.k.lt
 refine WOL.lq2 [h4.next,h3.next] rfl rfl rfl rfl fun M hM=>((k1178 (h:=h6.withLock M) (n:=n - c) (m:=m) H (by omega) ((F0 Y6).held hM (fun b hb=>by simp at hb;omega))).mono ?_)
 rintro v h7 ⟨X7,bv,bk,rfl,a3,a4,R2⟩
 replace X7:=X7.relock
 replace R2:RowA (h7.withLock h6.lock) bv bk (List.replicate m 0) (List.replicate m false):=⟨R2.v.relock _,R2.k.relock _,R2.e,R2.n⟩
 replace a3:h6.next≤bv:=a3
 replace a4:h6.next≤bk:=a4
 generalize h7.withLock h6.lock=h7 at *
 have Y7:=Y6.trans X7
 have q7:=X7.next
 have l21:=R2.v.lt
 have l22:=R2.k.lt
 have Z:=X6.trans X7
 refine WOL.sto (vs:=[zi n,slA p1 L.length,.slice none 0 0,slA p2 L.length]) rfl rfl tp1194 ((N4.at_.hx N5.hx).hx Z) rfl rfl (Nat.le_of_ble_eq_true rfl) rfl (f.hx Y7) (by omega) fun h8 P8=>?_
 have q8:=P8.next
 have Y8:HX h h8:=P8.hx _ Y7 (by omega)
 refine WOL.sto (vs:=[zi (n - c),slA bv m,.slice none 0 0,slA bk m]) rfl rfl tp1194 (P8.oth _ _ (by omega) (N5.at_.hx Z)) rfl rfl (Nat.le_of_ble_eq_true rfl) rfl (f.hx Y8) (by omega) fun h9 P9=>WOL.nil<|keep [(3,_),(4,_),(9,_),(10,_)] ⟨rfl,rfl,rfl,rfl,trivial⟩ ?_
 have q9:=P9.next
 have Y9:HX h h9:=P9.hx _ Y8 (by omega)
 have O9:∀ b y,b≠h3.next→b≠h4.next→At h7 b y→At h9 b y:=fun b y e1 e2 a=>P9.oth _ _ e2 (P8.oth _ _ e1 a)
 have B9:=P9.oth _ _ (by omega) P8.at_
 have B10:=P9.at_
 have B4:=O9 _ _ (by omega) (by omega) (((A4.hx N4.hx).hx N5.hx).hx Z)
 have B3:=O9 _ _ (by omega) (by omega) (((A3.hx N4.hx).hx N5.hx).hx Z)
 have C1:RowA h9 p1 p2 L (knownL S L.length):=⟨O9 _ _ (by omega) (by omega) (R1.v.hx X7),O9 _ _ (by omega) (by omega) (R1.k.hx X7),R1.e,R1.n⟩
 have C2:RowA h9 bv bk (List.replicate m 0) (List.replicate m false):=⟨O9 _ _ (by omega) (by omega) R2.v,O9 _ _ (by omega) (by omega) R2.k,R2.e,R2.n⟩
 have lb4:=B4.lt
 have lb3:=B3.lt
 refine WL.seq<|WL.sr<|WOL.fa rfl (fa_of fo1194_0)<|WOL.ld rfl (load_row tp1117 B10 (l:=[zi (n - c),slA bv m,.slice none 0 0]) rfl (Nat.le_of_ble_eq_true rfl))<|WOL.cl1 rfl rfl ((k1179 H h9).mono ?_)
 rintro v h10 ⟨cc,rfl,X10,Ac,ac⟩
 have q10:=X10.next
 have lc:=Ac.lt
 have Y10:=Y9.trans X10
 replace B3:=B3.hx X10;replace B4:=B4.hx X10;replace B9:=B9.hx X10;replace B10:=B10.hx X10;replace C1:=C1.hx X10;replace C2:=C2.hx X10
 refine WOL.nil<|keep [(3,_),(4,_),(9,_),(10,_),(45,_)] ⟨rfl,rfl,rfl,rfl,rfl,trivial⟩ ?_
 rw [← upTo_zero (C:=valC (tapC L S T m)),← upTo_zero (C:=(tapC L S T m).map fun c=>c.2)] at C2
 have lC:(tapC L S T m).length=m:=tapC_len
 refine WL.block<|WL.range rfl (H.fn 228 f1224 rfl rfl) (y1224 (v1:=slA bv m) (v2:=.slice none 0 0) H nc (by omega) (m:=m) (by omega)) (fun j g=>HX h g∧h10.next≤g.next∧At g h1.next (.cells [.slice b3 (tapD c T).length k3] true true 226)∧At g h2.next (.cells [zi 0,.slice none 0 0,.slice none 0 0] true true 121)∧At g h3.next (.cells [zi n,slA p1 L.length,.slice none 0 0,slA p2 L.length] true true 277)∧At g h4.next (.cells [zi (n - c),slA bv m,.slice none 0 0,slA bk m] true true 277)∧RowA g p1 p2 L (knownL S L.length)∧RowA g bv bk (upTo 0 (valC (tapC L S T m)) m j) (upTo false ((tapC L S T m).map fun c=>c.2) m j)∧At g cc (.cells [zi (n - c),slA bv m,.slice none 0 0] true true 121)) (fun j g q=>⟨q.2.2.2.2.2.2.2.2,_,upTo_len,by have:=q.2.2.2.2.2.2.2.1.sv;rwa [upTo_len] at this⟩) (fun j g q=>(f.hx q.1).up (by omega)) ?_ ?_ ?_ ?_
 ·rintro j g g' x ⟨x1,x2,x3,x4,x5,x6,x7,x8,x9⟩ P
  have o:∀ b y,b < h10.next→At g b y→At g' b y:=fun b y hb a=>P.oth _ _ (by omega) a
  exact ⟨P.hx _ x1 (by omega),by rw [P.next];exact x2,o _ _ (by omega) x3,o _ _ (by omega) x4,o _ _ (by omega) x5,o _ _ (by omega) x6,⟨o _ _ (by omega) x7.v,o _ _ (by omega) x7.k,x7.e,x7.n⟩,⟨o _ _ (by omega) x8.v,o _ _ (by omega) x8.k,x8.e,x8.n⟩,o _ _ (by omega) x9⟩
 ·rintro g x N
  have:=N.next
  exact ⟨Y10.trans N.hx,by omega,B3.hx N.hx,B4.hx N.hx,B9.hx N.hx,B10.hx N.hx,C1.hx N.hx,C2.hx N.hx,Ac.hx N.hx⟩
 ·rintro j g x hj _ A
  refine WL.reg<|WOL.as rfl<|WOL.nil ?_
  intro r' hr
  refine ⟨rfl,rfl,fun g2 xx ⟨x1,x2,x3,x4,x5,x6,x7,x8,x9⟩ A2=>?_⟩
  refine hr.go ?_
  have hk:=tapB_known (S:=S) (m:=L.length) (i:=j) (T:=T) (fun t ht=>by have:=ts.o t ht;omega)
  refine WL.block<|WL.sr<|WOL.ld rfl (load_row tp1194 x5 rfl (Nat.le_of_ble_eq_true rfl))<|WOL.mv rfl<|WOL.ld rfl (load_one tp1214 x3 rfl)<|WOL.cl3 rfl rfl rfl rfl ((k1226 (n:=n) (i:=j) (p:=n - c+(j:Nat)) H x7 (s.hx x1) (by omega) (fun t ht=>by have:=ts.o t ht;omega) ts.w ts.l lim n0 (by omega) (by omega) c1 c2 (f.on x1)).mono ?_)
  rintro u g3 ⟨rfl,X3⟩
  rw [hk]
  have hV:=tapV_get (L:=L) (S:=S) (T:=T) hj
  have hM:=tapM_get (L:=L) (S:=S) (T:=T) hj
  have xs:=X3.next
  refine WOL.mv rfl<|WOL.ex rfl rfl<|WOL.ex rfl rfl<|WOL.as rfl<|WOL.as rfl<|WOL.nil<|keep [(10,_),(11,_),(12,_),(13,_)] ⟨rfl,rfl,rfl,rfl,trivial⟩ ?_
  cases hb:tapK S j T with
  | false =>
   rw [hb] at hV hM
   refine WL.sr<|WOL.mv rfl<|WOL.nil<|WL.no rfl<|WL.skip fun r k=>⟨rfl,⟨x1.trans X3,by omega,x3.hx X3,x4.hx X3,x5.hx X3,x6.hx X3,x7.hx X3,?_,x9.hx X3⟩,A2.hx X3⟩
   rw [upTo_same hV,upTo_same hM]
   exact x8.hx X3
  | true =>
   rw [hb] at hV hM
   replace hV:(valC (tapC L S T m)).getD j 0=tapN L j T 0:=hV
   have k:=k1181 (n:=n - c) (x:=tapN L j T 0) H (x8.hx X3) (i:=j) (by rw [upTo_len];exact hj) nc (by omega) (by rw [upTo_len];omega) (m:=h.next) (f.hx (x1.trans X3)) (by omega) (by omega)
   rw [upTo_len] at k
   refine WL.sr<|WOL.mv rfl<|WOL.nil<|WL.yes rfl<|WL.reg<|WOL.ld rfl (load_row tp1194 (x6.hx X3) rfl (Nat.le_of_ble_eq_true rfl))<|WOL.mv rfl<|WOL.mv rfl<|WOL.cl3 rfl rfl rfl rfl (k.mono ?_)
   rintro u g5 ⟨z5,ra,o5,n5⟩
   refine WOL.nil fun r k=>⟨rfl,⟨z5 _ (x1.trans X3) (by omega) (by omega),by omega,o5 _ _ (by omega) (by omega) (x3.hx X3),o5 _ _ (by omega) (by omega) (x4.hx X3),o5 _ _ (by omega) (by omega) (x5.hx X3),o5 _ _ (by omega) (by omega) (x6.hx X3),⟨o5 _ _ (by omega) (by omega) (x7.v.hx X3),o5 _ _ (by omega) (by omega) (x7.k.hx X3),x7.e,x7.n⟩,?_,o5 _ _ (by omega) (by omega) (x9.hx X3)⟩,o5 _ _ (by omega) (by omega) (A2.hx X3)⟩
   rw [upTo_set,upTo_set,hV,hM]
   exact ra
 ·rintro g ⟨x1,x2,x3,x4,x5,x6,x7,x8,x9⟩
  rw [upTo_all (by unfold valC;rw [List.length_map];exact lC),upTo_all (by rw [List.length_map];exact lC)] at x8
  have lv:(valC (tapC L S T m)).length=m:=by unfold valC;rw [List.length_map];exact lC
  refine WL.sr<|WOL.ld rfl (load_row tp1194 x6 rfl (Nat.le_of_ble_eq_true rfl)) ?_
  have k:=k1182 (n:=n - c) H x8 (by omega) (f.on x1)
  rw [lv,← bigC_val] at k
  refine WOL.cl1 rfl rfl (k.mono ?_)
  rintro v g1 ⟨X,R⟩
  have xg:=(x1.trans X).next
  have xx:=X.next
  rcases R with ⟨hb,rfl⟩ | ⟨hb,w,rfl,to⟩
  ·refine WOL.ex rfl rfl<|WOL.ex rfl rfl<|WOL.sto (vs:=[zi 0,.slice none 0 0,.slice none 0 0]) rfl rfl tp1117 (x4.hx X) rfl rfl (Nat.le_of_ble_eq_true rfl) rfl (f.hx (x1.trans X)) (by omega) fun i1 M1=>WOL.as rfl<|WOL.nil ?_
   exact WL.ret (WL.endC1 rfl rfl (load_row tp1117 M1.at_ rfl (Nat.le_of_ble_eq_true rfl)) ⟨M1.hx _ (x1.trans X) (by omega),.inr (.inl ⟨rfl,hb,rfl⟩)⟩)
  ·obtain ⟨b2,m2,k2,rfl⟩:=to.form
   refine WOL.ex rfl rfl<|WOL.ex rfl rfl<|WOL.sto (vs:=[zi (n - c),slA bv m,.slice b2 m2 k2]) rfl rfl tp1117 (x4.hx X) rfl rfl (Nat.le_of_ble_eq_true rfl) rfl (f.hx (x1.trans X)) (by omega) fun i1 M1=>WOL.as rfl<|WOL.nil ?_
   refine WL.ret (WL.endC1 rfl rfl (load_row tp1117 M1.at_ rfl (Nat.le_of_ble_eq_true rfl)) ⟨M1.hx _ (x1.trans X) (by omega),.inr (.inr ⟨rfl,hb,bv,_,by rw [lC];rfl,by omega,(to.put M1 (by omega) (by omega)).low (by omega)⟩)⟩)
end
end Go.Tidy
namespace Go.Tidy
open Go Go.Proofs Tab
variable {tp:TProg}
section
variable {h:TH} {l:List Nat} {bo:Option Addr} {n k:Nat}
end
section
variable {h:TH} {K:Regs→TH→Prop} {rest:List TOper} {d:Option Tmp} {ty:TypeId} {i:Nat} {x:Operand} {L:Rg} {v:Value} {m:List Nat}
end
section
variable {hb h g g2 g':TH} {n b o cap c4 c2 c3 nB:Nat} {cur cur':Cu} {s s':ByteArray} {fi fi':Int} {w1 w2 w':Value} {F F':List Nat} {S S':List (Int × Int)}
theorem Put.relock {M:List Nat} {x:TB} {c:Nat} {h1:TH} (p:Put (h.withLock M) h1 c x):Put h (h1.withLock h.lock) c x :=
 ⟨p.at_.relock _,fun z y hz a=>(p.oth z y hz (a.relock M)).relock _,p.next,p.floor,rfl,fun h0 y hb=>by rw [y.lock];exact (p.hx _ (y.locked M) hb).relock⟩
end
end Go.Tidy
namespace Go.Tidy
open Go Go.Proofs Tab
variable {tp:TProg}
section
variable (l:List Nat) (c:Cu)
end
section
variable {h g:TH} {l:List Nat} {b o cap:Nat}
theorem Stm.relock (s:Stm h b o cap l) (M:List Nat):Stm (h.withLock M) b o cap l:=⟨by
 obtain ⟨cc,fix,wr,el,a,r⟩:=s.ex
 exact ⟨cc,fix,wr,el,a.relock M,r⟩,s.cap⟩
end
section
variable {hb h:TH} {l:List Nat} {b o cap c4:Nat} {c:Cu}
end
end Go.Tidy
namespace Go.Tidy
open Go Go.Proofs Tab
variable {tp:TProg}
section
variable {P:Program} {h:TH} {K:Regs→TH→Prop} {rest:List TOper} {d:Option Tmp} {ty:TypeId} {i:Nat} {x y:Operand} {t u:TypeId} {L:Rg} {s s':ByteArray}
end
section
variable (l:List Nat)
end
theorem RunH.relock {h:TH} {v1 v2:Value} {F:List Nat} {S:List (Int × Int)} (r:RunH h v1 v2 F S) (M:List Nat):RunH (h.withLock M) v1 v2 F S:=⟨r.f.relock M,r.s.relock M,r.g.relock M⟩
section
variable {h:TH} {l:List Nat} {b o n cap:Nat} {es L:List Int}
end
end Go.Tidy
namespace Go.Tidy
open Go Go.Proofs Tab
variable {tp:TProg}
theorem bd1128 {a b:Int}:buildT Tryz.prog 117 [(0,zi a),(1,zi b)]=some (.agg #[zi a,zi b]):=by kernel_rfl
def vTn (p q:Nat):List (Nat × Int):=[(0,-(q:Int)),(p,(p:Int)+q),(p+q,-(p:Int))]
def errV (E:Int) (m w:Nat):Int:=if E≠0 then E else cond (decide (m≤w)) 16 0
theorem errV_ok {m w:Nat}:errV 0 m w=cond (decide (m≤w)) 16 0:=by unfold errV;rw [if_neg (by decide)]
theorem errV_no {E:Int} {m w:Nat} (h:E≠0):errV E m w=E:=by unfold errV;rw [if_pos h]
theorem chord_ok {a b:Int} (h:chordE a b=0):1≤a∧a≤32∧1≤b∧b≤32:=by
 have all:=firstNZ_zero h
 have h1:=all (outB a 1 32) (by simp)
 have h2:=all (outB b 1 32) (by simp)
 have o:∀ x:Int,outB x 1 32=0→1≤x∧x≤32:=fun x hx=>by
  unfold outB at hx
  by_cases c1:x < 1
  ·rw [decide_eq_true c1] at hx;cases hx
  ·by_cases c2:32 < x
   ·rw [decide_eq_false c1,decide_eq_true c2] at hx;cases hx
   ·omega
 exact ⟨(o _ h1).1,(o _ h1).2,(o _ h2).1,(o _ h2).2⟩
theorem vTaps {p q:Nat} (hp:1≤p) (hp':p≤32) (hq:1≤q) (hq':q≤32):Taps (vTn p q) (p+q):=⟨⟨_,rfl⟩,⟨_,rfl⟩,fun t ht=>by
 unfold vTn at ht
 simp only [List.mem_cons,List.not_mem_nil,or_false] at ht
 rcases ht with rfl | rfl | rfl
 ·exact Nat.zero_le _
 ·exact Nat.le_add_right _ _
 ·exact Nat.le_refl _,fun t ht=>by
 unfold vTn at ht
 simp only [List.mem_cons,List.not_mem_nil,or_false] at ht
 rcases ht with rfl | rfl | rfl
 ·show -10000≤-(q:Int)∧-(q:Int)≤10000;omega
 ·show -10000≤(p:Int)+q∧(p:Int)+q≤10000;omega
 ·show -10000≤-(p:Int)∧-(p:Int)≤10000;omega,by show 3≤1000;decide⟩
theorem vTapD {p q:Nat}:tapD (-(p:Int)) (vTn p q)=[(-(p:Int),-(q:Int)),(0,(p:Int)+q),((q:Int),-(p:Int))]:=by
 unfold tapD vTn
 simp only [List.map_cons,List.map_nil]
 rw [show ((0:Nat):Int)+-(p:Int)=-(p:Int) by omega,show ((p:Nat):Int)+-(p:Int)=0 by omega,show ((p+q:Nat):Int)+-(p:Int)=q by omega]
section
variable {h:TH} {n a b:Int} {v1 v2:Value} {L:List Int} {S:List (Int × Int)}
set_option maxHeartbeats 2000000 in
set_option maxRecDepth 10000 in
theorem k1125 (H:Has tp) (r:TrcH h v1 v2 L S) (l1:L.length≤900000) (t1:S.length≤900000) (f:Free0 h.next h) :
  CallW Tryz.prog tp (.func (.func 67) #[] #[]) #[.agg #[zi a,zi b],trcV n v1 v2] h fun v h'=>HX h h'∧ProgR (n+a) (errV (firstNZ [chordE a b,traceE n L S]) L.length (a.toNat+b.toNat)) (tapC L S (vTn a.toNat b.toNat) (L.length - (a.toNat+b.toNat))) h.next h' v:=by
 refine CallW.fnL (H.fn 67 f1125 rfl rfl) ?_
 obtain ⟨b1,k1,e1,_⟩:=id r.l
 obtain ⟨b2,k2,e2,_⟩:=id r.s
 subst e1 e2
 refine WL.sr<|WOL.box rfl fun h1 N1=>WOL.box rfl fun h2 N2=>WOL.al tp1117 fun h3 N3=>WOL.as rfl<|WOL.nil<|keep [(2,_),(3,_),(4,_)] ⟨rfl,rfl,rfl,trivial⟩ ?_
 have q1:=N1.next
 have q2:=N2.next
 have q3:=N3.next
 have A2:At h3 h.next (.cells [zi a,zi b] true true 117):=(N1.at_.hx N2.hx).hx N3.hx
 have A3:At h3 h1.next (.cells [zi n,.slice b1 L.length k1,.slice b2 S.length k2] true true 121):=N2.at_.hx N3.hx
 have A4:=N3.at_
 have X3:=(N1.hx.trans N2.hx).trans N3.hx
 refine WL.seq<|WL.sr<|WOL.ld rfl (load_row tp1128 A2 rfl (Nat.le_of_ble_eq_true rfl))<|WOL.ld rfl (load_row tp1117 A3 rfl (Nat.le_of_ble_eq_true rfl)) ?_
 refine WOL.lk1 rfl rfl fun M=>((k1121 H a b _).mono ?_)
 rintro v h4 ⟨rfl,X4⟩
 replace X4:=X4.relock
 generalize h4.withLock h3.lock=h4 at *
 refine WOL.cl1 rfl rfl ((k1123 (n:=n) H (r.hx (X3.trans X4)) (by omega) (by omega) (f.on (X3.trans X4))).mono ?_)
 rintro v h5 ⟨rfl,X5⟩
 refine WOL.bsl rfl u166 tp30 (by decide) (by decide) (by decide) (filled_ints _ _) fun h6 N6=>WOL.cl1 rfl rfl ((k71 H (l:=[_,_]) N6.at_.get (by simp)).mono ?_)
 rintro v h6 ⟨rfl,rfl⟩
 have Z:=(X4.trans X5).trans N6.hx
 have Y:=X3.trans Z
 replace A2:=A2.hx Z;replace A3:=A3.hx Z;replace A4:=A4.hx Z
 have yn:=Y.next
 refine WOL.as rfl<|WOL.nil<|keep [(2,_),(3,_),(4,_),(6,_)] ⟨rfl,rfl,rfl,rfl,trivial⟩ ?_
 generalize hE:firstNZ [chordE a b,traceE n L S]=E
 by_cases e0:E≠0
 ·rw [errV_no e0]
  refine WL.sr<|WOL.mv rfl<|WOL.bt rfl rfl rfl (bne_iff_ne.2 e0)<|WOL.nil<|WL.yes rfl<|WL.sr<|WOL.bd rfl bd1117z<|WOL.mv rfl<|WOL.sto (vs:=[zi 0,.slice none 0 0,.slice none 0 0]) rfl rfl tp1117 A4 rfl rfl (Nat.le_of_ble_eq_true rfl) rfl (f.hx Y) (by omega) fun i1 M1=>WOL.as rfl<|WOL.nil ?_
  exact WL.ret (WL.endC1 rfl rfl (load_row tp1117 M1.at_ rfl (Nat.le_of_ble_eq_true rfl)) ⟨M1.hx _ Y (by omega),.inl ⟨e0,rfl⟩⟩)
 have e0:E=0:=Classical.not_not.1 e0
 subst e0
 have all:=firstNZ_zero hE
 obtain ⟨⟨m1,m2⟩,m3,m4,m5,m6,m7⟩:=trace_ok (all (traceE n L S) (by simp))
 obtain ⟨p1,p2,p3,p4⟩:=chord_ok (all (chordE a b) (by simp))
 obtain ⟨p,rfl⟩:∃ p:Nat,a=p:=⟨a.toNat,by omega⟩
 obtain ⟨q,rfl⟩:∃ q:Nat,b=q:=⟨b.toNat,by omega⟩
 rw [errV_ok,Int.toNat_natCast,Int.toNat_natCast]
 refine WL.sr<|WOL.mv rfl<|WOL.bf rfl rfl rfl rfl<|WOL.nil<|keep [(2,_),(3,_),(4,_),(14,_)] ⟨rfl,rfl,rfl,rfl,trivial⟩<|WL.no rfl<|WL.skip ?_
 refine WL.sr<|WOL.ld rfl (load_row tp1117 A3 rfl (Nat.le_of_ble_eq_true rfl))<|WOL.ld rfl (load_row tp1128 A2 rfl (Nat.le_of_ble_eq_true rfl)) ?_
 refine WOL.lk1 rfl rfl fun M=>((k1194 H (a:=p) (b:=q) (by omega) (by omega) (by omega) (by omega) _).mono ?_)
 rintro v g1 ⟨Xg,c,rfl,hc,Ac⟩
 replace Xg:=Xg.relock
 replace Ac:=Ac.relock h6.lock
 generalize g1.withLock h6.lock=g1 at *
 rw [← vTapD] at Ac
 have Yg:=Y.trans Xg
 refine WOL.cl2 rfl rfl rfl ((k1193 (n:=n) (W:=p+q) (c:=-(p:Int)) H (r.hx Yg) (SlL.own eS Ac rfl) (vTaps (by omega) (by omega) (by omega) (by omega)) m3 m1 m2 (by omega) (by omega) (by omega) l1 (by omega) (holeE_in m4) (by omega) (f.on Yg)).mono ?_)
 rintro v g2 ⟨X2,R⟩
 rw [Int.sub_neg] at R
 have x2:=(Yg.trans X2).next
 have x3:=Yg.next
 have l4:=(A4.hx Xg).lt
 rcases R with ⟨heT,rfl⟩ | ⟨heT,hbT,rfl⟩ | ⟨heT,hbT,bvT,wT,rfl,hvT,toT⟩
 ·exact WOL.ex rfl rfl<|WOL.ex rfl rfl<|WOL.sto (vs:=[zi 0,.slice none 0 0,.slice none 0 0]) rfl rfl tp1117 ((A4.hx Xg).hx X2) rfl rfl (Nat.le_of_ble_eq_true rfl) rfl (f.hx (Yg.trans X2)) (by omega) fun iT MT=>WOL.as rfl<|WOL.nil<|WL.ret (WL.endC1 rfl rfl (load_row tp1117 MT.at_ rfl (Nat.le_of_ble_eq_true rfl)) ⟨MT.hx _ (Yg.trans X2) (by omega),.inl ⟨heT,rfl⟩⟩)
 ·exact WOL.ex rfl rfl<|WOL.ex rfl rfl<|WOL.sto (vs:=[zi 0,.slice none 0 0,.slice none 0 0]) rfl rfl tp1117 ((A4.hx Xg).hx X2) rfl rfl (Nat.le_of_ble_eq_true rfl) rfl (f.hx (Yg.trans X2)) (by omega) fun iT MT=>WOL.as rfl<|WOL.nil<|WL.ret (WL.endC1 rfl rfl (load_row tp1117 MT.at_ rfl (Nat.le_of_ble_eq_true rfl)) ⟨MT.hx _ (Yg.trans X2) (by omega),.inr (.inl ⟨heT,hbT,rfl⟩)⟩)
 ·obtain ⟨b2T,m2T,k2T,rfl⟩:=toT.form
  exact WOL.ex rfl rfl<|WOL.ex rfl rfl<|WOL.sto (vs:=[zi _,slA bvT _,.slice b2T m2T k2T]) rfl rfl tp1117 ((A4.hx Xg).hx X2) rfl rfl (Nat.le_of_ble_eq_true rfl) rfl (f.hx (Yg.trans X2)) (by omega) fun iT MT=>WOL.as rfl<|WOL.nil<|WL.ret (WL.endC1 rfl rfl (load_row tp1117 MT.at_ rfl (Nat.le_of_ble_eq_true rfl)) ⟨MT.hx _ (Yg.trans X2) (by omega),.inr (.inr ⟨heT,hbT,bvT,_,rfl,by omega,(toT.put MT (by omega) (by omega)).low (by omega)⟩)⟩)
end
end Go.Tidy
namespace Go.Tidy
open Go Go.Proofs Tab
variable {tp:TProg}
def wgt (p q i:Nat):Int:=if i+1≤p then (q:Int)*((i:Int)+1) else (p:Int)*((p:Int)+q - 1 - i)
def wTp (p q st:Nat):List (Nat × Int):=(List.range (p+q - 1)).map fun i=>(i*st,wgt p q i)
theorem wTp_len {p q st:Nat}:(wTp p q st).length=p+q - 1:=by unfold wTp;rw [List.length_map,List.length_range]
theorem wTp_get {p q st i:Nat} (h:i < p+q - 1):(wTp p q st)[i]?=some (i*st,wgt p q i):=by
 unfold wTp
 rw [tbl_get,if_pos h]
theorem wgt_lim {p q i:Nat} (hp:p≤32) (hq:q≤32) (hi:i < p+q):0≤wgt p q i∧wgt p q i≤4096:=by
 unfold wgt
 split
 ·have e:(q:Int)*((i:Int)+1)=((q*(i+1):Nat):Int):=rfl
  have:=Nat.mul_le_mul hq (show i+1≤32 by omega)
  rw [e];omega
 ·obtain ⟨k,hk⟩:∃ k:Nat,(p:Int)+q - 1 - i=k:=⟨p+q - 1 - i,by omega⟩
  rw [hk]
  have e:(p:Int)*(k:Int)=((p*k:Nat):Int):=rfl
  have:=Nat.mul_le_mul hp (show k≤64 by omega)
  rw [e];omega
theorem wTaps {p q st:Nat} (hp:1≤p) (hp':p≤32) (hq:1≤q) (hq':q≤32):Taps (wTp p q st) ((p+q - 2)*st):=⟨⟨_,by rw [wTp_get (by omega),Nat.zero_mul]⟩,⟨_,by rw [wTp_len,wTp_get (by omega)];rfl⟩,fun t ht=>by
 obtain ⟨i,hi,rfl⟩:=List.mem_map.1 ht
 have:=List.mem_range.1 hi
 exact Nat.mul_le_mul_right _ (by omega),fun t ht=>by
 obtain ⟨i,hi,rfl⟩:=List.mem_map.1 ht
 have:=List.mem_range.1 hi
 have:=wgt_lim (i:=i) hp' hq' (by omega)
 show -10000≤wgt p q i∧wgt p q i≤10000
 omega,by rw [wTp_len];omega⟩
section
variable {h:TH} {n a b:Int} {v1 v2:Value} {L:List Int} {S:List (Int × Int)} {p q st:Nat}
set_option maxHeartbeats 2000000 in
set_option maxRecDepth 10000 in
theorem k1198 (H:Has tp) (hp:1≤p) (hp':p≤32) (hq:1≤q) (hq':q≤32) (hst:st≤32) (f:Free0 h.next h) :
  CallW Tryz.prog tp (.func (.func 190) #[] #[]) #[.agg #[zi (p:Nat),zi (q:Nat)],zi (st:Nat)] h fun v h'=>HX h h'∧∃ c,v=slA c (p+q - 1)∧h.next≤c∧At h' c (.cells (cat encS (tapD ((1 - (p:Int))*st) (wTp p q st))) true true 275):=by
 refine CallW.fnL (H.fn 190 f1198 rfl rfl) ?_
 refine WL.sr<|WOL.box rfl fun h1 N1=>WOL.as rfl<|WOL.nil<|keep [(1,_),(2,_)] ⟨rfl,rfl,trivial⟩ ?_
 have q1:=N1.next
 have A2:At h1 h.next (.cells [zi (p:Nat),zi (q:Nat)] true true 117):=N1.at_
 refine WL.sr<|WOL.ld rfl (load_row tp1128 A2 rfl (Nat.le_of_ble_eq_true rfl))<|WOL.cl1 rfl rfl ((k1199 H (a:=p) (b:=q) (by omega) (by omega) (by omega) (by omega) _).mono ?_)
 rintro v h2 ⟨rfl,X2⟩
 have Y2:=N1.hx.trans X2
 replace A2:=A2.hx X2
 have y2:=Y2.next
 have x2:=X2.next
 refine WOL.sub (m:=(p:Int)+q) (n:=1) rfl rfl (by omega) (by omega) ?_
 rw [show (p:Int)+q - 1=((p+q - 1:Nat):Int) by omega]
 have lD:(tapD ((1 - (p:Int))*st) (wTp p q st)).length=p+q - 1:=by unfold tapD;rw [List.length_map,wTp_len]
 have hD:∀ i,i < p+q - 1→(tapD ((1 - (p:Int))*st) (wTp p q st))[i]?=some (((i:Int)+1 - p)*st,wgt p q i):=fun i hi=>by
  unfold tapD
  rw [List.getElem?_map,wTp_get hi]
  show some (((i*st:Nat):Int)+(1 - (p:Int))*st,wgt p q i)=_
  rw [show (i:Int)+1 - p=i+(1 - (p:Int)) by omega,Int.add_mul];rfl
 generalize tapD ((1 - (p:Int))*st) (wTp p q st)=D at *
 refine WOL.ms (m:=p+q - 1) rfl rfl u1214 tp1242 (by decide) (by omega) fun h3 N3=>WOL.as rfl<|WOL.nil<|keep [(1,_),(2,_),(5,_)] ⟨rfl,rfl,rfl,trivial⟩ ?_
 have q3:=N3.next
 have W0:=N3.at_
 rw [show ([zi 0,zi 0]:List Value)=encS (0,0) from rfl,Enc.rep,← lD,← fill_zero D] at W0
 rw [← lD]
 have Y3:=Y2.trans N3.hx
 replace A2:=A2.hx N3.hx
 refine WL.seq<|WL.sr<|WOL.mv rfl<|WOL.len (m:=D.length) rfl (SlC.own (by rw [eS.cat_len,fill_len _ _ _ (by omega)]) W0) u1214<|WOL.mv rfl<|WOL.nil<|keep [(1,_),(2,_),(5,_),(14,_),(15,_)] ⟨rfl,rfl,rfl,rfl,rfl,trivial⟩ ?_
 refine WL.upto (α:=Unit) D.length (fun j _ g=>HX h g∧At g h.next (.cells [zi (p:Nat),zi (q:Nat)] true true 117)∧At g h2.next (.cells (cat encS (D.take j ++ List.replicate (D.length - j) (0,0))) true true 275)) (fun _ _=>[(1,zi (st:Nat)),(2,ptr h.next),(5,slA h2.next D.length),(14,zi (D.length:Nat))]) () rfl rfl (by omega) ⟨Y3,A2,W0⟩ ⟨rfl,rfl,rfl,rfl,rfl,trivial⟩ (fun _ _=>rfl) (fun _ _ _=>⟨rfl,rfl,rfl,rfl,rfl,trivial⟩) (fun _ _ _=>⟨rfl,rfl,rfl,rfl,rfl,trivial⟩) ?_ ?_
 ·rintro i _ g hi ⟨X,A,Wd⟩
  have hi':i < p+q - 1:=by omega
  have hw:=wgt_lim (i:=i) hp' hq' (by omega)
  have hDi:=hD i hi'
  have k1:-64≤(i:Int)+1 - p∧(i:Int)+1 - p≤64:=by omega
  refine WL.sr<|WOL.mv rfl<|WOL.as rfl<|WOL.nil<|keep [(1,_),(2,_),(5,_),(6,_),(14,_),(15,_)] ⟨rfl,rfl,rfl,rfl,rfl,rfl,trivial⟩ ?_
  refine WL.sr<|WOL.mv rfl<|WOL.add (m:=(i:Nat)) (n:=1) rfl rfl (by omega) (by omega)<|WOL.fa rfl (fa_of fo1128_0)<|WOL.ld rfl (load_one tp3 A rfl)<|WOL.sub (m:=(i:Int)+1) (n:=(p:Int)) rfl rfl (by omega) (by omega)<|WOL.as rfl<|WOL.nil<|keep [(1,_),(2,_),(5,_),(6,_),(7,_),(14,_),(15,_)] ⟨rfl,rfl,rfl,rfl,rfl,rfl,rfl,trivial⟩ ?_
  obtain ⟨c1,c2⟩:=mul_lim (w:=(p:Int)) (x:=(q:Int) - ((i:Int)+1 - p)) (by omega) (by omega) (by omega) (by omega)
  obtain ⟨c3,c4⟩:=mul_lim (w:=(q:Int)) (x:=(p:Int)+((i:Int)+1 - p)) (by omega) (by omega) (by omega) (by omega)
  obtain ⟨c5,c6⟩:=mul_lim (w:=(i:Int)+1 - p) (x:=(st:Int)) (by omega) (by omega) (by omega) (by omega)
  refine WL.sr<|WOL.fa rfl (fa_of fo1128_0)<|WOL.ld rfl (load_one tp3 A rfl)<|WOL.fa rfl (fa_of fo1128_1)<|WOL.ld rfl (load_one tp3 A rfl)<|WOL.mv rfl<|WOL.sub (m:=(q:Int)) (n:=(i:Int)+1 - p) rfl rfl (by omega) (by omega)<|WOL.mul rfl rfl (Int.le_trans (by decide) c1) (Int.le_trans c2 (by decide))<|WOL.as rfl<|WOL.nil<|keep [(1,_),(2,_),(5,_),(6,_),(7,_),(8,_),(14,_),(15,_)] ⟨rfl,rfl,rfl,rfl,rfl,rfl,rfl,rfl,trivial⟩ ?_
  have fin:∀ x,x=wgt p q i→∀ y,Kn [(1,zi (st:Nat)),(2,ptr h.next),(5,slA h2.next D.length),(6,zi (i:Nat)),(7,zi ((i:Int)+1 - p)),(8,zi x),(14,zi (D.length:Nat)),(15,zi (i:Nat))] y→W Tryz.prog tp false (.reg r1198_9) y g (Next 1 0 15 i ((fun j _ g=>HX h g∧At g h.next (.cells [zi (p:Nat),zi (q:Nat)] true true 117)∧At g h2.next (.cells (cat encS (D.take j ++ List.replicate (D.length - j) (0,0))) true true 275)) (i+1)) ((fun _ (_:Unit)=>[(1,zi (st:Nat)),(2,ptr h.next),(5,slA h2.next D.length),(14,zi (D.length:Nat))]) (i+1)) (andThen (fun a h'=>W Tryz.prog tp false (.seq (.reg r1198_11) .ret) a h' (Fin Tryz.prog [.tmp 4] fun v h'=>HX h h'∧∃ c,v=slA c D.length∧h.next≤c∧At h' c (.cells (cat encS D) true true 275))) (Fin Tryz.prog [.tmp 4] fun v h'=>HX h h'∧∃ c,v=slA c D.length∧h.next≤c∧At h' c (.cells (cat encS D) true true 275)))):=by
   rintro x rfl
   refine WL.reg<|WOL.mv rfl<|WOL.mv rfl<|WOL.mv rfl<|WOL.mv rfl<|WOL.mul rfl rfl (Int.le_trans (by decide) c5) (Int.le_trans c6 (by decide))<|WOL.mv rfl<|WOL.bd rfl bd1242<|WOL.ix rfl rfl (indexAddr_tp (j:=i) u1214 tp1242 hi) ?_
   refine WOL.sto (vs:=encS (((i:Int)+1 - p)*st,wgt p q i)) rfl rfl tp1242 Wd rfl rfl (by rw [eS.cat_len,fill_len _ _ _ (by omega)];omega) rfl (f.hx X) (by omega) fun h5 P5=>WOL.nil fun y k=>⟨(),⟨P5.hx _ X (by omega),P5.oth _ _ (by omega) A,?_⟩,k.sub ⟨rfl,rfl,rfl,rfl,rfl,trivial⟩⟩
   have:=P5.at_
   rw [Nat.zero_add,eS.set (by rw [fill_len _ _ _ (by omega)];omega),show (((i:Int)+1 - p)*st,wgt p q i)=D[i] from (Option.some.inj ((List.getElem?_eq_getElem hi).symm.trans hDi)).symm,fill_set D _ i hi] at this
   exact this
  by_cases hk:i+1≤p
  ·refine WL.seq<|WL.sr<|WOL.mv rfl<|WOL.bt rfl rfl rfl (by first | exact decide_eq_true (by omega) | exact beq_iff_eq.2 (by omega) | exact bne_iff_ne.2 (by omega))<|WOL.nil<|WL.yes rfl<|WL.reg<|WOL.fa rfl (fa_of fo1128_1)<|WOL.ld rfl (load_one tp3 A rfl)<|WOL.fa rfl (fa_of fo1128_0)<|WOL.ld rfl (load_one tp3 A rfl)<|WOL.mv rfl<|WOL.add (m:=(p:Int)) (n:=(i:Int)+1 - p) rfl rfl (by omega) (by omega)<|WOL.mul rfl rfl (Int.le_trans (by decide) c3) (Int.le_trans c4 (by decide))<|WOL.as rfl<|WOL.nil ?_
   refine kto (fin _ ?_) ⟨rfl,rfl,rfl,rfl,rfl,rfl,rfl,rfl,trivial⟩
   unfold wgt
   rw [if_pos hk,show (p:Int)+((i:Int)+1 - p)=(i:Int)+1 by omega]
  ·refine WL.seq<|WL.sr<|WOL.mv rfl<|WOL.bf rfl rfl rfl (by first | exact decide_eq_false (by omega) | exact beq_eq_false_iff_ne.2 (by omega) | exact bne_eq_false_iff_eq.2 (by omega))<|WOL.nil<|WL.no rfl<|WL.skip ?_
   refine kto (fin _ ?_) ⟨rfl,rfl,rfl,rfl,rfl,rfl,rfl,rfl,trivial⟩
   unfold wgt
   rw [if_neg hk,show (q:Int) - ((i:Int)+1 - p)=(p:Int)+q - 1 - i by omega]
 ·rintro _ g ⟨X,A,Wd⟩
  rw [fill_all] at Wd
  exact WL.sr<|WOL.mv rfl<|WOL.as rfl<|WOL.nil<|WL.ret (WL.end_ rfl ⟨X,_,rfl,by omega,Wd⟩)
end
end Go.Tidy
namespace Go.Tidy
open Go Go.Proofs Tab
variable {tp:TProg}
theorem k11t (A:Awk tp) (h:TH):CallW Tryz.prog tp (.func (.func 58) #[] #[]) #[] h fun v h'=>v=.bool true∧h'=h:=by
 obtain ⟨e,e1,e2⟩:=A.e
 exact CallW.ext A.no e1 rfl e2 rfl ⟨rfl,rfl⟩
theorem IsInts.keep {g g':TH} {y:Value} {L:List Int} (i:IsInts g y L) (k:∀ b x,bl y=some b→At g b x→At g' b x):IsInts g' y L:=by
 rcases i with i | ⟨b,c,fix,wr,el,i1,i2,i3⟩
 ·exact .inl i
 ·subst i1
  have:=k b _ rfl ⟨i3,i2⟩
  exact .inr ⟨b,c,fix,wr,el,rfl,this.lt,this.get⟩
def CelA (ty:TypeId) (n:Int) (o:Int × List Int × List (Int × Int)) (g:TH) (c:Nat):Prop:=∃ z b1 m1 k1 b2 m2 k2,At g c (.cells [zi z,.slice b1 m1 k1,.slice b2 m2 k2] true true ty)∧IsInts g (.slice b1 m1 k1) o.2.1∧SlL encS 2 g (.slice b2 m2 k2) o.2.2∧((o.1≠0∧z=0∧o.2.1=[]∧o.2.2=[])∨(o.1=0∧z=n))
theorem CelA.hx {ty:TypeId} {n:Int} {o:Int × List Int × List (Int × Int)} {g g':TH} {c:Nat} (q:CelA ty n o g c) (x:HX g g'):CelA ty n o g' c:=by
 obtain ⟨z,b1,m1,k1,b2,m2,k2,A,i,s,e⟩:=q
 exact ⟨z,b1,m1,k1,b2,m2,k2,A.hx x,i.hx x,s.hx x,e⟩
section
variable {h h0:TH} {a b n1 n2 m1 m2 e1:Int} {v1 v2 w1 w2:Value} {L1:List Int} {S1:List (Int × Int)} {o1 o2:Int × List Int × List (Int × Int)} {c3 c4 c7 c9 c14 c15:Nat}
end
end Go.Tidy
namespace Go.Tidy
open Go Go.Proofs Tab
theorem args3 {P:Program} {h:TH} {m:Nat} {t0 t1 t2:TypeId} {us:List Value} (ha:Args P h m [t0,t1,t2] us):∃ x0 x1 x2,us=[x0,x1,x2]∧(∃ ps,Ty P h m t0 ps∧x0=valOf P t0 ps)∧(∃ ps,Ty P h m t1 ps∧x1=valOf P t1 ps)∧∃ ps,Ty P h m t2 ps∧x2=valOf P t2 ps:=by
 match us,ha with
 | [x0,x1,x2],⟨a0,a1,a2,_⟩=>exact ⟨x0,x1,x2,rfl,a0,a1,a2⟩
end Go.Tidy
namespace Go.Tidy
open Go Go.Proofs Tab
variable {tp:TProg}
theorem CelA.err {n e:Int} {g:TH} {c:Nat} {ty:TypeId} (h:e≠0) (A:At g c (.cells [zi 0,.slice none 0 0,.slice none 0 0] true true ty)):CelA ty n (e,[],[]) g c:=⟨0,_,_,_,_,_,_,A,.inl ⟨rfl,rfl⟩,SlL.nil,.inl ⟨h,rfl,rfl,rfl⟩⟩
theorem CelA.keep {ty:TypeId} {n:Int} {o:Int × List Int × List (Int × Int)} {g g':TH} {c:Nat} (q:CelA ty n o g c) (k:∀ b x,At g b x→At g' b x):CelA ty n o g' c:=by
 obtain ⟨z,b1,m1,k1,b2,m2,k2,A,i,s,e⟩:=q
 exact ⟨z,b1,m1,k1,b2,m2,k2,k _ _ A,i.keep fun b x _ a=>k _ _ a,slC_keep s fun b x _ a=>k _ _ a,e⟩
section
variable {h h0:TH} {a b n m1 m2 E1:Int} {v1 v2 w9 w16:Value} {L:List Int} {S:List (Int × Int)} {l3:List Int} {o1 o2:Int × List Int × List (Int × Int)} {c2 c3 c5 c7 c14 c15 p q:Nat}
end
end Go.Tidy
namespace Go.Tidy
open Go Go.Proofs Tab
variable {tp:TProg}
theorem out_mm {x l m:Int} (h:outB x l m=0):l≤x∧x≤m:=by
 unfold outB at h
 by_cases c1:x < l
 ·rw [decide_eq_true c1] at h;cases h
 ·by_cases c2:m < x
  ·rw [decide_eq_false c1,decide_eq_true c2] at h;cases h
  ·omega
theorem arm_mul {p st:Nat} (hp:1≤p):(1 - (p:Int))*(st:Int)=-(((p - 1)*st:Nat):Int):=by
 rw [show 1 - (p:Int)=-((p - 1:Nat):Int) by omega,Int.neg_mul];rfl
section
variable {h:TH} {n a b s:Int} {v1 v2:Value} {L:List Int} {S:List (Int × Int)} {p q st:Nat}
set_option maxHeartbeats 2000000 in
set_option maxRecDepth 10000 in
theorem k1132 (H:Has tp) (r:TrcH h v1 v2 L S) (l1:L.length≤900000) (t1:S.length≤900000) (f:Free0 h.next h) :
  CallW Tryz.prog tp (.func (.func 142) #[] #[]) #[.agg #[zi a,zi b],zi s,trcV n v1 v2] h fun v h'=>HX h h'∧ProgR (n - (1 - a)*s) (errV (firstNZ [chordE a b,outB s 1 32,traceE n L S]) L.length ((a.toNat+b.toNat - 2)*s.toNat)) (tapC L S (wTp a.toNat b.toNat s.toNat) (L.length - (a.toNat+b.toNat - 2)*s.toNat)) h.next h' v:=by
 refine CallW.fnL (H.fn 142 f1132 rfl rfl) ?_
 obtain ⟨b1,k1,e1,_⟩:=id r.l
 obtain ⟨b2,k2,e2,_⟩:=id r.s
 subst e1 e2
 refine WL.sr<|WOL.box rfl fun h1 N1=>WOL.box rfl fun h2 N2=>WOL.al tp1117 fun h3 N3=>WOL.as rfl<|WOL.nil<|keep [(1,_),(3,_),(5,_),(6,_)] ⟨rfl,rfl,rfl,rfl,trivial⟩ ?_
 have q1:=N1.next
 have q2:=N2.next
 have q3:=N3.next
 have A3:At h3 h.next (.cells [zi a,zi b] true true 117):=(N1.at_.hx N2.hx).hx N3.hx
 have A5:At h3 h1.next (.cells [zi n,.slice b1 L.length k1,.slice b2 S.length k2] true true 121):=N2.at_.hx N3.hx
 have A6:=N3.at_
 have X3:=(N1.hx.trans N2.hx).trans N3.hx
 refine WL.sr<|WOL.ld rfl (load_row tp1128 A3 rfl (Nat.le_of_ble_eq_true rfl))<|WOL.mv rfl<|WOL.ld rfl (load_row tp1117 A5 rfl (Nat.le_of_ble_eq_true rfl)) ?_
 refine WOL.lk1 rfl rfl fun M=>((k1121 H a b _).mono ?_)
 rintro v h4 ⟨rfl,X4⟩
 replace X4:=X4.relock
 generalize h4.withLock h3.lock=h4 at *
 refine WOL.lk3 rfl rfl rfl rfl fun M=>((k72 H s 1 32 _).mono ?_)
 rintro v h5 ⟨rfl,rfl⟩
 rw [TH.relock]
 refine WOL.cl1 rfl rfl ((k1123 (n:=n) H (r.hx (X3.trans X4)) (by omega) (by omega) (f.on (X3.trans X4))).mono ?_)
 rintro v h5 ⟨rfl,X5⟩
 refine WOL.bsl rfl u166 tp30 (by decide) (by decide) (by decide) (filled_ints3 _ _ _) fun h6 N6=>WOL.cl1 rfl rfl ((k71 H (l:=[_,_,_]) N6.at_.get (by simp)).mono ?_)
 rintro v h6 ⟨rfl,rfl⟩
 have Z:=(X4.trans X5).trans N6.hx
 have Y:=X3.trans Z
 replace A3:=A3.hx Z;replace A5:=A5.hx Z;replace A6:=A6.hx Z
 have yn:=Y.next
 refine WOL.as rfl<|WOL.nil<|keep [(1,_),(3,_),(5,_),(6,_),(8,_)] ⟨rfl,rfl,rfl,rfl,rfl,trivial⟩ ?_
 generalize hE:firstNZ [chordE a b,outB s 1 32,traceE n L S]=E
 by_cases e0:E≠0
 ·rw [errV_no e0]
  refine WL.seq<|WL.sr<|WOL.mv rfl<|WOL.bt rfl rfl rfl (bne_iff_ne.2 e0)<|WOL.nil<|WL.yes rfl<|WL.sr<|WOL.bd rfl bd1117z<|WOL.mv rfl<|WOL.sto (vs:=[zi 0,.slice none 0 0,.slice none 0 0]) rfl rfl tp1117 A6 rfl rfl (Nat.le_of_ble_eq_true rfl) rfl (f.hx Y) (by omega) fun i1 M1=>WOL.as rfl<|WOL.nil ?_
  exact WL.ret (WL.endC1 rfl rfl (load_row tp1117 M1.at_ rfl (Nat.le_of_ble_eq_true rfl)) ⟨M1.hx _ Y (by omega),.inl ⟨e0,rfl⟩⟩)
 have e0:E=0:=Classical.not_not.1 e0
 subst e0
 have all:=firstNZ_zero hE
 obtain ⟨⟨m1,m2⟩,m3,m4,m5,m6,m7⟩:=trace_ok (all (traceE n L S) (by simp))
 obtain ⟨p1,p2,p3,p4⟩:=chord_ok (all (chordE a b) (by simp))
 obtain ⟨p5,p6⟩:=out_mm (all (outB s 1 32) (by simp))
 obtain ⟨p,rfl⟩:∃ p:Nat,a=p:=⟨a.toNat,by omega⟩
 obtain ⟨q,rfl⟩:∃ q:Nat,b=q:=⟨b.toNat,by omega⟩
 obtain ⟨st,rfl⟩:∃ st:Nat,s=st:=⟨s.toNat,by omega⟩
 rw [errV_ok,Int.toNat_natCast,Int.toNat_natCast,Int.toNat_natCast]
 have mp:=Nat.mul_le_mul (show p - 1≤31 by omega) (show st≤32 by omega)
 have mw:=Nat.mul_le_mul (show p+q - 2≤62 by omega) (show st≤32 by omega)
 have ea:=arm_mul (p:=p) (st:=st) (by omega)
 refine WL.seq<|WL.sr<|WOL.mv rfl<|WOL.bf rfl rfl rfl rfl<|WOL.nil<|keep [(1,_),(3,_),(5,_),(6,_),(18,_)] ⟨rfl,rfl,rfl,rfl,rfl,trivial⟩<|WL.no rfl<|WL.skip ?_
 refine WL.sr<|WOL.ld rfl (load_row tp1117 A5 rfl (Nat.le_of_ble_eq_true rfl))<|WOL.ld rfl (load_row tp1128 A3 rfl (Nat.le_of_ble_eq_true rfl))<|WOL.mv rfl ?_
 have l5:=A5.lt
 refine WOL.lq2 [h1.next] rfl rfl rfl rfl fun M hM=>((k1198 (h:=h6.withLock M) (p:=p) (q:=q) (st:=st) H (by omega) (by omega) (by omega) (by omega) (by omega) ((f.on Y).held hM (fun b hb=>by simp at hb;omega))).mono ?_)
 rintro v g1 ⟨Xg,c,rfl,hc,Ac⟩
 replace Xg:=Xg.relock
 replace Ac:=Ac.relock h6.lock
 generalize g1.withLock h6.lock=g1 at *
 have Yg:=Y.trans Xg
 have lD:(tapD ((1 - (p:Int))*st) (wTp p q st)).length=p+q - 1:=by unfold tapD;rw [List.length_map,wTp_len]
 refine WOL.cl2 rfl rfl rfl ((k1193 (n:=n) (W:=(p+q - 2)*st) (c:=(1 - (p:Int))*st) H (r.hx Yg) (SlL.own eS Ac lD) (wTaps (by omega) (by omega) (by omega) (by omega)) m3 m1 m2 (by omega) (by omega) (by omega) l1 (by omega) (holeE_in m4) (by omega) (f.on Yg)).mono ?_)
 rintro v g2 ⟨X2,R⟩
 have x2:=(Yg.trans X2).next
 have x3:=Yg.next
 have l4:=(A6.hx Xg).lt
 rcases R with ⟨heT,rfl⟩ | ⟨heT,hbT,rfl⟩ | ⟨heT,hbT,bvT,wT,rfl,hvT,toT⟩
 ·exact WOL.ex rfl rfl<|WOL.ex rfl rfl<|WOL.sto (vs:=[zi 0,.slice none 0 0,.slice none 0 0]) rfl rfl tp1117 ((A6.hx Xg).hx X2) rfl rfl (Nat.le_of_ble_eq_true rfl) rfl (f.hx (Yg.trans X2)) (by omega) fun iT MT=>WOL.as rfl<|WOL.nil<|WL.ret (WL.endC1 rfl rfl (load_row tp1117 MT.at_ rfl (Nat.le_of_ble_eq_true rfl)) ⟨MT.hx _ (Yg.trans X2) (by omega),.inl ⟨heT,rfl⟩⟩)
 ·exact WOL.ex rfl rfl<|WOL.ex rfl rfl<|WOL.sto (vs:=[zi 0,.slice none 0 0,.slice none 0 0]) rfl rfl tp1117 ((A6.hx Xg).hx X2) rfl rfl (Nat.le_of_ble_eq_true rfl) rfl (f.hx (Yg.trans X2)) (by omega) fun iT MT=>WOL.as rfl<|WOL.nil<|WL.ret (WL.endC1 rfl rfl (load_row tp1117 MT.at_ rfl (Nat.le_of_ble_eq_true rfl)) ⟨MT.hx _ (Yg.trans X2) (by omega),.inr (.inl ⟨heT,hbT,rfl⟩)⟩)
 ·obtain ⟨b2T,m2T,k2T,rfl⟩:=toT.form
  exact WOL.ex rfl rfl<|WOL.ex rfl rfl<|WOL.sto (vs:=[zi _,slA bvT _,.slice b2T m2T k2T]) rfl rfl tp1117 ((A6.hx Xg).hx X2) rfl rfl (Nat.le_of_ble_eq_true rfl) rfl (f.hx (Yg.trans X2)) (by omega) fun iT MT=>WOL.as rfl<|WOL.nil<|WL.ret (WL.endC1 rfl rfl (load_row tp1117 MT.at_ rfl (Nat.le_of_ble_eq_true rfl)) ⟨MT.hx _ (Yg.trans X2) (by omega),.inr (.inr ⟨heT,hbT,bvT,_,rfl,by omega,(toT.put MT (by omega) (by omega)).low (by omega)⟩)⟩)
theorem k1131 (H:Has tp) (r:TrcH h v1 v2 L S) (l1:L.length≤900000) (t1:S.length≤900000) (f:Free0 h.next h) :
  CallW Tryz.prog tp (.func (.func 64) #[] #[]) #[.agg #[zi a,zi b],trcV n v1 v2] h fun v h'=>HX h h'∧ProgR (n - (1 - a)*1) (errV (firstNZ [chordE a b,outB 1 1 32,traceE n L S]) L.length ((a.toNat+b.toNat - 2)*1)) (tapC L S (wTp a.toNat b.toNat 1) (L.length - (a.toNat+b.toNat - 2)*1)) h.next h' v:=by
 refine CallW.fnL (H.fn 64 f1131 rfl rfl) ?_
 obtain ⟨b1,k1,e1,_⟩:=id r.l
 obtain ⟨b2,k2,e2,_⟩:=id r.s
 subst e1 e2
 refine WL.sr<|WOL.box rfl fun h1 N1=>WOL.box rfl fun h2 N2=>WOL.al tp1117 fun h3 N3=>WOL.as rfl<|WOL.nil<|keep [(2,_),(3,_),(4,_)] ⟨rfl,rfl,rfl,trivial⟩ ?_
 have q1:=N1.next
 have q2:=N2.next
 have q3:=N3.next
 have A2:At h3 h.next (.cells [zi a,zi b] true true 117):=(N1.at_.hx N2.hx).hx N3.hx
 have A3:At h3 h1.next (.cells [zi n,.slice b1 L.length k1,.slice b2 S.length k2] true true 121):=N2.at_.hx N3.hx
 have A4:=N3.at_
 have X3:=(N1.hx.trans N2.hx).trans N3.hx
 have l4:=A4.lt
 refine WL.sr<|WOL.ld rfl (load_row tp1128 A2 rfl (Nat.le_of_ble_eq_true rfl))<|WOL.ld rfl (load_row tp1117 A3 rfl (Nat.le_of_ble_eq_true rfl))<|WOL.cl3 rfl rfl rfl rfl ((k1132 (n:=n) (a:=a) (b:=b) (s:=1) H (r.hx X3) l1 t1 (f.on X3)).mono ?_)
 rintro v g ⟨X,R⟩
 have x1:=X3.next
 have x2:=X.next
 replace R:ProgR (n - (1 - a)*1) (errV (firstNZ [chordE a b,outB 1 1 32,traceE n L S]) L.length ((a.toNat+b.toNat - 2)*1)) (tapC L S (wTp a.toNat b.toNat 1) (L.length - (a.toNat+b.toNat - 2)*1)) h3.next g v:=R
 rcases R with ⟨heT,rfl⟩ | ⟨heT,hbT,rfl⟩ | ⟨heT,hbT,bvT,wT,rfl,hvT,toT⟩
 ·exact WOL.ex rfl rfl<|WOL.ex rfl rfl<|WOL.sto (vs:=[zi 0,.slice none 0 0,.slice none 0 0]) rfl rfl tp1117 (A4.hx X) rfl rfl (Nat.le_of_ble_eq_true rfl) rfl (f.hx (X3.trans X)) (by omega) fun iT MT=>WOL.as rfl<|WOL.nil<|WL.ret (WL.endC1 rfl rfl (load_row tp1117 MT.at_ rfl (Nat.le_of_ble_eq_true rfl)) ⟨MT.hx _ (X3.trans X) (by omega),.inl ⟨heT,rfl⟩⟩)
 ·exact WOL.ex rfl rfl<|WOL.ex rfl rfl<|WOL.sto (vs:=[zi 0,.slice none 0 0,.slice none 0 0]) rfl rfl tp1117 (A4.hx X) rfl rfl (Nat.le_of_ble_eq_true rfl) rfl (f.hx (X3.trans X)) (by omega) fun iT MT=>WOL.as rfl<|WOL.nil<|WL.ret (WL.endC1 rfl rfl (load_row tp1117 MT.at_ rfl (Nat.le_of_ble_eq_true rfl)) ⟨MT.hx _ (X3.trans X) (by omega),.inr (.inl ⟨heT,hbT,rfl⟩)⟩)
 ·obtain ⟨b2T,m2T,k2T,rfl⟩:=toT.form
  exact WOL.ex rfl rfl<|WOL.ex rfl rfl<|WOL.sto (vs:=[zi _,slA bvT _,.slice b2T m2T k2T]) rfl rfl tp1117 (A4.hx X) rfl rfl (Nat.le_of_ble_eq_true rfl) rfl (f.hx (X3.trans X)) (by omega) fun iT MT=>WOL.as rfl<|WOL.nil<|WL.ret (WL.endC1 rfl rfl (load_row tp1117 MT.at_ rfl (Nat.le_of_ble_eq_true rfl)) ⟨MT.hx _ (X3.trans X) (by omega),.inr (.inr ⟨heT,hbT,bvT,_,rfl,by omega,(toT.put MT (by omega) (by omega)).low (by omega)⟩)⟩)
end
end Go.Tidy
namespace Go.Tidy
open Go Go.Proofs Tab
variable {tp:TProg}
def bw (s l i:Nat):Int:=if l≤i+s∧i≤l+s then -(2*(s:Int)+1)+(2*(l:Int)+1) else -(2*(s:Int)+1)
section
variable {h:TH} {n a b:Int} {v1 v2:Value} {L:List Int} {S:List (Int × Int)} {s l:Nat}
end
end Go.Tidy
namespace Go.Tidy
open Go Go.Proofs Tab
variable {tp:TProg}
section
variable {P:Program} {h:TH} {K:Regs→TH→Prop} {rest:List TOper} {d:Option Tmp} {ty:TypeId} {i:Nat} {x y:Operand} {v vx vy:Value} {t u e:TypeId} {n:Nat} {z:List Value} {row:Bool} {L:Rg}
theorem append_own2 {sT:TypeId} {b m:Nat} {c:List Value} {wr:Bool} {e':TypeId} (hu:P.underlying sT=some (.slice e)) (he:Tp P e n z row) (hg:At h b (.cells [] true wr e')) (s:SlC h v n m c) (hm2:m≤1000000000) (h1:c.all oneCell=true) :
  ∃ h' b',appendT P #[sT,sT] #[.slice (some ⟨b,0,none⟩) 0 0,v] h=some (.slice (some ⟨b',0,none⟩) m m,h')∧HX h h'∧SlC h' (.slice (some ⟨b',0,none⟩) m m) n m c∧(b'=b∨h.next≤b'):=by
 by_cases hm:m=0
 ·subst hm
  refine ⟨_,b,append_none hu he s (Nat.le_refl _),HX.refl h,?_,.inl rfl⟩
  obtain ⟨_,_,_,_,hc,_⟩:=s
  have:c=[]:=List.eq_nil_of_length_eq_zero (by omega)
  subst this
  exact SlC.own (by simp) hg
 ·refine ⟨_,_,append_all hu he hg s (by omega) hm2 h1,HX.new _ _,?_,.inr (Nat.le_refl _)⟩
  obtain ⟨_,_,_,_,hc,_⟩:=s
  exact SlC.own hc (At.new _ _)
theorem WOL.apO {l0:Operand} {ls:List Operand} {sT:TypeId} {b m:Nat} {c:List Value} {wr:Bool} {e':TypeId} (hx:getL L x=some (.slice (some ⟨b,0,none⟩) 0 0)) (hy:getL L y=some v) (hu:P.underlying sT=some (.slice e)) (he:Tp P e n z row) (hg:At h b (.cells [] true wr e')) (s:SlC h v n m c) (hm2:m≤1000000000) (h1:c.all oneCell=true)
  (w:∀ h' b' ,HX h h'→(b'=b∨h.next≤b')→SlC h' (.slice (some ⟨b',0,none⟩) m m) n m c→∀ a,Kn (putL L d (.slice (some ⟨b',0,none⟩) m m)) a→WO P tp rest a h' K):∀ a,Kn L a→WO P tp (⟨d,.call ⟨.builtin .append,#[x,y],#[sT,sT]⟩,ty,none,l0::ls,i⟩::rest) a h K:=by
 intro a k
 refine WO.apL (k.o hx) (k.o hy) fun M=>?_
 obtain ⟨h',b',e1,e2,e3,e4⟩:=append_own2 hu he (hg.relock M) (s.relock M) hm2 h1
 exact ⟨_,_,e1,k.nx (w _ b' e2.relock e4 (e3.relock h.lock))⟩
theorem WOL.eqN {b:Bool} (hx:getL L x=some vx) (hy:getL L y=some vy) (hf:fastBin .eql vx vy=none) (hv:eqT P t vx vy=some b) (w:∀ a,Kn (putL L d (.bool b)) a→WO P tp rest a h K):∀ a,Kn L a→WO P tp (⟨d,.binOp .eql t x y u,ty,none,[],i⟩::rest) a h K:=fun a k=>by
 have ex:=getO_eval (k.o hx)
 have ey:=getO_eval (k.o hy)
 exact WO.op (h1:=h) rfl rfl (fun call=>by simp [stepOp,heapFirst,fastOp,valueOp,ex,ey,hf,hv]) (w _ (k.put d _))
end
section
variable {h:TH} {s:ByteArray} {n a b:Int} {v v1 v2:Value} {F:List Nat} {S:List (Int × Int)} {es L:List Int}
set_option maxHeartbeats 2000000 in
set_option maxRecDepth 10000 in
theorem k1206 (H:Has tp) (sF:SlL encF 1 h v F) (hL:Lev F L) (lF:F.length≤1000000) (f:Free0 h.next h) :
  CallW Tryz.prog tp (.func (.func 164) #[] #[]) #[v,.func (.func 110) #[] #[]] h fun w h'=>HX h h'∧∃ c,w=slA c F.length∧h.next≤c∧At h' c (.cells (cat encI L) true true 3):=by
 refine CallW.fnL (H.fn 164 f1206 rfl rfl) ?_
 refine WL.sr<|WOL.as rfl<|WOL.nil ?_
 have lE:L.length=F.length:=hL.1.symm
 refine WL.sr<|WOL.mv rfl<|WOL.len rfl sF u43<|WOL.ms (m:=F.length) rfl rfl u29 tp3 (by decide) (by omega) fun h1 N1=>WOL.as rfl<|WOL.nil<|keep [(0,_),(1,_),(5,_)] ⟨rfl,rfl,rfl,trivial⟩ ?_
 have q1:=N1.next
 have W0:=N1.at_
 rw [rep_flat,← cat_rep (enc:=encI) (x:=0) rfl,← lE,← fill_zero L] at W0
 refine WL.seq<|WL.sr<|WOL.mv rfl<|WOL.len rfl (sF.hx N1.hx) u43<|WOL.mv rfl<|WOL.nil<|keep [(1,_),(5,_),(11,_),(12,_),(13,_)] ⟨rfl,rfl,rfl,rfl,rfl,trivial⟩ ?_
 refine WL.upto (α:=Unit) F.length (fun j _ g'=>HX h g'∧At g' h.next (.cells (cat encI (L.take j ++ List.replicate (L.length - j) 0)) true true 3)) (fun _ _=>[(1,.func (.func 110) #[] #[]),(5,slA h.next F.length),(11,v),(12,zi (F.length:Nat))]) () rfl rfl (by omega) ⟨N1.hx,W0⟩ ⟨rfl,rfl,rfl,rfl,rfl,trivial⟩ (fun _ _=>rfl) (fun _ _ _=>⟨rfl,rfl,rfl,rfl,rfl,trivial⟩) (fun _ _ _=>⟨rfl,rfl,rfl,rfl,rfl,trivial⟩) ?_ ?_
 ·rintro i _ g' hi ⟨X,Wd⟩
  have hp:F[i]?=some F[i]:=List.getElem?_eq_getElem hi
  have hi':i < L.length:=by omega
  have sm:Samp F[i] L[i]:=hL.2 i _ _ hp (List.getElem?_eq_getElem hi')
  obtain ⟨_,_,cc,fix,wr,el,g1,g2,g3,g4,g5⟩:=(sF.hx X).at eF u43 tp25 hp .i64
  have gx:=g5 0 (by decide)
  rw [Nat.add_zero] at gx
  refine WL.sr<|WOL.mv rfl<|WOL.ix rfl rfl g1<|WOL.ld rfl (load_one tp25 g2 gx)<|WOL.as rfl<|WOL.as rfl<|WOL.nil<|keep [(1,_),(5,_),(6,_),(7,_),(11,_),(12,_),(13,_)] ⟨rfl,rfl,rfl,rfl,rfl,rfl,rfl,trivial⟩ ?_
  refine WL.reg<|WOL.mv rfl<|WOL.mv rfl<|WOL.mv rfl<|WOL.mv rfl<|WOL.cl1 rfl rfl ((k111 H sm g').mono ?_)
  rintro u g' ⟨rfl,rfl⟩
  refine WOL.ix rfl rfl (indexAddr_tp (j:=i) u29 tp3 hi)<|WOL.sto (vs:=encI L[i]) rfl rfl tp3 Wd rfl rfl (by rw [eI.cat_len,fill_len _ _ _ (by omega)];omega) rfl (f.hx X) (by omega) fun h5 P5=>WOL.nil fun y k=>⟨(),⟨P5.hx _ X (by omega),?_⟩,k.sub ⟨rfl,rfl,rfl,rfl,rfl,trivial⟩⟩
  have:=P5.at_
  rw [Nat.zero_add,eI.set (by rw [fill_len _ _ _ (by omega)];omega),fill_set L _ i hi'] at this
  exact this
 ·rintro _ g' ⟨X,Wd⟩
  rw [← lE,fill_all] at Wd
  exact WL.sr<|WOL.mv rfl<|WOL.as rfl<|WOL.nil<|WL.ret (WL.end_ rfl ⟨X,_,rfl,by omega,Wd⟩)
theorem eqT_sl {b:Option Addr} {m k:Nat}:eqT Tryz.prog 26 (.slice b m k) (.slice none 0 0)=some b.isNone:=by
 unfold eqT ptrEq nilEq
 rw [u44]
 cases b <;> rfl
theorem k1207 (H:Has tp) (sS:SlL encS 2 h v S) (lS:S.length≤1000000) (f:Free0 h.next h) :
  CallW Tryz.prog tp (.func (.func 188) #[] #[]) #[v] h fun w h'=>HX h h'∧∃ b m k,w=.slice b m k∧SlL encS 2 h' w S∧∀ z,bl w=some z→h.next≤z:=by
 obtain ⟨bo,k,rfl,hk,hl,hh⟩:=id sS
 refine CallW.fnL (H.fn 188 f1207 rfl rfl) ?_
 refine WL.sr<|WOL.as rfl<|WOL.nil ?_
 refine WL.seq<|WL.sr<|WOL.mv rfl<|WOL.eqN rfl rfl rfl eqT_sl<|WOL.nil ?_
 cases bo with
 | none =>
  have hS:S=[]:=by
   rcases hh with ⟨_,q⟩ | ⟨_,_,_,_,_,_,q,_⟩
   ·exact List.eq_nil_of_length_eq_zero q
   ·cases q
  subst hS
  exact WL.yes rfl<|WL.sr<|WOL.as rfl<|WOL.nil<|WL.ret (WL.end_ rfl ⟨HX.refl _,_,_,_,rfl,SlL.nil,fun z hz=>by cases hz⟩)
 | some ad =>
  refine WL.no rfl<|WL.skip<|WL.sr<|WOL.bs0 u44 tp48 (by decide) (by decide) fun h1 N1=>WOL.mv rfl ?_
  obtain ⟨u2,h7,ap7,X7,s7,b7,rfl,hb7,F7⟩:=append_own u44 tp48 N1.at_ (sS.hx N1.hx) (by omega) (eS.all _)
  exact WOL.ap rfl rfl ap7<|WOL.as rfl<|WOL.nil<|WL.ret (WL.end_ rfl ⟨N1.hx.trans X7,_,_,_,rfl,s7,fun z hz=>by have:b7=z:=Option.some.inj hz;omega⟩)
end
end Go.Tidy
namespace Go.Tidy
open Go Go.Proofs Tab
variable {tp:TProg}
def turV (a b:Int):Value:=cond (chordE a b != 0) (.agg #[zi 0,zi 0]) (.agg #[zi b,zi a])
section
variable {h h0 hb:TH} {s:ByteArray} {n a b m1 E:Int} {v v1 v2:Value} {F:List Nat} {S:List (Int × Int)} {es L:List Int} {o1:Int × List Int × List (Int × Int)} {x y:Int} {c2 c3 c5 c7 c11 c12:Nat}
theorem k1209 (H:Has tp) (f:Free0 h.next h):CallW Tryz.prog tp (.func (.func 136) #[] #[]) #[.agg #[zi a,zi b]] h fun v h'=>v=.agg #[zi b,zi a]∧HX h h':=by
 refine CallW.fnL (H.fn 136 f1209 rfl rfl) ?_
 refine WL.sr<|WOL.box rfl fun h1 N1=>WOL.al tp1128 fun h2 N2=>WOL.nil<|keep [(1,_),(2,_)] ⟨rfl,rfl,trivial⟩ ?_
 have q1:=N1.next
 have A1:At h2 h.next (.cells [zi a,zi b] true true 117):=N1.at_.hx N2.hx
 have X2:=N1.hx.trans N2.hx
 refine WL.sr<|WOL.fa rfl (fa_of fo1128_1)<|WOL.ld rfl (load_one tp3 A1 rfl)<|WOL.fa rfl (fa_of fo1128_0)<|WOL.ld rfl (load_one tp3 A1 rfl)<|WOL.bd rfl bd1128<|WOL.sto (vs:=[zi b,zi a]) rfl rfl tp1128 N2.at_ rfl rfl (Nat.le_of_ble_eq_true rfl) rfl (f.hx X2) (by omega) fun h3 P3=>WOL.nil ?_
 exact WL.ret (WL.endC rfl (load_row tp1128 P3.at_ rfl (Nat.le_of_ble_eq_true rfl)) ⟨rfl,P3.hx _ X2 (by omega)⟩)
theorem k1208 (H:Has tp) (f:Free0 h.next h):CallW Tryz.prog tp (.func (.func 135) #[] #[]) #[.agg #[zi a,zi b],.func (.func 136) #[] #[]] h fun v h'=>v=.tuple #[turV a b,zi (chordE a b)]∧HX h h':=by
 refine CallW.fnL (H.fn 135 f1208 rfl rfl) ?_
 refine WL.sr<|WOL.box rfl fun h1 N1=>WOL.al tp1128 fun h2 N2=>WOL.as rfl<|WOL.nil<|keep [(1,_),(2,_),(4,_)] ⟨rfl,rfl,rfl,trivial⟩ ?_
 have q1:=N1.next
 have q2:=N2.next
 have A2:At h2 h.next (.cells [zi a,zi b] true true 117):=N1.at_.hx N2.hx
 have A4:=N2.at_
 have X2:=N1.hx.trans N2.hx
 refine WL.seq<|WL.sr<|WOL.ld rfl (load_row tp1128 A2 rfl (Nat.le_of_ble_eq_true rfl))<|WOL.cl1 rfl rfl ((k1121 H a b _).mono ?_)
 rintro v h3 ⟨rfl,X3⟩
 have Y3:=X2.trans X3
 have y3:=Y3.next
 replace A2:=A2.hx X3;replace A4:=A4.hx X3
 refine WOL.as rfl<|WOL.nil<|keep [(1,_),(2,_),(4,_),(6,_)] ⟨rfl,rfl,rfl,rfl,trivial⟩ ?_
 unfold turV
 by_cases e0:chordE a b≠0
 ·rw [bne_iff_ne.2 e0]
  refine WL.sr<|WOL.mv rfl<|WOL.bt rfl rfl rfl (bne_iff_ne.2 e0)<|WOL.nil<|WL.yes rfl<|WL.sr<|WOL.al tp1128 fun h4 N4=>WOL.nc rfl<|WOL.ld rfl (load_row tp1128 N4.at_ rfl (Nat.le_of_ble_eq_true rfl))<|WOL.mv rfl<|WOL.sto (vs:=[zi 0,zi 0]) rfl rfl tp1128 (A4.hx N4.hx) rfl rfl (Nat.le_of_ble_eq_true rfl) rfl (f.hx (Y3.trans N4.hx)) (by omega) fun h5 P5=>WOL.as rfl<|WOL.nil ?_
  exact WL.ret (WL.endC1 rfl rfl (load_row tp1128 P5.at_ rfl (Nat.le_of_ble_eq_true rfl)) ⟨rfl,P5.hx _ (Y3.trans N4.hx) (by omega)⟩)
 have e0:chordE a b=0:=Classical.not_not.1 e0
 rw [e0]
 refine WL.sr<|WOL.mv rfl<|WOL.bf rfl rfl rfl rfl<|WOL.nil<|WL.no rfl<|WL.skip ?_
 refine WL.sr<|WOL.mv rfl<|WOL.ld rfl (load_row tp1128 A2 rfl (Nat.le_of_ble_eq_true rfl))<|WOL.cl1 rfl rfl ((k1209 H (f.on Y3)).mono ?_)
 rintro v h4 ⟨rfl,X4⟩
 refine WOL.sto (vs:=[zi b,zi a]) rfl rfl tp1128 (A4.hx X4) rfl rfl (Nat.le_of_ble_eq_true rfl) rfl (f.hx (Y3.trans X4)) (by omega) fun h5 P5=>WOL.as rfl<|WOL.nil ?_
 exact WL.ret (WL.endC1 rfl rfl (load_row tp1128 P5.at_ rfl (Nat.le_of_ble_eq_true rfl)) ⟨rfl,P5.hx _ (Y3.trans X4) (by omega)⟩)
theorem turV_ex:∃ x y,turV a b=.agg #[zi x,zi y]∧((chordE a b≠0∧x=0∧y=0)∨(chordE a b=0∧x=b∧y=a)):=by
 unfold turV
 by_cases e0:chordE a b≠0
 ·rw [bne_iff_ne.2 e0];exact ⟨_,_,rfl,.inl ⟨e0,rfl,rfl⟩⟩
 ·rw [Classical.not_not.1 e0];exact ⟨_,_,rfl,.inr ⟨rfl,rfl,rfl⟩⟩
theorem k1147 (H:Has tp) (f:Free0 h.next h):CallW Tryz.prog tp (.func (.func 61) #[] #[]) #[.agg #[zi a,zi b]] h fun v h'=>v=.tuple #[turV a b,zi (chordE a b)]∧HX h h':=by
 refine CallW.fnL (H.fn 61 f1147 rfl rfl) ?_
 refine WL.sr<|WOL.box rfl fun h1 N1=>WOL.al tp1128 fun h2 N2=>WOL.as rfl<|WOL.nil<|keep [(1,_),(2,_)] ⟨rfl,rfl,trivial⟩ ?_
 have q1:=N1.next
 have A1:At h2 h.next (.cells [zi a,zi b] true true 117):=N1.at_.hx N2.hx
 have X2:=N1.hx.trans N2.hx
 refine WL.sr<|WOL.ld rfl (load_row tp1128 A1 rfl (Nat.le_of_ble_eq_true rfl))<|WOL.cl2 rfl rfl rfl ((k1208 H (f.on X2)).mono ?_)
 rintro v h3 ⟨rfl,X3⟩
 obtain ⟨x,y,e,_⟩:=turV_ex (a:=a) (b:=b)
 rw [e]
 refine WOL.ex rfl rfl<|WOL.ex rfl rfl<|WOL.sto (vs:=[zi x,zi y]) rfl rfl tp1128 (N2.at_.hx X3) rfl rfl (Nat.le_of_ble_eq_true rfl) rfl (f.hx (X2.trans X3)) (by omega) fun h4 P4=>WOL.as rfl<|WOL.nil ?_
 exact WL.ret (WL.endC1 rfl rfl (load_row tp1128 P4.at_ rfl (Nat.le_of_ble_eq_true rfl)) ⟨rfl,P4.hx _ (X2.trans X3) (by omega)⟩)
end
end Go.Tidy
namespace Go.Tidy
open Go Go.Proofs Tab
variable {tp:TProg}
section
variable {P:Program} {h:TH} {K:Regs→TH→Prop} {rest:List TOper} {d:Option Tmp} {ty:TypeId} {i:Nat} {x y:Operand} {t u:TypeId} {L:Rg}
end
section
variable {p q:Nat} {E:List Int} {C:List (Int × Bool)} {j:Nat} {H:List (Int × Bool)}
def HFine (H:List (Int × Bool)):Prop:=∀ c,c ∈ H→(c.2=true→largeB c.1=false)∧(c.2=false→c.1=0)
theorem HFine.lim {H:List (Int × Bool)} (f:HFine H) (i:Nat):-1073741824≤(H.getD i (0,false)).1∧(H.getD i (0,false)).1≤1073741824:=by
  rw [List.getD_eq_getElem?_getD]
  cases hi:H[i]? with
  | none=>decide
  | some c =>
    obtain ⟨f1,f2⟩:=f c (List.mem_of_getElem? hi)
    show -1073741824≤c.1∧c.1≤1073741824
    cases hc:c.2 with
    | false=>rw [f2 hc];decide
    | true =>
      have:=f1 hc
      unfold largeB readE at this
      have h0:outB c.1 (-1073741824) 1073741824=0:=by
        by_cases q:outB c.1 (-1073741824) 1073741824=0
        · exact q
        · rw [bne_iff_ne.2 q] at this;cases this
      exact out_mm h0
theorem HFine.val {H:List (Int × Bool)} (f:HFine H):valC H=H.map fun c=>c.1:=by
 unfold valC
 refine List.map_congr_left fun c hc=>?_
 cases h:c.2 with
 | true=>rfl
 | false=>rw [(f c hc).2 h];rfl
end
section
variable {α:Type} {l:List α} {z x:α} {m:Nat}
end
section
variable {h:TH} {n:Int} {p q:Nat} {L E:List Int} {S:List (Int × Int)} {rv rk hv hk:Nat}
end
end Go.Tidy
namespace Go.Tidy
open Go Go.Proofs Tab
variable {tp:TProg}
def sigE (m:Nat) (es:List Int):Int:=cond (decide ((m:Int) > 4096)) 5 (firstNZ es)
def shB (m:Nat):Bool:=cond (decide ((m:Int)≤24)) true ((m:Int) == 4097)
def sgE (L:List Int):Int:=cond (L.any fun n=>!okI n) 4 0
def sgL (L:List Int):List Int:=cond (L.any fun n=>!okI n) [] L
def AnsF (e:Int) (L:List Int) (n0:Nat) (h':TH) (v:Value):Prop:=∃ b m c F,v=.tuple #[.slice b m c,zi e]∧SlL encF 1 h' (.slice b m c) F∧Lev F L∧∀ z,bl (.slice b m c)=some z→n0≤z
theorem AnsF.err {e:Int} {n0:Nat} {g:TH}:AnsF e [] n0 g (.tuple #[.slice none 0 0,zi e]):=⟨_,_,_,[],rfl,SlL.nil,⟨rfl,fun i b n h=>by cases h⟩,fun z hz=>(by cases hz)⟩
theorem AnsF.low {e:Int} {L:List Int} {n0 n1:Nat} {g:TH} {v:Value} (a:AnsF e L n1 g v) (h:n0≤n1):AnsF e L n0 g v:=by
 obtain ⟨b,m,c,F,h1,h2,h3,h4⟩:=a
 exact ⟨b,m,c,F,h1,h2,h3,fun z hz=>Nat.le_trans h (h4 z hz)⟩
theorem sigE_short {m:Nat} {es:List Int} (h:sigE m es=0):m≤4096∧firstNZ es=0:=by
 unfold sigE at h
 by_cases c:(m:Int) > 4096
 ·rw [decide_eq_true c] at h;exact absurd (show (5:Int)=0 from h) (by decide)
 ·rw [decide_eq_false c] at h;exact ⟨by omega,h⟩
theorem fNZ_const {c:Int} (hc:c≠0) (p:Int→Bool):∀ L:List Int,firstNZ (L.map fun n=>cond (p n) c 0)=cond (L.any p) c 0
 | []=>rfl
 | n::L=>by
  have ih:=fNZ_const hc p L
  rw [List.map_cons,List.any_cons]
  show cond (cond (p n) c 0 != 0) (cond (p n) c 0) (firstNZ (L.map fun n=>cond (p n) c 0))=_
  cases hp:p n with
  | true=>rw [Bool.cond_true,bne_iff_ne.2 hc];rfl
  | false=>rw [Bool.false_or,← ih];rfl
theorem lev_smpI {L:List Int} (h:∀ x,x ∈ L→okI x=true):Lev (L.map smp) L:=by
 refine ⟨by rw [List.length_map],fun i b n h1 h2=>?_⟩
 rw [List.getElem?_map,h2] at h1
 cases h1
 exact (smp_ok (okI_iff.1 (h n (List.mem_of_getElem? h2)))).2.2
theorem any_notI {L:List Int} (h:(L.any fun n=>!okI n)=false):∀ x,x ∈ L→okI x=true:=fun x hx=>by
 have:=List.any_eq_false.1 h x hx
 cases hk:okI x with
 | true=>rfl
 | false=>rw [hk] at this;exact absurd rfl this
section
variable {h:TH} {v w fv:Value} {F:List Nat} {es L M:List Int}
theorem k1268 (H:Has tp) (X:HasX tp) (s:SlL encF 1 h v F) (hE:SErr F es) (hF:F.length≤1000000):CallW Tryz.prog tp (.func (.func 104) #[] #[]) #[v] h fun u h'=>u=zi (sigE F.length es)∧h'=h:=by
 refine CallW.fnL (H.fn 104 f1268 rfl rfl) ?_
 refine WL.sr<|WOL.as rfl<|WOL.nil<|keep [(0,_)] ⟨rfl,trivial⟩ ?_
 by_cases c:(F.length:Int) > 4096
 ·refine WL.seq<|WL.sr<|WOL.mv rfl<|WOL.len rfl s u43<|WOL.bt rfl rfl rfl (decide_eq_true c)<|WOL.nil<|WL.yes rfl<|WL.sr<|WOL.as rfl<|WOL.nil ?_
  exact WL.ret (WL.end_ rfl ⟨by unfold sigE;rw [decide_eq_true c];rfl,rfl⟩)
 ·refine WL.seq<|WL.sr<|WOL.mv rfl<|WOL.len rfl s u43<|WOL.bf rfl rfl rfl (decide_eq_false c)<|WOL.nil<|WL.no rfl<|WL.skip ?_
  refine WL.sr<|WOL.mv rfl<|WOL.cl2 rfl rfl rfl ((k144 H X s hE hF).mono ?_)
  rintro u g ⟨rfl,rfl⟩
  exact WOL.as rfl<|WOL.nil<|WL.ret (WL.end_ rfl ⟨by unfold sigE;rw [decide_eq_false c];rfl,rfl⟩)
theorem shB_le {m:Nat} (h:shB m=true):m≤4097:=by
 unfold shB at h
 by_cases c:(m:Int)≤24
 ·omega
 ·rw [decide_eq_false c] at h
  have:=beq_iff_eq.1 (show ((m:Int) == 4097)=true from h)
  omega
theorem k1313 (H:Has tp) (s:SlL encF 1 h v F) (hL:Lev F L) (hF:F.length≤1000000) (f:Free0 h.next h) :
  CallW Tryz.prog tp (.func (.func 94) #[] #[]) #[v] h fun w h'=>HX h h'∧∃ c,w=slA c L.length∧h.next≤c∧At h' c (.cells (cat encI L) true true 3):=by
 refine CallW.fnL (H.fn 94 f1313 rfl rfl) ?_
 refine WL.sr<|WOL.as rfl<|WOL.nil<|keep [(0,_)] ⟨rfl,trivial⟩ ?_
 refine WL.sr<|WOL.mv rfl<|WOL.cl2 rfl rfl rfl ((k1206 H s hL hF f).mono ?_)
 rintro u g ⟨X,c,rfl,hc,A⟩
 rw [hL.1]
 exact WOL.as rfl<|WOL.nil<|WL.ret (WL.end_ rfl ⟨X,c,rfl,hc,A⟩)
theorem k1312 (H:Has tp) {φ:Int→Int} (s:SlL encI 1 h v L) (hl:L.length≤1000000) (f:Free0 h.next h) (hf:∀ x,x ∈ L→∀ g,HX h g→CallW Tryz.prog tp fv #[zi x] g fun u g'=>u=zi (φ x)∧HX g g') :
  CallW Tryz.prog tp (.func (.func 132) #[] #[]) #[v,fv] h fun w h'=>HX h h'∧∃ c,w=slA c L.length∧h.next≤c∧At h' c (.cells (cat encI (L.map φ)) true true 3):=by
 refine CallW.fnL (H.fn 132 f1312 rfl rfl) ?_
 refine WL.sr<|WOL.as rfl<|WOL.nil ?_
 have lE:(L.map φ).length=L.length:=List.length_map ..
 refine WL.sr<|WOL.mv rfl<|WOL.len rfl s u29<|WOL.ms (m:=L.length) rfl rfl u29 tp3 (by decide) (by omega) fun h1 N1=>WOL.as rfl<|WOL.nil<|keep [(0,_),(1,_),(5,_)] ⟨rfl,rfl,rfl,trivial⟩ ?_
 have q1:=N1.next
 have W0:=N1.at_
 rw [rep_flat,← cat_rep (enc:=encI) (x:=0) rfl,← lE,← fill_zero (L.map φ)] at W0
 refine WL.seq<|WL.sr<|WOL.mv rfl<|WOL.len rfl (s.hx N1.hx) u29<|WOL.mv rfl<|WOL.nil<|keep [(1,_),(5,_),(11,_),(12,_),(13,_)] ⟨rfl,rfl,rfl,rfl,rfl,trivial⟩ ?_
 refine WL.upto (α:=Unit) L.length (fun j _ g'=>HX h g'∧h1.next≤g'.next∧At g' h.next (.cells (cat encI ((L.map φ).take j ++ List.replicate ((L.map φ).length - j) 0)) true true 3)) (fun _ _=>[(1,fv),(5,slA h.next L.length),(11,v),(12,zi (L.length:Nat))]) () rfl rfl (by omega) ⟨N1.hx,Nat.le_refl _,W0⟩ ⟨rfl,rfl,rfl,rfl,rfl,trivial⟩ (fun _ _=>rfl) (fun _ _ _=>⟨rfl,rfl,rfl,rfl,rfl,trivial⟩) (fun _ _ _=>⟨rfl,rfl,rfl,rfl,rfl,trivial⟩) ?_ ?_
 ·rintro i _ g' hi ⟨X,nx,Wd⟩
  have hp:L[i]?=some L[i]:=List.getElem?_eq_getElem hi
  have hi':i < (L.map φ).length:=by omega
  have hm:(L.map φ)[i]=φ L[i]:=List.getElem_map ..
  obtain ⟨_,_,cc,fix,wr,el,g1,g2,g3,g4,g5⟩:=(s.hx X).at eI u29 tp3 hp .i64
  have gx:=g5 0 (by decide)
  rw [Nat.add_zero] at gx
  refine WL.sr<|WOL.mv rfl<|WOL.ix rfl rfl g1<|WOL.ld rfl (load_one tp3 g2 gx)<|WOL.as rfl<|WOL.as rfl<|WOL.nil<|keep [(1,_),(5,_),(6,_),(7,_),(11,_),(12,_),(13,_)] ⟨rfl,rfl,rfl,rfl,rfl,rfl,rfl,trivial⟩ ?_
  refine WL.reg<|WOL.mv rfl<|WOL.mv rfl<|WOL.mv rfl<|WOL.mv rfl<|WOL.cl1 rfl rfl ((hf _ (List.mem_of_getElem? hp) g' X).mono ?_)
  rintro u g2 ⟨rfl,X2⟩
  have n2:=X2.next
  refine WOL.ix rfl rfl (indexAddr_tp (j:=i) u29 tp3 hi)<|WOL.sto (vs:=encI (φ L[i])) rfl rfl tp3 (Wd.hx X2) rfl rfl (by rw [eI.cat_len,fill_len _ _ _ (by omega)];omega) rfl (f.hx (X.trans X2)) (by omega) fun h5 P5=>WOL.nil fun y k=>⟨(),⟨P5.hx _ (X.trans X2) (by omega),by rw [P5.next];omega,?_⟩,k.sub ⟨rfl,rfl,rfl,rfl,rfl,trivial⟩⟩
  have:=P5.at_
  rw [Nat.zero_add,eI.set (by rw [fill_len _ _ _ (by omega)];omega),← hm,fill_set (L.map φ) _ i hi'] at this
  exact this
 ·rintro _ g' ⟨X,nx,Wd⟩
  rw [← lE,fill_all] at Wd
  exact WL.sr<|WOL.mv rfl<|WOL.as rfl<|WOL.nil<|WL.ret (WL.end_ rfl ⟨X,_,rfl,by omega,Wd⟩)
theorem k1353 (H:Has tp) (s:SlL encI 1 h v L) (hl:L.length≤1000000) (f:Free0 h.next h) (hL:∀ x,x ∈ L→okI x=true) :
  CallW Tryz.prog tp (.func (.func 163) #[] #[]) #[v,.func (.func 79) #[] #[]] h fun w h'=>HX h h'∧∃ c,w=slA c L.length∧h.next≤c∧At h' c (.cells (cat encF (L.map smp)) true true 76):=by
 refine CallW.fnL (H.fn 163 f1353 rfl rfl) ?_
 refine WL.sr<|WOL.as rfl<|WOL.nil ?_
 have lE:(L.map smp).length=L.length:=List.length_map ..
 refine WL.sr<|WOL.mv rfl<|WOL.len rfl s u29<|WOL.ms (m:=L.length) rfl rfl u43 tp25 (by decide) (by omega) fun h1 N1=>WOL.as rfl<|WOL.nil<|keep [(0,_),(1,_),(5,_)] ⟨rfl,rfl,rfl,trivial⟩ ?_
 have q1:=N1.next
 have W0:=N1.at_
 rw [rep_flat,← cat_rep (enc:=encF) (x:=0) rfl,← lE,← fill_zero (L.map smp)] at W0
 refine WL.seq<|WL.sr<|WOL.mv rfl<|WOL.len rfl (s.hx N1.hx) u29<|WOL.mv rfl<|WOL.nil<|keep [(1,_),(5,_),(11,_),(12,_),(13,_)] ⟨rfl,rfl,rfl,rfl,rfl,trivial⟩ ?_
 refine WL.upto (α:=Unit) L.length (fun j _ g'=>HX h g'∧At g' h.next (.cells (cat encF ((L.map smp).take j ++ List.replicate ((L.map smp).length - j) 0)) true true 76)) (fun _ _=>[(1,.func (.func 79) #[] #[]),(5,slA h.next L.length),(11,v),(12,zi (L.length:Nat))]) () rfl rfl (by omega) ⟨N1.hx,W0⟩ ⟨rfl,rfl,rfl,rfl,rfl,trivial⟩ (fun _ _=>rfl) (fun _ _ _=>⟨rfl,rfl,rfl,rfl,rfl,trivial⟩) (fun _ _ _=>⟨rfl,rfl,rfl,rfl,rfl,trivial⟩) ?_ ?_
 ·rintro i _ g' hi ⟨X,Wd⟩
  have hp:L[i]?=some L[i]:=List.getElem?_eq_getElem hi
  have hi':i < (L.map smp).length:=by omega
  have hm:(L.map smp)[i]=smp L[i]:=List.getElem_map ..
  obtain ⟨_,_,cc,fix,wr,el,g1,g2,g3,g4,g5⟩:=(s.hx X).at eI u29 tp3 hp .i64
  have gx:=g5 0 (by decide)
  rw [Nat.add_zero] at gx
  refine WL.sr<|WOL.mv rfl<|WOL.ix rfl rfl g1<|WOL.ld rfl (load_one tp3 g2 gx)<|WOL.as rfl<|WOL.as rfl<|WOL.nil<|keep [(1,_),(5,_),(6,_),(7,_),(11,_),(12,_),(13,_)] ⟨rfl,rfl,rfl,rfl,rfl,rfl,rfl,trivial⟩ ?_
  refine WL.reg<|WOL.mv rfl<|WOL.mv rfl<|WOL.mv rfl<|WOL.mv rfl<|WOL.cl1 rfl rfl ((k86 H (okI_iff.1 (hL _ (List.mem_of_getElem? hp))) g').mono ?_)
  rintro u g' ⟨rfl,rfl⟩
  refine WOL.ix rfl rfl (indexAddr_tp (j:=i) u43 tp25 hi)<|WOL.sto (vs:=encF (smp L[i])) rfl rfl tp25 Wd rfl rfl (by rw [eF.cat_len,fill_len _ _ _ (by omega)];omega) rfl (f.hx X) (by omega) fun h5 P5=>WOL.nil fun y k=>⟨(),⟨P5.hx _ X (by omega),?_⟩,k.sub ⟨rfl,rfl,rfl,rfl,rfl,trivial⟩⟩
  have:=P5.at_
  rw [Nat.zero_add,eF.set (by rw [fill_len _ _ _ (by omega)];omega),← hm,fill_set (L.map smp) _ i hi'] at this
  exact this
 ·rintro _ g' ⟨X,Wd⟩
  rw [← lE,fill_all] at Wd
  exact WL.sr<|WOL.mv rfl<|WOL.as rfl<|WOL.nil<|WL.ret (WL.end_ rfl ⟨X,_,rfl,by omega,Wd⟩)
theorem k1352 (H:Has tp) (x:Int) (h:TH):CallW Tryz.prog tp (.func (.func 160) #[] #[]) #[zi x] h fun v h'=>v=zi (cond (!okI x) 4 0)∧h'=h:=by
 refine CallW.fnL (H.fn 160 f1352 rfl rfl) ?_
 refine WL.sr<|WOL.as rfl<|WOL.nil<|keep [(0,_)] ⟨rfl,trivial⟩ ?_
 refine WL.sr<|WOL.mv rfl<|WOL.cl1 rfl rfl ((k147 H x _).mono ?_)
 rintro v h2 ⟨rfl,rfl⟩
 refine WOL.nt rfl<|WOL.cl2 rfl rfl rfl ((k77 H _ _ _).mono ?_)
 rintro v h3 ⟨rfl,rfl⟩
 exact WOL.as rfl<|WOL.nil<|WL.ret (WL.end_ rfl ⟨rfl,rfl⟩)
theorem k1311 (H:Has tp) (s:SlL encI 1 h v L) (hl:L.length≤1000000) (f:Free0 h.next h) :
  CallW Tryz.prog tp (.func (.func 90) #[] #[]) #[v] h fun u h'=>HX h h'∧AnsF (sgE L) (sgL L) h.next h' u:=by
 refine CallW.fnL (H.fn 90 f1311 rfl rfl) ?_
 refine WL.sr<|WOL.as rfl<|WOL.as rfl<|WOL.nil<|keep [(0,_)] ⟨rfl,trivial⟩ ?_
 refine WL.sr<|WOL.as rfl<|WOL.nil<|keep [(0,_),(4,_)] ⟨rfl,rfl,trivial⟩ ?_
 refine WL.seq<|WL.sr<|WOL.mv rfl<|WOL.mv rfl<|WOL.cl2 rfl rfl rfl ((k1190 H s hl (fun x=>k1352 H x h)).mono ?_)
 rintro u g ⟨rfl,rfl⟩
 rw [fNZ_const (c:=4) (by decide)]
 refine WOL.as rfl<|WOL.nil<|keep [(0,_),(5,_)] ⟨rfl,rfl,trivial⟩ ?_
 unfold sgE sgL
 cases hb:L.any fun n=>!okI n with
 | true =>
  refine WL.sr<|WOL.mv rfl<|WOL.bt rfl rfl rfl rfl<|WOL.nil<|WL.yes rfl<|WL.sr<|WOL.mv rfl<|WOL.as rfl<|WOL.as rfl<|WOL.nil ?_
  exact WL.ret (WL.end_ rfl ⟨HX.refl _,AnsF.err⟩)
 | false =>
  refine WL.sr<|WOL.mv rfl<|WOL.bf rfl rfl rfl rfl<|WOL.nil<|WL.no rfl<|WL.skip ?_
  refine WL.sr<|WOL.mv rfl<|WOL.cl2 rfl rfl rfl ((k1353 H s hl f (any_notI hb)).mono ?_)
  rintro u g2 ⟨X,c,rfl,hc,A⟩
  exact WOL.as rfl<|WOL.as rfl<|WOL.nil<|WL.ret (WL.end_ rfl ⟨X,_,_,_,L.map smp,rfl,SlL.own eF A (List.length_map ..),lev_smpI (any_notI hb),fun z hz=>by cases hz;exact hc⟩)
end
end Go.Tidy
namespace Go.Tidy
open Go Go.Proofs Tab
variable {tp:TProg}
def pairE (m n:Nat) (es es':List Int):Int:=firstNZ [sigE m es,sigE n es',cond ((m:Int) != (n:Int)) 2 0]
def RF (h:TH) (v:Value) (L:List Int):Prop:=∃ F,SlL encF 1 h v F∧Lev F L
theorem RF.hx {h h':TH} {v:Value} {L:List Int} (r:RF h v L) (x:HX h h'):RF h' v L:=by
 obtain ⟨F,h1,h2⟩:=r
 exact ⟨F,h1.hx x,h2⟩
theorem RF.nil {h:TH}:RF h (.slice none 0 0) []:=⟨[],SlL.nil,rfl,fun i b n h=>by cases h⟩
theorem AnsF.form {e:Int} {L:List Int} {n0:Nat} {h':TH} {v:Value} (a:AnsF e L n0 h' v):∃ u,v=.tuple #[u,zi e]∧RF h' u L:=by
 obtain ⟨b,m,c,F,h1,h2,h3,_⟩:=a
 exact ⟨_,h1,F,h2,h3⟩
section
variable {h:TH} {v w fv:Value} {F G:List Nat} {es es' L M A B:List Int} {φ:Int→Int→Int}
theorem k58r (H:Has tp) (r:RF h v L) (s:RF h w L) (hl:L.length≤1000000):CallW Tryz.prog tp (.func (.func 22) #[] #[]) #[v,w] h fun v' h'=>v'=.bool true∧h'=h:=by
 obtain ⟨F,s1,l1⟩:=r
 obtain ⟨G,s2,l2⟩:=s
 exact k58 H s1 s2 l1 l2 (by rw [l1.1];exact hl)
theorem zw_get {i:Nat} {x y:Int} (h1:A[i]?=some x) (h2:B[i]?=some y):(List.zipWith φ A B)[i]?=some (φ x y):=by
 rw [List.getElem?_zipWith,h1,h2]
theorem k1332 (H:Has tp) (s:SlL encI 1 h v A) (t:SlL encI 1 h w B) (hl:A.length≤1000000) (hab:A.length≤B.length) (f:Free0 h.next h) (hf:∀ x y,x ∈ A→y ∈ B→∀ g,HX h g→CallW Tryz.prog tp fv #[zi x,zi y] g fun u g'=>u=zi (φ x y)∧HX g g') :
  CallW Tryz.prog tp (.func (.func 123) #[] #[]) #[v,w,fv] h fun w h'=>HX h h'∧∃ c,w=slA c A.length∧h.next≤c∧At h' c (.cells (cat encI (List.zipWith φ A B)) true true 3):=by
 refine CallW.fnL (H.fn 123 f1332 rfl rfl) ?_
 refine WL.sr<|WOL.as rfl<|WOL.nil ?_
 have lE:(List.zipWith φ A B).length=A.length:=by rw [List.length_zipWith];omega
 refine WL.sr<|WOL.mv rfl<|WOL.len rfl s u29<|WOL.ms (m:=A.length) rfl rfl u29 tp3 (by decide) (by omega) fun h1 N1=>WOL.as rfl<|WOL.nil<|keep [(0,_),(1,_),(2,_),(7,_)] ⟨rfl,rfl,rfl,rfl,trivial⟩ ?_
 have q1:=N1.next
 have W0:=N1.at_
 rw [rep_flat,← cat_rep (enc:=encI) (x:=0) rfl,← lE,← fill_zero (List.zipWith φ A B)] at W0
 refine WL.seq<|WL.sr<|WOL.mv rfl<|WOL.len rfl (s.hx N1.hx) u29<|WOL.mv rfl<|WOL.nil<|keep [(1,_),(2,_),(7,_),(13,_),(14,_),(15,_)] ⟨rfl,rfl,rfl,rfl,rfl,rfl,trivial⟩ ?_
 refine WL.upto (α:=Unit) A.length (fun j _ g'=>HX h g'∧h1.next≤g'.next∧At g' h.next (.cells (cat encI ((List.zipWith φ A B).take j ++ List.replicate ((List.zipWith φ A B).length - j) 0)) true true 3)) (fun _ _=>[(1,w),(2,fv),(7,slA h.next A.length),(13,v),(14,zi (A.length:Nat))]) () rfl rfl (by omega) ⟨N1.hx,Nat.le_refl _,W0⟩ ⟨rfl,rfl,rfl,rfl,rfl,rfl,trivial⟩ (fun _ _=>rfl) (fun _ _ _=>⟨rfl,rfl,rfl,rfl,rfl,rfl,trivial⟩) (fun _ _ _=>⟨rfl,rfl,rfl,rfl,rfl,rfl,trivial⟩) ?_ ?_
 ·rintro i _ g' hi ⟨X,nx,Wd⟩
  have hp:A[i]?=some A[i]:=List.getElem?_eq_getElem hi
  have hq:B[i]?=some (B[i]'(by omega)):=List.getElem?_eq_getElem _
  have hi':i < (List.zipWith φ A B).length:=by omega
  have hm:(List.zipWith φ A B)[i]=φ A[i] (B[i]'(by omega)):=List.getElem_zipWith ..
  obtain ⟨_,_,cc,fix,wr,el,g1,g2,g3,g4,g5⟩:=(s.hx X).at eI u29 tp3 hp .i64
  obtain ⟨_,_,cc',fix',wr',el',e1,e2,e3,e4,e5⟩:=(t.hx X).at eI u29 tp3 hq .i64
  have gx:=g5 0 (by decide)
  have gy:=e5 0 (by decide)
  rw [Nat.add_zero] at gx gy
  refine WL.sr<|WOL.mv rfl<|WOL.ix rfl rfl g1<|WOL.ld rfl (load_one tp3 g2 gx)<|WOL.as rfl<|WOL.as rfl<|WOL.nil<|keep [(1,_),(2,_),(7,_),(8,_),(9,_),(13,_),(14,_),(15,_)] ⟨rfl,rfl,rfl,rfl,rfl,rfl,rfl,rfl,trivial⟩ ?_
  refine WL.reg<|WOL.mv rfl<|WOL.mv rfl<|WOL.mv rfl<|WOL.mv rfl<|WOL.mv rfl<|WOL.mv rfl<|WOL.ix rfl rfl e1<|WOL.ld rfl (load_one tp3 e2 gy)<|WOL.cl2 rfl rfl rfl ((hf _ _ (List.mem_of_getElem? hp) (List.mem_of_getElem? hq) g' X).mono ?_)
  rintro u g2 ⟨rfl,X2⟩
  have n2:=X2.next
  refine WOL.ix rfl rfl (indexAddr_tp (j:=i) u29 tp3 hi)<|WOL.sto (vs:=encI (φ A[i] (B[i]'(by omega)))) rfl rfl tp3 (Wd.hx X2) rfl rfl (by rw [eI.cat_len,fill_len _ _ _ (by omega)];omega) rfl (f.hx (X.trans X2)) (by omega) fun h5 P5=>WOL.nil fun y k=>⟨(),⟨P5.hx _ (X.trans X2) (by omega),by rw [P5.next];omega,?_⟩,k.sub ⟨rfl,rfl,rfl,rfl,rfl,rfl,trivial⟩⟩
  have:=P5.at_
  rw [Nat.zero_add,eI.set (by rw [fill_len _ _ _ (by omega)];omega),← hm,fill_set (List.zipWith φ A B) _ i hi'] at this
  exact this
 ·rintro _ g' ⟨X,nx,Wd⟩
  rw [← lE,fill_all] at Wd
  exact WL.sr<|WOL.mv rfl<|WOL.as rfl<|WOL.nil<|WL.ret (WL.end_ rfl ⟨X,_,rfl,by omega,Wd⟩)
theorem k1342 (H:Has tp) (m n:Int) (h:TH):CallW Tryz.prog tp (.func (.func 127) #[] #[]) #[zi m,zi n] h fun v h'=>v=zi (cond (m != n) 2 0)∧h'=h:=by
 refine CallW.fnL (H.fn 127 f1342 rfl rfl) ?_
 refine WL.sr<|WOL.as rfl<|WOL.nil<|keep [(0,_),(1,_)] ⟨rfl,rfl,trivial⟩ ?_
 refine WL.sr<|WOL.mv rfl<|WOL.mv rfl<|WOL.bi (v:=.bool (m != n)) rfl rfl rfl<|WOL.cl2 rfl rfl rfl ((k77 H _ _ _).mono ?_)
 rintro v h2 ⟨rfl,rfl⟩
 exact WOL.as rfl<|WOL.nil<|WL.ret (WL.end_ rfl ⟨rfl,rfl⟩)
theorem k1316 (H:Has tp) (X:HasX tp) (s:SlL encF 1 h v F) (t:SlL encF 1 h w G) (hE:SErr F es) (hE':SErr G es') (hF:F.length≤1000000) (hG:G.length≤1000000):CallW Tryz.prog tp (.func (.func 125) #[] #[]) #[v,w] h fun u h'=>u=zi (pairE F.length G.length es es')∧HX h h':=by
 refine CallW.fnL (H.fn 125 f1316 rfl rfl) ?_
 refine WL.sr<|WOL.as rfl<|WOL.nil<|keep [(0,_),(1,_)] ⟨rfl,rfl,trivial⟩ ?_
 refine WL.sr<|WOL.mv rfl<|WOL.cl1 rfl rfl ((k1268 H X s hE hF).mono ?_)
 rintro u h2 ⟨rfl,rfl⟩
 refine WOL.mv rfl<|WOL.cl1 rfl rfl ((k1268 H X t hE' hG).mono ?_)
 rintro u h3 ⟨rfl,rfl⟩
 refine WOL.mv rfl<|WOL.len rfl s u43<|WOL.mv rfl<|WOL.len rfl t u43<|WOL.cl2 rfl rfl rfl ((k1342 H _ _ _).mono ?_)
 rintro u h4 ⟨rfl,rfl⟩
 refine WOL.bsl rfl u166 tp30 (by decide) (by decide) (by decide) (filled_ints3 _ _ _) fun h5 N5=>WOL.cl1 rfl rfl ((k71 H (l:=[_,_,_]) N5.at_.get (by simp)).mono ?_)
 rintro v h6 ⟨rfl,rfl⟩
 exact WOL.as rfl<|WOL.nil<|WL.ret (WL.end_ rfl ⟨rfl,N5.hx⟩)
end
end Go.Tidy
namespace Go.Tidy
open Go Go.Proofs Tab
variable {tp:TProg}
theorem at_getD {w:List Int} {i:Nat} (hi:i < w.length):w[i]?=some (w.getD i 0):=by
 rw [List.getD_eq_getElem?_getD,List.getElem?_eq_getElem hi];rfl
section
variable {h:TH} {v w:Value} {L M:List Int}
theorem k18L (H:Has tp) (s:SlL encI 1 h v L) (r:SlL encI 1 h w M) (hl:L.length≤1000000) (hm:M.length≤1000000):CallW Tryz.prog tp (.func (.func 68) #[] #[]) #[v,w] h fun u h'=>u=.bool (decide (L=M))∧h'=h:=by
  refine CallW.fnL (H.fn 68 f18 rfl rfl) ?_
  refine WL.sr<|WOL.as rfl<|WOL.nil<|keep [(0,_),(1,_)] ⟨rfl,rfl,trivial⟩ ?_
  by_cases c:(L.length:Int)=(M.length:Int)
  · refine WL.seq<|WL.sr<|WOL.mv rfl<|WOL.len rfl s u29<|WOL.mv rfl<|WOL.len rfl r u29<|WOL.bf rfl rfl rfl (bne_eq_false_iff_eq.2 c)<|WOL.nil<|keep [(0,_),(1,_),(10,_)] ⟨rfl,rfl,rfl,trivial⟩<|WL.no rfl<|WL.skip ?_
    refine WL.seq<|WL.sr<|WOL.as rfl<|WOL.nil<|keep [(0,_),(1,_),(5,_)] ⟨rfl,rfl,rfl,trivial⟩ ?_
    refine WL.forz (α:=Unit) L.length (fun j _ g=>g=h∧∀ i,i < j→L[i]?=M[i]?) (fun j _=>[(0,v),(1,w),(5,zi (j:Nat))]) (fun j _=>[(0,v),(1,w),(5,zi (j:Nat))]) () ⟨rfl,fun i hi=>absurd hi (by omega)⟩ ⟨rfl,rfl,rfl,trivial⟩ ?_ ?_ (fun _ _ _=>⟨rfl,rfl,rfl,trivial⟩) ?_ ?_
    · rintro j _ g hj ⟨rfl,_⟩
      exact WOL.mv rfl<|WOL.mv rfl<|WOL.len rfl s u29<|WOL.bi rfl rfl rfl<|WOL.nil fun a q=>⟨rfl,q.sub ⟨rfl,rfl,rfl,rfl,trivial⟩⟩
    · rintro j _ g hj hH
      exact WOL.mv rfl<|WOL.inc rfl (by omega)<|WOL.as rfl<|WOL.nil fun a q=>⟨hH,q.sub ⟨rfl,rfl,rfl,trivial⟩⟩
    · rintro j _ g hj ⟨rfl,hz⟩
      have e1:L[j]?=some (L.getD j 0):=at_getD hj
      have e2:M[j]?=some (M.getD j 0):=at_getD (by omega)
      obtain ⟨_,_,ca,fa,wa,ela,a1,a2,a3,a4,a5⟩:=s.at eI u29 tp3 e1 .i64
      obtain ⟨_,_,cb,fb,wb,elb,b1,b2,b3,b4,b5⟩:=r.at eI u29 tp3 e2 .i64
      have gxa:=a5 0 (by decide)
      have gxb:=b5 0 (by decide)
      rw [Nat.add_zero] at gxa gxb
      refine WL.sr<|WOL.mv rfl<|WOL.mv rfl<|WOL.ix rfl rfl a1<|WOL.ld rfl (load_one tp3 a2 gxa)<|WOL.mv rfl<|WOL.mv rfl<|WOL.ix rfl rfl b1<|WOL.ld rfl (load_one tp3 b2 gxb) ?_
      by_cases h0:L.getD j 0=M.getD j 0
      · refine WOL.bf rfl rfl rfl (bne_eq_false_iff_eq.2 h0)<|WOL.nil<|WL.no rfl<|WL.skip fun a k=>⟨(),⟨rfl,fun i hi=>?_⟩,k.sub ⟨rfl,rfl,rfl,trivial⟩⟩
        by_cases e:i=j
        · subst e;rw [e1,e2,h0]
        · exact hz i (by omega)
      · refine WOL.bt rfl rfl rfl (bne_iff_ne.2 h0)<|WOL.nil<|WL.yes rfl<|WL.sr<|WOL.as rfl<|WOL.nil ?_
        exact WL.ret (WL.end_ rfl ⟨by rw [decide_eq_false (fun e:L=M=>h0 (by rw [e]))];rfl,rfl⟩)
    · rintro _ g ⟨rfl,hz⟩
      have e:L=M:=List.ext_getElem? fun i=>by
        by_cases hi:i < L.length
        · exact hz i hi
        · rw [List.getElem?_eq_none (by omega),List.getElem?_eq_none (by omega)]
      exact WL.sr<|WOL.as rfl<|WOL.nil<|WL.ret (WL.end_ rfl ⟨by rw [decide_eq_true e];rfl,rfl⟩)
  · refine WL.seq<|WL.sr<|WOL.mv rfl<|WOL.len rfl s u29<|WOL.mv rfl<|WOL.len rfl r u29<|WOL.bt rfl rfl rfl (bne_iff_ne.2 c)<|WOL.nil<|WL.yes rfl<|WL.sr<|WOL.as rfl<|WOL.nil ?_
    exact WL.ret (WL.end_ rfl ⟨by rw [decide_eq_false (fun e:L=M=>c (by rw [e]))];rfl,rfl⟩)
end
end Go.Tidy
namespace Go.Tidy
open Go Go.Proofs Tab
variable {tp:TProg}
theorem TrcO.relock {n0 bv:Nat} {g:TH} {w:Value} {L:List Int} {S:List (Int × Int)} (r:TrcO n0 g bv w L S) (M:List Nat):TrcO n0 (g.withLock M) bv w L S:=⟨r.v.relock _,r.s.keep fun z y hz a=>a.relock _⟩
section
variable {h:TH} {n n' a b:Int} {v1 v2 w1 w2:Value} {L L':List Int} {S S':List (Int × Int)}
end
end Go.Tidy
namespace Go.Tidy
open Go Go.Proofs Tab
variable {tp:TProg}
section
variable {h:TH} {n n':Int} {p q:Nat} {v1 v2 w1 w2:Value} {L L':List Int} {S S':List (Int × Int)}
theorem knownL_getD {S:List (Int × Int)} {m i:Nat} (hi:i < m):(knownL S m).getD i false=knownB S (i:Nat):=by
 rw [List.getD_eq_getElem?_getD,knownL_get hi];rfl
end
end Go.Tidy
namespace Go.Tidy
open Go Go.Proofs Tab
section
variable {C:List (Int × Bool)} {n:Int}
theorem valC_len:(valC C).length=C.length:=by unfold valC;rw [List.length_map]
theorem valC_getD {i:Nat}:(valC C).getD i 0=cond (C.getD i (0,false)).2 (C.getD i (0,false)).1 0:=by
 unfold valC
 rw [List.getD_eq_getElem?_getD,List.getD_eq_getElem?_getD,List.getElem?_map]
 cases C[i]? <;> rfl
theorem holesC_known {i:Nat} (hi:i < C.length):knownB (holesOf (C.map fun c=>c.2)) (i:Nat)=(C.getD i (0,false)).2:=by
 have k:=known_holes (C.map fun c=>c.2)
 rw [List.length_map] at k
 rw [← knownL_getD hi,k,List.getD_eq_getElem?_getD,List.getD_eq_getElem?_getD,List.getElem?_map]
 cases C[i]? <;> rfl
theorem traceE_made (hb:bigC C=false) (h0:0≤n) (hl:C.length≤4096) (h1:n+(C.length:Nat)≤100000000):traceE n (valC C) (holesOf (C.map fun c=>c.2))=0:=by
 have ho:=holes_ok (C.map fun c=>c.2)
 rw [List.length_map] at ho
 have hr:firstNZ ((valC C).map readE)=0:=by
  refine firstNZ_all fun x hx=>?_
  obtain ⟨y,hy,rfl⟩:=List.mem_map.1 hx
  rw [bigC_val,List.any_eq_false] at hb
  have:=hb y hy
  unfold largeB at this
  exact bne_eq_false_iff_eq.1 (by cases h:(readE y != 0) with
   | false=>rfl
   | true=>exact absurd h this)
 have hf:formE (valC C) (holesOf (C.map fun c=>c.2))=0:=by
  unfold formE
  cases hb:(holesOf (C.map fun c=>c.2)).any (anyIn (valC C)) with
  | false=>rfl
  | true =>
   obtain ⟨j,x,hj,hx,hk⟩:=(form_iff (holeE_in ho)).1 hb
   have hj':j < C.length:=by have:=(List.getElem?_eq_some_iff.1 hj).1;rwa [valC_len] at this
   rw [holesC_known hj'] at hk
   have e:(valC C).getD j 0=x:=by rw [List.getD_eq_getElem?_getD,hj];rfl
   rw [valC_getD,hk] at e
   exact absurd e.symm hx
 unfold traceE
 rw [valC_len,hr,ho,hf]
 unfold outB
 rw [decide_eq_false (by omega:¬ n < 0),decide_eq_false (by omega:¬ n > 100000000),decide_eq_false (by omega:¬ (C.length:Int) > 4096),decide_eq_false (by omega:¬ n+(C.length:Int) > 100000000)]
 rfl
end
section
variable {L:List Int} {S:List (Int × Int)} {M c p q j:Nat}
theorem fold_taps {V:List Int} {st:Nat} {w X:Nat→Int}:∀ (l:List Nat) (s:Int),(∀ i,i ∈ l→V.getD (j+i*st) 0=X i)→tapN V j (l.map fun i=>(i*st,w i)) s=l.foldl (fun s i=>s+w i*X i) s
 | [],s,_=>rfl
 | i::l,s,h=>by
  show tapN V j (l.map fun i=>(i*st,w i)) (s+w i*V.getD (j+i*st) 0)=l.foldl _ (s+w i*X i)
  rw [h i (List.mem_cons_self ..)]
  exact fold_taps l _ fun i hi=>h i (List.mem_cons_of_mem _ hi)
theorem vTn_val {p q:Nat}:tapN L j (vTn p q) 0=-(q:Int)*L.getD j 0+((p:Int)+q)*L.getD (j+p) 0 - (p:Int)*L.getD (j+(p+q)) 0:=by
 show 0+-(q:Int)*L.getD (j+0) 0+((p:Int)+q)*L.getD (j+p) 0+-(p:Int)*L.getD (j+(p+q)) 0=_
 rw [Int.neg_mul (p:Int),Nat.add_zero]
 omega
theorem mulb {w x:Int} {a b:Nat} (h1:w.natAbs≤a) (h2:x.natAbs≤b):(w*x).natAbs≤a*b:=by
 rw [Int.natAbs_mul]
 exact Nat.mul_le_mul h1 h2
theorem vers_lim (hp:p≤20) (hq:q≤20) (hL:∀ j,-20000≤L.getD j 0∧L.getD j 0≤20000):largeB (tapN L j (vTn p q) 0)=false:=by
 rw [vTn_val]
 have h1:=hL j
 have h2:=hL (j+p)
 have h3:=hL (j+(p+q))
 have b1:=mulb (w:=-(q:Int)) (x:=L.getD j 0) (a:=20) (b:=20000) (by omega) (by omega)
 have b2:=mulb (w:=(p:Int)+q) (x:=L.getD (j+p) 0) (a:=40) (b:=20000) (by omega) (by omega)
 have b3:=mulb (w:=(p:Int)) (x:=L.getD (j+(p+q)) 0) (a:=20) (b:=20000) (by omega) (by omega)
 generalize -(q:Int)*L.getD j 0=x1 at *
 generalize ((p:Int)+q)*L.getD (j+p) 0=x2 at *
 generalize (p:Int)*L.getD (j+(p+q)) 0=x3 at *
 unfold largeB readE outB
 rw [decide_eq_false (by omega),decide_eq_false (by omega)]
 rfl
theorem big_not {T:List (Nat × Int)} (h:∀ i,i < M→tapK S i T=true→largeB (tapN L i T 0)=false):bigC (tapC L S T M)=false:=by
 unfold bigC
 rw [List.any_eq_false]
 intro c hc
 obtain ⟨i,hi,rfl⟩:=List.mem_map.1 hc
 have hi:=List.mem_range.1 hi
 show ¬ (tapK S i T && largeB (tapN L i T 0))=true
 cases k:tapK S i T with
 | false=>exact Bool.false_ne_true
 | true=>rw [h i hi k];decide
theorem vers_small (hp:p≤20) (hq:q≤20) (hL:∀ j,-20000≤L.getD j 0∧L.getD j 0≤20000):bigC (tapC L S (vTn p q) M)=false:=big_not fun i _ _=>vers_lim hp hq hL
end
end Go.Tidy
namespace Go.Tidy
open Go Go.Proofs Tab
variable {tp:TProg}
def z4:List (Int × Int):=[(0,0),(0,0),(0,0),(0,0)]
section
variable {h:TH} {n z:Int} {v1 v2:Value} {L:List Int} {S:List (Int × Int)}
end
end Go.Tidy
namespace Go.Tidy
open Go Go.Proofs Tab
variable {tp:TProg}
theorem sliceT_arr {P:Program} {t e:TypeId} {z:List Value} {row wr:Bool} {n k b:Nat} {h:TH} {cc:List Value} {el:TypeId} (hu:P.underlying t=some (.array k e)) (he:Tp P e n z row) (hb:At h b (.cells cc true wr el)):sliceT P t (.pointer (some ⟨b,0,none⟩)) none none none h=some (.slice (some ⟨b,0,none⟩) k k):=by
 obtain ⟨inf,q1,q2,q3,_⟩:=he.i
 have hcut:cut3 k k none none none=some (0,k,k):=by
  simp only [cut3,show ∀ x y,boundT none x y=some x from fun _ _=>rfl,Option.bind_some,Option.isNone_none,Option.isSome_none,Bool.and_false,Bool.cond_false,Option.map_some]
 simp only [sliceT,hu,hcut,Option.bind_some,q1,hb.get,Nat.zero_mul,Nat.add_zero,Nat.sub_zero]
section
variable {h:TH} {n z:Int} {v1 v2:Value} {L:List Int} {S:List (Int × Int)}
end
end Go.Tidy
namespace Go.Tidy
open Go Go.Proofs Tab
variable {tp:TProg}
theorem ProgR.ok {n e:Int} {C:List (Int × Bool)} {n0:Nat} {g:TH} {v:Value} (r:ProgR n e C n0 g v) (he:e=0) (hb:bigC C=false):∃ bv b2 m2 k2,v=.tuple #[trcV n (slA bv C.length) (.slice b2 m2 k2),zi 0]∧n0≤bv∧TrcO n0 g bv (.slice b2 m2 k2) (valC C) (holesOf (C.map fun c=>c.2)):=by
 rcases r with ⟨h1,_⟩ | ⟨_,h1,_⟩ | ⟨_,_,bv,w,h2,h3,h4⟩
 ·exact absurd he h1
 ·rw [hb] at h1;cases h1
 ·obtain ⟨b2,m2,k2,rfl⟩:=h4.form
  exact ⟨bv,b2,m2,k2,h2,h3,h4⟩
theorem TrcO.trcC {n0 bv:Nat} {g:TH} {w:Value} {C:List (Int × Bool)} {S:List (Int × Int)} (r:TrcO n0 g bv w (valC C) S):TrcH g (slA bv C.length) w (valC C) S:=by
 have:=r.trc
 rwa [valC_len] at this
theorem chordE_in {a b:Int} (h1:1≤a) (h2:a≤32) (h3:1≤b) (h4:b≤32):chordE a b=0:=by
 unfold chordE outB
 rw [decide_eq_false (by omega:¬ a < 1),decide_eq_false (by omega:¬ a > 32),decide_eq_false (by omega:¬ b < 1),decide_eq_false (by omega:¬ b > 32)]
 rfl
theorem errV_in {E:Int} {m w:Nat} (h:E=0) (h2:w < m):errV E m w=0:=by
 rw [h,errV_ok,decide_eq_false (by omega)];rfl
section
variable {h h0:TH} {n:Int} {v1 v2:Value} {L:List Int} {S:List (Int × Int)} {c3 c4 p q z:Nat}
end
end Go.Tidy
namespace Go.Tidy
open Go Go.Proofs Tab
variable {tp:TProg}
theorem ProgR.err {n e:Int} {C:List (Int × Bool)} {n0:Nat} {g:TH} {v:Value} (r:ProgR n e C n0 g v) (he:e≠0):v=.tuple #[trcV 0 (.slice none 0 0) (.slice none 0 0),zi e]:=by
 rcases r with ⟨_,h⟩ | ⟨h,_⟩ | ⟨h,_⟩
 ·exact h
 ·exact absurd h he
 ·exact absurd h he
section
variable {hb h0:TH} {n:Int} {v1 v2 w1 w2 y1 y2:Value} {L1 L2:List Int} {S1 S2:List (Int × Int)} {p j c4 c20 cf k cc wd:Nat} {T:List (Nat × Int)} {lf:List Value} {fix wr:Bool} {Q:Exit→Regs→TH→Prop} {z5 z22:Value}
end
end Go.Tidy
namespace Go.Tidy
open Go Go.Proofs Tab
variable {tp:TProg}
theorem tapK_nil {T:List (Nat × Int)} {i:Nat}:tapK [] i T=true:=List.all_eq_true.2 fun _ _=>rfl
section
variable {h h0:TH} {x y:Int} {p c5 c22:Nat}
end
end Go.Tidy
namespace Go.Tidy
open Go Go.Proofs Tab
variable {tp:TProg}
theorem RevR.ok {n p e:Int} {L:List Int} {S:List (Int × Int)} {n0:Nat} {g:TH} {v:Value} (r:RevR n p e L S n0 g v) (he:e=0) (h0:0≤2*p+1 - (n+L.length)) (h1:2*p+1 - (n+L.length)+L.length≤100000000):∃ bv b2 m2 k2,v=.tuple #[trcV (2*p+1 - (n+L.length)) (slA bv L.length) (.slice b2 m2 k2),zi 0]∧n0≤bv∧TrcO n0 g bv (.slice b2 m2 k2) L.reverse (holesOf (knownL S L.length).reverse):=by
 rcases r with ⟨q,_⟩ | ⟨_,q,_⟩ | ⟨_,_,_,bv,w,q2,q3,q4⟩
 ·exact absurd he q
 ·omega
 ·obtain ⟨b2,m2,k2,rfl⟩:=q4.form
  exact ⟨bv,b2,m2,k2,q2,q3,q4⟩
section
variable {h h0:TH} {x y n:Int} {p q c3 c4 c5:Nat} {v1 v2 w1 w2:Value} {L1 L2:List Int} {S1 S2:List (Int × Int)}
end
end Go.Tidy
namespace Go.Tidy
open Go Go.Proofs Tab
variable {tp:TProg}
def cE (E:Int) (D:List Int):Int:=if E≠0 then E else sgE D
def cL (E:Int) (D:List Int):List Int:=if E≠0 then [] else sgL D
theorem cE_no {E:Int} {D:List Int} (h:E≠0):cE E D=E:=if_pos h
theorem cL_no {E:Int} {D:List Int} (h:E≠0):cL E D=[]:=if_pos h
theorem cE_0 {D:List Int}:cE 0 D=sgE D:=rfl
theorem cL_0 {D:List Int}:cL 0 D=sgL D:=rfl
theorem pair_ok {m n:Nat} {es es':List Int} (h:pairE m n es es'=0):(m≤4096∧firstNZ es=0)∧firstNZ es'=0∧m=n:=by
 have z:=firstNZ_zero h
 have z1:=sigE_short (z _ (List.mem_cons_self ..))
 have z2:=sigE_short (z (sigE n es') (by simp))
 have z3:=z (cond ((m:Int) != (n:Int)) 2 0) (by simp)
 refine ⟨z1,z2.2,?_⟩
 by_cases c:(m:Int)=(n:Int)
 ·omega
 ·rw [bne_iff_ne.2 c] at z3;exact absurd (show (2:Int)=0 from z3) (by decide)
theorem lev_limI {F:List Nat} {L:List Int} (h:Lev F L):∀ x,x ∈ L→x.natAbs≤16384:=fun x hx=>by
 obtain ⟨i,hi⟩:=List.mem_iff_getElem?.1 hx
 have hlt:=(List.getElem?_eq_some_iff.1 hi).1
 have hF:i < F.length:=by rw [h.1];exact hlt
 exact (h.2 i _ _ (List.getElem?_eq_getElem hF) hi).lim
section
variable {h:TH} {v w fv:Value} {F G:List Nat} {es es' L M A B D:List Int} {n z:Int}
end
end Go.Tidy
namespace Go.Tidy
open Go Go.Proofs Tab
variable {tp:TProg}
def mxL (D M:List Int) (j:Nat):List Int:=(List.range M.length).map fun i=>if i < j then D.getD i 0 else M.getD i 0
section
variable {D M:List Int} {i j:Nat}
theorem mx_len:(mxL D M j).length=M.length:=by unfold mxL;rw [List.length_map,List.length_range]
theorem mx_get (h:i < M.length):(mxL D M j)[i]?=some (if i < j then D.getD i 0 else M.getD i 0):=by
 unfold mxL
 rw [tbl_get,if_pos h]
theorem mx_zero:mxL D M 0=M:=List.ext_getElem? fun i=>by
 by_cases h:i < M.length
 ·rw [mx_get h,if_neg (by omega),← at_getD h]
 ·rw [List.getElem?_eq_none (by rw [mx_len];omega),List.getElem?_eq_none (by omega)]
theorem mx_all (e:D.length=M.length):mxL D M M.length=D:=List.ext_getElem? fun i=>by
 by_cases h:i < M.length
 ·rw [mx_get h,if_pos h,← at_getD (by omega)]
 ·rw [List.getElem?_eq_none (by rw [mx_len];omega),List.getElem?_eq_none (by omega)]
theorem mx_set (h:j < M.length):(mxL D M j).set j (D.getD j 0)=mxL D M (j+1):=List.ext_getElem? fun i=>by
 by_cases e:i=j
 ·subst e
  rw [List.getElem?_set_self (by rw [mx_len];exact h),mx_get h,if_pos (by omega)]
 ·rw [List.getElem?_set_ne (fun c=>e c.symm)]
  by_cases h':i < M.length
  ·rw [mx_get h',mx_get h']
   by_cases c:i < j
   ·rw [if_pos c,if_pos (by omega)]
   ·rw [if_neg c,if_neg (by omega)]
  ·rw [List.getElem?_eq_none (by rw [mx_len];omega),List.getElem?_eq_none (by rw [mx_len];omega)]
end
section
variable {h:TH} {v w fv:Value} {F G:List Nat} {es es' L M A B D:List Int} {n z:Int}
theorem own_at {n0:Nat} {g:TH} {v:Value} {D:List Int} (O:OwnL encI n0 g v 3 D) {j:Nat} (hj:j < D.length):∃ b,v=slA b D.length∧n0≤b∧At g b (.cells (cat encI D) false true 3):=by
 rcases O with ⟨_,rfl⟩ | ⟨_,b,h1,h2,h3⟩
 ·exact absurd hj (Nat.not_lt_zero _)
 ·exact ⟨b,h1,h2,h3⟩
end
end Go.Tidy
namespace Go.Tidy
open Go Go.Proofs Tab
variable {tp:TProg}
section
variable {h:TH} {v w v7 v9 v11 v16 v17 v18:Value} {F G:List Nat} {es es' L M D1 D2 D3:List Int} {n0 n1 z e1 e2 e3 E1 E2 E3:Int} {c5:Nat}
def gaO (E:Int) (D:List Int):List Int:=if E≠0 then [] else D
end
theorem val_fls {v:Value}:valOf Tryz.prog 25 [v]=v:=by unfold valOf;rw [Tryz.underlying25];rfl
end Go.Tidy
namespace Go.Tidy
open Go Go.Proofs Tab
variable {tp:TProg}
def benL (L:List Int):List Int:=(List.range (L.length - 2)).map fun k=>L.getD k 0 - 2*L.getD (k+1) 0+L.getD (k+2) 0
def wtI:Nat→Int
 | 0=>1
 | 1=>-2
 | _=>1
def bp (L:List Int) (i:Nat):Nat→Int
 | 0=>0
 | k+1=>bp L i k+wtI k*L.getD (i+k) 0
section
variable {L D Z:List Int} {i k:Nat}
theorem ben_len:(benL L).length=L.length - 2:=by unfold benL;rw [List.length_map,List.length_range]
theorem ben_get (h:i < L.length - 2):(benL L).getD i 0=L.getD i 0 - 2*L.getD (i+1) 0+L.getD (i+2) 0:=by
 rw [List.getD_eq_getElem?_getD];unfold benL;rw [tbl_get,if_pos h];rfl
theorem bp3 (h:i < L.length - 2):bp L i 3=(benL L).getD i 0:=by
 rw [ben_get h]
 show 0+1*L.getD (i+0) 0+(-2)*L.getD (i+1) 0+1*L.getD (i+2) 0=_
 rw [Nat.add_zero];omega
theorem bp_lim (hl:∀ j,(L.getD j 0).natAbs≤16384) (hk:k≤3):(bp L i k).natAbs≤100000:=by
 have a0:=hl (i+0)
 have a1:=hl (i+1)
 have a2:=hl (i+2)
 match k,hk with
 | 0,_=>show (0:Int).natAbs≤_;omega
 | 1,_=>show (0+1*L.getD (i+0) 0).natAbs≤_;omega
 | 2,_=>show (0+1*L.getD (i+0) 0+(-2)*L.getD (i+1) 0).natAbs≤_;omega
 | 3,_=>show (0+1*L.getD (i+0) 0+(-2)*L.getD (i+1) 0+1*L.getD (i+2) 0).natAbs≤_;omega
theorem lev_getD {F:List Nat} (h:Lev F L) (j:Nat):(L.getD j 0).natAbs≤16384:=by
 by_cases hj:j < L.length
 ·exact lev_limI h _ (List.mem_of_getElem? (at_getD hj))
 ·rw [List.getD_eq_getElem?_getD,List.getElem?_eq_none (by omega)];decide
theorem set_same {l:List Int} {i:Nat} {x:Int} (h:l[i]?=some x):l.set i x=l:=List.ext_getElem? fun j=>by
 have hlt:=(List.getElem?_eq_some_iff.1 h).1
 by_cases e:i=j
 ·subst e;rw [List.getElem?_set_self hlt,h]
 ·rw [List.getElem?_set_ne e]
theorem wt_0:indexT Tryz.prog 183 (.agg #[zi 1,zi (-2),zi 1]) (zi 0)=some (zi 1):=by kernel_rfl
theorem wt_1:indexT Tryz.prog 183 (.agg #[zi 1,zi (-2),zi 1]) (zi 1)=some (zi (-2)):=by kernel_rfl
theorem wt_2:indexT Tryz.prog 183 (.agg #[zi 1,zi (-2),zi 1]) (zi 2)=some (zi 1):=by kernel_rfl
theorem wt_ix (hk:k < 3):indexT Tryz.prog 183 (.agg #[zi 1,zi (-2),zi 1]) (zi (k:Nat))=some (zi (wtI k)):=by
 match k,hk with
 | 0,_=>exact wt_0
 | 1,_=>exact wt_1
 | 2,_=>exact wt_2
end
section
variable {h:TH} {v w fv:Value} {F G:List Nat} {es es' L M A B D:List Int} {n z:Int}
set_option maxHeartbeats 4000000 in
set_option maxRecDepth 10000 in
theorem k1329 (H:Has tp) (G:Glob h) (s:SlL encI 1 h v L) (hl:L.length≤900000) (h2:2≤L.length) (lim:∀ j,(L.getD j 0).natAbs≤16384) (f:Free0 h.next h) :
  CallW Tryz.prog tp (.func (.func 129) #[] #[]) #[v] h fun w h'=>HX h h'∧∃ c,w=slA c (L.length - 2)∧h.next≤c∧At h' c (.cells (cat encI (benL L)) true true 3):=by
 refine CallW.fnL (H.fn 129 f1329 rfl rfl) ?_
 obtain ⟨N,hN⟩:∃ N:Nat,L.length=N+2:=⟨L.length - 2,by omega⟩
 have lb:(benL L).length=N:=by rw [ben_len];omega
 refine WL.sr<|WOL.as rfl<|WOL.nil<|keep [(0,_)] ⟨rfl,trivial⟩ ?_
 refine WL.sr<|WOL.mv rfl<|WOL.len rfl s u29<|WOL.add (m:=((L.length:Nat):Int)) (n:=1) rfl rfl (by omega) (by omega)<|WOL.sub (m:=((L.length:Nat):Int)+1) (n:=3) rfl rfl (by omega) (by omega) ?_
 rw [show ((L.length:Nat):Int)+1 - 3=((N:Nat):Int) by omega]
 refine WOL.ms (m:=N) rfl rfl u29 tp3 (by decide) (by omega) fun h1 N1=>WOL.as rfl<|WOL.nil<|keep [(0,_),(3,_)] ⟨rfl,rfl,trivial⟩ ?_
 have q1:=N1.next
 have W0:=N1.at_
 rw [rep_flat,← cat_rep (enc:=encI) (x:=0) rfl] at W0
 have lZ:(List.replicate N (0:Int)).length=N:=List.length_replicate
 have zg:∀ i,(List.replicate N (0:Int)).getD i 0=0:=fun i=>by
  rw [List.getD_eq_getElem?_getD,List.getElem?_replicate]
  by_cases c:i < N
  ·rw [if_pos c];rfl
  ·rw [if_neg c];rfl
 generalize hZ:List.replicate N (0:Int)=Z at *
 refine WL.seq<|WL.sr<|WOL.mv rfl<|WOL.len rfl (SlL.own eI W0 lZ:SlL encI 1 h1 (slA h.next N) Z) u29<|WOL.mv rfl<|WOL.nil ?_
 rw [lZ]
 refine keep [(0,_),(3,_),(13,_),(14,_)] ⟨rfl,rfl,rfl,rfl,trivial⟩ ?_
 refine WL.upto (α:=Unit) N (fun j _ g=>HX h g∧h1.next≤g.next∧At g h.next (.cells (cat encI (mxL (benL L) Z j)) true true 3)) (fun _ _=>[(0,v),(3,slA h.next N),(13,zi (N:Nat))]) () rfl rfl (by omega) ⟨N1.hx,Nat.le_refl _,by rw [mx_zero];exact W0⟩ ⟨rfl,rfl,rfl,rfl,trivial⟩ (fun _ _=>rfl) (fun _ _ _=>⟨rfl,rfl,rfl,rfl,trivial⟩) (fun _ _ _=>⟨rfl,rfl,rfl,rfl,trivial⟩) ?_ ?_
 ·rintro i _ g hi ⟨X,nx,Wd⟩
  refine WL.sr<|WOL.mv rfl<|WOL.as rfl<|WOL.nil<|keep [(0,_),(3,_),(4,_),(13,_),(14,_)] ⟨rfl,rfl,rfl,rfl,rfl,trivial⟩ ?_
  obtain ⟨ge,Ag⟩:=(G.hx X).wghtL
  refine WL.sr<|WOL.ld (v:=.agg #[zi 1,zi (-2),zi 1]) rfl (load_row tp83 Ag (l:=[zi 1,zi (-2),zi 1]) rfl (Nat.le_of_ble_eq_true rfl))<|WOL.mv rfl<|WOL.nil<|keep [(0,_),(3,_),(4,_),(13,_),(14,_),(17,_),(18,_)] ⟨rfl,rfl,rfl,rfl,rfl,rfl,rfl,trivial⟩ ?_
  have hiZ:i < Z.length:=by omega
  have e0:(mxL (benL L) Z i)[i]?=some 0:=by rw [mx_get hiZ,if_neg (by omega),zg]
  refine WL.upto (α:=Unit) 3 (fun k _ g=>HX h g∧h1.next≤g.next∧At g h.next (.cells (cat encI ((mxL (benL L) Z i).set i (bp L i k))) true true 3)) (fun _ _=>[(0,v),(3,slA h.next N),(4,zi (i:Nat)),(13,zi (N:Nat)),(14,zi (i:Nat)),(17,.agg #[zi 1,zi (-2),zi 1])]) () rfl rfl (by decide) ⟨X,nx,by rw [show bp L i 0=0 from rfl,set_same e0];exact Wd⟩ ⟨rfl,rfl,rfl,rfl,rfl,rfl,rfl,trivial⟩ (fun _ _=>rfl) (fun _ _ _=>⟨rfl,rfl,rfl,rfl,rfl,rfl,rfl,trivial⟩) (fun _ _ _=>⟨rfl,rfl,rfl,rfl,rfl,rfl,rfl,trivial⟩) ?_ ?_
  ·rintro k _ g hk ⟨X,nx,Wd⟩
   have ls:((mxL (benL L) Z i).set i (bp L i k)).length=N:=by rw [List.length_set,mx_len,lZ]
   have es:((mxL (benL L) Z i).set i (bp L i k))[i]?=some (bp L i k):=List.getElem?_set_self (by rw [mx_len];omega)
   have e1:L[i+k]?=some (L.getD (i+k) 0):=at_getD (by omega)
   have b1:=lim (i+k)
   have b2:=bp_lim (i:=i) (k:=k) lim (by omega)
   have b3:=bp_lim (i:=i) (k:=k+1) lim (by omega)
   have b4:(wtI k).natAbs≤2:=by match k,hk with | 0,_=>decide | 1,_=>decide | 2,_=>decide
   have b5:=mulb b4 b1
   have bd:bp L i (k+1)=bp L i k+wtI k*L.getD (i+k) 0:=rfl
   obtain ⟨_,_,ca,fa,wa,ela,a1,a2,a3,a4,a5⟩:=(s.hx X).at eI u29 tp3 e1 .i64
   obtain ⟨_,_,cb,fb,wb,elb,c1,c2,c3,c4,c5⟩:=(SlL.own eI Wd ls:SlL encI 1 g (slA h.next N) _).at eI u29 tp3 es .i64
   have gxa:=a5 0 (by decide)
   have gxb:=c5 0 (by decide)
   rw [Nat.add_zero] at gxa gxb
   refine WL.sr<|WOL.mv rfl<|WOL.idx rfl rfl (wt_ix hk)<|WOL.as rfl<|WOL.as rfl<|WOL.nil<|keep [(0,_),(3,_),(4,_),(5,_),(6,_),(13,_),(14,_),(17,_),(18,_)] ⟨rfl,rfl,rfl,rfl,rfl,rfl,rfl,rfl,rfl,trivial⟩ ?_
   refine WL.reg<|WOL.mv rfl<|WOL.mv rfl<|WOL.ix rfl rfl c1<|WOL.ld rfl (load_one tp3 c2 gxb)<|WOL.mv rfl<|WOL.mv rfl<|WOL.mv rfl<|WOL.mv rfl<|WOL.add (m:=((i:Nat):Int)) (n:=((k:Nat):Int)) rfl rfl (by omega) (by omega) ?_
   rw [show ((i:Nat):Int)+((k:Nat):Int)=((i+k:Nat):Int) by omega]
   refine WOL.ix rfl rfl a1<|WOL.ld rfl (load_one tp3 a2 gxa)<|WOL.mul (m:=wtI k) (n:=L.getD (i+k) 0) rfl rfl (by omega) (by omega)<|WOL.add (m:=bp L i k) (n:=wtI k*L.getD (i+k) 0) rfl rfl (by omega) (by omega) ?_
   rw [← bd]
   refine WOL.ix rfl rfl (indexAddr_tp (j:=i) u29 tp3 hi)<|WOL.sto (vs:=encI (bp L i (k+1))) rfl rfl tp3 Wd rfl rfl (by rw [eI.cat_len,ls];omega) rfl (f.hx X) (Nat.le_refl _) fun g5 P5=>WOL.nil fun y q=>⟨(),⟨P5.hx _ X (Nat.le_refl _),by rw [P5.next];exact nx,?_⟩,q.sub ⟨rfl,rfl,rfl,rfl,rfl,rfl,rfl,trivial⟩⟩
   have:=P5.at_
   rw [Nat.zero_add,eI.set (by rw [ls];exact hi),List.set_set] at this
   exact this
  ·rintro _ g ⟨X,nx,Wd⟩
   rw [bp3 (by omega),mx_set hiZ] at Wd
   exact fun a q=>⟨(),⟨X,nx,Wd⟩,q.sub ⟨rfl,rfl,rfl,rfl,trivial⟩⟩
 ·rintro _ g ⟨X,nx,Wd⟩
  have e:mxL (benL L) Z N=benL L:=by
   have:=mx_all (D:=benL L) (M:=Z) (by omega)
   rwa [lZ] at this
  rw [e] at Wd
  exact WL.sr<|WOL.mv rfl<|WOL.as rfl<|WOL.nil<|WL.ret (WL.end_ rfl ⟨X,h.next,by rw [show L.length - 2=N by omega];rfl,Nat.le_refl _,Wd⟩)
theorem k1341 (H:Has tp) (s:SlL encF 1 h v F):CallW Tryz.prog tp (.func (.func 138) #[] #[]) #[v] h fun u h'=>u=zi (cond (decide ((F.length:Int) < 2)) 16 0)∧h'=h:=by
 refine CallW.fnL (H.fn 138 f1341 rfl rfl) ?_
 refine WL.sr<|WOL.as rfl<|WOL.nil<|keep [(0,_)] ⟨rfl,trivial⟩ ?_
 refine WL.sr<|WOL.mv rfl<|WOL.len rfl s u43<|WOL.bi (v:=.bool (decide ((F.length:Int) < 2))) rfl rfl rfl<|WOL.cl2 rfl rfl rfl ((k77 H _ _ _).mono ?_)
 rintro u g ⟨rfl,rfl⟩
 exact WOL.as rfl<|WOL.nil<|WL.ret (WL.end_ rfl ⟨rfl,rfl⟩)
end
end Go.Tidy
namespace Go.Tidy
open Go Go.Proofs Tab
variable {tp:TProg}
def dblF (a b:Int) (ds:List Int):Nat→Int
 | 0=>a
 | 1=>b
 | k+2=>2*dblF a b ds (k+1) - dblF a b ds k+ds.getD k 0
def dblL (a b:Int) (ds:List Int):List Int:=(List.range (ds.length+2)).map (dblF a b ds)
section
variable {a b:Int} {ds L D B:List Int} {i k:Nat}
theorem dbl_len:(dblL a b ds).length=ds.length+2:=by unfold dblL;rw [List.length_map,List.length_range]
theorem dbl_get (h:i < ds.length+2):(dblL a b ds).getD i 0=dblF a b ds i:=by
 rw [List.getD_eq_getElem?_getD];unfold dblL;rw [tbl_get,if_pos h];rfl
theorem dbl_two (ha:a.natAbs≤16384) (hb:b.natAbs≤16384) (hl:∀ j,(ds.getD j 0).natAbs≤16384):∀ k,(dblF a b ds k).natAbs≤16384*3 ^ k∧(dblF a b ds (k+1)).natAbs≤16384*3 ^ (k+1)
 | 0=>by
  show a.natAbs≤_∧b.natAbs≤_
  omega
 | k+1=>by
  obtain ⟨h1,h2⟩:=dbl_two ha hb hl k
  refine ⟨h2,?_⟩
  show (2*dblF a b ds (k+1) - dblF a b ds k+ds.getD k 0).natAbs≤_
  have h3:=hl k
  have p1:3 ^ (k+1)=3*3 ^ k:=by rw [Nat.pow_succ,Nat.mul_comm]
  have p2:3 ^ (k+1+1)=9*3 ^ k:=by rw [Nat.pow_succ,p1];omega
  have p0:0 < 3 ^ k:=Nat.pow_pos (by decide)
  rw [p1] at h2
  rw [p2]
  generalize 3 ^ k=q at *
  omega
theorem dbl_lim (ha:a.natAbs≤16384) (hb:b.natAbs≤16384) (hl:∀ j,(ds.getD j 0).natAbs≤16384) (hk:k≤26):(dblF a b ds k).natAbs≤50000000000000000:=by
 have h1:=(dbl_two ha hb hl k).1
 have h2:3 ^ k≤3 ^ 26:=Nat.pow_le_pow_right (by decide) hk
 have h3:3 ^ 26=2541865828329:=by decide
 rw [h3] at h2
 generalize 3 ^ k=q at *
 omega
theorem mx_two (hB:B=a::b::ds) (hD:D=dblL a b ds):mxL D B 2=B:=List.ext_getElem? fun i=>by
 by_cases h:i < B.length
 ·rw [mx_get h]
  by_cases c:i < 2
  ·rw [if_pos c,hD,dbl_get (by rw [hB] at h;exact h)]
   subst hB
   match i,c with
   | 0,_=>rfl
   | 1,_=>rfl
  ·rw [if_neg c,← at_getD h]
 ·rw [List.getElem?_eq_none (by rw [mx_len];omega),List.getElem?_eq_none (by omega)]
end
section
variable {h:TH} {v w fv:Value} {F G:List Nat} {es es' ee L M A D:List Int} {n z a b:Int}
set_option maxHeartbeats 4000000 in
set_option maxRecDepth 10000 in
theorem k1331 (H:Has tp) {c0:Nat} (A0:At h c0 (.cells (cat encI L) true true 3)) (hl:L.length≤24) (ha:a.natAbs≤16384) (hb:b.natAbs≤16384) (lim:∀ j,(L.getD j 0).natAbs≤16384) (f:Free0 h.next h) :
  CallW Tryz.prog tp (.func (.func 144) #[] #[]) #[slA c0 L.length,zi a,zi b] h fun w h'=>HX h h'∧∃ c,w=slA c (L.length+2)∧h.next≤c∧At h' c (.cells (cat encI (dblL a b L)) true true 3):=by
 refine CallW.fnL (H.fn 144 f1331 rfl rfl) ?_
 have s0:SlL encI 1 h (slA c0 L.length) L:=SlL.own eI A0 rfl
 have l0:=A0.lt
 refine WL.sr<|WOL.as rfl<|WOL.nil<|keep [(0,_),(1,_),(2,_)] ⟨rfl,rfl,rfl,trivial⟩ ?_
 refine WL.sr<|WOL.mv rfl<|WOL.len rfl s0 u29<|WOL.add (m:=2) (n:=((L.length:Nat):Int)) rfl rfl (by omega) (by omega) ?_
 rw [show (2:Int)+((L.length:Nat):Int)=((L.length+2:Nat):Int) by omega]
 refine WOL.ms (m:=L.length+2) rfl rfl u29 tp3 (by decide) (by omega) fun h1 N1=>WOL.as rfl<|WOL.nil<|keep [(0,_),(1,_),(2,_),(7,_)] ⟨rfl,rfl,rfl,rfl,trivial⟩ ?_
 have q1:=N1.next
 have W0:=N1.at_
 rw [rep_flat,← cat_rep (enc:=encI) (x:=0) rfl] at W0
 -- the first two
 refine WL.sr<|WOL.mv rfl<|WOL.mv rfl<|WOL.mv rfl<|WOL.mv rfl<|WOL.ix rfl rfl (indexAddr_tp (j:=0) u29 tp3 (by omega))<|WOL.sto (vs:=encI a) rfl rfl tp3 W0 rfl rfl (by rw [eI.cat_len,List.length_replicate];omega) rfl (f.hx N1.hx) (Nat.le_refl _) fun h2 P2=>?_
 have W1:=P2.at_
 rw [Nat.zero_add,eI.set (by rw [List.length_replicate];omega)] at W1
 have X2:=P2.hx _ N1.hx (Nat.le_refl _)
 have f2:Free0 h.next h2:=⟨by rw [P2.floor];exact (f.hx N1.hx).floor,fun l hl=>(f.hx N1.hx).lock l (by rw [← P2.lock];exact hl)⟩
 refine WOL.ix rfl rfl (indexAddr_tp (j:=1) u29 tp3 (by omega))<|WOL.sto (vs:=encI b) rfl rfl tp3 W1 rfl rfl (by rw [eI.cat_len,List.length_set,List.length_replicate];omega) rfl f2 (Nat.le_refl _) fun h3 P3=>WOL.nil<|keep [(0,_),(7,_)] ⟨rfl,rfl,trivial⟩ ?_
 have W2:=P3.at_
 rw [Nat.zero_add,eI.set (by rw [List.length_set,List.length_replicate];omega),show ((List.replicate (L.length+2) (0:Int)).set 0 a).set 1 b=a::b::List.replicate L.length 0 from rfl] at W2
 have X3:=P3.hx _ X2 (Nat.le_refl _)
 have f3:Free0 h.next h3:=⟨by rw [P3.floor];exact f2.floor,fun l hl=>f2.lock l (by rw [← P3.lock];exact hl)⟩
 have n3:h3.next=h1.next:=by rw [P3.next,P2.next]
 have A3:=A0.hx X3
 -- the others
 have lW:(a::b::List.replicate L.length (0:Int)).length=L.length+2:=by simp
 have sf:=sliceT_from (off:=0) (k:=.i64) (lo:=2) u29 tp3 (Nat.le_refl (L.length+2)) (by omega) W2 (.inl rfl)
 obtain ⟨h4,cp,P4⟩:=copy_part (sT:=35) (off:=0+2*1) (off':=0) (k:=L.length) (d:=L.length+2 - 2) (cap:=L.length+2 - 2) (cap':=L.length) (m:=L.length) u29 tp3 W2 A3 (Nat.min_eq_left (by omega)) (by rw [eI.cat_len,lW];omega) (by rw [eI.cat_len];omega) (by rw [List.drop_zero];exact List.all_eq_true.2 fun x hx=>List.all_eq_true.1 (eI.all L) x (List.mem_of_mem_take hx)) f3 (Nat.le_refl _)
 refine WL.sr<|WOL.mv rfl<|WOL.slG rfl rfl rfl rfl sf<|WOL.mv rfl<|WOL.cp rfl rfl cp<|WOL.nil<|keep [(7,_)] ⟨rfl,trivial⟩ ?_
 have W3:=P4.at_
 have lI:(cat encI L).length=L.length:=by rw [eI.cat_len,Nat.mul_one]
 have e3:splice (cat encI (a::b::List.replicate L.length 0)) (0+2*1) (((cat encI L).drop 0).take L.length)=cat encI (a::b::L):=by
  rw [List.drop_zero,List.take_of_length_le (by omega)]
  show zi a::zi b::(cat encI L ++ (cat encI (a::b::List.replicate L.length 0)).drop (0+2*1+(cat encI L).length))=zi a::zi b::cat encI L
  rw [List.drop_eq_nil_of_le (by rw [eI.cat_len,lW,lI];omega),List.append_nil]
 rw [e3] at W3
 have X4:=P4.hx _ X3 (Nat.le_refl _)
 have f4:Free0 h.next h4:=⟨by rw [P4.floor];exact f3.floor,fun l hl=>f3.lock l (by rw [← P4.lock];exact hl)⟩
 generalize hB:a::b::L=B at *
 have lB:B.length=L.length+2:=by rw [← hB];rfl
 generalize hD:dblL a b L=D
 have lD:D.length=B.length:=by rw [← hD,dbl_len,lB]
 refine WL.seq<|WL.sr<|WOL.as rfl<|WOL.nil<|keep [(7,_),(8,_)] ⟨rfl,rfl,trivial⟩ ?_
 refine WL.fori (α:=Unit) L.length (fun j _ g=>HX h g∧h1.next≤g.next∧At g h.next (.cells (cat encI (mxL D B (j+2))) true true 3)∧Free0 h.next g) (fun j _=>[(7,slA h.next (L.length+2)),(8,zi ((j+2:Nat):Int))]) (fun j _=>[(7,slA h.next (L.length+2)),(8,zi ((j+2:Nat):Int))]) () ⟨X4,by rw [P4.next];omega,by rw [mx_two hB.symm hD.symm];exact W3,f4⟩ ⟨rfl,rfl,trivial⟩ ?_ ?_ (fun _ _ _=>⟨rfl,rfl,trivial⟩) ?_ ?_
 ·rintro j _ g hj ⟨X,nx,Wd,f'⟩
  have sl:SlL encI 1 g (slA h.next (L.length+2)) (mxL D B (j+2)):=SlL.own eI Wd (by rw [mx_len,lB])
  refine WOL.mv rfl<|WOL.mv rfl<|WOL.len rfl sl u29<|WOL.bi (v:=.bool (decide (j < L.length))) rfl rfl ?_<|WOL.nil fun a q=>⟨rfl,?_⟩
  ·show some (Value.bool (decide (((j+2:Nat):Int) < ((mxL D B (j+2)).length:Nat))))=_
   rw [mx_len,lB,show decide (((j+2:Nat):Int) < ((L.length+2:Nat):Int))=decide (j < L.length) from decide_eq_decide.2 (by omega)]
  ·exact q.sub ⟨rfl,rfl,rfl,trivial⟩
 ·rintro j _ g hj hH
  refine WOL.mv rfl<|WOL.inc (j:=j+2) rfl (by omega)<|WOL.as rfl<|WOL.nil fun a q=>⟨hH,?_⟩
  exact q.sub ⟨rfl,rfl,trivial⟩
 ·rintro j _ g hj ⟨X,nx,Wd,f'⟩
  have sl:SlL encI 1 g (slA h.next (L.length+2)) (mxL D B (j+2)):=SlL.own eI Wd (by rw [mx_len,lB])
  have gD:∀ i,i < L.length+2→D.getD i 0=dblF a b L i:=fun i hi=>by rw [← hD];exact dbl_get hi
  have e0:(mxL D B (j+2))[j+2]?=some (L.getD j 0):=by rw [mx_get (by omega),if_neg (by omega),← hB];rfl
  have e1:(mxL D B (j+2))[j+1]?=some (dblF a b L (j+1)):=by rw [mx_get (by omega),if_pos (by omega),gD _ (by omega)]
  have e2:(mxL D B (j+2))[j]?=some (dblF a b L j):=by rw [mx_get (by omega),if_pos (by omega),gD _ (by omega)]
  have b0:=lim j
  have b1:=dbl_lim (k:=j+1) ha hb lim (by omega)
  have b2:=dbl_lim (k:=j) ha hb lim (by omega)
  have eD:D.getD (j+2) 0=2*dblF a b L (j+1) - dblF a b L j+L.getD j 0:=gD _ (by omega)
  obtain ⟨_,_,ca,fa,wa,ela,a1,a2,a3,a4,a5⟩:=sl.at eI u29 tp3 e0 .i64
  obtain ⟨_,_,cb,fb,wb,elb,c1,c2,c3,c4,c5⟩:=sl.at eI u29 tp3 e1 .i64
  obtain ⟨_,_,cd,fd,wd,eld,d1,d2,d3,d4,d5⟩:=sl.at eI u29 tp3 e2 .i64
  have gxa:=a5 0 (by decide)
  have gxb:=c5 0 (by decide)
  have gxd:=d5 0 (by decide)
  rw [Nat.add_zero] at gxa gxb gxd
  refine WL.reg<|WOL.mv rfl<|WOL.mv rfl<|WOL.ix rfl rfl a1<|WOL.ld rfl (load_one tp3 a2 gxa)<|WOL.mv rfl<|WOL.mv rfl<|WOL.sub (m:=((j+2:Nat):Int)) (n:=1) rfl rfl (by omega) (by omega) ?_
  rw [show ((j+2:Nat):Int) - 1=((j+1:Nat):Int) by omega]
  refine WOL.ix rfl rfl c1<|WOL.ld rfl (load_one tp3 c2 gxb)<|WOL.mul (m:=2) (n:=dblF a b L (j+1)) rfl rfl (by omega) (by omega)<|WOL.mv rfl<|WOL.mv rfl<|WOL.sub (m:=((j+2:Nat):Int)) (n:=2) rfl rfl (by omega) (by omega) ?_
  rw [show ((j+2:Nat):Int) - 2=((j:Nat):Int) by omega]
  refine WOL.ix rfl rfl d1<|WOL.ld rfl (load_one tp3 d2 gxd)<|WOL.sub (m:=2*dblF a b L (j+1)) (n:=dblF a b L j) rfl rfl (by omega) (by omega)<|WOL.add (m:=L.getD j 0) (n:=2*dblF a b L (j+1) - dblF a b L j) rfl rfl (by omega) (by omega) ?_
  rw [show L.getD j 0+(2*dblF a b L (j+1) - dblF a b L j)=D.getD (j+2) 0 by omega]
  refine WOL.ix rfl rfl (indexAddr_tp (j:=j+2) u29 tp3 (by omega))<|WOL.sto (vs:=encI (D.getD (j+2) 0)) rfl rfl tp3 Wd rfl rfl (by rw [eI.cat_len,mx_len,lB];omega) rfl f' (Nat.le_refl _) fun g5 P5=>WOL.nil fun y q=>⟨(),⟨P5.hx _ X (Nat.le_refl _),by rw [P5.next];exact nx,?_,⟨by rw [P5.floor];exact f'.floor,fun l hl=>f'.lock l (by rw [← P5.lock];exact hl)⟩⟩,q.sub ⟨rfl,rfl,trivial⟩⟩
  have:=P5.at_
  rw [Nat.zero_add,eI.set (by rw [mx_len,lB];omega),mx_set (by omega)] at this
  exact this
 ·rintro _ g ⟨X,nx,Wd,_⟩
  rw [show L.length+2=B.length from lB.symm,mx_all lD] at Wd
  exact WL.sr<|WOL.mv rfl<|WOL.as rfl<|WOL.nil<|WL.ret (WL.end_ rfl ⟨X,h.next,rfl,Nat.le_refl _,Wd⟩)
theorem u1294a:Tryz.prog.underlying 127=some (.array 2 76):=by kernel_rfl
def sumE (m:Nat) (es ee:List Int):Int:=firstNZ [sigE m es,firstNZ ee,cond (decide ((m:Int)+2 > 4096)) 5 0]
theorem k1330 (H:Has tp) (X:HasX tp) {fa fb:Nat} (s:SlL encF 1 h v F) (hE:SErr F es) (he:SErr [fa,fb] ee) (hF:F.length≤900000):CallW Tryz.prog tp (.func (.func 143) #[] #[]) #[v,.agg #[.float .f32 fa,.float .f32 fb]] h fun u h'=>u=zi (sumE F.length es ee)∧HX h h':=by
 refine CallW.fnL (H.fn 143 f1330 rfl rfl) ?_
 refine WL.sr<|WOL.box rfl fun h1 N1=>WOL.as rfl<|WOL.nil<|keep [(0,_),(3,_)] ⟨rfl,rfl,trivial⟩ ?_
 have A3:At h1 h.next (.cells (cat encF [fa,fb]) true true 127):=N1.at_
 have s1:=s.hx N1.hx
 refine WL.sr<|WOL.mv rfl<|WOL.slG rfl rfl rfl rfl (sliceT_arr u1294a tp25 A3)<|WOL.mv rfl<|WOL.len rfl s1 u43<|WOL.add (m:=((F.length:Nat):Int)) (n:=2) rfl rfl (by omega) (by omega)<|WOL.bi (v:=.bool (decide (((F.length:Nat):Int)+2 > 4096))) rfl rfl rfl<|WOL.lk1 rfl rfl fun ml=>((k1268 H X (s1.relock ml) hE (by omega)).mono ?_)
 rintro u h2 ⟨rfl,rfl⟩
 rw [TH.relock]
 refine WOL.cl2 rfl rfl rfl ((k144 H X (SlL.own eF A3 rfl) he (by simp)).mono ?_)
 rintro u h3 ⟨rfl,rfl⟩
 refine WOL.cl2 rfl rfl rfl ((k77 H _ _ _).mono ?_)
 rintro u h4 ⟨rfl,rfl⟩
 refine WOL.bsl rfl u166 tp30 (by decide) (by decide) (by decide) (filled_ints3 _ _ _) fun h5 N5=>WOL.cl1 rfl rfl ((k71 H (l:=[_,_,_]) N5.at_.get (by simp)).mono ?_)
 rintro u h6 ⟨rfl,rfl⟩
 exact WOL.as rfl<|WOL.nil<|WL.ret (WL.end_ rfl ⟨rfl,N1.hx.trans N5.hx⟩)
end
end Go.Tidy
namespace Go.Tidy
open Go Go.Proofs Tab
variable {tp:TProg}
def hlf (x y:Int):Int:=rnd (x+y) 2
section
variable {L M D:List Int} {F:List Nat} {x y:Int}
theorem hlf_ok (hx:x.natAbs≤16384) (hy:y.natAbs≤16384):okI (hlf x y)=true:=by
 refine okI_iff.2 ?_
 unfold hlf rnd
 omega
theorem sg_ok (h:∀ x,x ∈ D→okI x=true):sgE D=0∧sgL D=D:=by
 have e:(D.any fun n=>!okI n)=false:=List.any_eq_false.2 fun x hx=>by rw [h x hx];decide
 unfold sgE sgL
 rw [e];exact ⟨rfl,rfl⟩
theorem zw_ok {F G:List Nat} (h:Lev F L) (h':Lev G M):∀ x,x ∈ List.zipWith hlf L M→okI x=true:=fun x hx=>by
 obtain ⟨i,hi⟩:=List.mem_iff_getElem?.1 hx
 rw [List.getElem?_zipWith] at hi
 split at hi
 ·rename_i a b e1 e2
  cases hi
  exact hlf_ok (lev_limI h _ (List.mem_of_getElem? e1)) (lev_limI h' _ (List.mem_of_getElem? e2))
 ·cases hi
theorem sum_ok {m:Nat} {es ee:List Int} (h:sumE m es ee=0):(m≤4096∧firstNZ es=0)∧firstNZ ee=0:=by
 have q:=firstNZ_zero h
 exact ⟨sigE_short (q _ (List.mem_cons_self ..)),q (firstNZ ee) (by simp)⟩
end
theorem ix1294_0 {c:Nat}:indexAddrT Tryz.prog 127 (.pointer (some ⟨c,0,none⟩)) (.int .i64 0)=some (.pointer (some ⟨c,0,none⟩)):=by kernel_rfl
theorem ix1294_1 {c:Nat}:indexAddrT Tryz.prog 127 (.pointer (some ⟨c,0,none⟩)) (.int .i64 1)=some (.pointer (some ⟨c,1,none⟩)):=by kernel_rfl
theorem tp1294:Tp Tryz.prog 127 2 [.float .f32 0,.float .f32 0] true:=tp_of (by kernel_rfl) (by kernel_rfl) rfl
section
variable {h:TH} {v w fv:Value} {F G:List Nat} {es es' ee L M D:List Int} {x y:Int} {fa fb:Nat}
theorem k1278 (H:Has tp) (X:HasX tp) (s:SlL encF 1 h v F) (hE:SErr F es) (he:SErr [fa,fb] ee) (hL:firstNZ es=0→Lev F L) (hx:firstNZ ee=0→Samp fa x∧Samp fb y) (hF:shB F.length=true) (f:Free0 h.next h) :
  CallW Tryz.prog tp (.func (.func 65) #[] #[]) #[v,.agg #[.float .f32 fa,.float .f32 fb]] h fun u h'=>HX h h'∧AnsF (cE (sumE F.length es ee) (dblL x y L)) (cL (sumE F.length es ee) (dblL x y L)) h.next h' u:=by
 refine CallW.fnL (H.fn 65 f1278 rfl rfl) ?_
 have lF:=shB_le hF
 refine WL.sr<|WOL.box rfl fun h1 N1=>WOL.as rfl<|WOL.as rfl<|WOL.nil<|keep [(0,_),(3,_)] ⟨rfl,rfl,trivial⟩ ?_
 have n1:=N1.next
 have A3:At h1 h.next (.cells [.float .f32 fa,.float .f32 fb] true true 127):=N1.at_
 have s1:=s.hx N1.hx
 refine WL.seq<|WL.sr<|WOL.mv rfl<|WOL.ld rfl (load_row tp1294 A3 rfl (Nat.le_of_ble_eq_true rfl))<|WOL.cl2 rfl rfl rfl ((k1330 (fa:=fa) (fb:=fb) H X s1 hE he (by omega)).mono ?_)
 rintro u h2 ⟨rfl,X2⟩
 refine WOL.as rfl<|WOL.nil<|keep [(0,_),(3,_),(6,_)] ⟨rfl,rfl,rfl,trivial⟩ ?_
 have Y2:=N1.hx.trans X2
 have y2:=X2.next
 replace A3:=A3.hx X2
 replace s1:=s1.hx X2
 generalize hp:sumE F.length es ee=E
 by_cases e0:E≠0
 ·rw [cE_no e0,cL_no e0]
  refine WL.sr<|WOL.mv rfl<|WOL.bt rfl rfl rfl (bne_iff_ne.2 e0)<|WOL.nil<|WL.yes rfl<|WL.sr<|WOL.mv rfl<|WOL.as rfl<|WOL.as rfl<|WOL.nil ?_
  exact WL.ret (WL.end_ rfl ⟨Y2,AnsF.err⟩)
 have e0:E=0:=Classical.not_not.1 e0
 subst e0
 rw [cE_0,cL_0]
 obtain ⟨⟨l1,z1⟩,z2⟩:=sum_ok hp
 have lv:=hL z1
 obtain ⟨sx,sy⟩:=hx z2
 have ll:=lv.1
 have l24:L.length≤24:=by
  unfold shB at hF
  by_cases c:(F.length:Int)≤24
  ·omega
  ·rw [decide_eq_false c] at hF
   have:=beq_iff_eq.1 (show ((F.length:Int) == 4097)=true from hF)
   omega
 refine WL.sr<|WOL.mv rfl<|WOL.bf rfl rfl rfl rfl<|WOL.nil<|WL.no rfl<|WL.skip ?_
 refine WL.sr<|WOL.mv rfl<|WOL.ix rfl rfl ix1294_0<|WOL.ld rfl (load_one tp25 A3 rfl)<|WOL.ix rfl rfl ix1294_1<|WOL.ld rfl (load_one tp25 A3 rfl)<|WOL.lv1 [some h.next,some h.next] rfl rfl rfl fun ml hl=>((k1313 (h:=TH.withLock _ ml) H (s1.relock ml) lv (by omega) ((f.on Y2).heldO hl (fun b hb=>by simp at hb;omega))).mono ?_)
 rintro u h3 ⟨X3,c,rfl,hc,Ac⟩
 replace X3:=X3.relock
 replace Ac:=Ac.relock h2.lock
 generalize h3.withLock h2.lock=h3 at *
 have Y3:=Y2.trans X3
 have y3:=X3.next
 refine WOL.lk1 rfl rfl fun ml=>((k111 H sx _).mono ?_)
 rintro u h4 ⟨rfl,rfl⟩
 rw [TH.relock]
 refine WOL.cl1 rfl rfl ((k111 H sy _).mono ?_)
 rintro u h4 ⟨rfl,rfl⟩
 refine WOL.cl3 rfl rfl rfl rfl ((k1331 H Ac l24 (by have:=sx.lim;omega) (by have:=sy.lim;omega) (lev_getD lv) (f.on Y3)).mono ?_)
 rintro u h5 ⟨X5,c2,rfl,hc2,A5⟩
 have Y5:=Y3.trans X5
 have y5:=X5.next
 refine WOL.cl1 rfl rfl ((k1311 H (SlL.own eI A5 dbl_len) (by rw [dbl_len];omega) (f.on Y5)).mono ?_)
 rintro u h6 ⟨X6,R⟩
 have R:=R.low (n0:=h.next) (by omega)
 obtain ⟨b,m,k,F',rfl,r1,r2,r3⟩:=R
 exact WOL.ex rfl rfl<|WOL.ex rfl rfl<|WOL.as rfl<|WOL.as rfl<|WOL.nil<|WL.ret (WL.end_ rfl ⟨Y5.trans X6,b,m,k,F',rfl,r1,r2,r3⟩)
end
end Go.Tidy
namespace Go.Tidy
open Go Go.Proofs Tab
variable {tp:TProg}
theorem sh24 {m:Nat} (hF:shB m=true) (h:m≤4096):m≤24:=by
 unfold shB at hF
 by_cases c:(m:Int)≤24
 ·omega
 ·rw [decide_eq_false c] at hF
  have:=beq_iff_eq.1 (show ((m:Int) == 4097)=true from hF)
  omega
section
variable {h:TH} {v w fv:Value} {F G:List Nat} {es es' ee L M D:List Int} {x y:Int} {fa fb:Nat}
theorem lev_two (sx:Samp fa x) (sy:Samp fb y):Lev [fa,fb] [x,y]:=⟨rfl,fun i b n h1 h2=>by
 match i,h1,h2 with
 | 0,h1,h2=>cases h1;cases h2;exact sx
 | 1,h1,h2=>cases h1;cases h2;exact sy⟩
theorem k1333 (H:Has tp) (hx:x.natAbs≤16384) (hy:y.natAbs≤16384) (h:TH):CallW Tryz.prog tp (.func (.func 149) #[] #[]) #[zi x,zi y] h fun v h'=>v=zi (hlf x y)∧h'=h:=by
 refine CallW.fnL (H.fn 149 f1333 rfl rfl) ?_
 refine WL.sr<|WOL.as rfl<|WOL.nil<|WL.sr<|WOL.mv rfl<|WOL.mv rfl<|WOL.add (m:=x) (n:=y) rfl rfl (by omega) (by omega)<|WOL.cl2 rfl rfl rfl ((k103 H (a:=x+y) (b:=2) (by omega) (by decide) (by decide)).mono ?_)
 rintro u g ⟨rfl,rfl⟩
 exact WOL.as rfl<|WOL.nil<|WL.ret (WL.end_ rfl ⟨rfl,rfl⟩)
theorem k1280 (H:Has tp) (X:HasX tp) (s:SlL encF 1 h v F) (t:SlL encF 1 h w G) (hE:SErr F es) (hE':SErr G es') (hL:firstNZ es=0→Lev F L) (hM:firstNZ es'=0→Lev G M) (hF:F.length≤900000) (hG:G.length≤900000) (f:Free0 h.next h) :
  CallW Tryz.prog tp (.func (.func 69) #[] #[]) #[v,w] h fun u h'=>HX h h'∧AnsF (pairE F.length G.length es es') (gaO (pairE F.length G.length es es') (List.zipWith hlf L M)) h.next h' u:=by
 refine CallW.fnL (H.fn 69 f1280 rfl rfl) ?_
 refine WL.sr<|WOL.as rfl<|WOL.as rfl<|WOL.nil<|keep [(0,_),(1,_)] ⟨rfl,rfl,trivial⟩ ?_
 refine WL.seq<|WL.sr<|WOL.mv rfl<|WOL.mv rfl<|WOL.cl2 rfl rfl rfl ((k1316 H X s t hE hE' (by omega) (by omega)).mono ?_)
 rintro u h2 ⟨rfl,X2⟩
 refine WOL.as rfl<|WOL.nil<|keep [(0,_),(1,_),(6,_)] ⟨rfl,rfl,rfl,trivial⟩ ?_
 generalize hp:pairE F.length G.length es es'=E
 unfold gaO
 by_cases e0:E≠0
 ·rw [if_pos e0]
  refine WL.sr<|WOL.mv rfl<|WOL.bt rfl rfl rfl (bne_iff_ne.2 e0)<|WOL.nil<|WL.yes rfl<|WL.sr<|WOL.mv rfl<|WOL.as rfl<|WOL.as rfl<|WOL.nil ?_
  exact WL.ret (WL.end_ rfl ⟨X2,AnsF.err⟩)
 have e0:E=0:=Classical.not_not.1 e0
 subst e0
 rw [if_neg (by decide)]
 obtain ⟨⟨l1,z1⟩,z2,l2⟩:=pair_ok hp
 have lv:=hL z1
 have lw:=hM z2
 refine WL.sr<|WOL.mv rfl<|WOL.bf rfl rfl rfl rfl<|WOL.nil<|WL.no rfl<|WL.skip ?_
 refine WL.sr<|WOL.mv rfl<|WOL.cl1 rfl rfl ((k1313 H (s.hx X2) lv (by omega) (f.on X2)).mono ?_)
 rintro u h3 ⟨X3,c,rfl,hc,Ac⟩
 have Y3:=X2.trans X3
 have y3:=X3.next
 refine WOL.mv rfl<|WOL.cl1 rfl rfl ((k1313 H (t.hx Y3) lw (by omega) (f.on Y3)).mono ?_)
 rintro u h4 ⟨X4,d,rfl,hd,Ad⟩
 have Y4:=Y3.trans X4
 have y4:=X4.next
 have ll:=lv.1
 have lm:=lw.1
 have y2:=X2.next
 refine WOL.cl3 rfl rfl rfl rfl ((k1332 (φ:=hlf) H (SlL.own eI (Ac.hx X4) rfl) (SlL.own eI Ad rfl) (by omega) (by omega) (f.on Y4) (fun x y hx hy g _=>(k1333 H (lev_limI lv x hx) (lev_limI lw y hy) g).mono fun v h' q=>⟨q.1,by rw [q.2];exact HX.refl _⟩)).mono ?_)
 rintro u h5 ⟨X5,c2,rfl,hc2,A5⟩
 have Y5:=Y4.trans X5
 have y5:=X5.next
 have lz:(List.zipWith hlf L M).length=L.length:=by rw [List.length_zipWith];omega
 refine WOL.cl1 rfl rfl ((k1311 H (SlL.own eI A5 lz) (by omega) (f.on Y5)).mono ?_)
 rintro u h6 ⟨X6,R⟩
 obtain ⟨g1,g2⟩:=sg_ok (zw_ok lv lw)
 rw [g1,g2] at R
 have R:=R.low (n0:=h.next) (by omega)
 obtain ⟨b,m,k,F',rfl,r1,r2,r3⟩:=R
 exact WOL.ex rfl rfl<|WOL.ex rfl rfl<|WOL.as rfl<|WOL.as rfl<|WOL.nil<|WL.ret (WL.end_ rfl ⟨Y5.trans X6,b,m,k,F',rfl,r1,r2,r3⟩)
end
end Go.Tidy
namespace Go.Tidy
open Go Go.Proofs Tab
variable {tp:TProg}
section
variable {h:TH} {v w v7 v9 v11 v13 v19 v20 v21 v22:Value} {F G:List Nat} {es es' ee L M D1 D2 D3 D4:List Int} {x y e1 e2 e3 e4 S1 S2 E4:Int} {c5 fa fb:Nat}
theorem fNZ_30 {a b:Int}:firstNZ [a,b,0]=firstNZ [a,b]:=by
 show cond (a != 0) a (cond (b != 0) b 0)=cond (a != 0) a (cond (b != 0) b 0)
 rfl
theorem sumE_sh (hF:shB F.length=true):sumE F.length es ee=firstNZ [sigE F.length es,firstNZ ee]:=by
 unfold sumE
 by_cases h0:sigE F.length es=0
 ·have:=sh24 hF (sigE_short h0).1
  rw [show decide ((F.length:Int)+2 > 4096)=false from decide_eq_false (by omega),Bool.cond_false,fNZ_30]
 ·show cond (sigE F.length es != 0) _ _=cond (sigE F.length es != 0) _ _
  rw [bne_iff_ne.2 h0];rfl
end
end Go.Tidy
namespace Go.Tidy
open Go Go.Proofs Tab
variable {tp:TProg}
def spX (x:Int):Int:=outB x 1 100
def spE (S:List Int):Int:=cond (decide ((S.length:Int) > 4096)) 5 (firstNZ (S.map spX))
def feQ (n s:Int):Int:=n*s*s
def frQ (n s:Int):Int:=rnd n (s*s)
def felE (m k:Nat):Int:=firstNZ [cond (decide ((m:Int) < 2)) 16 0,cond ((k:Int) != (m:Int) - 2) 2 0]
theorem fNZ_app:∀ l m:List Int,firstNZ (l ++ m)=if firstNZ l≠0 then firstNZ l else firstNZ m
  | [],m=>by show firstNZ m=_;rw [if_neg (fun c=>c rfl)]
  | a::l,m=>by
    have ih:=fNZ_app l m
    show cond (a != 0) a (firstNZ (l ++ m))=if cond (a != 0) a (firstNZ l)≠0 then cond (a != 0) a (firstNZ l) else firstNZ m
    by_cases ha:a=0
    · subst ha;exact ih
    · rw [bne_iff_ne.2 ha]
      show a=if a≠0 then a else _
      rw [if_pos ha]
section
variable {S L:List Int} {x:Int} {k:Nat}
theorem spE_ok (h:spE S=0):S.length≤4096∧∀ j,j < S.length→1≤S.getD j 0∧S.getD j 0≤100:=by
 unfold spE at h
 by_cases c:(S.length:Int) > 4096
 ·rw [decide_eq_true c] at h;exact absurd (show (5:Int)=0 from h) (by decide)
 ·rw [decide_eq_false c] at h
  refine ⟨by omega,fun j hj=>?_⟩
  have:=firstNZ_zero (show firstNZ (S.map spX)=0 from h) (spX (S.getD j 0)) (List.mem_map.2 ⟨_,List.mem_of_getElem? (at_getD hj),rfl⟩)
  unfold spX outB at this
  by_cases c1:S.getD j 0 < 1
  ·rw [decide_eq_true c1] at this;exact absurd (show (3:Int)=0 from this) (by decide)
  ·by_cases c2:S.getD j 0 > 100
   ·rw [decide_eq_true c2,Bool.or_true] at this;exact absurd (show (3:Int)=0 from this) (by decide)
   ·omega
theorem sp_sq {s:Int} (h1:1≤s) (h2:s≤100):0 < s*s∧s*s≤10000:=by
 have a:=mulb (w:=s) (x:=s) (a:=100) (b:=100) (by omega) (by omega)
 have b:0 < s*s:=Int.mul_pos (by omega) (by omega)
 omega
end
section
variable {h:TH} {v w fv:Value} {F G:List Nat} {es es' ee L M D S:List Int} {x y:Int} {fa fb:Nat}
theorem k1345 (H:Has tp) (x:Int) (h:TH):CallW Tryz.prog tp (.func (.func 189) #[] #[]) #[zi x] h fun v h'=>v=zi (spX x)∧h'=h:=by
 refine CallW.fnL (H.fn 189 f1345 rfl rfl) ?_
 refine WL.sr<|WOL.as rfl<|WOL.nil<|WL.sr<|WOL.mv rfl<|WOL.cl3 rfl rfl rfl rfl ((k72 H x 1 100 _).mono ?_)
 rintro v h2 ⟨rfl,rfl⟩
 exact WOL.as rfl<|WOL.nil<|WL.ret (WL.end_ rfl ⟨rfl,rfl⟩)
theorem k1300 (H:Has tp) (s:SlL encI 1 h v S) (hS:S.length≤1000000):CallW Tryz.prog tp (.func (.func 137) #[] #[]) #[v] h fun u h'=>u=zi (spE S)∧h'=h:=by
 refine CallW.fnL (H.fn 137 f1300 rfl rfl) ?_
 refine WL.sr<|WOL.as rfl<|WOL.nil<|keep [(0,_)] ⟨rfl,trivial⟩ ?_
 by_cases c:(S.length:Int) > 4096
 ·refine WL.seq<|WL.sr<|WOL.mv rfl<|WOL.len rfl s u29<|WOL.bt rfl rfl rfl (decide_eq_true c)<|WOL.nil<|WL.yes rfl<|WL.sr<|WOL.as rfl<|WOL.nil ?_
  exact WL.ret (WL.end_ rfl ⟨by unfold spE;rw [decide_eq_true c];rfl,rfl⟩)
 ·refine WL.seq<|WL.sr<|WOL.mv rfl<|WOL.len rfl s u29<|WOL.bf rfl rfl rfl (decide_eq_false c)<|WOL.nil<|WL.no rfl<|WL.skip ?_
  refine WL.sr<|WOL.mv rfl<|WOL.cl2 rfl rfl rfl ((k1190 H s hS (fun x=>k1345 H x _)).mono ?_)
  rintro u g ⟨rfl,rfl⟩
  exact WOL.as rfl<|WOL.nil<|WL.ret (WL.end_ rfl ⟨by unfold spE;rw [decide_eq_false c];rfl,rfl⟩)
theorem k1343 (H:Has tp) (hx:x.natAbs≤100000) (hy:y.natAbs≤100) (h:TH):CallW Tryz.prog tp (.func (.func 139) #[] #[]) #[zi x,zi y] h fun v h'=>v=zi (feQ x y)∧h'=h:=by
 refine CallW.fnL (H.fn 139 f1343 rfl rfl) ?_
 have m1:=mulb (w:=x) (x:=y) hx hy
 have m2:=mulb (w:=x*y) (x:=y) m1 hy
 exact WL.sr<|WOL.as rfl<|WOL.nil<|WL.sr<|WOL.mv rfl<|WOL.mv rfl<|WOL.mul (m:=x) (n:=y) rfl rfl (by omega) (by omega)<|WOL.mv rfl<|WOL.mul (m:=x*y) (n:=y) rfl rfl (by omega) (by omega)<|WOL.as rfl<|WOL.nil<|WL.ret (WL.end_ rfl ⟨rfl,rfl⟩)
theorem k1344 (H:Has tp) (hx:x.natAbs≤100000) (h1:1≤y) (h2:y≤100) (h:TH):CallW Tryz.prog tp (.func (.func 140) #[] #[]) #[zi x,zi y] h fun v h'=>v=zi (frQ x y)∧h'=h:=by
 refine CallW.fnL (H.fn 140 f1344 rfl rfl) ?_
 obtain ⟨p1,p2⟩:=sp_sq h1 h2
 refine WL.sr<|WOL.as rfl<|WOL.nil<|WL.sr<|WOL.mv rfl<|WOL.mv rfl<|WOL.mv rfl<|WOL.mul (m:=y) (n:=y) rfl rfl (by omega) (by omega)<|WOL.cl2 rfl rfl rfl ((k103 H (a:=x) (b:=y*y) (by omega) p1 (by omega)).mono ?_)
 rintro u g ⟨rfl,rfl⟩
 exact WOL.as rfl<|WOL.nil<|WL.ret (WL.end_ rfl ⟨rfl,rfl⟩)
theorem sp_mem (h:∀ j,j < S.length→1≤S.getD j 0∧S.getD j 0≤100):∀ s,s ∈ S→1≤s∧s≤100:=fun s hs=>by
 obtain ⟨i,hi⟩:=List.mem_iff_getElem?.1 hs
 have hlt:=(List.getElem?_eq_some_iff.1 hi).1
 have:=h i hlt
 rw [List.getD_eq_getElem?_getD,hi] at this
 exact this
theorem ben_mem (lv:Lev F L):∀ x,x ∈ benL L→x.natAbs≤100000:=fun x hx=>by
 obtain ⟨i,hi⟩:=List.mem_iff_getElem?.1 hx
 have hlt:=(List.getElem?_eq_some_iff.1 hi).1
 rw [ben_len] at hlt
 have e:=ben_get hlt
 rw [List.getD_eq_getElem?_getD,hi] at e
 replace e:x=_:=e
 have a:=lev_getD lv i
 have b:=lev_getD lv (i+1)
 have c:=lev_getD lv (i+2)
 omega
theorem fel_split {m k:Nat}:firstNZ [sigE m es,spE S,cond (decide ((m:Int) < 2)) 16 0,cond ((k:Int) != (m:Int) - 2) 2 0]=if firstNZ [sigE m es,spE S]≠0 then firstNZ [sigE m es,spE S] else felE m k :=
 fNZ_app [sigE m es,spE S] [cond (decide ((m:Int) < 2)) 16 0,cond ((k:Int) != (m:Int) - 2) 2 0]
theorem cond_ne {m k:Int} (h:cond (m != k) (2:Int) 0=0):m=k:=by
 by_cases c:m=k
 ·exact c
 ·rw [bne_iff_ne.2 c] at h;exact absurd (show (2:Int)=0 from h) (by decide)
theorem felE_ok {m k:Nat} (h:felE m k=0):2≤m∧k=m - 2:=by
 have q:=firstNZ_zero h
 have q1:=q (cond (decide ((m:Int) < 2)) 16 0) (by simp)
 have q2:=cond_ne (q (cond ((k:Int) != (m:Int) - 2) 2 0) (by simp))
 by_cases c:(m:Int) < 2
 ·rw [decide_eq_true c] at q1;exact absurd (show (16:Int)=0 from q1) (by decide)
 ·omega
theorem k1292 (H:Has tp) (X:HasX tp) (Gl:Glob h) (s:SlL encF 1 h v F) (t:SlL encI 1 h w S) (hE:SErr F es) (hL:firstNZ es=0→Lev F L) (hF:F.length≤900000) (hS:S.length≤900000) (f:Free0 h.next h) :
  CallW Tryz.prog tp (.func (.func 62) #[] #[]) #[v,w] h fun u h'=>HX h h'∧AnsF (cE (firstNZ [sigE F.length es,spE S,cond (decide ((F.length:Int) < 2)) 16 0,cond ((S.length:Int) != (F.length:Int) - 2) 2 0]) (List.zipWith feQ (benL L) S)) (cL (firstNZ [sigE F.length es,spE S,cond (decide ((F.length:Int) < 2)) 16 0,cond ((S.length:Int) != (F.length:Int) - 2) 2 0]) (List.zipWith feQ (benL L) S)) h.next h' u:=by
 refine CallW.fnL (H.fn 62 f1292 rfl rfl) ?_
 refine WL.sr<|WOL.as rfl<|WOL.as rfl<|WOL.nil<|keep [(0,_),(1,_)] ⟨rfl,rfl,trivial⟩ ?_
 refine WL.sr<|WOL.mv rfl<|WOL.cl1 rfl rfl ((k1268 H X s hE (by omega)).mono ?_)
 rintro u h ⟨rfl,rfl⟩
 refine WOL.mv rfl<|WOL.cl1 rfl rfl ((k1300 H t (by omega)).mono ?_)
 rintro u h ⟨rfl,rfl⟩
 refine WOL.mv rfl<|WOL.cl1 rfl rfl ((k1341 H s).mono ?_)
 rintro u h ⟨rfl,rfl⟩
 refine WOL.mv rfl<|WOL.len rfl t u29<|WOL.mv rfl<|WOL.len rfl s u43<|WOL.sub (m:=((F.length:Nat):Int)) (n:=2) rfl rfl (by omega) (by omega)<|WOL.cl2 rfl rfl rfl ((k1342 H _ _ _).mono ?_)
 rintro u h ⟨rfl,rfl⟩
 refine WOL.bsl rfl u166 tp30 (by decide) (by decide) (by decide) (filled_ints4 _ _ _ _) fun h5 N5=>WOL.cl1 rfl rfl ((k71 H (l:=[_,_,_,_]) N5.at_.get (by simp)).mono ?_)
 rintro u h6 ⟨rfl,rfl⟩
 have X2:=N5.hx
 have y2:=X2.next
 refine WOL.as rfl<|WOL.nil<|keep [(0,_),(1,_),(6,_)] ⟨rfl,rfl,rfl,trivial⟩ ?_
 generalize hp:firstNZ [sigE F.length es,spE S,cond (decide ((F.length:Int) < 2)) 16 0,cond ((S.length:Int) != (F.length:Int) - 2) 2 0]=E
 by_cases e0:E≠0
 ·rw [cE_no e0,cL_no e0]
  refine WL.seq<|WL.sr<|WOL.mv rfl<|WOL.bt rfl rfl rfl (bne_iff_ne.2 e0)<|WOL.nil<|WL.yes rfl<|WL.sr<|WOL.mv rfl<|WOL.as rfl<|WOL.as rfl<|WOL.nil ?_
  exact WL.ret (WL.end_ rfl ⟨X2,AnsF.err⟩)
 have e0:E=0:=Classical.not_not.1 e0
 subst e0
 rw [cE_0,cL_0]
 have q:=firstNZ_zero hp
 obtain ⟨l1,z1⟩:=sigE_short (q _ (List.mem_cons_self ..))
 obtain ⟨l3,z3⟩:=spE_ok (q (spE S) (by simp))
 rw [fel_split,if_neg (fun c=>c (firstNZ_all (l:=[_,_]) (by intro x hx;simp only [List.mem_cons,List.not_mem_nil,or_false] at hx;rcases hx with rfl | rfl;exact q _ (by simp);exact q _ (by simp))))] at hp
 obtain ⟨m2,k2⟩:=felE_ok hp
 have lv:=hL z1
 have ll:=lv.1
 refine WL.seq<|WL.sr<|WOL.mv rfl<|WOL.bf rfl rfl rfl rfl<|WOL.nil<|WL.no rfl<|WL.skip ?_
 refine WL.sr<|WOL.mv rfl<|WOL.cl1 rfl rfl ((k1313 H (s.hx X2) lv (by omega) (f.on X2)).mono ?_)
 rintro u h3 ⟨X3,c,rfl,hc,Ac⟩
 have Y3:=X2.trans X3
 have y3:=X3.next
 refine WOL.cl1 rfl rfl ((k1329 H (Gl.hx Y3) (SlL.own eI Ac rfl) (by omega) (by omega) (lev_getD lv) (f.on Y3)).mono ?_)
 rintro u h4 ⟨X4,d,rfl,hd,Ad⟩
 have Y4:=Y3.trans X4
 have y4:=X4.next
 have lb:=ben_len (L:=L)
 refine WOL.mv rfl<|WOL.cl3 rfl rfl rfl rfl ((k1332 (φ:=feQ) H (SlL.own eI Ad lb) (t.hx Y4) (by omega) (by omega) (f.on Y4) (fun x y hx hy g _=>(k1343 H (ben_mem lv x hx) (by have:=sp_mem z3 y hy;omega) g).mono fun v h' q=>⟨q.1,by rw [q.2];exact HX.refl _⟩)).mono ?_)
 rintro u h5 ⟨X5,c2,rfl,hc2,A5⟩
 have Y5:=Y4.trans X5
 have y5:=X5.next
 have lz:(List.zipWith feQ (benL L) S).length=(benL L).length:=by rw [List.length_zipWith];omega
 refine WOL.cl1 rfl rfl ((k1311 H (SlL.own eI A5 lz) (by omega) (f.on Y5)).mono ?_)
 rintro u h6 ⟨X6,R⟩
 have R:=R.low (n0:=h.next) (by omega)
 obtain ⟨b,m,k,F',rfl,r1,r2,r3⟩:=R
 exact WOL.ex rfl rfl<|WOL.ex rfl rfl<|WOL.as rfl<|WOL.as rfl<|WOL.nil<|WL.ret (WL.end_ rfl ⟨Y5.trans X6,b,m,k,F',rfl,r1,r2,r3⟩)
theorem k1294 (H:Has tp) (X:HasX tp) (s:SlL encF 1 h v F) (t:SlL encI 1 h w S) (hE:SErr F es) (hL:firstNZ es=0→Lev F L) (hF:F.length≤900000) (hS:S.length≤900000) (f:Free0 h.next h) :
  CallW Tryz.prog tp (.func (.func 63) #[] #[]) #[v,w] h fun u h'=>HX h h'∧AnsF (cE (firstNZ [sigE F.length es,spE S,cond ((S.length:Int) != (F.length:Int)) 2 0]) (List.zipWith frQ L S)) (cL (firstNZ [sigE F.length es,spE S,cond ((S.length:Int) != (F.length:Int)) 2 0]) (List.zipWith frQ L S)) h.next h' u:=by
 refine CallW.fnL (H.fn 63 f1294 rfl rfl) ?_
 refine WL.sr<|WOL.as rfl<|WOL.as rfl<|WOL.nil<|keep [(0,_),(1,_)] ⟨rfl,rfl,trivial⟩ ?_
 refine WL.sr<|WOL.mv rfl<|WOL.cl1 rfl rfl ((k1268 H X s hE (by omega)).mono ?_)
 rintro u h ⟨rfl,rfl⟩
 refine WOL.mv rfl<|WOL.cl1 rfl rfl ((k1300 H t (by omega)).mono ?_)
 rintro u h ⟨rfl,rfl⟩
 refine WOL.mv rfl<|WOL.len rfl t u29<|WOL.mv rfl<|WOL.len rfl s u43<|WOL.cl2 rfl rfl rfl ((k1342 H _ _ _).mono ?_)
 rintro u h ⟨rfl,rfl⟩
 refine WOL.bsl rfl u166 tp30 (by decide) (by decide) (by decide) (filled_ints3 _ _ _) fun h5 N5=>WOL.cl1 rfl rfl ((k71 H (l:=[_,_,_]) N5.at_.get (by simp)).mono ?_)
 rintro u h6 ⟨rfl,rfl⟩
 have X2:=N5.hx
 have y2:=X2.next
 refine WOL.as rfl<|WOL.nil<|keep [(0,_),(1,_),(6,_)] ⟨rfl,rfl,rfl,trivial⟩ ?_
 generalize hp:firstNZ [sigE F.length es,spE S,cond ((S.length:Int) != (F.length:Int)) 2 0]=E
 by_cases e0:E≠0
 ·rw [cE_no e0,cL_no e0]
  refine WL.seq<|WL.sr<|WOL.mv rfl<|WOL.bt rfl rfl rfl (bne_iff_ne.2 e0)<|WOL.nil<|WL.yes rfl<|WL.sr<|WOL.mv rfl<|WOL.as rfl<|WOL.as rfl<|WOL.nil ?_
  exact WL.ret (WL.end_ rfl ⟨X2,AnsF.err⟩)
 have e0:E=0:=Classical.not_not.1 e0
 subst e0
 rw [cE_0,cL_0]
 have q:=firstNZ_zero hp
 obtain ⟨l1,z1⟩:=sigE_short (q _ (List.mem_cons_self ..))
 obtain ⟨l3,z3⟩:=spE_ok (q (spE S) (by simp))
 have k2:=cond_ne (q (cond ((S.length:Int) != (F.length:Int)) 2 0) (by simp))
 have lv:=hL z1
 have ll:=lv.1
 refine WL.seq<|WL.sr<|WOL.mv rfl<|WOL.bf rfl rfl rfl rfl<|WOL.nil<|WL.no rfl<|WL.skip ?_
 refine WL.sr<|WOL.mv rfl<|WOL.cl1 rfl rfl ((k1313 H (s.hx X2) lv (by omega) (f.on X2)).mono ?_)
 rintro u h3 ⟨X3,c,rfl,hc,Ac⟩
 have Y3:=X2.trans X3
 have y3:=X3.next
 refine WOL.mv rfl<|WOL.cl3 rfl rfl rfl rfl ((k1332 (φ:=frQ) H (SlL.own eI Ac rfl) (t.hx Y3) (by omega) (by omega) (f.on Y3) (fun x y hx hy g _=>(k1344 H (by have:=lev_limI lv x hx;omega) (sp_mem z3 y hy).1 (sp_mem z3 y hy).2 g).mono fun v h' q=>⟨q.1,by rw [q.2];exact HX.refl _⟩)).mono ?_)
 rintro u h5 ⟨X5,c2,rfl,hc2,A5⟩
 have Y5:=Y3.trans X5
 have y5:=X5.next
 have lz:(List.zipWith frQ L S).length=L.length:=by rw [List.length_zipWith];omega
 refine WOL.cl1 rfl rfl ((k1311 H (SlL.own eI A5 lz) (by omega) (f.on Y5)).mono ?_)
 rintro u h6 ⟨X6,R⟩
 have R:=R.low (n0:=h.next) (by omega)
 obtain ⟨b,m,k,F',rfl,r1,r2,r3⟩:=R
 exact WOL.ex rfl rfl<|WOL.ex rfl rfl<|WOL.as rfl<|WOL.as rfl<|WOL.nil<|WL.ret (WL.end_ rfl ⟨Y5.trans X6,b,m,k,F',rfl,r1,r2,r3⟩)
end
end Go.Tidy
namespace Go.Tidy
open Go Go.Proofs Tab
variable {tp:TProg}
structure Sx (b:Nat) (n:Int):Prop where
 ok:∃ neg q,V32 b neg q∧(∀ D,2 ^ 149=D→q*16=n.natAbs*D)∧sg neg n.natAbs=n
theorem Samp.x {b:Nat} {n:Int} (s:Samp b n):Sx b n:=⟨s.ok⟩
theorem Sx.nan {b:Nat} {n:Int} (s:Sx b n):nanB .f32 b=false:=by
 obtain ⟨neg,q,h,_⟩:=s.ok
 exact h.nan
theorem Sx.order {b c:Nat} {n m:Int} (s:Sx b n) (t:Sx c m):Ieee.single.order b c=some (compare n m):=by
 obtain ⟨neg,q,h1,h2,h3⟩:=s.ok
 obtain ⟨neg',q',g1,g2,g3⟩:=t.ok
 obtain ⟨D,hD⟩:∃ D:Nat,2 ^ 149=D:=⟨_,rfl⟩
 have hDp:0 < D:=by rw [← hD];exact two_pow_pos 149
 have e1:=h2 D hD
 have e2:=g2 D hD
 have a1:sg neg q*(16:Nat)=n*(D:Nat):=by rw [← sg_mul,e1,sg_mul,h3]
 have a2:sg neg' q'*(16:Nat)=m*(D:Nat):=by rw [← sg_mul,e2,sg_mul,g3]
 rw [h1.order g1]
 generalize sg neg q=x at *
 generalize sg neg' q'=y at *
 have hDi:(0:Int) < (D:Int):=by omega
 have hlt:x < y ↔ n < m:=by
  constructor
  ·intro hq
   have:n*(D:Int) < m*(D:Int):=by rw [← a1,← a2];omega
   exact Int.lt_of_mul_lt_mul_right this (by omega)
  ·intro hq
   have:n*(D:Int) < m*(D:Int):=Int.mul_lt_mul_of_pos_right hq hDi
   rw [← a1,← a2] at this
   omega
 have heq:x=y ↔ n=m:=by
  constructor
  ·intro hq
   rw [hq,a2] at a1
   exact (Int.eq_of_mul_eq_mul_right (by omega) a1).symm
  ·intro hq
   rw [hq,← a2] at a1
   omega
 congr 1
 show compareOfLessAndEq _ _=compareOfLessAndEq _ _
 unfold compareOfLessAndEq
 simp only [hlt,heq]
theorem sg_not (s:Bool) (q:Nat):sg (!s) q=-sg s q:=by
 unfold sg
 cases s <;> simp
theorem sg_sign {z:Int} {P:Nat} {w:Int} {s t:Bool} (hP:0 < P) (h:w=z*(P:Int)∨z=w*(P:Int)):sg (if z=0 then s && t else decide (z < 0)) w.natAbs=w:=by
  by_cases hz:z=0
  · have hw:w=0:=by
      rcases h with h | h
      · rw [h,hz,Int.zero_mul]
      · rw [hz] at h
        rcases Int.mul_eq_zero.1 h.symm with h | h
        · exact h
        · omega
    rw [if_pos hz,hw]
    cases s && t <;> rfl
  · rw [if_neg hz]
    have hPi:(0:Int) < (P:Int):=by omega
    have key:z < 0 ↔ w < 0:=by
      rcases h with h | h
      · rw [h]
        constructor
        · intro hl
          have:=Int.mul_lt_mul_of_pos_right hl hPi
          omega
        · intro hl
          have:z*(P:Int) < 0*(P:Int):=by omega
          exact Int.lt_of_mul_lt_mul_right this (by omega)
      · rw [h]
        constructor
        · intro hl
          have:w*(P:Int) < 0*(P:Int):=by omega
          exact Int.lt_of_mul_lt_mul_right this (by omega)
        · intro hl
          have:=Int.mul_lt_mul_of_pos_right hl hPi
          omega
    unfold sg
    by_cases hl:w < 0
    · rw [decide_eq_true (key.2 hl),if_pos rfl];omega
    · rw [decide_eq_false (fun q=>hl (key.1 q)),if_neg (by decide)];omega
theorem arr1 {z w:Int} {P Q D:Nat} (hP:0 < P) (h:z*(P:Int)*16=w*(D:Int)) (hq:Q*P*16=D):z=w*(Q:Int):=by
 subst hq
 refine Int.eq_of_mul_eq_mul_right (a:=(P:Int)*16) (by omega) ?_
 rw [← Int.mul_assoc,h,Int.natCast_mul,Int.natCast_mul,Int.mul_assoc,Int.mul_assoc]
 rfl
theorem arr2 {z w:Int} {P Q D:Nat} (hD:0 < D) (h:z*(P:Int)*16=w*(D:Int)) (hq:D*Q=P*16):w=z*(Q:Int):=by
 refine Int.eq_of_mul_eq_mul_right (a:=(D:Int)) (by omega) ?_
 rw [← h,Int.mul_assoc,Int.mul_assoc]
 have e:(P:Int)*16=((P*16:Nat):Int):=by rw [Int.natCast_mul];rfl
 rw [e,← hq,Int.natCast_mul,Int.mul_comm (D:Int)]
theorem arr3 {Z P Q D:Nat} (hq:D*Q=P*16):Z*P*16=Z*Q*D:=by
 rw [Nat.mul_assoc,← hq,Nat.mul_assoc,Nat.mul_comm D]
theorem Sx.sub {b c:Nat} {n m:Int} (s:Sx b n) (t:Sx c m) (hn:n.natAbs≤100000) (hm:m.natAbs≤100000):∃ r,Ieee.single.sub b c=some r∧Sx r (n - m):=by
 obtain ⟨s1,q1,⟨m1,k1,r1,p1,l1⟩,h2,h3⟩:=s.ok
 obtain ⟨s2,q2,⟨m2,k2,r2,p2,l2⟩,g2,g3⟩:=t.ok
 obtain ⟨D,hD⟩:∃ D:Nat,2 ^ 149=D:=⟨_,rfl⟩
 have hDp:0 < D:=by rw [← hD];exact two_pow_pos 149
 have e1:=h2 D hD
 have e2:=g2 D hD
 have a1:sg s1 q1*(16:Nat)=n*(D:Nat):=by rw [← sg_mul,e1,sg_mul,h3]
 have a2:sg s2 q2*(16:Nat)=m*(D:Nat):=by rw [← sg_mul,e2,sg_mul,g3]
 obtain ⟨K,hK⟩:∃ K,min k1 k2=K:=⟨_,rfl⟩
 have hmin:min ((-149:Int)+(k1:Int)) (-149+(k2:Int))=-149+(K:Int):=by omega
 obtain ⟨z,hz⟩:∃ z:Int,sg s1 (m1*2 ^ (k1 - K))+sg (!s2) (m2*2 ^ (k2 - K))=z:=⟨_,rfl⟩
 have hsub:Ieee.single.sub b c=some (Ieee.single.nearest (if z=0 then s1 && !s2 else decide (z < 0)) z.natAbs (-149+(K:Int))):=by
  unfold Ieee.Format.sub
  rw [r1,r2]
  show (Ieee.Datum.sum (.number s1 m1 (-149+(k1:Int))) (.number (!s2) m2 (-149+(k2:Int)))).map _=_
  unfold Ieee.Datum.sum
  simp only [hmin,signed_sg]
  rw [show ((-149:Int)+(k1:Int) - (-149+(K:Int))).toNat=k1 - K by omega,show ((-149:Int)+(k2:Int) - (-149+(K:Int))).toNat=k2 - K by omega,hz]
  rfl
 have pk1:m1*2 ^ (k1 - K)*2 ^ K=q1:=by rw [Nat.mul_assoc,← Nat.pow_add,show k1 - K+K=k1 by omega,p1]
 have pk2:m2*2 ^ (k2 - K)*2 ^ K=q2:=by rw [Nat.mul_assoc,← Nat.pow_add,show k2 - K+K=k2 by omega,p2]
 have hzP:z*((2 ^ K:Nat):Int)*16=(n - m)*(D:Int):=by
  rw [← hz,Int.add_mul,← sg_mul,← sg_mul,pk1,pk2,sg_not,Int.sub_mul,← a1,← a2]
  omega
 by_cases hK2:K≤145
 ·have hpw:2 ^ (145 - K)*2 ^ K*16=D:=by
   rw [← Nat.pow_add,show 145 - K+K=145 by omega,← hD]
  have hzz:z=(n - m)*((2 ^ (145 - K):Nat):Int):=arr1 (two_pow_pos K) hzP hpw
  have hab:z.natAbs=(n - m).natAbs*2 ^ (145 - K):=by rw [hzz,Int.natAbs_mul,Int.natAbs_natCast]
  refine ⟨_,hsub,⟨⟨(if z=0 then s1 && !s2 else decide (z < 0)),(n - m).natAbs*2 ^ 145,?_,?_,sg_sign (s:=s1) (t:=!s2) (P:=2 ^ (145 - K)) (two_pow_pos _) (.inr hzz)⟩⟩⟩
  ·rw [hab,nearest_shift Ieee.single _ (n - m).natAbs (145 - K) _ (by show _ < 2 ^ 24;omega) (by rw [lp32];omega)]
   exact near32 (by omega) _ (by omega) (by decide)
  ·intro D' hD'
   rw [Nat.mul_assoc,← hD']
 ·have hpw:D*2 ^ (K - 145)=2 ^ K*16:=by
   rw [← hD]
   exact (Nat.pow_add 2 149 (K - 145)).symm.trans ((congrArg (fun x=>2 ^ x) (show 149+(K - 145)=K+4 by omega)).trans (Nat.pow_add 2 K 4))
  have hzz:n - m=z*((2 ^ (K - 145):Nat):Int):=arr2 hDp hzP hpw
  have hab:(n - m).natAbs=z.natAbs*2 ^ (K - 145):=by rw [hzz,Int.natAbs_mul,Int.natAbs_natCast]
  have hle:z.natAbs≤(n - m).natAbs:=by rw [hab];exact Nat.le_mul_of_pos_right _ (two_pow_pos _)
  refine ⟨_,hsub,⟨⟨(if z=0 then s1 && !s2 else decide (z < 0)),_,near32 (m:=z.natAbs) (k:=K) (by omega) _ rfl (by omega),?_,sg_sign (s:=s1) (t:=!s2) (P:=2 ^ (K - 145)) (two_pow_pos _) (.inl hzz)⟩⟩⟩
  intro D' hD'
  rw [hab,← hD',hD]
  exact arr3 hpw
end Go.Tidy
namespace Go.Tidy
open Go Go.Proofs Tab
variable {tp:TProg}
theorem read2':Ieee.single.read 1073741824=.number false 8388608 (-22):=by decide
theorem mul2' {b:Nat} {neg:Bool} {m k:Nat} (N:N32 b neg m k) (hk:k≤200):∃ c,Ieee.single.mul 1073741824 b=some c∧V32 c neg (m*2 ^ (k+1)):=by
 have e0:(-22:Int)+(-149+(k:Int))+(23:Nat)=-148+k:=by omega
 have hsh:=nearest_shift Ieee.single neg m 23 (-22+(-149+(k:Int))) N.hm (by rw [lp32,e0];omega)
 rw [e0] at hsh
 refine ⟨Ieee.single.nearest neg m (-148+k),?_,near32 N.hm _ (by omega) (by omega)⟩
 unfold Ieee.Format.mul
 rw [read2',N.read]
 show some (Ieee.single.nearest (false ^^ neg) (8388608*m) (-22+(-149+(k:Int))))=_
 rw [← hsh,Nat.mul_comm]
 congr 1
 cases neg <;> rfl
theorem Samp.two {b:Nat} {n:Int} (s:Samp b n):∃ r,Ieee.single.mul 1073741824 b=some r∧Sx r (2*n):=by
  obtain ⟨neg,q,hV,h2,h3⟩:=s.ok
  obtain ⟨D,hD⟩:∃ D:Nat,2 ^ 149=D:=⟨_,rfl⟩
  have hDp:0 < D:=by rw [← hD];exact two_pow_pos 149
  have e1:=h2 D hD
  have hlim:=s.lim
  rcases single_cases b with h | ⟨s',h⟩ | ⟨neg',m,k,N⟩
  · rw [s.nan] at h;cases h
  · obtain ⟨m',k',r,_⟩:=hV.ok
    rw [h] at r;cases r
  · obtain ⟨m',k',r1,r2,r3⟩:=hV.ok
    rw [N.read] at r1
    simp only [Ieee.Datum.number.injEq] at r1
    obtain ⟨e2,e3,r4⟩:=r1
    subst e2 e3
    obtain rfl:k=k':=by omega
    have hk:k≤200:=by
      by_cases hm0:m=0
      · rw [N.hz hm0];omega
      · by_cases hk:k≤200
        · exact hk
        · have h1:2 ^ k≤m*2 ^ k:=Nat.le_mul_of_pos_left _ (by omega)
          have h2:2 ^ 201≤2 ^ k:=Nat.pow_le_pow_right (by decide) (by omega)
          have h3:16384*D < 2 ^ 201:=by rw [← hD];decide
          have h4:n.natAbs*D≤16384*D:=Nat.mul_le_mul_right _ hlim
          omega
    obtain ⟨c,c1,c2⟩:=mul2' N hk
    refine ⟨c,c1,⟨neg',_,c2,?_,?_⟩⟩
    · intro D' hD'
      rw [Int.natAbs_mul,show (2:Int).natAbs=2 from rfl,Nat.mul_assoc 2,← h2 D' hD',← r2,Nat.pow_succ,Nat.mul_comm (2 ^ k) 2,Nat.mul_left_comm m 2,Nat.mul_assoc 2]
    · rw [Int.natAbs_mul,show (2:Int).natAbs=2 from rfl,Nat.mul_comm,sg_mul,h3]
      omega
section
variable {P:Program} {h:TH} {K:Regs→TH→Prop} {rest:List TOper} {d:Option Tmp} {ty:TypeId} {i:Nat} {x y:Operand} {t u:TypeId} {L:Rg}
theorem WOL.fgx {b c:Nat} {m n:Int} (s:Sx b m) (s':Sx c n) (hx:getL L x=some (.float .f32 b)) (hy:getL L y=some (.float .f32 c)) (w:∀ a,Kn (putL L d (.bool (decide (n < m)))) a→WO P tp rest a h K):∀ a,Kn L a→WO P tp (⟨d,.binOp .gtr t x y u,ty,none,[],i⟩::rest) a h K:=fun a k=>WO.fcmp (k.o hx) (k.o hy) s.nan s'.nan (by show some (Ieee.single.order b c == some .gt)=some (decide (n < m));rw [s.order s',cmp_gt]) (w _ (k.put d _))
end
section
variable {m:Int}
end
end Go.Tidy
namespace Go.Tidy
open Go Go.Proofs Tab
variable {tp:TProg}
section
variable {P:Program} {h:TH} {K:Regs→TH→Prop} {rest:List TOper} {d:Option Tmp} {ty:TypeId} {i:Nat} {x:Operand} {t:TypeId} {L:Rg}
theorem WOL.negP {vx v:Value} (hx:getL L x=some vx) (hp:plain vx=true) (hv:pv P (Op.unary .neg vx)=some v) (hq:plain v=true) (w:∀ a,Kn (putL L d v) a→WO P tp rest a h K):∀ a,Kn L a→WO P tp (⟨d,.unOp .neg t x,ty,none,[],i⟩::rest) a h K:=fun a k=>by
 have ex:=getO_eval (k.o hx)
 refine WO.plainly rfl rfl rfl rfl rfl (plainOp_of rfl (fun q hq=>?_) ?_ hq) (w _ (k.put d _))
 ·simp only [Op.operands] at hq
  simp at hq
  rw [hq,ex];exact hp
 ·simp [toOper,execOp,pv_map,pv_pure,ex,hv]
end
section
variable {h:TH} {s:ByteArray} {n:Int} {v1 v2:Value} {F:List Nat} {S:List (Int × Int)} {es L:List Int}
end
end Go.Tidy
namespace Go.Tidy
open Go Go.Proofs Tab
variable {tp:TProg}
theorem Sx.add {b c:Nat} {n m:Int} (s:Sx b n) (t:Sx c m) (hn:n.natAbs≤100000) (hm:m.natAbs≤100000):∃ r,Ieee.single.add b c=some r∧Sx r (n+m):=by
 obtain ⟨s1,q1,⟨m1,k1,r1,p1,l1⟩,h2,h3⟩:=s.ok
 obtain ⟨s2,q2,⟨m2,k2,r2,p2,l2⟩,g2,g3⟩:=t.ok
 obtain ⟨D,hD⟩:∃ D:Nat,2 ^ 149=D:=⟨_,rfl⟩
 have hDp:0 < D:=by rw [← hD];exact two_pow_pos 149
 have e1:=h2 D hD
 have e2:=g2 D hD
 have a1:sg s1 q1*(16:Nat)=n*(D:Nat):=by rw [← sg_mul,e1,sg_mul,h3]
 have a2:sg s2 q2*(16:Nat)=m*(D:Nat):=by rw [← sg_mul,e2,sg_mul,g3]
 obtain ⟨K,hK⟩:∃ K,min k1 k2=K:=⟨_,rfl⟩
 have hmin:min ((-149:Int)+(k1:Int)) (-149+(k2:Int))=-149+(K:Int):=by omega
 obtain ⟨z,hz⟩:∃ z:Int,sg s1 (m1*2 ^ (k1 - K))+sg s2 (m2*2 ^ (k2 - K))=z:=⟨_,rfl⟩
 have hadd:Ieee.single.add b c=some (Ieee.single.nearest (if z=0 then s1 && s2 else decide (z < 0)) z.natAbs (-149+(K:Int))):=by
  unfold Ieee.Format.add
  rw [r1,r2]
  show (Ieee.Datum.sum (.number s1 m1 (-149+(k1:Int))) (.number s2 m2 (-149+(k2:Int)))).map _=_
  unfold Ieee.Datum.sum
  simp only [hmin,signed_sg]
  rw [show ((-149:Int)+(k1:Int) - (-149+(K:Int))).toNat=k1 - K by omega,show ((-149:Int)+(k2:Int) - (-149+(K:Int))).toNat=k2 - K by omega,hz]
  rfl
 have pk1:m1*2 ^ (k1 - K)*2 ^ K=q1:=by rw [Nat.mul_assoc,← Nat.pow_add,show k1 - K+K=k1 by omega,p1]
 have pk2:m2*2 ^ (k2 - K)*2 ^ K=q2:=by rw [Nat.mul_assoc,← Nat.pow_add,show k2 - K+K=k2 by omega,p2]
 have hzP:z*((2 ^ K:Nat):Int)*16=(n+m)*(D:Int):=by
  rw [← hz,Int.add_mul,← sg_mul,← sg_mul,pk1,pk2,Int.add_mul,Int.add_mul n m,← a1,← a2] <;> omega
 by_cases hK2:K≤145
 ·have hpw:2 ^ (145 - K)*2 ^ K*16=D:=by
   rw [← Nat.pow_add,show 145 - K+K=145 by omega,← hD]
  have hzz:z=(n+m)*((2 ^ (145 - K):Nat):Int):=arr1 (two_pow_pos K) hzP hpw
  have hab:z.natAbs=(n+m).natAbs*2 ^ (145 - K):=by rw [hzz,Int.natAbs_mul,Int.natAbs_natCast]
  refine ⟨_,hadd,⟨⟨(if z=0 then s1 && s2 else decide (z < 0)),(n+m).natAbs*2 ^ 145,?_,?_,sg_sign (s:=s1) (t:=s2) (P:=2 ^ (145 - K)) (two_pow_pos _) (.inr hzz)⟩⟩⟩
  ·rw [hab,nearest_shift Ieee.single _ (n+m).natAbs (145 - K) _ (by show _ < 2 ^ 24;omega) (by rw [lp32];omega)]
   exact near32 (by omega) _ (by omega) (by decide)
  ·intro D' hD'
   rw [Nat.mul_assoc,← hD']
 ·have hpw:D*2 ^ (K - 145)=2 ^ K*16:=by
   rw [← hD]
   exact (Nat.pow_add 2 149 (K - 145)).symm.trans ((congrArg (fun x=>2 ^ x) (show 149+(K - 145)=K+4 by omega)).trans (Nat.pow_add 2 K 4))
  have hzz:n+m=z*((2 ^ (K - 145):Nat):Int):=arr2 hDp hzP hpw
  have hab:(n+m).natAbs=z.natAbs*2 ^ (K - 145):=by rw [hzz,Int.natAbs_mul,Int.natAbs_natCast]
  have hle:z.natAbs≤(n+m).natAbs:=by rw [hab];exact Nat.le_mul_of_pos_right _ (two_pow_pos _)
  refine ⟨_,hadd,⟨⟨(if z=0 then s1 && s2 else decide (z < 0)),_,near32 (m:=z.natAbs) (k:=K) (by omega) _ rfl (by omega),?_,sg_sign (s:=s1) (t:=s2) (P:=2 ^ (K - 145)) (two_pow_pos _) (.inl hzz)⟩⟩⟩
  intro D' hD'
  rw [hab,← hD',hD]
  exact arr3 hpw
section
variable {P:Program} {h:TH} {K:Regs→TH→Prop} {rest:List TOper} {d:Option Tmp} {ty:TypeId} {i:Nat} {x y:Operand} {t u:TypeId} {L:Rg}
theorem WOL.flx {b c:Nat} {m n:Int} (s:Sx b m) (s':Sx c n) (hx:getL L x=some (.float .f32 b)) (hy:getL L y=some (.float .f32 c)) (w:∀ a,Kn (putL L d (.bool (decide (m < n)))) a→WO P tp rest a h K):∀ a,Kn L a→WO P tp (⟨d,.binOp .lss t x y u,ty,none,[],i⟩::rest) a h K:=fun a k=>WO.fcmp (k.o hx) (k.o hy) s.nan s'.nan (by show some (Ieee.single.order b c == some .lt)=some (decide (m < n));rw [s.order s',cmp_lt]) (w _ (k.put d _))
theorem WOL.s2a {b:Addr} {m cap n:Nat} {e:TypeId} (hx:getL L x=some (.slice (some b) m cap)) (hu:P.underlying t=some (.array n e)) (h1:n≤m) (h0:0 < n) (w:∀ a,Kn (putL L d (.pointer (some b))) a→WO P tp rest a h K):∀ a,Kn L a→WO P tp (⟨d,.sliceToArrayPointer t x,ty,none,[],i⟩::rest) a h K:=fun a q=>by
 have ex:=getO_eval (q.o hx)
 have hv:arrayAtT P t (.slice (some b) m cap)=some (.pointer (some b)):=by
  simp only [arrayAtT,hu]
  rw [show (Nat.ble n m && Nat.blt 0 n)=true by rw [Bool.and_eq_true];exact ⟨by rw [Nat.ble_eq];exact h1,by rw [Nat.blt_eq];exact h0⟩]
  rfl
 exact WO.op (h1:=h) rfl rfl (fun call=>by simp [stepOp,heapFirst,fastOp,valueOp,ex,hv]) (w _ (q.put d _))
end
section
variable {h:TH} {v w fv:Value} {F G:List Nat} {es es' ee L M D S:List Int} {x y m:Int} {fa fb fc:Nat}
def trnL (L:List Int):List Int:=(L.map fun x=>-x).reverse
theorem k1315 (H:Has tp) (hx:x.natAbs≤100000) (h:TH):CallW Tryz.prog tp (.func (.func 133) #[] #[]) #[zi x] h fun v h'=>v=zi (-x)∧h'=h:=by
 refine CallW.fnL (H.fn 133 f1315 rfl rfl) ?_
 exact WL.sr<|WOL.as rfl<|WOL.nil<|WL.sr<|WOL.mv rfl<|WOL.neg rfl (by omega) (by omega)<|WOL.as rfl<|WOL.nil<|WL.ret (WL.end_ rfl ⟨rfl,rfl⟩)
theorem k1259 (H:Has tp) (X:HasX tp) (s:SlL encF 1 h v F) (hE:SErr F es) (hL:firstNZ es=0→Lev F L) (hF:F.length≤900000) (f:Free0 h.next h) :
  CallW Tryz.prog tp (.func (.func 59) #[] #[]) #[v] h fun u h'=>HX h h'∧AnsF (cE (sigE F.length es) (trnL L)) (cL (sigE F.length es) (trnL L)) h.next h' u:=by
 refine CallW.fnL (H.fn 59 f1259 rfl rfl) ?_
 refine WL.sr<|WOL.as rfl<|WOL.as rfl<|WOL.nil<|keep [(0,_)] ⟨rfl,trivial⟩ ?_
 refine WL.seq<|WL.sr<|WOL.mv rfl<|WOL.cl1 rfl rfl ((k1268 H X s hE (by omega)).mono ?_)
 rintro u h ⟨rfl,rfl⟩
 refine WOL.as rfl<|WOL.nil<|keep [(0,_),(4,_)] ⟨rfl,rfl,trivial⟩ ?_
 generalize hp:sigE F.length es=E
 by_cases e0:E≠0
 ·rw [cE_no e0,cL_no e0]
  refine WL.sr<|WOL.mv rfl<|WOL.bt rfl rfl rfl (bne_iff_ne.2 e0)<|WOL.nil<|WL.yes rfl<|WL.sr<|WOL.mv rfl<|WOL.as rfl<|WOL.as rfl<|WOL.nil ?_
  exact WL.ret (WL.end_ rfl ⟨HX.refl _,AnsF.err⟩)
 have e0:E=0:=Classical.not_not.1 e0
 subst e0
 rw [cE_0,cL_0]
 obtain ⟨l1,z1⟩:=sigE_short hp
 have lv:=hL z1
 have ll:=lv.1
 refine WL.sr<|WOL.mv rfl<|WOL.bf rfl rfl rfl rfl<|WOL.nil<|WL.no rfl<|WL.skip<|keep [(0,_)] ⟨rfl,trivial⟩ ?_
 refine WL.sr<|WOL.mv rfl<|WOL.cl1 rfl rfl ((k1313 H s lv (by omega) f).mono ?_)
 rintro u h3 ⟨X3,c,rfl,hc,Ac⟩
 have y3:=X3.next
 refine WOL.cl2 rfl rfl rfl ((k1312 (φ:=fun x=>-x) H (SlL.own eI Ac rfl) (by omega) (f.on X3) (fun x hx g _=>(k1315 H (by have:=lev_limI lv x hx;omega) g).mono fun v h' q=>⟨q.1,by rw [q.2];exact HX.refl _⟩)).mono ?_)
 rintro u h4 ⟨X4,d,rfl,hd,Ad⟩
 have y4:=X4.next
 have Y4:=X3.trans X4
 have lz:(L.map fun x=>-x).length=L.length:=List.length_map ..
 rw [← lz]
 refine WOL.as rfl<|WOL.nil<|keep [(5,_)] ⟨rfl,trivial⟩ ?_
 refine WL.sr<|WOL.mv rfl<|WOL.cl1 rfl rfl ((k1184 (n0:=h.next) H Ad (by omega) (f.hx Y4) (by omega)).mono ?_)
 rintro u h5 ⟨A5,x5,_,f5,n5⟩
 refine WOL.nil<|keep [(5,_)] ⟨rfl,trivial⟩ ?_
 have Y5:=x5 h Y4 (by omega)
 refine WL.sr<|WOL.mv rfl<|WOL.cl1 rfl rfl ((k1311 H (SlL.own eI A5 (by unfold trnL;rw [List.length_reverse]):SlL encI 1 h5 _ (trnL L)) (by unfold trnL;rw [List.length_reverse];omega) (f5.up (by omega))).mono ?_)
 rintro u h6 ⟨X6,R⟩
 have R:=R.low (n0:=h.next) (by omega)
 obtain ⟨b,m,k,F',rfl,r1,r2,r3⟩:=R
 exact WOL.ex rfl rfl<|WOL.ex rfl rfl<|WOL.as rfl<|WOL.as rfl<|WOL.nil<|WL.ret (WL.end_ rfl ⟨Y5.trans X6,b,m,k,F',rfl,r1,r2,r3⟩)
end
end Go.Tidy
namespace Go.Tidy
open Go Go.Proofs Tab
section
variable {L M B S:List Int} {i:Nat} {m a b:Int}
theorem list_ext {L M:List Int} (hl:L.length=M.length) (h:∀ i,i < L.length→L.getD i 0=M.getD i 0):L=M:=by
 refine List.ext_getElem? fun i=>?_
 by_cases hi:i < L.length
 ·rw [at_getD hi,at_getD (w:=M) (by omega),h i hi]
 ·rw [List.getElem?_eq_none (by omega),List.getElem?_eq_none (by omega)]
theorem dblF_ben (hl:2≤L.length):∀ k,k < L.length→dblF (L.getD 0 0) (L.getD 1 0) (benL L) k=L.getD k 0∧(k+1 < L.length→dblF (L.getD 0 0) (L.getD 1 0) (benL L) (k+1)=L.getD (k+1) 0)
 | 0,_=>⟨rfl,fun _=>rfl⟩
 | k+1,h=>by
  have ih:=dblF_ben hl k (by omega)
  refine ⟨ih.2 h,fun h2=>?_⟩
  show 2*dblF _ _ _ (k+1) - dblF _ _ _ k+(benL L).getD k 0=L.getD (k+2) 0
  rw [ih.2 h,ih.1,ben_get (by omega)]
  omega
theorem dbl_ben (hl:2≤L.length):dblL (L.getD 0 0) (L.getD 1 0) (benL L)=L:=by
 have lb:=ben_len (L:=L)
 have ld:(dblL (L.getD 0 0) (L.getD 1 0) (benL L)).length=(benL L).length+2:=dbl_len
 refine list_ext (by omega) fun i hi=>?_
 rw [dbl_get (by omega)]
 exact (dblF_ben hl i (by omega)).1
theorem getD_rvI (h:i < L.length):L.reverse.getD i 0=L.getD (L.length - 1 - i) 0:=by
 rw [List.getD_eq_getElem?_getD,List.getElem?_reverse h,← List.getD_eq_getElem?_getD]
theorem trn_len:(trnL L).length=L.length:=by unfold trnL;rw [List.length_reverse,List.length_map]
theorem trn_get (h:i < L.length):(trnL L).getD i 0=-(L.getD (L.length - 1 - i) 0):=by
 unfold trnL
 rw [getD_rvI (by rw [List.length_map];exact h),List.length_map,List.getD_eq_getElem?_getD,List.getElem?_map,at_getD (w:=L) (by omega)]
 rfl
theorem trn_trn:trnL (trnL L)=L:=by
 refine list_ext (by rw [trn_len,trn_len]) fun i hi=>?_
 rw [trn_len,trn_len] at hi
 rw [trn_get (by rw [trn_len];exact hi),trn_len,trn_get (by omega),show L.length - 1 - (L.length - 1 - i)=i by omega]
 omega
theorem rnd_back {n s:Int} (h:1≤s):frQ (feQ n s) s=n:=by
 unfold frQ feQ rnd
 have hq:0 < s*s:=Int.mul_pos (by omega) (by omega)
 rw [Int.mul_assoc]
 generalize s*s=q at *
 rw [show 2*(n*q)+q=q+n*(2*q) by rw [← Int.mul_assoc,← Int.mul_assoc,Int.mul_comm n 2];omega,Int.add_mul_ediv_right _ _ (by omega),Int.ediv_eq_zero_of_lt (by omega) (by omega)]
 omega
theorem frq_feq (hl:S.length=B.length) (hs:∀ j,j < S.length→1≤S.getD j 0):List.zipWith frQ (List.zipWith feQ B S) S=B:=by
 have l1:(List.zipWith feQ B S).length=B.length:=by rw [List.length_zipWith];omega
 refine List.ext_getElem? fun i=>?_
 by_cases hi:i < B.length
 ·rw [zw_get (zw_get (at_getD (w:=B) hi) (at_getD (w:=S) (by omega))) (at_getD (w:=S) (by omega)),rnd_back (hs i (by omega)),at_getD (w:=B) hi]
 ·rw [List.getElem?_eq_none (by rw [List.length_zipWith];omega),List.getElem?_eq_none (by omega)]
end
end Go.Tidy
namespace Go.Tidy
open Go Go.Proofs Tab
variable {tp:TProg}
def encU (b:_root_.Fin 256):List Value:=[.int .u8 (b.val:Nat)]
theorem eU:Enc encU 1:=⟨fun _=>rfl,fun _=>rfl⟩
theorem u8_fin {z:Int} (h:(Lit.int .u8 z).wf=true):∃ b:_root_.Fin 256,z=(b.val:Nat):=by
 have h:(decide (0≤z) && decide (z≤255))=true:=h
 rw [Bool.and_eq_true] at h
 have h1:=of_decide_eq_true h.1
 have h2:=of_decide_eq_true h.2
 exact ⟨⟨z.toNat,by omega⟩,by show z=(z.toNat:Int);omega⟩
theorem sl_toI {P:Program} {t e:TypeId} {z:List Value} {row:Bool} {α:Type} {enc:α→List Value} {n hi:Nat} {h:TH} {v:Value} {l:List α} {k:IntKind} (E:Enc enc n) (hu:P.underlying t=some (.slice e)) (he:Tp P e n z row) (s:SlL enc n h v l) (ft:Fits h v e) (h2:hi≤l.length) :
  ∃ v',sliceT P t v none (some (.int k (hi:Nat))) none h=some v'∧SlL enc n h v' (l.take hi):=by
 obtain ⟨inf,q1,q2,q3,_⟩:=he.i
 obtain ⟨bo,cap,rfl,hc,hl,hcase⟩:=s
 have hcut:cut3 l.length cap none (some (.int k (hi:Nat))) none=some (0,hi,cap):=by
  simp only [cut3,show boundT none cap cap=some cap from rfl,show ∀ x,boundT none 0 x=some 0 from fun _=>rfl,Option.bind_some,Option.isNone_some,Option.isSome_none,Bool.and_self,Bool.cond_false,bound_in (show hi≤cap by omega),Option.map_some]
 have lt:(l.take hi).length=hi:=by rw [List.length_take];omega
 rcases hcase with ⟨rfl,hz⟩ | ⟨b,off,cc,fix,wr,el,rfl,g1,g2,g3⟩
 ·have e0:l=[]:=List.eq_nil_of_length_eq_zero hz
  subst e0
  obtain rfl:hi=0:=by simp at h2;omega
  refine ⟨.slice none 0 (cap - 0),?_,none,cap - 0,rfl,Nat.zero_le _,by simp [cat],.inl ⟨rfl,rfl⟩⟩
  have hcut':=hcut
  simp only [sliceT,hu,ble_yes hc,Bool.cond_true,hcut,Option.bind_some,q1]
 ·obtain ⟨cc',fix',wr',el',gg,hf⟩:=ft b off l.length cap rfl
  have hle:hi*n≤l.length*n:=Nat.mul_le_mul_right _ h2
  refine ⟨.slice (some ⟨b,off+0*inf.size,none⟩) (hi - 0) (cap - 0),?_,some ⟨b,off+0*inf.size,none⟩,cap - 0,?_,?_,?_,.inr ⟨b,off+0*inf.size,cc,fix,wr,el,rfl,g1,?_,?_⟩⟩
  ·simp only [sliceT,hu,ble_yes hc,Bool.cond_true,hcut,Option.bind_some,q1,fits_of gg hf]
  ·rw [lt];rfl
  ·rw [lt];omega
  ·rw [E.cat_len]
  ·rw [lt,Nat.zero_mul,Nat.add_zero]
   have:(cc.drop off).take (hi*n)=((cc.drop off).take (l.length*n)).take (hi*n):=by rw [List.take_take,Nat.min_eq_left hle]
   rw [this,g2]
   have e:cat enc l=cat enc (l.take hi) ++ cat enc (l.drop hi):=by rw [← cat_append,List.take_append_drop]
   rw [e,List.take_left' (by rw [E.cat_len,lt])]
  ·rw [lt,Nat.zero_mul];omega
theorem sl_ad {α:Type} {enc:α→List Value} {n:Nat} {h:TH} {v:Value} {l:List α} (s:SlL enc n h v l) (hl:0 < l.length):∃ b off cap cc fix wr el,v=.slice (some ⟨b,off,none⟩) l.length cap∧l.length≤cap∧At h b (.cells cc fix wr el)∧(cc.drop off).take (l.length*n)=cat enc l∧off+l.length*n≤cc.length:=by
 obtain ⟨bo,cap,rfl,hc,hl',⟨rfl,hz⟩ | ⟨b,off,cc,fix,wr,el,rfl,g1,g2,g3⟩⟩:=s
 ·omega
 ·exact ⟨b,off,cap,cc,fix,wr,el,rfl,hc,g1,g2,g3⟩
section
variable {h:TH} {v w fv:Value} {F G:List Nat} {es es' ee L M D S:List Int} {x y m:Int} {fa fb fc:Nat}
theorem cat_F (l:List Nat):cat encF l=l.map (Value.float .f32):=by
 induction l with
 | nil=>rfl
 | cons a l ih=>show encF a ++ cat encF l=_;rw [ih];rfl
theorem two_at {off:Nat} {cc:List Value} (hn:2≤F.length) (g2:(cc.drop off).take (F.length*1)=cat encF F) {j:Nat} (hj:j+2≤F.length):(cc.drop (off+j)).take 2=[.float .f32 (F.getD j 0),.float .f32 (F.getD (j+1) 0)]:=by
 rw [cat_F,Nat.mul_one] at g2
 have e:(cc.drop (off+j)).take 2=((F.map (Value.float .f32)).drop j).take 2:=by
  rw [← g2,List.drop_take,List.drop_drop,List.take_take,Nat.min_eq_left (by omega)]
 have p:j < F.length:=by omega
 have p':j+1 < F.length:=by omega
 have q:j < (F.map (Value.float .f32)).length:=by rw [List.length_map];exact p
 have q':j+1 < (F.map (Value.float .f32)).length:=by rw [List.length_map];exact p'
 rw [e,List.drop_eq_getElem_cons q,List.drop_eq_getElem_cons q',List.getElem_map,List.getElem_map,List.getD_eq_getElem?_getD,List.getD_eq_getElem?_getD,List.getElem?_eq_getElem p,List.getElem?_eq_getElem p']
 rfl
theorem sig0 {m:Nat} (hm:m≤4096) (z:firstNZ es=0):sigE m es=0:=by
 unfold sigE;rw [decide_eq_false (by omega),z];rfl
theorem k1259o (H:Has tp) (X:HasX tp) (s:SlL encF 1 h v F) (lv:Lev F L) (hF:F.length≤4096) (ok:∀ x,x ∈ trnL L→okI x=true) (f:Free0 h.next h) :
  CallW Tryz.prog tp (.func (.func 59) #[] #[]) #[v] h fun u h'=>HX h h'∧∃ u',u=.tuple #[u',zi 0]∧RF h' u' (trnL L):=by
 obtain ⟨es,hE,z⟩:=serr_zero lv
 have:=k1259 H X s hE (fun _=>lv) (by omega) f
 rw [sig0 hF z,cE_0,cL_0,(sg_ok ok).1,(sg_ok ok).2] at this
 exact this.mono fun u h' ⟨X',R⟩=>⟨X',R.form⟩
theorem sp_zero (hS:S.length≤4096) (hs:∀ j,j < S.length→1≤S.getD j 0∧S.getD j 0≤100):spE S=0:=by
 unfold spE
 rw [decide_eq_false (by omega)]
 refine firstNZ_all fun x hx=>?_
 obtain ⟨s,h1,rfl⟩:=List.mem_map.1 hx
 have:=sp_mem hs s h1
 unfold spX outB
 rw [decide_eq_false (by omega),decide_eq_false (by omega)]
 rfl
theorem k1292o (H:Has tp) (X:HasX tp) (Gl:Glob h) (s:SlL encF 1 h v F) (t:SlL encI 1 h w S) (lv:Lev F L) (h2:F.length=S.length+2) (hF:F.length≤24) (hs:∀ j,j < S.length→1≤S.getD j 0∧S.getD j 0≤100) (ok:∀ x,x ∈ List.zipWith feQ (benL L) S→okI x=true) (f:Free0 h.next h) :
  CallW Tryz.prog tp (.func (.func 62) #[] #[]) #[v,w] h fun u h'=>HX h h'∧∃ u',u=.tuple #[u',zi 0]∧RF h' u' (List.zipWith feQ (benL L) S):=by
 obtain ⟨es,hE,z⟩:=serr_zero lv
 have:=k1292 H X Gl s t hE (fun _=>lv) (by omega) (by omega) f
 rw [sig0 (by omega) z,sp_zero (by omega) hs,decide_eq_false (by omega),bne_eq_false_iff_eq.2 (show (S.length:Int)=(F.length:Int) - 2 by omega)] at this
 rw [show firstNZ [0,0,cond false 16 0,cond false 2 0]=0 from rfl,cE_0,cL_0,(sg_ok ok).1,(sg_ok ok).2] at this
 exact this.mono fun u h' ⟨X',R⟩=>⟨X',R.form⟩
theorem k1294o (H:Has tp) (X:HasX tp) (s:SlL encF 1 h v F) (t:SlL encI 1 h w S) (lv:Lev F L) (h2:F.length=S.length) (hF:F.length≤24) (hs:∀ j,j < S.length→1≤S.getD j 0∧S.getD j 0≤100) (ok:∀ x,x ∈ List.zipWith frQ L S→okI x=true) (f:Free0 h.next h) :
  CallW Tryz.prog tp (.func (.func 63) #[] #[]) #[v,w] h fun u h'=>HX h h'∧∃ u',u=.tuple #[u',zi 0]∧RF h' u' (List.zipWith frQ L S):=by
 obtain ⟨es,hE,z⟩:=serr_zero lv
 have:=k1294 H X s t hE (fun _=>lv) (by omega) (by omega) f
 rw [sig0 (by omega) z,sp_zero (by omega) hs,bne_eq_false_iff_eq.2 (show (S.length:Int)=(F.length:Int) by omega)] at this
 rw [show firstNZ [0,0,cond false 2 0]=0 from rfl,cE_0,cL_0,(sg_ok ok).1,(sg_ok ok).2] at this
 exact this.mono fun u h' ⟨X',R⟩=>⟨X',R.form⟩
end
end Go.Tidy
namespace Go.Tidy
section
variable {keep:Nat→Bool} {x:Nat→Int}
def celJ (keep:Nat→Bool) (x:Nat→Int) (p:Nat):Int × Bool:=if keep (p / 3) then (x p,true) else (0,false)
def rowJ (keep:Nat→Bool) (x:Nat→Int) (lo hi:Nat):List (Int × Bool):=(List.range' lo (hi - lo)).map (celJ keep x)
end
def keptJ (keep:Nat→Bool) (n:Nat):List Nat:=(List.range n).filter keep
end Go.Tidy
namespace Go.Tidy
open Go Go.Proofs Tab
variable {tp:TProg}
def lane (s:Nat→ByteArray) (n:Int) (h:TH) (v1 v2:Nat→Value) (C:Nat→List (Int × Bool)) (N:Nat):Prop:=∀ k,RunC (s k) n h (v1 k) (v2 k) (C k)∧(C k).length=N
theorem lane.hx {s:Nat→ByteArray} {n:Int} {h h':TH} {v1 v2:Nat→Value} {C:Nat→List (Int × Bool)} {N:Nat} (l:lane s n h v1 v2 C N) (x:HX h h'):lane s n h' v1 v2 C N:=fun k=>⟨(l k).1.hx x,(l k).2⟩
section
variable {s:Nat→ByteArray} {n:Int} {v1 v2:Nat→Value} {C:Nat→List (Int × Bool)} {N lb c2 c7:Nat} {m:Int} {hb g:TH} {Q:Exit→Regs→TH→Prop} {gx:Nat} {p126 p127 p128:Value}
end
end Go.Tidy
namespace Go.Tidy
open Go Go.Proofs Tab
variable {tp:TProg}
section
variable {src n:Nat} {kp:Nat→Bool} {x:Nat→Int}
end
abbrev rN:ByteArray:=⟨#[114]⟩
theorem Above.none {n0 m c:Nat}:Above n0 (.slice .none m c):=fun b off sp m c h=>by cases h
theorem Above.of {n0 b m c:Nat} (h:n0≤b):Above n0 (.slice (some ⟨b,0,.none⟩) m c):=fun b off sp m c e=>by cases e;exact h
def JRun (kp:Nat→Bool) (x:Nat→Int) (n j:Nat) (s:Int × Value × Value) (g:TH):Prop :=
 (j=0∧s=(0,.slice none 0 0,.slice none 0 0))∨∃ k c0 cl,j=k+1∧(keptJ kp n)[0]?=some c0∧(keptJ kp n)[k]?=some cl∧c0≤cl∧s.1=((3*c0:Nat):Int)∧RunC rN ((3*c0:Nat):Int) g s.2.1 s.2.2 (rowJ kp x (3*c0) (3*(cl+1)))
theorem JRun.hx {kp:Nat→Bool} {x:Nat→Int} {n j:Nat} {s:Int × Value × Value} {g g':TH} (q:JRun kp x n j s g) (X:HX g g'):JRun kp x n j s g':=by
 rcases q with q | ⟨k,c0,cl,q1,q2,q3,q4,q5,q6⟩
 ·exact .inl q
 ·exact .inr ⟨k,c0,cl,q1,q2,q3,q4,q5,q6.hx X⟩
section
variable {hB i7:TH} {n:Nat} {kp:Nat→Bool} {x:Nat→Int} {c7 c10 c0 cl c N:Nat} {p2 v1 v2 u1 u2 w17:Value} {j:Int}
end
end Go.Tidy
namespace Go.Tidy
open Go Go.Proofs Tab
variable {tp:TProg}
section
variable {kp:Nat→Bool} {x:Nat→Int} {n j:Nat}
end
section
variable {P:Program} {h:TH} {K:Regs→TH→Prop} {rest:List TOper} {d:Option Tmp} {ty t u:TypeId} {i:Nat} {x y:Operand} {L:Rg}
theorem WOL.fdiv {k:FloatKind} {b c r:Nat} (hx:getL L x=some (.float k b)) (hy:getL L y=some (.float k c)) (hb:nanB k b=false) (hc:nanB k c=false) (hr:k.format.div b c=some r) (hn:nanB k r=false)
  (w:∀ a,Kn (putL L d (.float k r)) a→WO P tp rest a h K):∀ a,Kn L a→WO P tp (⟨d,.binOp .quo t x y u,ty,none,[],i⟩::rest) a h K:=fun a k=>WO.fdiv (k.o hx) (k.o hy) hb hc hr hn (w _ (k.put d _))
end
end Go.Tidy
namespace Go.Tidy
open Go Go.Proofs Tab
variable {tp:TProg}
section
variable {P:Program} {h:TH} {K:Regs→TH→Prop} {rest:List TOper} {d:Option Tmp} {ty:TypeId} {i:Nat} {x y:Operand} {t u:TypeId} {L:Rg}
end
theorem u5i:Tryz.prog.underlying 5=some (.int .u8):=by kernel_rfl
theorem u116i:Tryz.prog.underlying 93=some (.slice 5):=by kernel_rfl
theorem tp5i:Tp Tryz.prog 5 1 [.int .u8 0] false:=tp_of (by kernel_rfl) (by kernel_rfl) rfl
section
variable {h:TH} {v w v1 v8 v21 v23 v25 v27:Value} {F G R:List Nat} {es es' ee L M D S:List Int} {x y m p q:Int} {n c5 fa fb:Nat} {U:List (_root_.Fin 256)}
end
end Go.Tidy
namespace Go.Tidy
open Go Go.Proofs Tab
variable {tp:TProg}
theorem nil_116:pv Tryz.prog (Instr.sliceAt 93 (.slice none 0 0) none (some (.int .i64 0)) none)=some (.slice none 0 0):=by kernel_rfl
theorem tyg_nil {P:Program} {h:TH} {k:Nat} {t e:TypeId} {v:Value} (hu:P.underlying t=some (.slice e)) (y:Ty P h (k+1) t [v]):v=.slice none 0 0∨∃ b m c,v=.slice (some b) m c:=by
 unfold Ty at y;rw [hu] at y
 obtain ⟨a,m,cap,e1,h1,_,⟨rfl,rfl⟩ | ⟨b,c,el,rfl,h2,h3,h4⟩⟩:=y
 ·obtain rfl:m=0:=by omega
  exact .inl (List.cons.inj e1).1
 ·exact .inr ⟨_,_,_,(List.cons.inj e1).1⟩
theorem WOL.slU {h:TH} {K:Regs→TH→Prop} {rest:List TOper} {d:Option Tmp} {ty:TypeId} {i:Nat} {x hi:Operand} {L:Rg} {v1 v':Value} {k:Nat} (hx:getL L x=some v1) (hn:v1=.slice none 0 0∨∃ b m c,v1=.slice (some b) m c) (hk:v1=.slice none 0 0→k=0) (hh:getL L hi=some (zi (k:Nat))) (hv:sliceT Tryz.prog 93 v1 none (some (.int .i64 (k:Nat))) none h=some v') (w:∀ a,Kn (putL L d v') a→WO Tryz.prog tp rest a h K):∀ a,Kn L a→WO Tryz.prog tp (⟨d,.slice 93 x none (some hi) none,ty,none,[],i⟩::rest) a h K:=by
 rcases hn with rfl | ⟨b,m,c,rfl⟩
 ·obtain rfl:=hk rfl
  have:v'=.slice none 0 0:=Option.some.inj (hv.symm.trans (sliceT_none u116i tp5i))
  subst this
  exact WOL.slN hx hh nil_116 w
 ·exact WOL.sl2 hx hh hv w
section
variable {h:TH} {v w v1 v8:Value} {F G R B:List Nat} {es es' ee L M D S:List Int} {x y m p q:Int} {n c5 fa fb:Nat} {U:List (_root_.Fin 256)}
theorem byte_wrap (b:_root_.Fin 256):IntKind.i64.wrap ((b.val:Nat):Int)=((b.val:Nat):Int):=IntWalk.i64_in _ (by have:=b.isLt;omega)
theorem zw_mem {A B:List Int} {φ:Int→Int→Int} {x:Int} (h:x ∈ List.zipWith φ A B):∃ a b,a ∈ A∧b ∈ B∧x=φ a b:=by
 obtain ⟨i,hi⟩:=List.mem_iff_getElem?.1 h
 rw [List.getElem?_zipWith] at hi
 cases h1:A[i]? with
 | none=>rw [h1] at hi;cases hi
 | some a =>
  cases h2:B[i]? with
  | none=>rw [h1,h2] at hi;cases hi
  | some b=>rw [h1,h2] at hi;cases hi;exact ⟨a,b,List.mem_of_getElem? h1,List.mem_of_getElem? h2,rfl⟩
theorem sum0 (lB:Lev B D) (hB:B.length≤24):∃ es,SErr B es∧firstNZ es=0∧shB B.length=true∧∀ ee,firstNZ ee=0→sumE B.length es ee=0:=by
 obtain ⟨es,hE,z⟩:=serr_zero lB
 have hs:shB B.length=true:=by unfold shB;rw [decide_eq_true (by omega)];rfl
 refine ⟨es,hE,z,hs,fun ee he=>?_⟩
 rw [sumE_sh hs,sig0 (by omega) z,he]
 rfl
theorem k1278o (H:Has tp) (X:HasX tp) (s:SlL encF 1 h v B) (lB:Lev B D) (hB:B.length≤24) (sx:Samp fa x) (sy:Samp fb y) (ok:∀ z,z ∈ dblL x y D→okI z=true) (f:Free0 h.next h) :
  CallW Tryz.prog tp (.func (.func 65) #[] #[]) #[v,.agg #[.float .f32 fa,.float .f32 fb]] h fun u h'=>HX h h'∧∃ u',u=.tuple #[u',zi 0]∧RF h' u' (dblL x y D):=by
 obtain ⟨es,hE,z,hs,hsum⟩:=sum0 lB hB
 obtain ⟨ee,he,ze⟩:=serr_zero (lev_two sx sy)
 have:=k1278 (x:=x) (y:=y) H X s hE he (fun _=>lB) (fun _=>⟨sx,sy⟩) hs f
 rw [hsum ee ze,cE_0,cL_0,(sg_ok ok).1,(sg_ok ok).2] at this
 exact this.mono fun u h' ⟨X',R⟩=>⟨X',R.form⟩
end
end Go.Tidy
namespace Go.Tidy
open Go Go.Proofs Tab
variable {tp:TProg}
section
variable {h:TH} {v w v1 v8:Value} {F G R B:List Nat} {es es' ee L M D S:List Int} {x y m p q:Int} {n c5 fa fb:Nat} {U:List (_root_.Fin 256)}
end
theorem val_bts {v:Value}:valOf Tryz.prog 93 [v]=v:=by unfold valOf;rw [Tryz.underlying93];rfl
end Go.Tidy
namespace Go.Tidy
open Go Go.Proofs Tab
variable {tp:TProg}
structure RowsI (h:TH) (b:Nat) (Xs:List Value) (Cs:List (List Int)):Prop where
 at_:At h b (.cells Xs true true 35)
 len:Xs.length=Cs.length
 sl:∀ (i:Nat) (x:Value) (C:List Int),Xs[i]?=some x→Cs[i]?=some C→SlL encI 1 h x C
theorem RowsI.hx {h h':TH} {b:Nat} {Xs:List Value} {Cs:List (List Int)} (r:RowsI h b Xs Cs) (x:HX h h'):RowsI h' b Xs Cs:=⟨r.at_.hx x,r.len,fun i y C h1 h2=>(r.sl i y C h1 h2).hx x⟩
end Go.Tidy
namespace Go.Tidy
open Go Go.Proofs Tab
variable {tp:TProg}
section
variable {P:Program} {h:TH} {K:Regs→TH→Prop} {rest:List TOper} {d:Option Tmp} {ty:TypeId} {i:Nat} {x y:Operand} {t u:TypeId} {L:Rg}
end
section
variable {h:TH} {v w v8 v9 v14 v16 v22:Value} {F G:List Nat} {es es' L M D:List Int} {x y z n d ez o:Int} {fz c3:Nat} {s:ByteArray}
def addLI (L:List Int) (o:Int):List Int:=L.map fun x=>x+o
theorem add_len:(addLI L o).length=L.length:=List.length_map ..
theorem add_get {i:Nat} (h:i < L.length):(addLI L o).getD i 0=L.getD i 0+o:=by
 unfold addLI
 rw [List.getD_eq_getElem?_getD,List.getElem?_map,at_getD h];rfl
theorem hlf_self:List.zipWith hlf L L=L:=by
 refine List.ext_getElem? fun i=>?_
 by_cases hi:i < L.length
 ·rw [zw_get (at_getD hi) (at_getD hi),at_getD hi]
  unfold hlf rnd
  congr 1
  generalize L.getD i 0=t
  omega
 ·rw [List.getElem?_eq_none (by rw [List.length_zipWith];omega),List.getElem?_eq_none (by omega)]
theorem k1280o (H:Has tp) (X:HasX tp) (s:SlL encF 1 h v F) (t:SlL encF 1 h w G) (lv:Lev F L) (lw:Lev G M) (hF:F.length≤4096) (hG:F.length=G.length) (f:Free0 h.next h) :
  CallW Tryz.prog tp (.func (.func 69) #[] #[]) #[v,w] h fun u h'=>HX h h'∧∃ u',u=.tuple #[u',zi 0]∧RF h' u' (List.zipWith hlf L M):=by
 obtain ⟨es,hE,z1⟩:=serr_zero lv
 obtain ⟨es',hE',z2⟩:=serr_zero lw
 have:=k1280 H X s t hE hE' (fun _=>lv) (fun _=>lw) (by omega) (by omega) f
 have e:pairE F.length G.length es es'=0:=by
  unfold pairE
  rw [sig0 hF z1,sig0 (by omega) z2,bne_eq_false_iff_eq.2 (show (F.length:Int)=(G.length:Int) by omega)]
  rfl
 rw [e,show gaO 0 (List.zipWith hlf L M)=List.zipWith hlf L M from rfl] at this
 exact this.mono fun u h' ⟨X',R⟩=>⟨X',R.form⟩
end
end Go.Tidy
namespace Go.Tidy
open Go Go.Proofs Tab
variable {tp:TProg}
section
variable {h:TH} {v w v5 v6 v8 v9 v14 v18 v22:Value} {F G R Q T:List Nat} {es es' L M D:List Int} {x y z n d ez o p:Int} {fz fo c13 c8 c9:Nat} {s:ByteArray}
def MixS (j:Nat) (o:Int) (F:List Nat) (L:List Int) (R:List Nat):Prop:=R.length=F.length∧(∀ i,i < j→Samp (R.getD i 0) (L.getD i 0+o))∧∀ i,j≤i→R[i]?=F[i]?
theorem MixS.set {j r:Nat} (m:MixS j o F L R) (hj:j < F.length) (sr:Samp r (L.getD j 0+o)):MixS (j+1) o F L (R.set j r):=by
 obtain ⟨h1,h2,h3⟩:=m
 refine ⟨by rw [List.length_set];exact h1,fun i hi=>?_,fun i hi=>?_⟩
 ·by_cases e:i=j
  ·subst e
   rw [List.getD_eq_getElem?_getD,List.getElem?_set_self (by omega)]
   exact sr
  ·rw [List.getD_eq_getElem?_getD,List.getElem?_set_ne (Ne.symm e),← List.getD_eq_getElem?_getD]
   exact h2 i (by omega)
 ·rw [List.getElem?_set_ne (by omega)]
  exact h3 i (by omega)
theorem MixS.lev (m:MixS F.length o F L R) (ll:F.length=L.length):Lev R (addLI L o):=by
 obtain ⟨h1,h2,h3⟩:=m
 refine ⟨by rw [add_len];omega,fun i bb nn e1 e2=>?_⟩
 have hi:i < R.length:=(List.getElem?_eq_some_iff.1 e1).1
 have q1:=h2 i (by omega)
 rw [List.getD_eq_getElem?_getD (l:=R),e1] at q1
 have q2:=add_get (L:=L) (o:=o) (i:=i) (by omega)
 rw [List.getD_eq_getElem?_getD,e2] at q2
 replace q2:nn=_:=q2
 rw [q2];exact q1
end
end Go.Tidy
namespace Go.Tidy
open Go Go.Proofs Tab
variable {tp:TProg}
theorem RF.at {h:TH} {v:Value} {L:List Int} (r:RF h v L) {i:Int} (h0:0≤i) (h1:i < L.length):∃ p b,indexAddrT Tryz.prog 25 v (.int .i64 i)=some p∧loadT Tryz.prog 76 p h=some (.float .f32 b)∧Samp b (L.getD i.toNat 0):=by
 obtain ⟨F,s,lv⟩:=r
 have ll:=lv.1
 obtain ⟨j,rfl⟩:∃ j:Nat,i=j:=⟨i.toNat,by omega⟩
 have hj:j < F.length:=by omega
 have e:=List.getElem?_eq_getElem hj
 obtain ⟨_,_,cc,fx,wr,el,c1,c2,c3,c4,c5⟩:=s.at eF u43 tp25 e .i64
 have gx:=c5 0 (by decide)
 rw [Nat.add_zero] at gx
 exact ⟨_,_,c1,load_one tp25 c2 gx,lv.2 j _ _ e (at_getD (by omega))⟩
section
variable {h:TH} {v w v28 v30 v32:Value} {F G:List Nat} {es L M D B:List Int}
end
end Go.Tidy
namespace Go.Tidy
open Go Go.Proofs Tab
variable {tp:TProg}
section
variable {h:TH} {v w:Value} {F G:List Nat} {es L M D:List Int} {z:Int}
theorem mem_ok {B:Int} {D:List Int} (hB:B≤16384) (h:∀ j,j < D.length→-B≤D.getD j 0∧D.getD j 0≤B):∀ x,x ∈ D→okI x=true:=fun x hx=>by
 obtain ⟨i,hi⟩:=List.mem_iff_getElem?.1 hx
 have e:D.getD i 0=x:=by rw [List.getD_eq_getElem?_getD,hi];rfl
 have:=h i (List.getElem?_eq_some_iff.1 hi).1
 exact okI_iff.2 (by omega)
end
end Go.Tidy
namespace Go.Tidy
open Go Go.Proofs Tab
variable {tp:TProg}
theorem xor_hi (b:Nat):(b ^^^ 2 ^ 31) % 2 ^ 31=b % 2 ^ 31:=by
 rw [Nat.xor_mod_two_pow,Nat.mod_self,Nat.xor_zero]
theorem xor_sg (b:Nat):((b ^^^ 2 ^ 31) / 2 ^ 31 % 2 == 1)=!(b / 2 ^ 31 % 2 == 1):=by
 have h:=Nat.testBit_xor b (2 ^ 31) 31
 rw [Nat.testBit_two_pow_self,Nat.testBit_eq_decide_div_mod_eq,Nat.testBit_eq_decide_div_mod_eq] at h
 rw [Bool.xor_true] at h
 simpa [BEq.beq,Nat.beq_eq] using h
theorem read_neg (b:Nat):Ieee.single.read (Op.negFloat .f32 b)=(Ieee.single.read b).opposite:=by
 unfold Ieee.Format.read
 rw [show Op.negFloat .f32 b=b ^^^ 2 ^ 31 from rfl,show Ieee.single.signWeight=2 ^ 31 from rfl,xor_hi,xor_sg]
 dsimp only
 split
 ·rfl
 ·split
  ·rfl
  ·split <;> rfl
theorem Sx.neg {b:Nat} {n:Int} (s:Sx b n):Sx (Op.negFloat .f32 b) (-n):=by
 obtain ⟨sg0,q,⟨m,k,r,p,l⟩,h2,h3⟩:=s.ok
 refine ⟨!sg0,q,⟨m,k,by rw [read_neg,r];rfl,p,l⟩,fun D hD=>by rw [Int.natAbs_neg];exact h2 D hD,?_⟩
 rw [Int.natAbs_neg,sg_not,h3]
theorem WOL.fneg {tp:TProg} {h:TH} {K:Regs→TH→Prop} {rest:List TOper} {d:Option Tmp} {ty:TypeId} {i:Nat} {x:Operand} {L:Rg} {t:TypeId} {b:Nat} {n:Int} (s:Sx b n) (hx:getL L x=some (.float .f32 b)) (w:∀ r,Sx r (-n)→∀ a,Kn (putL L d (.float .f32 r)) a→WO Tryz.prog tp rest a h K):∀ a,Kn L a→WO Tryz.prog tp (⟨d,.unOp .neg t x,ty,none,[],i⟩::rest) a h K :=
 WOL.negP hx (plain_float s.nan) rfl (plain_float s.neg.nan) (w _ s.neg)
section
variable {h:TH} {v w v17 v19 v23 v25:Value} {F G:List Nat} {L M L' M':List Int}
theorem SlL.ati {h:TH} {v:Value} {L:List Int} (s:SlL encI 1 h v L) {j:Nat} (hj:j < L.length):∃ p,indexAddrT Tryz.prog 35 v (.int .i64 j)=some p∧loadT Tryz.prog 3 p h=some (zi (L.getD j 0)):=by
 obtain ⟨_,_,cc,fx,wr,el,c1,c2,c3,c4,c5⟩:=s.at eI u29 tp3 (at_getD hj) .i64
 have gx:=c5 0 (by decide)
 rw [Nat.add_zero] at gx
 exact ⟨_,c1,load_one tp3 c2 gx⟩
end
end Go.Tidy
namespace Go.Tidy
open Go Go.Proofs Tab
variable {tp:TProg}
theorem WOL.cvK {P:Program} {tp:TProg} {h:TH} {K:Regs→TH→Prop} {rest:List TOper} {d:Option Tmp} {ty:TypeId} {i:Nat} {x:Operand} {L:Rg} {s t:TypeId} {ds:TypeDesc} {k:IntKind} {n:Int} (hs:P.underlying s=some ds) (ht:P.underlying t=some (.int .i64)) (hx:getL L x=some (.int k n)) (hw:IntKind.i64.wrap n=n) (w:∀ a,Kn (putL L d (.int .i64 n)) a→WO P tp rest a h K):∀ a,Kn L a→WO P tp (⟨d,.convert s t x,ty,none,[],i⟩::rest) a h K:=fun a q=>by
 refine WO.conv (q.o hx) rfl (conv_i2i hs ht) rfl ?_
 rw [hw]
 exact w _ (q.put d _)
theorem tp1327:Tp Tryz.prog 104 2 [.slice none 0 0,.slice none 0 0] true:=tp_of (by kernel_rfl) (by kernel_rfl) rfl
theorem ix1327_0 {c:Nat}:indexAddrT Tryz.prog 104 (.pointer (some ⟨c,0,none⟩)) (.int .i64 0)=some (.pointer (some ⟨c,0,none⟩)):=by kernel_rfl
theorem ix1327_1 {c:Nat}:indexAddrT Tryz.prog 104 (.pointer (some ⟨c,0,none⟩)) (.int .i64 1)=some (.pointer (some ⟨c,1,none⟩)):=by kernel_rfl
section
variable {h h0:TH} {v w v9 v11 v13 v17 v19 v23 v25:Value} {F G:List Nat} {es es' L M L' M':List Int} {a b c5:Nat} {p q:Int}
end
end Go.Tidy
namespace Go.Tidy
open Go Go.Proofs Tab
section
variable {L:List Int} {p q m M j:Nat}
theorem vers_all (h:j < M):(valC (tapC L [] (vTn p q) M)).getD j 0=tapN L j (vTn p q) 0:=by
 rw [tapV_get h,tapK_nil];rfl
theorem vers_flags:((tapC L [] (vTn p q) M).map fun c=>c.2)=List.replicate M true:=by
 refine List.ext_getElem? fun i=>?_
 by_cases h:i < M
 ·rw [List.getElem?_map,tapC_get h,tapK_nil,List.getElem?_replicate,if_pos h];rfl
 ·rw [List.getElem?_eq_none (by rw [List.length_map,tapC_len];omega),List.getElem?_eq_none (by rw [List.length_replicate];omega)]
def allK (L:List Int) (k:Nat):List (Int × Bool):=(L.take k).map fun x=>(x,true)
end
end Go.Tidy
namespace Go.Tidy
open Go Go.Proofs Tab
section
variable {L V X:List Int} {S:List (Int × Int)} {p q m M j k:Nat} {n:Int}
theorem small_read {x:Int} (h:-20000≤x∧x≤20000):readE x=0:=by
 unfold readE outB
 rw [decide_eq_false (by omega),decide_eq_false (by omega)];rfl
theorem small_big {x:Int} (h:-20000≤x∧x≤20000):largeB x=false:=by
 unfold largeB
 rw [small_read h];rfl
theorem lim_mem (hL:∀ j,-20000≤L.getD j 0∧L.getD j 0≤20000) {x:Int} (hx:x ∈ L):-20000≤x∧x≤20000:=by
 obtain ⟨i,hi,e⟩:=List.getElem_of_mem hx
 have:=hL i
 rw [List.getD_eq_getElem?_getD,List.getElem?_eq_getElem hi] at this
 rw [← e]
 exact this
theorem vers_holes:holesOf ((tapC L [] (vTn p q) M).map fun c=>c.2)=[]:=by
 rw [vers_flags,← known_nil]
 exact holes_back rfl
theorem allK_len (h:m≤L.length):(allK L m).length=m:=by unfold allK;rw [List.length_map,List.length_take];omega
theorem allK_val:valC (allK L L.length)=L:=by
 unfold allK valC
 rw [List.take_length,List.map_map]
 exact List.map_id L
theorem allK_holes:holesOf ((allK L L.length).map fun c=>c.2)=[]:=by
 have:((allK L L.length).map fun c=>c.2)=List.replicate L.length true:=by
  unfold allK
  rw [List.take_length,List.map_map]
  exact List.map_const' ..
 rw [this,← known_nil]
 exact holes_back rfl
theorem allK_big (hL:∀ j,-20000≤L.getD j 0∧L.getD j 0≤20000):bigC (allK L m)=false:=by
 unfold bigC
 rw [List.any_eq_false]
 intro c hc
 obtain ⟨x,hx,rfl⟩:=List.mem_map.1 hc
 show ¬ (true && largeB x)=true
 rw [small_big (lim_mem hL (List.mem_of_mem_take hx))];decide
end
end Go.Tidy
namespace Go.Tidy
open Go Go.Proofs Tab
variable {tp:TProg}
abbrev lvC (C:List (Int × Bool)):List Int:=C.map fun c=>c.1
abbrev hoC (C:List (Int × Bool)):List (Int × Int):=holesOf (C.map fun c=>c.2)
section
variable {h:TH} {s:ByteArray} {n:Int} {v1 v2:Value} {C:List (Int × Bool)}
set_option maxHeartbeats 4000000 in
set_option maxRecDepth 10000 in
theorem k1146c (H:Has tp) (X:HasX tp) (r:RunC s n h v1 v2 C) (f:Free0 h.next h) :
  CallW Tryz.prog tp (.func (.func 130) #[] #[]) #[runV s n v1 v2] h fun v h'=>HX h h'∧∃ c b m k,v=.tuple #[trcV n (slA c C.length) (.slice b m k),zi 0]∧TrcH h' (slA c C.length) (.slice b m k) (lvC C) (hoC C)∧h.next≤c∧∀ z,bl (.slice b m k)=some z→h.next≤z:=by
 refine CallW.fnL (H.fn 130 f1146 rfl rfl) ?_
 obtain ⟨F,es,r,q⟩:=r
 have qm:=q.m
 have ql:=q.len
 have qh:=q.holes
 have vd:=q.v
 have hE':=q.r
 have hLv:=q.lev
 have hEs:=q.e
 have lL:(C.map fun c=>c.1).length=C.length:=List.length_map ..
 generalize hS:holesOf (C.map fun c=>c.2)=S at *
 generalize hL:(C.map fun c=>c.1)=L at *
 obtain ⟨b1,k1,rfl⟩:=r.f.form
 obtain ⟨b2,k2,rfl⟩:=r.s.form
 refine WL.sr<|WOL.box rfl fun h1 N1=>WOL.al tp1117 fun h2 N2=>WOL.as rfl<|WOL.nil<|keep [(1,_),(2,_),(3,_)] ⟨rfl,rfl,rfl,trivial⟩ ?_
 have q1:=N1.next
 have q2:=N2.next
 have A1:At h2 h.next (.cells [.string s,zi n,.slice b1 F.length k1,.slice b2 S.length k2] true true 211):=N1.at_.hx N2.hx
 have A2:=N2.at_
 have X2:=N1.hx.trans N2.hx
 refine WL.seq<|WL.sr<|WOL.ld rfl (load_row tp52 A1 rfl (Nat.le_of_ble_eq_true rfl))<|WOL.cl1 rfl rfl ((k41 (s:=s) (n:=n) (es:=es) (L:=L) H X (r.hx X2) hEs (fun _=>hLv) (by omega) (by omega) (f.on X2)).mono ?_)
 rintro v h3 ⟨rfl,X3⟩
 have Y3:=X2.trans X3
 have y3:=Y3.next
 have x3:=X3.next
 have l2:=A2.lt
 replace A1:=A1.hx X3;replace A2:=A2.hx X3
 rw [hE']
 refine WOL.as rfl<|WOL.nil<|keep [(1,_),(2,_),(4,_)] ⟨rfl,rfl,rfl,trivial⟩ ?_
 refine WL.sr<|WOL.mv rfl<|WOL.bf rfl rfl rfl rfl<|WOL.nil<|keep [(1,_),(2,_),(9,_)] ⟨rfl,rfl,rfl,trivial⟩<|WL.no rfl<|WL.skip ?_
 refine WL.sr<|WOL.fa rfl (fa_of fo52_2)<|WOL.ld rfl (load_one tp43 A1 rfl)<|WOL.cl2 rfl rfl rfl ((k1206 H (r.f.hx Y3) hLv (by omega) (f.on Y3)).mono ?_)
 rintro v h4 ⟨X4,c,rfl,hc,Ac⟩
 have Y4:=Y3.trans X4
 have y4:=X4.next
 have l1':=A1.lt
 replace A1:=A1.hx X4;replace A2:=A2.hx X4
 refine WOL.as rfl<|WOL.nil<|keep [(1,_),(2,_),(5,_)] ⟨rfl,rfl,rfl,trivial⟩ ?_
 refine WL.sr<|WOL.fa rfl (fa_of fo52_1)<|WOL.ld rfl (load_one tp3 A1 rfl)<|WOL.mv rfl<|WOL.fa rfl (fa_of fo52_3)<|WOL.ld rfl (load_one tp44 A1 rfl) ?_
 refine WOL.lq1 [h.next] rfl rfl rfl fun M hM=>((k1207 H ((r.s.hx Y4).relock M) (by omega) ((f.on Y4).held hM (fun b hb=>by simp at hb;omega))).mono ?_)
 rintro v h5 ⟨X5,b5,m5,k5,rfl,s5,l5⟩
 replace X5:=X5.relock
 replace s5:=s5.relock h4.lock
 replace l5:∀ z,bl (.slice b5 m5 k5)=some z→h4.next≤z:=l5
 generalize h5.withLock h4.lock=h5 at *
 have Y5:=Y4.trans X5
 have y5:=X5.next
 refine WOL.bd rfl bd1117<|WOL.sto (vs:=[zi n,slA c F.length,.slice b5 m5 k5]) rfl rfl tp1117 (A2.hx X5) rfl rfl (Nat.le_of_ble_eq_true rfl) rfl (f.hx Y5) (by omega) fun h6 P6=>WOL.as rfl<|WOL.nil ?_
 rw [ql]
 rw [ql] at P6
 have B:=P6.oth _ _ (by omega) (Ac.hx X5)
 refine WL.ret (WL.endC1 rfl rfl (load_row tp1117 P6.at_ rfl (Nat.le_of_ble_eq_true rfl)) ⟨P6.hx _ Y5 (by omega),c,b5,m5,k5,rfl,⟨?_,?_,?_⟩,by omega,fun z hz=>(by have:=l5 z hz;omega)⟩)
 ·show SlL encI 1 _ _ (C.map fun c=>c.1)
  rw [hL]
  exact SlL.own eI B lL
 ·show SlL encS 2 _ _ (holesOf (C.map fun c=>c.2))
  rw [hS]
  exact slC_keep s5 fun z x hz a=>P6.oth _ _ (by have:=l5 z hz;omega) a
 ·exact fun b off m cap e=>by cases e;exact ⟨_,_,_,_,B,.inr rfl⟩
end
section
variable {h h0:TH} {s:ByteArray} {n:Int} {p q M c3 c9 c32 b9 m9 k9 m0:Nat} {w1 w2:Value} {L:List Int} {S:List (Int × Int)} {a9:Option Addr}
end
end Go.Tidy
