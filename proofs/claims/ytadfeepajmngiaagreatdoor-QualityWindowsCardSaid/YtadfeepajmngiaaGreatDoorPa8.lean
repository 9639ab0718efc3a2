/- A part of the proof. -/
import Derived.Test.YtadfeepajmngiaaGreatDoorPa6
import Derived.Test.YtadfeepajmngiaaGreatDoorPa7
import Derived.Test.YtadfeepajmngiaaGreatDoorPa2
set_option linter.all false
namespace Go.Tidy
open Go Go.Proofs Tab
variable {tp:TProg}
theorem tp1629:Tp Tryz.prog 31 3 [.int .i64 0,.int .i64 0,.int .i64 0] true:=tp_of (by kernel_rfl) (by kernel_rfl) rfl
theorem fo1629_0:fieldOff Tryz.prog 31 0=some 0:=by kernel_rfl
theorem fo1629_1:fieldOff Tryz.prog 31 1=some 1:=by kernel_rfl
theorem fo1629_2:fieldOff Tryz.prog 31 2=some 2:=by kernel_rfl
theorem bd1629 {a b c:Int}:buildT Tryz.prog 31 [(0,zi a),(1,zi b),(2,zi c)]=some (.agg #[zi a,zi b,zi c]):=by kernel_rfl
def momV (a b c:Int):Value:=.agg #[zi a,zi b,zi c]
def momL (L:List Int) (B:List Bool) (k:Nat):Nat→Int × Int × Int
 | 0=>(0,0,0)
 | m+1=>cond (B.getD (k+m) false) ((momL L B k m).1+1,(momL L B k m).2.1+L.getD (k+m) 0,(momL L B k m).2.2+L.getD (k+m) 0*L.getD (k+m) 0) (momL L B k m)
theorem mom_lim {L:List Int} {B:List Bool} {k:Nat} (hl:∀ j,(L.getD j 0).natAbs≤16384):∀ m:Nat,0≤(momL L B k m).1∧(momL L B k m).1≤m∧(momL L B k m).2.1.natAbs≤16384*m∧0≤(momL L B k m).2.2∧(momL L B k m).2.2≤268435456*(m:Int)
  | 0=>by unfold momL;decide
  | m+1=>by
    have ih:=mom_lim (B:=B) (k:=k) hl m
    have q:=hl (k+m)
    have q2:0≤L.getD (k+m) 0*L.getD (k+m) 0∧L.getD (k+m) 0*L.getD (k+m) 0≤268435456:=by
      generalize L.getD (k+m) 0=x at q ⊢
      have e:x*x=((x.natAbs*x.natAbs:Nat):Int):=by rw [Int.natAbs_mul_self' x |>.symm];rfl
      rw [e]
      have:=Nat.mul_le_mul q q
      omega
    unfold momL
    generalize L.getD (k+m) 0*L.getD (k+m) 0=y at *
    cases B.getD (k+m) false with
    | true=>simp only [cond_true];refine ⟨by omega,by omega,by omega,by omega,by omega⟩
    | false=>simp only [cond_false];refine ⟨by omega,by omega,by omega,by omega,by omega⟩
section
variable {h:TH} {a b c d e g:Int}
set_option maxHeartbeats 2000000 in
set_option maxRecDepth 10000 in
theorem k1638 (H:Has tp) (f:Free0 h.next h) (h1:a.natAbs≤4000000000000) (h2:b.natAbs≤4000000000000) (h3:c.natAbs≤4000000000000) (h4:d.natAbs≤4000000000000) (h5:e.natAbs≤4000000000000) (h6:g.natAbs≤4000000000000) :
  CallW Tryz.prog tp (.func (.func 80) #[] #[]) #[momV a b c,momV d e g] h fun v h'=>v=momV (a+d) (b+e) (c+g)∧HX h h':=by
 refine CallW.fnL (H.fn 80 f1638 rfl rfl) ?_
 refine WL.sr<|WOL.box rfl fun g1 N1=>WOL.box rfl fun g2 N2=>WOL.al tp1629 fun g3 N3=>WOL.nil<|keep [(2,_),(3,_),(4,_)] ⟨rfl,rfl,rfl,trivial⟩ ?_
 have A2:At g3 h.next (.cells [zi a,zi b,zi c] true true 31):=(N1.at_.hx N2.hx).hx N3.hx
 have A3:At g3 g1.next (.cells [zi d,zi e,zi g] true true 31):=N2.at_.hx N3.hx
 have A4:=N3.at_
 have X3:=(N1.hx.trans N2.hx).trans N3.hx
 have n1:=N1.next
 have n2:=N2.next
 refine WL.sr<|WOL.fa rfl (fa_of fo1629_0)<|WOL.ld rfl (load_one tp3 A2 rfl)<|WOL.fa rfl (fa_of fo1629_0)<|WOL.ld rfl (load_one tp3 A3 rfl)<|WOL.add rfl rfl (by omega) (by omega) ?_
 refine WOL.fa rfl (fa_of fo1629_1)<|WOL.ld rfl (load_one tp3 A2 rfl)<|WOL.fa rfl (fa_of fo1629_1)<|WOL.ld rfl (load_one tp3 A3 rfl)<|WOL.add rfl rfl (by omega) (by omega) ?_
 refine WOL.fa rfl (fa_of fo1629_2)<|WOL.ld rfl (load_one tp3 A2 rfl)<|WOL.fa rfl (fa_of fo1629_2)<|WOL.ld rfl (load_one tp3 A3 rfl)<|WOL.add rfl rfl (by omega) (by omega) ?_
 refine WOL.bd rfl bd1629<|WOL.sto (vs:=[zi (a+d),zi (b+e),zi (c+g)]) rfl rfl tp1629 A4 rfl rfl (Nat.le_of_ble_eq_true rfl) rfl (f.hx X3) (show h.next≤g2.next by omega) fun g4 P4=>WOL.nil ?_
 exact WL.ret (WL.endC rfl (load_row tp1629 P4.at_ rfl (Nat.le_of_ble_eq_true rfl)) ⟨rfl,P4.hx _ X3 (by omega)⟩)
end
theorem tp1718:Tp Tryz.prog 139 2 [.slice none 0 0,.slice none 0 0] true:=tp_of (by kernel_rfl) (by kernel_rfl) rfl
theorem fo1718_0:fieldOff Tryz.prog 139 0=some 0:=by kernel_rfl
theorem fo1718_1:fieldOff Tryz.prog 139 1=some 1:=by kernel_rfl
section
variable {h:TH} {L:List Int} {B:List Bool} {b1 b2:Option Addr} {m1 m2 x N:Nat}
set_option maxHeartbeats 4000000 in
set_option maxRecDepth 10000 in
theorem k1650 (H:Has tp) (sL:SlL encI 1 h (.slice b1 L.length m1) L) (sB:SlL encB 1 h (.slice b2 B.length m2) B) (hL:x+N≤L.length) (hB:x+N≤B.length) (hl:∀ j,(L.getD j 0).natAbs≤16384) (lL:L.length≤4096) (f:Free0 h.next h) :
  CallW Tryz.prog tp (.func (.func 73) #[] #[]) #[.agg #[.slice b1 L.length m1,.slice b2 B.length m2],.agg #[zi (x:Nat),zi ((x+N:Nat):Int)]] h fun v h'=>v=momV (momL L B x N).1 (momL L B x N).2.1 (momL L B x N).2.2∧HX h h':=by
 refine CallW.fnL (H.fn 73 f1650 rfl rfl) ?_
 refine WL.sr<|WOL.box rfl fun g1 N1=>WOL.box rfl fun g2 N2=>WOL.al tp1629 fun g3 N3=>WOL.nil<|keep [(2,_),(3,_),(4,_)] ⟨rfl,rfl,rfl,trivial⟩ ?_
 have A2:At g3 h.next (.cells [.slice b1 L.length m1,.slice b2 B.length m2] true true 139):=(N1.at_.hx N2.hx).hx N3.hx
 have A3:At g3 g1.next (.cells [zi (x:Nat),zi ((x+N:Nat):Int)] true true 27):=N2.at_.hx N3.hx
 have A4:=N3.at_
 have X3:=(N1.hx.trans N2.hx).trans N3.hx
 have n1:=N1.next
 have n2:=N2.next
 have n3:=N3.next
 refine WL.sr<|WOL.al tp1629 fun g4 N4=>WOL.nil ?_
 have A5:=N4.at_
 refine WL.seq<|WL.sr<|WOL.fa rfl (fa_of fo48_0)<|WOL.ld rfl (load_one tp3 (A3.hx N4.hx) rfl)<|WOL.as rfl<|WOL.nil<|keep [(2,_),(3,_),(4,_),(5,_),(6,_)] ⟨rfl,rfl,rfl,rfl,rfl,trivial⟩ ?_
 refine WL.fori (α:=Unit) N (fun j _ g=>HX g3 g∧At g g3.next (.cells [zi (momL L B x j).1,zi (momL L B x j).2.1,zi (momL L B x j).2.2] true true 31)) (fun j _=>[(2,ptr h.next),(3,ptr g1.next),(4,ptr g2.next),(5,ptr g3.next),(6,zi ((x+j:Nat):Int))]) (fun j _=>[(2,ptr h.next),(3,ptr g1.next),(4,ptr g2.next),(5,ptr g3.next),(6,zi ((x+j:Nat):Int))]) () ⟨N4.hx,A5⟩ ⟨rfl,rfl,rfl,rfl,rfl,trivial⟩ ?_ ?_ (fun _ _ _=>⟨rfl,rfl,rfl,rfl,rfl,trivial⟩) ?_ ?_
 ·rintro j _ g hj ⟨X,_⟩
  refine WOL.mv rfl<|WOL.fa rfl (fa_of fo48_1)<|WOL.ld rfl (load_one tp3 (A3.hx X) rfl)<|WOL.bi (v:=.bool (decide (j < N))) rfl rfl ?_<|WOL.nil fun x q=>⟨rfl,q.sub ⟨rfl,rfl,rfl,rfl,rfl,rfl,trivial⟩⟩
  show some (Value.bool (decide (((x+j:Nat):Int) < ((x+N:Nat):Int))))=_
  rw [show decide (((x+j:Nat):Int) < ((x+N:Nat):Int))=decide (j < N) from decide_eq_decide.2 (by omega)]
 ·rintro j _ g hj q
  exact WOL.mv rfl<|WOL.inc rfl (by omega)<|WOL.as rfl<|WOL.nil fun x k=>⟨q,k.sub ⟨rfl,rfl,rfl,rfl,rfl,trivial⟩⟩
 ·rintro j _ g hj ⟨X,A⟩
  have la:=A.lt
  have xg:=X.next
  have hp:L[x+j]?=some (L.getD (x+j) 0):=by rw [List.getD_eq_getElem?_getD,List.getElem?_eq_getElem (by omega)];rfl
  have hq:B[x+j]?=some (B.getD (x+j) false):=by rw [List.getD_eq_getElem?_getD,List.getElem?_eq_getElem (by omega)];rfl
  obtain ⟨_,_,_,_,_,_,p1,p2,_,_,p5⟩:=(sL.hx (X3.trans X)).at eI u29 tp3 hp .i64
  obtain ⟨_,_,_,_,_,_,r1,r2,_,_,r5⟩:=(sB.hx (X3.trans X)).at eB u145 tp4 hq .i64
  have px:=p5 0 (by decide)
  have rx:=r5 0 (by decide)
  rw [Nat.add_zero] at px rx
  have lim:=mom_lim (B:=B) (k:=x) hl j
  have hs:(momL L B x (j+1))=cond (B.getD (x+j) false) ((momL L B x j).1+1,(momL L B x j).2.1+L.getD (x+j) 0,(momL L B x j).2.2+L.getD (x+j) 0*L.getD (x+j) 0) (momL L B x j):=rfl
  have hx:=hl (x+j)
  have hy:(L.getD (x+j) 0*L.getD (x+j) 0).natAbs≤268435456:=by
   rw [Int.natAbs_mul]
   exact Nat.mul_le_mul hx hx
  generalize L.getD (x+j) 0=z at *
  refine WL.sr<|WOL.fa rfl (fa_of fo1718_0)<|WOL.ld rfl (load_one tp29 (A2.hx X) rfl)<|WOL.mv rfl<|WOL.ix rfl rfl p1<|WOL.ld rfl (load_one tp3 p2 px)<|WOL.as rfl<|WOL.nil ?_
  refine WL.sr<|WOL.fa rfl (fa_of fo1718_1)<|WOL.ld rfl (load_one tp145 (A2.hx X) rfl)<|WOL.mv rfl<|WOL.ix rfl rfl r1<|WOL.ld rfl (load_one tp4 r2 rx)<|WOL.nil ?_
  cases hb:B.getD (x+j) false with
  | false =>
   rw [hb] at hs
   refine WL.no rfl<|WL.skip fun y k=>⟨(),⟨X,?_⟩,k.sub ⟨rfl,rfl,rfl,rfl,rfl,trivial⟩⟩
   rw [hs];exact A
  | true =>
   rw [hb] at hs
   refine WL.yes rfl<|WL.reg<|WOL.ld rfl (load_row tp1629 A rfl (Nat.le_of_ble_eq_true rfl))<|WOL.mv rfl<|WOL.mv rfl<|WOL.mv rfl<|WOL.mul rfl rfl (by omega) (by omega)<|WOL.bd rfl bd1629<|WOL.cl2 rfl rfl rfl ((k1638 (a:=(momL L B x j).1) (b:=(momL L B x j).2.1) (c:=(momL L B x j).2.2) (d:=1) (e:=z) (g:=z*z) H (f.on (X3.trans X)) (by omega) (by omega) (by omega) (by decide) (by omega) (by omega)).mono ?_)
   rintro u i1 ⟨rfl,Y⟩
   refine WOL.sto (vs:=[zi ((momL L B x j).1+1),zi ((momL L B x j).2.1+z),zi ((momL L B x j).2.2+z*z)]) rfl rfl tp1629 (A.hx Y) rfl rfl (Nat.le_of_ble_eq_true rfl) rfl (f.hx ((X3.trans X).trans Y)) (show h.next≤g3.next by omega) fun i2 P2=>WOL.nil fun y k=>⟨(),⟨P2.hx _ (X.trans Y) (Nat.le_refl _),?_⟩,k.sub ⟨rfl,rfl,rfl,rfl,rfl,trivial⟩⟩
   rw [hs];exact P2.at_
 ·rintro _ g ⟨X,A⟩
  refine WL.sr<|WOL.ld rfl (load_row tp1629 A rfl (Nat.le_of_ble_eq_true rfl))<|WOL.sto (vs:=[zi (momL L B x N).1,zi (momL L B x N).2.1,zi (momL L B x N).2.2]) rfl rfl tp1629 (A4.hx X) rfl rfl (Nat.le_of_ble_eq_true rfl) rfl (f.hx (X3.trans X)) (show h.next≤g2.next by omega) fun i2 P2=>WOL.nil ?_
  exact WL.ret (WL.endC rfl (load_row tp1629 P2.at_ rfl (Nat.le_of_ble_eq_true rfl)) ⟨rfl,P2.hx _ (X3.trans X) (by omega)⟩)
end
end Go.Tidy
namespace Go.Tidy
open Go Go.Proofs Tab
variable {tp:TProg}
section
variable {P:Program} {h:TH} {K:Regs→TH→Prop} {rest:List TOper} {d:Option Tmp} {ty:TypeId} {i:Nat} {x y:Operand} {t u:TypeId} {L:Rg}
end
section
variable {p q:Nat} {E:List Int} {C:List (Int × Bool)} {j:Nat} {H:List (Int × Bool)}
def HFine (H:List (Int × Bool)):Prop:=∀ c,c ∈ H→(c.2=true→largeB c.1=false)∧(c.2=false→c.1=0)
theorem HFine.lim {H:List (Int × Bool)} (f:HFine H) (i:Nat):-1073741824≤(H.getD i (0,false)).1∧(H.getD i (0,false)).1≤1073741824:=by
  rw [List.getD_eq_getElem?_getD]
  cases hi:H[i]? with
  | none=>decide
  | some c =>
    obtain ⟨f1,f2⟩:=f c (List.mem_of_getElem? hi)
    show -1073741824≤c.1∧c.1≤1073741824
    cases hc:c.2 with
    | false=>rw [f2 hc];decide
    | true =>
      have:=f1 hc
      unfold largeB readE at this
      have h0:outB c.1 (-1073741824) 1073741824=0:=by
        by_cases q:outB c.1 (-1073741824) 1073741824=0
        · exact q
        · rw [bne_iff_ne.2 q] at this;cases this
      exact out_mm h0
theorem HFine.val {H:List (Int × Bool)} (f:HFine H):valC H=H.map fun c=>c.1:=by
 unfold valC
 refine List.map_congr_left fun c hc=>?_
 cases h:c.2 with
 | true=>rfl
 | false=>rw [(f c hc).2 h];rfl
end
section
variable {α:Type} {l:List α} {z x:α} {m:Nat}
end
section
variable {h:TH} {n:Int} {p q:Nat} {L E:List Int} {S:List (Int × Int)} {rv rk hv hk:Nat}
end
end Go.Tidy
namespace Go.Tidy
open Go Go.Proofs Tab
variable {tp:TProg}
theorem TrcO.relock {n0 bv:Nat} {g:TH} {w:Value} {L:List Int} {S:List (Int × Int)} (r:TrcO n0 g bv w L S) (M:List Nat):TrcO n0 (g.withLock M) bv w L S:=⟨r.v.relock _,r.s.keep fun z y hz a=>a.relock _⟩
section
variable {h:TH} {n n' a b:Int} {v1 v2 w1 w2:Value} {L L':List Int} {S S':List (Int × Int)}
end
end Go.Tidy
namespace Go.Tidy
open Go Go.Proofs Tab
variable {tp:TProg}
section
variable {h:TH} {n n':Int} {p q:Nat} {v1 v2 w1 w2:Value} {L L':List Int} {S S':List (Int × Int)}
theorem knownL_getD {S:List (Int × Int)} {m i:Nat} (hi:i < m):(knownL S m).getD i false=knownB S (i:Nat):=by
 rw [List.getD_eq_getElem?_getD,knownL_get hi];rfl
end
end Go.Tidy
namespace Go.Tidy
open Go Go.Proofs Tab
variable {tp:TProg}
section
variable {h:TH} {s:ByteArray} {n p q:Int} {v v1 v2:Value} {F:List Nat} {S:List (Int × Int)} {es L:List Int}
theorem bd1718 {a b:Option Addr} {i j k l:Nat}:buildT Tryz.prog 139 [(0,.slice a i j),(1,.slice b k l)]=some (.agg #[.slice a i j,.slice b k l]):=by kernel_rfl
end
end Go.Tidy
namespace Go.Tidy
open Go Go.Proofs Tab
variable {tp:TProg}
def AnsF (e:Int) (L:List Int) (n0:Nat) (h':TH) (v:Value):Prop:=∃ b m c F,v=.tuple #[.slice b m c,zi e]∧SlL encF 1 h' (.slice b m c) F∧Lev F L∧∀ z,bl (.slice b m c)=some z→n0≤z
theorem AnsF.low {e:Int} {L:List Int} {n0 n1:Nat} {g:TH} {v:Value} (a:AnsF e L n1 g v) (h:n0≤n1):AnsF e L n0 g v:=by
 obtain ⟨b,m,c,F,h1,h2,h3,h4⟩:=a
 exact ⟨b,m,c,F,h1,h2,h3,fun z hz=>Nat.le_trans h (h4 z hz)⟩
section
variable {h:TH} {v w fv:Value} {F:List Nat} {es L M:List Int}
end
end Go.Tidy
namespace Go.Tidy
open Go Go.Proofs Tab
variable {tp:TProg}
def RF (h:TH) (v:Value) (L:List Int):Prop:=∃ F,SlL encF 1 h v F∧Lev F L
theorem RF.hx {h h':TH} {v:Value} {L:List Int} (r:RF h v L) (x:HX h h'):RF h' v L:=by
 obtain ⟨F,h1,h2⟩:=r
 exact ⟨F,h1.hx x,h2⟩
theorem RF.nil {h:TH}:RF h (.slice none 0 0) []:=⟨[],SlL.nil,rfl,fun i b n h=>by cases h⟩
theorem AnsF.form {e:Int} {L:List Int} {n0:Nat} {h':TH} {v:Value} (a:AnsF e L n0 h' v):∃ u,v=.tuple #[u,zi e]∧RF h' u L:=by
 obtain ⟨b,m,c,F,h1,h2,h3,_⟩:=a
 exact ⟨_,h1,F,h2,h3⟩
section
variable {h:TH} {v w fv:Value} {F G:List Nat} {es es' L M A B:List Int} {φ:Int→Int→Int}
end
end Go.Tidy
namespace Go.Tidy
open Go Go.Proofs Tab
variable {tp:TProg}
theorem at_getD {w:List Int} {i:Nat} (hi:i < w.length):w[i]?=some (w.getD i 0):=by
 rw [List.getD_eq_getElem?_getD,List.getElem?_eq_getElem hi];rfl
section
variable {h:TH} {v w:Value} {L M:List Int}
theorem k18L (H:Has tp) (s:SlL encI 1 h v L) (r:SlL encI 1 h w M) (hl:L.length≤1000000) (hm:M.length≤1000000):CallW Tryz.prog tp (.func (.func 60) #[] #[]) #[v,w] h fun u h'=>u=.bool (decide (L=M))∧h'=h:=by
  refine CallW.fnL (H.fn 60 f18 rfl rfl) ?_
  refine WL.sr<|WOL.as rfl<|WOL.nil<|keep [(0,_),(1,_)] ⟨rfl,rfl,trivial⟩ ?_
  by_cases c:(L.length:Int)=(M.length:Int)
  · refine WL.seq<|WL.sr<|WOL.mv rfl<|WOL.len rfl s u29<|WOL.mv rfl<|WOL.len rfl r u29<|WOL.bf rfl rfl rfl (bne_eq_false_iff_eq.2 c)<|WOL.nil<|keep [(0,_),(1,_),(10,_)] ⟨rfl,rfl,rfl,trivial⟩<|WL.no rfl<|WL.skip ?_
    refine WL.seq<|WL.sr<|WOL.as rfl<|WOL.nil<|keep [(0,_),(1,_),(5,_)] ⟨rfl,rfl,rfl,trivial⟩ ?_
    refine WL.forz (α:=Unit) L.length (fun j _ g=>g=h∧∀ i,i < j→L[i]?=M[i]?) (fun j _=>[(0,v),(1,w),(5,zi (j:Nat))]) (fun j _=>[(0,v),(1,w),(5,zi (j:Nat))]) () ⟨rfl,fun i hi=>absurd hi (by omega)⟩ ⟨rfl,rfl,rfl,trivial⟩ ?_ ?_ (fun _ _ _=>⟨rfl,rfl,rfl,trivial⟩) ?_ ?_
    · rintro j _ g hj ⟨rfl,_⟩
      exact WOL.mv rfl<|WOL.mv rfl<|WOL.len rfl s u29<|WOL.bi rfl rfl rfl<|WOL.nil fun a q=>⟨rfl,q.sub ⟨rfl,rfl,rfl,rfl,trivial⟩⟩
    · rintro j _ g hj hH
      exact WOL.mv rfl<|WOL.inc rfl (by omega)<|WOL.as rfl<|WOL.nil fun a q=>⟨hH,q.sub ⟨rfl,rfl,rfl,trivial⟩⟩
    · rintro j _ g hj ⟨rfl,hz⟩
      have e1:L[j]?=some (L.getD j 0):=at_getD hj
      have e2:M[j]?=some (M.getD j 0):=at_getD (by omega)
      obtain ⟨_,_,ca,fa,wa,ela,a1,a2,a3,a4,a5⟩:=s.at eI u29 tp3 e1 .i64
      obtain ⟨_,_,cb,fb,wb,elb,b1,b2,b3,b4,b5⟩:=r.at eI u29 tp3 e2 .i64
      have gxa:=a5 0 (by decide)
      have gxb:=b5 0 (by decide)
      rw [Nat.add_zero] at gxa gxb
      refine WL.sr<|WOL.mv rfl<|WOL.mv rfl<|WOL.ix rfl rfl a1<|WOL.ld rfl (load_one tp3 a2 gxa)<|WOL.mv rfl<|WOL.mv rfl<|WOL.ix rfl rfl b1<|WOL.ld rfl (load_one tp3 b2 gxb) ?_
      by_cases h0:L.getD j 0=M.getD j 0
      · refine WOL.bf rfl rfl rfl (bne_eq_false_iff_eq.2 h0)<|WOL.nil<|WL.no rfl<|WL.skip fun a k=>⟨(),⟨rfl,fun i hi=>?_⟩,k.sub ⟨rfl,rfl,rfl,trivial⟩⟩
        by_cases e:i=j
        · subst e;rw [e1,e2,h0]
        · exact hz i (by omega)
      · refine WOL.bt rfl rfl rfl (bne_iff_ne.2 h0)<|WOL.nil<|WL.yes rfl<|WL.sr<|WOL.as rfl<|WOL.nil ?_
        exact WL.ret (WL.end_ rfl ⟨by rw [decide_eq_false (fun e:L=M=>h0 (by rw [e]))];rfl,rfl⟩)
    · rintro _ g ⟨rfl,hz⟩
      have e:L=M:=List.ext_getElem? fun i=>by
        by_cases hi:i < L.length
        · exact hz i hi
        · rw [List.getElem?_eq_none (by omega),List.getElem?_eq_none (by omega)]
      exact WL.sr<|WOL.as rfl<|WOL.nil<|WL.ret (WL.end_ rfl ⟨by rw [decide_eq_true e];rfl,rfl⟩)
  · refine WL.seq<|WL.sr<|WOL.mv rfl<|WOL.len rfl s u29<|WOL.mv rfl<|WOL.len rfl r u29<|WOL.bt rfl rfl rfl (bne_iff_ne.2 c)<|WOL.nil<|WL.yes rfl<|WL.sr<|WOL.as rfl<|WOL.nil ?_
    exact WL.ret (WL.end_ rfl ⟨by rw [decide_eq_false (fun e:L=M=>c (by rw [e]))];rfl,rfl⟩)
end
end Go.Tidy
namespace Go.Tidy
open Go Go.Proofs Tab
variable {tp:TProg}
def z4:List (Int × Int):=[(0,0),(0,0),(0,0),(0,0)]
section
variable {h:TH} {n z:Int} {v1 v2:Value} {L:List Int} {S:List (Int × Int)}
end
end Go.Tidy
namespace Go.Tidy
open Go Go.Proofs Tab
variable {tp:TProg}
theorem ProgR.ok {n e:Int} {C:List (Int × Bool)} {n0:Nat} {g:TH} {v:Value} (r:ProgR n e C n0 g v) (he:e=0) (hb:bigC C=false):∃ bv b2 m2 k2,v=.tuple #[trcV n (slA bv C.length) (.slice b2 m2 k2),zi 0]∧n0≤bv∧TrcO n0 g bv (.slice b2 m2 k2) (valC C) (holesOf (C.map fun c=>c.2)):=by
 rcases r with ⟨h1,_⟩ | ⟨_,h1,_⟩ | ⟨_,_,bv,w,h2,h3,h4⟩
 ·exact absurd he h1
 ·rw [hb] at h1;cases h1
 ·obtain ⟨b2,m2,k2,rfl⟩:=h4.form
  exact ⟨bv,b2,m2,k2,h2,h3,h4⟩
section
variable {h h0:TH} {n:Int} {v1 v2:Value} {L:List Int} {S:List (Int × Int)} {c3 c4 p q z:Nat}
end
end Go.Tidy
namespace Go.Tidy
open Go Go.Proofs Tab
variable {tp:TProg}
theorem RevR.ok {n p e:Int} {L:List Int} {S:List (Int × Int)} {n0:Nat} {g:TH} {v:Value} (r:RevR n p e L S n0 g v) (he:e=0) (h0:0≤2*p+1 - (n+L.length)) (h1:2*p+1 - (n+L.length)+L.length≤100000000):∃ bv b2 m2 k2,v=.tuple #[trcV (2*p+1 - (n+L.length)) (slA bv L.length) (.slice b2 m2 k2),zi 0]∧n0≤bv∧TrcO n0 g bv (.slice b2 m2 k2) L.reverse (holesOf (knownL S L.length).reverse):=by
 rcases r with ⟨q,_⟩ | ⟨_,q,_⟩ | ⟨_,_,_,bv,w,q2,q3,q4⟩
 ·exact absurd he q
 ·omega
 ·obtain ⟨b2,m2,k2,rfl⟩:=q4.form
  exact ⟨bv,b2,m2,k2,q2,q3,q4⟩
section
variable {h h0:TH} {x y n:Int} {p q c3 c4 c5:Nat} {v1 v2 w1 w2:Value} {L1 L2:List Int} {S1 S2:List (Int × Int)}
end
end Go.Tidy
namespace Go.Tidy
open Go Go.Proofs Tab
variable {tp:TProg}
theorem lev_limI {F:List Nat} {L:List Int} (h:Lev F L):∀ x,x ∈ L→x.natAbs≤16384:=fun x hx=>by
 obtain ⟨i,hi⟩:=List.mem_iff_getElem?.1 hx
 have hlt:=(List.getElem?_eq_some_iff.1 hi).1
 have hF:i < F.length:=by rw [h.1];exact hlt
 exact (h.2 i _ _ (List.getElem?_eq_getElem hF) hi).lim
section
variable {h:TH} {v w fv:Value} {F G:List Nat} {es es' L M A B D:List Int} {n z:Int}
end
end Go.Tidy
namespace Go.Tidy
open Go Go.Proofs Tab
variable {tp:TProg}
attribute [local irreducible] Ty valOf
theorem ty_two {h:TH} {n:Nat} {ps:List Value} (y:Ty Tryz.prog h (n+2) 55 ps):∃ a b:Int,ps=[zi a,zi b]:=by
 obtain ⟨p,q,rfl,_,y1,p',q',rfl,_,y2,rfl⟩:=tyg_array Tryz.underlying55 y
 obtain ⟨a,rfl,_⟩:=ty_int y1
 obtain ⟨b,rfl,_⟩:=ty_int y2
 exact ⟨a,b,rfl⟩
end Go.Tidy
namespace Go.Tidy
open Go Go.Proofs Tab
variable {tp:TProg}
section
variable {L D Z:List Int} {i k:Nat}
theorem lev_getD {F:List Nat} (h:Lev F L) (j:Nat):(L.getD j 0).natAbs≤16384:=by
 by_cases hj:j < L.length
 ·exact lev_limI h _ (List.mem_of_getElem? (at_getD hj))
 ·rw [List.getD_eq_getElem?_getD,List.getElem?_eq_none (by omega)];decide
end
section
variable {h:TH} {v w fv:Value} {F G:List Nat} {es es' L M A B D:List Int} {n z:Int}
end
end Go.Tidy
namespace Go.Tidy
open Go Go.Proofs Tab
variable {tp:TProg}
structure Sx (b:Nat) (n:Int):Prop where
 ok:∃ neg q,V32 b neg q∧(∀ D,2 ^ 149=D→q*16=n.natAbs*D)∧sg neg n.natAbs=n
theorem Samp.x {b:Nat} {n:Int} (s:Samp b n):Sx b n:=⟨s.ok⟩
theorem Sx.nan {b:Nat} {n:Int} (s:Sx b n):nanB .f32 b=false:=by
 obtain ⟨neg,q,h,_⟩:=s.ok
 exact h.nan
theorem Sx.order {b c:Nat} {n m:Int} (s:Sx b n) (t:Sx c m):Ieee.single.order b c=some (compare n m):=by
 obtain ⟨neg,q,h1,h2,h3⟩:=s.ok
 obtain ⟨neg',q',g1,g2,g3⟩:=t.ok
 obtain ⟨D,hD⟩:∃ D:Nat,2 ^ 149=D:=⟨_,rfl⟩
 have hDp:0 < D:=by rw [← hD];exact two_pow_pos 149
 have e1:=h2 D hD
 have e2:=g2 D hD
 have a1:sg neg q*(16:Nat)=n*(D:Nat):=by rw [← sg_mul,e1,sg_mul,h3]
 have a2:sg neg' q'*(16:Nat)=m*(D:Nat):=by rw [← sg_mul,e2,sg_mul,g3]
 rw [h1.order g1]
 generalize sg neg q=x at *
 generalize sg neg' q'=y at *
 have hDi:(0:Int) < (D:Int):=by omega
 have hlt:x < y ↔ n < m:=by
  constructor
  ·intro hq
   have:n*(D:Int) < m*(D:Int):=by rw [← a1,← a2];omega
   exact Int.lt_of_mul_lt_mul_right this (by omega)
  ·intro hq
   have:n*(D:Int) < m*(D:Int):=Int.mul_lt_mul_of_pos_right hq hDi
   rw [← a1,← a2] at this
   omega
 have heq:x=y ↔ n=m:=by
  constructor
  ·intro hq
   rw [hq,a2] at a1
   exact (Int.eq_of_mul_eq_mul_right (by omega) a1).symm
  ·intro hq
   rw [hq,← a2] at a1
   omega
 congr 1
 show compareOfLessAndEq _ _=compareOfLessAndEq _ _
 unfold compareOfLessAndEq
 simp only [hlt,heq]
theorem sg_not (s:Bool) (q:Nat):sg (!s) q=-sg s q:=by
 unfold sg
 cases s <;> simp
theorem sg_sign {z:Int} {P:Nat} {w:Int} {s t:Bool} (hP:0 < P) (h:w=z*(P:Int)∨z=w*(P:Int)):sg (if z=0 then s && t else decide (z < 0)) w.natAbs=w:=by
  by_cases hz:z=0
  · have hw:w=0:=by
      rcases h with h | h
      · rw [h,hz,Int.zero_mul]
      · rw [hz] at h
        rcases Int.mul_eq_zero.1 h.symm with h | h
        · exact h
        · omega
    rw [if_pos hz,hw]
    cases s && t <;> rfl
  · rw [if_neg hz]
    have hPi:(0:Int) < (P:Int):=by omega
    have key:z < 0 ↔ w < 0:=by
      rcases h with h | h
      · rw [h]
        constructor
        · intro hl
          have:=Int.mul_lt_mul_of_pos_right hl hPi
          omega
        · intro hl
          have:z*(P:Int) < 0*(P:Int):=by omega
          exact Int.lt_of_mul_lt_mul_right this (by omega)
      · rw [h]
        constructor
        · intro hl
          have:w*(P:Int) < 0*(P:Int):=by omega
          exact Int.lt_of_mul_lt_mul_right this (by omega)
        · intro hl
          have:=Int.mul_lt_mul_of_pos_right hl hPi
          omega
    unfold sg
    by_cases hl:w < 0
    · rw [decide_eq_true (key.2 hl),if_pos rfl];omega
    · rw [decide_eq_false (fun q=>hl (key.1 q)),if_neg (by decide)];omega
theorem arr1 {z w:Int} {P Q D:Nat} (hP:0 < P) (h:z*(P:Int)*16=w*(D:Int)) (hq:Q*P*16=D):z=w*(Q:Int):=by
 subst hq
 refine Int.eq_of_mul_eq_mul_right (a:=(P:Int)*16) (by omega) ?_
 rw [← Int.mul_assoc,h,Int.natCast_mul,Int.natCast_mul,Int.mul_assoc,Int.mul_assoc]
 rfl
theorem arr2 {z w:Int} {P Q D:Nat} (hD:0 < D) (h:z*(P:Int)*16=w*(D:Int)) (hq:D*Q=P*16):w=z*(Q:Int):=by
 refine Int.eq_of_mul_eq_mul_right (a:=(D:Int)) (by omega) ?_
 rw [← h,Int.mul_assoc,Int.mul_assoc]
 have e:(P:Int)*16=((P*16:Nat):Int):=by rw [Int.natCast_mul];rfl
 rw [e,← hq,Int.natCast_mul,Int.mul_comm (D:Int)]
theorem arr3 {Z P Q D:Nat} (hq:D*Q=P*16):Z*P*16=Z*Q*D:=by
 rw [Nat.mul_assoc,← hq,Nat.mul_assoc,Nat.mul_comm D]
theorem Sx.sub {b c:Nat} {n m:Int} (s:Sx b n) (t:Sx c m) (hn:n.natAbs≤100000) (hm:m.natAbs≤100000):∃ r,Ieee.single.sub b c=some r∧Sx r (n - m):=by
 obtain ⟨s1,q1,⟨m1,k1,r1,p1,l1⟩,h2,h3⟩:=s.ok
 obtain ⟨s2,q2,⟨m2,k2,r2,p2,l2⟩,g2,g3⟩:=t.ok
 obtain ⟨D,hD⟩:∃ D:Nat,2 ^ 149=D:=⟨_,rfl⟩
 have hDp:0 < D:=by rw [← hD];exact two_pow_pos 149
 have e1:=h2 D hD
 have e2:=g2 D hD
 have a1:sg s1 q1*(16:Nat)=n*(D:Nat):=by rw [← sg_mul,e1,sg_mul,h3]
 have a2:sg s2 q2*(16:Nat)=m*(D:Nat):=by rw [← sg_mul,e2,sg_mul,g3]
 obtain ⟨K,hK⟩:∃ K,min k1 k2=K:=⟨_,rfl⟩
 have hmin:min ((-149:Int)+(k1:Int)) (-149+(k2:Int))=-149+(K:Int):=by omega
 obtain ⟨z,hz⟩:∃ z:Int,sg s1 (m1*2 ^ (k1 - K))+sg (!s2) (m2*2 ^ (k2 - K))=z:=⟨_,rfl⟩
 have hsub:Ieee.single.sub b c=some (Ieee.single.nearest (if z=0 then s1 && !s2 else decide (z < 0)) z.natAbs (-149+(K:Int))):=by
  unfold Ieee.Format.sub
  rw [r1,r2]
  show (Ieee.Datum.sum (.number s1 m1 (-149+(k1:Int))) (.number (!s2) m2 (-149+(k2:Int)))).map _=_
  unfold Ieee.Datum.sum
  simp only [hmin,signed_sg]
  rw [show ((-149:Int)+(k1:Int) - (-149+(K:Int))).toNat=k1 - K by omega,show ((-149:Int)+(k2:Int) - (-149+(K:Int))).toNat=k2 - K by omega,hz]
  rfl
 have pk1:m1*2 ^ (k1 - K)*2 ^ K=q1:=by rw [Nat.mul_assoc,← Nat.pow_add,show k1 - K+K=k1 by omega,p1]
 have pk2:m2*2 ^ (k2 - K)*2 ^ K=q2:=by rw [Nat.mul_assoc,← Nat.pow_add,show k2 - K+K=k2 by omega,p2]
 have hzP:z*((2 ^ K:Nat):Int)*16=(n - m)*(D:Int):=by
  rw [← hz,Int.add_mul,← sg_mul,← sg_mul,pk1,pk2,sg_not,Int.sub_mul,← a1,← a2]
  omega
 by_cases hK2:K≤145
 ·have hpw:2 ^ (145 - K)*2 ^ K*16=D:=by
   rw [← Nat.pow_add,show 145 - K+K=145 by omega,← hD]
  have hzz:z=(n - m)*((2 ^ (145 - K):Nat):Int):=arr1 (two_pow_pos K) hzP hpw
  have hab:z.natAbs=(n - m).natAbs*2 ^ (145 - K):=by rw [hzz,Int.natAbs_mul,Int.natAbs_natCast]
  refine ⟨_,hsub,⟨⟨(if z=0 then s1 && !s2 else decide (z < 0)),(n - m).natAbs*2 ^ 145,?_,?_,sg_sign (s:=s1) (t:=!s2) (P:=2 ^ (145 - K)) (two_pow_pos _) (.inr hzz)⟩⟩⟩
  ·rw [hab,nearest_shift Ieee.single _ (n - m).natAbs (145 - K) _ (by show _ < 2 ^ 24;omega) (by rw [lp32];omega)]
   exact near32 (by omega) _ (by omega) (by decide)
  ·intro D' hD'
   rw [Nat.mul_assoc,← hD']
 ·have hpw:D*2 ^ (K - 145)=2 ^ K*16:=by
   rw [← hD]
   exact (Nat.pow_add 2 149 (K - 145)).symm.trans ((congrArg (fun x=>2 ^ x) (show 149+(K - 145)=K+4 by omega)).trans (Nat.pow_add 2 K 4))
  have hzz:n - m=z*((2 ^ (K - 145):Nat):Int):=arr2 hDp hzP hpw
  have hab:(n - m).natAbs=z.natAbs*2 ^ (K - 145):=by rw [hzz,Int.natAbs_mul,Int.natAbs_natCast]
  have hle:z.natAbs≤(n - m).natAbs:=by rw [hab];exact Nat.le_mul_of_pos_right _ (two_pow_pos _)
  refine ⟨_,hsub,⟨⟨(if z=0 then s1 && !s2 else decide (z < 0)),_,near32 (m:=z.natAbs) (k:=K) (by omega) _ rfl (by omega),?_,sg_sign (s:=s1) (t:=!s2) (P:=2 ^ (K - 145)) (two_pow_pos _) (.inl hzz)⟩⟩⟩
  intro D' hD'
  rw [hab,← hD',hD]
  exact arr3 hpw
end Go.Tidy
namespace Go.Tidy
open Go Go.Proofs Tab
variable {tp:TProg}
theorem read2':Ieee.single.read 1073741824=.number false 8388608 (-22):=by decide
theorem mul2' {b:Nat} {neg:Bool} {m k:Nat} (N:N32 b neg m k) (hk:k≤200):∃ c,Ieee.single.mul 1073741824 b=some c∧V32 c neg (m*2 ^ (k+1)):=by
 have e0:(-22:Int)+(-149+(k:Int))+(23:Nat)=-148+k:=by omega
 have hsh:=nearest_shift Ieee.single neg m 23 (-22+(-149+(k:Int))) N.hm (by rw [lp32,e0];omega)
 rw [e0] at hsh
 refine ⟨Ieee.single.nearest neg m (-148+k),?_,near32 N.hm _ (by omega) (by omega)⟩
 unfold Ieee.Format.mul
 rw [read2',N.read]
 show some (Ieee.single.nearest (false ^^ neg) (8388608*m) (-22+(-149+(k:Int))))=_
 rw [← hsh,Nat.mul_comm]
 congr 1
 cases neg <;> rfl
theorem Samp.two {b:Nat} {n:Int} (s:Samp b n):∃ r,Ieee.single.mul 1073741824 b=some r∧Sx r (2*n):=by
  obtain ⟨neg,q,hV,h2,h3⟩:=s.ok
  obtain ⟨D,hD⟩:∃ D:Nat,2 ^ 149=D:=⟨_,rfl⟩
  have hDp:0 < D:=by rw [← hD];exact two_pow_pos 149
  have e1:=h2 D hD
  have hlim:=s.lim
  rcases single_cases b with h | ⟨s',h⟩ | ⟨neg',m,k,N⟩
  · rw [s.nan] at h;cases h
  · obtain ⟨m',k',r,_⟩:=hV.ok
    rw [h] at r;cases r
  · obtain ⟨m',k',r1,r2,r3⟩:=hV.ok
    rw [N.read] at r1
    simp only [Ieee.Datum.number.injEq] at r1
    obtain ⟨e2,e3,r4⟩:=r1
    subst e2 e3
    obtain rfl:k=k':=by omega
    have hk:k≤200:=by
      by_cases hm0:m=0
      · rw [N.hz hm0];omega
      · by_cases hk:k≤200
        · exact hk
        · have h1:2 ^ k≤m*2 ^ k:=Nat.le_mul_of_pos_left _ (by omega)
          have h2:2 ^ 201≤2 ^ k:=Nat.pow_le_pow_right (by decide) (by omega)
          have h3:16384*D < 2 ^ 201:=by rw [← hD];decide
          have h4:n.natAbs*D≤16384*D:=Nat.mul_le_mul_right _ hlim
          omega
    obtain ⟨c,c1,c2⟩:=mul2' N hk
    refine ⟨c,c1,⟨neg',_,c2,?_,?_⟩⟩
    · intro D' hD'
      rw [Int.natAbs_mul,show (2:Int).natAbs=2 from rfl,Nat.mul_assoc 2,← h2 D' hD',← r2,Nat.pow_succ,Nat.mul_comm (2 ^ k) 2,Nat.mul_left_comm m 2,Nat.mul_assoc 2]
    · rw [Int.natAbs_mul,show (2:Int).natAbs=2 from rfl,Nat.mul_comm,sg_mul,h3]
      omega
section
variable {P:Program} {h:TH} {K:Regs→TH→Prop} {rest:List TOper} {d:Option Tmp} {ty:TypeId} {i:Nat} {x y:Operand} {t u:TypeId} {L:Rg}
end
section
variable {m:Int}
end
end Go.Tidy
namespace Go.Tidy
open Go Go.Proofs Tab
variable {tp:TProg}
theorem Sx.add {b c:Nat} {n m:Int} (s:Sx b n) (t:Sx c m) (hn:n.natAbs≤100000) (hm:m.natAbs≤100000):∃ r,Ieee.single.add b c=some r∧Sx r (n+m):=by
 obtain ⟨s1,q1,⟨m1,k1,r1,p1,l1⟩,h2,h3⟩:=s.ok
 obtain ⟨s2,q2,⟨m2,k2,r2,p2,l2⟩,g2,g3⟩:=t.ok
 obtain ⟨D,hD⟩:∃ D:Nat,2 ^ 149=D:=⟨_,rfl⟩
 have hDp:0 < D:=by rw [← hD];exact two_pow_pos 149
 have e1:=h2 D hD
 have e2:=g2 D hD
 have a1:sg s1 q1*(16:Nat)=n*(D:Nat):=by rw [← sg_mul,e1,sg_mul,h3]
 have a2:sg s2 q2*(16:Nat)=m*(D:Nat):=by rw [← sg_mul,e2,sg_mul,g3]
 obtain ⟨K,hK⟩:∃ K,min k1 k2=K:=⟨_,rfl⟩
 have hmin:min ((-149:Int)+(k1:Int)) (-149+(k2:Int))=-149+(K:Int):=by omega
 obtain ⟨z,hz⟩:∃ z:Int,sg s1 (m1*2 ^ (k1 - K))+sg s2 (m2*2 ^ (k2 - K))=z:=⟨_,rfl⟩
 have hadd:Ieee.single.add b c=some (Ieee.single.nearest (if z=0 then s1 && s2 else decide (z < 0)) z.natAbs (-149+(K:Int))):=by
  unfold Ieee.Format.add
  rw [r1,r2]
  show (Ieee.Datum.sum (.number s1 m1 (-149+(k1:Int))) (.number s2 m2 (-149+(k2:Int)))).map _=_
  unfold Ieee.Datum.sum
  simp only [hmin,signed_sg]
  rw [show ((-149:Int)+(k1:Int) - (-149+(K:Int))).toNat=k1 - K by omega,show ((-149:Int)+(k2:Int) - (-149+(K:Int))).toNat=k2 - K by omega,hz]
  rfl
 have pk1:m1*2 ^ (k1 - K)*2 ^ K=q1:=by rw [Nat.mul_assoc,← Nat.pow_add,show k1 - K+K=k1 by omega,p1]
 have pk2:m2*2 ^ (k2 - K)*2 ^ K=q2:=by rw [Nat.mul_assoc,← Nat.pow_add,show k2 - K+K=k2 by omega,p2]
 have hzP:z*((2 ^ K:Nat):Int)*16=(n+m)*(D:Int):=by
  rw [← hz,Int.add_mul,← sg_mul,← sg_mul,pk1,pk2,Int.add_mul,Int.add_mul n m,← a1,← a2] <;> omega
 by_cases hK2:K≤145
 ·have hpw:2 ^ (145 - K)*2 ^ K*16=D:=by
   rw [← Nat.pow_add,show 145 - K+K=145 by omega,← hD]
  have hzz:z=(n+m)*((2 ^ (145 - K):Nat):Int):=arr1 (two_pow_pos K) hzP hpw
  have hab:z.natAbs=(n+m).natAbs*2 ^ (145 - K):=by rw [hzz,Int.natAbs_mul,Int.natAbs_natCast]
  refine ⟨_,hadd,⟨⟨(if z=0 then s1 && s2 else decide (z < 0)),(n+m).natAbs*2 ^ 145,?_,?_,sg_sign (s:=s1) (t:=s2) (P:=2 ^ (145 - K)) (two_pow_pos _) (.inr hzz)⟩⟩⟩
  ·rw [hab,nearest_shift Ieee.single _ (n+m).natAbs (145 - K) _ (by show _ < 2 ^ 24;omega) (by rw [lp32];omega)]
   exact near32 (by omega) _ (by omega) (by decide)
  ·intro D' hD'
   rw [Nat.mul_assoc,← hD']
 ·have hpw:D*2 ^ (K - 145)=2 ^ K*16:=by
   rw [← hD]
   exact (Nat.pow_add 2 149 (K - 145)).symm.trans ((congrArg (fun x=>2 ^ x) (show 149+(K - 145)=K+4 by omega)).trans (Nat.pow_add 2 K 4))
  have hzz:n+m=z*((2 ^ (K - 145):Nat):Int):=arr2 hDp hzP hpw
  have hab:(n+m).natAbs=z.natAbs*2 ^ (K - 145):=by rw [hzz,Int.natAbs_mul,Int.natAbs_natCast]
  have hle:z.natAbs≤(n+m).natAbs:=by rw [hab];exact Nat.le_mul_of_pos_right _ (two_pow_pos _)
  refine ⟨_,hadd,⟨⟨(if z=0 then s1 && s2 else decide (z < 0)),_,near32 (m:=z.natAbs) (k:=K) (by omega) _ rfl (by omega),?_,sg_sign (s:=s1) (t:=s2) (P:=2 ^ (K - 145)) (two_pow_pos _) (.inl hzz)⟩⟩⟩
  intro D' hD'
  rw [hab,← hD',hD]
  exact arr3 hpw
section
variable {P:Program} {h:TH} {K:Regs→TH→Prop} {rest:List TOper} {d:Option Tmp} {ty:TypeId} {i:Nat} {x y:Operand} {t u:TypeId} {L:Rg}
end
section
variable {h:TH} {v w fv:Value} {F G:List Nat} {es es' ee L M D S:List Int} {x y m:Int} {fa fb fc:Nat}
end
end Go.Tidy
namespace Go.Tidy
section
variable {keep:Nat→Bool} {x:Nat→Int}
def celJ (keep:Nat→Bool) (x:Nat→Int) (p:Nat):Int × Bool:=if keep (p / 3) then (x p,true) else (0,false)
def rowJ (keep:Nat→Bool) (x:Nat→Int) (lo hi:Nat):List (Int × Bool):=(List.range' lo (hi - lo)).map (celJ keep x)
end
def keptJ (keep:Nat→Bool) (n:Nat):List Nat:=(List.range n).filter keep
end Go.Tidy
namespace Go.Tidy
open Go Go.Proofs Tab
variable {tp:TProg}
def lane (s:Nat→ByteArray) (n:Int) (h:TH) (v1 v2:Nat→Value) (C:Nat→List (Int × Bool)) (N:Nat):Prop:=∀ k,RunC (s k) n h (v1 k) (v2 k) (C k)∧(C k).length=N
theorem lane.hx {s:Nat→ByteArray} {n:Int} {h h':TH} {v1 v2:Nat→Value} {C:Nat→List (Int × Bool)} {N:Nat} (l:lane s n h v1 v2 C N) (x:HX h h'):lane s n h' v1 v2 C N:=fun k=>⟨(l k).1.hx x,(l k).2⟩
section
variable {s:Nat→ByteArray} {n:Int} {v1 v2:Nat→Value} {C:Nat→List (Int × Bool)} {N lb c2 c7:Nat} {m:Int} {hb g:TH} {Q:Exit→Regs→TH→Prop} {gx:Nat} {p126 p127 p128:Value}
end
end Go.Tidy
namespace Go.Tidy
open Go Go.Proofs Tab
variable {tp:TProg}
section
variable {src n:Nat} {kp:Nat→Bool} {x:Nat→Int}
end
abbrev rN:ByteArray:=⟨#[114]⟩
theorem Above.none {n0 m c:Nat}:Above n0 (.slice .none m c):=fun b off sp m c h=>by cases h
theorem Above.of {n0 b m c:Nat} (h:n0≤b):Above n0 (.slice (some ⟨b,0,.none⟩) m c):=fun b off sp m c e=>by cases e;exact h
def JRun (kp:Nat→Bool) (x:Nat→Int) (n j:Nat) (s:Int × Value × Value) (g:TH):Prop :=
 (j=0∧s=(0,.slice none 0 0,.slice none 0 0))∨∃ k c0 cl,j=k+1∧(keptJ kp n)[0]?=some c0∧(keptJ kp n)[k]?=some cl∧c0≤cl∧s.1=((3*c0:Nat):Int)∧RunC rN ((3*c0:Nat):Int) g s.2.1 s.2.2 (rowJ kp x (3*c0) (3*(cl+1)))
theorem JRun.hx {kp:Nat→Bool} {x:Nat→Int} {n j:Nat} {s:Int × Value × Value} {g g':TH} (q:JRun kp x n j s g) (X:HX g g'):JRun kp x n j s g':=by
 rcases q with q | ⟨k,c0,cl,q1,q2,q3,q4,q5,q6⟩
 ·exact .inl q
 ·exact .inr ⟨k,c0,cl,q1,q2,q3,q4,q5,q6.hx X⟩
section
variable {hB i7:TH} {n:Nat} {kp:Nat→Bool} {x:Nat→Int} {c7 c10 c0 cl c N:Nat} {p2 v1 v2 u1 u2 w17:Value} {j:Int}
end
end Go.Tidy
namespace Go.Tidy
open Go Go.Proofs Tab
variable {tp:TProg}
abbrev Tri:=Int × Int × Int
def encT (t:Tri):List Value:=[.int .i8 t.1,.int .i8 t.2.1,.int .i8 t.2.2]
theorem eT:Enc encT 3:=⟨fun _=>rfl,fun _=>rfl⟩
section
variable {kp:Nat→Bool} {x:Nat→Int} {n j:Nat}
end
section
variable {P:Program} {h:TH} {K:Regs→TH→Prop} {rest:List TOper} {d:Option Tmp} {ty t u:TypeId} {i:Nat} {x y:Operand} {L:Rg}
theorem WOL.fdiv {k:FloatKind} {b c r:Nat} (hx:getL L x=some (.float k b)) (hy:getL L y=some (.float k c)) (hb:nanB k b=false) (hc:nanB k c=false) (hr:k.format.div b c=some r) (hn:nanB k r=false)
  (w:∀ a,Kn (putL L d (.float k r)) a→WO P tp rest a h K):∀ a,Kn L a→WO P tp (⟨d,.binOp .quo t x y u,ty,none,[],i⟩::rest) a h K:=fun a k=>WO.fdiv (k.o hx) (k.o hy) hb hc hr hn (w _ (k.put d _))
end
end Go.Tidy
namespace Go.Tidy
open Go Go.Proofs Tab
variable {tp:TProg}
structure RowsI (h:TH) (b:Nat) (Xs:List Value) (Cs:List (List Int)):Prop where
 at_:At h b (.cells Xs true true 49)
 len:Xs.length=Cs.length
 sl:∀ (i:Nat) (x:Value) (C:List Int),Xs[i]?=some x→Cs[i]?=some C→SlL encI 1 h x C
theorem RowsI.hx {h h':TH} {b:Nat} {Xs:List Value} {Cs:List (List Int)} (r:RowsI h b Xs Cs) (x:HX h h'):RowsI h' b Xs Cs:=⟨r.at_.hx x,r.len,fun i y C h1 h2=>(r.sl i y C h1 h2).hx x⟩
end Go.Tidy
namespace Go.Tidy
open Go Go.Proofs Tab
variable {tp:TProg}
section
variable {P:Program} {h:TH} {K:Regs→TH→Prop} {rest:List TOper} {d:Option Tmp} {ty:TypeId} {i:Nat} {x y:Operand} {t u:TypeId} {L:Rg}
end
section
variable {h:TH} {v w v8 v9 v14 v16 v22:Value} {F G:List Nat} {es es' L M D:List Int} {x y z n d ez o:Int} {fz c3:Nat} {s:ByteArray}
def addLI (L:List Int) (o:Int):List Int:=L.map fun x=>x+o
theorem add_len:(addLI L o).length=L.length:=List.length_map ..
theorem add_get {i:Nat} (h:i < L.length):(addLI L o).getD i 0=L.getD i 0+o:=by
 unfold addLI
 rw [List.getD_eq_getElem?_getD,List.getElem?_map,at_getD h];rfl
end
end Go.Tidy
namespace Go.Tidy
open Go Go.Proofs Tab
variable {tp:TProg}
section
variable {h:TH} {v w v5 v6 v8 v9 v14 v18 v22:Value} {F G R Q T:List Nat} {es es' L M D:List Int} {x y z n d ez o p:Int} {fz fo c13 c8 c9:Nat} {s:ByteArray}
def MixS (j:Nat) (o:Int) (F:List Nat) (L:List Int) (R:List Nat):Prop:=R.length=F.length∧(∀ i,i < j→Samp (R.getD i 0) (L.getD i 0+o))∧∀ i,j≤i→R[i]?=F[i]?
theorem MixS.set {j r:Nat} (m:MixS j o F L R) (hj:j < F.length) (sr:Samp r (L.getD j 0+o)):MixS (j+1) o F L (R.set j r):=by
 obtain ⟨h1,h2,h3⟩:=m
 refine ⟨by rw [List.length_set];exact h1,fun i hi=>?_,fun i hi=>?_⟩
 ·by_cases e:i=j
  ·subst e
   rw [List.getD_eq_getElem?_getD,List.getElem?_set_self (by omega)]
   exact sr
  ·rw [List.getD_eq_getElem?_getD,List.getElem?_set_ne (Ne.symm e),← List.getD_eq_getElem?_getD]
   exact h2 i (by omega)
 ·rw [List.getElem?_set_ne (by omega)]
  exact h3 i (by omega)
theorem MixS.lev (m:MixS F.length o F L R) (ll:F.length=L.length):Lev R (addLI L o):=by
 obtain ⟨h1,h2,h3⟩:=m
 refine ⟨by rw [add_len];omega,fun i bb nn e1 e2=>?_⟩
 have hi:i < R.length:=(List.getElem?_eq_some_iff.1 e1).1
 have q1:=h2 i (by omega)
 rw [List.getD_eq_getElem?_getD (l:=R),e1] at q1
 have q2:=add_get (L:=L) (o:=o) (i:=i) (by omega)
 rw [List.getD_eq_getElem?_getD,e2] at q2
 replace q2:nn=_:=q2
 rw [q2];exact q1
end
end Go.Tidy
namespace Go.Tidy
open Go Go.Proofs Tab
variable {tp:TProg}
theorem k103w (H:Has tp) {a b:Int} {h:TH} (ha:a.natAbs≤1000000000000000000) (hb:0 < b) (hb2:b≤1000000000000000000):CallW Tryz.prog tp (.func (.func 96) #[] #[]) #[.int .i64 a,.int .i64 b] h fun v h'=>v=.int .i64 (rnd a b)∧h'=h:=by
 refine CallW.fnL (H.fn 96 f103 rfl rfl) ?_
 refine WL.sr<|WOL.as rfl<|WOL.nil<|keep [(0,_),(1,_)] ⟨rfl,rfl,trivial⟩ ?_
 refine WL.sr<|WOL.mv rfl<|WOL.mul rfl rfl (by omega) (by omega)<|WOL.mv rfl<|WOL.add rfl rfl (by omega) (by omega)<|WOL.mv rfl<|WOL.mul rfl rfl (by omega) (by omega)<|WOL.as rfl<|WOL.as rfl<|WOL.nil<|keep [(0,_),(1,_)] ⟨rfl,rfl,trivial⟩ ?_
 refine WL.seq<|WL.sr<|WOL.mv rfl<|WOL.bi (v:=.bool (decide (2*a+b < 0))) rfl rfl rfl<|WOL.nil<|keep [(0,_),(1,_),(12,_)] ⟨rfl,rfl,rfl,trivial⟩ ?_
 by_cases hn:2*a+b < 0
 ·rw [decide_eq_true hn]
  refine WL.yes rfl<|WL.sr<|WOL.mv rfl<|WOL.sub rfl rfl (by omega) (by omega)<|WOL.mv rfl<|WOL.sub rfl rfl (by omega) (by omega)<|WOL.mv rfl<|WOL.quo rfl rfl (by omega) (by omega) (by omega) ?_
  have h1:(2*b - 1 - (2*a+b)) / (2*b)≤2*b - 1 - (2*a+b):=Int.ediv_le_self _ (by omega)
  have h2:0≤(2*b - 1 - (2*a+b)) / (2*b):=Int.ediv_nonneg (by omega) (by omega)
  refine WOL.neg rfl (by omega) (by omega)<|WOL.as rfl<|WOL.nil<|keep [(4,_)] ⟨rfl,trivial⟩ ?_
  exact WL.ret (WL.end_ rfl ⟨congrArg (Value.int .i64) (by show -((2*b - 1 - (2*a+b)) / (2*b))=(2*a+b) / (2*b);exact (floor_neg (by omega)).symm),rfl⟩)
 ·rw [decide_eq_false hn]
  refine WL.no rfl<|WL.skip ?_
  refine WL.sr<|WOL.mv rfl<|WOL.mv rfl<|WOL.quo rfl rfl (by omega) (by omega) (by omega)<|WOL.as rfl<|WOL.nil<|keep [(4,_)] ⟨rfl,trivial⟩ ?_
  exact WL.ret (WL.end_ rfl ⟨rfl,rfl⟩)
section
variable {h:TH} {v:Value} {L:List Int} {a b c:Int}
end
end Go.Tidy
namespace Go.Tidy
open Go Go.Proofs Tab
variable {tp:TProg}
theorem tp1628:Tp Tryz.prog 38 3 [.int .i64 0,.int .i64 0,.int .i64 0] true:=tp_of (by kernel_rfl) (by kernel_rfl) rfl
theorem fo1628_0:fieldOff Tryz.prog 38 0=some 0:=by kernel_rfl
theorem fo1628_1:fieldOff Tryz.prog 38 1=some 1:=by kernel_rfl
theorem fo1628_2:fieldOff Tryz.prog 38 2=some 2:=by kernel_rfl
theorem bd1628 {a b c:Int}:buildT Tryz.prog 38 [(0,zi a),(1,zi b),(2,zi c)]=some (.agg #[zi a,zi b,zi c]):=by kernel_rfl
section
variable {hp:TH} {K:Regs→TH→Prop} {rest:List TOper} {dd:Option Tmp} {ty:TypeId} {i:Nat} {x y:Operand} {u:TypeId} {L:Rg}
end
theorem mom_out {L:List Int} {B:List Bool} {x N j:Nat} (h:¬ (x≤j∧j < x+N)):momL L B x (min (j+1 - x) N)=momL L B x (min (j - x) N):=by
 rw [show min (j+1 - x) N=min (j - x) N by omega]
theorem mom_in {L:List Int} {B:List Bool} {x N j:Nat} (h1:x≤j) (h2:j < x+N):momL L B x (min (j+1 - x) N)=cond (B.getD j false) ((momL L B x (min (j - x) N)).1+1,(momL L B x (min (j - x) N)).2.1+L.getD j 0,(momL L B x (min (j - x) N)).2.2+L.getD j 0*L.getD j 0) (momL L B x (min (j - x) N)):=by
 have e1:min (j+1 - x) N=j - x+1:=by omega
 have e2:min (j - x) N=j - x:=by omega
 have e3:x+(j - x)=j:=by omega
 rw [e1,e2]
 show cond (B.getD (x+(j - x)) false) _ _=_
 rw [e3]
section
variable {h:TH} {s:ByteArray} {n p q:Int} {v v1 v2:Value} {F:List Nat} {S:List (Int × Int)} {es L:List Int} {x N:Nat}
theorem k1594 (H:Has tp) (r:RunH h v1 v2 F S) (hF:F.length≤900000) (hS:S.length≤900000) (f:Free0 h.next h) :
  CallW Tryz.prog tp (.func (.func 12) #[] #[]) #[runV s n v1 v2] h fun v h'=>∃ w1 w2,v=runV s n w1 w2∧HX h h'∧RunO h.next h' w1 w2 F S:=by
 refine CallW.fnL (H.fn 12 f1594 rfl rfl) ?_
 obtain ⟨b1,k1,rfl⟩:=r.f.form
 obtain ⟨b2,k2,rfl⟩:=r.s.form
 refine WL.sr<|WOL.box rfl fun h1 N1=>WOL.al tp52 fun h2 N2=>WOL.nil<|keep [(1,_),(2,_)] ⟨rfl,rfl,trivial⟩ ?_
 have n1:=N1.next
 have n2:=N2.next
 have A1:At h2 h.next (.cells [.string s,zi n,.slice b1 F.length k1,.slice b2 S.length k2] true true 25):=N1.at_.hx N2.hx
 have A2:=N2.at_
 have X2:=N1.hx.trans N2.hx
 refine WL.sr<|WOL.ld rfl (load_row tp46 A1 rfl (Nat.le_of_ble_eq_true rfl))<|WOL.cl1 rfl rfl ((k87 (s:=s) (n:=n) H (r.hx X2) (by omega) (by omega) (f.on X2)).mono ?_)
 rintro v h3 ⟨w1,w2,rfl,X3,ro⟩
 obtain ⟨b3,k3,rfl⟩:=ro.r.f.form
 obtain ⟨b4,k4,rfl⟩:=ro.r.s.form
 refine WOL.sto (vs:=[.string s,zi n,.slice b3 F.length k3,.slice b4 S.length k4]) rfl rfl tp52 (A2.hx X3) rfl rfl (Nat.le_of_ble_eq_true rfl) rfl (f.hx (X2.trans X3)) (by omega) fun h4 P4=>WOL.nil ?_
 exact WL.ret (WL.endC rfl (load_row tp52 P4.at_ rfl (Nat.le_of_ble_eq_true rfl)) ⟨_,_,rfl,P4.hx _ (X2.trans X3) (by omega),(ro.away P4 (by omega)).le (by omega)⟩)
end
end Go.Tidy
namespace Go.Tidy
open Go Go.Proofs Tab
variable {tp:TProg}
section
variable {h:TH} {s:ByteArray} {n p q:Int} {v v1 v2:Value} {F:List Nat} {S:List (Int × Int)} {es L:List Int} {x N:Nat}
set_option maxHeartbeats 8000000 in
set_option maxRecDepth 10000 in
theorem k1596 (H:Has tp) (r:RunH h v1 v2 F S) (V:Valid s n F S L) (hS:S.length≤900000) (hN:x+N≤F.length) (f:Free0 h.next h) :
    CallW Tryz.prog tp (.func (.func 15) #[] #[]) #[runV s n v1 v2,.agg #[zi (n+(x:Nat)),zi (n+(x:Nat)+(N:Nat))]] h fun v h'=>v=momV (momL L (knownL S F.length) x N).1 (momL L (knownL S F.length) x N).2.1 (momL L (knownL S F.length) x N).2.2∧HX h h':=by
  refine CallW.fnL (H.fn 15 f1596 rfl rfl) ?_
  obtain ⟨b1,k1,rfl⟩:=r.f.form
  obtain ⟨b2,k2,rfl⟩:=r.s.form
  have V0:=V.n0
  have V1:=V.n1
  have Vm:=V.m
  generalize hB:knownL S F.length=B
  have hBg:∀ j,j < F.length→B.getD j false=knownB S (j:Nat):=fun j hj=>by rw [← hB];exact knownL_getD hj
  refine WL.sr<|WOL.box rfl fun h1 N1=>WOL.box rfl fun h2 N2=>WOL.al tp1628 fun h3 N3=>WOL.nil<|keep [(2,_),(3,_),(4,_)] ⟨rfl,rfl,rfl,trivial⟩ ?_
  have n1:=N1.next
  have n2:=N2.next
  have n3:=N3.next
  have A2:At h3 h.next (.cells [.string s,zi n,.slice b1 F.length k1,.slice b2 S.length k2] true true 25):=(N1.at_.hx N2.hx).hx N3.hx
  have A3:At h3 h1.next (.cells [zi (n+(x:Nat)),zi (n+(x:Nat)+(N:Nat))] true true 27):=N2.at_.hx N3.hx
  have A4:=N3.at_
  have X3:=(N1.hx.trans N2.hx).trans N3.hx
  refine WL.sr<|WOL.al tp1628 fun h4 N4=>WOL.nil<|keep [(2,_),(3,_),(4,_),(5,_)] ⟨rfl,rfl,rfl,rfl,trivial⟩ ?_
  have A5:=N4.at_
  refine WL.seq<|WL.sr<|WOL.as rfl<|WOL.nil ?_
  refine WL.forz (α:=Unit) F.length (fun j _ g=>HX h3 g∧At g h3.next (.cells [zi (momL L B x (min (j - x) N)).1,zi (momL L B x (min (j - x) N)).2.1,zi (momL L B x (min (j - x) N)).2.2] true true 38)) (fun j _=>[(2,ptr h.next),(3,ptr h1.next),(4,ptr h2.next),(5,ptr h3.next),(6,zi (j:Nat))]) (fun j _=>[(2,ptr h.next),(3,ptr h1.next),(4,ptr h2.next),(5,ptr h3.next),(6,zi (j:Nat))]) () ⟨N4.hx,by rw [Nat.zero_sub,Nat.zero_min];exact A5⟩ ⟨rfl,rfl,rfl,rfl,rfl,trivial⟩ ?_ ?_ (fun _ _ _=>⟨rfl,rfl,rfl,rfl,rfl,trivial⟩) ?_ ?_
  · rintro j _ g hj ⟨X,_⟩
    exact WOL.mv rfl<|WOL.fa rfl (fa_of fo46_2)<|WOL.ld rfl (load_one tp43 (A2.hx X) rfl)<|WOL.len rfl (r.f.hx (X3.trans X)) u43<|WOL.bi rfl rfl rfl<|WOL.nil fun a q=>⟨rfl,q.sub ⟨rfl,rfl,rfl,rfl,rfl,rfl,trivial⟩⟩
  · rintro j _ g hj q
    exact WOL.mv rfl<|WOL.inc rfl (by omega)<|WOL.as rfl<|WOL.nil fun a k=>⟨q,k.sub ⟨rfl,rfl,rfl,rfl,rfl,trivial⟩⟩
  · rintro j _ g hj ⟨X,A⟩
    have la:=A.lt
    have xg:=X.next
    have hp:F[j]?=some F[j]:=List.getElem?_eq_getElem hj
    obtain ⟨z,hz,sm⟩:=V.lev.get hp
    obtain ⟨_,_,_,_,_,_,p1,p2,_,_,p5⟩:=(r.f.hx (X3.trans X)).at eF u43 tp25 hp .i64
    have px:=p5 0 (by decide)
    rw [Nat.add_zero] at px
    have lim:=mom_lim (B:=B) (k:=x) (lev_getD V.lev) (min (j - x) N)
    have hm:min (j - x) N≤4096:=by omega
    have ez:L.getD j 0=z:=by rw [List.getD_eq_getElem?_getD,hz];rfl
    have hzl:=sm.lim
    have hy:(z*z).natAbs≤268435456:=by rw [Int.natAbs_mul];exact Nat.mul_le_mul hzl hzl
    have X3g:=X3.trans X
    refine WL.sr<|WOL.fa rfl (fa_of fo46_1)<|WOL.ld rfl (load_one tp3 (A2.hx X) rfl)<|WOL.mv rfl<|WOL.add rfl rfl (by omega) (by omega)<|WOL.as rfl<|WOL.nil<|keep [(2,_),(3,_),(4,_),(5,_),(6,_),(7,_)] ⟨rfl,rfl,rfl,rfl,rfl,rfl,trivial⟩ ?_
    refine WL.sr<|WOL.mv rfl<|WOL.fa rfl (fa_of fo48_0)<|WOL.ld rfl (load_one tp3 (A3.hx X) rfl) ?_
    by_cases c1:x≤j
    · refine WOL.bt rfl rfl rfl (decide_eq_true (by omega))<|WOL.mv rfl<|WOL.now (b:=true) rfl rfl<|WOL.mv rfl<|WOL.now (b:=true) rfl rfl<|WOL.fa rfl (fa_of fo48_1)<|WOL.now (b:=true) rfl rfl<|WOL.ld rfl (load_one tp3 (A3.hx X) rfl)<|WOL.now (b:=true) rfl rfl ?_
      by_cases c2:j < x+N
      · refine WOL.bt rfl rfl rfl (decide_eq_true (by omega))<|WOL.pkt rfl rfl<|WOL.mv rfl<|WOL.now (b:=true) rfl rfl<|WOL.ld rfl (load_row tp46 (A2.hx X) rfl (Nat.le_of_ble_eq_true rfl))<|WOL.now (b:=true) rfl rfl<|WOL.mv rfl<|WOL.now (b:=true) rfl rfl<|WOL.cl2 rfl rfl rfl ((k39 (s:=s) (n:=n) (v1:=.slice b1 F.length k1) H (r.s.hx X3g) (by omega)).mono ?_)
        rintro v g1 ⟨rfl,Y⟩
        have hs:=mom_in (L:=L) (B:=B) c1 c2
        rw [hBg j hj,ez] at hs
        refine WOL.pkt rfl rfl<|WOL.nil<|keep [(2,_),(3,_),(4,_),(5,_),(6,_),(34,_)] ⟨rfl,rfl,rfl,rfl,rfl,rfl,trivial⟩ ?_
        cases hb:knownB S (j:Nat) with
        | false =>
          rw [hb] at hs
          refine WL.no rfl<|WL.skip fun y k=>⟨(),⟨X.trans Y,?_⟩,k.sub ⟨rfl,rfl,rfl,rfl,rfl,trivial⟩⟩
          rw [hs];exact A.hx Y
        | true =>
          rw [hb] at hs
          replace hs:momL L B x (min (j+1 - x) N)=((momL L B x (min (j - x) N)).1+1,(momL L B x (min (j - x) N)).2.1+z,(momL L B x (min (j - x) N)).2.2+z*z):=hs
          refine WL.yes rfl<|WL.sr<|WOL.fa rfl (fa_of fo46_2)<|WOL.ld rfl (load_one tp43 ((A2.hx X).hx Y) rfl)<|WOL.mv rfl<|WOL.ix rfl rfl p1<|WOL.ld rfl (load_one tp25 (p2.hx Y) px)<|WOL.cl1 rfl rfl ((k95 H sm _).mono ?_)
          rintro v g2 ⟨rfl,rfl⟩
          refine WOL.as rfl<|WOL.nil<|keep [(2,_),(3,_),(4,_),(5,_),(6,_),(8,_)] ⟨rfl,rfl,rfl,rfl,rfl,rfl,trivial⟩ ?_
          have Ag:=A.hx Y
          refine WL.reg<|WOL.fa rfl (fa_of fo1628_0)<|WOL.ld rfl (load_one tp3 Ag rfl)<|WOL.add rfl rfl (by omega) (by omega)<|WOL.fa rfl (fa_of fo1628_1)<|WOL.ld rfl (load_one tp3 Ag rfl)<|WOL.mv rfl<|WOL.add rfl rfl (by omega) (by omega)<|WOL.fa rfl (fa_of fo1628_2)<|WOL.ld rfl (load_one tp3 Ag rfl)<|WOL.mv rfl<|WOL.mv rfl<|WOL.mul rfl rfl (by omega) (by omega)<|WOL.add rfl rfl (by omega) (by omega)<|WOL.bd rfl bd1628 ?_
          refine WOL.sto (vs:=[zi ((momL L B x (min (j - x) N)).1+1),zi ((momL L B x (min (j - x) N)).2.1+z),zi ((momL L B x (min (j - x) N)).2.2+z*z)]) rfl rfl tp1628 Ag rfl rfl (Nat.le_of_ble_eq_true rfl) rfl (f.hx (X3g.trans Y)) (show h.next≤h3.next by omega) fun i2 P2=>WOL.nil fun y k=>⟨(),⟨P2.hx _ (X.trans Y) (Nat.le_refl _),?_⟩,k.sub ⟨rfl,rfl,rfl,rfl,rfl,trivial⟩⟩
          rw [hs];exact P2.at_
      · refine WOL.bf rfl rfl rfl (decide_eq_false (by omega))<|WOL.pkt rfl rfl<|WOL.mv rfl<|WOL.skp (b:=false) rfl rfl<|WOL.skp (b:=false) rfl rfl<|WOL.skp (b:=false) rfl rfl<|WOL.pkf rfl rfl<|WOL.nil<|WL.no rfl<|WL.skip fun y k=>⟨(),⟨X,?_⟩,k.sub ⟨rfl,rfl,rfl,rfl,rfl,trivial⟩⟩
        rw [mom_out (by omega)];exact A
    · refine WOL.bf rfl rfl rfl (decide_eq_false (by omega))<|WOL.mv rfl<|WOL.skp (b:=false) rfl rfl<|WOL.skp (b:=false) rfl rfl<|WOL.skp (b:=false) rfl rfl<|WOL.skp (b:=false) rfl rfl<|WOL.pkf rfl rfl<|WOL.mv rfl<|WOL.skp (b:=false) rfl rfl<|WOL.skp (b:=false) rfl rfl<|WOL.skp (b:=false) rfl rfl<|WOL.pkf rfl rfl<|WOL.nil<|WL.no rfl<|WL.skip fun y k=>⟨(),⟨X,?_⟩,k.sub ⟨rfl,rfl,rfl,rfl,rfl,trivial⟩⟩
      rw [mom_out (by omega)];exact A
  · rintro _ g ⟨X,A⟩
    rw [show min (F.length - x) N=N by omega] at A
    refine WL.sr<|WOL.ld rfl (load_row tp1628 A rfl (Nat.le_of_ble_eq_true rfl))<|WOL.sto (vs:=[zi (momL L B x N).1,zi (momL L B x N).2.1,zi (momL L B x N).2.2]) rfl rfl tp1628 (A4.hx X) rfl rfl (Nat.le_of_ble_eq_true rfl) rfl (f.hx (X3.trans X)) (show h.next≤h2.next by omega) fun i2 P2=>WOL.nil ?_
    exact WL.ret (WL.endC rfl (load_row tp1628 P2.at_ rfl (Nat.le_of_ble_eq_true rfl)) ⟨rfl,P2.hx _ (X3.trans X) (by omega)⟩)
end
end Go.Tidy
namespace Go.Tidy
open Go Go.Proofs Tab
variable {tp:TProg}
theorem outQ_out {x a b:Int} (h:¬ (a≤x∧x≤b)):outB x a b=3:=by
 unfold outB
 by_cases h1:x < a
 ·rw [decide_eq_true h1];rfl
 ·rw [decide_eq_false h1,decide_eq_true (show x > b by omega)];rfl
theorem sq_limQ {s:Int} {k:Nat} (h:s.natAbs≤k):0≤s*s∧s*s≤((k*k:Nat):Int):=by
 have e:s*s=((s.natAbs*s.natAbs:Nat):Int):=by rw [Int.natAbs_mul_self' s |>.symm];rfl
 rw [e]
 have:=Nat.mul_le_mul h h
 omega
theorem pr_lim {c q k:Int} (h0:0≤c) (h1:c≤4096) (q0:0≤q) (q1:q≤k):0≤c*q∧c*q≤4096*k:=by
 refine ⟨Int.mul_nonneg h0 q0,?_⟩
 have:=Int.mul_le_mul h1 q1 q0 (by decide)
 exact this
section
variable {P:Program} {h:TH} {K:Regs→TH→Prop} {rest:List TOper} {d:Option Tmp} {ty:TypeId} {i:Nat} {x:Operand} {L:Rg} {t:TypeId}
end
section
variable {h:TH} {c s q c' s' q':Int}
end
end Go.Tidy
namespace Go.Tidy
open Go Go.Proofs Tab
section
variable {P:Program} {tp:TProg}
def YieldsA (P:Program) (tp:TProg) (f:Value) (R:TH→Prop) (n:Nat) (e1:Nat→Value):Prop :=
 ∀ (h':TH) (yv:Value) (I:Nat→TH→Prop),I 0 h'→(∀ j g,I j g→R g)→(∀ j g g',I j g→HX g g'→I j g')→(∀ j g,j < n→I j g→CallW P tp yv #[e1 j] g fun r g'=>r=.bool true∧I (j+1) g')→CallW P tp f #[yv] h' fun _ g=>I n g
theorem WL.rangeA {L:Rg} {h:TH} {Q:Exit→Regs→TH→Prop} {f:Operand} {p1:Tmp} {ta tb:TCode} {k:Nat} {fn:TFun} {cap:Array Value} {n:Nat} {e1:Nat→Value} {R:TH→Prop} (hf:getL L f=some (.func (.func k) #[] cap)) (hk:tp.fn k=some fn)
  (y:YieldsA P tp (.func (.func k) #[] cap) R n e1) (J:Nat→TH→Prop) (hR:∀ j g,J j g→R g) (hF:∀ j g,J j g→Free0 h.next g) (hJ:∀ j g g' x,J j g→Put g g' h.next x→J j g') (hG:∀ j g g',J j g→HX g g'→J j g') (J0:∀ g x,New h g x→J 0 g)
  (step:∀ j g x,j < n→J j g→At g h.next x→∀ r,Kn ((p1,e1 j)::L) r→W P tp true ta r g fun e r1 g1=>e=.normal∧Free0 h.next g1∧At g1 h.next x∧∀ g2 x2,Put g1 g2 h.next x2→W P tp true tb r1 g2 fun e _ g3=>e=.normal∧J (j+1) g3∧At g3 h.next x2)
  (end_:∀ g,J n g→∀ r,Kn L r→Q .normal r g) :
  ∀ r,Kn L r→W P tp false (.rangeFunc f #[p1] ta tb) r h Q:=by
 intro r hr
 refine W.range (getO_eval (hr.o hf)) hk ?_
 refine (y (h.new (.loop r #[p1] ta tb .ready none)) (.func (.yield h.next) #[] #[]) (fun j g=>J j g∧At g h.next (.loop r #[p1] ta tb .ready none)) ⟨J0 _ _ (New.mk' _ _),At.new _ _⟩ (fun j g q=>hR j g q.1) (fun j g g' q x=>⟨hG j g g' q.1 x,q.2.hx x⟩) ?_).mono ?_
 ·rintro j g hj ⟨q,A⟩
  refine CallW.yield A.get rfl ?_
  have f1:Free0 h.next g:=hF j g q
  have hk':Kn ((p1,e1 j)::L) (Regs.sets (#[p1]:Array Tmp).toList (#[e1 j]:Array Value).toList r):=hr.put (some p1) (e1 j)
  refine (step j g _ hj q A _ hk').mono ?_
  rintro e r1 g1 ⟨rfl,f1',A1,w2⟩
  refine ⟨rfl,A1.get,_,f1'.put (Nat.le_refl _) A1.lt,?_⟩
  have P1:=Put.mk' A1 (.loop r #[p1] ta tb .busy none)
  refine (w2 _ _ P1).mono ?_
  rintro e r2 g3 ⟨rfl,q3,A3⟩
  have f3:Free0 h.next g3:=hF _ g3 q3
  have P3:=Put.mk' A3 (.loop r #[p1] ta tb .ready none)
  exact ⟨rfl,A3.get,_,f3.put (Nat.le_refl _) A3.lt,rfl,hJ _ _ _ _ q3 P3,P3.at_⟩
 ·rintro v g ⟨q,A⟩
  have f1:Free0 h.next g:=hF n g q
  have P1:=Put.mk' A .dead
  exact ⟨_,_,_,_,_,A.get,f1.put (Nat.le_refl _) A.lt,end_ _ (hJ n _ _ _ q P1) r hr⟩
end
variable {tp:TProg}
def idx1 (sz:Nat) (m:Int × Int × Int):Int:=cond (decide (m.1 < (sz:Nat))) (-1) (rnd (m.1*m.2.2 - m.2.1*m.2.1) (m.1*m.1))
def idxL (L:List Int) (B:List Bool) (sz:Nat):Nat→List Int
 | 0=>[]
 | k+1=>idxL L B sz k ++ [idx1 sz (momL L B (k*sz) sz)]
theorem idxL_len {L:List Int} {B:List Bool} {sz:Nat}:∀ k:Nat,(idxL L B sz k).length=k
 | 0=>rfl
 | k+1=>by unfold idxL;rw [List.length_append,idxL_len k];rfl
theorem win_lt {m sz j:Nat} (hz:0 < sz):j < m / sz ↔ j*sz+sz≤m:=by
 rw [← Nat.add_one_le_iff,Nat.le_div_iff_mul_le hz,Nat.succ_mul]
theorem win_le {m sz j:Nat} (h:j≤m / sz):j*sz≤m:=Nat.le_trans (Nat.mul_le_mul_right _ h) (Nat.div_mul_le_self _ _)
section
variable {h:TH} {s:ByteArray} {n:Int} {v v1 v2:Value} {F:List Nat} {S:List (Int × Int)} {es L:List Int} {B:List Bool} {sz:Nat}
theorem slI_of {g:TH} {c:Nat} (A:At g c (.cells (cat encI L) true true 3)):SlL encI 1 g (.slice (some ⟨c,0,none⟩) L.length L.length) L:=SlC.own (by rw [eI.cat_len]) A
theorem slB_of {g:TH} {c:Nat} (A:At g c (.cells (cat encB B) true true 4)):SlL encB 1 g (.slice (some ⟨c,0,none⟩) B.length B.length) B:=SlC.own (by rw [eB.cat_len]) A
set_option maxHeartbeats 2000000 in
set_option maxRecDepth 10000 in
theorem k1649x (H:Has tp) (r:RunH h v1 v2 F S) (hL:Lev F L) (hF:F.length≤900000) (hS:S.length≤900000) (hin:In F.length S) (f:Free0 h.next h) :
  CallW Tryz.prog tp (.func (.func 72) #[] #[]) #[runV s n v1 v2] h fun v h'=>HX h h'∧∃ c b,v=.agg #[.slice (some ⟨c,0,none⟩) L.length L.length,.slice (some ⟨b,0,none⟩) (knownL S F.length).length (knownL S F.length).length]∧h.next≤c∧h.next≤b∧At h' c (.cells (cat encI L) true true 3)∧At h' b (.cells (cat encB (knownL S F.length)) true true 4):=by
 refine CallW.fnL (H.fn 72 f1649 rfl rfl) ?_
 obtain ⟨b1,k1,rfl⟩:=r.f.form
 obtain ⟨b2,k2,rfl⟩:=r.s.form
 refine WL.sr<|WOL.box rfl fun h1 N1=>WOL.al tp1718 fun h2 N2=>WOL.nil<|keep [(1,_),(2,_)] ⟨rfl,rfl,trivial⟩ ?_
 have A1:At h2 h.next (.cells [.string s,zi n,.slice b1 F.length k1,.slice b2 S.length k2] true true 35):=N1.at_.hx N2.hx
 have A2:=N2.at_
 have X2:=N1.hx.trans N2.hx
 have q1:=N1.next
 have q2:=N2.next
 refine WL.sr<|WOL.fa rfl (fa_of fo52_2)<|WOL.ld rfl (load_one tp43 A1 rfl)<|WOL.fa rfl (fa_of fo52_2)<|WOL.ld rfl (load_one tp43 A1 rfl)<|WOL.len rfl (r.f.hx X2) u43<|WOL.fa rfl (fa_of fo52_3)<|WOL.ld rfl (load_one tp44 A1 rfl) ?_
 refine WOL.lq2 [h.next,h.next] rfl rfl rfl rfl fun M hM=>((k1206 H ((r.f.hx X2).relock M) hL (by omega) ((f.on X2).held hM (fun b hb=>by simp at hb;omega))).mono ?_)
 rintro v h3 ⟨X3,c,rfl,hc,Ac⟩
 replace X3:=X3.relock
 replace Ac:=Ac.relock h2.lock
 replace hc:h2.next≤c:=hc
 generalize h3.withLock h2.lock=h3 at *
 have Y3:=X2.trans X3
 refine WOL.cl2 rfl rfl rfl ((k1223 (m:=F.length) H (r.s.hx Y3) (by omega) (by omega) hin (f.on Y3)).mono ?_)
 rintro v h4 ⟨b,rfl,Ab,X4,hb⟩
 have x3:=X3.next
 have x4:=X4.next
 refine WOL.bd rfl bd1718<|WOL.sto (vs:=[slA c F.length,slA b F.length]) rfl rfl tp1718 ((A2.hx X3).hx X4) rfl rfl (Nat.le_of_ble_eq_true rfl) rfl (f.hx (Y3.trans X4)) (by omega) fun h5 P5=>WOL.nil ?_
 have lc:=Ac.lt
 have lE:L.length=F.length:=hL.1.symm
 have nb:b≠h1.next:=by omega
 refine WL.ret (WL.endC rfl (load_row tp1718 P5.at_ rfl (Nat.le_of_ble_eq_true rfl)) ⟨P5.hx _ (Y3.trans X4) (by omega),c,b,?_,by omega,by omega,P5.oth _ _ (by omega) (Ac.hx X4),P5.oth _ _ nb Ab⟩)
 rw [lE,knownL_len];rfl
structure WinR (c1 c2 c3 d1 d2:Nat) (s:ByteArray) (n:Int) (b1 b2:Option Addr) (k1 k2:Nat) (F:List Nat) (S:List (Int × Int)) (L:List Int) (B:List Bool) (sz:Nat) (g:TH):Prop where
 a1:At g c1 (.cells [zi (sz:Nat)] true true 3)
 a2:At g c2 (.cells [.string s,zi n,.slice b1 F.length k1,.slice b2 S.length k2] true true 35)
 a3:At g c3 (.cells [.slice (some ⟨d1,0,none⟩) L.length L.length,.slice (some ⟨d2,0,none⟩) B.length B.length] true true 139)
 al:At g d1 (.cells (cat encI L) true true 3)
 ab:At g d2 (.cells (cat encB B) true true 4)
theorem WinR.keep {c1 c2 c3 d1 d2:Nat} {b1 b2:Option Addr} {k1 k2:Nat} {g g':TH} (w:WinR c1 c2 c3 d1 d2 s n b1 b2 k1 k2 F S L B sz g) (n0:Nat) (e1:n0≤c1) (e2:n0≤c2) (e3:n0≤c3) (e4:n0≤d1) (e5:n0≤d2) (o:∀ b x,n0≤b→At g b x→At g' b x):WinR c1 c2 c3 d1 d2 s n b1 b2 k1 k2 F S L B sz g' :=
 ⟨o _ _ e1 w.a1,o _ _ e2 w.a2,o _ _ e3 w.a3,o _ _ e4 w.al,o _ _ e5 w.ab⟩
set_option maxHeartbeats 2000000 in
set_option maxRecDepth 10000 in
theorem y1713 (H:Has tp) {c1 c2 c3 d1 d2:Nat} {b1 b2:Option Addr} {k1 k2:Nat} (hz:0 < sz) (hs:sz≤256) (lL:L.length≤4096) (hl:∀ j,(L.getD j 0).natAbs≤16384) (lB:B.length=L.length) (lF:F.length=L.length) :
  YieldsA Tryz.prog tp (.func (.func 197) #[] #[ptr c1,ptr c2,ptr c3]) (fun g=>WinR c1 c2 c3 d1 d2 s n b1 b2 k1 k2 F S L B sz g∧SlL encF 1 g (.slice b1 F.length k1) F∧Free0 g.next g) (L.length / sz) fun j=>momV (momL L B (j*sz) sz).1 (momL L B (j*sz) sz).2.1 (momL L B (j*sz) sz).2.2:=by
 intro h' yv I I0 hI hG step
 refine CallW.fnC (H.fn 197 f1713 rfl rfl) ?_
 refine WL.sr<|WOL.as rfl<|WOL.nil<|keep [(0,_),(1,_),(2,_),(3,_),(5,_)] ⟨rfl,rfl,rfl,rfl,rfl,trivial⟩ ?_
 refine WL.fori (α:=Unit) (L.length / sz) (fun j _ g=>I j g) (fun j _=>[(0,yv),(1,ptr c1),(2,ptr c2),(3,ptr c3),(5,zi ((j*sz:Nat):Int))]) (fun j _=>[(0,yv),(1,ptr c1),(2,ptr c2),(3,ptr c3),(5,zi ((j*sz:Nat):Int))]) () I0 (by rw [Nat.zero_mul];exact ⟨rfl,rfl,rfl,rfl,rfl,trivial⟩) ?_ ?_ (fun _ _ _=>⟨rfl,rfl,rfl,rfl,rfl,trivial⟩) ?_ ?_
 ·rintro j _ g hj q1
  obtain ⟨w,sF,f⟩:=hI j g q1
  have hw:=win_le hj
  refine WOL.mv rfl<|WOL.ld rfl (load_one tp3 w.a1 rfl)<|WOL.addN rfl rfl (by omega)<|WOL.fa rfl (fa_of fo52_2)<|WOL.ld rfl (load_one tp43 w.a2 rfl)<|WOL.len rfl sF u43<|WOL.bi (v:=.bool (decide (j < L.length / sz))) rfl rfl ?_<|WOL.nil fun a q=>⟨rfl,q.sub ⟨rfl,rfl,rfl,rfl,rfl,rfl,trivial⟩⟩
  show some (Value.bool (decide (((j*sz+sz:Nat):Int)≤(F.length:Int))))=_
  rw [show decide (((j*sz+sz:Nat):Int)≤(F.length:Int))=decide (j < L.length / sz) from decide_eq_decide.2 (by rw [win_lt hz];omega)]
 ·rintro j _ g hj q1
  obtain ⟨w,sF,f⟩:=hI _ g q1
  have hw:=win_le (Nat.le_of_lt hj)
  refine WOL.mv rfl<|WOL.ld rfl (load_one tp3 w.a1 rfl)<|WOL.addN rfl rfl (by omega)<|WOL.as rfl<|WOL.nil fun a q=>⟨q1,?_⟩
  rw [Nat.succ_mul]
  exact q.sub ⟨rfl,rfl,rfl,rfl,rfl,trivial⟩
 ·rintro j _ g hj q1
  obtain ⟨w,sF,f⟩:=hI j g q1
  have hw:=(win_lt hz).1 hj
  refine WL.sr<|WOL.mv rfl<|WOL.ld rfl (load_row tp1718 w.a3 rfl (Nat.le_of_ble_eq_true rfl))<|WOL.mv rfl<|WOL.mv rfl<|WOL.ld rfl (load_one tp3 w.a1 rfl)<|WOL.addN rfl rfl (by omega)<|WOL.bd rfl bd48 ?_
  refine WOL.cl2 rfl rfl rfl ((k1650 (x:=j*sz) (N:=sz) H (slI_of w.al) (slB_of w.ab) (by omega) (by omega) hl (by omega) f).mono ?_)
  rintro v g1 ⟨rfl,X1⟩
  refine WOL.cl1 rfl rfl ((step j g1 hj (hG _ _ _ q1 X1)).mono ?_)
  rintro v g2 ⟨rfl,q2⟩
  exact WOL.nt rfl<|WOL.nil<|WL.no rfl<|WL.skip fun a q=>⟨(),q2,q.sub ⟨rfl,rfl,rfl,rfl,rfl,trivial⟩⟩
 ·rintro _ g q1
  exact fun a q=>WL.endn rfl q1 a q
set_option maxHeartbeats 2000000 in
set_option maxRecDepth 10000 in
theorem k1696 (H:Has tp) (r:RunH h v1 v2 F S) (hL:Lev F L) (hF:F.length≤900000) (hS:S.length≤900000) (hin:In F.length S) (f:Free0 h.next h) :
  CallW Tryz.prog tp (.func (.func 153) #[] #[]) #[runV s n v1 v2,zi (sz:Nat)] h fun v h'=>HX h h'∧∃ c1 c2 c3 d1 d2 b1 b2 k1 k2,v1=.slice b1 F.length k1∧v=.func (.func 197) #[] #[ptr c1,ptr c2,ptr c3]∧WinR c1 c2 c3 d1 d2 s n b1 b2 k1 k2 F S L (knownL S F.length) sz h'∧h.next≤c1∧h.next≤c2∧h.next≤c3∧h.next≤d1∧h.next≤d2:=by
 refine CallW.fnL (H.fn 153 f1696 rfl rfl) ?_
 obtain ⟨b1,k1,rfl⟩:=r.f.form
 obtain ⟨b2,k2,rfl⟩:=r.s.form
 refine WL.sr<|WOL.box rfl fun h1 N1=>WOL.box rfl fun h2 N2=>WOL.as rfl<|WOL.nil<|keep [(2,_),(3,_)] ⟨rfl,rfl,trivial⟩ ?_
 have n1:=N1.next
 have n2:=N2.next
 have A2:At h2 h.next (.cells [.string s,zi n,.slice b1 F.length k1,.slice b2 S.length k2] true true 35):=N1.at_.hx N2.hx
 have A3:At h2 h1.next (.cells [zi (sz:Nat)] true true 3):=N2.at_
 have X2:=N1.hx.trans N2.hx
 refine WL.sr<|WOL.ld rfl (load_row tp52 A2 rfl (Nat.le_of_ble_eq_true rfl))<|WOL.cl1 rfl rfl ((k1649x (s:=s) (n:=n) H (r.hx X2) hL hF hS hin (f.on X2)).mono ?_)
 rintro v h3 ⟨X3,c,b,rfl,hc,hb,Ac,Ab⟩
 have n3:=X3.next
 have Y3:=X2.trans X3
 refine WOL.al tp1718 fun h4 N4=>WOL.sto (vs:=[.slice (some ⟨c,0,none⟩) L.length L.length,.slice (some ⟨b,0,none⟩) (knownL S F.length).length (knownL S F.length).length]) rfl rfl tp1718 N4.at_ rfl rfl (Nat.le_of_ble_eq_true rfl) rfl (f.hx (Y3.trans N4.hx)) (by omega) fun h5 P5=>WOL.nil<|keep [(2,_),(3,_),(5,_)] ⟨rfl,rfl,rfl,trivial⟩ ?_
 have Z5:HX h3 h5:=P5.hx _ N4.hx (Nat.le_refl _)
 refine WL.sr<|WOL.mf rfl<|WOL.as rfl<|WOL.nil ?_
 exact WL.ret (WL.end_ rfl ⟨Y3.trans Z5,h1.next,h.next,h3.next,c,b,b1,b2,k1,k2,rfl,rfl,⟨(A3.hx X3).hx Z5,(A2.hx X3).hx Z5,P5.at_,Ac.hx Z5,Ab.hx Z5⟩,by omega,by omega,by omega,by omega,by omega⟩)
end
end Go.Tidy
namespace Go.Tidy
open Go Go.Proofs Tab
variable {tp:TProg}
section
variable {h:TH} {s:ByteArray} {n c q z:Int} {v v1 v2:Value} {F:List Nat} {S:List (Int × Int)} {es L:List Int} {B:List Bool} {sz:Nat}
theorem win_lim (hz:0 < sz) (hs:sz≤256) (hl:∀ j,(L.getD j 0).natAbs≤16384) (k:Nat):0≤(momL L B k sz).1∧(momL L B k sz).1≤256∧(momL L B k sz).1≤sz∧(momL L B k sz).2.1.natAbs≤67108864∧0≤(momL L B k sz).2.2∧(momL L B k sz).2.2≤1099511627776:=by
 have p:=mom_lim (B:=B) (k:=k) hl sz
 omega
set_option maxHeartbeats 4000000 in
set_option maxRecDepth 10000 in
theorem k1639r (H:Has tp) (a1:0≤c) (a2:c≤256) (a3:z.natAbs≤67108864) (a5:0≤q) (a6:q≤1099511627776):CallW Tryz.prog tp (.func (.func 82) #[] #[]) #[momV c z q] h fun v h'=>v=.tuple #[zi (c*q - z*z),zi (c*c)]∧HX h h':=by
 have p1:=sq_limQ (s:=z) (k:=67108864) a3
 have p2:=pr_lim (k:=1099511627776) a1 (by omega) a5 a6
 have pc:=sq_limQ (s:=c) (k:=4096) (by omega)
 refine CallW.fnL (H.fn 82 f1639 rfl rfl) ?_
 refine WL.sr<|WOL.box rfl fun h1 N1=>WOL.as rfl<|WOL.as rfl<|WOL.nil<|keep [(1,_)] ⟨rfl,trivial⟩ ?_
 have A1:At h1 h.next (.cells [zi c,zi z,zi q] true true 31):=N1.at_
 refine WL.sr<|WOL.fa rfl (fa_of fo1629_0)<|WOL.ld rfl (load_one tp3 A1 rfl)<|WOL.fa rfl (fa_of fo1629_2)<|WOL.ld rfl (load_one tp3 A1 rfl)<|WOL.mul rfl rfl (by omega) (by omega)<|WOL.fa rfl (fa_of fo1629_1)<|WOL.ld rfl (load_one tp3 A1 rfl)<|WOL.fa rfl (fa_of fo1629_1)<|WOL.ld rfl (load_one tp3 A1 rfl)<|WOL.mul rfl rfl (by omega) (by omega)<|WOL.sub rfl rfl (by omega) (by omega) ?_
 refine WOL.fa rfl (fa_of fo1629_0)<|WOL.ld rfl (load_one tp3 A1 rfl)<|WOL.fa rfl (fa_of fo1629_0)<|WOL.ld rfl (load_one tp3 A1 rfl)<|WOL.mul rfl rfl (by omega) (by omega)<|WOL.as rfl<|WOL.as rfl<|WOL.nil ?_
 exact WL.ret (WL.end_ rfl ⟨rfl,N1.hx⟩)
set_option maxHeartbeats 8000000 in
set_option maxRecDepth 10000 in
theorem k1652 (H:Has tp) (r:RunH h v1 v2 F S) (V:Valid s n F S L) (hS:S.length≤900000) (hz:0 < sz) (hs:sz≤256) (f:Free0 h.next h) :
  CallW Tryz.prog tp (.func (.func 86) #[] #[]) #[runV s n v1 v2,zi (sz:Nat)] h fun v h'=>HX h h'∧OwnL encI h.next h' v 3 (idxL L (knownL S F.length) sz (L.length / sz)):=by
 refine CallW.fnL (H.fn 86 f1652 rfl rfl) ?_
 obtain ⟨b1,k1,rfl⟩:=r.f.form
 obtain ⟨b2,k2,rfl⟩:=r.s.form
 have Vm:=V.m
 have lF:=V.lev.1
 refine WL.sr<|WOL.box rfl fun h1 N1=>WOL.box rfl fun h2 N2=>WOL.as rfl<|WOL.nil<|keep [(2,_),(3,_)] ⟨rfl,rfl,trivial⟩ ?_
 have n1:=N1.next
 have n2:=N2.next
 refine WL.sr<|WOL.al tp29 fun h3 N3=>WOL.nil<|keep [(2,_),(3,_),(5,_)] ⟨rfl,rfl,rfl,trivial⟩ ?_
 have n3:=N3.next
 have A2:At h3 h.next (.cells [.string s,zi n,.slice b1 F.length k1,.slice b2 S.length k2] true true 35):=(N1.at_.hx N2.hx).hx N3.hx
 have A3:At h3 h1.next (.cells [zi (sz:Nat)] true true 3):=N2.at_.hx N3.hx
 have A5:=N3.at_
 have X3:=(N1.hx.trans N2.hx).trans N3.hx
 refine WL.seq<|WL.sr<|WOL.ld rfl (load_row tp52 A2 rfl (Nat.le_of_ble_eq_true rfl))<|WOL.ld rfl (load_one tp3 A3 rfl)<|WOL.cl2 rfl rfl rfl ((k1696 (s:=s) (n:=n) (sz:=sz) H (r.hx X3) V.lev (by omega) (by omega) V.in_ (f.on X3)).mono ?_)
 rintro v h4 ⟨X4,c1,c2,c3,d1,d2,b1',b2',k1',k2',ev,rfl,w,e1,e2,e3,e4,e5⟩
 cases ev
 have n4:=X4.next
 have Y4:=X3.trans X4
 refine WOL.nil<|keep [(3,_),(5,_),(9,_)] ⟨rfl,rfl,rfl,trivial⟩ ?_
 refine WL.block ?_
 have kl:(knownL S F.length).length=L.length:=by rw [knownL_len,lF]
 generalize knownL S F.length=B at *
 have w1:=w.a1.lt
 have w2:=w.a2.lt
 have w3:=w.a3.lt
 have w4:=w.al.lt
 have w5:=w.ab.lt
 have lim:=fun j=>win_lim (B:=B) hz hs (lev_getD V.lev) (j*sz)
 refine WL.rangeA rfl (H.fn 197 f1713 rfl rfl) (y1713 (d1:=d1) (d2:=d2) (c1:=c1) (c2:=c2) (c3:=c3) (s:=s) (n:=n) (S:=S) (F:=F) (b1:=b1) (b2:=b2') (k1:=k1) (k2:=k2') H hz hs (by omega) (lev_getD V.lev) kl lF)
  (fun j g=>HX h g∧h4.next+1≤g.next∧(∀ b x,b < h4.next→b≠h2.next→At h4 b x→At g b x)∧∃ u,At g h2.next (.cells [u] true true 49)∧OwnL encI (h4.next+1) g u 3 (idxL L B sz j)) ?_ ?_ ?_ ?_ ?_ ?_ ?_
 ·rintro j g ⟨X,nx,o,u,A,O⟩
  exact ⟨⟨o _ _ (by omega) (by omega) w.a1,o _ _ (by omega) (by omega) w.a2,o _ _ (by omega) (by omega) w.a3,o _ _ (by omega) (by omega) w.al,o _ _ (by omega) (by omega) w.ab⟩,r.f.hx X,f.on X⟩
 ·rintro j g ⟨X,nx,o,u,A,O⟩
  exact (f.hx X).up (by omega)
 ·rintro j g g' x ⟨X,nx,o,u,A,O⟩ p
  exact ⟨p.hx _ X (by omega),by rw [p.next];exact nx,fun b y hb hn a=>p.oth _ _ (by omega) (o b y hb hn a),u,p.oth _ _ (by omega) A,O.keep fun z y hz a=>p.oth _ _ (by have:=O.lt hz;omega) a⟩
 ·rintro j g g' ⟨X,nx,o,u,A,O⟩ x
  exact ⟨X.trans x,by have:=x.next;omega,fun b y hb hn a=>(o b y hb hn a).hx x,u,A.hx x,O.hx x⟩
 ·rintro g x N
  exact ⟨Y4.trans N.hx,by rw [N.next];omega,fun b y hb hn a=>a.hx N.hx,_,(A5.hx X4).hx N.hx,OwnL.nil⟩
 ·rintro j g x hj ⟨X,nx,o,u,A,O⟩ AL
  have l4:=lim j
  have fr:Free0 h4.next g:=(f.hx X).up (by omega)
  obtain ⟨z1,eu⟩:=OwnF.form (Or.inl O)
  have A3g:At g h1.next (.cells [zi (sz:Nat)] true true 3):=o _ _ (by omega) (by omega) (A3.hx X4)
  have eI1:idxL L B sz (j+1)=idxL L B sz j ++ [idx1 sz (momL L B (j*sz) sz)]:=rfl
  have hjl:(idxL L B sz j).length < 1000000:=by
   rw [idxL_len]
   have:=Nat.div_le_self L.length sz
   omega
  generalize momL L B (j*sz) sz=M at *
  obtain ⟨m1,m2,m3⟩:=M
  refine WL.reg<|WOL.al tp1629 fun g1 M1=>WOL.sto (vs:=[zi m1,zi m2,zi m3]) rfl rfl tp1629 M1.at_ rfl rfl (Nat.le_of_ble_eq_true rfl) rfl ((f.on X).hx M1.hx) (Nat.le_refl _) fun g2 P2=>WOL.nil fun r k=>?_
  have q1:=M1.next
  have q2:=P2.next
  have lx:=AL.lt
  have Z2:HX g g2:=P2.hx _ M1.hx (Nat.le_refl _)
  have A6:At g2 g.next (.cells [zi m1,zi m2,zi m3] true true 31):=P2.at_
  refine ⟨rfl,fr.hx Z2,AL.hx Z2,fun g3 x3 P3=>?_⟩
  refine k.go ?_
  have q3:=P3.next
  have A6':=P3.oth _ _ (by omega) A6
  have A3':=P3.oth _ _ (by omega) (A3g.hx Z2)
  have A5':At g3 h2.next (.cells [u] true true 49):=P3.oth _ _ (by omega) (A.hx Z2)
  have O':OwnL encI (h4.next+1) g3 u 3 (idxL L B sz j):=(O.hx Z2).keep fun z y hz a=>P3.oth _ _ (by have:=O.lt hz;omega) a
  have X3':HX h g3:=P3.hx _ (X.trans Z2) (by omega)
  have o3:∀ b y,b < h4.next→b≠h2.next→At h4 b y→At g3 b y:=fun b y hb hn a=>P3.oth _ _ (by omega) ((o b y hb hn a).hx Z2)
  have AL3:=P3.at_
  have f3:Free0 (h4.next+1) g3:=(f.hx X3').up (by omega)
  clear P3 P2 M1
  refine WL.block<|WL.seq<|WL.sr<|WOL.fa rfl (fa_of fo1629_0)<|WOL.ld rfl (load_one tp3 A6' rfl)<|WOL.ld rfl (load_one tp3 A3' rfl) ?_
  by_cases hc:m1 < (sz:Nat)
  ·have ei:idx1 sz (m1,m2,m3)=-1:=by unfold idx1;rw [decide_eq_true hc];rfl
   rw [ei] at eI1
   refine WOL.bt rfl rfl rfl (decide_eq_true hc)<|WOL.nil<|WL.yes rfl<|WL.sr<|WOL.ld rfl (load_one tp29 A5' rfl)<|WOL.bs1 rfl u29 tp3 rfl fun g4 M4=>?_
   have m4:=M4.next
   obtain ⟨w',g5,ap,O5,x5,y5,b5,s5⟩:=own_push (sT:=49) (x:=(-1:Int)) eI u29 tp3 (O'.hx M4.hx) (SlC.own (sz:=1) (m:=1) rfl M4.at_) (f3.hx M4.hx) hjl (by omega)
   obtain ⟨z5,e5'⟩:=OwnF.form (Or.inl O5)
   have lu:=fun z (hz:bl u=some z)=>O'.lt hz
   have A5'':=y5 _ _ (fun e=>by have:=lu _ e;omega) (A5'.hx M4.hx)
   have Xi:=x5 _ (X3'.trans M4.hx) (by omega)
   refine WOL.ap rfl rfl ap<|WOL.sto (vs:=[w']) rfl rfl tp29 A5'' (by rw [e5'];rfl) rfl (Nat.le_of_ble_eq_true rfl) (by rw [e5'];rfl) (f.hx Xi) (by omega) fun g6 M6=>WOL.nil<|WL.exit fun a q=>?_
   have m6:=M6.next
   refine ⟨rfl,⟨M6.hx _ Xi (by omega),by omega,fun b y hb hn a=>M6.oth _ _ hn (y5 _ _ (fun e=>by have:=lu _ e;omega) ((o3 b y hb hn a).hx M4.hx)),w',M6.at_,?_⟩,M6.oth _ _ (by omega) (y5 _ _ (fun e=>by have:=lu _ e;omega) (AL3.hx M4.hx))⟩
   rw [eI1]
   exact O5.keep fun z x hz a=>M6.oth _ _ (by have:=O5.lt hz;omega) a
  ·have ei:idx1 sz (m1,m2,m3)=rnd (m1*m3 - m2*m2) (m1*m1):=by unfold idx1;rw [decide_eq_false hc];rfl
   rw [ei] at eI1
   replace l4:0≤m1∧m1≤256∧m1≤sz∧m2.natAbs≤67108864∧0≤m3∧m3≤1099511627776:=l4
   obtain ⟨l1,l2,l3,l5,l6,l7⟩:=l4
   have p1:=sq_limQ (s:=m2) (k:=67108864) l5
   have p2:=pr_lim (k:=1099511627776) l1 (by omega) l6 l7
   have pc:=sq_limQ (s:=m1) (k:=256) (by omega)
   have pp:0 < m1*m1:=Int.mul_pos (by omega) (by omega)
   refine WOL.bf rfl rfl rfl (decide_eq_false hc)<|WOL.nil<|WL.no rfl<|WL.skip<|WL.reg<|WOL.ld rfl (load_one tp29 A5' rfl)<|WOL.ld rfl (load_row tp1629 A6' rfl (Nat.le_of_ble_eq_true rfl)) ?_
   refine WOL.lk1 rfl rfl fun M=>((k1639r (c:=m1) (z:=m2) (q:=m3) H l1 l2 l5 l6 l7).mono ?_)
   rintro v g4 ⟨rfl,X4'⟩
   replace X4':=X4'.relock
   generalize g4.withLock g3.lock=g4 at *
   refine WOL.ex rfl rfl<|WOL.ex rfl rfl<|WOL.lk2 rfl rfl rfl fun M=>((k103w H (by omega) pp (by omega)).mono ?_)
   rintro v g5 ⟨rfl,rfl⟩
   rw [TH.relock]
   refine WOL.bs1 rfl u29 tp3 rfl fun g6 M4=>?_
   have m4:=M4.next
   have X4g:=X4'.trans M4.hx
   have x4n:=X4g.next
   obtain ⟨w',g5,ap,O5,x5,y5,b5,s5⟩:=own_push (sT:=49) (x:=rnd (m1*m3 - m2*m2) (m1*m1)) eI u29 tp3 (O'.hx X4g) (SlC.own (sz:=1) (m:=1) rfl M4.at_) (f3.hx X4g) hjl (by omega)
   obtain ⟨z5,e5'⟩:=OwnF.form (Or.inl O5)
   have lu:=fun z (hz:bl u=some z)=>O'.lt hz
   have A5'':=y5 _ _ (fun e=>by have:=lu _ e;omega) (A5'.hx X4g)
   have Xi:=x5 _ (X3'.trans X4g) (by omega)
   refine WOL.ap rfl rfl ap<|WOL.sto (vs:=[w']) rfl rfl tp29 A5'' (by rw [e5'];rfl) rfl (Nat.le_of_ble_eq_true rfl) (by rw [e5'];rfl) (f.hx Xi) (by omega) fun g8 M6=>WOL.nil fun a q=>?_
   have m6:=M6.next
   refine ⟨rfl,⟨M6.hx _ Xi (by omega),by omega,fun b y hb hn a=>M6.oth _ _ hn (y5 _ _ (fun e=>by have:=lu _ e;omega) ((o3 b y hb hn a).hx X4g)),w',M6.at_,?_⟩,M6.oth _ _ (by omega) (y5 _ _ (fun e=>by have:=lu _ e;omega) (AL3.hx X4g))⟩
   rw [eI1]
   exact O5.keep fun z x hz a=>M6.oth _ _ (by have:=O5.lt hz;omega) a
 ·rintro g ⟨X,nx,o,u,A,O⟩
  obtain ⟨z1,eu⟩:=OwnF.form (Or.inl O)
  refine WL.sr<|WOL.ld rfl (load_one tp29 A rfl)<|WOL.as rfl<|WOL.nil ?_
  exact WL.ret (WL.end_ rfl ⟨X,O.low (by omega)⟩)
end
end Go.Tidy
namespace Go.Tidy
open Go Go.Proofs Tab
variable {tp:TProg}
def wP (l:List Int):Nat→Nat × Int
 | 0=>(0,-1)
 | k+1=>cond (decide (l.getD k 0 > (wP l k).2)) (k,l.getD k 0) (wP l k)
theorem wP_ok (l:List Int):∀ k:Nat,k≤l.length→(wP l k=(0,-1))∨(0≤(wP l k).2∧(wP l k).1 < k∧l.getD (wP l k).1 0=(wP l k).2)
  | 0,_=>.inl rfl
  | k+1,hk=>by
    have ih:=wP_ok l k (by omega)
    unfold wP
    by_cases c:l.getD k 0 > (wP l k).2
    · rw [decide_eq_true c]
      refine .inr ⟨?_,Nat.lt_succ_self _,rfl⟩
      rcases ih with e | ⟨e,_,_⟩
      · rw [e] at c;simp only [cond_true];omega
      · simp only [cond_true];omega
    · rw [decide_eq_false c]
      rcases ih with e | ⟨e1,e2,e3⟩
      · exact .inl e
      · exact .inr ⟨e1,Nat.lt_succ_of_lt e2,e3⟩
def wA (l:List Int):Int × Int × Int:=cond ((wP l l.length).2 == -1) (0,0,7) (((wP l l.length).1:Nat),(wP l l.length).2,0)
def abL (l:List Int) (y:Int):Nat→List (Int × Int)
 | 0=>[]
 | k+1=>cond (decide (l.getD k 0 > y)) (extS (abL l y k) k) (abL l y k)
theorem extS_lenQ (acc:List (Int × Int)) (i:Nat):(extS acc i).length≤acc.length+1:=by
 unfold extS
 split <;> simp
theorem abL_len {l:List Int} {y:Int}:∀ k,(abL l y k).length≤k
 | 0=>Nat.le_refl _
 | k+1=>by
  unfold abL
  have:=abL_len (l:=l) (y:=y) k
  have:=extS_lenQ (abL l y k) k
  cases decide (l.getD k 0 > y) <;> simp only [cond_true,cond_false] <;> omega
theorem extS_in {T:List (Int × Int)} {k:Nat} (h:∀ p,p ∈ T→0≤p.1∧p.1≤k∧0≤p.2∧p.2≤k):∀ p,p ∈ extS T k→0≤p.1∧p.1≤(k+1:Nat)∧0≤p.2∧p.2≤(k+1:Nat):=by
  intro p hp
  unfold extS at hp
  split at hp
  · rename_i q
    have hm:0 < T.length:=List.length_pos_iff.2 q.1
    rcases List.mem_or_eq_of_mem_set hp with h1 | h1
    · have:=h p h1;omega
    · have:T.getD (T.length - 1) (0,0) ∈ T:=by
        rw [List.getD_eq_getElem?_getD,List.getElem?_eq_getElem (by omega)]
        exact List.getElem_mem _
      have:=h _ this
      subst h1
      simp only
      omega
  · rcases List.mem_append.1 hp with h1 | h1
    · have:=h p h1;omega
    · rw [List.mem_singleton] at h1
      subst h1
      simp only
      omega
theorem abL_in {l:List Int} {y:Int}:∀ k,∀ p,p ∈ abL l y k→0≤p.1∧p.1≤(k:Nat)∧0≤p.2∧p.2≤(k:Nat)
  | 0,p,hp=>by cases hp
  | k+1,p,hp=>by
    unfold abL at hp
    cases hd:decide (l.getD k 0 > y) with
    | true=>rw [hd] at hp;exact extS_in (abL_in k) p hp
    | false =>
      rw [hd] at hp
      have:=abL_in k p hp
      omega
def plS (n:Int) (sz:Nat) (p:Int × Int):Int × Int:=(n+p.1*(sz:Nat),n+p.2*(sz:Nat))
theorem fz2_zero {a b:Int} (h:firstNZ [a,b]=0):a=0∧b=0:=⟨firstNZ_zero h _ (by simp),firstNZ_zero h _ (by simp)⟩
theorem fz3_zero {a b c:Int} (h:firstNZ [a,b,c]=0):a=0∧b=0∧c=0:=⟨firstNZ_zero h _ (by simp),firstNZ_zero h _ (by simp),firstNZ_zero h _ (by simp)⟩
theorem outB_nat {x:Int} (h:outB x 2 256=0):∃ sz:Nat,x=(sz:Nat)∧0 < sz∧sz≤256:=by
 by_cases c:2≤x∧x≤256
 ·exact ⟨x.toNat,by omega,by omega,by omega⟩
 ·rw [outQ_out c] at h;cases h
def ansI (e x:Int) (L:List Int) (B:List Bool):List Int:=cond (e != 0) [] (idxL L B x.toNat (L.length / x.toNat))
section
variable {h:TH} {s:ByteArray} {n x y:Int} {v v1 v2:Value} {F:List Nat} {S:List (Int × Int)} {es L:List Int} {B:List Bool} {sz:Nat}
theorem k1651 (H:Has tp):CallW Tryz.prog tp (.func (.func 85) #[] #[]) #[zi x] h fun v h'=>v=zi (outB x 2 256)∧h'=h:=by
 refine CallW.fnL (H.fn 85 f1651 rfl rfl) ?_
 refine WL.sr<|WOL.as rfl<|WOL.nil ?_
 refine WL.sr<|WOL.mv rfl<|WOL.cl3 rfl rfl rfl rfl ((k72 H _ _ _ _).mono ?_)
 rintro v h' ⟨rfl,rfl⟩
 exact WOL.as rfl<|WOL.nil<|WL.ret (WL.end_ rfl ⟨rfl,rfl⟩)
set_option maxHeartbeats 4000000 in
set_option maxRecDepth 10000 in
theorem k1597 (H:Has tp) (X:HasX tp) (r:RunH h v1 v2 F S) (hE:SErr F es) (hL:firstNZ es=0→Lev F L) (hF:F.length≤900000) (hS:S.length≤900000) (f:Free0 h.next h) :
  CallW Tryz.prog tp (.func (.func 24) #[] #[]) #[runV s n v1 v2,zi x] h fun v h'=>HX h h'∧∃ w,v=.tuple #[w,zi (firstNZ [runE s n F.length S es L,outB x 2 256])]∧OwnL encI h.next h' w 3 (ansI (firstNZ [runE s n F.length S es L,outB x 2 256]) x L (knownL S F.length)):=by
 refine CallW.fnL (H.fn 24 f1597 rfl rfl) ?_
 obtain ⟨b1,k1,rfl⟩:=r.f.form
 obtain ⟨b2,k2,rfl⟩:=r.s.form
 refine WL.sr<|WOL.box rfl fun h1 N1=>WOL.as rfl<|WOL.as rfl<|WOL.nil<|keep [(1,_),(2,_)] ⟨rfl,rfl,trivial⟩ ?_
 have n1:=N1.next
 have A2:At h1 h.next (.cells [.string s,zi n,.slice b1 F.length k1,.slice b2 S.length k2] true true 35):=N1.at_
 refine WL.seq<|WL.sr<|WOL.ld rfl (load_row tp52 A2 rfl (Nat.le_of_ble_eq_true rfl))<|WOL.cl1 rfl rfl ((k41 (s:=s) (n:=n) (es:=es) (L:=L) H X (r.hx N1.hx) hE hL (by omega) (by omega) (f.on N1.hx)).mono ?_)
 rintro v h4 ⟨rfl,X4⟩
 refine WOL.mv rfl<|WOL.cl1 rfl rfl ((k1651 H).mono ?_)
 rintro v h5 ⟨rfl,rfl⟩
 refine WOL.bsl rfl u166 tp30 (by decide) (by decide) (by decide) (filled_ints _ _) fun h6 N6=>?_
 refine WOL.cl1 rfl rfl ((k71 H (l:=[_,_]) N6.at_.get (by simp)).mono ?_)
 rintro v h7 ⟨rfl,rfl⟩
 have Z:=X4.trans N6.hx
 have Y:=N1.hx.trans Z
 have z:=Z.next
 replace A2:=A2.hx Z
 refine WOL.as rfl<|WOL.nil<|keep [(1,_),(2,_),(6,_)] ⟨rfl,rfl,rfl,trivial⟩ ?_
 generalize hEE:firstNZ [runE s n F.length S es L,outB x 2 256]=E
 by_cases e0:E≠0
 ·refine WL.sr<|WOL.mv rfl<|WOL.bt rfl rfl rfl (bne_iff_ne.2 e0)<|WOL.nil<|WL.yes rfl<|WL.sr<|WOL.mv rfl<|WOL.as rfl<|WOL.as rfl<|WOL.nil ?_
  refine WL.ret (WL.end_ rfl ⟨Y,_,rfl,?_⟩)
  unfold ansI
  rw [bne_iff_ne.2 e0]
  exact OwnL.nil
 have e0:E=0:=Classical.not_not.1 e0
 subst e0
 obtain ⟨hR,hx⟩:=fz2_zero hEE
 obtain ⟨sz,rfl,s0,s1⟩:=outB_nat hx
 have vd:=valid_of hL hR
 refine WL.sr<|WOL.mv rfl<|WOL.bf rfl rfl rfl rfl<|WOL.nil<|WL.no rfl<|WL.skip<|keep [(1,_),(2,_)] ⟨rfl,rfl,trivial⟩ ?_
 refine WL.sr<|WOL.ld rfl (load_row tp52 A2 rfl (Nat.le_of_ble_eq_true rfl))<|WOL.mv rfl<|WOL.cl2 rfl rfl rfl ((k1652 (s:=s) (n:=n) (sz:=sz) H (r.hx Y) vd hS s0 s1 (f.on Y)).mono ?_)
 rintro v h8 ⟨X8,O⟩
 exact WOL.as rfl<|WOL.as rfl<|WOL.nil<|WL.ret (WL.end_ rfl ⟨Y.trans X8,_,rfl,O.low (by have:=Y.next;omega)⟩)
def worE (e:Int) (l:List Int):Int × Int × Int:=cond (e != 0) (0,0,e) (wA l)
set_option maxHeartbeats 4000000 in
set_option maxRecDepth 10000 in
theorem k1598 (H:Has tp) (X:HasX tp) (r:RunH h v1 v2 F S) (hE:SErr F es) (hL:firstNZ es=0→Lev F L) (hF:F.length≤900000) (hS:S.length≤900000) (f:Free0 h.next h) :
  CallW Tryz.prog tp (.func (.func 25) #[] #[]) #[runV s n v1 v2,zi x] h fun v h'=>HX h h'∧v=.tuple #[zi (worE (firstNZ [runE s n F.length S es L,outB x 2 256]) (ansI (firstNZ [runE s n F.length S es L,outB x 2 256]) x L (knownL S F.length))).1,zi (worE (firstNZ [runE s n F.length S es L,outB x 2 256]) (ansI (firstNZ [runE s n F.length S es L,outB x 2 256]) x L (knownL S F.length))).2.1,zi (worE (firstNZ [runE s n F.length S es L,outB x 2 256]) (ansI (firstNZ [runE s n F.length S es L,outB x 2 256]) x L (knownL S F.length))).2.2]:=by
 refine CallW.fnL (H.fn 25 f1598 rfl rfl) ?_
 obtain ⟨b1,k1,rfl⟩:=r.f.form
 obtain ⟨b2,k2,rfl⟩:=r.s.form
 refine WL.sr<|WOL.box rfl fun h1 N1=>WOL.as rfl<|WOL.as rfl<|WOL.as rfl<|WOL.nil<|keep [(1,_),(2,_)] ⟨rfl,rfl,trivial⟩ ?_
 have n1:=N1.next
 have A2:At h1 h.next (.cells [.string s,zi n,.slice b1 F.length k1,.slice b2 S.length k2] true true 35):=N1.at_
 refine WL.seq<|WL.sr<|WOL.ld rfl (load_row tp52 A2 rfl (Nat.le_of_ble_eq_true rfl))<|WOL.cl1 rfl rfl ((k41 (s:=s) (n:=n) (es:=es) (L:=L) H X (r.hx N1.hx) hE hL (by omega) (by omega) (f.on N1.hx)).mono ?_)
 rintro v h4 ⟨rfl,X4⟩
 refine WOL.mv rfl<|WOL.cl1 rfl rfl ((k1651 H).mono ?_)
 rintro v h5 ⟨rfl,rfl⟩
 refine WOL.bsl rfl u166 tp30 (by decide) (by decide) (by decide) (filled_ints _ _) fun h6 N6=>?_
 refine WOL.cl1 rfl rfl ((k71 H (l:=[_,_]) N6.at_.get (by simp)).mono ?_)
 rintro v h7 ⟨rfl,rfl⟩
 have Z:=X4.trans N6.hx
 have Y:=N1.hx.trans Z
 have z:=Z.next
 replace A2:=A2.hx Z
 refine WOL.as rfl<|WOL.nil<|keep [(1,_),(2,_),(7,_)] ⟨rfl,rfl,rfl,trivial⟩ ?_
 generalize hEE:firstNZ [runE s n F.length S es L,outB x 2 256]=E
 by_cases e0:E≠0
 ·refine WL.sr<|WOL.mv rfl<|WOL.bt rfl rfl rfl (bne_iff_ne.2 e0)<|WOL.nil<|WL.yes rfl<|WL.sr<|WOL.mv rfl<|WOL.as rfl<|WOL.as rfl<|WOL.as rfl<|WOL.nil ?_
  refine WL.ret (WL.end_ rfl ⟨Y,?_⟩)
  unfold worE
  rw [bne_iff_ne.2 e0]
  rfl
 have e0:E=0:=Classical.not_not.1 e0
 subst e0
 obtain ⟨hR,hx⟩:=fz2_zero hEE
 obtain ⟨sz,rfl,s0,s1⟩:=outB_nat hx
 have vd:=valid_of hL hR
 have vm:=vd.m
 have lE:=vd.lev.1
 refine WL.sr<|WOL.mv rfl<|WOL.bf rfl rfl rfl rfl<|WOL.nil<|WL.no rfl<|WL.skip<|keep [(1,_),(2,_)] ⟨rfl,rfl,trivial⟩ ?_
 refine WL.sr<|WOL.as rfl<|WOL.as rfl<|WOL.nil ?_
 refine WL.seq<|WL.sr<|WOL.ld rfl (load_row tp52 A2 rfl (Nat.le_of_ble_eq_true rfl))<|WOL.mv rfl<|WOL.cl2 rfl rfl rfl ((k1652 (s:=s) (n:=n) (sz:=sz) H (r.hx Y) vd hS s0 s1 (f.on Y)).mono ?_)
 rintro v g ⟨X8,O⟩
 have ea:ansI 0 (sz:Nat) L (knownL S F.length)=idxL L (knownL S F.length) sz (L.length / sz):=rfl
 rw [ea]
 have ll:(idxL L (knownL S F.length) sz (L.length / sz)).length≤4096:=by
  rw [idxL_len];have:=Nat.div_le_self L.length sz;omega
 generalize idxL L (knownL S F.length) sz (L.length / sz)=l at *
 have sl:=O.sl eI
 refine WOL.len rfl sl u29<|WOL.mv rfl<|WOL.nil<|keep [(8,_),(9,_),(23,_),(24,_),(25,_)] ⟨rfl,rfl,rfl,rfl,rfl,trivial⟩ ?_
 refine WL.upto (α:=Unit) l.length (fun j _ g'=>g'=g) (fun j _=>[(8,zi ((wP l j).1:Nat)),(9,zi (wP l j).2),(23,v),(24,zi (l.length:Nat))]) () rfl rfl (by omega) rfl ⟨rfl,rfl,rfl,rfl,rfl,trivial⟩ (fun _ _=>rfl) (fun _ _ _=>⟨rfl,rfl,rfl,rfl,rfl,trivial⟩) (fun _ _ _=>⟨rfl,rfl,rfl,rfl,rfl,trivial⟩) ?_ ?_
 ·rintro j _ g' hj rfl
  have hp:l[j]?=some l[j]:=List.getElem?_eq_getElem hj
  have eg:l.getD j 0=l[j]:=by rw [List.getD_eq_getElem?_getD,hp];rfl
  have es1:wP l (j+1)=cond (decide (l[j] > (wP l j).2)) (j,l[j]) (wP l j):=by rw [← eg];rfl
  generalize l[j]=a at *
  obtain ⟨_,_,_,_,_,_,p1,p2,_,_,p5⟩:=sl.at eI u29 tp3 hp .i64
  have px:=p5 0 (by decide)
  rw [Nat.add_zero] at px
  refine WL.sr<|WOL.mv rfl<|WOL.ix rfl rfl p1<|WOL.ld rfl (load_one tp3 p2 px)<|WOL.as rfl<|WOL.as rfl<|WOL.nil<|keep [(8,_),(9,_),(10,_),(11,_),(23,_),(24,_),(25,_)] ⟨rfl,rfl,rfl,rfl,rfl,rfl,rfl,trivial⟩ ?_
  by_cases c:a > (wP l j).2
  ·rw [decide_eq_true c] at es1
   refine WL.sr<|WOL.mv rfl<|WOL.mv rfl<|WOL.bt rfl rfl rfl (decide_eq_true c)<|WOL.nil<|WL.yes rfl<|WL.reg<|WOL.mv rfl<|WOL.mv rfl<|WOL.as rfl<|WOL.as rfl<|WOL.nil fun b q=>⟨(),rfl,?_⟩
   rw [es1]
   exact q.sub ⟨rfl,rfl,rfl,rfl,rfl,trivial⟩
  ·rw [decide_eq_false c] at es1
   refine WL.sr<|WOL.mv rfl<|WOL.mv rfl<|WOL.bf rfl rfl rfl (decide_eq_false c)<|WOL.nil<|WL.no rfl<|WL.skip fun b q=>⟨(),rfl,?_⟩
   rw [es1]
   exact q.sub ⟨rfl,rfl,rfl,rfl,rfl,trivial⟩
 ·rintro _ g' rfl
  have eT:worE 0 l=wA l:=rfl
  rw [eT]
  unfold wA
  have Yz:=Y.trans X8
  by_cases c:(wP l l.length).2=-1
  ·rw [beq_iff_eq.2 c]
   refine WL.seq<|WL.sr<|WOL.mv rfl<|WOL.bt rfl rfl rfl (beq_iff_eq.2 c)<|WOL.nil<|WL.yes rfl<|WL.sr<|WOL.as rfl<|WOL.as rfl<|WOL.as rfl<|WOL.nil ?_
   exact WL.ret (WL.end_ rfl ⟨Yz,rfl⟩)
  ·rw [beq_eq_false_iff_ne.2 c]
   refine WL.seq<|WL.sr<|WOL.mv rfl<|WOL.bf rfl rfl rfl (beq_eq_false_iff_ne.2 c)<|WOL.nil<|WL.no rfl<|WL.skip<|WL.sr<|WOL.mv rfl<|WOL.mv rfl<|WOL.as rfl<|WOL.as rfl<|WOL.as rfl<|WOL.nil ?_
   exact WL.ret (WL.end_ rfl ⟨Yz,rfl⟩)
end
end Go.Tidy
namespace Go.Tidy
open Go Go.Proofs Tab
variable {tp:TProg}
def abvE (e n x y:Int) (L:List Int) (B:List Bool):List (Int × Int):=cond (e != 0) [] ((abL (idxL L B x.toNat (L.length / x.toNat)) y (L.length / x.toNat)).map (plS n x.toNat))
theorem rep_S:∀ m:Nat,(List.replicate m [zi 0,zi 0]).flatten=cat encS (List.replicate m ((0:Int),(0:Int)))
 | 0=>rfl
 | m+1=>by
  rw [List.replicate_succ,List.flatten_cons,rep_S m,List.replicate_succ,cat_cons]
  rfl
section
variable {h:TH} {s:ByteArray} {n x y:Int} {v v1 v2 fv:Value} {F:List Nat} {S T:List (Int × Int)} {es L:List Int} {B:List Bool} {sz:Nat}
set_option maxHeartbeats 2000000 in
set_option maxRecDepth 10000 in
theorem k1654 (H:Has tp) {c3 c4:Nat} {b1 b2:Option Addr} {m1 m2 k1 k2:Nat} {p:Int × Int} (A3:At h c3 (.cells [.string s,zi n,.slice b1 m1 k1,.slice b2 m2 k2] true true 35)) (A4:At h c4 (.cells [zi (sz:Nat)] true true 3)) (n0:0≤n) (n1:n≤100000000) (hs:sz≤256) (p0:0≤p.1) (p1:p.1≤4096) (p2:0≤p.2) (p3:p.2≤4096) (f:Free0 h.next h) :
  CallW Tryz.prog tp (.func (.func 89) #[] #[ptr c3,ptr c4]) #[.agg #[zi p.1,zi p.2]] h fun v h'=>v=.agg #[zi (plS n sz p).1,zi (plS n sz p).2]∧HX h h':=by
 have q1:=pr_lim (k:=256) p0 p1 (Int.natCast_nonneg sz) (by omega)
 have q2:=pr_lim (k:=256) p2 p3 (Int.natCast_nonneg sz) (by omega)
 refine CallW.fnC (H.fn 89 f1654 rfl rfl) ?_
 refine WL.sr<|WOL.box rfl fun h1 N1=>WOL.al tp48 fun h2 N2=>WOL.nil<|keep [(1,_),(2,_),(3,_),(4,_)] ⟨rfl,rfl,rfl,rfl,trivial⟩ ?_
 have n1':=N1.next
 have n2':=N2.next
 have X2:=N1.hx.trans N2.hx
 have A0:At h2 h.next (.cells [zi p.1,zi p.2] true true 27):=N1.at_.hx N2.hx
 have B3:=A3.hx X2
 have B4:=A4.hx X2
 refine WL.sr<|WOL.fa rfl (fa_of fo52_1)<|WOL.ld rfl (load_one tp3 B3 rfl)<|WOL.fa rfl (fa_of fo48_0)<|WOL.ld rfl (load_one tp3 A0 rfl)<|WOL.ld rfl (load_one tp3 B4 rfl)<|WOL.mul rfl rfl (by omega) (by omega)<|WOL.add rfl rfl (by omega) (by omega)<|WOL.fa rfl (fa_of fo52_1)<|WOL.ld rfl (load_one tp3 B3 rfl)<|WOL.fa rfl (fa_of fo48_1)<|WOL.ld rfl (load_one tp3 A0 rfl)<|WOL.ld rfl (load_one tp3 B4 rfl)<|WOL.mul rfl rfl (by omega) (by omega)<|WOL.add rfl rfl (by omega) (by omega)<|WOL.bd rfl bd48 ?_
 refine WOL.sto (vs:=[zi (n+p.1*(sz:Nat)),zi (n+p.2*(sz:Nat))]) rfl rfl tp48 N2.at_ rfl rfl (Nat.le_of_ble_eq_true rfl) rfl (f.hx X2) (by omega) fun h3 P3=>WOL.nil ?_
 exact WL.ret (WL.endC rfl (load_row tp48 P3.at_ rfl (Nat.le_of_ble_eq_true rfl)) ⟨rfl,P3.hx _ X2 (by omega)⟩)
set_option maxHeartbeats 4000000 in
set_option maxRecDepth 10000 in
theorem k1653 (H:Has tp) (sT:SlL encS 2 h v T) (lT:T.length≤900000) (φ:Int × Int→Int × Int) (hφ:∀ g p,p ∈ T→HX h g→CallW Tryz.prog tp fv #[.agg #[zi p.1,zi p.2]] g fun u g'=>u=.agg #[zi (φ p).1,zi (φ p).2]∧HX g g') (f:Free0 h.next h) :
  CallW Tryz.prog tp (.func (.func 88) #[] #[]) #[v,fv] h fun w h'=>HX h h'∧SlL encS 2 h' w (T.map φ):=by
 refine CallW.fnL (H.fn 88 f1653 rfl rfl) ?_
 refine WL.sr<|WOL.as rfl<|WOL.nil ?_
 have lM:(T.map φ).length=T.length:=List.length_map ..
 refine WL.sr<|WOL.mv rfl<|WOL.len rfl sT u44<|WOL.ms (m:=T.length) rfl rfl u44 tp48 (by decide) (by omega) fun h1 N1=>WOL.as rfl<|WOL.nil<|keep [(0,_),(1,_),(5,_)] ⟨rfl,rfl,rfl,trivial⟩ ?_
 have q1:=N1.next
 have W0:=N1.at_
 rw [rep_S,← lM,← fill_zero (T.map φ)] at W0
 refine WL.seq<|WL.sr<|WOL.mv rfl<|WOL.len rfl (sT.hx N1.hx) u44<|WOL.mv rfl<|WOL.nil<|keep [(1,_),(5,_),(11,_),(12,_),(13,_)] ⟨rfl,rfl,rfl,rfl,rfl,trivial⟩ ?_
 refine WL.upto (α:=Unit) T.length (fun j _ g'=>HX h g'∧h1.next≤g'.next∧At g' h.next (.cells (cat encS ((T.map φ).take j ++ List.replicate ((T.map φ).length - j) (0,0))) true true 27)) (fun _ _=>[(1,fv),(5,.slice (some ⟨h.next,0,none⟩) T.length T.length),(11,v),(12,zi (T.length:Nat))]) () rfl rfl (by omega) ⟨N1.hx,Nat.le_refl _,W0⟩ ⟨rfl,rfl,rfl,rfl,rfl,trivial⟩ (fun _ _=>rfl) (fun _ _ _=>⟨rfl,rfl,rfl,rfl,rfl,trivial⟩) (fun _ _ _=>⟨rfl,rfl,rfl,rfl,rfl,trivial⟩) ?_ ?_
 ·rintro i _ g' hi ⟨X,nx,Wd⟩
  have hp:T[i]?=some T[i]:=List.getElem?_eq_getElem hi
  have hi':i < (T.map φ).length:=by omega
  have hm:T[i] ∈ T:=List.getElem_mem hi
  have em:(T.map φ)[i]=φ T[i]:=List.getElem_map ..
  have fs:=fill_set (T.map φ) ((0:Int),(0:Int)) i hi'
  rw [em] at fs
  generalize T[i]=p at *
  obtain ⟨_,_,cc,fix,wr,el,g1,g2,g3,g4,g5⟩:=(sT.hx X).at eS u44 tp48 hp .i64
  refine WL.sr<|WOL.mv rfl<|WOL.ix rfl rfl g1<|WOL.ld rfl (load_row tp48 g2 g4 g3)<|WOL.al tp48 fun i1 M1=>WOL.as rfl<|WOL.sto (vs:=[zi p.1,zi p.2]) rfl rfl tp48 M1.at_ rfl rfl (Nat.le_of_ble_eq_true rfl) rfl ((f.hx X).hx M1.hx) (by omega) fun i2 P2=>WOL.nil<|keep [(1,_),(5,_),(6,_),(7,_),(11,_),(12,_),(13,_)] ⟨rfl,rfl,rfl,rfl,rfl,rfl,rfl,trivial⟩ ?_
  have m1:=M1.next
  have m2:=P2.next
  have Z2:HX g' i2:=P2.hx _ M1.hx (Nat.le_refl _)
  have A7:At i2 g'.next (.cells [zi p.1,zi p.2] true true 27):=P2.at_
  refine WL.reg<|WOL.mv rfl<|WOL.mv rfl<|WOL.mv rfl<|WOL.ld rfl (load_row tp48 A7 rfl (Nat.le_of_ble_eq_true rfl))<|WOL.cl1 rfl rfl ((hφ _ p hm (X.trans Z2)).mono ?_)
  rintro u i3 ⟨rfl,X3⟩
  have x3:=X3.next
  refine WOL.ix rfl rfl (indexAddr_tp (j:=i) u44 tp48 hi)<|WOL.sto (vs:=encS (φ p)) rfl rfl tp48 ((Wd.hx Z2).hx X3) rfl rfl (by rw [eS.cat_len,fill_len _ _ _ (by omega)];omega) rfl (f.hx ((X.trans Z2).trans X3)) (by omega) fun h5 P5=>WOL.nil fun y k=>⟨(),⟨P5.hx _ ((X.trans Z2).trans X3) (by omega),by rw [P5.next];omega,?_⟩,k.sub ⟨rfl,rfl,rfl,rfl,rfl,trivial⟩⟩
  have:=P5.at_
  rw [Nat.zero_add,eS.set (by rw [fill_len _ _ _ (by omega)];omega),fs] at this
  exact this
 ·rintro _ g' ⟨X,nx,Wd⟩
  rw [← lM,fill_all] at Wd
  refine WL.sr<|WOL.mv rfl<|WOL.as rfl<|WOL.nil<|WL.ret (WL.end_ rfl ⟨X,?_⟩)
  have e:=SlC.own (sz:=2) (m:=T.length) (by rw [eS.cat_len,lM]) Wd
  unfold SlL
  rw [lM]
  exact e
set_option maxHeartbeats 8000000 in
set_option maxRecDepth 10000 in
theorem k1599 (H:Has tp) (X:HasX tp) (r:RunH h v1 v2 F S) (hE:SErr F es) (hL:firstNZ es=0→Lev F L) (hF:F.length≤900000) (hS:S.length≤900000) (f:Free0 h.next h) :
  CallW Tryz.prog tp (.func (.func 26) #[] #[]) #[runV s n v1 v2,zi x,zi y] h fun v h'=>HX h h'∧∃ w,v=.tuple #[w,zi (firstNZ [runE s n F.length S es L,outB x 2 256,outB y 0 268435456])]∧SlL encS 2 h' w (abvE (firstNZ [runE s n F.length S es L,outB x 2 256,outB y 0 268435456]) n x y L (knownL S F.length)):=by
 refine CallW.fnL (H.fn 26 f1599 rfl rfl) ?_
 obtain ⟨b1,k1,rfl⟩:=r.f.form
 obtain ⟨b2,k2,rfl⟩:=r.s.form
 refine WL.sr<|WOL.box rfl fun h1 N1=>WOL.box rfl fun h2 N2=>WOL.as rfl<|WOL.as rfl<|WOL.nil<|keep [(2,_),(3,_),(4,_)] ⟨rfl,rfl,rfl,trivial⟩ ?_
 have n1:=N1.next
 have n2:=N2.next
 have A3:At h2 h.next (.cells [.string s,zi n,.slice b1 F.length k1,.slice b2 S.length k2] true true 35):=N1.at_.hx N2.hx
 have A4:At h2 h1.next (.cells [zi x] true true 3):=N2.at_
 have X2:=N1.hx.trans N2.hx
 refine WL.sr<|WOL.ld rfl (load_row tp52 A3 rfl (Nat.le_of_ble_eq_true rfl))<|WOL.ld rfl (load_one tp3 A4 rfl)<|WOL.mv rfl ?_
 refine WOL.lq1 [h1.next] rfl rfl rfl fun M hM=>((k41 (s:=s) (n:=n) (es:=es) (L:=L) H X ((r.hx X2).relock M) hE hL (by omega) (by omega) ((f.on X2).held hM (fun b hb=>by simp at hb;omega))).mono ?_)
 rintro v h4 ⟨rfl,X4⟩
 replace X4:=X4.relock
 generalize h4.withLock h2.lock=h4 at *
 refine WOL.cl1 rfl rfl ((k1651 H).mono ?_)
 rintro v h5 ⟨rfl,rfl⟩
 refine WOL.cl3 rfl rfl rfl rfl ((k72 H _ _ _ _).mono ?_)
 rintro v h5 ⟨rfl,rfl⟩
 refine WOL.bsl rfl u166 tp30 (by decide) (by decide) (by decide) (filled_ints3 _ _ _) fun h6 N6=>?_
 refine WOL.cl1 rfl rfl ((k71 H (l:=[_,_,_]) N6.at_.get (by simp)).mono ?_)
 rintro v h7 ⟨rfl,rfl⟩
 have Z:=X4.trans N6.hx
 have Y:=X2.trans Z
 have z:=Z.next
 replace A3:=A3.hx Z;replace A4:=A4.hx Z
 refine WOL.as rfl<|WOL.nil<|keep [(2,_),(3,_),(4,_),(8,_)] ⟨rfl,rfl,rfl,rfl,trivial⟩ ?_
 generalize hEE:firstNZ [runE s n F.length S es L,outB x 2 256,outB y 0 268435456]=E
 by_cases e0:E≠0
 ·refine WL.seq<|WL.sr<|WOL.mv rfl<|WOL.bt rfl rfl rfl (bne_iff_ne.2 e0)<|WOL.nil<|WL.yes rfl<|WL.sr<|WOL.mv rfl<|WOL.as rfl<|WOL.as rfl<|WOL.nil ?_
  refine WL.ret (WL.end_ rfl ⟨Y,_,rfl,?_⟩)
  unfold abvE
  rw [bne_iff_ne.2 e0]
  exact SlL.nil
 have e0:E=0:=Classical.not_not.1 e0
 subst e0
 obtain ⟨hR,hx,hy⟩:=fz3_zero hEE
 obtain ⟨sz,rfl,s0,s1⟩:=outB_nat hx
 have vd:=valid_of hL hR
 have vm:=vd.m
 have vn0:=vd.n0
 have vn1:=vd.n1
 have lE:=vd.lev.1
 refine WL.seq<|WL.sr<|WOL.mv rfl<|WOL.bf rfl rfl rfl rfl<|WOL.nil<|WL.no rfl<|WL.skip<|keep [(2,_),(3,_),(4,_)] ⟨rfl,rfl,rfl,trivial⟩ ?_
 refine WL.sr<|WOL.as rfl<|WOL.nil ?_
 refine WL.seq<|WL.sr<|WOL.ld rfl (load_row tp52 A3 rfl (Nat.le_of_ble_eq_true rfl))<|WOL.ld rfl (load_one tp3 A4 rfl)<|WOL.cl2 rfl rfl rfl ((k1652 (s:=s) (n:=n) (sz:=sz) H (r.hx Y) vd hS s0 s1 (f.on Y)).mono ?_)
 rintro v g ⟨X8,O⟩
 have ll0:=idxL_len (L:=L) (B:=knownL S F.length) (sz:=sz) (L.length / sz)
 have dl:=Nat.div_le_self L.length sz
 have ea:abvE 0 n (sz:Nat) y L (knownL S F.length)=(abL (idxL L (knownL S F.length) sz (L.length / sz)) y (idxL L (knownL S F.length) sz (L.length / sz)).length).map (plS n sz):=by
  rw [ll0];rfl
 rw [ea]
 have ll:(idxL L (knownL S F.length) sz (L.length / sz)).length≤4096:=by rw [ll0];omega
 generalize idxL L (knownL S F.length) sz (L.length / sz)=l at *
 have sl:=O.sl eI
 have Yg:=Y.trans X8
 have yg:=Yg.next
 have x8:=X8.next
 replace A3:=A3.hx X8;replace A4:=A4.hx X8
 have l3:=A3.lt
 have l4:=A4.lt
 refine WOL.len rfl sl u29<|WOL.mv rfl<|WOL.nil<|keep [(2,_),(3,_),(4,_),(9,_),(25,_),(26,_),(27,_)] ⟨rfl,rfl,rfl,rfl,rfl,rfl,rfl,trivial⟩ ?_
 refine WL.upto (α:=Value) l.length (fun j u g'=>HX g g'∧OwnL encS g.next g' u 27 (abL l y j)) (fun j u=>[(2,zi y),(3,ptr h.next),(4,ptr h1.next),(9,u),(25,v),(26,zi (l.length:Nat))]) (.slice none 0 0) rfl rfl (by omega) ⟨HX.refl _,OwnL.nil⟩ ⟨rfl,rfl,rfl,rfl,rfl,rfl,rfl,trivial⟩ (fun _ _=>rfl) (fun _ _ _=>⟨rfl,rfl,rfl,rfl,rfl,rfl,rfl,trivial⟩) (fun _ _ _=>⟨rfl,rfl,rfl,rfl,rfl,rfl,rfl,trivial⟩) ?_ ?_
 ·rintro j u g' hj ⟨Xg,Og⟩
  have hp:l[j]?=some l[j]:=List.getElem?_eq_getElem hj
  have eg:l.getD j 0=l[j]:=by rw [List.getD_eq_getElem?_getD,hp];rfl
  have es1:abL l y (j+1)=cond (decide (l[j] > y)) (extS (abL l y j) j) (abL l y j):=by rw [← eg];rfl
  generalize l[j]=a at *
  obtain ⟨_,_,_,_,_,_,p1,p2,_,_,p5⟩:=(sl.hx Xg).at eI u29 tp3 hp .i64
  have px:=p5 0 (by decide)
  rw [Nat.add_zero] at px
  have al:=abL_len (l:=l) (y:=y) j
  refine WL.sr<|WOL.mv rfl<|WOL.ix rfl rfl p1<|WOL.ld rfl (load_one tp3 p2 px)<|WOL.as rfl<|WOL.as rfl<|WOL.nil<|keep [(2,_),(3,_),(4,_),(9,_),(10,_),(11,_),(25,_),(26,_),(27,_)] ⟨rfl,rfl,rfl,rfl,rfl,rfl,rfl,rfl,rfl,trivial⟩ ?_
  by_cases c:a > y
  ·rw [decide_eq_true c] at es1
   refine WL.sr<|WOL.mv rfl<|WOL.mv rfl<|WOL.bt rfl rfl rfl (decide_eq_true c)<|WOL.nil<|WL.yes rfl<|WL.reg<|WOL.mv rfl<|WOL.mv rfl<|WOL.cl2 rfl rfl rfl ((k165 H Og (by omega) (by omega) ((f.hx (Yg.trans Xg)).up (by omega)) Xg.next).mono ?_)
   rintro u' g2 ⟨O2,x2⟩
   refine WOL.as rfl<|WOL.nil fun b q=>⟨u',⟨x2 _ Xg (Nat.le_refl _),?_⟩,q.sub ⟨rfl,rfl,rfl,rfl,rfl,rfl,rfl,trivial⟩⟩
   rw [es1]
   exact O2
  ·rw [decide_eq_false c] at es1
   refine WL.sr<|WOL.mv rfl<|WOL.mv rfl<|WOL.bf rfl rfl rfl (decide_eq_false c)<|WOL.nil<|WL.no rfl<|WL.skip fun b q=>⟨u,⟨Xg,?_⟩,q.sub ⟨rfl,rfl,rfl,rfl,rfl,rfl,rfl,trivial⟩⟩
   rw [es1]
   exact Og
 ·rintro u g' ⟨Xg,Og⟩
  have tin:=abL_in (l:=l) (y:=y) l.length
  have al:=abL_len (l:=l) (y:=y) l.length
  generalize abL l y l.length=T at *
  have Yz:=Yg.trans Xg
  refine WL.sr<|WOL.mv rfl<|WOL.mf rfl<|WOL.cl2 rfl rfl rfl ((k1653 H (Og.sl eS) (by omega) (plS n sz) (fun k p hp Xk=>k1654 (s:=s) (n:=n) (sz:=sz) H ((A3.hx Xg).hx Xk) ((A4.hx Xg).hx Xk) vn0 (by omega) s1 (tin p hp).1 (by have:=(tin p hp).2.1;omega) (tin p hp).2.2.1 (by have:=(tin p hp).2.2.2;omega) (f.on (Yz.trans Xk))) (f.on Yz)).mono ?_)
  rintro w g3 ⟨X9,sw⟩
  exact WOL.as rfl<|WOL.as rfl<|WOL.nil<|WL.ret (WL.end_ rfl ⟨Yz.trans X9,w,rfl,sw⟩)
end
end Go.Tidy
namespace Go.Tidy
open Go Go.Proofs Tab
variable {tp:TProg}
theorem k148v (H:Has tp) {x y:Int} {h:TH} (hx:x.natAbs≤4000000000000000000) (hy:0 < y) (hy2:y≤4000000000000000000):CallW Tryz.prog tp (.func (.func 154) #[] #[]) #[.int .i64 x,.int .i64 y] h fun v h'=>v=.int .i64 (x / y)∧h'=h:=by
 have hq:(x.tdiv y).natAbs≤x.natAbs:=by rw [Int.natAbs_tdiv];exact Nat.div_le_self _ _
 have hm:(x.tdiv y*y).natAbs≤x.natAbs:=by
  rw [Int.natAbs_mul,Int.natAbs_tdiv]
  exact Nat.div_mul_le_self _ _
 have hf:=tdiv_floor (x:=x) hy
 refine CallW.fnL (H.fn 154 f148 rfl rfl) ?_
 refine WL.sr<|WOL.as rfl<|WOL.nil<|keep [(0,_),(1,_)] ⟨rfl,rfl,trivial⟩ ?_
 refine WL.sr<|WOL.mv rfl<|WOL.mv rfl ?_
 refine fun a q=>WO.quoI (q.o rfl) (q.o rfl) (by omega) (q.nx ?_)
 rw [fwrap_i64 (by omega) (by omega)]
 generalize x.tdiv y=z at *
 refine WOL.as rfl<|WOL.nil<|keep [(0,_),(1,_),(5,_)] ⟨rfl,rfl,rfl,trivial⟩ ?_
 refine WL.seq<|WL.sr<|WOL.mv rfl<|WOL.mv rfl<|WOL.mul rfl rfl (by omega) (by omega)<|WOL.mv rfl<|WOL.bi (v:=.bool (decide (z*y > x))) rfl rfl rfl<|WOL.nil<|keep [(5,_),(13,_)] ⟨rfl,rfl,trivial⟩ ?_
 rw [hf]
 cases decide (z*y > x) with
 | true =>
  refine WL.yes rfl<|WL.sr<|WOL.mv rfl<|WOL.sub rfl rfl (by omega) (by omega)<|WOL.as rfl<|WOL.nil<|keep [(4,_)] ⟨rfl,trivial⟩ ?_
  exact WL.ret (WL.end_ rfl ⟨rfl,rfl⟩)
 | false =>
  refine WL.no rfl<|WL.skip<|WL.sr<|WOL.mv rfl<|WOL.as rfl<|WOL.nil<|keep [(4,_)] ⟨rfl,trivial⟩ ?_
  exact WL.ret (WL.end_ rfl ⟨rfl,rfl⟩)
theorem k106v (H:Has tp) {a b:Int} {h:TH} (ha:a.natAbs≤1000000000000000000) (hb:0 < b) (hb2:b≤1000000000000000000):CallW Tryz.prog tp (.func (.func 90) #[] #[]) #[.int .i64 a,.int .i64 b] h fun v h'=>v=.int .i64 (rnd a b)∧h'=h:=by
 refine CallW.fnL (H.fn 90 f106 rfl rfl) ?_
 refine WL.sr<|WOL.as rfl<|WOL.nil<|keep [(0,_),(1,_)] ⟨rfl,rfl,trivial⟩ ?_
 refine WL.sr<|WOL.mv rfl<|WOL.mul rfl rfl (by omega) (by omega)<|WOL.mv rfl<|WOL.add rfl rfl (by omega) (by omega)<|WOL.mv rfl<|WOL.mul rfl rfl (by omega) (by omega) ?_
 refine WOL.cl2 rfl rfl rfl ((k148v H (by omega) (by omega) (by omega)).mono ?_)
 rintro v h' ⟨rfl,rfl⟩
 refine WOL.as rfl<|WOL.nil<|keep [(4,_)] ⟨rfl,trivial⟩ ?_
 exact WL.ret (WL.end_ rfl ⟨rfl,rfl⟩)
section
variable {h:TH} {s:ByteArray} {n x y:Int} {v v1 v2 fv:Value} {F:List Nat} {S T:List (Int × Int)} {es L:List Int} {B:List Bool} {sz:Nat}
set_option maxHeartbeats 8000000 in
set_option maxRecDepth 10000 in
theorem k1600 (H:Has tp) (r:RunH h v1 v2 F S) (V:Valid s n F S L) (hS:S.length≤900000) (hz:0 < sz) (hs:sz≤256) (f:Free0 h.next h) :
  CallW Tryz.prog tp (.func (.func 28) #[] #[]) #[runV s n v1 v2,zi (sz:Nat)] h fun v h'=>HX h h'∧OwnL encI h.next h' v 3 (idxL L (knownL S F.length) sz (L.length / sz)):=by
 refine CallW.fnL (H.fn 28 f1600 rfl rfl) ?_
 obtain ⟨b1,k1,rfl⟩:=r.f.form
 obtain ⟨b2,k2,rfl⟩:=r.s.form
 have Vm:=V.m
 have V0:=V.n0
 have V1:=V.n1
 have lF:=V.lev.1
 refine WL.sr<|WOL.box rfl fun h1 N1=>WOL.as rfl<|WOL.nil<|keep [(1,_),(2,_)] ⟨rfl,rfl,trivial⟩ ?_
 have n1:=N1.next
 have A2:At h1 h.next (.cells [.string s,zi n,.slice b1 F.length k1,.slice b2 S.length k2] true true 25):=N1.at_
 refine WL.sr<|WOL.as rfl<|WOL.nil ?_
 obtain ⟨B,hB⟩:∃ B,knownL S F.length=B:=⟨_,rfl⟩
 rw [hB]
 have lim:=fun j=>win_lim (B:=B) hz hs (lev_getD V.lev) (j*sz)
 refine WL.seq<|WL.sr<|WOL.as rfl<|WOL.nil ?_
 refine WL.fori (α:=Value) (L.length / sz) (fun j u g=>HX h1 g∧OwnL encI h1.next g u 3 (idxL L B sz j)) (fun j u=>[(1,zi (sz:Nat)),(2,ptr h.next),(5,u),(6,zi (j:Nat))]) (fun j u=>[(1,zi (sz:Nat)),(2,ptr h.next),(5,u),(6,zi (j:Nat))]) (.slice none 0 0) ⟨HX.refl _,OwnL.nil⟩ ⟨rfl,rfl,rfl,rfl,trivial⟩ ?_ ?_ (fun _ _ _=>⟨rfl,rfl,rfl,rfl,trivial⟩) ?_ ?_
 ·rintro j u g hj ⟨X,O⟩
  have hw:=win_le hj
  have e:(j+1)*sz=j*sz+sz:=Nat.succ_mul ..
  refine WOL.mv rfl<|WOL.inc rfl (by have:=Nat.div_le_self L.length sz;omega)<|WOL.mv rfl<|WOL.mulN rfl rfl (by omega)<|WOL.fa rfl (fa_of fo46_2)<|WOL.ld rfl (load_one tp43 (A2.hx X) rfl)<|WOL.len rfl (r.f.hx (N1.hx.trans X)) u43<|WOL.bi (v:=.bool (decide (j < L.length / sz))) rfl rfl ?_<|WOL.nil fun a q=>⟨rfl,q.sub ⟨rfl,rfl,rfl,rfl,rfl,trivial⟩⟩
  show some (Value.bool (decide ((((j+1)*sz:Nat):Int)≤(F.length:Int))))=_
  rw [show decide ((((j+1)*sz:Nat):Int)≤(F.length:Int))=decide (j < L.length / sz) from decide_eq_decide.2 (by rw [win_lt hz];omega)]
 ·rintro j u g hj q1
  exact WOL.mv rfl<|WOL.inc rfl (by have:=Nat.div_le_self L.length sz;omega)<|WOL.as rfl<|WOL.nil fun a q=>⟨q1,q.sub ⟨rfl,rfl,rfl,rfl,trivial⟩⟩
 ·rintro j u g hj ⟨X,O⟩
  have hw:=(win_lt hz).1 hj
  have e:(j+1)*sz=j*sz+sz:=Nat.succ_mul ..
  have hd:=Nat.div_le_self L.length sz
  have l4:=lim j
  have Xh:=N1.hx.trans X
  have xg:=X.next
  have eI1:idxL L B sz (j+1)=idxL L B sz j ++ [idx1 sz (momL L B (j*sz) sz)]:=rfl
  have hjl:(idxL L B sz j).length < 1000000:=by rw [idxL_len];omega
  refine WL.sr<|WOL.ld rfl (load_row tp46 (A2.hx X) rfl (Nat.le_of_ble_eq_true rfl))<|WOL.fa rfl (fa_of fo46_1)<|WOL.ld rfl (load_one tp3 (A2.hx X) rfl)<|WOL.mv rfl<|WOL.mv rfl<|WOL.mulN rfl rfl (by omega)<|WOL.add rfl rfl (by omega) (by omega)<|WOL.fa rfl (fa_of fo46_1)<|WOL.ld rfl (load_one tp3 (A2.hx X) rfl)<|WOL.mv rfl<|WOL.inc rfl (by omega)<|WOL.mv rfl<|WOL.mulN rfl rfl (by omega)<|WOL.add rfl rfl (by omega) (by omega)<|WOL.bd rfl bd48 ?_
  rw [show n+(((j+1)*sz:Nat):Int)=n+((j*sz:Nat):Int)+(sz:Nat) by rw [e];omega]
  refine WOL.cl2 rfl rfl rfl ((k1596 (s:=s) (n:=n) (x:=j*sz) (N:=sz) H (r.hx Xh) V hS (by omega) (f.on Xh)).mono ?_)
  rintro v g1 ⟨rfl,X1⟩
  rw [hB]
  have x1:=X1.next
  generalize momL L B (j*sz) sz=M at *
  obtain ⟨m1,m2,m3⟩:=M
  replace l4:0≤m1∧m1≤256∧m1≤sz∧m2.natAbs≤67108864∧0≤m3∧m3≤1099511627776:=l4
  obtain ⟨l1,l2,l3,l5,l6,l7⟩:=l4
  refine WOL.al tp1628 fun g2 M2=>WOL.sto (vs:=[zi m1,zi m2,zi m3]) rfl rfl tp1628 M2.at_ rfl rfl (Nat.le_of_ble_eq_true rfl) rfl ((f.on (Xh.trans X1)).hx M2.hx) (Nat.le_refl _) fun g3 P3=>WOL.nil<|keep [(1,_),(2,_),(5,_),(6,_),(7,_)] ⟨rfl,rfl,rfl,rfl,rfl,trivial⟩ ?_
  have Z3:HX g g3:=X1.trans (P3.hx _ M2.hx (Nat.le_refl _))
  have A7:At g3 g1.next (.cells [zi m1,zi m2,zi m3] true true 38):=P3.at_
  have X3:=X.trans Z3
  have x3:=X3.next
  have O3:=O.hx Z3
  have f3:Free0 h1.next g3:=(f.hx (N1.hx.trans X3)).up (by omega)
  refine WL.seq<|WL.sr<|WOL.fa rfl (fa_of fo1628_0)<|WOL.ld rfl (load_one tp3 A7 rfl)<|WOL.mv rfl ?_
  by_cases hc:m1 < (sz:Nat)
  ·have ei:idx1 sz (m1,m2,m3)=-1:=by unfold idx1;rw [decide_eq_true hc];rfl
   rw [ei] at eI1
   refine WOL.bt rfl rfl rfl (decide_eq_true hc)<|WOL.nil<|WL.yes rfl<|WL.sr<|WOL.mv rfl<|WOL.bs1 rfl u29 tp3 rfl fun g4 M4=>?_
   have m4:=M4.next
   obtain ⟨w',g5,ap,O5,x5,y5,b5,s5⟩:=own_push (sT:=49) (x:=(-1:Int)) eI u29 tp3 (O3.hx M4.hx) (SlC.own (sz:=1) (m:=1) rfl M4.at_) (f3.hx M4.hx) hjl (by omega)
   refine WOL.ap rfl rfl ap<|WOL.as rfl<|WOL.nil<|WL.exit fun a q=>⟨w',⟨x5 _ (X3.trans M4.hx) (Nat.le_refl _),?_⟩,q.sub ⟨rfl,rfl,rfl,rfl,trivial⟩⟩
   rw [eI1]
   exact O5
  ·have ei:idx1 sz (m1,m2,m3)=rnd (m1*m3 - m2*m2) (m1*m1):=by unfold idx1;rw [decide_eq_false hc];rfl
   rw [ei] at eI1
   have p1:=sq_limQ (s:=m2) (k:=67108864) l5
   have p2:=pr_lim (k:=1099511627776) l1 (by omega) l6 l7
   have pc:=sq_limQ (s:=m1) (k:=256) (by omega)
   have pp:0 < m1*m1:=Int.mul_pos (by omega) (by omega)
   refine WOL.bf rfl rfl rfl (decide_eq_false hc)<|WOL.nil<|WL.no rfl<|WL.skip<|WL.reg<|WOL.mv rfl<|WOL.fa rfl (fa_of fo1628_0)<|WOL.ld rfl (load_one tp3 A7 rfl)<|WOL.fa rfl (fa_of fo1628_2)<|WOL.ld rfl (load_one tp3 A7 rfl)<|WOL.mul rfl rfl (by omega) (by omega)<|WOL.fa rfl (fa_of fo1628_1)<|WOL.ld rfl (load_one tp3 A7 rfl)<|WOL.fa rfl (fa_of fo1628_1)<|WOL.ld rfl (load_one tp3 A7 rfl)<|WOL.mul rfl rfl (by omega) (by omega)<|WOL.sub rfl rfl (by omega) (by omega) ?_
   refine WOL.fa rfl (fa_of fo1628_0)<|WOL.ld rfl (load_one tp3 A7 rfl)<|WOL.fa rfl (fa_of fo1628_0)<|WOL.ld rfl (load_one tp3 A7 rfl)<|WOL.mul rfl rfl (by omega) (by omega)<|WOL.cl2 rfl rfl rfl ((k106v H (by omega) pp (by omega)).mono ?_)
   rintro v g4 ⟨rfl,rfl⟩
   refine WOL.bs1 rfl u29 tp3 rfl fun g4 M4=>?_
   have m4:=M4.next
   obtain ⟨w',g5,ap,O5,x5,y5,b5,s5⟩:=own_push (sT:=49) (x:=rnd (m1*m3 - m2*m2) (m1*m1)) eI u29 tp3 (O3.hx M4.hx) (SlC.own (sz:=1) (m:=1) rfl M4.at_) (f3.hx M4.hx) hjl (by omega)
   refine WOL.ap rfl rfl ap<|WOL.as rfl<|WOL.nil fun a q=>⟨w',⟨x5 _ (X3.trans M4.hx) (Nat.le_refl _),?_⟩,q.sub ⟨rfl,rfl,rfl,rfl,trivial⟩⟩
   rw [eI1]
   exact O5
 ·rintro u g ⟨X,O⟩
  refine WL.sr<|WOL.mv rfl<|WOL.as rfl<|WOL.nil ?_
  exact WL.ret (WL.end_ rfl ⟨N1.hx.trans X,O.low (by omega)⟩)
def atP (l:List Int) (k:Nat):Int:=cond ((wP l k).2 == -1) (-1) ((wP l k).1:Nat)
set_option maxHeartbeats 8000000 in
set_option maxRecDepth 10000 in
theorem k1601 (H:Has tp) (r:RunH h v1 v2 F S) (V:Valid s n F S L) (hS:S.length≤900000) (hz:0 < sz) (hs:sz≤256) (f:Free0 h.next h) :
    CallW Tryz.prog tp (.func (.func 29) #[] #[]) #[runV s n v1 v2,zi (sz:Nat)] h fun v h'=>HX h h'∧v=.tuple #[zi (wA (idxL L (knownL S F.length) sz (L.length / sz))).1,zi (wA (idxL L (knownL S F.length) sz (L.length / sz))).2.1,zi (wA (idxL L (knownL S F.length) sz (L.length / sz))).2.2]:=by
  refine CallW.fnL (H.fn 29 f1601 rfl rfl) ?_
  obtain ⟨b1,k1,rfl⟩:=r.f.form
  obtain ⟨b2,k2,rfl⟩:=r.s.form
  have Vm:=V.m
  have lF:=V.lev.1
  refine WL.sr<|WOL.box rfl fun h1 N1=>WOL.as rfl<|WOL.as rfl<|WOL.as rfl<|WOL.nil<|keep [(1,_),(2,_)] ⟨rfl,rfl,trivial⟩ ?_
  have n1:=N1.next
  have A2:At h1 h.next (.cells [.string s,zi n,.slice b1 F.length k1,.slice b2 S.length k2] true true 25):=N1.at_
  refine WL.sr<|WOL.ld rfl (load_row tp46 A2 rfl (Nat.le_of_ble_eq_true rfl))<|WOL.mv rfl<|WOL.cl2 rfl rfl rfl ((k1600 (s:=s) (n:=n) (sz:=sz) H (r.hx N1.hx) V hS hz hs (f.on N1.hx)).mono ?_)
  rintro v g ⟨X8,O⟩
  have ll:(idxL L (knownL S F.length) sz (L.length / sz)).length≤4096:=by
    rw [idxL_len];have:=Nat.div_le_self L.length sz;omega
  generalize idxL L (knownL S F.length) sz (L.length / sz)=l at *
  have sl:=O.sl eI
  have Yg:=N1.hx.trans X8
  refine WOL.as rfl<|WOL.nil<|keep [(7,_)] ⟨rfl,trivial⟩ ?_
  refine WL.sr<|WOL.as rfl<|WOL.nil ?_
  refine WL.seq<|WL.sr<|WOL.as rfl<|WOL.nil ?_
  refine WL.forz (α:=Unit) l.length (fun j _ g'=>g'=g) (fun j _=>[(7,v),(8,zi (atP l j)),(9,zi (j:Nat))]) (fun j _=>[(7,v),(8,zi (atP l (j+1))),(9,zi (j:Nat))]) () rfl ⟨rfl,rfl,rfl,trivial⟩ ?_ ?_ (fun _ _ _=>⟨rfl,rfl,rfl,trivial⟩) ?_ ?_
  · rintro j _ g' hj rfl
    exact WOL.mv rfl<|WOL.mv rfl<|WOL.len rfl sl u29<|WOL.bi rfl rfl rfl<|WOL.nil fun a q=>⟨rfl,q.sub ⟨rfl,rfl,rfl,rfl,trivial⟩⟩
  · rintro j _ g' hj rfl
    exact WOL.mv rfl<|WOL.inc rfl (by omega)<|WOL.as rfl<|WOL.nil fun a q=>⟨rfl,q.sub ⟨rfl,rfl,rfl,trivial⟩⟩
  · rintro j _ g' hj rfl
    have hp:l[j]?=some l[j]:=List.getElem?_eq_getElem hj
    have eg:l.getD j 0=l[j]:=by rw [List.getD_eq_getElem?_getD,hp];rfl
    have es1:wP l (j+1)=cond (decide (l[j] > (wP l j).2)) (j,l[j]) (wP l j):=by rw [← eg];rfl
    have wo:=wP_ok l j (by omega)
    generalize l[j]=a at *
    obtain ⟨_,_,_,_,_,_,p1,p2,_,_,p5⟩:=sl.at eI u29 tp3 hp .i64
    have px:=p5 0 (by decide)
    rw [Nat.add_zero] at px
    have keep:¬ a > (wP l j).2→atP l (j+1)=atP l j:=fun c=>by
      unfold atP;rw [es1,decide_eq_false c];rfl
    have new:a > (wP l j).2→0≤a→atP l (j+1)=(j:Nat):=fun c c0=>by
      unfold atP;rw [es1,decide_eq_true c]
      show cond (a == -1) _ _=_
      rw [beq_eq_false_iff_ne.2 (by omega)];rfl
    refine WL.sr<|WOL.mv rfl<|WOL.mv rfl<|WOL.ix rfl rfl p1<|WOL.ld rfl (load_one tp3 p2 px) ?_
    by_cases c0:a ≥ 0
    · refine WOL.bt rfl rfl rfl (decide_eq_true c0)<|WOL.mv rfl<|WOL.now (b:=true) rfl rfl<|WOL.mv rfl<|WOL.now (b:=true) rfl rfl ?_
      rcases wo with e | ⟨e1,e2,e3⟩
      · have ea:atP l j=-1:=by unfold atP;rw [e];rfl
        rw [ea]
        refine WOL.bt rfl rfl rfl rfl<|WOL.now (b:=true) rfl rfl<|WOL.mv rfl<|WOL.skp (b:=true) rfl rfl<|WOL.skp (b:=true) rfl rfl<|WOL.skp (b:=true) rfl rfl<|WOL.skp (b:=true) rfl rfl<|WOL.skp (b:=true) rfl rfl<|WOL.skp (b:=true) rfl rfl<|WOL.skp (b:=true) rfl rfl<|WOL.skp (b:=true) rfl rfl<|WOL.skp (b:=true) rfl rfl<|WOL.now (b:=true) rfl rfl<|WOL.pkt rfl rfl<|WOL.pkt rfl rfl<|WOL.nil ?_
        refine WL.yes rfl<|WL.reg<|WOL.mv rfl<|WOL.as rfl<|WOL.nil fun b q=>⟨(),rfl,?_⟩
        rw [new (by rw [e];show a > -1;omega) c0]
        exact q.sub ⟨rfl,rfl,rfl,trivial⟩
      · have ea:atP l j=((wP l j).1:Nat):=by unfold atP;rw [beq_eq_false_iff_ne.2 (by omega)];rfl
        have hq:l[(wP l j).1]?=some (wP l j).2:=by
          rw [← e3,List.getD_eq_getElem?_getD,List.getElem?_eq_getElem (by omega)];rfl
        obtain ⟨_,_,_,_,_,_,r1,r2,_,_,r5⟩:=sl.at eI u29 tp3 hq .i64
        have rx:=r5 0 (by decide)
        rw [Nat.add_zero] at rx
        rw [ea]
        refine WOL.bf rfl rfl rfl (decide_eq_false (by omega))<|WOL.now (b:=true) rfl rfl<|WOL.mv rfl<|WOL.now (b:=false) rfl rfl<|WOL.mv rfl<|WOL.now (b:=false) rfl rfl<|WOL.mv rfl<|WOL.now (b:=false) rfl rfl<|WOL.ix rfl rfl p1<|WOL.now (b:=false) rfl rfl<|WOL.ld rfl (load_one tp3 p2 px)<|WOL.now (b:=false) rfl rfl<|WOL.mv rfl<|WOL.now (b:=false) rfl rfl<|WOL.mv rfl<|WOL.now (b:=false) rfl rfl<|WOL.ix rfl rfl r1<|WOL.now (b:=false) rfl rfl<|WOL.ld rfl (load_one tp3 r2 rx)<|WOL.now (b:=false) rfl rfl ?_
        by_cases c1:a > (wP l j).2
        · refine WOL.bt rfl rfl rfl (decide_eq_true c1)<|WOL.now (b:=true) rfl rfl<|WOL.pkf rfl rfl<|WOL.pkt rfl rfl<|WOL.nil<|WL.yes rfl<|WL.reg<|WOL.mv rfl<|WOL.as rfl<|WOL.nil fun b q=>⟨(),rfl,?_⟩
          rw [new c1 c0]
          exact q.sub ⟨rfl,rfl,rfl,trivial⟩
        · refine WOL.bf rfl rfl rfl (decide_eq_false c1)<|WOL.now (b:=true) rfl rfl<|WOL.pkf rfl rfl<|WOL.pkt rfl rfl<|WOL.nil<|WL.no rfl<|WL.skip fun b q=>⟨(),rfl,?_⟩
          rw [keep c1,ea]
          exact q.sub ⟨rfl,rfl,rfl,trivial⟩
    · have c1:¬ a > (wP l j).2:=by
        rcases wo with e | ⟨e1,_,_⟩
        · rw [e];show ¬ a > -1;omega
        · omega
      refine WOL.bf rfl rfl rfl (decide_eq_false c0)<|WOL.mv rfl<|WOL.skp (b:=false) rfl rfl<|WOL.skp (b:=false) rfl rfl<|WOL.skp (b:=false) rfl rfl<|WOL.gu rfl rfl<|WOL.gu rfl rfl<|WOL.gu rfl rfl<|WOL.gu rfl rfl<|WOL.gu rfl rfl<|WOL.gu rfl rfl<|WOL.gu rfl rfl<|WOL.gu rfl rfl<|WOL.gu rfl rfl<|WOL.skp (b:=false) rfl rfl<|WOL.pkf rfl rfl<|WOL.nil<|WL.no rfl<|WL.skip fun b q=>⟨(),rfl,?_⟩
      rw [keep c1]
      exact q.sub ⟨rfl,rfl,rfl,trivial⟩
  · rintro _ g' rfl
    have wo:=wP_ok l l.length (Nat.le_refl _)
    unfold wA
    rcases wo with e | ⟨e1,e2,e3⟩
    · have ea:atP l l.length=-1:=by unfold atP;rw [e];rfl
      rw [ea,e]
      refine WL.seq<|WL.sr<|WOL.mv rfl<|WOL.bt rfl rfl rfl rfl<|WOL.nil<|WL.yes rfl<|WL.sr<|WOL.as rfl<|WOL.as rfl<|WOL.as rfl<|WOL.nil ?_
      exact WL.ret (WL.end_ rfl ⟨Yg,rfl⟩)
    · have nz:((wP l l.length).2 == -1)=false:=beq_eq_false_iff_ne.2 (by omega)
      have ea:atP l l.length=((wP l l.length).1:Nat):=by unfold atP;rw [nz];rfl
      have hq:l[(wP l l.length).1]?=some (wP l l.length).2:=by
        rw [← e3,List.getD_eq_getElem?_getD,List.getElem?_eq_getElem (by omega)];rfl
      obtain ⟨_,_,_,_,_,_,r1,r2,_,_,r5⟩:=sl.at eI u29 tp3 hq .i64
      have rx:=r5 0 (by decide)
      rw [Nat.add_zero] at rx
      rw [ea,nz]
      refine WL.seq<|WL.sr<|WOL.mv rfl<|WOL.bf rfl rfl rfl (decide_eq_false (by omega))<|WOL.nil<|WL.no rfl<|WL.skip<|WL.sr<|WOL.mv rfl<|WOL.mv rfl<|WOL.mv rfl<|WOL.ix rfl rfl r1<|WOL.ld rfl (load_one tp3 r2 rx)<|WOL.as rfl<|WOL.as rfl<|WOL.as rfl<|WOL.nil ?_
      exact WL.ret (WL.end_ rfl ⟨Yg,rfl⟩)
end
end Go.Tidy
namespace Go.Tidy
open Go Go.Proofs Tab
variable {tp:TProg}
theorem pl_new {n:Int} {sz j:Nat}:plS n sz ((j:Int),(j:Int)+1)=(n+((j*sz:Nat):Int),n+(((j+1)*sz:Nat):Int)):=by
 unfold plS
 rw [Int.natCast_mul,Int.natCast_mul,Int.natCast_add]
 rfl
theorem pl_push {T:List (Int × Int)} {n:Int} {sz j:Nat} (h:¬ (T≠[]∧(T.getD (T.length - 1) (0,0)).2=(j:Nat))):(extS T j).map (plS n sz)=T.map (plS n sz) ++ [(n+((j*sz:Nat):Int),n+(((j+1)*sz:Nat):Int))]:=by
 unfold extS
 rw [if_neg h,List.map_append,List.map_singleton,pl_new]
theorem pl_set {T:List (Int × Int)} {n:Int} {sz j:Nat} (h:T≠[]∧(T.getD (T.length - 1) (0,0)).2=(j:Nat)):(extS T j).map (plS n sz)=(T.map (plS n sz)).set (T.length - 1) ((plS n sz (T.getD (T.length - 1) (0,0))).1,n+(((j+1)*sz:Nat):Int)):=by
 unfold extS
 rw [if_pos h,List.map_set]
 congr 1
section
variable {h:TH} {s:ByteArray} {n x y:Int} {v v1 v2 fv:Value} {F:List Nat} {S T:List (Int × Int)} {es L:List Int} {B:List Bool} {sz:Nat}
set_option maxHeartbeats 8000000 in
set_option maxRecDepth 10000 in
theorem k1602 (H:Has tp) (r:RunH h v1 v2 F S) (V:Valid s n F S L) (hS:S.length≤900000) (hz:0 < sz) (hs:sz≤256) (f:Free0 h.next h) :
    CallW Tryz.prog tp (.func (.func 30) #[] #[]) #[runV s n v1 v2,zi (sz:Nat),zi y] h fun v h'=>HX h h'∧SlL encS 2 h' v ((abL (idxL L (knownL S F.length) sz (L.length / sz)) y (L.length / sz)).map (plS n sz)):=by
  refine CallW.fnL (H.fn 30 f1602 rfl rfl) ?_
  obtain ⟨b1,k1,rfl⟩:=r.f.form
  obtain ⟨b2,k2,rfl⟩:=r.s.form
  have Vm:=V.m
  have V0:=V.n0
  have V1:=V.n1
  have lF:=V.lev.1
  have ll0:=idxL_len (L:=L) (B:=knownL S F.length) (sz:=sz) (L.length / sz)
  have ll:(idxL L (knownL S F.length) sz (L.length / sz)).length≤4096:=by rw [ll0];have:=Nat.div_le_self L.length sz;omega
  refine WL.sr<|WOL.box rfl fun h1 N1=>WOL.as rfl<|WOL.nil<|keep [(1,_),(2,_),(3,_)] ⟨rfl,rfl,rfl,trivial⟩ ?_
  have n1:=N1.next
  have A3:At h1 h.next (.cells [.string s,zi n,.slice b1 F.length k1,.slice b2 S.length k2] true true 25):=N1.at_
  refine WL.sr<|WOL.as rfl<|WOL.nil ?_
  refine WL.sr<|WOL.ld rfl (load_row tp46 A3 rfl (Nat.le_of_ble_eq_true rfl))<|WOL.mv rfl<|WOL.cl2 rfl rfl rfl ((k1600 (s:=s) (n:=n) (sz:=sz) H (r.hx N1.hx) V hS hz hs (f.on N1.hx)).mono ?_)
  rintro v g0 ⟨X8,O⟩
  have ea:abL (idxL L (knownL S F.length) sz (L.length / sz)) y (L.length / sz)=abL (idxL L (knownL S F.length) sz (L.length / sz)) y (idxL L (knownL S F.length) sz (L.length / sz)).length:=by rw [ll0]
  rw [ea]
  clear ea ll0
  generalize idxL L (knownL S F.length) sz (L.length / sz)=l at *
  have sl:=O.sl eI
  have Yg:=N1.hx.trans X8
  have yg:=Yg.next
  replace A3:=A3.hx X8
  refine WOL.as rfl<|WOL.nil<|keep [(1,_),(2,_),(3,_),(7,_),(8,_)] ⟨rfl,rfl,rfl,rfl,rfl,trivial⟩ ?_
  refine WL.seq<|WL.sr<|WOL.as rfl<|WOL.nil ?_
  refine WL.forz (α:=Value) l.length (fun j u g=>HX g0 g∧OwnL encS g0.next g u 27 ((abL l y j).map (plS n sz))) (fun j u=>[(1,zi (sz:Nat)),(2,zi y),(3,ptr h.next),(7,u),(8,v),(9,zi (j:Nat))]) (fun j u=>[(1,zi (sz:Nat)),(2,zi y),(3,ptr h.next),(7,u),(8,v),(9,zi (j:Nat))]) (.slice none 0 0) ⟨HX.refl _,OwnL.nil⟩ ⟨rfl,rfl,rfl,rfl,rfl,rfl,trivial⟩ ?_ ?_ (fun _ _ _=>⟨rfl,rfl,rfl,rfl,rfl,rfl,trivial⟩) ?_ ?_
  · rintro j u g hj ⟨X,O⟩
    exact WOL.mv rfl<|WOL.mv rfl<|WOL.len rfl (sl.hx X) u29<|WOL.bi rfl rfl rfl<|WOL.nil fun a q=>⟨rfl,q.sub ⟨rfl,rfl,rfl,rfl,rfl,rfl,rfl,trivial⟩⟩
  · rintro j u g hj q1
    exact WOL.mv rfl<|WOL.inc rfl (by omega)<|WOL.as rfl<|WOL.nil fun a q=>⟨q1,q.sub ⟨rfl,rfl,rfl,rfl,rfl,rfl,trivial⟩⟩
  · rintro j u g hj ⟨X,O⟩
    have hp:l[j]?=some l[j]:=List.getElem?_eq_getElem hj
    have eg:l.getD j 0=l[j]:=by rw [List.getD_eq_getElem?_getD,hp];rfl
    have es1:abL l y (j+1)=cond (decide (l[j] > y)) (extS (abL l y j) j) (abL l y j):=by rw [← eg];rfl
    generalize l[j]=a at *
    obtain ⟨_,_,_,_,_,_,p1,p2,_,_,p5⟩:=(sl.hx X).at eI u29 tp3 hp .i64
    have px:=p5 0 (by decide)
    rw [Nat.add_zero] at px
    have al:=abL_len (l:=l) (y:=y) j
    generalize abL l y j=T at *
    have jm:j*sz≤4096*256:=Nat.mul_le_mul (by omega) hs
    have jm1:(j+1)*sz≤4096*256:=Nat.mul_le_mul (by omega) hs
    refine WL.seq<|WL.sr<|WOL.mv rfl<|WOL.mv rfl<|WOL.ix rfl rfl p1<|WOL.ld rfl (load_one tp3 p2 px)<|WOL.mv rfl ?_
    by_cases c:a≤y
    · rw [decide_eq_false (by omega)] at es1
      refine WOL.bt rfl rfl rfl (decide_eq_true c)<|WOL.nil<|WL.yes rfl<|WL.exit fun b q=>⟨u,⟨X,?_⟩,q.sub ⟨rfl,rfl,rfl,rfl,rfl,rfl,trivial⟩⟩
      rw [es1]
      exact O
    rw [decide_eq_true (by omega)] at es1
    replace es1:abL l y (j+1)=extS T j:=es1
    have Ax:=A3.hx X
    have Xh:=Yg.trans X
    have xg:=X.next
    refine WOL.bf rfl rfl rfl (decide_eq_false c)<|WOL.nil<|WL.no rfl<|WL.skip<|keep [(1,_),(2,_),(3,_),(7,_),(8,_),(9,_)] ⟨rfl,rfl,rfl,rfl,rfl,rfl,trivial⟩ ?_
    refine WL.sr<|WOL.fa rfl (fa_of fo46_1)<|WOL.ld rfl (load_one tp3 Ax rfl)<|WOL.mv rfl<|WOL.mv rfl<|WOL.mulN rfl rfl (by omega)<|WOL.add rfl rfl (by omega) (by omega)<|WOL.fa rfl (fa_of fo46_1)<|WOL.ld rfl (load_one tp3 Ax rfl)<|WOL.mv rfl<|WOL.inc rfl (by omega)<|WOL.mv rfl<|WOL.mulN rfl rfl (by omega)<|WOL.add rfl rfl (by omega) (by omega)<|WOL.bd rfl bd48 ?_
    have eset:=pl_set (T:=T) (n:=n) (sz:=sz) (j:=j)
    have epush:=pl_push (T:=T) (n:=n) (sz:=sz) (j:=j)
    have edec:∀ p:Int × Int,(decide ((plS n sz p).2=n+((j*sz:Nat):Int)))=decide (p.2=(j:Nat)):=fun p=>by
      refine decide_eq_decide.2 ⟨fun e=>?_,fun e=>?_⟩
      · unfold plS at e
        rw [Int.natCast_mul] at e
        exact Int.eq_of_mul_eq_mul_right (a:=(sz:Int)) (by omega) (by simp only at e;omega)
      · unfold plS
        rw [Int.natCast_mul,e]
    generalize n+((j*sz:Nat):Int)=x1 at *
    generalize n+(((j+1)*sz:Nat):Int)=x2 at *
    refine WOL.al tp48 fun g1 M1=>WOL.sto (vs:=[zi x1,zi x2]) rfl rfl tp48 M1.at_ rfl rfl (Nat.le_of_ble_eq_true rfl) rfl ((f.on Xh).hx M1.hx) (Nat.le_refl _) fun g2 P2=>WOL.nil<|keep [(1,_),(2,_),(3,_),(7,_),(8,_),(9,_),(10,_)] ⟨rfl,rfl,rfl,rfl,rfl,rfl,rfl,trivial⟩ ?_
    have m1:=M1.next
    have m2:=P2.next
    have Z2:HX g g2:=P2.hx _ M1.hx (Nat.le_refl _)
    have A10:At g2 g.next (.cells [zi x1,zi x2] true true 27):=P2.at_
    have X2:=X.trans Z2
    have O2:=O.hx Z2
    have f2:Free0 g0.next g2:=(f.hx (Yg.trans X2)).up (by omega)
    have lM:(T.map (plS n sz)).length=T.length:=List.length_map ..
    have push:¬ (T≠[]∧(T.getD (T.length - 1) (0,0)).2=(j:Nat))→∀ b,Kn [(1,zi (sz:Nat)),(2,zi y),(3,ptr h.next),(7,u),(8,v),(9,zi (j:Nat)),(10,ptr g.next)] b→WO Tryz.prog tp r1602_10 b g2 fun b g'=>∃ u',(HX g0 g'∧OwnL encS g0.next g' u' 27 ((abL l y (j+1)).map (plS n sz)))∧Kn [(1,zi (sz:Nat)),(2,zi y),(3,ptr h.next),(7,u'),(8,v),(9,zi (j:Nat))] b:=by
      intro hn
      refine WOL.mv rfl<|WOL.ld rfl (load_row tp48 A10 rfl (Nat.le_of_ble_eq_true rfl))<|WOL.bs2 rfl u44 tp48 fun g4 M4=>?_
      have m4:=M4.next
      obtain ⟨w',g5,ap,O5,x5,_,_,_⟩:=own_push (sT:=23) (x:=(x1,x2)) eS u44 tp48 (O2.hx M4.hx) (SlC.own (sz:=2) (m:=1) rfl M4.at_) (f2.hx M4.hx) (by rw [lM];omega) (by omega)
      refine WOL.ap rfl rfl ap<|WOL.as rfl<|WOL.nil fun b q=>⟨w',⟨x5 _ (X2.trans M4.hx) (Nat.le_refl _),?_⟩,q.sub ⟨rfl,rfl,rfl,rfl,rfl,rfl,trivial⟩⟩
      rw [es1,epush hn]
      exact O5
    refine WL.seq<|WL.sr<|WOL.mv rfl<|WOL.len rfl (O2.sl eS) u44<|WOL.as rfl<|WOL.nil<|keep [(1,_),(2,_),(3,_),(7,_),(8,_),(9,_),(10,_),(11,_)] ⟨rfl,rfl,rfl,rfl,rfl,rfl,rfl,rfl,trivial⟩ ?_
    by_cases hne:T=[]
    · subst hne
      refine WL.sr<|WOL.mv rfl<|WOL.bf rfl rfl rfl rfl<|WOL.mv rfl<|WOL.skp (b:=false) rfl rfl<|WOL.skp (b:=false) rfl rfl<|WOL.skp (b:=false) rfl rfl<|WOL.skp (b:=false) rfl rfl<|WOL.skp (b:=false) rfl rfl<|WOL.skp (b:=false) rfl rfl<|WOL.skp (b:=false) rfl rfl<|WOL.skp (b:=false) rfl rfl<|WOL.skp (b:=false) rfl rfl<|WOL.pkf rfl rfl<|WOL.nil<|WL.no rfl<|WL.skip<|WL.reg ?_
      exact kto (push fun q=>q.1 rfl) ⟨rfl,rfl,rfl,rfl,rfl,rfl,rfl,trivial⟩
    · have hm:0 < T.length:=List.length_pos_iff.2 hne
      have hpT:T[T.length - 1]?=some T[T.length - 1]:=List.getElem?_eq_getElem (by omega)
      have hg:T.getD (T.length - 1) (0,0)=T[T.length - 1]:=by simp [List.getD,hpT]
      have hpM:(T.map (plS n sz))[T.length - 1]?=some (plS n sz T[T.length - 1]):=by rw [List.getElem?_map,hpT];rfl
      rw [hg] at eset push
      generalize T[T.length - 1]=p at *
      have hne':T.map (plS n sz)≠[]:=fun e=>hne (List.map_eq_nil_iff.1 e)
      obtain ⟨b,o,cc,fix,wr,el,e1,e2,e3,e4,e5⟩:=(O2.sl eS).at eS u44 tp48 hpM .i64
      have ed:=edec p
      generalize plS n sz p=pp at *
      obtain ⟨pa,pb⟩:=pp
      have O2':=O2
      rcases O2 with ⟨_,he0⟩ | ⟨_,bO,rfl,hbO,AO⟩
      · exact absurd he0 hne'
      refine WL.sr<|WOL.mv rfl<|WOL.bt rfl rfl rfl (decide_eq_true (by omega))<|WOL.mv rfl<|WOL.now (b:=true) rfl rfl<|WOL.mv rfl<|WOL.now (b:=true) rfl rfl<|WOL.mv rfl<|WOL.now (b:=true) rfl rfl<|WOL.sub rfl rfl (by omega) (by omega) ?_
      rw [show (((T.map (plS n sz)).length:Int) - 1)=((T.length - 1:Nat):Int) by omega]
      refine WOL.now (b:=true) rfl rfl<|WOL.ix rfl rfl e1<|WOL.now (b:=true) rfl rfl<|WOL.fa rfl (fa_of fo48_1)<|WOL.now (b:=true) rfl rfl<|WOL.ld rfl (load_one tp3 e2 (e5 1 (by decide)))<|WOL.now (b:=true) rfl rfl<|WOL.fa rfl (fa_of fo48_0)<|WOL.now (b:=true) rfl rfl<|WOL.ld rfl (load_one tp3 A10 rfl)<|WOL.now (b:=true) rfl rfl<|WOL.bi (v:=.bool (decide (p.2=(j:Nat)))) rfl rfl (by rw [← ed];rfl)<|WOL.pkt rfl rfl<|WOL.nil<|keep [(1,_),(2,_),(3,_),(7,_),(8,_),(9,_),(10,_),(11,_),(55,_)] ⟨rfl,rfl,rfl,rfl,rfl,rfl,rfl,rfl,rfl,trivial⟩ ?_
      by_cases hq:p.2=(j:Nat)
      · rw [decide_eq_true hq]
        refine WL.yes rfl<|WL.sr<|WOL.mv rfl<|WOL.mv rfl<|WOL.sub rfl rfl (by omega) (by omega) ?_
        rw [show (((T.map (plS n sz)).length:Int) - 1)=((T.length - 1:Nat):Int) by omega]
        refine WOL.fa rfl (fa_of fo48_1)<|WOL.ld rfl (load_one tp3 A10 rfl)<|WOL.ix rfl rfl (indexAddr_tp u44 tp48 (by omega))<|WOL.fa rfl (fa_of fo48_1) ?_
        refine WOL.sto rfl rfl tp3 AO rfl rfl (by rw [eS.cat_len,lM];omega) rfl f2 hbO fun h4 P4=>WOL.nil<|WL.exit fun b q=>?_
        have A4:=P4.at_
        rw [show (0:Nat)+(T.length - 1)*2+1=(T.length - 1)*2+1 by omega,show (zi x2).cells.toList=[zi x2] from rfl,splice_one _ _ _ (by rw [eS.cat_len,lM];omega),set_one _ _ _ _ hpM] at A4
        refine ⟨_,⟨P4.hx _ X2 hbO,?_⟩,q.sub ⟨rfl,rfl,rfl,rfl,rfl,rfl,trivial⟩⟩
        rw [es1,eset ⟨hne,hq⟩]
        exact .inr ⟨fun e=>hne' (List.eq_nil_of_length_eq_zero (by have:=congrArg List.length e;rw [List.length_set] at this;exact this)),bO,by rw [List.length_set],hbO,A4⟩
      · rw [decide_eq_false hq]
        refine WL.no rfl<|WL.skip<|WL.reg ?_
        exact kto (push fun q=>hq q.2) ⟨rfl,rfl,rfl,rfl,rfl,rfl,rfl,trivial⟩
  · rintro u g ⟨X,O⟩
    exact WL.sr<|WOL.mv rfl<|WOL.as rfl<|WOL.nil<|WL.ret (WL.end_ rfl ⟨Yg.trans X,O.sl eS⟩)
theorem k1603 (H:Has tp) {u w:Value} {E:Int} {l:List Int} (su:SlL encI 1 h u l) (sw:SlL encI 1 h w l) (hl:l.length≤1000000) (he:E≠0→l=[]) :
  CallW Tryz.prog tp (.func (.func 31) #[] #[]) #[u,zi E,zi E,w] h fun v h'=>v=.bool true∧h'=h:=by
 refine CallW.fnL (H.fn 31 f1603 rfl rfl) ?_
 refine WL.sr<|WOL.as rfl<|WOL.nil ?_
 refine WL.sr<|WOL.mv rfl<|WOL.mv rfl<|WOL.bt rfl rfl rfl (beq_self_eq_true _)<|WOL.mv rfl<|WOL.now (b:=true) rfl rfl<|WOL.mv rfl<|WOL.now (b:=true) rfl rfl ?_
 by_cases e0:E≠0
 ·have:=he e0
  subst this
  refine WOL.bt rfl rfl rfl (bne_iff_ne.2 e0)<|WOL.now (b:=true) rfl rfl<|WOL.mv rfl<|WOL.now (b:=true) rfl rfl<|WOL.mv rfl<|WOL.now (b:=true) rfl rfl<|WOL.len rfl su u29<|WOL.now (b:=true) rfl rfl<|WOL.bt rfl rfl rfl rfl<|WOL.now (b:=true) rfl rfl<|WOL.pkt rfl rfl<|WOL.now (b:=true) rfl rfl<|WOL.mv rfl ?_
  refine WOL.skp (b:=true) rfl rfl<|WOL.skp (b:=true) rfl rfl<|WOL.skp (b:=true) rfl rfl<|WOL.gu rfl rfl<|WOL.gu rfl rfl<|WOL.gu rfl rfl<|WOL.skp (b:=true) rfl rfl<|WOL.now (b:=true) rfl rfl<|WOL.pkt rfl rfl<|WOL.pkt rfl rfl<|WOL.as rfl<|WOL.nil ?_
  exact WL.ret (WL.end_ rfl ⟨rfl,rfl⟩)
 ·have e0:E=0:=Classical.not_not.1 e0
  subst e0
  refine WOL.bf rfl rfl rfl rfl<|WOL.now (b:=true) rfl rfl<|WOL.mv rfl<|WOL.skp (b:=false) rfl rfl<|WOL.skp (b:=false) rfl rfl<|WOL.skp (b:=false) rfl rfl<|WOL.now (b:=true) rfl rfl<|WOL.pkf rfl rfl<|WOL.now (b:=true) rfl rfl<|WOL.mv rfl ?_
  refine WOL.now (b:=false) rfl rfl<|WOL.mv rfl<|WOL.now (b:=false) rfl rfl<|WOL.bt rfl rfl rfl rfl<|WOL.now (b:=false) rfl rfl<|WOL.mv rfl<|WOL.now (b:=true) rfl rfl<|WOL.mv rfl<|WOL.now (b:=true) rfl rfl<|WOL.mv rfl<|WOL.now (b:=true) rfl rfl<|WOL.cl2 rfl rfl rfl ((k18L H su sw hl hl).mono ?_)
  rintro v g ⟨rfl,rfl⟩
  rw [decide_eq_true rfl]
  refine WOL.now (b:=false) rfl rfl<|WOL.pkt rfl rfl<|WOL.now (b:=true) rfl rfl<|WOL.pkf rfl rfl<|WOL.pkt rfl rfl<|WOL.as rfl<|WOL.nil ?_
  exact WL.ret (WL.end_ rfl ⟨rfl,rfl⟩)
end
end Go.Tidy
namespace Go.Tidy
open Go Go.Proofs Tab
variable {tp:TProg}
theorem fz_cons {x:Int} {l:List Int}:firstNZ (x::l)=cond (x != 0) x (firstNZ l):=rfl
theorem bne_z {x:Int}:(x != 0)=false ↔ x=0:=by simp
section
variable {h:TH} {c s q c' s' q':Int}
end
end Go.Tidy
namespace Go.Tidy
open Go Go.Proofs Tab
variable {tp:TProg}
theorem fz_nest {a b c:Int}:firstNZ [firstNZ [a,b],c]=firstNZ [a,b,c]:=by
 rw [fz_cons,fz_cons,fz_cons,fz_cons (x:=a) (l:=[b,c]),fz_cons (x:=b) (l:=[c])]
 cases h1:(a != 0) with
 | true=>simp only [cond_true,h1]
 | false =>
  cases h2:(b != 0) with
  | true=>simp only [cond_true,cond_false,h2]
  | false=>rfl
theorem ixq_0 {c:Nat}:indexAddrT Tryz.prog 55 (.pointer (some ⟨c,0,none⟩)) (.int .i64 0)=some (.pointer (some ⟨c,0,none⟩)):=by kernel_rfl
theorem ixq_1 {c:Nat}:indexAddrT Tryz.prog 55 (.pointer (some ⟨c,0,none⟩)) (.int .i64 1)=some (.pointer (some ⟨c,1,none⟩)):=by kernel_rfl
theorem ansI_len {e x:Int} {L:List Int} {B:List Bool}:(ansI e x L B).length≤L.length:=by
 unfold ansI
 cases (e != 0) with
 | true=>exact Nat.zero_le _
 | false=>simp only [cond_false];rw [idxL_len];exact Nat.div_le_self _ _
section
variable {h:TH} {s:ByteArray} {n x y:Int} {v v1 v2:Value} {F:List Nat} {S:List (Int × Int)}
set_option maxHeartbeats 16000000 in
set_option maxRecDepth 10000 in
theorem k1578 (H:Has tp) (X:HasX tp) (K:Awk tp) (r:RunH h v1 v2 F S) (f:Free0 h.next h) :
    CallW Tryz.prog tp (.func (.func 5) #[] #[]) #[runV s n v1 v2,.agg #[zi x,zi y]] h fun v _=>v=.bool true:=by
  obtain ⟨b1,k1,e1⟩:=r.f.form
  obtain ⟨b2,k2,e2⟩:=r.s.form
  subst e1 e2
  obtain ⟨es,L,hE,hLv⟩:=lev_some F
  refine CallW.fnL (H.fn 5 f1578 rfl rfl) ?_
  refine WL.sr<|WOL.box rfl fun h1 N1=>WOL.box rfl fun h2 N2=>WOL.as rfl<|WOL.nil<|keep [(2,_),(3,_)] ⟨rfl,rfl,trivial⟩ ?_
  have n1:=N1.next
  have n2:=N2.next
  have A2:At h2 h.next (.cells [.string s,zi n,.slice b1 F.length k1,.slice b2 S.length k2] true true 25):=N1.at_.hx N2.hx
  have A3:At h2 h1.next (.cells [zi x,zi y] true true 55):=N2.at_
  have X2:=N1.hx.trans N2.hx
  refine WL.seq<|WL.sr<|WOL.cl0 rfl ((k11t K _).mono ?_)
  rintro v h3 ⟨rfl,rfl⟩
  refine WOL.nt rfl<|WOL.mv rfl<|WOL.now (b:=false) rfl rfl<|WOL.ld rfl (load_row tp46 A2 rfl (Nat.le_of_ble_eq_true rfl))<|WOL.now (b:=false) rfl rfl<|WOL.cl1 rfl rfl ((k23 (s:=s) (n:=n) H (r.f.hx X2) (r.s.hx X2)).mono ?_)
  rintro v h4 ⟨rfl,X4⟩
  have Y4:=X2.trans X4
  have x4:=X4.next
  replace A2:=A2.hx X4;replace A3:=A3.hx X4
  cases hb:shortB s F.length S.length with
  | false =>
    refine WOL.now (b:=false) rfl rfl<|WOL.nt rfl<|WOL.pkf rfl rfl<|WOL.nil<|WL.yes rfl<|WL.sr<|WOL.cl0 rfl ((k11t K _).mono ?_)
    rintro v h5 ⟨rfl,rfl⟩
    exact WOL.as rfl<|WOL.nil<|WL.ret (WL.end_ rfl rfl)
  | true =>
    obtain ⟨hF,hS⟩:=short_small hb
    have y4:=Y4.next
    refine WOL.now (b:=false) rfl rfl<|WOL.nt rfl<|WOL.pkf rfl rfl<|WOL.nil<|WL.no rfl<|WL.skip<|keep [(2,_),(3,_)] ⟨rfl,rfl,trivial⟩ ?_
    generalize hRR:runE s n F.length S es L=R at *
    have e3:=fz_nest (a:=R) (b:=outB x 2 256) (c:=outB y 0 268435456)
    refine WL.sr<|WOL.ld rfl (load_row tp46 A2 rfl (Nat.le_of_ble_eq_true rfl))<|WOL.ix rfl rfl ixq_0<|WOL.ld rfl (load_one tp3 A3 rfl) ?_
    refine WOL.lq1 [h1.next] rfl rfl rfl fun M hM=>((k1594 (s:=s) (n:=n) H ((r.hx Y4).relock M) (by omega) (by omega) ((f.on Y4).held hM (fun b hb=>by simp at hb;omega))).mono ?_)
    rintro v h5 ⟨w1,w2,rfl,X5,ro⟩
    replace X5:=X5.relock
    have rr:RunH (h5.withLock h4.lock) w1 w2 F S:=ro.r.relock h4.lock
    clear ro
    generalize h5.withLock h4.lock=h5 at *
    have Y5:=Y4.trans X5
    refine WOL.cl2 rfl rfl rfl ((k1597 (s:=s) (n:=n) (x:=x) (es:=es) (L:=L) H X rr hE hLv (by omega) (by omega) (f.on Y5)).mono ?_)
    rintro v h6 ⟨X6,w5,rfl,O5⟩
    rw [hRR] at O5 ⊢
    have s5:=O5.sl eI
    clear O5 rr
    have Z6:=X5.trans X6
    have Y6:=Y4.trans Z6
    replace A2:=A2.hx Z6;replace A3:=A3.hx Z6
    refine WOL.mv rfl<|WOL.ex rfl rfl<|WOL.ex rfl rfl<|WOL.as rfl<|WOL.as rfl<|WOL.nil<|keep [(2,_),(3,_),(5,_),(6,_)] ⟨rfl,rfl,rfl,rfl,trivial⟩ ?_
    have z6:=Z6.next
    refine WL.sr<|WOL.ld rfl (load_row tp46 A2 rfl (Nat.le_of_ble_eq_true rfl))<|WOL.ix rfl rfl ixq_0<|WOL.ld rfl (load_one tp3 A3 rfl) ?_
    refine WOL.lq1 [h1.next] rfl rfl rfl fun M hM=>((k1594 (s:=s) (n:=n) H ((r.hx Y6).relock M) (by omega) (by omega) ((f.on Y6).held hM (fun b hb=>by simp at hb;omega))).mono ?_)
    rintro v h7 ⟨w1,w2,rfl,X7,ro⟩
    replace X7:=X7.relock
    have rr:RunH (h7.withLock h6.lock) w1 w2 F S:=ro.r.relock h6.lock
    clear ro
    generalize h7.withLock h6.lock=h7 at *
    have Y7:=Y6.trans X7
    refine WOL.cl2 rfl rfl rfl ((k1598 (s:=s) (n:=n) (x:=x) (es:=es) (L:=L) H X rr hE hLv (by omega) (by omega) (f.on Y7)).mono ?_)
    rintro v h8 ⟨X8,rfl⟩
    rw [hRR]
    clear rr
    have Z8:=X7.trans X8
    have Y8:=Y6.trans Z8
    have s5':=s5.hx Z8
    replace A2:=A2.hx Z8;replace A3:=A3.hx Z8
    generalize hW:worE (firstNZ [R,outB x 2 256]) (ansI (firstNZ [R,outB x 2 256]) x L (knownL S F.length))=WW
    obtain ⟨a1,a2,a3⟩:=WW
    refine WOL.mv rfl<|WOL.ex rfl rfl<|WOL.ex rfl rfl<|WOL.ex rfl rfl<|WOL.as rfl<|WOL.as rfl<|WOL.as rfl<|WOL.nil<|keep [(2,_),(3,_),(5,_),(6,_),(7,_),(8,_),(9,_)] ⟨rfl,rfl,rfl,rfl,rfl,rfl,rfl,trivial⟩ ?_
    have z8:=Z8.next
    refine WL.sr<|WOL.ld rfl (load_row tp46 A2 rfl (Nat.le_of_ble_eq_true rfl))<|WOL.ix rfl rfl ixq_0<|WOL.ld rfl (load_one tp3 A3 rfl)<|WOL.ix rfl rfl ixq_1<|WOL.ld rfl (load_one tp3 A3 rfl) ?_
    refine WOL.lq1 [h1.next,h1.next] rfl rfl rfl fun M hM=>((k1594 (s:=s) (n:=n) H ((r.hx Y8).relock M) (by omega) (by omega) ((f.on Y8).held hM (fun b hb=>by simp at hb;omega))).mono ?_)
    rintro v h9 ⟨w1,w2,rfl,X9,ro⟩
    replace X9:=X9.relock
    have rr:RunH (h9.withLock h8.lock) w1 w2 F S:=ro.r.relock h8.lock
    clear ro
    generalize h9.withLock h8.lock=h9 at *
    have Y9:=Y8.trans X9
    refine WOL.cl3 rfl rfl rfl rfl ((k1599 (s:=s) (n:=n) (x:=x) (y:=y) (es:=es) (L:=L) H X rr hE hLv (by omega) (by omega) (f.on Y9)).mono ?_)
    rintro v h10 ⟨X10,w10,rfl,s10⟩
    rw [hRR] at s10 ⊢
    clear rr
    have Z10:=X9.trans X10
    have Y10:=Y8.trans Z10
    replace s5:=s5'.hx Z10
    clear s5'
    replace A2:=A2.hx Z10;replace A3:=A3.hx Z10
    refine WOL.mv rfl<|WOL.ex rfl rfl<|WOL.ex rfl rfl<|WOL.as rfl<|WOL.as rfl<|WOL.nil<|keep [(2,_),(3,_),(5,_),(6,_),(7,_),(8,_),(9,_),(10,_),(11,_)] ⟨rfl,rfl,rfl,rfl,rfl,rfl,rfl,rfl,rfl,trivial⟩ ?_
    refine WL.sr<|WOL.ld rfl (load_row tp46 A2 rfl (Nat.le_of_ble_eq_true rfl))<|WOL.ix rfl rfl ixq_0<|WOL.ld rfl (load_one tp3 A3 rfl) ?_
    refine WOL.lk1 rfl rfl fun M=>((k31 (s:=s) (n:=n) (es:=es) (L:=L) H ((r.hx Y10).relock M) hE hLv (by omega) (by omega)).mono ?_)
    rintro v h11 ⟨rfl,X11⟩
    replace X11:=X11.relock
    generalize h11.withLock h10.lock=h11 at *
    rw [hRR]
    refine WOL.cl3 rfl rfl rfl rfl ((k14 H _ _ _ _).mono ?_)
    rintro v h12 ⟨rfl,rfl⟩
    refine WOL.bsl rfl u29 tp3 (by decide) (by decide) (by decide) (filled_ints _ _) fun h13 N13=>?_
    refine WOL.cl1 rfl rfl ((k13 H (l:=[_,_]) N13.at_.get (by simp)).mono ?_)
    rintro v h14 ⟨rfl,rfl⟩
    have Z13:=X11.trans N13.hx
    have Y13:=Y10.trans Z13
    replace s5:=s5.hx Z13
    replace s10:=s10.hx Z13
    replace A2:=A2.hx Z13;replace A3:=A3.hx Z13
    refine WOL.as rfl<|WOL.nil<|keep [(2,_),(3,_),(5,_),(6,_),(7,_),(8,_),(9,_),(10,_),(11,_),(12,_)] ⟨rfl,rfl,rfl,rfl,rfl,rfl,rfl,rfl,rfl,rfl,trivial⟩ ?_
    refine WL.sr<|WOL.mv rfl<|WOL.mv rfl<|WOL.ix rfl rfl ixq_1<|WOL.ld rfl (load_one tp3 A3 rfl)<|WOL.cl3 rfl rfl rfl rfl ((k14 H _ _ _ _).mono ?_)
    rintro v h15 ⟨rfl,rfl⟩
    refine WOL.bsl rfl u29 tp3 (by decide) (by decide) (by decide) (filled_ints _ _) fun h16 N16=>?_
    refine WOL.cl1 rfl rfl ((k13 H (l:=[_,_]) N16.at_.get (by simp)).mono ?_)
    rintro v h17 ⟨rfl,rfl⟩
    have Y16:=Y13.trans N16.hx
    have Z16:=N16.hx
    replace s5:=s5.hx Z16
    replace s10:=s10.hx Z16
    replace A2:=A2.hx Z16;replace A3:=A3.hx Z16
    rw [e3]
    refine WOL.as rfl<|WOL.as rfl<|WOL.nil<|keep [(2,_),(3,_),(5,_),(6,_),(7,_),(8,_),(9,_),(10,_),(11,_),(12,_),(13,_),(14,_)] ⟨rfl,rfl,rfl,rfl,rfl,rfl,rfl,rfl,rfl,rfl,rfl,rfl,trivial⟩ ?_
    refine WL.sr<|WOL.as rfl<|WOL.nil<|WL.sr<|WOL.as rfl<|WOL.nil<|WL.sr<|WOL.as rfl<|WOL.as rfl<|WOL.nil ?_
    have lA:(ansI (firstNZ [R,outB x 2 256]) x L (knownL S F.length)).length≤1000000:=by
      have:=ansI_len (e:=firstNZ [R,outB x 2 256]) (x:=x) (L:=L) (B:=knownL S F.length)
      unfold ansI at this ⊢
      cases hq:(firstNZ [R,outB x 2 256] != 0) with
      | true=>exact Nat.zero_le _
      | false =>
        have z:=fz2_zero (bne_z.1 hq)
        have vd:=valid_of hLv (hRR.trans z.1)
        have:=vd.lev.1
        simp only [cond_false]
        rw [idxL_len]
        have:=Nat.div_le_self L.length x.toNat
        omega
    have lD:(abvE (firstNZ [R,outB x 2 256,outB y 0 268435456]) n x y L (knownL S F.length)).length≤1000000:=by
      unfold abvE
      cases hq:(firstNZ [R,outB x 2 256,outB y 0 268435456] != 0) with
      | true=>exact Nat.zero_le _
      | false =>
        have z:=fz3_zero (bne_z.1 hq)
        have vd:=valid_of hLv (hRR.trans z.1)
        have:=vd.lev.1
        simp only [cond_false]
        rw [List.length_map]
        have:=abL_len (l:=idxL L (knownL S F.length) x.toNat (L.length / x.toNat)) (y:=y) (L.length / x.toNat)
        have:=Nat.div_le_self L.length x.toNat
        omega
    have nA:firstNZ [R,outB x 2 256]≠0→ansI (firstNZ [R,outB x 2 256]) x L (knownL S F.length)=[]:=fun e=>by unfold ansI;rw [bne_iff_ne.2 e];rfl
    generalize hE2:firstNZ [R,outB x 2 256]=E2 at *
    generalize hE3:firstNZ [R,outB x 2 256,outB y 0 268435456]=E3 at *
    generalize hAA:ansI E2 x L (knownL S F.length)=AA at *
    generalize hDD:abvE E3 n x y L (knownL S F.length)=DD at *
    have tail2:∀ g w15 w16,SlL encI 1 g w5 AA→SlL encI 1 g w15 AA→SlL encS 2 g w10 DD→SlL encS 2 g w16 DD→∀ a,Kn [(5,w5),(6,zi E2),(7,zi a1),(8,zi a2),(9,zi a3),(10,w10),(11,zi E3),(12,zi E2),(13,zi a3),(14,zi E3),(15,w15),(16,w16),(17,zi a1),(18,zi a2)] a →
        W Tryz.prog tp false (.seq (.reg r1578_16) .ret) a g (Fin Tryz.prog [.tmp 4] fun v _=>v=.bool true):=by
      intro g w15 w16 i5 i15 i10 i16
      refine WL.sr<|WOL.mv rfl<|WOL.mv rfl<|WOL.mv rfl<|WOL.mv rfl<|WOL.cl4 rfl rfl rfl rfl rfl ((k1603 H i5 i15 lA nA).mono ?_)
      rintro v g1 ⟨rfl,rfl⟩
      refine WOL.mv rfl<|WOL.now (b:=true) rfl rfl<|WOL.mv rfl<|WOL.now (b:=true) rfl rfl<|WOL.mv rfl<|WOL.now (b:=true) rfl rfl<|WOL.bt rfl rfl rfl (beq_self_eq_true _)<|WOL.pkt rfl rfl<|WOL.mv rfl<|WOL.now (b:=true) rfl rfl<|WOL.mv rfl<|WOL.now (b:=true) rfl rfl<|WOL.mv rfl<|WOL.now (b:=true) rfl rfl<|WOL.bt rfl rfl rfl (beq_self_eq_true _)<|WOL.pkt rfl rfl<|WOL.mv rfl<|WOL.now (b:=true) rfl rfl<|WOL.mv rfl<|WOL.now (b:=true) rfl rfl<|WOL.mv rfl<|WOL.now (b:=true) rfl rfl<|WOL.bt rfl rfl rfl (beq_self_eq_true _)<|WOL.pkt rfl rfl<|WOL.mv rfl ?_
      refine WOL.now (b:=true) rfl rfl<|WOL.mv rfl<|WOL.now (b:=true) rfl rfl<|WOL.mv rfl<|WOL.now (b:=true) rfl rfl<|WOL.cl2 rfl rfl rfl ((k59 H i10 i16 lD).mono ?_)
      rintro v g2 ⟨rfl,rfl⟩
      exact WOL.pkt rfl rfl<|WOL.mv rfl<|WOL.now (b:=true) rfl rfl<|WOL.mv rfl<|WOL.now (b:=true) rfl rfl<|WOL.mv rfl<|WOL.now (b:=true) rfl rfl<|WOL.bt rfl rfl rfl (beq_self_eq_true _)<|WOL.pkt rfl rfl<|WOL.as rfl<|WOL.nil<|WL.ret (WL.end_ rfl rfl)
    have tail1:∀ g w15,HX h g→At g h.next (.cells [.string s,zi n,.slice b1 F.length k1,.slice b2 S.length k2] true true 25)→At g h1.next (.cells [zi x,zi y] true true 55)→SlL encI 1 g w5 AA→SlL encI 1 g w15 AA→SlL encS 2 g w10 DD→∀ a,Kn [(2,ptr h.next),(3,ptr h1.next),(5,w5),(6,zi E2),(7,zi a1),(8,zi a2),(9,zi a3),(10,w10),(11,zi E3),(12,zi E2),(13,zi a3),(14,zi E3),(15,w15),(16,.slice none 0 0),(17,zi a1),(18,zi a2)] a →
        W Tryz.prog tp false (.seq (.seq (.reg r1578_14) (.cond (.tmp 83) (.reg r1578_15) .skip)) (.seq (.reg r1578_16) .ret)) a g (Fin Tryz.prog [.tmp 4] fun v _=>v=.bool true):=by
      intro g w15 Yg B2 B3 i5 i15 i10
      by_cases e0:E3=0
      · subst e0
        obtain ⟨q1,q2,q3⟩:=fz3_zero hE3
        subst q1
        have vd:=valid_of hLv hRR
        obtain ⟨sz,rfl,s0,s1⟩:=outB_nat q2
        refine WL.seq<|WL.sr<|WOL.mv rfl<|WOL.bt rfl rfl rfl rfl<|WOL.nil<|WL.yes rfl<|WL.reg<|WOL.ld rfl (load_row tp46 B2 rfl (Nat.le_of_ble_eq_true rfl))<|WOL.ix rfl rfl ixq_0<|WOL.ld rfl (load_one tp3 B3 rfl)<|WOL.ix rfl rfl ixq_1<|WOL.ld rfl (load_one tp3 B3 rfl)<|WOL.cl3 rfl rfl rfl rfl ((k1602 (s:=s) (n:=n) (sz:=sz) (y:=y) H (r.hx Yg) vd (by omega) s0 s1 (f.on Yg)).mono ?_)
        rintro v g2 ⟨Xg,i16⟩
        have eD:(abL (idxL L (knownL S F.length) sz (L.length / sz)) y (L.length / sz)).map (plS n sz)=DD:=hDD
        rw [eD] at i16
        refine WOL.as rfl<|WOL.nil ?_
        exact kto (tail2 g2 w15 v (i5.hx Xg) (i15.hx Xg) (i10.hx Xg) i16) ⟨rfl,rfl,rfl,rfl,rfl,rfl,rfl,rfl,rfl,rfl,rfl,rfl,rfl,rfl,trivial⟩
      · have eD:DD=[]:=by rw [← hDD];unfold abvE;rw [bne_iff_ne.2 e0];rfl
        refine WL.seq<|WL.sr<|WOL.mv rfl<|WOL.bf rfl rfl rfl (beq_eq_false_iff_ne.2 e0)<|WOL.nil<|WL.no rfl<|WL.skip ?_
        exact kto (tail2 g w15 (.slice none 0 0) i5 i15 i10 (by rw [eD];exact SlL.nil)) ⟨rfl,rfl,rfl,rfl,rfl,rfl,rfl,rfl,rfl,rfl,rfl,rfl,rfl,rfl,trivial⟩
    by_cases e0:E2=0
    · subst e0
      obtain ⟨q1,q2⟩:=fz2_zero hE2
      subst q1
      have vd:=valid_of hLv hRR
      obtain ⟨sz,rfl,s0,s1⟩:=outB_nat q2
      have eA:idxL L (knownL S F.length) sz (L.length / sz)=AA:=hAA
      refine WL.seq<|WL.sr<|WOL.mv rfl<|WOL.bt rfl rfl rfl rfl<|WOL.nil<|WL.yes rfl<|WL.sr<|WOL.ld rfl (load_row tp46 A2 rfl (Nat.le_of_ble_eq_true rfl))<|WOL.ix rfl rfl ixq_0<|WOL.ld rfl (load_one tp3 A3 rfl)<|WOL.cl2 rfl rfl rfl ((k1600 (s:=s) (n:=n) (sz:=sz) H (r.hx Y16) vd (by omega) s0 s1 (f.on Y16)).mono ?_)
      rintro v g1 ⟨Xg,O15⟩
      rw [eA] at O15
      have i15:=O15.sl eI
      have Yg1:=Y16.trans Xg
      replace A2:=A2.hx Xg;replace A3:=A3.hx Xg
      refine WOL.as rfl<|WOL.nil<|keep [(2,_),(3,_),(5,_),(6,_),(7,_),(8,_),(9,_),(10,_),(11,_),(12,_),(14,_),(15,_),(16,_)] ⟨rfl,rfl,rfl,rfl,rfl,rfl,rfl,rfl,rfl,rfl,rfl,rfl,rfl,trivial⟩ ?_
      refine WL.reg<|WOL.ld rfl (load_row tp46 A2 rfl (Nat.le_of_ble_eq_true rfl))<|WOL.ix rfl rfl ixq_0<|WOL.ld rfl (load_one tp3 A3 rfl)<|WOL.cl2 rfl rfl rfl ((k1601 (s:=s) (n:=n) (sz:=sz) H (r.hx Yg1) vd (by omega) s0 s1 (f.on Yg1)).mono ?_)
      rintro v g2 ⟨Xg2,rfl⟩
      have eW:wA (idxL L (knownL S F.length) sz (L.length / sz))=(a1,a2,a3):=by rw [eA];exact hW
      rw [eW]
      refine WOL.mv rfl<|WOL.ex rfl rfl<|WOL.ex rfl rfl<|WOL.ex rfl rfl<|WOL.as rfl<|WOL.as rfl<|WOL.as rfl<|WOL.nil ?_
      have Zg:=Xg.trans Xg2
      exact kto (tail1 g2 _ (Yg1.trans Xg2) (A2.hx Xg2) (A3.hx Xg2) (s5.hx Zg) (i15.hx Xg2) (s10.hx Zg)) ⟨rfl,rfl,rfl,rfl,rfl,rfl,rfl,rfl,rfl,rfl,rfl,rfl,rfl,rfl,rfl,rfl,trivial⟩
    · have eA:=nA e0
      subst eA
      unfold worE at hW
      rw [bne_iff_ne.2 e0] at hW
      cases hW
      refine WL.seq<|WL.sr<|WOL.mv rfl<|WOL.bf rfl rfl rfl (beq_eq_false_iff_ne.2 e0)<|WOL.nil<|WL.no rfl<|WL.skip ?_
      exact kto (tail1 _ (.slice none 0 0) Y16 A2 A3 s5 SlL.nil s10) ⟨rfl,rfl,rfl,rfl,rfl,rfl,rfl,rfl,rfl,rfl,rfl,rfl,rfl,rfl,rfl,rfl,trivial⟩
end
set_option maxRecDepth 100000 in
theorem law1578:Law tpE 5 5 [25,55]:=by
 intro h us f ha
 obtain ⟨x0,x1,rfl,⟨p0,y0,e0⟩,⟨p1,y1,e1⟩⟩:=args2 ha
 rw [val_agg (.inl ⟨_,Tryz.underlying25⟩)] at e0
 rw [val_agg (.inr ⟨_,_,Tryz.underlying55⟩)] at e1
 obtain ⟨s,n1,v1,v2,F,S,rfl,r1⟩:=ty_run (n:=1) y0
 obtain ⟨a,b,rfl⟩:=ty_two y1
 subst e0 e1
 exact k1578 hasE hasXE awkE r1 f
end Go.Tidy
