/- A part of the proof. -/
import Derived.Test.YtcgodmeccmkcaaaGreatDoorPa5
import Derived.Test.YtcgodmeccmkcaaaGreatDoorPa4
import Derived.Test.YtcgodmeccmkcaaaGreatDoorPa2
set_option linter.all false
namespace Go.Tidy
open Go Go.Proofs Tab
variable {tp:TProg}
def valC (C:List (Int × Bool)):List Int:=C.map fun c => cond c.2 c.1 0
def bigC (C:List (Int × Bool)):Bool:=C.any fun c => c.2 && largeB c.1
theorem bd1114z:buildT Tryz.prog 27 [] = some (trcV 0 (.slice none 0 0) (.slice none 0 0)):=by kernel_rfl
theorem bd1114a {z:Int}:buildT Tryz.prog 27 [(0,zi z)] = some (trcV z (.slice none 0 0) (.slice none 0 0)):=by kernel_rfl
theorem fo1207_0:fieldOff Tryz.prog 135 0 = some 0:=by kernel_rfl
theorem fo1207_1:fieldOff Tryz.prog 135 1 = some 1:=by kernel_rfl
structure MadeJ (h:TH) (n:Int) (C:List (Int × Bool)) (j:Nat) (s:Value × Value) (g:TH):Prop where
 X:HX h g
 A4:At g h.next (.cells [zi 0,.slice none 0 0,.slice none 0 0] true true 27)
 A6:At g (h.next + 1) (.cells [zi n,s.1,s.2] true true 27)
 O1:OwnL encI (h.next + 2) g s.1 3 (valC (C.take j))
 O2:OwnL encS (h.next + 2) g s.2 103 (holesN (C.map fun c => c.2) j)
 ne:∀ z,bl s.1 = some z → bl s.2 ≠ some z
 big:bigC (C.take j) = false
section
variable {h g:TH} {n:Int} {v:Value} {C:List (Int × Bool)} {j:Nat}
theorem valC_succ {c:Int × Bool} (hc:C[j]? = some c):valC (C.take (j + 1)) = valC (C.take j) ++ [cond c.2 c.1 0]:=by
 have hj:=(List.getElem?_eq_some_iff.1 hc).1
 rw [List.take_succ_eq_append_getElem hj,(List.getElem?_eq_some_iff.1 hc).2]
 unfold valC
 rw [List.map_append]
 rfl
theorem bigC_succ {c:Int × Bool} (hc:C[j]? = some c):bigC (C.take (j + 1)) = (bigC (C.take j) || (c.2 && largeB c.1)):=by
 have hj:=(List.getElem?_eq_some_iff.1 hc).1
 rw [List.take_succ_eq_append_getElem hj,(List.getElem?_eq_some_iff.1 hc).2]
 unfold bigC
 rw [List.any_append]
 simp
set_option maxHeartbeats 4000000 in
set_option maxRecDepth 10000 in
theorem k1188 (H:Has tp) (s:SlL encC 2 h v C) (hl:C.length ≤ 900000) (f:Free0 h.next h):CallW Tryz.prog tp (.func (.func 88) #[] #[]) #[zi n,v] h fun v h' => HX h h' ∧ ((bigC C = true ∧ v = .tuple #[trcV 0 (.slice none 0 0) (.slice none 0 0),zi 4]) ∨ (bigC C = false ∧ ∃ w1 w2,v = .tuple #[trcV n w1 w2,zi 0] ∧ OwnL encI h.next h' w1 3 (valC C) ∧ OwnL encS h.next h' w2 103 (holesOf (C.map fun c => c.2)))):=by
  refine CallW.fnL (H.fn 88 f1188 rfl rfl) ?_
  refine WL.sr <| WOL.al tp1114 fun h1 N1 => WOL.as rfl <| WOL.nil <| keep [(0,_),(1,_),(4,_)] ⟨rfl,rfl,rfl,trivial⟩ ?_
  have n1:=N1.next
  refine WL.sr <| WOL.mv rfl <| WOL.bd rfl bd1114a <| WOL.al tp1114 fun h2 N2 => ?_
  have n2:=N2.next
  have X2:=N1.hx.trans N2.hx
  refine WOL.sto (vs:=[zi n,.slice none 0 0,.slice none 0 0]) rfl rfl tp1114 N2.at_ rfl rfl (Nat.le_of_ble_eq_true rfl) rfl (f.hx X2) (by omega) fun h3 P3 => WOL.nil <| keep [(0,_),(1,_),(4,_),(6,_)] ⟨rfl,rfl,rfl,rfl,trivial⟩ ?_
  have n3:=P3.next
  have X3:HX h h3:=P3.hx _ X2 (by omega)
  have A4:=P3.oth _ _ (by omega) (N1.at_.hx N2.hx)
  have A6:At h3 (h.next + 1) (.cells [zi n,.slice none 0 0,.slice none 0 0] true true 27):=by rw [← n1];exact P3.at_
  rw [n1]
  refine WL.seq <| WL.sr <| WOL.as rfl <| WOL.nil <| keep [(0,_),(1,_),(4,_),(6,_),(7,_)] ⟨rfl,rfl,rfl,rfl,rfl,trivial⟩ ?_
  have lB:(C.map fun c => c.2).length = C.length:=List.length_map ..
  refine WL.forz (α:=Value × Value) C.length (MadeJ h n C) (fun j _ => [(0,zi n),(1,v),(4,ptr h.next),(6,ptr (h.next + 1)),(7,zi (j:Nat))]) (fun j _ => [(0,zi n),(1,v),(4,ptr h.next),(6,ptr (h.next + 1)),(7,zi (j:Nat))]) (.slice none 0 0,.slice none 0 0) ⟨X3,A4,A6,.inl ⟨rfl,rfl⟩,.inl ⟨rfl,rfl⟩,fun z e => (by cases e),rfl⟩ ⟨rfl,rfl,rfl,rfl,rfl,trivial⟩ ?_ ?_ (fun _ _ _ => ⟨rfl,rfl,rfl,rfl,rfl,trivial⟩) ?_ ?_
  · rintro j w g hj q
    exact WOL.mv rfl <| WOL.mv rfl <| WOL.len rfl (s.hx q.X) u1205 <| WOL.bi rfl rfl rfl <| WOL.nil fun a q => ⟨rfl,q.sub ⟨rfl,rfl,rfl,rfl,rfl,rfl,trivial⟩⟩
  · rintro j w g hj q
    exact WOL.mv rfl <| WOL.inc rfl (by omega) <| WOL.as rfl <| WOL.nil fun a k => ⟨q,k.sub ⟨rfl,rfl,rfl,rfl,rfl,trivial⟩⟩
  · rintro j ⟨w1,w2⟩ g hj ⟨X,A4,A6,O1,O2,ne,big⟩
    have hc:C[j]? = some C[j]:=List.getElem?_eq_getElem hj
    generalize C[j] = c at hc
    obtain ⟨x,kn⟩:=c
    have hB:(C.map fun c => c.2).getD j false = kn:=by rw [List.getD_eq_getElem?_getD,List.getElem?_map,hc];rfl
    have vs:=valC_succ hc
    have bs:=bigC_succ hc
    rw [big,Bool.false_or] at bs
    have lv:(valC (C.take j)).length ≤ j:=by unfold valC;rw [List.length_map,List.length_take];omega
    have lh:=holesN_len (C.map fun c => c.2) j
    have xg:=X.next
    have l4:=A4.lt
    have l6:=A6.lt
    have lw1:=fun z (hz:bl w1 = some z) => O1.lt hz
    have lw2:=fun z (hz:bl w2 = some z) => O2.lt hz
    obtain ⟨b,o,cc,fix,wr,el,g1,g2,g3,g4,g5⟩:=(s.hx X).at eC u1205 tp1207 hc .i64
    have c0:=g5 0 (by decide)
    have c1:=g5 1 (by decide)
    rw [Nat.add_zero] at c0
    replace c0:cc[o]? = some (zi x):=c0
    replace c1:cc[o + 1]? = some (.bool kn):=c1
    refine WL.seq <| WL.sr <| WOL.mv rfl <| WOL.mv rfl <| WOL.ix rfl rfl g1 <| WOL.fa rfl (fa_of fo1207_1) <| WOL.ld rfl (load_one tp4 g2 c1) <| WOL.nil <| keep [(0,_),(1,_),(4,_),(6,_),(7,_),(21,_)] ⟨rfl,rfl,rfl,rfl,rfl,rfl,trivial⟩ ?_
    cases kn with
    | true =>
      replace vs:valC (C.take (j + 1)) = valC (C.take j) ++ [x]:=vs
      replace bs:bigC (C.take (j + 1)) = largeB x:=bs
      refine WL.yes rfl <| WL.seq <| WL.sr <| WOL.mv rfl <| WOL.mv rfl <| WOL.ix rfl rfl g1 <| WOL.fa rfl (fa_of fo1207_0) <| WOL.ld rfl (load_one tp3 g2 c0) <| WOL.cl1 rfl rfl ((k1187 H x _).mono ?_)
      rintro u g' ⟨rfl,rfl⟩
      refine WOL.bi (v:=.bool (largeB x)) rfl rfl rfl <| WOL.nil <| keep [(0,_),(1,_),(4,_),(6,_),(7,_),(28,_)] ⟨rfl,rfl,rfl,rfl,rfl,rfl,trivial⟩ ?_
      cases hb:largeB x with
      | true =>
        rw [hb] at bs
        have bC:bigC C = true:=by
          unfold bigC
          rw [List.any_eq_true]
          exact ⟨(x,true),List.mem_of_getElem? hc,by show (true && largeB x) = true;rw [hb];rfl⟩
        refine WL.yes rfl <| WL.sr <| WOL.bd rfl bd1114z <| WOL.sto (vs:=[zi 0,.slice none 0 0,.slice none 0 0]) rfl rfl tp1114 A4 rfl rfl (Nat.le_of_ble_eq_true rfl) rfl (f.hx X) (Nat.le_refl _) fun i1 M1 => WOL.as rfl <| WOL.nil ?_
        exact WL.ret (WL.endC1 rfl rfl (load_row tp1114 M1.at_ rfl (Nat.le_of_ble_eq_true rfl)) ⟨M1.hx _ X (Nat.le_refl _),.inl ⟨bC,rfl⟩⟩)
      | false =>
        rw [hb] at bs
        refine WL.no rfl <| WL.skip ?_
        refine WL.sr <| WOL.fa rfl (fa_of fo1114_1) <| WOL.ld rfl (load_one tp29 A6 rfl) <| WOL.mv rfl <| WOL.mv rfl <| WOL.ix rfl rfl g1 <| WOL.fa rfl (fa_of fo1207_0) <| WOL.ld rfl (load_one tp3 g2 c0) <| WOL.bs1 rfl u29 tp3 rfl fun i1 M1 => ?_
        have m1:=M1.next
        obtain ⟨w',i2,ap,O1',x2,y2,b2,m2⟩:=own_push (sT:=24) (x:=x) eI u29 tp3 (O1.hx M1.hx) (SlC.own (sz:=1) (m:=1) rfl M1.at_) ((f.hx (X.trans M1.hx)).up (by omega)) (by omega) (by omega)
        obtain ⟨z5,e5⟩:=OwnF.form (Or.inl O1')
        have A6':=y2 _ _ (fun e => by have:=lw1 _ e;omega) (A6.hx M1.hx)
        have A4':=y2 _ _ (fun e => by have:=lw1 _ e;omega) (A4.hx M1.hx)
        refine WOL.ap rfl rfl ap <| WOL.fa rfl (fa_of fo1114_1) <| WOL.sto (vs:=[w']) rfl rfl tp29 A6' (by rw [e5];rfl) rfl (Nat.le_of_ble_eq_true rfl) (by rw [e5];rfl) (f.hx (x2 _ (X.trans M1.hx) (by omega))) (by omega) fun i3 M3 => WOL.nil ?_
        refine WL.exit fun a q => ⟨(w',w2),⟨M3.hx _ (x2 _ (X.trans M1.hx) (by omega)) (by omega),M3.oth _ _ (by omega) A4',M3.at_,?_,?_,?_,bs⟩,q.sub ⟨rfl,rfl,rfl,rfl,rfl,trivial⟩⟩
        · rw [vs]
          exact O1'.keep fun z y hz a => M3.oth _ _ (by have:=O1'.lt hz;omega) a
        · show OwnL encS (h.next + 2) i3 w2 103 (hstep (C.map fun c => c.2) (holesN (C.map fun c => c.2) j) j)
          unfold hstep
          rw [if_pos hB]
          exact (O2.hx M1.hx).keep fun z y hz a => M3.oth _ _ (by have:=lw2 z hz;omega) (y2 z y (fun e => ne z e hz) a)
        · intro z hz e
          have e1:z = i1.next:=Option.some.inj (hz.symm.trans b2)
          have:=lw2 z e
          omega
    | false =>
      replace vs:valC (C.take (j + 1)) = valC (C.take j) ++ [0]:=vs
      replace bs:bigC (C.take (j + 1)) = false:=bs
      have he:=hstep_ext (C.map fun c => c.2) j hB
      refine WL.no rfl <| WL.skip ?_
      refine WL.sr <| WOL.fa rfl (fa_of fo1114_1) <| WOL.ld rfl (load_one tp29 A6 rfl) <| WOL.bs1 (v:=zi 0) rfl u29 tp3 rfl fun i1 M1 => ?_
      have m1:=M1.next
      obtain ⟨w',i2,ap,O1',x2,y2,b2,m2⟩:=own_push (sT:=24) (x:=0) eI u29 tp3 (O1.hx M1.hx) (SlC.own (sz:=1) (m:=1) rfl M1.at_) ((f.hx (X.trans M1.hx)).up (by omega)) (by omega) (by omega)
      obtain ⟨z5,e5⟩:=OwnF.form (Or.inl O1')
      have A6':=y2 _ _ (fun e => by have:=lw1 _ e;omega) (A6.hx M1.hx)
      have A4':=y2 _ _ (fun e => by have:=lw1 _ e;omega) (A4.hx M1.hx)
      refine WOL.ap rfl rfl ap <| WOL.fa rfl (fa_of fo1114_1) <| WOL.sto (vs:=[w']) rfl rfl tp29 A6' (by rw [e5];rfl) rfl (Nat.le_of_ble_eq_true rfl) (by rw [e5];rfl) (f.hx (x2 _ (X.trans M1.hx) (by omega))) (by omega) fun i3 M3 => WOL.nil <| keep [(0,_),(1,_),(4,_),(6,_),(7,_)] ⟨rfl,rfl,rfl,rfl,rfl,trivial⟩ ?_
      have m3:=M3.next
      have X3:HX h i3:=M3.hx _ (x2 _ (X.trans M1.hx) (by omega)) (by omega)
      have B4:=M3.oth _ _ (by omega) A4'
      have B6:At i3 (h.next + 1) (.cells [zi n,w',w2] true true 27):=M3.at_
      have lw':=fun z (hz:bl w' = some z) => O1'.lt hz
      have nw:∀ z,bl w' = some z → z = i1.next:=fun z hz => Option.some.inj (hz.symm.trans b2)
      replace O1':=O1'.keep (h':=i3) fun z y hz a => M3.oth _ _ (by have:=lw' z hz;omega) a
      rw [← vs] at O1'
      replace O2:OwnL encS (h.next + 2) i3 w2 103 (holesN (C.map fun c => c.2) j):=(O2.hx M1.hx).keep fun z y hz a => M3.oth _ _ (by have:=lw2 z hz;omega) (y2 z y (fun e => ne z e hz) a)
      have eh:holesN (C.map fun c => c.2) (j + 1) = extS (holesN (C.map fun c => c.2) j) j:=he
      generalize holesN (C.map fun c => c.2) j = acc at *
      have pushH:extS acc j = acc ++ [((j:Int),(j:Int) + 1)] → ∀ a,Kn [(0,zi n),(1,v),(4,ptr h.next),(6,ptr (h.next + 1)),(7,zi (j:Nat))] a → WO Tryz.prog tp r1188_12 a i3 (fun a g' => ∃ x,MadeJ h n C (j + 1) x g' ∧ Kn [(0,zi n),(1,v),(4,ptr h.next),(6,ptr (h.next + 1)),(7,zi (j:Nat))] a):=by
        intro ee
        refine WOL.fa rfl (fa_of fo1114_2) <| WOL.ld rfl (load_one tp44 B6 rfl) <| WOL.mv rfl <| WOL.mv rfl <| WOL.inc rfl (by omega) <| WOL.bd rfl bd48 <| WOL.bs2 rfl u44 tp48 fun i4 M4 => ?_
        have m4:=M4.next
        obtain ⟨w2',i5,ap5,O5,x5,y5,b5,m5⟩:=own_push (sT:=25) (x:=((j:Int),((j + 1:Nat):Int))) eS u44 tp48 (O2.hx M4.hx) (SlC.own (sz:=2) (m:=1) rfl M4.at_) ((f.hx (X3.trans M4.hx)).up (by omega)) (by omega) (by omega)
        obtain ⟨z6,e6⟩:=OwnF.form (Or.inl O5)
        have C6:=y5 _ _ (fun e => by have:=lw2 _ e;omega) (B6.hx M4.hx)
        have C4:=y5 _ _ (fun e => by have:=lw2 _ e;omega) (B4.hx M4.hx)
        have l5:=fun z (hz:bl w2' = some z) => O5.lt hz
        refine WOL.ap rfl rfl ap5 <| WOL.fa rfl (fa_of fo1114_2) <| WOL.sto (vs:=[w2']) rfl rfl tp44 C6 (by rw [e6];rfl) rfl (Nat.le_of_ble_eq_true rfl) (by rw [e6];rfl) (f.hx (x5 _ (X3.trans M4.hx) (by omega))) (by omega) fun i6 M6 => WOL.nil fun a q => ⟨(w',w2'),⟨M6.hx _ (x5 _ (X3.trans M4.hx) (by omega)) (by omega),M6.oth _ _ (by omega) C4,M6.at_,?_,?_,?_,bs⟩,q.sub ⟨rfl,rfl,rfl,rfl,rfl,trivial⟩⟩
        · exact (O1'.hx M4.hx).keep fun z y hz a => M6.oth _ _ (by have:=lw' z hz;omega) (y5 z y (fun e => by have:=nw z hz;have:=lw2 z e;omega) a)
        · rw [eh,ee]
          exact O5.keep fun z y hz a => M6.oth _ _ (by have:=l5 z hz;omega) a
        · intro z hz e
          have e1:=nw z hz
          have e2:z = i4.next:=Option.some.inj (e.symm.trans b5)
          omega
      refine WL.sr <| WOL.fa rfl (fa_of fo1114_2) <| WOL.ld rfl (load_one tp44 B6 rfl) <| WOL.len rfl (O2.sl eS) u44 <| WOL.as rfl <| WOL.nil <| keep [(0,_),(1,_),(4,_),(6,_),(7,_),(8,_)] ⟨rfl,rfl,rfl,rfl,rfl,rfl,trivial⟩ ?_
      by_cases hne:acc = []
      · subst hne
        refine WL.sr <| WOL.mv rfl <| WOL.bf rfl rfl rfl rfl <| WOL.mv rfl ?_
        repeat' (first
    | (refine WOL.mv rfl ?_)
    | refine WOL.now (b:=true) rfl rfl ?_ | refine WOL.now (b:=false) rfl rfl ?_
    | refine WOL.skp (b:=true) rfl rfl ?_ | refine WOL.skp (b:=false) rfl rfl ?_ | refine WOL.gu rfl rfl ?_
    | refine WOL.mv rfl ?_ | refine WOL.as rfl ?_
    | refine WOL.bi rfl rfl rfl ?_ | refine WOL.nt rfl ?_
    | refine WOL.pkt rfl rfl ?_ | refine WOL.pkf rfl rfl ?_)
        refine WOL.nil <| keep [(0,_),(1,_),(4,_),(6,_),(7,_),(60,_)] ⟨rfl,rfl,rfl,rfl,rfl,rfl,trivial⟩ ?_
        exact WL.no rfl <| WL.reg <| kto (pushH (by unfold extS;rw [if_neg (fun q => q.1 rfl)])) ⟨rfl,rfl,rfl,rfl,rfl,trivial⟩
      · have hm:0 < acc.length:=List.length_pos_iff.2 hne
        have hp:acc[acc.length - 1]? = some (acc.getD (acc.length - 1) (0,0)):=by rw [List.getD_eq_getElem?_getD,List.getElem?_eq_getElem (by omega)];rfl
        obtain ⟨bO,o3,cc3,fix3,wr3,el3,k1,k2,k3,k4,k5⟩:=(O2.sl eS).at eS u44 tp48 hp .i64
        have k6:=k5 1 (by decide)
        refine WL.sr <| WOL.mv rfl <| WOL.bt rfl rfl rfl (by first | exact decide_eq_true (by omega) | exact beq_iff_eq.2 (by omega) | exact bne_iff_ne.2 (by omega)) <| WOL.mv rfl <| WOL.now (b:=true) rfl rfl <| WOL.fa rfl (fa_of fo1114_2) <| WOL.now (b:=true) rfl rfl <| WOL.ld rfl (load_one tp44 B6 rfl) <| WOL.now (b:=true) rfl rfl <| WOL.mv rfl <| WOL.now (b:=true) rfl rfl <| WOL.sub (m:=((acc.length:Nat):Int)) (n:=1) rfl rfl (by omega) (by omega) ?_
        rw [show ((acc.length:Nat):Int) - 1 = ((acc.length - 1:Nat):Int) by omega]
        refine WOL.now (b:=true) rfl rfl <| WOL.ix rfl rfl k1 <| WOL.now (b:=true) rfl rfl <| WOL.fa rfl (fa_of fo48_1) <| WOL.now (b:=true) rfl rfl <| WOL.ld rfl (load_one tp3 k2 k6) <| WOL.now (b:=true) rfl rfl <| WOL.mv rfl <| WOL.now (b:=true) rfl rfl ?_
        by_cases hq:(acc.getD (acc.length - 1) (0,0)).2 = (j:Int)
        · have ee:extS acc j = acc.set (acc.length - 1) ((acc.getD (acc.length - 1) (0,0)).1,((j + 1:Nat):Int)):=by unfold extS;rw [if_pos ⟨hne,hq⟩];rfl
          refine WOL.bt rfl rfl rfl (beq_iff_eq.2 hq) <| WOL.pkt rfl rfl <| WOL.nil <| keep [(0,_),(1,_),(4,_),(6,_),(7,_),(8,_),(60,_)] ⟨rfl,rfl,rfl,rfl,rfl,rfl,rfl,trivial⟩ ?_
          rcases O2 with ⟨_,e0⟩ | ⟨_,bA,rfl,hbA,AO⟩
          · exact absurd e0 hne
          have la:=AO.lt
          refine WL.yes rfl <| WL.reg <| WOL.fa rfl (fa_of fo1114_2) <| WOL.ld rfl (load_one tp44 B6 rfl) <| WOL.mv rfl <| WOL.sub (m:=((acc.length:Nat):Int)) (n:=1) rfl rfl (by omega) (by omega) ?_
          rw [show ((acc.length:Nat):Int) - 1 = ((acc.length - 1:Nat):Int) by omega]
          refine WOL.mv rfl <| WOL.inc rfl (by omega) <| WOL.ix rfl rfl (indexAddr_tp u44 tp48 (by omega)) <| WOL.fa rfl (fa_of fo48_1) ?_
          refine WOL.sto (vs:=[zi ((j + 1:Nat):Int)]) rfl rfl tp3 AO rfl rfl (by rw [eS.cat_len];omega) rfl (f.hx X3) (by omega) fun i4 M4 => ?_
          have D:=M4.at_
          rw [show (0:Nat) + (acc.length - 1) * 2 + 1 = (acc.length - 1) * 2 + 1 by omega,splice_one _ _ _ (by rw [eS.cat_len];omega),set_one _ _ _ _ hp] at D
          have n4:bA ≠ h.next ∧ bA ≠ h.next + 1:=⟨by omega,by omega⟩
          have lset:(acc.set (acc.length - 1) ((acc.getD (acc.length - 1) (0,0)).1,((j + 1:Nat):Int))).length = acc.length:=List.length_set
          refine WOL.nil fun a q => ⟨(w',.slice (some ⟨bA,0,none⟩) acc.length acc.length),⟨M4.hx _ X3 (by omega),M4.oth _ _ (by omega) B4,M4.oth _ _ (by omega) B6,?_,?_,?_,bs⟩,q.sub ⟨rfl,rfl,rfl,rfl,rfl,trivial⟩⟩
          · exact O1'.keep fun z y hz a => M4.oth _ _ (by have:=nw z hz;have:=lw2 bA rfl;omega) a
          · rw [eh,ee]
            refine .inr ⟨fun e => by rw [e] at lset;simp at lset;omega,bA,by rw [lset],hbA,D⟩
          · intro z hz e
            have e1:=nw z hz
            have e2:bA = z:=Option.some.inj e
            have:=lw2 bA rfl
            omega
        · refine WOL.bf rfl rfl rfl (beq_eq_false_iff_ne.2 hq) <| WOL.pkt rfl rfl <| WOL.nil <| keep [(0,_),(1,_),(4,_),(6,_),(7,_),(60,_)] ⟨rfl,rfl,rfl,rfl,rfl,rfl,trivial⟩ ?_
          exact WL.no rfl <| WL.reg <| kto (pushH (by unfold extS;rw [if_neg (fun q => hq q.2)])) ⟨rfl,rfl,rfl,rfl,rfl,trivial⟩
  · rintro ⟨w1,w2⟩ g ⟨X,A4,A6,O1,O2,ne,big⟩
    rw [List.take_length] at big
    have O1:OwnL encI (h.next + 2) g w1 3 (valC (C.take C.length)):=O1
    rw [List.take_length] at O1
    have O2:OwnL encS (h.next + 2) g w2 103 (holesN (C.map fun c => c.2) C.length):=O2
    obtain ⟨z1,e1⟩:=OwnF.form (Or.inl O1)
    obtain ⟨z2,e2⟩:=OwnF.form (Or.inl O2)
    refine WL.sr <| WOL.ld rfl (load_row tp1114 A6 rfl (Nat.le_of_ble_eq_true rfl)) <| WOL.sto (vs:=[zi n,w1,w2]) rfl rfl tp1114 A4 rfl rfl (Nat.le_of_ble_eq_true rfl) (by rw [e1,e2];rfl) (f.hx X) (Nat.le_refl _) fun i1 M1 => WOL.as rfl <| WOL.nil ?_
    refine WL.ret (WL.endC1 rfl rfl (load_row tp1114 M1.at_ rfl (Nat.le_of_ble_eq_true rfl)) ⟨M1.hx _ X (Nat.le_refl _),.inr ⟨big,w1,w2,rfl,?_,?_⟩⟩)
    · rcases O1.keep (h':=i1) (fun z y hz a => M1.oth _ _ (by have:=O1.lt hz;omega) a) with q | ⟨q1,b,q2,q3,q4⟩
      · exact .inl q
      · exact .inr ⟨q1,b,q2,by omega,q4⟩
    · show OwnL encS h.next i1 w2 103 (holesN _ _)
      rw [lB]
      rcases O2.keep (h':=i1) (fun z y hz a => M1.oth _ _ (by have:=O2.lt hz;omega) a) with q | ⟨q1,b,q2,q3,q4⟩
      · exact .inl q
      · exact .inr ⟨q1,b,q2,by omega,q4⟩
end
end Go.Tidy
namespace Go.Tidy
open Go Go.Proofs Tab
variable {tp:TProg}
def MadeR (n:Int) (C:List (Int × Bool)) (n0:Nat) (h':TH) (v:Value):Prop :=
 (bigC C = true ∧ v = .tuple #[trcV 0 (.slice none 0 0) (.slice none 0 0),zi 4]) ∨ (bigC C = false ∧ ∃ w1 w2,v = .tuple #[trcV n w1 w2,zi 0] ∧ OwnL encI n0 h' w1 3 (valC C) ∧ OwnL encS n0 h' w2 103 (holesOf (C.map fun c => c.2)))
theorem OwnL.low {α:Type} {enc:α → List Value} {n0 n1:Nat} {h:TH} {v:Value} {e:TypeId} {l:List α} (o:OwnL enc n1 h v e l) (h0:n0 ≤ n1):OwnL enc n0 h v e l:=by
 rcases o with q | ⟨q1,b,q2,q3,q4⟩
 ·exact .inl q
 ·exact .inr ⟨q1,b,q2,by omega,q4⟩
section
variable {h:TH} {n n':Int} {v1 v2 w1 w2:Value} {L1 L2:List Int} {S1 S2:List (Int × Int)}
end
end Go.Tidy
namespace Go.Tidy
open Go Go.Proofs Tab
variable {tp:TProg}
theorem tbl_get {α:Type} {f:Nat → α} {m i:Nat}:((List.range m).map f)[i]? = if i < m then some (f i) else none:=by
 rw [List.getElem?_map]
 by_cases h:i < m
 ·rw [List.getElem?_range h,if_pos h];rfl
 ·rw [List.getElem?_eq_none (by rw [List.length_range];omega),if_neg h];rfl
def upTo {α:Type} (z:α) (C:List α) (m j:Nat):List α:=(List.range m).map fun i => cond (decide (i < j)) (C.getD i z) z
section
variable {α:Type} {z:α} {C:List α} {m j:Nat}
theorem upTo_len:(upTo z C m j).length = m:=by unfold upTo;rw [List.length_map,List.length_range]
theorem upTo_zero:upTo z C m 0 = List.replicate m z:=by
 refine List.eq_replicate_iff.2 ⟨upTo_len,fun b hb => ?_⟩
 unfold upTo at hb
 obtain ⟨i,_,rfl⟩:=List.mem_map.1 hb
 rfl
theorem upTo_set:upTo z C m (j + 1) = (upTo z C m j).set j (C.getD j z):=by
 refine List.ext_getElem? fun i => ?_
 unfold upTo
 rw [tbl_get]
 by_cases e:i = j
 ·subst e
  by_cases h:i < m
  ·rw [if_pos h,List.getElem?_set_self (by rw [List.length_map,List.length_range];exact h),decide_eq_true (Nat.lt_succ_self i)];rfl
  ·rw [if_neg h,List.getElem?_eq_none (by rw [List.length_set,List.length_map,List.length_range];omega)]
 ·rw [List.getElem?_set_ne (by omega),tbl_get,show decide (i < j + 1) = decide (i < j) from decide_eq_decide.2 (by omega)]
theorem upTo_same (h:C.getD j z = z):upTo z C m (j + 1) = upTo z C m j:=by
 unfold upTo
 refine List.map_congr_left fun i _ => ?_
 by_cases e:i = j
 ·subst e
  rw [h]
  cases decide (i < i + 1) <;> cases decide (i < i) <;> rfl
 ·rw [show decide (i < j + 1) = decide (i < j) from decide_eq_decide.2 (by omega)]
theorem upTo_all (h:C.length = m):upTo z C m m = C:=by
 refine List.ext_getElem? fun i => ?_
 unfold upTo
 rw [tbl_get]
 by_cases hi:i < m
 ·rw [if_pos hi,decide_eq_true hi,List.getD_eq_getElem?_getD,List.getElem?_eq_getElem (by omega)];rfl
 ·rw [if_neg hi,List.getElem?_eq_none (by omega)]
end
theorem bigC_val (C:List (Int × Bool)):bigC C = (valC C).any largeB:=by
 unfold bigC valC
 rw [List.any_map]
 congr 1
 funext c
 obtain ⟨x,k⟩:=c
 cases k with
 | true => rfl
 | false => show false = largeB 0;rfl
def ProgR (n:Int) (e:Int) (C:List (Int × Bool)) (n0:Nat) (h':TH) (v:Value):Prop :=
 (e ≠ 0 ∧ v = .tuple #[trcV 0 (.slice none 0 0) (.slice none 0 0),zi e]) ∨ (e = 0 ∧ bigC C = true ∧ v = .tuple #[trcV 0 (.slice none 0 0) (.slice none 0 0),zi 4]) ∨ (e = 0 ∧ bigC C = false ∧ ∃ bv w,v = .tuple #[trcV n (slA bv C.length) w,zi 0] ∧ n0 ≤ bv ∧ TrcO n0 h' bv w (valC C) (holesOf (C.map fun c => c.2)))
section
variable {h:TH} {n n':Int} {v1 v2 w1 w2:Value} {L1 L2:List Int} {S1 S2:List (Int × Int)}
end
end Go.Tidy
namespace Go.Tidy
open Go Go.Proofs Tab
variable {tp:TProg}
theorem trace_ok {n:Int} {L:List Int} {S:List (Int × Int)} (h:traceE n L S = 0):(0 ≤ n ∧ n ≤ 100000000) ∧ (∀ i,-1073741824 ≤ L.getD i 0 ∧ L.getD i 0 ≤ 1073741824) ∧ holeE L.length (-1) S = 0 ∧ S.any (anyIn L) = false ∧ L.length ≤ 4096 ∧ n + (L.length:Int) ≤ 100000000:=by
  have all:=firstNZ_zero h
  have a1:=all _ (List.mem_cons_self ..)
  have a2:=all (cond (decide ((L.length:Int) > 4096)) 5 0) (by simp)
  have a3:=all (cond (decide (n + (L.length:Int) > 100000000)) 4 0) (by simp)
  have a4:=all (firstNZ (L.map readE)) (by simp)
  have a5:=all (cond (holeE L.length (-1) S != 0) (holeE L.length (-1) S) (formE L S)) (by simp)
  have a6:=firstNZ_zero a4
  have hh:holeE L.length (-1) S = 0:=by
    cases hb:(holeE L.length (-1) S != 0) with
    | true => rw [hb] at a5;exact a5
    | false => exact bne_eq_false_iff_eq.1 hb
  refine ⟨out_in a1,fun i => ?_,hh,?_,?_,?_⟩
  · rw [List.getD_eq_getElem?_getD]
    cases hL:L[i]? with
    | none => exact ⟨by decide,by decide⟩
    | some x =>
      have:=a6 _ (List.mem_map.2 ⟨x,List.mem_of_getElem? hL,rfl⟩)
      unfold readE outB at this
      show -1073741824 ≤ x ∧ x ≤ 1073741824
      cases h1:decide (x < -1073741824) with
      | true => rw [h1] at this;cases this
      | false =>
        cases h2:decide (x > 1073741824) with
        | true => rw [h1,h2] at this;cases this
        | false =>
          have:=of_decide_eq_false h1
          have:=of_decide_eq_false h2
          omega
  · rw [hh] at a5
    replace a5:formE L S = 0:=a5
    unfold formE at a5
    cases hf:S.any (anyIn L) with
    | true => rw [hf] at a5;cases a5
    | false => rfl
  · cases hb:decide ((L.length:Int) > 4096) with
    | true => rw [hb] at a2;cases a2
    | false => have:=of_decide_eq_false hb;omega
  · cases hb:decide (n + (L.length:Int) > 100000000) with
    | true => rw [hb] at a3;cases a3
    | false => have:=of_decide_eq_false hb;omega
section
variable {h:TH} {n n':Int} {v1 v2 w1 w2:Value} {L1 L2:List Int} {S1 S2:List (Int × Int)}
end
end Go.Tidy
namespace Go.Tidy
open Go Go.Proofs Tab
variable {tp:TProg}
def RevR (n p e:Int) (L:List Int) (S:List (Int × Int)) (n0:Nat) (h':TH) (v:Value):Prop :=
 (e ≠ 0 ∧ v = .tuple #[trcV 0 (.slice none 0 0) (.slice none 0 0),zi e]) ∨ (e = 0 ∧ (2 * p + 1 - (n + L.length) < 0 ∨ 2 * p + 1 - (n + L.length) + L.length > 100000000) ∧ v = .tuple #[trcV 0 (.slice none 0 0) (.slice none 0 0),zi 14]) ∨ (e = 0 ∧ 0 ≤ 2 * p + 1 - (n + L.length) ∧ 2 * p + 1 - (n + L.length) + L.length ≤ 100000000 ∧ ∃ bv w,v = .tuple #[trcV (2 * p + 1 - (n + L.length)) (slA bv L.length) w,zi 0] ∧ n0 ≤ bv ∧ TrcO n0 h' bv w L.reverse (holesOf (knownL S L.length).reverse))
section
variable {h:TH} {n p:Int} {v1 v2:Value} {L:List Int} {S:List (Int × Int)}
end
end Go.Tidy
namespace Go.Tidy
open Go Go.Proofs Tab
variable {tp:TProg}
def RefR (n p:Int) (L:List Int) (S:List (Int × Int)) (n0:Nat) (h':TH) (v:Value):Prop :=
 ((2 * p + 1 - (n + L.length) < 0 ∨ 2 * p + 1 - (n + L.length) + L.length > 100000000) ∧ v = .tuple #[trcV 0 (.slice none 0 0) (.slice none 0 0),zi 14]) ∨ (0 ≤ 2 * p + 1 - (n + L.length) ∧ 2 * p + 1 - (n + L.length) + L.length ≤ 100000000 ∧ MadeR (2 * p + 1 - (n + L.length)) (zipK L S L.length).reverse n0 h' v)
section
variable {h:TH} {n p:Int} {v1 v2:Value} {L:List Int} {S:List (Int × Int)}
end
end Go.Tidy
namespace Go.Tidy
open Go Go.Proofs Tab
variable {tp:TProg}
section
variable {h:TH} {n n' e:Int} {v1 v2 w1 w2:Value} {L:List Int} {S:List (Int × Int)}
theorem k1150 (H:Has tp) {b1 b2:Option Addr} {m1 c1 m2 c2:Nat} (f:Free0 h.next h):CallW Tryz.prog tp (.func (.func 53) #[] #[]) #[trcV n (.slice b1 m1 c1) (.slice b2 m2 c2)] h fun v h' => v = trcV n (.slice b1 m1 c1) (.slice b2 m2 c2) ∧ HX h h':=by
 refine CallW.fnL (H.fn 53 f1150 rfl rfl) ?_
 refine WL.sr <| WOL.box rfl fun h1 N1 => WOL.al tp1114 fun h2 N2 => WOL.nil <| keep [(1,_),(2,_)] ⟨rfl,rfl,trivial⟩ ?_
 have n1:=N1.next
 have n2:=N2.next
 have A1:At h2 h.next (.cells [zi n,.slice b1 m1 c1,.slice b2 m2 c2] true true 31):=N1.at_.hx N2.hx
 have X2:=N1.hx.trans N2.hx
 refine WL.sr <| WOL.ld rfl (load_row tp1117 A1 rfl (Nat.le_of_ble_eq_true rfl)) <| WOL.sto (vs:=[zi n,.slice b1 m1 c1,.slice b2 m2 c2]) rfl rfl tp1114 N2.at_ rfl rfl (Nat.le_of_ble_eq_true rfl) rfl (f.hx X2) (by omega) fun h3 P3 => WOL.nil ?_
 exact WL.ret (WL.endC rfl (load_row tp1114 P3.at_ rfl (Nat.le_of_ble_eq_true rfl)) ⟨rfl,P3.hx _ X2 (by omega)⟩)
theorem ints_form {v:Value} (i:IsInts h v L):∃ b m c,v = .slice b m c:=by
 rcases i with ⟨rfl,_⟩ | ⟨b,c,_,_,_,rfl,_⟩
 ·exact ⟨_,_,_,rfl⟩
 ·exact ⟨_,_,_,rfl⟩
theorem k1124 (H:Has tp) (i1:IsInts h v1 L) (s1:SlL encS 2 h v2 S) {b3 b4:Option Addr} {m3 c3 m4 c4:Nat} (e1:w1 = .slice b3 m3 c3) (e2:w2 = .slice b4 m4 c4) (hL:L.length ≤ 1000000) (hS:S.length ≤ 1000000) (f:Free0 h.next h)
  (c:(e ≠ 0 ∧ n = 0 ∧ L = [] ∧ S = []) ∨ (e = 0 ∧ n = n' ∧ IsInts h w1 L ∧ SlL encS 2 h w2 S)):CallW Tryz.prog tp (.func (.func 24) #[] #[]) #[trcV n v1 v2,zi e,zi e,trcV n' w1 w2] h fun v h' => v = .bool true ∧ HX h h':=by
 obtain ⟨b1,m1,c1,rfl⟩:=ints_form i1
 obtain ⟨b2,k2,q2,_⟩:=id s1
 subst q2 e1 e2
 refine CallW.fnL (H.fn 24 f1124 rfl rfl) ?_
 refine WL.sr <| WOL.box rfl fun h1 N1 => WOL.box rfl fun h2 N2 => WOL.as rfl <| WOL.nil <| keep [(1,_),(2,_),(4,_),(7,_)] ⟨rfl,rfl,rfl,rfl,trivial⟩ ?_
 have n1:=N1.next
 have n2:=N2.next
 have A4:At h2 h.next (.cells [zi n,.slice b1 m1 c1,.slice b2 S.length k2] true true 31):=N1.at_.hx N2.hx
 have A7:At h2 h1.next (.cells [zi n',.slice b3 m3 c3,.slice b4 m4 c4] true true 27):=N2.at_
 have X2:=N1.hx.trans N2.hx
 have fin:∀ {g:TH} {y1 y2:Value},HX h g → At g h.next (.cells [zi n,.slice b1 m1 c1,.slice b2 S.length k2] true true 31) → At g h1.next (.cells [zi n,y1,y2] true true 27) → IsInts g y1 L → SlL encS 2 g y2 S → ∀ a,Kn [(1,zi e),(2,zi e),(4,ptr h.next),(7,ptr h1.next)] a → W Tryz.prog tp false (.seq (.reg r1124_3) .ret) a g (Fin Tryz.prog [.tmp 8] fun v h' => v = .bool true ∧ HX h h'):=by
  intro g y1 y2 X B4 B7 i s
  refine WL.sr <| WOL.ld rfl (load_row tp1117 B4 rfl (Nat.le_of_ble_eq_true rfl)) <| WOL.ld rfl (load_row tp1114 B7 rfl (Nat.le_of_ble_eq_true rfl)) ?_
  refine WOL.lq1 [h1.next] rfl rfl rfl fun M hM => ((k1150 (h:=g.withLock M) H ((f.on X).held hM (fun b hb => by have:=X.next;have:=B7.lt;simp at hb;omega))).mono ?_)
  rintro v h4 ⟨rfl,X4⟩
  replace X4:=X4.relock
  generalize h4.withLock g.lock = h4 at *
  refine WOL.cl2 rfl rfl rfl ((k1152 H (i1.hx (X.trans X4)) (i.hx X4) (s1.hx (X.trans X4)) (s.hx X4) hL hS).mono ?_)
  rintro v h5 ⟨rfl,X5⟩
  refine WOL.mv rfl <| WOL.now (b:=true) rfl rfl <| WOL.mv rfl <| WOL.now (b:=true) rfl rfl <| WOL.mv rfl <| WOL.now (b:=true) rfl rfl <| WOL.bt rfl rfl rfl (by first | exact decide_eq_true (by omega) | exact beq_iff_eq.2 (by omega) | exact bne_iff_ne.2 (by omega)) <| WOL.pkt rfl rfl <| WOL.as rfl <| WOL.nil ?_
  exact WL.ret (WL.end_ rfl ⟨rfl,(X.trans X4).trans X5⟩)
 rcases c with ⟨c1',rfl,rfl,rfl⟩ | ⟨rfl,rfl,i,s⟩
 ·refine WL.seq <| WL.sr <| WOL.mv rfl <| WOL.bt rfl rfl rfl (bne_iff_ne.2 c1') <| WOL.nil <| keep [(1,_),(2,_),(4,_),(7,_),(10,_)] ⟨rfl,rfl,rfl,rfl,rfl,trivial⟩ ?_
  refine WL.yes rfl <| WL.reg <| WOL.bd rfl bd1114z <| WOL.sto (vs:=[zi 0,.slice none 0 0,.slice none 0 0]) rfl rfl tp1114 A7 rfl rfl (Nat.le_of_ble_eq_true rfl) rfl (f.hx X2) (by omega) fun i1 M1 => WOL.nil ?_
  have P:=M1.hx _ X2 (by omega)
  exact kto (fin P (M1.oth _ _ (by omega) A4) M1.at_ (.inl ⟨rfl,rfl⟩) SlL.nil) ⟨rfl,rfl,rfl,rfl,trivial⟩
 ·refine WL.seq <| WL.sr <| WOL.mv rfl <| WOL.bf rfl rfl rfl rfl <| WOL.nil <| keep [(1,_),(2,_),(4,_),(7,_),(10,_)] ⟨rfl,rfl,rfl,rfl,rfl,trivial⟩ ?_
  refine WL.no rfl <| WL.skip ?_
  exact kto (fin X2 A4 A7 (i.hx X2) (s.hx X2)) ⟨rfl,rfl,rfl,rfl,trivial⟩
end
end Go.Tidy
namespace Go.Tidy
open Go Go.Proofs Tab
theorem dark_zero {L:List Int} {S:List (Int × Int)} {i:Nat} (h:S.any (anyIn L) = false) (hi:knownB S (i:Int) = false):L.getD i 0 = 0:=by
 unfold knownB at hi
 rw [Bool.not_eq_false'] at hi
 obtain ⟨p,hp,hx⟩:=List.any_eq_true.1 hi
 have ha:=List.any_eq_false.1 h p hp
 unfold inS at hx
 simp only [Bool.and_eq_true,decide_eq_true_eq] at hx
 rw [List.getD_eq_getElem?_getD]
 cases hL:L[i]? with
 | none => rfl
 | some x =>
  show x = 0
  have hm:x ∈ (L.drop p.1.toNat).take (p.2.toNat - p.1.toNat):=by
   refine List.mem_of_getElem? (i:=i - p.1.toNat) ?_
   rw [List.getElem?_take_of_lt (by omega),List.getElem?_drop,show p.1.toNat + (i - p.1.toNat) = i by omega]
   exact hL
  by_cases h0:x = 0
  ·exact h0
  ·exact absurd (show anyIn L p = true by unfold anyIn;exact List.any_eq_true.2 ⟨x,hm,bne_iff_ne.2 h0⟩) ha
theorem zip_val {L:List Int} {S:List (Int × Int)} (h:S.any (anyIn L) = false):valC (zipK L S L.length) = L:=by
 unfold valC zipK
 rw [List.map_map]
 refine List.ext_getElem? fun i => ?_
 rw [List.getElem?_map]
 by_cases hi:i < L.length
 ·rw [List.getElem?_range hi,List.getElem?_eq_getElem hi]
  show some (cond (knownB S (i:Int)) (L.getD i 0) 0) = some L[i]
  have e:L.getD i 0 = L[i]:=by rw [List.getD_eq_getElem?_getD,List.getElem?_eq_getElem hi];rfl
  cases hk:knownB S (i:Int) with
  | true => rw [← e];rfl
  | false => rw [← e,dark_zero h hk];rfl
 ·rw [List.getElem?_eq_none (by rw [List.length_range];omega),List.getElem?_eq_none (by omega)];rfl
theorem zip_known {L:List Int} {S:List (Int × Int)} {m:Nat}:((zipK L S m).map fun c => c.2) = knownL S m:=by
 unfold zipK knownL
 rw [List.map_map];rfl
theorem rev_val {L:List Int} {S:List (Int × Int)} (h:S.any (anyIn L) = false):valC (zipK L S L.length).reverse = L.reverse:=by
 unfold valC
 rw [List.map_reverse]
 exact congrArg List.reverse (zip_val h)
theorem rev_known {L:List Int} {S:List (Int × Int)} {m:Nat}:((zipK L S m).reverse.map fun c => c.2) = (knownL S m).reverse:=by
 rw [List.map_reverse,zip_known]
theorem rev_big {L:List Int} {S:List (Int × Int)} {m:Nat} (lim:∀ i,-1073741824 ≤ L.getD i 0 ∧ L.getD i 0 ≤ 1073741824):bigC (zipK L S m).reverse = false:=by
 unfold bigC
 refine List.any_eq_false.2 fun c hc => ?_
 obtain ⟨i,_,rfl⟩:=List.mem_map.1 (List.mem_reverse.1 hc)
 have e:largeB (L.getD i 0) = false:=by
  obtain ⟨l1,l2⟩:=lim i
  unfold largeB readE outB
  rw [decide_eq_false (by omega),decide_eq_false (by omega)];rfl
 simp only [e,Bool.and_false]
 decide
def Ans (n:Int) (o:Int × List Int × List (Int × Int)) (n0:Nat) (g:TH) (v:Value):Prop:=∃ z y1 y2,v = .tuple #[trcV z y1 y2,zi o.1] ∧ IsInts g y1 o.2.1 ∧ SlL encS 2 g y2 o.2.2 ∧ (∀ z,bl y1 = some z → n0 ≤ z) ∧ (∀ z,bl y2 = some z → n0 ≤ z) ∧ ((o.1 ≠ 0 ∧ z = 0 ∧ o.2.1 = [] ∧ o.2.2 = []) ∨ (o.1 = 0 ∧ z = n))
def sumO (e:Int) (C:List (Int × Bool)):Int × List Int × List (Int × Int):=if e ≠ 0 then (e,[],[]) else if bigC C = true then (4,[],[]) else (0,valC C,holesOf (C.map fun c => c.2))
def revO (n p e:Int) (L:List Int) (S:List (Int × Int)):Int × List Int × List (Int × Int):=if e ≠ 0 then (e,[],[]) else if 2 * p + 1 - (n + L.length) < 0 ∨ 2 * p + 1 - (n + L.length) + L.length > 100000000 then (14,[],[]) else (0,L.reverse,holesOf (knownL S L.length).reverse)
theorem Ans.err {n e:Int} {n0:Nat} {g:TH} {v:Value} (he:e ≠ 0) (hv:v = .tuple #[trcV 0 (.slice none 0 0) (.slice none 0 0),zi e]):Ans n (e,[],[]) n0 g v:=⟨0,_,_,hv,.inl ⟨rfl,rfl⟩,SlL.nil,fun z hz => (by cases hz),fun z hz => (by cases hz),.inl ⟨he,rfl,rfl,rfl⟩⟩
theorem TrcO.ints {n0 bv m:Nat} {g:TH} {w:Value} {L:List Int} {S:List (Int × Int)} (r:TrcO n0 g bv w L S) (hm:m = L.length):IsInts g (slA bv m) L:=by
 subst hm
 have:=r.v
 rw [cat_I] at this
 exact .inr ⟨bv,L.length,_,_,_,rfl,this.lt,this.get⟩
theorem ProgR.ans {n e:Int} {C:List (Int × Bool)} {n0:Nat} {g:TH} {v:Value} (r:ProgR n e C n0 g v):Ans n (sumO e C) n0 g v:=by
 unfold sumO
 rcases r with ⟨h1,h2⟩ | ⟨rfl,h1,h2⟩ | ⟨rfl,h1,bv,w,h2,hb,h3⟩
 ·rw [if_pos h1];exact Ans.err h1 h2
 ·rw [if_neg (by decide),if_pos h1];exact Ans.err (by decide) h2
 ·rw [if_neg (by decide),if_neg (by rw [h1];decide)]
  exact ⟨n,_,_,h2,h3.ints (by unfold valC;rw [List.length_map]),h3.s.sl eS,fun z hz => (by have:bv = z:=Option.some.inj hz;omega),fun z hz => (h3.s.lt hz).1,.inr ⟨rfl,rfl⟩⟩
theorem MadeR.ans {n:Int} {C:List (Int × Bool)} {n0:Nat} {g:TH} {v:Value} (r:MadeR n C n0 g v):Ans n (sumO 0 C) n0 g v:=by
 unfold sumO
 rw [if_neg (by decide)]
 rcases r with ⟨h1,h2⟩ | ⟨h1,w1,w2,h2,h3,h4⟩
 ·rw [if_pos h1];exact Ans.err (by decide) h2
 ·rw [if_neg (by rw [h1];decide)]
  exact ⟨n,_,_,h2,ownI_ints h3,h4.sl eS,fun z hz => (h3.lt hz).1,fun z hz => (h4.lt hz).1,.inr ⟨rfl,rfl⟩⟩
theorem RevR.ans {n p e:Int} {L:List Int} {S:List (Int × Int)} {n0:Nat} {g:TH} {v:Value} (r:RevR n p e L S n0 g v):Ans (2 * p + 1 - (n + L.length)) (revO n p e L S) n0 g v:=by
 unfold revO
 rcases r with ⟨h1,h2⟩ | ⟨rfl,h1,h2⟩ | ⟨rfl,h0,h1,bv,w,h2,hb,h3⟩
 ·rw [if_pos h1];exact Ans.err h1 h2
 ·rw [if_neg (by decide),if_pos h1];exact Ans.err (by decide) h2
 ·rw [if_neg (by decide),if_neg (by omega)]
  exact ⟨_,_,_,h2,h3.ints (by rw [List.length_reverse]),h3.s.sl eS,fun z hz => (by have:bv = z:=Option.some.inj hz;omega),fun z hz => (h3.s.lt hz).1,.inr ⟨rfl,rfl⟩⟩
theorem RefR.ans {n p:Int} {L:List Int} {S:List (Int × Int)} {n0:Nat} {g:TH} {v:Value} (hd:S.any (anyIn L) = false) (lim:∀ i,-1073741824 ≤ L.getD i 0 ∧ L.getD i 0 ≤ 1073741824) (r:RefR n p L S n0 g v):Ans (2 * p + 1 - (n + L.length)) (revO n p 0 L S) n0 g v:=by
 unfold revO
 rw [if_neg (by decide)]
 rcases r with ⟨h1,h2⟩ | ⟨h0,h1,h2⟩
 ·rw [if_pos h1];exact Ans.err (by decide) h2
 ·rw [if_neg (by omega)]
  have:=h2.ans
  unfold sumO at this
  rw [if_neg (by decide),if_neg (by rw [rev_big lim];decide),rev_val hd,rev_known] at this
  exact this
end Go.Tidy
namespace Go.Tidy
open Go Go.Proofs Tab
def tapN (L:List Int) (i:Nat):List (Nat × Int) → Int → Int
 | [],s => s
 | t :: T,s => tapN L i T (s + t.2 * L.getD (i + t.1) 0)
def tapK (S:List (Int × Int)) (i:Nat) (T:List (Nat × Int)):Bool:=T.all fun t => knownB S ((i + t.1:Nat):Int)
def tapC (L:List Int) (S:List (Int × Int)) (T:List (Nat × Int)) (m:Nat):List (Int × Bool):=(List.range m).map fun i => (tapN L i T 0,tapK S i T)
theorem tapC_len {L:List Int} {S:List (Int × Int)} {T:List (Nat × Int)} {m:Nat}:(tapC L S T m).length = m:=by unfold tapC;rw [List.length_map,List.length_range]
theorem tapC_succ {L:List Int} {S:List (Int × Int)} {T:List (Nat × Int)} {m:Nat}:tapC L S T (m + 1) = tapC L S T m ++ [(tapN L m T 0,tapK S m T)]:=by
 unfold tapC
 rw [List.range_succ,List.map_append]
 rfl
theorem tapC_get {L:List Int} {S:List (Int × Int)} {T:List (Nat × Int)} {m i:Nat} (h:i < m):(tapC L S T m)[i]? = some (tapN L i T 0,tapK S i T):=by
 unfold tapC
 rw [tbl_get,if_pos h]
theorem tapN_app {L:List Int} {i:Nat}:∀ {T U:List (Nat × Int)} {s:Int},tapN L i (T ++ U) s = tapN L i U (tapN L i T s)
 | [],_,_ => rfl
 | t :: T,U,s => by
  show tapN L i (T ++ U) _ = tapN L i U (tapN L i T _)
  exact tapN_app
theorem tapN_lim {L:List Int} {i:Nat} (hL:∀ j,-1073741824 ≤ L.getD j 0 ∧ L.getD j 0 ≤ 1073741824):∀ {T:List (Nat × Int)} {s B:Int},(∀ t,t ∈ T → -10000 ≤ t.2 ∧ t.2 ≤ 10000) → -B ≤ s → s ≤ B → -(B + T.length * 10737418240000) ≤ tapN L i T s ∧ tapN L i T s ≤ B + T.length * 10737418240000
  | [],s,B,_,h1,h2 => by
    show -(B + ((0:Nat):Int) * _) ≤ s ∧ s ≤ B + ((0:Nat):Int) * _
    omega
  | t :: T,s,B,hT,h1,h2 => by
    obtain ⟨a1,a2⟩:=hT t (List.mem_cons_self ..)
    obtain ⟨b1,b2⟩:=hL (i + t.1)
    have hp:(t.2 * L.getD (i + t.1) 0).natAbs ≤ 10737418240000:=by
      rw [Int.natAbs_mul]
      exact Nat.le_trans (Nat.mul_le_mul (show t.2.natAbs ≤ 10000 by omega) (show (L.getD (i + t.1) 0).natAbs ≤ 1073741824 by omega)) (by decide)
    have ih:=tapN_lim (i:=i) hL (T:=T) (s:=s + t.2 * L.getD (i + t.1) 0) (B:=B + 10737418240000) (fun u hu => hT u (List.mem_cons_of_mem _ hu)) (by omega) (by omega)
    show _ ≤ tapN L i T _ ∧ tapN L i T _ ≤ _
    rw [List.length_cons]
    omega
end Go.Tidy
namespace Go.Tidy
open Go Go.Proofs Tab
variable {tp:TProg}
theorem tp1242:Tp Tryz.prog 192 2 [.int .i64 0,.int .i64 0] true:=tp_of (by kernel_rfl) (by kernel_rfl) rfl
theorem u1214:Tryz.prog.underlying 142 = some (.slice 192):=by kernel_rfl
theorem fo1242_0:fieldOff Tryz.prog 192 0 = some 0:=by kernel_rfl
theorem fo1242_1:fieldOff Tryz.prog 192 1 = some 1:=by kernel_rfl
theorem tp1214:Tp Tryz.prog 142 1 [.slice none 0 0] false:=tp_of (by kernel_rfl) (by kernel_rfl) rfl
theorem bd1242 {a b:Int}:buildT Tryz.prog 192 [(0,zi a),(1,zi b)] = some (.agg #[zi a,zi b]):=by kernel_rfl
theorem filled_taps3 (a b c:Int × Int):filled 2 3 [zi 0,zi 0] [(0,.agg #[zi a.1,zi a.2]),(1,.agg #[zi b.1,zi b.2]),(2,.agg #[zi c.1,zi c.2])] = some (cat encS [a,b,c]):=by
 rfl
def tapB (B:List Bool) (i:Nat) (T:List (Nat × Int)):Bool:=T.all fun t => B.getD (i + t.1) false
theorem tapB_known {S:List (Int × Int)} {m i:Nat} {T:List (Nat × Int)} (h:∀ t,t ∈ T → i + t.1 < m):tapB (knownL S m) i T = tapK S i T:=by
 unfold tapB tapK
 rw [Bool.eq_iff_iff,List.all_eq_true,List.all_eq_true]
 have e:∀ t,t ∈ T → (knownL S m).getD (i + t.1) false = knownB S ((i + t.1:Nat):Int):=fun t ht => by
  rw [List.getD_eq_getElem?_getD,knownL_get (h t ht)];rfl
 exact ⟨fun q t ht => (e t ht) ▸ q t ht,fun q t ht => (e t ht).symm ▸ q t ht⟩
def tapD (c:Int) (T:List (Nat × Int)):List (Int × Int):=T.map fun t => ((t.1:Int) + c,t.2)
theorem mul_lim {w x:Int} (a1:-10000 ≤ w) (a2:w ≤ 10000) (b1:-1073741824 ≤ x) (b2:x ≤ 1073741824):-10737418240000 ≤ w * x ∧ w * x ≤ 10737418240000:=by
 have hp:(w * x).natAbs ≤ 10737418240000:=by
  rw [Int.natAbs_mul]
  exact Nat.le_trans (Nat.mul_le_mul (show w.natAbs ≤ 10000 by omega) (show x.natAbs ≤ 1073741824 by omega)) (by decide)
 omega
section
variable {h:TH} {n:Int} {L:List Int} {B:List Bool} {bv bk:Nat}
set_option maxRecDepth 10000 in
theorem k1199 (H:Has tp) {a b:Int} (a1:-1000000 ≤ a) (a2:a ≤ 1000000) (b1:-1000000 ≤ b) (b2:b ≤ 1000000) (h:TH):CallW Tryz.prog tp (.func (.func 99) #[] #[]) #[.agg #[zi a,zi b]] h fun v h' => v = zi (a + b) ∧ HX h h':=by
 refine CallW.fnL (H.fn 99 f1199 rfl rfl) ?_
 refine WL.sr <| WOL.box rfl fun h1 N1 => WOL.as rfl <| WOL.nil <| keep [(1,_)] ⟨rfl,trivial⟩ ?_
 have A1:At h1 h.next (.cells [zi a,zi b] true true 44):=N1.at_
 refine WL.sr ?_
 repeat' (first
  | refine WOL.now (b:=true) rfl rfl ?_
  | refine WOL.now (b:=false) rfl rfl ?_
  | refine WOL.skp (b:=true) rfl rfl ?_
  | refine WOL.skp (b:=false) rfl rfl ?_
  | refine WOL.gu rfl rfl ?_
  | refine WOL.mv rfl ?_
  | refine WOL.as rfl ?_
  | refine WOL.ex rfl rfl ?_
  | refine WOL.nt rfl ?_
  | refine WOL.pkt rfl rfl ?_
  | refine WOL.pkf rfl rfl ?_
  | refine WOL.fa rfl (fa_of (by first | exact fo1117_0 | exact fo1117_1 | exact fo1117_2 | exact fo1114_0 | exact fo1114_1 | exact fo1114_2 | exact fo1194_0 | exact fo1194_1 | exact fo1112_0 | exact fo1112_1 | exact fo1128_0 | exact fo1128_1 | exact fo48_0 | exact fo48_1 | exact fo1207_0 | exact fo1207_1)) ?_
  | refine WOL.ld rfl (load_one (by first | exact tp3 | exact tp29 | exact tp4 | exact tp145 | exact tp44 | exact tp48 | exact tp1117 | exact tp1114 | exact tp1194 | exact tp1112 | exact tp1128 | exact tp1207) A1 rfl) ?_
  | refine WOL.ld rfl (load_row (by first | exact tp3 | exact tp29 | exact tp4 | exact tp145 | exact tp44 | exact tp48 | exact tp1117 | exact tp1114 | exact tp1194 | exact tp1112 | exact tp1128 | exact tp1207) A1 rfl (Nat.le_of_ble_eq_true rfl)) ?_
  | refine WOL.add rfl rfl (by omega) (by omega) ?_
  | refine WOL.sub rfl rfl (by omega) (by omega) ?_
  | refine WOL.bt rfl rfl rfl (by first | exact decide_eq_true (by omega) | exact beq_iff_eq.2 (by omega) | exact bne_iff_ne.2 (by omega)) ?_
  | refine WOL.bf rfl rfl rfl (by first | exact decide_eq_false (by omega) | exact beq_eq_false_iff_ne.2 (by omega) | exact bne_eq_false_iff_eq.2 (by omega)) ?_)
 exact WOL.nil <| WL.ret (WL.end_ rfl ⟨rfl,N1.hx⟩)
set_option maxRecDepth 10000 in
theorem k1194 (H:Has tp) {a b:Int} (a1:-1000000 ≤ a) (a2:a ≤ 1000000) (b1:-1000000 ≤ b) (b2:b ≤ 1000000) (h:TH):CallW Tryz.prog tp (.func (.func 94) #[] #[]) #[.agg #[zi a,zi b]] h fun v h' => HX h h' ∧ ∃ c,v = slA c 3 ∧ h.next ≤ c ∧ At h' c (.cells (cat encS [(-a,-b),(0,a + b),(b,-a)]) true true 192):=by
 refine CallW.fnL (H.fn 94 f1194 rfl rfl) ?_
 refine WL.sr <| WOL.box rfl fun h1 N1 => WOL.as rfl <| WOL.nil <| keep [(1,_)] ⟨rfl,trivial⟩ ?_
 have n1:=N1.next
 have A1:At h1 h.next (.cells [zi a,zi b] true true 44):=N1.at_
 refine WL.sr ?_
 repeat' (first
  | refine WOL.neg rfl (by omega) (by omega) ?_
  | refine WOL.bd rfl bd1242 ?_
  | refine WOL.now (b:=true) rfl rfl ?_
  | refine WOL.now (b:=false) rfl rfl ?_
  | refine WOL.skp (b:=true) rfl rfl ?_
  | refine WOL.skp (b:=false) rfl rfl ?_
  | refine WOL.gu rfl rfl ?_
  | refine WOL.mv rfl ?_
  | refine WOL.as rfl ?_
  | refine WOL.ex rfl rfl ?_
  | refine WOL.nt rfl ?_
  | refine WOL.pkt rfl rfl ?_
  | refine WOL.pkf rfl rfl ?_
  | refine WOL.fa rfl (fa_of (by first | exact fo1117_0 | exact fo1117_1 | exact fo1117_2 | exact fo1114_0 | exact fo1114_1 | exact fo1114_2 | exact fo1194_0 | exact fo1194_1 | exact fo1112_0 | exact fo1112_1 | exact fo1128_0 | exact fo1128_1 | exact fo48_0 | exact fo48_1 | exact fo1207_0 | exact fo1207_1)) ?_
  | refine WOL.ld rfl (load_one (by first | exact tp3 | exact tp29 | exact tp4 | exact tp145 | exact tp44 | exact tp48 | exact tp1117 | exact tp1114 | exact tp1194 | exact tp1112 | exact tp1128 | exact tp1207) A1 rfl) ?_
  | refine WOL.ld rfl (load_row (by first | exact tp3 | exact tp29 | exact tp4 | exact tp145 | exact tp44 | exact tp48 | exact tp1117 | exact tp1114 | exact tp1194 | exact tp1112 | exact tp1128 | exact tp1207) A1 rfl (Nat.le_of_ble_eq_true rfl)) ?_
  | refine WOL.add rfl rfl (by omega) (by omega) ?_
  | refine WOL.sub rfl rfl (by omega) (by omega) ?_
  | refine WOL.bt rfl rfl rfl (by first | exact decide_eq_true (by omega) | exact beq_iff_eq.2 (by omega) | exact bne_iff_ne.2 (by omega)) ?_
  | refine WOL.bf rfl rfl rfl (by first | exact decide_eq_false (by omega) | exact beq_eq_false_iff_ne.2 (by omega) | exact bne_eq_false_iff_eq.2 (by omega)) ?_)
 refine WOL.lk1 rfl rfl fun M => ((k1199 H a1 a2 b1 b2 _).mono ?_)
 rintro v h2 ⟨rfl,X2⟩
 replace X2:=X2.relock
 generalize h2.withLock h1.lock = h2 at *
 have x2:=X2.next
 refine WOL.bd rfl bd1242 <| WOL.bsl rfl u1214 tp1242 (by decide) (by decide) (by decide) (filled_taps3 (-a,-b) (0,a + b) (b,-a)) fun h3 N3 => WOL.as rfl <| WOL.nil ?_
 exact WL.ret (WL.end_ rfl ⟨(N1.hx.trans X2).trans N3.hx,h2.next,rfl,by omega,N3.at_⟩)
set_option maxHeartbeats 2000000 in
set_option maxRecDepth 10000 in
theorem k1226 (H:Has tp) (r:RowA h bv bk L B) {T:List (Nat × Int)} {c p:Int} {i:Nat} {v:Value} (s:SlL encS 2 h v (tapD c T)) (hp:p + c = n + (i:Nat)) (hT:∀ t,t ∈ T → i + t.1 < L.length) (hw:∀ t,t ∈ T → -10000 ≤ t.2 ∧ t.2 ≤ 10000) (lT:T.length ≤ 1000) (lim:∀ j,-1073741824 ≤ L.getD j 0 ∧ L.getD j 0 ≤ 1073741824) (h0:0 ≤ n) (h1:n ≤ 1000000000) (hl:L.length ≤ 1000000) (c1:-1000000 ≤ c) (c2:c ≤ 1000000) (f:Free0 h.next h) :
    CallW Tryz.prog tp (.func (.func 137) #[] #[]) #[rowV n (slA bv L.length) (slA bk L.length),zi p,v] h fun v h' => v = .tuple #[zi (cond (tapB B i T) (tapN L i T 0) 0),.bool (tapB B i T)] ∧ HX h h':=by
  refine CallW.fnL (H.fn 137 f1226 rfl rfl) ?_
  refine WL.sr <| WOL.box rfl fun h1 N1 => WOL.as rfl <| WOL.as rfl <| WOL.nil <| keep [(1,_),(2,_),(3,_)] ⟨rfl,rfl,rfl,trivial⟩ ?_
  have n1:=N1.next
  have A1:At h1 h.next (.cells [zi n,slA bv L.length,.slice none 0 0,slA bk L.length] true true 113):=N1.at_
  have lD:(tapD c T).length = T.length:=by unfold tapD;rw [List.length_map]
  refine WL.sr <| WOL.as rfl <| WOL.nil ?_
  refine WL.seq <| WL.sr <| WOL.mv rfl <| WOL.len rfl (s.hx N1.hx) u1214 <| WOL.mv rfl <| WOL.nil <| keep [(1,_),(3,_),(8,_),(13,_),(14,_),(15,_)] ⟨rfl,rfl,rfl,rfl,rfl,rfl,trivial⟩ ?_
  rw [lD]
  refine WL.upto (α:=Int) T.length (fun j z g => HX h1 g ∧ tapB B i (T.take j) = true ∧ z = tapN L i (T.take j) 0) (fun j z => [(1,zi p),(3,ptr h.next),(8,zi z),(13,v),(14,zi (T.length:Nat))]) 0 rfl rfl (by omega) ⟨HX.refl _,rfl,rfl⟩ ⟨rfl,rfl,rfl,rfl,rfl,rfl,trivial⟩ (fun _ _ => rfl) (fun _ _ _ => ⟨rfl,rfl,rfl,rfl,rfl,rfl,trivial⟩) (fun _ _ _ => ⟨rfl,rfl,rfl,rfl,rfl,rfl,trivial⟩) ?_ ?_
  · rintro j z g hj ⟨X,hB,hz⟩
    have hm:T[j] ∈ T:=List.getElem_mem hj
    have ht:T[j]? = some T[j]:=List.getElem?_eq_getElem hj
    have hz':tapN L i (T.take j) 0 + T[j].2 * L.getD (i + T[j].1) 0 = tapN L i (T.take (j + 1)) 0:=by
      rw [← List.take_append_getElem hj,tapN_app];rfl
    have hB':tapB B i (T.take (j + 1)) = B.getD (i + T[j].1) false:=by
      rw [← List.take_append_getElem hj]
      unfold tapB at hB ⊢
      rw [List.all_append,hB]
      simp
    have hT':=hT _ hm
    obtain ⟨w1,w2⟩:=hw _ hm
    generalize T[j] = t at *
    obtain ⟨o,w⟩:=t
    replace hT':i + o < L.length:=hT'
    replace w1:-10000 ≤ w:=w1
    replace w2:w ≤ 10000:=w2
    replace hz':tapN L i (T.take j) 0 + w * L.getD (i + o) 0 = tapN L i (T.take (j + 1)) 0:=hz'
    replace hB':tapB B i (T.take (j + 1)) = B.getD (i + o) false:=hB'
    have hd:(tapD c T)[j]? = some ((o:Int) + c,w):=by unfold tapD;rw [List.getElem?_map,ht];rfl
    have A1':=A1.hx X
    have xg:=X.next
    obtain ⟨b,off,cc,fix,wr,el,g1,g2,g3,g4,g5⟩:=(s.hx (N1.hx.trans X)).at eS u1214 tp1242 hd .i64
    refine WL.sr <| WOL.ix rfl rfl g1 <| WOL.ld rfl (load_row tp1242 g2 g4 g3) <| WOL.al tp1242 fun i1 M1 => ?_
    refine WOL.sto (vs:=encS ((o:Int) + c,w)) rfl rfl tp1242 M1.at_ rfl rfl (Nat.le_of_ble_eq_true rfl) rfl (f.hx (N1.hx.trans (X.trans M1.hx))) (by omega) fun i2 M2 => WOL.nil <| keep [(1,_),(3,_),(8,_),(10,_),(13,_),(14,_),(15,_)] ⟨rfl,rfl,rfl,rfl,rfl,rfl,rfl,trivial⟩ ?_
    have A2:At i2 g.next (.cells [zi ((o:Int) + c),zi w] true true 192):=M2.at_
    have XI:HX g i2:=M2.hx _ M1.hx (Nat.le_refl _)
    replace A1':=A1'.hx XI
    have Y:=X.trans XI
    obtain ⟨b1,b2⟩:=lim (i + o)
    refine WL.sr <| WOL.ld rfl (load_row tp1194 A1' rfl (Nat.le_of_ble_eq_true rfl)) <| WOL.mv rfl <| WOL.fa rfl (fa_of fo1242_0) <| WOL.ld rfl (load_one tp3 A2 rfl) <| WOL.add rfl rfl (by omega) (by omega) ?_
    rw [show p + ((o:Int) + c) = n + ((i + o:Nat):Int) by omega]
    refine WOL.cl2 rfl rfl rfl ((k1180 H (r.hx (N1.hx.trans Y)) hT' h0 ‹n ≤ 1000000000› hl).mono ?_)
    rintro u i3 ⟨rfl,X3⟩
    replace A2:=A2.hx X3
    refine WOL.mv rfl <| WOL.ex rfl rfl <| WOL.ex rfl rfl <| WOL.as rfl <| WOL.as rfl <| WOL.nil <| keep [(1,_),(3,_),(8,_),(10,_),(11,_),(12,_),(13,_),(14,_),(15,_)] ⟨rfl,rfl,rfl,rfl,rfl,rfl,rfl,rfl,rfl,trivial⟩ ?_
    cases hb:B.getD (i + o) false with
    | false =>
      have hF:tapB B i T = false:=by
        unfold tapB
        rw [List.all_eq_false]
        exact ⟨(o,w),hm,by show ¬ B.getD (i + o) false = true;rw [hb];decide⟩
      refine WL.seq <| WL.sr <| WOL.mv rfl <| WOL.nt rfl <| WOL.nil <| WL.yes rfl <| WL.sr <| WOL.as rfl <| WOL.as rfl <| WOL.nil ?_
      exact WL.ret (WL.end_ rfl ⟨by rw [hF];rfl,N1.hx.trans (Y.trans X3)⟩)
    | true =>
      rw [hb] at hB'
      refine WL.seq <| WL.sr <| WOL.mv rfl <| WOL.nt rfl <| WOL.nil <| WL.no rfl <| WL.skip ?_
      obtain ⟨m1,m2⟩:=mul_lim w1 w2 b1 b2
      have ll:=tapN_lim (i:=i) lim (T:=T.take j) (s:=0) (B:=0) (fun t ht => hw t (List.mem_of_mem_take ht)) (by omega) (by omega)
      have lj:(T.take j).length ≤ 1000:=by rw [List.length_take];omega
      rw [← hz] at ll hz'
      refine WL.reg <| WOL.mv rfl <| WOL.fa rfl (fa_of fo1242_1) <| WOL.ld rfl (load_one tp3 A2 rfl) <| WOL.mv rfl <| WOL.mul rfl rfl (by omega) (by omega) <| WOL.add rfl rfl (by omega) (by omega) <| WOL.as rfl <| WOL.nil fun a q => ?_
      exact ⟨_,⟨Y.trans X3,hB',hz'⟩,q.sub ⟨rfl,rfl,rfl,rfl,rfl,rfl,trivial⟩⟩
  · rintro z g ⟨X,hB,hz⟩
    rw [List.take_length] at hB hz
    refine WL.sr <| WOL.mv rfl <| WOL.as rfl <| WOL.as rfl <| WOL.nil ?_
    exact WL.ret (WL.end_ rfl ⟨by rw [hB,hz];rfl,N1.hx.trans X⟩)
end
end Go.Tidy
namespace Go.Tidy
open Go Go.Proofs Tab
variable {tp:TProg}
theorem tapV_get {L:List Int} {S:List (Int × Int)} {T:List (Nat × Int)} {m j:Nat} (h:j < m):(valC (tapC L S T m)).getD j 0 = cond (tapK S j T) (tapN L j T 0) 0:=by
 unfold valC
 rw [List.getD_eq_getElem?_getD,List.getElem?_map,tapC_get h];rfl
theorem tapM_get {L:List Int} {S:List (Int × Int)} {T:List (Nat × Int)} {m j:Nat} (h:j < m):((tapC L S T m).map fun c => c.2).getD j false = tapK S j T:=by
 rw [List.getD_eq_getElem?_getD,List.getElem?_map,tapC_get h];rfl
structure Taps (T:List (Nat × Int)) (W:Nat):Prop where
 a:∃ y,T[0]? = some (0,y)
 z:∃ y,T[T.length - 1]? = some (W,y)
 o:∀ t,t ∈ T → t.1 ≤ W
 w:∀ t,t ∈ T → -10000 ≤ t.2 ∧ t.2 ≤ 10000
 l:T.length ≤ 1000
section
variable {h:TH} {n:Int} {v1 v2:Value} {L:List Int} {S:List (Int × Int)} {T:List (Nat × Int)} {W:Nat} {c:Int} {w:Value}
set_option maxHeartbeats 4000000 in
set_option maxRecDepth 10000 in
theorem k1193 (H:Has tp) (r:TrcH h v1 v2 L S) (s:SlL encS 2 h w (tapD c T)) (ts:Taps T W) (lim:∀ j,-1073741824 ≤ L.getD j 0 ∧ L.getD j 0 ≤ 1073741824) (n0:0 ≤ n) (n1:n ≤ 100000000) (nc:0 ≤ n - c) (c1:-1000000 ≤ c) (c2:c ≤ 1000000) (l1:L.length ≤ 900000) (t1:S.length ≤ 1000000) (i1:In L.length S) (hW:W ≤ 1000000) (f:Free0 h.next h) :
  CallW Tryz.prog tp (.func (.func 93) #[] #[]) #[trcV n v1 v2,w] h fun v h' => HX h h' ∧ ProgR (n - c) (cond (decide (L.length ≤ W)) 16 0) (tapC L S T (L.length - W)) h.next h' v:=by
 refine CallW.fnL (H.fn 93 f1193 rfl rfl) ?_
 obtain ⟨b1,k1,e1,_⟩:=id r.l
 obtain ⟨b2,k2,e2,_⟩:=id r.s
 obtain ⟨b3,k3,e3,_⟩:=id s
 subst e1 e2 e3
 have lD:(tapD c T).length = T.length:=by unfold tapD;rw [List.length_map]
 refine WL.sr <| WOL.box rfl fun h1 N1 => WOL.box rfl fun h2 N2 => WOL.al tp1117 fun h3 N3 => WOL.as rfl <| WOL.nil <| keep [(2,_),(3,_),(4,_)] ⟨rfl,rfl,rfl,trivial⟩ ?_
 have q1:=N1.next
 have q2:=N2.next
 have q3:=N3.next
 have A2:At h3 h.next (.cells [zi n,.slice b1 L.length k1,.slice b2 S.length k2] true true 31):=(N1.at_.hx N2.hx).hx N3.hx
 have A3:At h3 h1.next (.cells [.slice b3 (tapD c T).length k3] true true 142):=N2.at_.hx N3.hx
 have A4:=N3.at_
 have X3:=(N1.hx.trans N2.hx).trans N3.hx
 have s3:=s.hx X3
 have r3:=r.hx X3
 obtain ⟨ya,ta⟩:=ts.a
 obtain ⟨yz,tz⟩:=ts.z
 have lT:0 < T.length:=(List.getElem?_eq_some_iff.1 ta).1
 have d0:(tapD c T)[0]? = some (c,ya):=by
  unfold tapD
  rw [List.getElem?_map,ta]
  show some (((0:Nat):Int) + c,ya) = _
  rw [show ((0:Nat):Int) + c = c by omega]
 have dz:(tapD c T)[T.length - 1]? = some ((W:Int) + c,yz):=by unfold tapD;rw [List.getElem?_map,tz];rfl
 obtain ⟨_,_,ca,fix,wr,el,g1,g2,g3,g4,g5⟩:=s3.at eS u1214 tp1242 d0 .i64
 obtain ⟨_,_,cz,fix',wr',el',y1,y2,y3,y4,y5⟩:=s3.at eS u1214 tp1242 dz .i64
 have ga:=g5 0 (by decide)
 have gz:=y5 0 (by decide)
 rw [Nat.add_zero] at ga gz
 replace ga:ca[_]? = some (zi c):=ga
 replace gz:cz[_]? = some (zi ((W:Int) + c)):=gz
 refine WL.sr <| WOL.ld rfl (load_one tp1214 A3 rfl) <| WOL.ix rfl rfl g1 <| WOL.fa rfl (fa_of fo1242_0) <| WOL.ld rfl (load_one tp3 g2 ga) <| WOL.ld rfl (load_one tp1214 A3 rfl) <| WOL.ld rfl (load_one tp1214 A3 rfl) <| WOL.len rfl s3 u1214 <| WOL.sub (m:=(((tapD c T).length:Nat):Int)) (n:=1) rfl rfl (by rw [lD];omega) (by rw [lD];have:=ts.l;omega) ?_
 rw [show (((tapD c T).length:Nat):Int) - 1 = ((T.length - 1:Nat):Int) by rw [lD];omega]
 refine WOL.ix rfl rfl y1 <| WOL.fa rfl (fa_of fo1242_0) <| WOL.ld rfl (load_one tp3 y2 gz) <| WOL.as rfl <| WOL.as rfl <| WOL.nil <| keep [(2,_),(3,_),(4,_),(6,_),(7,_)] ⟨rfl,rfl,rfl,rfl,rfl,trivial⟩ ?_
 clear g1 g2 g3 g4 g5 y1 y2 y3 y4 y5 ga gz
 refine WL.sr <| WOL.fa rfl (fa_of fo1117_1) <| WOL.ld rfl (load_one tp29 A2 rfl) <| WOL.len rfl r3.l u29 <| WOL.mv rfl <| WOL.mv rfl <| WOL.sub (m:=(W:Int) + c) (n:=c) rfl rfl (by omega) (by omega) <| WOL.sub (m:=((L.length:Nat):Int)) (n:=(W:Int) + c - c) rfl rfl (by omega) (by omega) <| WOL.as rfl <| WOL.nil <| keep [(2,_),(3,_),(4,_),(6,_),(8,_)] ⟨rfl,rfl,rfl,rfl,rfl,trivial⟩ ?_
 rw [show ((L.length:Nat):Int) - ((W:Int) + c - c) = (L.length:Int) - W by omega]
 have F0:∀ {g:TH},HX h g → Free0 g.next g:=fun X => f.on X
 by_cases hc:L.length ≤ W
 ·rw [decide_eq_true hc]
  refine WL.seq <| WL.sr <| WOL.mv rfl <| WOL.bt rfl rfl rfl (by first | exact decide_eq_true (by omega) | exact beq_iff_eq.2 (by omega) | exact bne_iff_ne.2 (by omega)) <| WOL.nil <| WL.yes rfl <| WL.sr <| WOL.bd rfl bd1117z <| WOL.sto (vs:=[zi 0,.slice none 0 0,.slice none 0 0]) rfl rfl tp1117 A4 rfl rfl (Nat.le_of_ble_eq_true rfl) rfl (f.hx X3) (by omega) fun i1 M1 => WOL.as rfl <| WOL.nil ?_
  exact WL.ret (WL.endC1 rfl rfl (load_row tp1117 M1.at_ rfl (Nat.le_of_ble_eq_true rfl)) ⟨M1.hx _ X3 (by omega),.inl ⟨by decide,rfl⟩⟩)
 rw [decide_eq_false hc]
 refine WL.seq <| WL.sr <| WOL.mv rfl <| WOL.bf rfl rfl rfl (by first | exact decide_eq_false (by omega) | exact beq_eq_false_iff_ne.2 (by omega) | exact bne_eq_false_iff_eq.2 (by omega)) <| WOL.nil <| WL.no rfl <| WL.skip ?_
 rw [show (L.length:Int) - W = ((L.length - W:Nat):Int) by omega]
 have hmW:L.length - W + W = L.length:=by omega
 generalize L.length - W = m at *
 refine keep [(2,_),(3,_),(4,_),(6,_),(8,_)] ⟨rfl,rfl,rfl,rfl,rfl,trivial⟩ ?_
 refine WL.sr <| WOL.ld rfl (load_row tp1117 A2 rfl (Nat.le_of_ble_eq_true rfl)) <| WOL.fa rfl (fa_of fo1117_0) <| WOL.ld rfl (load_one tp3 A2 rfl) <| WOL.mv rfl <| WOL.sub (m:=n) (n:=c) rfl rfl (by omega) (by omega) <| WOL.mv rfl <| WOL.al tp1194 fun h4 N4 => WOL.al tp1194 fun h5 N5 => ?_
 have q4:=N4.next
 have q5:=N5.next
 have X5:=(X3.trans N4.hx).trans N5.hx
 refine WOL.lq1 [h4.next,h3.next,h.next] rfl rfl rfl fun M hM => ((k1177 H ((r.hx X5).relock M) (by omega) t1 i1 ((F0 X5).held hM (fun b hb => by simp at hb;omega))).mono ?_)
 rintro v h6 ⟨X6,p1,p2,rfl,a1,a2,R1⟩
 replace X6:=X6.relock
 replace R1:RowA (h6.withLock h5.lock) p1 p2 L (knownL S L.length):=⟨R1.v.relock _,R1.k.relock _,R1.e,R1.n⟩
 replace a1:h5.next ≤ p1:=a1
 replace a2:h5.next ≤ p2:=a2
 generalize h6.withLock h5.lock = h6 at *
 have Y6:=X5.trans X6
 have q6:=X6.next
 have l11:=R1.v.lt
 have l12:=R1.k.lt
 refine WOL.lq2 [h4.next,h3.next] rfl rfl rfl rfl fun M hM => ((k1178 (h:=h6.withLock M) (n:=n - c) (m:=m) H (by omega) ((F0 Y6).held hM (fun b hb => by simp at hb;omega))).mono ?_)
 rintro v h7 ⟨X7,bv,bk,rfl,a3,a4,R2⟩
 replace X7:=X7.relock
 replace R2:RowA (h7.withLock h6.lock) bv bk (List.replicate m 0) (List.replicate m false):=⟨R2.v.relock _,R2.k.relock _,R2.e,R2.n⟩
 replace a3:h6.next ≤ bv:=a3
 replace a4:h6.next ≤ bk:=a4
 generalize h7.withLock h6.lock = h7 at *
 have Y7:=Y6.trans X7
 have q7:=X7.next
 have l21:=R2.v.lt
 have l22:=R2.k.lt
 have Z:=X6.trans X7
 refine WOL.sto (vs:=[zi n,slA p1 L.length,.slice none 0 0,slA p2 L.length]) rfl rfl tp1194 ((N4.at_.hx N5.hx).hx Z) rfl rfl (Nat.le_of_ble_eq_true rfl) rfl (f.hx Y7) (by omega) fun h8 P8 => ?_
 have q8:=P8.next
 have Y8:HX h h8:=P8.hx _ Y7 (by omega)
 refine WOL.sto (vs:=[zi (n - c),slA bv m,.slice none 0 0,slA bk m]) rfl rfl tp1194 (P8.oth _ _ (by omega) (N5.at_.hx Z)) rfl rfl (Nat.le_of_ble_eq_true rfl) rfl (f.hx Y8) (by omega) fun h9 P9 => WOL.nil <| keep [(3,_),(4,_),(9,_),(10,_)] ⟨rfl,rfl,rfl,rfl,trivial⟩ ?_
 have q9:=P9.next
 have Y9:HX h h9:=P9.hx _ Y8 (by omega)
 have O9:∀ b y,b ≠ h3.next → b ≠ h4.next → At h7 b y → At h9 b y:=fun b y e1 e2 a => P9.oth _ _ e2 (P8.oth _ _ e1 a)
 have B9:=P9.oth _ _ (by omega) P8.at_
 have B10:=P9.at_
 have B4:=O9 _ _ (by omega) (by omega) (((A4.hx N4.hx).hx N5.hx).hx Z)
 have B3:=O9 _ _ (by omega) (by omega) (((A3.hx N4.hx).hx N5.hx).hx Z)
 have C1:RowA h9 p1 p2 L (knownL S L.length):=⟨O9 _ _ (by omega) (by omega) (R1.v.hx X7),O9 _ _ (by omega) (by omega) (R1.k.hx X7),R1.e,R1.n⟩
 have C2:RowA h9 bv bk (List.replicate m 0) (List.replicate m false):=⟨O9 _ _ (by omega) (by omega) R2.v,O9 _ _ (by omega) (by omega) R2.k,R2.e,R2.n⟩
 have lb4:=B4.lt
 have lb3:=B3.lt
 refine WL.seq <| WL.sr <| WOL.fa rfl (fa_of fo1194_0) <| WOL.ld rfl (load_row tp1117 B10 (l:=[zi (n - c),slA bv m,.slice none 0 0]) rfl (Nat.le_of_ble_eq_true rfl)) <| WOL.cl1 rfl rfl ((k1179 H h9).mono ?_)
 rintro v h10 ⟨cc,rfl,X10,Ac,ac⟩
 have q10:=X10.next
 have lc:=Ac.lt
 have Y10:=Y9.trans X10
 replace B3:=B3.hx X10;replace B4:=B4.hx X10;replace B9:=B9.hx X10;replace B10:=B10.hx X10;replace C1:=C1.hx X10;replace C2:=C2.hx X10
 refine WOL.nil <| keep [(3,_),(4,_),(9,_),(10,_),(45,_)] ⟨rfl,rfl,rfl,rfl,rfl,trivial⟩ ?_
 rw [← upTo_zero (C:=valC (tapC L S T m)),← upTo_zero (C:=(tapC L S T m).map fun c => c.2)] at C2
 have lC:(tapC L S T m).length = m:=tapC_len
 refine WL.block <| WL.range rfl (H.fn 134 f1224 rfl rfl) (y1224 (v1:=slA bv m) (v2:=.slice none 0 0) H nc (by omega) (m:=m) (by omega)) (fun j g => HX h g ∧ h10.next ≤ g.next ∧ At g h1.next (.cells [.slice b3 (tapD c T).length k3] true true 142) ∧ At g h2.next (.cells [zi 0,.slice none 0 0,.slice none 0 0] true true 31) ∧ At g h3.next (.cells [zi n,slA p1 L.length,.slice none 0 0,slA p2 L.length] true true 113) ∧ At g h4.next (.cells [zi (n - c),slA bv m,.slice none 0 0,slA bk m] true true 113) ∧ RowA g p1 p2 L (knownL S L.length) ∧ RowA g bv bk (upTo 0 (valC (tapC L S T m)) m j) (upTo false ((tapC L S T m).map fun c => c.2) m j) ∧ At g cc (.cells [zi (n - c),slA bv m,.slice none 0 0] true true 31)) (fun j g q => ⟨q.2.2.2.2.2.2.2.2,_,upTo_len,by have:=q.2.2.2.2.2.2.2.1.sv;rwa [upTo_len] at this⟩) (fun j g q => (f.hx q.1).up (by omega)) ?_ ?_ ?_ ?_
 ·rintro j g g' x ⟨x1,x2,x3,x4,x5,x6,x7,x8,x9⟩ P
  have o:∀ b y,b < h10.next → At g b y → At g' b y:=fun b y hb a => P.oth _ _ (by omega) a
  exact ⟨P.hx _ x1 (by omega),by rw [P.next];exact x2,o _ _ (by omega) x3,o _ _ (by omega) x4,o _ _ (by omega) x5,o _ _ (by omega) x6,⟨o _ _ (by omega) x7.v,o _ _ (by omega) x7.k,x7.e,x7.n⟩,⟨o _ _ (by omega) x8.v,o _ _ (by omega) x8.k,x8.e,x8.n⟩,o _ _ (by omega) x9⟩
 ·rintro g x N
  have:=N.next
  exact ⟨Y10.trans N.hx,by omega,B3.hx N.hx,B4.hx N.hx,B9.hx N.hx,B10.hx N.hx,C1.hx N.hx,C2.hx N.hx,Ac.hx N.hx⟩
 ·rintro j g x hj _ A
  refine WL.reg <| WOL.as rfl <| WOL.nil ?_
  intro r' hr
  refine ⟨rfl,rfl,fun g2 xx ⟨x1,x2,x3,x4,x5,x6,x7,x8,x9⟩ A2 => ?_⟩
  refine hr.go ?_
  have hk:=tapB_known (S:=S) (m:=L.length) (i:=j) (T:=T) (fun t ht => by have:=ts.o t ht;omega)
  refine WL.block <| WL.sr <| WOL.ld rfl (load_row tp1194 x5 rfl (Nat.le_of_ble_eq_true rfl)) <| WOL.mv rfl <| WOL.ld rfl (load_one tp1214 x3 rfl) <| WOL.cl3 rfl rfl rfl rfl ((k1226 (n:=n) (i:=j) (p:=n - c + (j:Nat)) H x7 (s.hx x1) (by omega) (fun t ht => by have:=ts.o t ht;omega) ts.w ts.l lim n0 (by omega) (by omega) c1 c2 (f.on x1)).mono ?_)
  rintro u g3 ⟨rfl,X3⟩
  rw [hk]
  have hV:=tapV_get (L:=L) (S:=S) (T:=T) hj
  have hM:=tapM_get (L:=L) (S:=S) (T:=T) hj
  have xs:=X3.next
  refine WOL.mv rfl <| WOL.ex rfl rfl <| WOL.ex rfl rfl <| WOL.as rfl <| WOL.as rfl <| WOL.nil <| keep [(10,_),(11,_),(12,_),(13,_)] ⟨rfl,rfl,rfl,rfl,trivial⟩ ?_
  cases hb:tapK S j T with
  | false =>
   rw [hb] at hV hM
   refine WL.sr <| WOL.mv rfl <| WOL.nil <| WL.no rfl <| WL.skip fun r k => ⟨rfl,⟨x1.trans X3,by omega,x3.hx X3,x4.hx X3,x5.hx X3,x6.hx X3,x7.hx X3,?_,x9.hx X3⟩,A2.hx X3⟩
   rw [upTo_same hV,upTo_same hM]
   exact x8.hx X3
  | true =>
   rw [hb] at hV hM
   replace hV:(valC (tapC L S T m)).getD j 0 = tapN L j T 0:=hV
   have k:=k1181 (n:=n - c) (x:=tapN L j T 0) H (x8.hx X3) (i:=j) (by rw [upTo_len];exact hj) nc (by omega) (by rw [upTo_len];omega) (m:=h.next) (f.hx (x1.trans X3)) (by omega) (by omega)
   rw [upTo_len] at k
   refine WL.sr <| WOL.mv rfl <| WOL.nil <| WL.yes rfl <| WL.reg <| WOL.ld rfl (load_row tp1194 (x6.hx X3) rfl (Nat.le_of_ble_eq_true rfl)) <| WOL.mv rfl <| WOL.mv rfl <| WOL.cl3 rfl rfl rfl rfl (k.mono ?_)
   rintro u g5 ⟨z5,ra,o5,n5⟩
   refine WOL.nil fun r k => ⟨rfl,⟨z5 _ (x1.trans X3) (by omega) (by omega),by omega,o5 _ _ (by omega) (by omega) (x3.hx X3),o5 _ _ (by omega) (by omega) (x4.hx X3),o5 _ _ (by omega) (by omega) (x5.hx X3),o5 _ _ (by omega) (by omega) (x6.hx X3),⟨o5 _ _ (by omega) (by omega) (x7.v.hx X3),o5 _ _ (by omega) (by omega) (x7.k.hx X3),x7.e,x7.n⟩,?_,o5 _ _ (by omega) (by omega) (x9.hx X3)⟩,o5 _ _ (by omega) (by omega) (A2.hx X3)⟩
   rw [upTo_set,upTo_set,hV,hM]
   exact ra
 ·rintro g ⟨x1,x2,x3,x4,x5,x6,x7,x8,x9⟩
  rw [upTo_all (by unfold valC;rw [List.length_map];exact lC),upTo_all (by rw [List.length_map];exact lC)] at x8
  have lv:(valC (tapC L S T m)).length = m:=by unfold valC;rw [List.length_map];exact lC
  refine WL.sr <| WOL.ld rfl (load_row tp1194 x6 rfl (Nat.le_of_ble_eq_true rfl)) ?_
  have k:=k1182 (n:=n - c) H x8 (by omega) (f.on x1)
  rw [lv,← bigC_val] at k
  refine WOL.cl1 rfl rfl (k.mono ?_)
  rintro v g1 ⟨X,R⟩
  have xg:=(x1.trans X).next
  have xx:=X.next
  rcases R with ⟨hb,rfl⟩ | ⟨hb,w,rfl,to⟩
  ·refine WOL.ex rfl rfl <| WOL.ex rfl rfl <| WOL.sto (vs:=[zi 0,.slice none 0 0,.slice none 0 0]) rfl rfl tp1117 (x4.hx X) rfl rfl (Nat.le_of_ble_eq_true rfl) rfl (f.hx (x1.trans X)) (by omega) fun i1 M1 => WOL.as rfl <| WOL.nil ?_
   exact WL.ret (WL.endC1 rfl rfl (load_row tp1117 M1.at_ rfl (Nat.le_of_ble_eq_true rfl)) ⟨M1.hx _ (x1.trans X) (by omega),.inr (.inl ⟨rfl,hb,rfl⟩)⟩)
  ·obtain ⟨b2,m2,k2,rfl⟩:=to.form
   refine WOL.ex rfl rfl <| WOL.ex rfl rfl <| WOL.sto (vs:=[zi (n - c),slA bv m,.slice b2 m2 k2]) rfl rfl tp1117 (x4.hx X) rfl rfl (Nat.le_of_ble_eq_true rfl) rfl (f.hx (x1.trans X)) (by omega) fun i1 M1 => WOL.as rfl <| WOL.nil ?_
   refine WL.ret (WL.endC1 rfl rfl (load_row tp1117 M1.at_ rfl (Nat.le_of_ble_eq_true rfl)) ⟨M1.hx _ (x1.trans X) (by omega),.inr (.inr ⟨rfl,hb,bv,_,by rw [lC];rfl,by omega,(to.put M1 (by omega) (by omega)).low (by omega)⟩)⟩)
end
end Go.Tidy
namespace Go.Tidy
open Go Go.Proofs Tab
variable {tp:TProg}
section
variable {h:TH} {l:List Nat} {bo:Option Addr} {n k:Nat}
end
section
variable {h:TH} {K:Regs → TH → Prop} {rest:List TOper} {d:Option Tmp} {ty:TypeId} {i:Nat} {x:Operand} {L:Rg} {v:Value} {m:List Nat}
end
section
variable {hb h g g2 g':TH} {n b o cap c4 c2 c3 nB:Nat} {cur cur':Cu} {s s':ByteArray} {fi fi':Int} {w1 w2 w':Value} {F F':List Nat} {S S':List (Int × Int)}
theorem Put.relock {M:List Nat} {x:TB} {c:Nat} {h1:TH} (p:Put (h.withLock M) h1 c x):Put h (h1.withLock h.lock) c x :=
 ⟨p.at_.relock _,fun z y hz a => (p.oth z y hz (a.relock M)).relock _,p.next,p.floor,rfl,fun h0 y hb => by rw [y.lock];exact (p.hx _ (y.locked M) hb).relock⟩
end
end Go.Tidy
namespace Go.Tidy
open Go Go.Proofs Tab
variable {tp:TProg}
section
variable (l:List Nat) (c:Cu)
end
section
variable {h g:TH} {l:List Nat} {b o cap:Nat}
theorem Stm.relock (s:Stm h b o cap l) (M:List Nat):Stm (h.withLock M) b o cap l:=⟨by
 obtain ⟨cc,fix,wr,el,a,r⟩:=s.ex
 exact ⟨cc,fix,wr,el,a.relock M,r⟩,s.cap⟩
end
section
variable {hb h:TH} {l:List Nat} {b o cap c4:Nat} {c:Cu}
end
end Go.Tidy
namespace Go.Tidy
open Go Go.Proofs Tab
variable {tp:TProg}
section
variable {P:Program} {h:TH} {K:Regs → TH → Prop} {rest:List TOper} {d:Option Tmp} {ty:TypeId} {i:Nat} {x y:Operand} {t u:TypeId} {L:Rg} {s s':ByteArray}
end
section
variable (l:List Nat)
end
theorem RunH.relock {h:TH} {v1 v2:Value} {F:List Nat} {S:List (Int × Int)} (r:RunH h v1 v2 F S) (M:List Nat):RunH (h.withLock M) v1 v2 F S:=⟨r.f.relock M,r.s.relock M,r.g.relock M⟩
section
variable {h:TH} {l:List Nat} {b o n cap:Nat} {es L:List Int}
end
end Go.Tidy
namespace Go.Tidy
open Go Go.Proofs Tab
variable {tp:TProg}
section
variable {P:Program} {h:TH} {K:Regs → TH → Prop} {rest:List TOper} {d:Option Tmp} {ty:TypeId} {i:Nat} {x y:Operand} {t u:TypeId} {L:Rg}
theorem WOL.addN {m k:Nat} (hx:getL L x = some (zi (m:Nat))) (hy:getL L y = some (zi (k:Nat))) (hb:m + k ≤ 1000000000) (w:∀ a,Kn (putL L d (zi ((m + k:Nat):Int))) a → WO P tp rest a h K):∀ a,Kn L a → WO P tp (⟨d,.binOp .add t x y u,ty,none,[],i⟩ :: rest) a h K :=
 WOL.bi hx hy (by show some (Value.int .i64 (fwrap .i64 ((m:Int) + (k:Int)))) = _;rw [fwrap_i64 (by omega) (by omega)];rfl) w
theorem WOL.mulN {m k:Nat} (hx:getL L x = some (zi (m:Nat))) (hy:getL L y = some (zi (k:Nat))) (hb:m * k ≤ 1000000000) (w:∀ a,Kn (putL L d (zi ((m * k:Nat):Int))) a → WO P tp rest a h K):∀ a,Kn L a → WO P tp (⟨d,.binOp .mul t x y u,ty,none,[],i⟩ :: rest) a h K :=
 WOL.bi hx hy (by
  have e:((m * k:Nat):Int) = (m:Int) * (k:Int):=rfl
  show some (Value.int .i64 (fwrap .i64 ((m:Int) * (k:Int)))) = _
  rw [← e,fwrap_i64 (by omega) (by omega)]) w
end
structure RrU (h g:TH) (c2 c7 nB:Nat) (s:ByteArray) (fi:Int) (w1 w2:Value) (F:List Nat) (S:List (Int × Int)):Prop where
 x:HX h g
 nx:nB ≤ g.next
 a2:At g c2 (.cells [.string ⟨#[]⟩,zi 0,.slice none 0 0,.slice none 0 0] true true 76)
 a7:At g c7 (.cells [.string s,zi fi,w1,w2] true true 76)
 o1:OwnL encF nB g w1 156 F
 o2:OwnL encS nB g w2 103 S
 ne:∀ x,bl w1 = some x → bl w2 ≠ some x
section
variable {h g g2 g':TH} {c2 c7 nB:Nat} {s:ByteArray} {fi:Int} {w1 w2 w':Value} {F F':List Nat} {S S':List (Int × Int)}
theorem RrU.hx (q:RrU h g c2 c7 nB s fi w1 w2 F S) (x:HX g g'):RrU h g' c2 c7 nB s fi w1 w2 F S:=⟨q.x.trans x,Nat.le_trans q.nx x.next,q.a2.hx x,q.a7.hx x,q.o1.hx x,q.o2.hx x,q.ne⟩
end
end Go.Tidy
namespace Go.Tidy
open Go Go.Proofs Tab
variable {tp:TProg}
def wTn (Wt:List Int) (st:Nat):Nat → List (Nat × Int)
 | 0 => []
 | j + 1 => if Wt.getD j 0 = 0 then wTn Wt st j else wTn Wt st j ++ [(j * st,Wt.getD j 0)]
theorem wTn_len {Wt:List Int} {st:Nat}:∀ j,(wTn Wt st j).length ≤ j
  | 0 => Nat.le_refl _
  | j + 1 => by
    have:=wTn_len (Wt:=Wt) (st:=st) j
    unfold wTn
    split
    · omega
    · rw [List.length_append]
      show _ + 1 ≤ _
      omega
theorem wTn_w {Wt:List Int} {st:Nat} (h:∀ j,-10000 ≤ Wt.getD j 0 ∧ Wt.getD j 0 ≤ 10000):∀ j t,t ∈ wTn Wt st j → -10000 ≤ t.2 ∧ t.2 ≤ 10000
  | 0,t,ht => by cases ht
  | j + 1,t,ht => by
    unfold wTn at ht
    split at ht
    · exact wTn_w h j t ht
    · rcases List.mem_append.1 ht with q | q
      · exact wTn_w h j t q
      · cases List.mem_singleton.1 q
        exact h j
theorem zipK_get {L:List Int} {S:List (Int × Int)} {m q:Nat} (h:q < m):(zipK L S m)[q]? = some (L.getD q 0,knownB S (q:Nat)):=by
 unfold zipK
 rw [tbl_get,if_pos h]
theorem tapK_app {S:List (Int × Int)} {i o:Nat} {x:Int} {T:List (Nat × Int)}:tapK S i (T ++ [(o,x)]) = (tapK S i T && knownB S ((i + o:Nat):Int)):=by
 unfold tapK
 rw [List.all_append]
 simp
def TapR (n:Int) (e:Int) (C:List (Int × Bool)) (n0:Nat) (h':TH) (v:Value):Prop :=
 (e ≠ 0 ∧ v = .tuple #[trcV 0 (.slice none 0 0) (.slice none 0 0),zi e]) ∨ (e = 0 ∧ MadeR n C n0 h' v)
theorem TapR.ans {n e:Int} {C:List (Int × Bool)} {n0:Nat} {g:TH} {v:Value} (r:TapR n e C n0 g v):Ans n (sumO e C) n0 g v:=by
 rcases r with ⟨h1,h2⟩ | ⟨rfl,h1⟩
 ·unfold sumO
  rw [if_pos h1];exact Ans.err h1 h2
 ·exact h1.ans
section
variable {h:TH} {n:Int} {v1 v2:Value} {L:List Int} {S:List (Int × Int)} {w:Value} {Wt:List Int} {b a st:Nat}
set_option maxHeartbeats 4000000 in
set_option maxRecDepth 10000 in
theorem k1197 (H:Has tp) (r:TrcH h v1 v2 L S) (s:SlL encI 1 h w Wt) (hk:∀ k,k < Wt.length → k * st ≤ b + a) (hb:b ≤ 100000) (ha:a ≤ 100000) (hst:st ≤ 1000) (lW:Wt.length ≤ 1000) (hw:∀ j,-10000 ≤ Wt.getD j 0 ∧ Wt.getD j 0 ≤ 10000) (lim:∀ j,-1073741824 ≤ L.getD j 0 ∧ L.getD j 0 ≤ 1073741824) (n0:0 ≤ n) (n1:n ≤ 100000000) (l1:L.length ≤ 900000) (t1:S.length ≤ 1000000) (f:Free0 h.next h) :
    CallW Tryz.prog tp (.func (.func 97) #[] #[]) #[trcV n v1 v2,w,zi (b:Nat),zi (a:Nat),zi (st:Nat)] h fun v h' => HX h h' ∧ TapR (n + b) (cond (decide (L.length ≤ b + a)) 16 0) (tapC L S (wTn Wt st Wt.length) (L.length - (b + a))) h.next h' v:=by
  refine CallW.fnL (H.fn 97 f1197 rfl rfl) ?_
  obtain ⟨b1,k1,e1,_⟩:=id r.l
  obtain ⟨b2,k2,e2,_⟩:=id r.s
  subst e1 e2
  refine WL.sr <| WOL.box rfl fun h1 N1 => WOL.al tp1114 fun h2 N2 => WOL.as rfl <| WOL.nil <| keep [(1,_),(2,_),(3,_),(4,_),(5,_),(10,_)] ⟨rfl,rfl,rfl,rfl,rfl,rfl,trivial⟩ ?_
  have q1:=N1.next
  have q2:=N2.next
  have A5:At h2 h.next (.cells [zi n,.slice b1 L.length k1,.slice b2 S.length k2] true true 27):=N1.at_.hx N2.hx
  have A10:=N2.at_
  have X2:=N1.hx.trans N2.hx
  refine WL.sr <| WOL.ld rfl (load_row tp1114 A5 rfl (Nat.le_of_ble_eq_true rfl)) <| WOL.cl1 rfl rfl ((k1189 H (r.hx X2) l1 t1 (f.on X2)).mono ?_)
  rintro av h3 ⟨X3,O12⟩
  have q3:=X3.next
  have Y3:=X2.trans X3
  replace A5:=A5.hx X3
  replace A10:=A10.hx X3
  have sA:=O12.sl eC
  refine WOL.as rfl <| WOL.nil <| keep [(1,_),(2,_),(3,_),(4,_),(5,_),(10,_),(12,_)] ⟨rfl,rfl,rfl,rfl,rfl,rfl,rfl,trivial⟩ ?_
  refine WL.sr <| WOL.as rfl <| WOL.nil ?_
  refine WL.seq <| WL.sr <| WOL.mv rfl <| WOL.as rfl <| WOL.nil ?_
  have hm:∀ j,j < L.length - (b + a) ↔ b + j + a < L.length:=fun j => by omega
  generalize hmm:L.length - (b + a) = m at *
  have lm:m ≤ L.length:=by omega
  refine WL.fori (α:=Value) m (fun j u g => HX h3 g ∧ OwnL encC h3.next g u 135 (tapC L S (wTn Wt st Wt.length) j)) (fun j u => [(1,w),(2,zi (b:Nat)),(3,zi (a:Nat)),(4,zi (st:Nat)),(5,ptr h.next),(10,ptr h1.next),(12,av),(13,u),(14,zi ((b + j:Nat):Int))]) (fun j u => [(1,w),(2,zi (b:Nat)),(3,zi (a:Nat)),(4,zi (st:Nat)),(5,ptr h.next),(10,ptr h1.next),(12,av),(13,u),(14,zi ((b + j:Nat):Int))]) (.slice none 0 0) ⟨HX.refl _,.inl ⟨rfl,rfl⟩⟩ ⟨rfl,rfl,rfl,rfl,rfl,rfl,rfl,rfl,rfl,trivial⟩ ?_ ?_ (fun _ _ _ => ⟨rfl,rfl,rfl,rfl,rfl,rfl,rfl,rfl,rfl,trivial⟩) ?_ ?_
  · rintro j u g hj ⟨X,_⟩
    refine WOL.mv rfl <| WOL.mv rfl <| WOL.addN (m:=b + j) (k:=a) rfl rfl (by omega) <| WOL.mv rfl <| WOL.len rfl (sA.hx X) u1205 <| WOL.bi (v:=.bool (decide (j < m))) rfl rfl ?_ <| WOL.nil fun x q => ⟨rfl,q.sub ⟨rfl,rfl,rfl,rfl,rfl,rfl,rfl,rfl,rfl,rfl,trivial⟩⟩
    show some (Value.bool (decide (((b + j + a:Nat):Int) < (((zipK L S L.length).length:Nat):Int)))) = _
    rw [zip_len,show decide (((b + j + a:Nat):Int) < ((L.length:Nat):Int)) = decide (j < m) from decide_eq_decide.2 (by rw [hm];omega)]
  · rintro j u g hj q
    exact WOL.mv rfl <| WOL.inc rfl (by omega) <| WOL.as rfl <| WOL.nil fun x k => ⟨q,k.sub ⟨rfl,rfl,rfl,rfl,rfl,rfl,rfl,rfl,rfl,trivial⟩⟩
  · rintro j u g hj ⟨X,O⟩
    have xg:=X.next
    have Yg:=Y3.trans X
    refine WL.sr <| WOL.bd rfl bd1207 <| WOL.al tp1207 fun i1 M1 => WOL.sto (vs:=encC (0,true)) rfl rfl tp1207 M1.at_ rfl rfl (Nat.le_of_ble_eq_true rfl) rfl (f.hx (Yg.trans M1.hx)) (by omega) fun i2 M2 => WOL.nil <| keep [(1,_),(2,_),(3,_),(4,_),(5,_),(10,_),(12,_),(13,_),(14,_),(15,_)] ⟨rfl,rfl,rfl,rfl,rfl,rfl,rfl,rfl,rfl,rfl,trivial⟩ ?_
    have A15:At i2 g.next (.cells [zi 0,.bool true] true true 135):=M2.at_
    have XI:HX g i2:=M2.hx _ M1.hx (Nat.le_refl _)
    refine WL.seq <| WL.sr <| WOL.as rfl <| WOL.nil ?_
    refine WL.forz (α:=Unit) Wt.length (fun k _ g' => HX g g' ∧ At g' g.next (.cells [zi (tapN L j (wTn Wt st k) 0),.bool (tapK S j (wTn Wt st k))] true true 135)) (fun k _ => [(1,w),(2,zi (b:Nat)),(3,zi (a:Nat)),(4,zi (st:Nat)),(5,ptr h.next),(10,ptr h1.next),(12,av),(13,u),(14,zi ((b + j:Nat):Int)),(15,ptr g.next),(16,zi (k:Nat))]) (fun k _ => [(1,w),(2,zi (b:Nat)),(3,zi (a:Nat)),(4,zi (st:Nat)),(5,ptr h.next),(10,ptr h1.next),(12,av),(13,u),(14,zi ((b + j:Nat):Int)),(15,ptr g.next),(16,zi (k:Nat))]) () ⟨XI,A15⟩ ⟨rfl,rfl,rfl,rfl,rfl,rfl,rfl,rfl,rfl,rfl,rfl,trivial⟩ ?_ ?_ (fun _ _ _ => ⟨rfl,rfl,rfl,rfl,rfl,rfl,rfl,rfl,rfl,rfl,rfl,trivial⟩) ?_ ?_
    · rintro k _ g' hj' ⟨Z,_⟩
      exact WOL.mv rfl <| WOL.mv rfl <| WOL.len rfl (s.hx (Yg.trans Z)) u29 <| WOL.bi rfl rfl rfl <| WOL.nil fun x q => ⟨rfl,q.sub ⟨rfl,rfl,rfl,rfl,rfl,rfl,rfl,rfl,rfl,rfl,rfl,rfl,trivial⟩⟩
    · rintro k _ g' hj' q
      exact WOL.mv rfl <| WOL.inc rfl (by omega) <| WOL.as rfl <| WOL.nil fun x k => ⟨q,k.sub ⟨rfl,rfl,rfl,rfl,rfl,rfl,rfl,rfl,rfl,rfl,rfl,trivial⟩⟩
    · rintro k _ g' hk' ⟨Z,A⟩
      have Yz:=Yg.trans Z
      have la:=A.lt
      have zg:=Z.next
      have hp:Wt[k]? = some (Wt.getD k 0):=by rw [List.getD_eq_getElem?_getD,List.getElem?_eq_getElem hk'];rfl
      have hst':wTn Wt st (k + 1) = if Wt.getD k 0 = 0 then wTn Wt st k else wTn Wt st k ++ [(k * st,Wt.getD k 0)]:=rfl
      obtain ⟨w1,w2⟩:=hw k
      generalize Wt.getD k 0 = x at *
      obtain ⟨_,_,cc,fix,wr,el,g1,g2,g3,g4,g5⟩:=(s.hx Yz).at eI u29 tp3 hp .i64
      have gx:=g5 0 (by decide)
      rw [Nat.add_zero] at gx
      refine WL.sr <| WOL.mv rfl <| WOL.mv rfl <| WOL.ix rfl rfl g1 <| WOL.ld rfl (load_one tp3 g2 gx) ?_
      by_cases h0:x = 0
      · rw [if_pos h0] at hst'
        refine WOL.bf rfl rfl rfl (by first | exact decide_eq_false (by omega) | exact beq_eq_false_iff_ne.2 (by omega) | exact bne_eq_false_iff_eq.2 (by omega)) <| WOL.nil <| WL.no rfl <| WL.skip fun y q => ⟨(),⟨Z,?_⟩,q.sub ⟨rfl,rfl,rfl,rfl,rfl,rfl,rfl,rfl,rfl,rfl,rfl,trivial⟩⟩
        rw [hst'];exact A
      rw [if_neg h0] at hst'
      have hq:j + k * st < L.length:=by have:=hk k hk';have:=(hm j).1 hj;omega
      have hkk:k * st ≤ 200000:=by have:=hk k hk';omega
      refine WOL.bt rfl rfl rfl (by first | exact decide_eq_true (by omega) | exact beq_iff_eq.2 (by omega) | exact bne_iff_ne.2 (by omega)) <| WOL.nil <| keep [(1,_),(2,_),(3,_),(4,_),(5,_),(10,_),(12,_),(13,_),(14,_),(15,_),(16,_),(40,_)] ⟨rfl,rfl,rfl,rfl,rfl,rfl,rfl,rfl,rfl,rfl,rfl,rfl,trivial⟩ ?_
      obtain ⟨_,_,cc',fix',wr',el',y1,y2,y3,y4,y5⟩:=(sA.hx (X.trans Z)).at eC u1205 tp1207 (zipK_get (L:=L) (S:=S) hq) .i64
      obtain ⟨b1',b2'⟩:=lim (j + k * st)
      refine WL.yes rfl <| WL.sr <| WOL.mv rfl <| WOL.mv rfl <| WOL.mv rfl <| WOL.sub (m:=((b + j:Nat):Int)) (n:=(b:Int)) rfl rfl (by omega) (by omega) ?_
      rw [show ((b + j:Nat):Int) - (b:Int) = ((j:Nat):Int) by omega]
      refine WOL.mv rfl <| WOL.mv rfl <| WOL.mulN rfl rfl (by omega) <| WOL.addN rfl rfl (by omega) <| WOL.ix rfl rfl y1 <| WOL.ld rfl (load_row tp1207 y2 y4 y3) <| WOL.al tp1207 fun i3 M3 => ?_
      have m3:=M3.next
      refine WOL.sto (vs:=encC (L.getD (j + k * st) 0,knownB S ((j + k * st:Nat):Int))) rfl rfl tp1207 M3.at_ rfl rfl (Nat.le_of_ble_eq_true rfl) rfl (f.hx (Yz.trans M3.hx)) (by have:=Yz.next;omega) fun i4 M4 => WOL.nil <| keep [(1,_),(2,_),(3,_),(4,_),(5,_),(10,_),(12,_),(13,_),(14,_),(15,_),(16,_),(17,_)] ⟨rfl,rfl,rfl,rfl,rfl,rfl,rfl,rfl,rfl,rfl,rfl,rfl,trivial⟩ ?_
      have m4:=M4.next
      have A17:At i4 g'.next (.cells [zi (L.getD (j + k * st) 0),.bool (knownB S ((j + k * st:Nat):Int))] true true 135):=M4.at_
      have A':=M4.oth _ _ (by omega) (A.hx M3.hx)
      have Z4:HX g i4:=M4.hx _ (Z.trans M3.hx) (by omega)
      have Y4:=Yg.trans Z4
      obtain ⟨_,_,cd,fixd,wrd,eld,d1,d2,d3,d4,d5⟩:=(s.hx Y4).at eI u29 tp3 hp .i64
      have dx:=d5 0 (by decide)
      rw [Nat.add_zero] at dx
      obtain ⟨m1,m2⟩:=mul_lim w1 w2 b1' b2'
      have ll:=tapN_lim (i:=j) lim (T:=wTn Wt st k) (s:=0) (B:=0) (fun t ht => wTn_w hw k t ht) (by omega) (by omega)
      have lk:=wTn_len (Wt:=Wt) (st:=st) k
      refine WL.sr <| WOL.fa rfl (fa_of fo1207_0) <| WOL.ld rfl (load_one tp3 A' rfl) <| WOL.mv rfl <| WOL.mv rfl <| WOL.ix rfl rfl d1 <| WOL.ld rfl (load_one tp3 d2 dx) <| WOL.fa rfl (fa_of fo1207_0) <| WOL.ld rfl (load_one tp3 A17 rfl) <| WOL.mul rfl rfl (by omega) (by omega) <| WOL.add rfl rfl (by omega) (by omega) <| WOL.fa rfl (fa_of fo1207_0) <| WOL.sto (vs:=encI (tapN L j (wTn Wt st k) 0 + x * L.getD (j + k * st) 0)) rfl rfl tp3 A' rfl rfl (Nat.le_of_ble_eq_true rfl) rfl (f.hx Y4) (by omega) fun i5 M5 => WOL.nil <| keep [(1,_),(2,_),(3,_),(4,_),(5,_),(10,_),(12,_),(13,_),(14,_),(15,_),(16,_),(17,_)] ⟨rfl,rfl,rfl,rfl,rfl,rfl,rfl,rfl,rfl,rfl,rfl,rfl,trivial⟩ ?_
      have m5:=M5.next
      have A5':At i5 g.next (.cells [zi (tapN L j (wTn Wt st k) 0 + x * L.getD (j + k * st) 0),.bool (tapK S j (wTn Wt st k))] true true 135):=M5.at_
      have A17':=M5.oth _ _ (by omega) A17
      have Z5:HX g i5:=M5.hx _ Z4 (by omega)
      have hN:tapN L j (wTn Wt st (k + 1)) 0 = tapN L j (wTn Wt st k) 0 + x * L.getD (j + k * st) 0:=by rw [hst',tapN_app];rfl
      have hK:tapK S j (wTn Wt st (k + 1)) = (tapK S j (wTn Wt st k) && knownB S ((j + k * st:Nat):Int)):=by rw [hst',tapK_app]
      refine WL.reg <| WOL.fa rfl (fa_of fo1207_1) <| WOL.ld rfl (load_one tp4 A5' rfl) <| WOL.mv rfl ?_
      have fin:∀ B:Bool,B = tapK S j (wTn Wt st (k + 1)) → ∀ y,Kn [(1,w),(2,zi (b:Nat)),(3,zi (a:Nat)),(4,zi (st:Nat)),(5,ptr h.next),(10,ptr h1.next),(12,av),(13,u),(14,zi ((b + j:Nat):Int)),(15,ptr g.next),(16,zi (k:Nat)),(67,.bool B)] y → WO Tryz.prog tp (r1197_11.drop 6) y i5 (fun y g' => ∃ x:Unit,(HX g g' ∧ At g' g.next (.cells [zi (tapN L j (wTn Wt st (k + 1)) 0),.bool (tapK S j (wTn Wt st (k + 1)))] true true 135)) ∧ Kn [(1,w),(2,zi (b:Nat)),(3,zi (a:Nat)),(4,zi (st:Nat)),(5,ptr h.next),(10,ptr h1.next),(12,av),(13,u),(14,zi ((b + j:Nat):Int)),(15,ptr g.next),(16,zi (k:Nat))] y):=by
        intro B hB
        refine WOL.fa rfl (fa_of fo1207_1) <| WOL.sto (vs:=encB B) rfl rfl tp4 A5' rfl rfl (Nat.le_of_ble_eq_true rfl) rfl (f.hx (Yg.trans Z5)) (by omega) fun i6 M6 => WOL.nil fun y q => ⟨(),⟨M6.hx _ Z5 (by omega),?_⟩,q.sub ⟨rfl,rfl,rfl,rfl,rfl,rfl,rfl,rfl,rfl,rfl,rfl,trivial⟩⟩
        rw [hN,← hB]
        exact M6.at_
      cases hkk':tapK S j (wTn Wt st k) with
      | true =>
        rw [hkk',Bool.true_and] at hK
        exact WOL.now (b:=true) rfl rfl <| WOL.fa rfl (fa_of fo1207_1) <| WOL.now (b:=true) rfl rfl <| WOL.ld rfl (load_one tp4 A17' rfl) <| WOL.pkt rfl rfl <| kto (fin _ hK.symm) ⟨rfl,rfl,rfl,rfl,rfl,rfl,rfl,rfl,rfl,rfl,rfl,rfl,trivial⟩
      | false =>
        rw [hkk',Bool.false_and] at hK
        exact WOL.skp (b:=false) rfl rfl <| WOL.skp (b:=false) rfl rfl <| WOL.pkf rfl rfl <| kto (fin _ hK.symm) ⟨rfl,rfl,rfl,rfl,rfl,rfl,rfl,rfl,rfl,rfl,rfl,rfl,trivial⟩
    · rintro _ g' ⟨Z,A⟩
      have zg:=Z.next
      have Yz:=Yg.trans Z
      refine WL.reg <| WOL.mv rfl <| WOL.ld rfl (load_row tp1207 A rfl (Nat.le_of_ble_eq_true rfl)) <| WOL.bsl rfl u1205 tp1207 (by decide) (by decide) (by decide) (cs:=encC (tapN L j (wTn Wt st Wt.length) 0,tapK S j (wTn Wt st Wt.length))) rfl fun i5 N5 => ?_
      have n5:=N5.next
      obtain ⟨u',i6,ap,O',x6,_,_,_⟩:=own_push (sT:=133) (x:=(tapN L j (wTn Wt st Wt.length) 0,tapK S j (wTn Wt st Wt.length))) eC u1205 tp1207 ((O.hx Z).hx N5.hx) (SlC.own (sz:=2) (m:=1) rfl N5.at_) ((f.hx (Yz.trans N5.hx)).up (by omega)) (by rw [tapC_len];omega) (by omega)
      rw [← tapC_succ] at O'
      exact WOL.ap rfl rfl ap <| WOL.as rfl <| WOL.nil fun y q => ⟨u',⟨x6 _ ((X.trans Z).trans N5.hx) (Nat.le_refl _),O'⟩,q.sub ⟨rfl,rfl,rfl,rfl,rfl,rfl,rfl,rfl,rfl,trivial⟩⟩
  · rintro u g ⟨X,O⟩
    have xg:=X.next
    have Yg:=Y3.trans X
    have sO:=O.sl eC
    refine WL.seq <| WL.sr <| WOL.mv rfl <| WOL.len rfl sO u1205 ?_
    rw [tapC_len]
    by_cases h0:L.length ≤ b + a
    · rw [decide_eq_true h0]
      refine WOL.bt rfl rfl rfl (by first | exact decide_eq_true (by omega) | exact beq_iff_eq.2 (by omega) | exact bne_iff_ne.2 (by omega)) <| WOL.nil <| WL.yes rfl <| WL.sr <| WOL.bd rfl bd1114z <| WOL.sto (vs:=[zi 0,.slice none 0 0,.slice none 0 0]) rfl rfl tp1114 (A10.hx X) rfl rfl (Nat.le_of_ble_eq_true rfl) rfl (f.hx Yg) (by omega) fun i1 M1 => WOL.as rfl <| WOL.nil ?_
      exact WL.ret (WL.endC1 rfl rfl (load_row tp1114 M1.at_ rfl (Nat.le_of_ble_eq_true rfl)) ⟨M1.hx _ Yg (by omega),.inl ⟨by decide,rfl⟩⟩)
    rw [decide_eq_false h0]
    refine WOL.bf rfl rfl rfl (by first | exact decide_eq_false (by omega) | exact beq_eq_false_iff_ne.2 (by omega) | exact bne_eq_false_iff_eq.2 (by omega)) <| WOL.nil <| WL.no rfl <| WL.skip ?_
    refine WL.sr <| WOL.fa rfl (fa_of fo1114_0) <| WOL.ld rfl (load_one tp3 (A5.hx X) rfl) <| WOL.mv rfl <| WOL.add (m:=n) (n:=(b:Int)) rfl rfl (by omega) (by omega) <| WOL.mv rfl <| WOL.cl2 rfl rfl rfl ((k1188 H sO (by rw [tapC_len];omega) (f.on Yg)).mono ?_)
    rintro v g2 ⟨X2',R⟩
    have Z:=Yg.trans X2'
    have B10:=(A10.hx X).hx X2'
    have xx:=X2'.next
    rcases R with ⟨hb,rfl⟩ | ⟨hb,u1,u2,rfl,O1,O2⟩
    · refine WOL.ex rfl rfl <| WOL.ex rfl rfl <| WOL.sto (vs:=[zi 0,.slice none 0 0,.slice none 0 0]) rfl rfl tp1114 B10 rfl rfl (Nat.le_of_ble_eq_true rfl) rfl (f.hx Z) (by omega) fun i1 M1 => WOL.as rfl <| WOL.nil ?_
      exact WL.ret (WL.endC1 rfl rfl (load_row tp1114 M1.at_ rfl (Nat.le_of_ble_eq_true rfl)) ⟨M1.hx _ Z (by omega),.inr ⟨rfl,.inl ⟨hb,rfl⟩⟩⟩)
    · obtain ⟨z1,e1⟩:=OwnF.form (Or.inl O1)
      obtain ⟨z2,e2⟩:=OwnF.form (Or.inl O2)
      refine WOL.ex rfl rfl <| WOL.ex rfl rfl <| WOL.sto (vs:=[zi (n + b),u1,u2]) rfl rfl tp1114 B10 rfl rfl (Nat.le_of_ble_eq_true rfl) (by rw [e1,e2];rfl) (f.hx Z) (by omega) fun i1 M1 => WOL.as rfl <| WOL.nil ?_
      exact WL.ret (WL.endC1 rfl rfl (load_row tp1114 M1.at_ rfl (Nat.le_of_ble_eq_true rfl)) ⟨M1.hx _ Z (by omega),.inr ⟨rfl,.inr ⟨hb,u1,u2,rfl,(O1.keep fun z y hz a => M1.oth _ _ (by have:=O1.lt hz;omega) a).low (by omega),(O2.keep fun z y hz a => M1.oth _ _ (by have:=O2.lt hz;omega) a).low (by omega)⟩⟩⟩)
end
end Go.Tidy
namespace Go.Tidy
open Go Go.Proofs Tab
variable {tp:TProg}
def vTn (p q:Nat):List (Nat × Int):=[(0,-(q:Int)),(p,(p:Int) + q),(p + q,-(p:Int))]
theorem chord_ok {a b:Int} (h:chordE a b = 0):1 ≤ a ∧ a ≤ 32 ∧ 1 ≤ b ∧ b ≤ 32:=by
 have all:=firstNZ_zero h
 have h1:=all (outB a 1 32) (by simp)
 have h2:=all (outB b 1 32) (by simp)
 have o:∀ x:Int,outB x 1 32 = 0 → 1 ≤ x ∧ x ≤ 32:=fun x hx => by
  unfold outB at hx
  by_cases c1:x < 1
  ·rw [decide_eq_true c1] at hx;cases hx
  ·by_cases c2:32 < x
   ·rw [decide_eq_false c1,decide_eq_true c2] at hx;cases hx
   ·omega
 exact ⟨(o _ h1).1,(o _ h1).2,(o _ h2).1,(o _ h2).2⟩
theorem vTaps {p q:Nat} (hp:1 ≤ p) (hp':p ≤ 32) (hq:1 ≤ q) (hq':q ≤ 32):Taps (vTn p q) (p + q):=⟨⟨_,rfl⟩,⟨_,rfl⟩,fun t ht => by
 unfold vTn at ht
 simp only [List.mem_cons,List.not_mem_nil,or_false] at ht
 rcases ht with rfl | rfl | rfl
 ·exact Nat.zero_le _
 ·exact Nat.le_add_right _ _
 ·exact Nat.le_refl _,fun t ht => by
 unfold vTn at ht
 simp only [List.mem_cons,List.not_mem_nil,or_false] at ht
 rcases ht with rfl | rfl | rfl
 ·show -10000 ≤ -(q:Int) ∧ -(q:Int) ≤ 10000;omega
 ·show -10000 ≤ (p:Int) + q ∧ (p:Int) + q ≤ 10000;omega
 ·show -10000 ≤ -(p:Int) ∧ -(p:Int) ≤ 10000;omega,by show 3 ≤ 1000;decide⟩
theorem vTapD {p q:Nat}:tapD (-(p:Int)) (vTn p q) = [(-(p:Int),-(q:Int)),(0,(p:Int) + q),((q:Int),-(p:Int))]:=by
 unfold tapD vTn
 simp only [List.map_cons,List.map_nil]
 rw [show ((0:Nat):Int) + -(p:Int) = -(p:Int) by omega,show ((p:Nat):Int) + -(p:Int) = 0 by omega,show ((p + q:Nat):Int) + -(p:Int) = q by omega]
section
variable {h:TH} {n a b:Int} {v1 v2:Value} {L:List Int} {S:List (Int × Int)}
theorem vTn_of {Wt:List Int} {p q:Nat} (hp:1 ≤ p) (hq:1 ≤ q) (hw:∀ k,Wt.getD k 0 = if k = 0 then -(q:Int) else if k = p then (p:Int) + q else if k = p + q then -(p:Int) else 0):∀ j,wTn Wt 1 j = (if 0 < j then [(0,-(q:Int))] else []) ++ ((if p < j then [(p,(p:Int) + q)] else []) ++ if p + q < j then [(p + q,-(p:Int))] else [])
  | 0 => by rw [if_neg (by omega),if_neg (by omega),if_neg (by omega)];rfl
  | j + 1 => by
    have ih:=vTn_of hp hq hw j
    unfold wTn
    rw [hw j,ih,Nat.mul_one]
    by_cases h0:j = 0
    · subst h0
      rw [if_pos rfl,if_neg (show ¬ -(q:Int) = 0 by omega),if_neg (by omega),if_neg (by omega),if_neg (by omega),if_pos (by omega),if_neg (by omega),if_neg (by omega)]
      rfl
    rw [if_neg h0]
    by_cases h1:j = p
    · subst h1
      rw [if_pos rfl,if_neg (show ¬ (j:Int) + q = 0 by omega),if_pos (by omega),if_neg (by omega),if_neg (by omega),if_pos (by omega),if_pos (by omega),if_neg (by omega)]
      rfl
    rw [if_neg h1]
    by_cases h2:j = p + q
    · subst h2
      rw [if_pos rfl,if_neg (show ¬ -(p:Int) = 0 by omega),if_pos (by omega),if_pos (by omega),if_neg (by omega),if_pos (by omega),if_pos (by omega),if_pos (by omega)]
      rfl
    rw [if_neg h2,if_pos rfl,if_pos (show 0 < j by omega),if_pos (show 0 < j + 1 by omega)]
    congr 1
    by_cases c1:p < j
    · rw [if_pos c1,if_pos (show p < j + 1 by omega)]
      by_cases c2:p + q < j
      · rw [if_pos c2,if_pos (show p + q < j + 1 by omega)]
      · rw [if_neg c2,if_neg (show ¬ p + q < j + 1 by omega)]
    · rw [if_neg c1,if_neg (show ¬ p < j + 1 by omega),if_neg (show ¬ p + q < j by omega),if_neg (show ¬ p + q < j + 1 by omega)]
theorem vTn_all {Wt:List Int} {p q:Nat} (hp:1 ≤ p) (hq:1 ≤ q) (hw:∀ k,Wt.getD k 0 = if k = 0 then -(q:Int) else if k = p then (p:Int) + q else if k = p + q then -(p:Int) else 0):wTn Wt 1 (p + q + 1) = vTn p q:=by
 rw [vTn_of hp hq hw,if_pos (by omega),if_pos (by omega),if_pos (by omega)];rfl
set_option maxHeartbeats 2000000 in
set_option maxRecDepth 10000 in
theorem k1128 (H:Has tp) {p q:Nat} (r:TrcH h v1 v2 L S) (hp:1 ≤ p) (hp':p ≤ 32) (hq:1 ≤ q) (hq':q ≤ 32) (lim:∀ j,-1073741824 ≤ L.getD j 0 ∧ L.getD j 0 ≤ 1073741824) (m1:0 ≤ n) (m2:n ≤ 100000000) (l1:L.length ≤ 900000) (t1:S.length ≤ 900000) (f:Free0 h.next h) :
  CallW Tryz.prog tp (.func (.func 28) #[] #[]) #[.agg #[zi (p:Nat),zi (q:Nat)],trcV n v1 v2] h fun v h' => HX h h' ∧ TapR (n + p) (cond (decide (L.length ≤ p + q)) 16 0) (tapC L S (vTn p q) (L.length - (p + q))) h.next h' v:=by
 refine CallW.fnL (H.fn 28 f1128 rfl rfl) ?_
 obtain ⟨b1,k1,e1,_⟩:=id r.l
 obtain ⟨b2,k2,e2,_⟩:=id r.s
 subst e1 e2
 refine WL.sr <| WOL.box rfl fun h1 N1 => WOL.box rfl fun h2 N2 => WOL.al tp1114 fun h3 N3 => WOL.as rfl <| WOL.nil <| keep [(2,_),(3,_),(4,_)] ⟨rfl,rfl,rfl,trivial⟩ ?_
 have q1:=N1.next
 have q2:=N2.next
 have q3:=N3.next
 have A2:At h3 h.next (.cells [zi (p:Nat),zi (q:Nat)] true true 23):=(N1.at_.hx N2.hx).hx N3.hx
 have A3:At h3 h1.next (.cells [zi n,.slice b1 L.length k1,.slice b2 S.length k2] true true 27):=N2.at_.hx N3.hx
 have A4:=N3.at_
 have X3:=(N1.hx.trans N2.hx).trans N3.hx
 refine WL.sr <| WOL.fa rfl (fa_of fo1112_0) <| WOL.ld rfl (load_one tp3 A2 rfl) <| WOL.fa rfl (fa_of fo1112_1) <| WOL.ld rfl (load_one tp3 A2 rfl) <| WOL.addN rfl rfl (by omega) <| WOL.inc rfl (by omega) <| WOL.ms (m:=p + q + 1) rfl rfl u29 tp3 (by decide) (by omega) fun h4 N4 => WOL.as rfl <| WOL.nil <| keep [(2,_),(3,_),(4,_),(6,_)] ⟨rfl,rfl,rfl,rfl,trivial⟩ ?_
 have q4:=N4.next
 have W0:=N4.at_
 rw [rep_flat,← cat_rep (enc:=encI) (x:=0) rfl] at W0
 have X4:=X3.trans N4.hx
 replace A2:=A2.hx N4.hx;replace A3:=A3.hx N4.hx;replace A4:=A4.hx N4.hx
 refine WL.sr <| WOL.mv rfl <| WOL.fa rfl (fa_of fo1112_1) <| WOL.ld rfl (load_one tp3 A2 rfl) <| WOL.sub (m:=0) (n:=(q:Int)) rfl rfl (by omega) (by omega) <| WOL.ix rfl rfl (indexAddr_tp (j:=0) u29 tp3 (by omega)) <| WOL.sto (vs:=encI (0 - (q:Int))) rfl rfl tp3 W0 rfl rfl (by rw [eI.cat_len,List.length_replicate];omega) rfl (f.hx X4) (by omega) fun h5 P5 => WOL.nil <| keep [(2,_),(3,_),(4,_),(6,_)] ⟨rfl,rfl,rfl,rfl,trivial⟩ ?_
 have W1:=P5.at_
 rw [Nat.zero_add,eI.set (by rw [List.length_replicate];omega)] at W1
 have q5:=P5.next
 have X5:HX h h5:=P5.hx _ X4 (by omega)
 replace A2:=P5.oth _ _ (by omega) A2
 replace A3:=P5.oth _ _ (by omega) A3
 replace A4:=P5.oth _ _ (by omega) A4
 refine WL.sr <| WOL.mv rfl <| WOL.fa rfl (fa_of fo1112_0) <| WOL.ld rfl (load_one tp3 A2 rfl) <| WOL.fa rfl (fa_of fo1112_0) <| WOL.ld rfl (load_one tp3 A2 rfl) <| WOL.fa rfl (fa_of fo1112_1) <| WOL.ld rfl (load_one tp3 A2 rfl) <| WOL.addN rfl rfl (by omega) <| WOL.ix rfl rfl (indexAddr_tp (j:=p) u29 tp3 (by omega)) <| WOL.sto (vs:=encI ((p + q:Nat):Int)) rfl rfl tp3 W1 rfl rfl (by rw [eI.cat_len,List.length_set,List.length_replicate];omega) rfl (f.hx X5) (by omega) fun h6 P6 => WOL.nil <| keep [(2,_),(3,_),(4,_),(6,_)] ⟨rfl,rfl,rfl,rfl,trivial⟩ ?_
 have W2:=P6.at_
 rw [Nat.zero_add,eI.set (by rw [List.length_set,List.length_replicate];omega)] at W2
 have q6:=P6.next
 have X6:HX h h6:=P6.hx _ X5 (by omega)
 replace A2:=P6.oth _ _ (by omega) A2
 replace A3:=P6.oth _ _ (by omega) A3
 replace A4:=P6.oth _ _ (by omega) A4
 refine WL.sr <| WOL.mv rfl <| WOL.fa rfl (fa_of fo1112_0) <| WOL.ld rfl (load_one tp3 A2 rfl) <| WOL.fa rfl (fa_of fo1112_1) <| WOL.ld rfl (load_one tp3 A2 rfl) <| WOL.addN rfl rfl (by omega) <| WOL.fa rfl (fa_of fo1112_0) <| WOL.ld rfl (load_one tp3 A2 rfl) <| WOL.sub (m:=0) (n:=(p:Int)) rfl rfl (by omega) (by omega) <| WOL.ix rfl rfl (indexAddr_tp (j:=p + q) u29 tp3 (by omega)) <| WOL.sto (vs:=encI (0 - (p:Int))) rfl rfl tp3 W2 rfl rfl (by rw [eI.cat_len,List.length_set,List.length_set,List.length_replicate];omega) rfl (f.hx X6) (by omega) fun h7 P7 => WOL.nil <| keep [(2,_),(3,_),(4,_),(6,_)] ⟨rfl,rfl,rfl,rfl,trivial⟩ ?_
 have W3:=P7.at_
 rw [Nat.zero_add,eI.set (by rw [List.length_set,List.length_set,List.length_replicate];omega)] at W3
 have q7:=P7.next
 have X7:HX h h7:=P7.hx _ X6 (by omega)
 replace A2:=P7.oth _ _ (by omega) A2
 replace A3:=P7.oth _ _ (by omega) A3
 replace A4:=P7.oth _ _ (by omega) A4
 have hw:∀ k,((((List.replicate (p + q + 1) (0:Int)).set 0 (0 - (q:Int))).set p ((p + q:Nat):Int)).set (p + q) (0 - (p:Int))).getD k 0 = if k = 0 then -(q:Int) else if k = p then (p:Int) + q else if k = p + q then -(p:Int) else 0:=fun k => by
  rw [List.getD_eq_getElem?_getD,List.getElem?_set,List.getElem?_set,List.getElem?_set,List.getElem?_replicate]
  simp only [List.length_set,List.length_replicate]
  by_cases k0:k = 0
  ·subst k0
   rw [if_neg (by omega),if_neg (by omega),if_pos rfl,if_pos (by omega),if_pos rfl]
   show 0 - (q:Int) = _;omega
  rw [if_neg k0]
  by_cases k1:k = p
  ·subst k1
   rw [if_neg (by omega),if_pos rfl,if_pos (by omega),if_pos rfl]
   show ((k + q:Nat):Int) = _;omega
  rw [if_neg k1]
  by_cases k2:k = p + q
  ·subst k2
   rw [if_pos rfl,if_pos (by omega),if_pos rfl]
   show 0 - (p:Int) = _;omega
  rw [if_neg k2,if_neg (by omega),if_neg (by omega),if_neg (by omega)]
  split <;> rfl
 have lw:((((List.replicate (p + q + 1) (0:Int)).set 0 (0 - (q:Int))).set p ((p + q:Nat):Int)).set (p + q) (0 - (p:Int))).length = p + q + 1:=by rw [List.length_set,List.length_set,List.length_set,List.length_replicate]
 generalize (((List.replicate (p + q + 1) (0:Int)).set 0 (0 - (q:Int))).set p ((p + q:Nat):Int)).set (p + q) (0 - (p:Int)) = Wt at *
 refine WL.sr <| WOL.ld rfl (load_row tp1114 A3 rfl (Nat.le_of_ble_eq_true rfl)) <| WOL.mv rfl <| WOL.fa rfl (fa_of fo1112_0) <| WOL.ld rfl (load_one tp3 A2 rfl) <| WOL.fa rfl (fa_of fo1112_1) <| WOL.ld rfl (load_one tp3 A2 rfl) <| WOL.cl5 rfl rfl rfl rfl rfl rfl ((k1197 (n:=n) (b:=p) (a:=q) (st:=1) (Wt:=Wt) H (r.hx X7) (SlL.own eI W3 lw) (fun k hk => by omega) (by omega) (by omega) (by omega) (by omega) (fun j => ?_) lim m1 m2 l1 (by omega) (f.on X7)).mono ?_)
 ·rw [hw j]
  split
  ·omega
  ·split
   ·omega
   ·split <;> omega
 rintro v g ⟨X,R⟩
 rw [lw,vTn_all hp hq hw] at R
 have x1:=X7.next
 have x2:=X.next
 have l4:=A4.lt
 rcases R with ⟨heT,rfl⟩ | ⟨heT,⟨hbT,rfl⟩ | ⟨hbT,u1T,u2T,rfl,o1T,o2T⟩⟩
 ·exact WOL.ex rfl rfl <| WOL.ex rfl rfl <| WOL.sto (vs:=[zi 0,.slice none 0 0,.slice none 0 0]) rfl rfl tp1114 (A4.hx X) rfl rfl (Nat.le_of_ble_eq_true rfl) rfl (f.hx (X7.trans X)) (by omega) fun iT MT => WOL.as rfl <| WOL.nil <| WL.ret (WL.endC1 rfl rfl (load_row tp1114 MT.at_ rfl (Nat.le_of_ble_eq_true rfl)) ⟨MT.hx _ (X7.trans X) (by omega),.inl ⟨heT,rfl⟩⟩)
 ·exact WOL.ex rfl rfl <| WOL.ex rfl rfl <| WOL.sto (vs:=[zi 0,.slice none 0 0,.slice none 0 0]) rfl rfl tp1114 (A4.hx X) rfl rfl (Nat.le_of_ble_eq_true rfl) rfl (f.hx (X7.trans X)) (by omega) fun iT MT => WOL.as rfl <| WOL.nil <| WL.ret (WL.endC1 rfl rfl (load_row tp1114 MT.at_ rfl (Nat.le_of_ble_eq_true rfl)) ⟨MT.hx _ (X7.trans X) (by omega),.inr ⟨heT,.inl ⟨hbT,rfl⟩⟩⟩)
 ·obtain ⟨z1T,e1T⟩:=OwnF.form (Or.inl o1T)
  obtain ⟨z2T,e2T⟩:=OwnF.form (Or.inl o2T)
  exact WOL.ex rfl rfl <| WOL.ex rfl rfl <| WOL.sto (vs:=[zi _,u1T,u2T]) rfl rfl tp1114 (A4.hx X) rfl rfl (Nat.le_of_ble_eq_true rfl) (by rw [e1T,e2T];rfl) (f.hx (X7.trans X)) (by omega) fun iT MT => WOL.as rfl <| WOL.nil <| WL.ret (WL.endC1 rfl rfl (load_row tp1114 MT.at_ rfl (Nat.le_of_ble_eq_true rfl)) ⟨MT.hx _ (X7.trans X) (by omega),.inr ⟨heT,.inr ⟨hbT,u1T,u2T,rfl,(o1T.keep fun z y hz a => MT.oth _ _ (by have:=o1T.lt hz;omega) a).low (by omega),(o2T.keep fun z y hz a => MT.oth _ _ (by have:=o2T.lt hz;omega) a).low (by omega)⟩⟩⟩)
end
end Go.Tidy
namespace Go.Tidy
open Go Go.Proofs Tab
variable {tp:TProg}
theorem k11t (A:Awk tp) (h:TH):CallW Tryz.prog tp (.func (.func 12) #[] #[]) #[] h fun v h' => v = .bool true ∧ h' = h:=by
 obtain ⟨e,e1,e2⟩:=A.e
 exact CallW.ext A.no e1 rfl e2 rfl ⟨rfl,rfl⟩
theorem ix1115_0 {c:Nat}:indexAddrT Tryz.prog 28 (.pointer (some ⟨c,0,none⟩)) (.int .i64 0) = some (.pointer (some ⟨c,0,none⟩)):=by kernel_rfl
theorem ix1115_1 {c:Nat}:indexAddrT Tryz.prog 28 (.pointer (some ⟨c,0,none⟩)) (.int .i64 1) = some (.pointer (some ⟨c,3,none⟩)):=by kernel_rfl
theorem IsInts.keep {g g':TH} {y:Value} {L:List Int} (i:IsInts g y L) (k:∀ b x,bl y = some b → At g b x → At g' b x):IsInts g' y L:=by
 rcases i with i | ⟨b,c,fix,wr,el,i1,i2,i3⟩
 ·exact .inl i
 ·subst i1
  have:=k b _ rfl ⟨i3,i2⟩
  exact .inr ⟨b,c,fix,wr,el,rfl,this.lt,this.get⟩
def CelA (ty:TypeId) (n:Int) (o:Int × List Int × List (Int × Int)) (g:TH) (c:Nat):Prop:=∃ z b1 m1 k1 b2 m2 k2,At g c (.cells [zi z,.slice b1 m1 k1,.slice b2 m2 k2] true true ty) ∧ IsInts g (.slice b1 m1 k1) o.2.1 ∧ SlL encS 2 g (.slice b2 m2 k2) o.2.2 ∧ ((o.1 ≠ 0 ∧ z = 0 ∧ o.2.1 = [] ∧ o.2.2 = []) ∨ (o.1 = 0 ∧ z = n))
theorem CelA.hx {ty:TypeId} {n:Int} {o:Int × List Int × List (Int × Int)} {g g':TH} {c:Nat} (q:CelA ty n o g c) (x:HX g g'):CelA ty n o g' c:=by
 obtain ⟨z,b1,m1,k1,b2,m2,k2,A,i,s,e⟩:=q
 exact ⟨z,b1,m1,k1,b2,m2,k2,A.hx x,i.hx x,s.hx x,e⟩
section
variable {h h0:TH} {a b n1 n2 m1 m2 e1:Int} {v1 v2 w1 w2:Value} {L1:List Int} {S1:List (Int × Int)} {o1 o2:Int × List Int × List (Int × Int)} {c3 c4 c7 c9 c14 c15:Nat}
end
end Go.Tidy
namespace Go.Tidy
open Go Go.Proofs Tab
variable {tp:TProg}
theorem shortB2_le {m k:Nat} (h:shortB2 m k = true):m ≤ 900000 ∧ k ≤ 900000:=by
 unfold shortB2 at h
 cases h1:decide ((m:Int) ≤ 60) with
 | true =>
  rw [h1] at h
  have a1:=of_decide_eq_true h1
  have a2:((k:Int) ≤ 12):=of_decide_eq_true h
  omega
 | false =>
  rw [h1] at h
  cases h2:((m:Int) == 4097) with
  | true =>
   rw [h2] at h
   have a1:(m:Int) = 4097:=eq_of_beq h2
   have a2:((k:Int) ≤ 12):=of_decide_eq_true h
   omega
  | false => rw [h2] at h;cases h
theorem holesOf_le (B:List Bool):(holesOf B).length ≤ B.length:=by
 have:=holesN_len B B.length
 show (holesN _ _).length ≤ _
 exact this
section
variable {h:TH} {a b n1 n2 p:Int} {v1 v2 w1 w2:Value} {L1 L2:List Int} {S1 S2:List (Int × Int)}
end
set_option maxRecDepth 100000 in
theorem ty_trc {h:TH} {n:Nat} {ps:List Value} (y:Ty Tryz.prog h (n + 4) 27 ps):∃ z v1 v2 L S,ps = [zi z,v1,v2] ∧ TrcH h v1 v2 L S:=by
 obtain ⟨p,q,rfl,_,y1,p',q',rfl,_,y2,p2,q2,rfl,_,y3,rfl⟩:=tyg_struct Tryz.underlying27 y
 obtain ⟨z,rfl,_⟩:=ty_int y1
 obtain ⟨v1,L,rfl,r1,g1⟩:=tyg_slice eI u29 (fun p y => by obtain ⟨b,e,_⟩:=ty_int y;exact ⟨b,e⟩) y2
 obtain ⟨v2,S,rfl,r2,_⟩:=tyg_slice eS u44 (fun p y => ty_span y) y3
 exact ⟨z,v1,v2,L,S,rfl,r1,r2,g1 3⟩
end Go.Tidy
namespace Go.Tidy
open Go Go.Proofs Tab
theorem args3 {P:Program} {h:TH} {m:Nat} {t0 t1 t2:TypeId} {us:List Value} (ha:Args P h m [t0,t1,t2] us):∃ x0 x1 x2,us = [x0,x1,x2] ∧ (∃ ps,Ty P h m t0 ps ∧ x0 = valOf P t0 ps) ∧ (∃ ps,Ty P h m t1 ps ∧ x1 = valOf P t1 ps) ∧ ∃ ps,Ty P h m t2 ps ∧ x2 = valOf P t2 ps:=by
 match us,ha with
 | [x0,x1,x2],⟨a0,a1,a2,_⟩ => exact ⟨x0,x1,x2,rfl,a0,a1,a2⟩
end Go.Tidy
namespace Go.Tidy
open Go Go.Proofs Tab
variable {tp:TProg}
theorem sumO_l1 {e:Int} {C:List (Int × Bool)}:(sumO e C).2.1.length ≤ C.length:=by
 unfold sumO
 split
 ·exact Nat.zero_le _
 ·split
  ·exact Nat.zero_le _
  ·show (valC C).length ≤ _
   unfold valC
   rw [List.length_map];exact Nat.le_refl _
theorem sumO_l2 {e:Int} {C:List (Int × Bool)}:(sumO e C).2.2.length ≤ C.length:=by
 unfold sumO
 split
 ·exact Nat.zero_le _
 ·split
  ·exact Nat.zero_le _
  ·refine Nat.le_trans (holesOf_le _) ?_
   rw [List.length_map];exact Nat.le_refl _
theorem sumO_err {e:Int} {C:List (Int × Bool)} (h:e ≠ 0):sumO e C = (e,[],[]):=by unfold sumO;rw [if_pos h]
theorem CelA.err {n e:Int} {g:TH} {c:Nat} {ty:TypeId} (h:e ≠ 0) (A:At g c (.cells [zi 0,.slice none 0 0,.slice none 0 0] true true ty)):CelA ty n (e,[],[]) g c:=⟨0,_,_,_,_,_,_,A,.inl ⟨rfl,rfl⟩,SlL.nil,.inl ⟨h,rfl,rfl,rfl⟩⟩
theorem CelA.keep {ty:TypeId} {n:Int} {o:Int × List Int × List (Int × Int)} {g g':TH} {c:Nat} (q:CelA ty n o g c) (k:∀ b x,At g b x → At g' b x):CelA ty n o g' c:=by
 obtain ⟨z,b1,m1,k1,b2,m2,k2,A,i,s,e⟩:=q
 exact ⟨z,b1,m1,k1,b2,m2,k2,k _ _ A,i.keep fun b x _ a => k _ _ a,slC_keep s fun b x _ a => k _ _ a,e⟩
theorem celOne {n:Int} {o:Int × List Int × List (Int × Int)} {g h0:TH} {c c':Nat} (H:Has tp) (f:Free0 h0.next h0) (X0:HX h0 g) (C:CelA 31 n o g c) (C':CelA 27 n o g c') (l1:o.2.1.length ≤ 1000000) (l2:o.2.2.length ≤ 1000000):∃ u1 u2,At g c u1 ∧ At g c' u2 ∧ ∃ z z' b1 m1 k1 b2 m2 k2 b3 m3 k3 b4 m4 k4,u1 = .cells [zi z,.slice b1 m1 k1,.slice b2 m2 k2] true true 31 ∧ u2 = .cells [zi z',.slice b3 m3 k3,.slice b4 m4 k4] true true 27 ∧ CallW Tryz.prog tp (.func (.func 24) #[] #[]) #[trcV z (.slice b1 m1 k1) (.slice b2 m2 k2),zi o.1,zi o.1,trcV z' (.slice b3 m3 k3) (.slice b4 m4 k4)] g fun v h' => v = .bool true ∧ HX g h':=by
 obtain ⟨z,b1,m1,k1,b2,m2,k2,A,i,s,e⟩:=C
 obtain ⟨z',b3,m3,k3,b4,m4,k4,A',i',s',e'⟩:=C'
 refine ⟨_,_,A,A',z,z',b1,m1,k1,b2,m2,k2,b3,m3,k3,b4,m4,k4,rfl,rfl,k1124 (n:=z) (n':=z') H i s rfl rfl l1 l2 (f.on X0) ?_⟩
 rcases e with e | ⟨q1,q2⟩
 ·exact .inl e
 ·rcases e' with e' | ⟨q3,q4⟩
  ·exact absurd q1 e'.1
  ·exact .inr ⟨q1,q2.trans q4.symm,i',s'⟩
section
variable {h h0:TH} {a b n m1 m2 E1:Int} {v1 v2 w9 w16:Value} {L:List Int} {S:List (Int × Int)} {l3:List Int} {o1 o2:Int × List Int × List (Int × Int)} {c2 c3 c5 c7 c14 c15 p q:Nat}
end
end Go.Tidy
namespace Go.Tidy
open Go Go.Proofs Tab
variable {tp:TProg}
theorem out_mm {x l m:Int} (h:outB x l m = 0):l ≤ x ∧ x ≤ m:=by
 unfold outB at h
 by_cases c1:x < l
 ·rw [decide_eq_true c1] at h;cases h
 ·by_cases c2:m < x
  ·rw [decide_eq_false c1,decide_eq_true c2] at h;cases h
  ·omega
section
variable {h:TH} {n a b s:Int} {v1 v2:Value} {L:List Int} {S:List (Int × Int)} {p q st:Nat}
end
end Go.Tidy
namespace Go.Tidy
open Go Go.Proofs Tab
variable {tp:TProg}
section
variable {P:Program} {h:TH} {K:Regs → TH → Prop} {rest:List TOper} {d:Option Tmp} {ty:TypeId} {i:Nat} {x y:Operand} {t u:TypeId} {L:Rg}
theorem tdiv_lim (m n:Int):(m.tdiv n).natAbs ≤ m.natAbs:=by
 rw [Int.natAbs_tdiv]
 exact Nat.div_le_self _ _
theorem WOL.quoT {m n:Int} (hx:getL L x = some (.int .i64 m)) (hy:getL L y = some (.int .i64 n)) (hn:n ≠ 0) (h2:m.natAbs ≤ 4611686018427387904) (w:∀ a,Kn (putL L d (.int .i64 (m.tdiv n))) a → WO P tp rest a h K):∀ a,Kn L a → WO P tp (⟨d,.binOp .quo t x y u,ty,none,[],i⟩ :: rest) a h K:=fun a k => by
 refine WO.quoI (k.o hx) (k.o hy) hn ?_
 have:=tdiv_lim m n
 rw [fwrap_i64 (by omega) (by omega)]
 exact w _ (k.put d _)
end
theorem tmod_zero {m n:Int}:m.tdiv n * n = m ↔ m.tmod n = 0:=by
 rw [Int.tmod_def,Int.mul_comm (m.tdiv n)]
 omega
def resE1 (p:Nat) (n:Int):Int:=cond (n.tmod p != 0) 1 (cond (largeB (n.tdiv p)) 4 0)
def resN (p q:Nat) (H:List (Int × Bool)) (j:Nat) (x:Int):Int:=((p:Int) + q) * (H.getD (j + p) (0,false)).1 - (q:Int) * (H.getD j (0,false)).1 - x
def resK (p:Nat) (H:List (Int × Bool)) (j:Nat) (k:Bool):Bool:=k && ((H.getD (j + p) (0,false)).2 && (H.getD j (0,false)).2)
def resJ (p q:Nat) (E:List Int) (C:List (Int × Bool)):Nat → Int × List (Int × Bool)
 | 0 => (0,E.map fun x => (x,true))
 | j + 1 => if (resJ p q E C j).1 ≠ 0 then resJ p q E C j else if resK p (resJ p q E C j).2 j (C.getD j (0,false)).2 = true then (if resE1 p (resN p q (resJ p q E C j).2 j (C.getD j (0,false)).1) ≠ 0 then (resE1 p (resN p q (resJ p q E C j).2 j (C.getD j (0,false)).1),(resJ p q E C j).2) else (0,(resJ p q E C j).2 ++ [((resN p q (resJ p q E C j).2 j (C.getD j (0,false)).1).tdiv p,true)])) else (0,(resJ p q E C j).2 ++ [(0,false)])
section
variable {p q:Nat} {E:List Int} {C:List (Int × Bool)} {j:Nat} {H:List (Int × Bool)}
theorem resJ_eq:resJ p q E C (j + 1) = if (resJ p q E C j).1 ≠ 0 then resJ p q E C j else if resK p (resJ p q E C j).2 j (C.getD j (0,false)).2 = true then (if resE1 p (resN p q (resJ p q E C j).2 j (C.getD j (0,false)).1) ≠ 0 then (resE1 p (resN p q (resJ p q E C j).2 j (C.getD j (0,false)).1),(resJ p q E C j).2) else (0,(resJ p q E C j).2 ++ [((resN p q (resJ p q E C j).2 j (C.getD j (0,false)).1).tdiv p,true)])) else (0,(resJ p q E C j).2 ++ [(0,false)]):=rfl
theorem resJ_dark (h0:resJ p q E C j = (0,H)) (hk:resK p H j (C.getD j (0,false)).2 = false):resJ p q E C (j + 1) = (0,H ++ [(0,false)]):=by
 rw [resJ_eq,h0,if_neg (fun h => h rfl),if_neg (by rw [hk];decide)]
theorem resJ_err (h0:resJ p q E C j = (0,H)) (hk:resK p H j (C.getD j (0,false)).2 = true) (he:resE1 p (resN p q H j (C.getD j (0,false)).1) ≠ 0):resJ p q E C (j + 1) = (resE1 p (resN p q H j (C.getD j (0,false)).1),H):=by
 rw [resJ_eq,h0,if_neg (fun h => h rfl),if_pos hk,if_pos he]
theorem resJ_put (h0:resJ p q E C j = (0,H)) (hk:resK p H j (C.getD j (0,false)).2 = true) (he:resE1 p (resN p q H j (C.getD j (0,false)).1) = 0):resJ p q E C (j + 1) = (0,H ++ [((resN p q H j (C.getD j (0,false)).1).tdiv p,true)]):=by
 rw [resJ_eq,h0,if_neg (fun h => h rfl),if_pos hk,if_neg (fun h => h he)]
theorem resJ_stop (h:(resJ p q E C j).1 ≠ 0):∀ k,resJ p q E C (j + k) = resJ p q E C j
 | 0 => rfl
 | k + 1 => by
  have ih:=resJ_stop h k
  show resJ p q E C (j + k + 1) = _
  rw [resJ_eq,ih,if_pos h]
theorem resJ_len:∀ j,(resJ p q E C j).1 = 0 → (resJ p q E C j).2.length = E.length + j
  | 0,_ => by
    show (E.map _).length = _
    rw [List.length_map];rfl
  | j + 1,h => by
    by_cases h0:(resJ p q E C j).1 = 0
    · have ih:=resJ_len j h0
      obtain ⟨H,e⟩:∃ H,resJ p q E C j = (0,H):=⟨_,Prod.ext h0 rfl⟩
      rw [e] at ih
      replace ih:H.length = E.length + j:=ih
      cases hk:resK p H j (C.getD j (0,false)).2 with
      | false => rw [resJ_dark e hk];show (H ++ [_]).length = _;rw [List.length_append,ih];rfl
      | true =>
        by_cases he:resE1 p (resN p q H j (C.getD j (0,false)).1) = 0
        · rw [resJ_put e hk he];show (H ++ [_]).length = _;rw [List.length_append,ih];rfl
        · rw [resJ_err e hk he] at h
          exact absurd h he
    · have:=resJ_stop h0 1
      rw [this] at h
      exact absurd h h0
def HFine (H:List (Int × Bool)):Prop:=∀ c,c ∈ H → (c.2 = true → largeB c.1 = false) ∧ (c.2 = false → c.1 = 0)
theorem HFine.lim {H:List (Int × Bool)} (f:HFine H) (i:Nat):-1073741824 ≤ (H.getD i (0,false)).1 ∧ (H.getD i (0,false)).1 ≤ 1073741824:=by
  rw [List.getD_eq_getElem?_getD]
  cases hi:H[i]? with
  | none => decide
  | some c =>
    obtain ⟨f1,f2⟩:=f c (List.mem_of_getElem? hi)
    show -1073741824 ≤ c.1 ∧ c.1 ≤ 1073741824
    cases hc:c.2 with
    | false => rw [f2 hc];decide
    | true =>
      have:=f1 hc
      unfold largeB readE at this
      have h0:outB c.1 (-1073741824) 1073741824 = 0:=by
        by_cases q:outB c.1 (-1073741824) 1073741824 = 0
        · exact q
        · rw [bne_iff_ne.2 q] at this;cases this
      exact out_mm h0
theorem resJ_fine (hE:∀ x,x ∈ E → largeB x = false):∀ j,HFine (resJ p q E C j).2
  | 0 => fun c hc => by
    obtain ⟨x,hx,rfl⟩:=List.mem_map.1 hc
    exact ⟨fun _ => hE x hx,fun h => by cases h⟩
  | j + 1 => by
    have ih:=resJ_fine hE j
    by_cases h0:(resJ p q E C j).1 = 0
    · obtain ⟨H,e⟩:∃ H,resJ p q E C j = (0,H):=⟨_,Prod.ext h0 rfl⟩
      rw [e] at ih
      cases hk:resK p H j (C.getD j (0,false)).2 with
      | false =>
        rw [resJ_dark e hk]
        intro c hc
        rcases List.mem_append.1 hc with hc | hc
        · exact ih c hc
        · cases List.mem_singleton.1 hc
          exact ⟨fun h => (by cases h),fun _ => rfl⟩
      | true =>
        by_cases he:resE1 p (resN p q H j (C.getD j (0,false)).1) = 0
        · rw [resJ_put e hk he]
          intro c hc
          rcases List.mem_append.1 hc with hc | hc
          · exact ih c hc
          · cases List.mem_singleton.1 hc
            refine ⟨fun _ => ?_,fun h => by cases h⟩
            unfold resE1 at he
            cases h1:((resN p q H j (C.getD j (0,false)).1).tmod p != 0) with
            | true => rw [h1] at he;cases he
            | false =>
              rw [h1] at he
              cases h2:largeB ((resN p q H j (C.getD j (0,false)).1).tdiv p) with
              | true => rw [h2] at he;cases he
              | false => rfl
        · rw [resJ_err e hk he];exact ih
    · rw [resJ_stop h0 1];exact ih
theorem HFine.val {H:List (Int × Bool)} (f:HFine H):valC H = H.map fun c => c.1:=by
 unfold valC
 refine List.map_congr_left fun c hc => ?_
 cases h:c.2 with
 | true => rfl
 | false => rw [(f c hc).2 h];rfl
theorem HFine.big {H:List (Int × Bool)} (f:HFine H):bigC H = false:=by
 unfold bigC
 refine List.any_eq_false.2 fun c hc => ?_
 cases h:c.2 with
 | true => rw [(f c hc).1 h];decide
 | false => exact Bool.false_ne_true
end
def padL {α:Type} (l:List α) (z:α) (m:Nat):List α:=l ++ List.replicate (m - l.length) z
section
variable {α:Type} {l:List α} {z x:α} {m:Nat}
theorem padL_len (h:l.length ≤ m):(padL l z m).length = m:=by unfold padL;rw [List.length_append,List.length_replicate];omega
theorem padL_set (h:l.length < m):(padL l z m).set l.length x = padL (l ++ [x]) z m:=by
 unfold padL
 rw [List.set_append_right _ _ (Nat.le_refl _),Nat.sub_self,List.length_append,show m - l.length = (m - (l.length + [x].length)) + 1 by show m - l.length = (m - (l.length + 1)) + 1;omega,List.replicate_succ,List.set_cons_zero,List.append_assoc]
 rfl
theorem padL_same (h:l.length < m):padL (l ++ [z]) z m = padL l z m:=by
 unfold padL
 rw [List.length_append,show m - l.length = (m - (l.length + [z].length)) + 1 by show m - l.length = (m - (l.length + 1)) + 1;omega,List.replicate_succ,List.append_assoc]
 rfl
theorem padL_full (h:l.length = m):padL l z m = l:=by
 unfold padL
 rw [h,Nat.sub_self];simp
theorem padL_get {i:Nat}:(padL l z m).getD i z = l.getD i z:=by
 unfold padL
 rw [List.getD_eq_getElem?_getD,List.getD_eq_getElem?_getD]
 by_cases h:i < l.length
 ·rw [List.getElem?_append_left h]
 ·rw [List.getElem?_append_right (by omega),List.getElem?_replicate,List.getElem?_eq_none (l:=l) (by omega)]
  split <;> rfl
theorem map_getD {β:Type} {g:α → β} {i:Nat}:(l.map g).getD i (g z) = g (l.getD i z):=by
 rw [List.getD_eq_getElem?_getD,List.getD_eq_getElem?_getD,List.getElem?_map]
 cases l[i]? <;> rfl
end
theorem yX1224 (H:Has tp) {n:Int} {v1 v2:Value} {m c:Nat} (h0:0 ≤ n) (h1:n ≤ 1000000000) (hl:m ≤ 1000000):YieldsX Tryz.prog tp (.func (.func 134) #[] #[ptr c]) (fun g => At g c (.cells [zi n,v1,v2] true true 31) ∧ ∃ L:List Int,L.length = m ∧ SlL encI 1 g v1 L) m fun j => zi (n + (j:Nat)):=by
 intro h' yv I D I0 hI step
 refine CallW.fnC (H.fn 134 f1224 rfl rfl) ?_
 obtain ⟨A0,L,rfl,s0⟩:=hI 0 h' I0
 refine WL.sr <| WOL.fa rfl (fa_of fo1117_1) <| WOL.ld rfl (load_one tp29 A0 rfl) <| WOL.len rfl s0 u29 <| WOL.mv rfl <| WOL.nil <| keep [(0,_),(1,_),(6,_),(7,_)] ⟨rfl,rfl,rfl,rfl,trivial⟩ ?_
 refine WL.upto (α:=Unit) L.length (fun j _ g => I j g) (fun _ _ => [(0,yv),(1,ptr c),(6,zi (L.length:Nat))]) () rfl rfl (by omega) I0 ⟨rfl,rfl,rfl,rfl,trivial⟩ (fun _ _ => rfl) (fun _ _ _ => ⟨rfl,rfl,rfl,rfl,trivial⟩) (fun _ _ _ => ⟨rfl,rfl,rfl,rfl,trivial⟩) ?_ ?_
 ·rintro j _ g hj q1
  obtain ⟨A1,_⟩:=hI j g q1
  refine WL.sr <| WOL.mv rfl <| WOL.as rfl <| WOL.nil <| keep [(0,_),(1,_),(3,_),(6,_),(7,_)] ⟨rfl,rfl,rfl,rfl,rfl,trivial⟩ ?_
  refine WL.sr <| WOL.mv rfl <| WOL.fa rfl (fa_of fo1117_0) <| WOL.ld rfl (load_one tp3 A1 rfl) <| WOL.mv rfl <| WOL.add (m:=n) (n:=((j:Nat):Int)) rfl rfl (by omega) (by omega) <| WOL.cl1 rfl rfl ((step j g hj q1).mono ?_)
  rintro v g2 (⟨rfl,q2⟩ | ⟨rfl,q2⟩)
  ·exact WOL.nt rfl <| WOL.nil <| WL.no rfl <| WL.skip fun a q => ⟨(),q2,q.sub ⟨rfl,rfl,rfl,rfl,trivial⟩⟩
  ·exact WOL.nt rfl <| WOL.nil <| WL.yes rfl <| WL.ret (WL.end_ rfl (.inr q2))
 ·rintro _ g q1
  exact fun a q => WL.endn rfl (.inl q1) a q
theorem resE1_eq {p:Nat} {N:Int}:firstNZ [cond (N.tdiv p * p != N) 1 0,cond (largeB (N.tdiv p)) 4 0] = resE1 p N:=by
 have e:(N.tdiv p * p != N) = (N.tmod p != 0):=by
  by_cases h:N.tmod p = 0
  ·rw [bne_eq_false_iff_eq.2 h,bne_eq_false_iff_eq.2 (tmod_zero.2 h)]
  ·rw [bne_iff_ne.2 h,bne_iff_ne.2 (fun q => h (tmod_zero.1 q))]
 unfold resE1
 rw [e]
 cases (N.tmod p != 0) <;> cases largeB (N.tdiv p) <;> rfl
section
variable {h:TH} {n:Int} {p q:Nat} {L E:List Int} {S:List (Int × Int)} {rv rk hv hk:Nat}
set_option maxHeartbeats 8000000 in
set_option maxRecDepth 10000 in
theorem k1200 (H:Has tp) (R:RowA h rv rk L (knownL S L.length)) (T:RowA h hv hk (padL ((resJ p q E (zipK L S L.length) 0).2.map fun c => c.1) 0 (L.length + (p + q))) (padL ((resJ p q E (zipK L S L.length) 0).2.map fun c => c.2) false (L.length + (p + q)))) (d1:rv ≠ hv) (d2:rv ≠ hk) (d3:rk ≠ hv) (d4:rk ≠ hk) (hE:∀ x,x ∈ E → largeB x = false) (lE:E.length = p + q) (hp:1 ≤ p) (hp':p ≤ 32) (hq:1 ≤ q) (hq':q ≤ 32) (lim:∀ j,-1073741824 ≤ L.getD j 0 ∧ L.getD j 0 ≤ 1073741824) (n0:0 ≤ n - p) (n1:n ≤ 100000000) (lL:L.length ≤ 900000) {hb:TH} (Xb:HX hb h) (fb:Free0 hb.next hb) (b1:hb.next ≤ hv) (b2:hb.next ≤ hk) :
    CallW Tryz.prog tp (.func (.func 100) #[] #[]) #[.agg #[zi (p:Nat),zi (q:Nat)],rowV n (slA rv L.length) (slA rk L.length),rowV (n - p) (slA hv (L.length + (p + q))) (slA hk (L.length + (p + q)))] h fun v h' => (∀ h0,HX h0 h → h0.next ≤ hv → h0.next ≤ hk → HX h0 h') ∧ (∀ c y,c ≠ hv → c ≠ hk → At h c y → At h' c y) ∧ h.next ≤ h'.next ∧ v = zi (resJ p q E (zipK L S L.length) L.length).1 ∧ ((resJ p q E (zipK L S L.length) L.length).1 = 0 → RowA h' hv hk ((resJ p q E (zipK L S L.length) L.length).2.map fun c => c.1) ((resJ p q E (zipK L S L.length) L.length).2.map fun c => c.2)):=by
  have f:Free0 hb.next h:=fb.hx Xb
  have hm:hb.next ≤ h.next:=Xb.next
  refine CallW.fnL (H.fn 100 f1200 rfl rfl) ?_
  refine WL.sr <| WOL.box rfl fun h1 N1 => WOL.box rfl fun h2 N2 => WOL.box rfl fun h3 N3 => WOL.al tp30 fun h4 N4 => WOL.nil <| keep [(3,_),(4,_),(5,_),(6,_)] ⟨rfl,rfl,rfl,rfl,trivial⟩ ?_
  have q1:=N1.next
  have q2:=N2.next
  have q3:=N3.next
  have q4:=N4.next
  have X4:=((N1.hx.trans N2.hx).trans N3.hx).trans N4.hx
  have A3:At h4 h.next (.cells [zi (p:Nat),zi (q:Nat)] true true 44):=((N1.at_.hx N2.hx).hx N3.hx).hx N4.hx
  have A4:At h4 h1.next (.cells [zi n,slA rv L.length,.slice none 0 0,slA rk L.length] true true 113):=(N2.at_.hx N3.hx).hx N4.hx
  have A5:At h4 h2.next (.cells [zi (n - p),slA hv (L.length + (p + q)),.slice none 0 0,slA hk (L.length + (p + q))] true true 113):=N3.at_.hx N4.hx
  have A6:At h4 h3.next (.cells [zi 0] true true 32):=N4.at_
  have R4:=R.hx X4
  have T4:=T.hx X4
  have lr1:=R.v.lt
  have lr2:=R.k.lt
  have lh1:=T.v.lt
  have lh2:=T.k.lt
  have f4:=f.hx X4
  refine WL.seq <| WL.sr <| WOL.fa rfl (fa_of fo1194_0) <| WOL.ld rfl (load_row tp1117 A4 (l:=[zi n,slA rv L.length,.slice none 0 0]) rfl (Nat.le_of_ble_eq_true rfl)) <| WOL.cl1 rfl rfl ((k1179 H h4).mono ?_)
  rintro v h5 ⟨cc,rfl,X5,Ac,ac⟩
  have q5:=X5.next
  have lc:=Ac.lt
  have Y5:=X4.trans X5
  replace A3:=A3.hx X5;replace A4:=A4.hx X5;replace A5:=A5.hx X5;replace A6:=A6.hx X5;replace R4:=R4.hx X5;replace T4:=T4.hx X5
  have f5:=f.hx Y5
  refine WOL.nil <| keep [(3,_),(4,_),(5,_),(6,_),(19,_)] ⟨rfl,rfl,rfl,rfl,rfl,trivial⟩ ?_
  generalize hC:zipK L S L.length = C at *
  have hCj:∀ j,j < L.length → C.getD j (0,false) = (L.getD j 0,knownB S (j:Nat)):=fun j hj => by
    rw [← hC,List.getD_eq_getElem?_getD,zipK_get hj];rfl
  have fine:=fun j => resJ_fine (p:=p) (q:=q) (C:=C) hE j
  have leng:=fun j => resJ_len (p:=p) (q:=q) (E:=E) (C:=C) j
  have stop:=fun j => resJ_stop (p:=p) (q:=q) (E:=E) (C:=C) (j:=j)
  refine WL.block <| WL.rangeX rfl (H.fn 134 f1224 rfl rfl) (yX1224 (v1:=slA rv L.length) (v2:=.slice none 0 0) H (n:=n) (by omega) (by omega) (m:=L.length) (by omega)) (fun j g => (resJ p q E C j).1 = 0 ∧ (∀ h0,HX h0 h → h0.next ≤ hv → h0.next ≤ hk → HX h0 g) ∧ (∀ c y,c ≠ hv → c ≠ hk → At h5 c y → At g c y) ∧ Free0 hb.next g ∧ h5.next ≤ g.next ∧ RowA g hv hk (padL ((resJ p q E C j).2.map fun c => c.1) 0 (L.length + (p + q))) (padL ((resJ p q E C j).2.map fun c => c.2) false (L.length + (p + q)))) (fun e g => e = .ret ∧ (resJ p q E C L.length).1 ≠ 0 ∧ (∀ h0,HX h0 h → h0.next ≤ hv → h0.next ≤ hk → HX h0 g) ∧ (∀ c y,c ≠ hv → c ≠ hk → c ≠ h3.next → At h5 c y → At g c y) ∧ Free0 hb.next g ∧ h5.next ≤ g.next ∧ At g h3.next (.cells [zi (resJ p q E C L.length).1] true true 32)) ?_ ?_ ?_ ?_ ?_ ?_ ?_ ?_ ?_
  · rintro j g ⟨_,_,o,_⟩
    exact ⟨o _ _ (by omega) (by omega) Ac,L,rfl,SlL.own eI (o _ _ d1 d2 R4.v) rfl⟩
  · rintro j g ⟨_,_,_,fg,nx,_⟩
    exact fg.up (by omega)
  · rintro e g ⟨_,_,_,_,fg,nx,_⟩
    exact fg.up (by omega)
  · rintro j g g' x ⟨z0,x1,o,fg,nx,ra⟩ P
    exact ⟨z0,fun h0 X a b => P.hx _ (x1 h0 X a b) (by have:=X.next;omega),fun c y a b A => P.oth _ _ (by have:=A.lt;omega) (o _ _ a b A),⟨by rw [P.floor];exact fg.floor,fun l hl => fg.lock l (by rw [← P.lock];exact hl)⟩,by rw [P.next];exact nx,⟨P.oth _ _ (by omega) ra.v,P.oth _ _ (by omega) ra.k,ra.e,ra.n⟩⟩
  · rintro e g g' x ⟨ee,z0,x1,o,fg,nx,A⟩ P
    exact ⟨ee,z0,fun h0 X a b => P.hx _ (x1 h0 X a b) (by have:=X.next;omega),fun c y a b d A => P.oth _ _ (by have:=A.lt;omega) (o _ _ a b d A),⟨by rw [P.floor];exact fg.floor,fun l hl => fg.lock l (by rw [← P.lock];exact hl)⟩,by rw [P.next];exact nx,P.oth _ _ (by omega) A⟩
  · rintro g x N
    have:=N.next
    exact ⟨rfl,fun h0 X a b => (X.trans Y5).trans N.hx,fun c y _ _ A => A.hx N.hx,f5.hx N.hx,by omega,T4.hx N.hx⟩
  · rintro j g x hj _ A
    refine WL.reg <| WOL.as rfl <| WOL.nil ?_
    intro r' hr
    refine ⟨rfl,rfl,fun g2 xx ⟨z0,x1,o,fg,nx,ra⟩ A2 => ?_⟩
    refine hr.go ?_
    obtain ⟨Hj,e⟩:∃ Hj,resJ p q E C j = (0,Hj):=⟨_,Prod.ext z0 rfl⟩
    have fj:=fine j
    have lj:=leng j z0
    rw [e] at ra fj lj
    replace lj:Hj.length = E.length + j:=lj
    have hd:=hCj j hj
    have sd:=resJ_dark (p:=p) (q:=q) (E:=E) (C:=C) e
    have se:=resJ_err (p:=p) (q:=q) (E:=E) (C:=C) e
    have sp:=resJ_put (p:=p) (q:=q) (E:=E) (C:=C) e
    rw [hd] at sd se sp
    have lf:=fun i => fj.lim i
    have B3:=o _ _ (by omega) (by omega) A3
    have B4:=o _ _ (by omega) (by omega) A4
    have B5:=o _ _ (by omega) (by omega) A5
    have B6:=o _ _ (by omega) (by omega) A6
    have RR:RowA g2 rv rk L (knownL S L.length):=⟨o _ _ d1 d2 R4.v,o _ _ d3 d4 R4.k,R4.e,R4.n⟩
    have lv:(padL (Hj.map fun c => c.1) 0 (L.length + (p + q))).length = L.length + (p + q):=padL_len (by rw [List.length_map];omega)
    have k1:=fun g (X:HX g2 g) => k1180 (n:=n) H (RR.hx X) hj (by omega) (by omega) (by omega)
    rw [show (knownL S L.length).getD j false = knownB S (j:Nat) by rw [List.getD_eq_getElem?_getD,knownL_get hj];rfl] at k1
    have k2:=fun g (X:HX g2 g) => k1180 (n:=n - p) (i:=j + p) H (ra.hx X) (by rw [lv];omega) (by omega) (by omega) (by rw [lv];omega)
    have k3:=fun g (X:HX g2 g) => k1180 (n:=n - p) (i:=j) H (ra.hx X) (by rw [lv];omega) (by omega) (by omega) (by rw [lv];omega)
    have hv1:∀ i,(Hj.map fun c => c.1).getD i 0 = (Hj.getD i (0,false)).1:=fun i => map_getD (z:=((0:Int),false)) (g:=fun c => c.1)
    have hv2:∀ i,(Hj.map fun c => c.2).getD i false = (Hj.getD i (0,false)).2:=fun i => map_getD (z:=((0:Int),false)) (g:=fun c => c.2)
    simp only [lv,padL_get,hv1,hv2] at k2 k3
    rw [show n - (p:Int) + ((j + p:Nat):Int) = n + (j:Nat) by omega] at k2
    rw [show n - (p:Int) + ((j:Nat):Int) = n + (j:Nat) - p by omega] at k3
    refine WL.block <| WL.sr <| WOL.ld rfl (load_row tp1194 B4 rfl (Nat.le_of_ble_eq_true rfl)) <| WOL.mv rfl <| WOL.cl2 rfl rfl rfl ((k1 g2 (HX.refl _)).mono ?_)
    rintro u i1 ⟨rfl,M1⟩
    refine WOL.mv rfl <| WOL.ex rfl rfl <| WOL.ex rfl rfl <| WOL.as rfl <| WOL.as rfl <| WOL.nil <| keep [(3,_),(4,_),(5,_),(6,_),(7,_),(8,_),(9,_)] ⟨rfl,rfl,rfl,rfl,rfl,rfl,rfl,trivial⟩ ?_
    refine WL.sr <| WOL.ld rfl (load_row tp1194 (B5.hx M1) rfl (Nat.le_of_ble_eq_true rfl)) <| WOL.mv rfl <| WOL.cl2 rfl rfl rfl ((k2 i1 M1).mono ?_)
    rintro u i2 ⟨rfl,M2⟩
    have M12:=M1.trans M2
    refine WOL.mv rfl <| WOL.ex rfl rfl <| WOL.ex rfl rfl <| WOL.as rfl <| WOL.as rfl <| WOL.nil <| keep [(3,_),(4,_),(5,_),(6,_),(7,_),(8,_),(9,_),(10,_),(11,_)] ⟨rfl,rfl,rfl,rfl,rfl,rfl,rfl,rfl,rfl,trivial⟩ ?_
    refine WL.sr <| WOL.ld rfl (load_row tp1194 (B5.hx M12) rfl (Nat.le_of_ble_eq_true rfl)) <| WOL.mv rfl <| WOL.fa rfl (fa_of fo1128_0) <| WOL.ld rfl (load_one tp3 (B3.hx M12) rfl) <| WOL.sub (m:=n + (j:Nat)) (n:=(p:Int)) rfl rfl (by omega) (by omega) <| WOL.cl2 rfl rfl rfl ((k3 i2 M12).mono ?_)
    rintro u i3 ⟨rfl,M3⟩
    have M:=M12.trans M3
    have mn:=M.next
    refine WOL.mv rfl <| WOL.ex rfl rfl <| WOL.ex rfl rfl <| WOL.as rfl <| WOL.as rfl <| WOL.nil <| keep [(3,_),(4,_),(5,_),(6,_),(7,_),(8,_),(9,_),(10,_),(11,_),(12,_),(13,_)] ⟨rfl,rfl,rfl,rfl,rfl,rfl,rfl,rfl,rfl,rfl,rfl,trivial⟩ ?_
    have fM:=fg.hx M
    have OM:∀ c y,c ≠ hv → c ≠ hk → At h5 c y → At i3 c y:=fun c y a b A => (o _ _ a b A).hx M
    have XM:∀ h0,HX h0 h → h0.next ≤ hv → h0.next ≤ hk → HX h0 i3:=fun h0 X a b => (x1 h0 X a b).trans M
    have raM:=ra.hx M
    have AM:=A2.hx M
    clear k1 k2 k3 B3 B4 B5 B6
    have dark:resK p Hj j (knownB S (j:Nat)) = false → (resJ p q E C (j + 1)).1 = 0 ∧ (∀ h0,HX h0 h → h0.next ≤ hv → h0.next ≤ hk → HX h0 i3) ∧ (∀ c y,c ≠ hv → c ≠ hk → At h5 c y → At i3 c y) ∧ Free0 hb.next i3 ∧ h5.next ≤ i3.next ∧ RowA i3 hv hk (padL ((resJ p q E C (j + 1)).2.map fun c => c.1) 0 (L.length + (p + q))) (padL ((resJ p q E C (j + 1)).2.map fun c => c.2) false (L.length + (p + q))):=by
      intro hb
      rw [sd hb]
      refine ⟨rfl,XM,OM,fM,by omega,?_⟩
      rw [List.map_append,List.map_append]
      show RowA i3 hv hk (padL (Hj.map (fun c => c.1) ++ [0]) 0 _) (padL (Hj.map (fun c => c.2) ++ [false]) false _)
      rw [padL_same (by rw [List.length_map];omega),padL_same (by rw [List.length_map];omega)]
      exact raM
    unfold resK at dark se sp
    cases hk1:knownB S (j:Nat) with
    | false =>
      rw [hk1] at dark
      exact WL.seq <| WL.sr <| WOL.mv rfl <| WOL.nt rfl <| WOL.mv rfl <| WOL.skp (b:=true) rfl rfl <| WOL.skp (b:=true) rfl rfl <| WOL.pkt rfl rfl <| WOL.mv rfl <| WOL.skp (b:=true) rfl rfl <| WOL.skp (b:=true) rfl rfl <| WOL.pkt rfl rfl <| WOL.nil <| WL.yes rfl <| WL.exit fun r k => ⟨.inl ⟨rfl,dark rfl⟩,AM⟩
    | true =>
      rw [hk1] at dark se sp
      cases hk2:(Hj.getD (j + p) (0,false)).2 with
      | false =>
        rw [hk2] at dark
        exact WL.seq <| WL.sr <| WOL.mv rfl <| WOL.nt rfl <| WOL.mv rfl <| WOL.now (b:=false) rfl rfl <| WOL.mv rfl <| WOL.now (b:=false) rfl rfl <| WOL.nt rfl <| WOL.pkf rfl rfl <| WOL.mv rfl <| WOL.skp (b:=true) rfl rfl <| WOL.skp (b:=true) rfl rfl <| WOL.pkt rfl rfl <| WOL.nil <| WL.yes rfl <| WL.exit fun r k => ⟨.inl ⟨rfl,dark rfl⟩,AM⟩
      | true =>
        rw [hk2] at dark se sp
        cases hk3:(Hj.getD j (0,false)).2 with
        | false =>
          rw [hk3] at dark
          exact WL.seq <| WL.sr <| WOL.mv rfl <| WOL.nt rfl <| WOL.mv rfl <| WOL.now (b:=false) rfl rfl <| WOL.mv rfl <| WOL.now (b:=false) rfl rfl <| WOL.nt rfl <| WOL.pkf rfl rfl <| WOL.mv rfl <| WOL.now (b:=false) rfl rfl <| WOL.mv rfl <| WOL.now (b:=false) rfl rfl <| WOL.nt rfl <| WOL.pkf rfl rfl <| WOL.nil <| WL.yes rfl <| WL.exit fun r k => ⟨.inl ⟨rfl,dark rfl⟩,AM⟩
        | true =>
          rw [hk3] at se sp
          replace se:=se rfl
          replace sp:=sp rfl
          clear dark
          refine WL.seq <| WL.sr <| WOL.mv rfl <| WOL.nt rfl <| WOL.mv rfl <| WOL.now (b:=false) rfl rfl <| WOL.mv rfl <| WOL.now (b:=false) rfl rfl <| WOL.nt rfl <| WOL.pkf rfl rfl <| WOL.mv rfl <| WOL.now (b:=false) rfl rfl <| WOL.mv rfl <| WOL.now (b:=false) rfl rfl <| WOL.nt rfl <| WOL.pkf rfl rfl <| WOL.nil <| WL.no rfl <| WL.skip <| keep [(3,_),(4,_),(5,_),(6,_),(7,_),(8,_),(10,_),(12,_)] ⟨rfl,rfl,rfl,rfl,rfl,rfl,rfl,rfl,trivial⟩ ?_
          have l1:=lf (j + p)
          have l2:=lf j
          have l3:=lim j
          obtain ⟨u1,u2⟩:=mul_lim (w:=(p:Int) + q) (x:=(Hj.getD (j + p) (0,false)).1) (by omega) (by omega) l1.1 l1.2
          obtain ⟨u3,u4⟩:=mul_lim (w:=(q:Int)) (x:=(Hj.getD j (0,false)).1) (by omega) (by omega) l2.1 l2.2
          have B3:=OM _ _ (by omega) (by omega) A3
          refine WL.sr <| WOL.ld rfl (load_row tp1128 B3 rfl (Nat.le_of_ble_eq_true rfl)) <| WOL.mv rfl <| WOL.fa rfl (fa_of fo1128_1) <| WOL.ld rfl (load_one tp3 B3 rfl) <| WOL.mv rfl <| WOL.mul rfl rfl (Int.le_trans (by decide) u3) (Int.le_trans u4 (by decide)) <| WOL.mv rfl ?_
          refine WOL.lk1 rfl rfl fun M' => ((k1199 H (a:=(p:Int)) (b:=(q:Int)) (by omega) (by omega) (by omega) (by omega) _).mono ?_)
          rintro u i4 ⟨rfl,M4⟩
          replace M4:=M4.relock
          generalize i4.withLock i3.lock = i4 at *
          refine WOL.mul rfl rfl (Int.le_trans (by decide) u1) (Int.le_trans u2 (by decide)) <| WOL.sub rfl rfl (by omega) (by omega) <| WOL.sub rfl rfl (by omega) (by omega) <| WOL.as rfl <| WOL.nil <| keep [(3,_),(5,_),(6,_),(7,_),(14,_)] ⟨rfl,rfl,rfl,rfl,rfl,trivial⟩ ?_
          have hN:((p:Int) + q) * (Hj.getD (j + p) (0,false)).1 - (q:Int) * (Hj.getD j (0,false)).1 - L.getD j 0 = resN p q Hj j (L.getD j 0):=rfl
          rw [hN]
          have lN:(resN p q Hj j (L.getD j 0)).natAbs ≤ 32212254720000:=by rw [← hN];omega
          clear hN
          generalize resN p q Hj j (L.getD j 0) = N at *
          have ln:=tdiv_lim N p
          have lt:(N.tdiv p * (p:Int)).natAbs ≤ 32212254720000:=by
            rw [Int.natAbs_mul,Int.natAbs_tdiv]
            exact Nat.le_trans (Nat.div_mul_le_self _ _) lN
          have B3:=B3.hx M4
          refine WL.sr <| WOL.mv rfl <| WOL.fa rfl (fa_of fo1128_0) <| WOL.ld rfl (load_one tp3 B3 rfl) <| WOL.quoT rfl rfl (by omega) (by omega) <| WOL.as rfl <| WOL.nil <| keep [(3,_),(5,_),(6,_),(7,_),(14,_),(15,_)] ⟨rfl,rfl,rfl,rfl,rfl,rfl,trivial⟩ ?_
          refine WL.sr <| WOL.mv rfl <| WOL.fa rfl (fa_of fo1128_0) <| WOL.ld rfl (load_one tp3 B3 rfl) <| WOL.mul rfl rfl (by omega) (by omega) <| WOL.mv rfl <| WOL.bi (v:=.bool (N.tdiv p * (p:Int) != N)) rfl rfl rfl <| WOL.cl2 rfl rfl rfl ((k77 H _ _ _).mono ?_)
          rintro u i4 ⟨rfl,rfl⟩
          refine WOL.mv rfl <| WOL.cl1 rfl rfl ((k1225 H (N.tdiv p) _).mono ?_)
          rintro u i4 ⟨rfl,rfl⟩
          refine WOL.cl2 rfl rfl rfl ((k77 H _ _ _).mono ?_)
          rintro u i4 ⟨rfl,rfl⟩
          refine WOL.bsl rfl u166 tp30 (by decide) (by decide) (by decide) (filled_ints _ _) fun i5 M5 => WOL.cl1 rfl rfl ((k71 H (l:=[_,_]) M5.at_.get (by simp)).mono ?_)
          rintro u i5 ⟨rfl,rfl⟩
          rw [resE1_eq]
          have Z:=M4.trans M5.hx
          have zn:=Z.next
          refine WOL.as rfl <| WOL.nil <| keep [(3,_),(5,_),(6,_),(7,_),(15,_),(16,_)] ⟨rfl,rfl,rfl,rfl,rfl,rfl,trivial⟩ ?_
          have fZ:=fM.hx Z
          by_cases e0:resE1 p N ≠ 0
          · have es:=se e0
            have et:=stop (j + 1) (by rw [es];exact e0) (L.length - (j + 1))
            rw [show j + 1 + (L.length - (j + 1)) = L.length by omega,es] at et
            refine WL.seq <| WL.sr <| WOL.mv rfl <| WOL.bt rfl rfl rfl (bne_iff_ne.2 e0) <| WOL.nil <| WL.yes rfl <| WL.sr <| WOL.mv rfl <| WOL.sto (vs:=[zi (resE1 p N)]) rfl rfl tp30 ((OM _ _ (by omega) (by omega) A6).hx Z) rfl rfl (Nat.le_of_ble_eq_true rfl) rfl fZ (by omega) fun i6 M6 => WOL.nil ?_
            have m6:=M6.next
            refine WL.ret fun r k => ⟨.inr ⟨.inl rfl,rfl,?_,fun h0 X a b => M6.hx _ ((XM h0 X a b).trans Z) (by have:=X.next;omega),fun c y a b d A => M6.oth _ _ d ((OM _ _ a b A).hx Z),fb.hx (M6.hx _ ((XM hb Xb b1 b2).trans Z) (by omega)),by omega,?_⟩,M6.oth _ _ (by omega) (AM.hx Z)⟩
            · rw [et];exact e0
            · rw [et];exact M6.at_
          have e0:resE1 p N = 0:=Classical.not_not.1 e0
          have es:=sp e0
          rw [e0]
          refine WL.seq <| WL.sr <| WOL.mv rfl <| WOL.bf rfl rfl rfl rfl <| WOL.nil <| WL.no rfl <| WL.skip ?_
          have k:=k1181 (n:=n - p) (x:=N.tdiv p) H (raM.hx Z) (i:=p + q + j) (by rw [lv];omega) (by omega) (by omega) (by rw [lv];omega) (m:=hb.next) fZ b1 b2
          rw [lv,show n - (p:Int) + ((p + q + j:Nat):Int) = n + (j:Nat) + q by omega] at k
          refine WL.reg <| WOL.ld rfl (load_row tp1194 ((OM _ _ (by omega) (by omega) A5).hx Z) rfl (Nat.le_of_ble_eq_true rfl)) <| WOL.mv rfl <| WOL.fa rfl (fa_of fo1128_1) <| WOL.ld rfl (load_one tp3 (B3.hx M5.hx) rfl) <| WOL.add (m:=n + (j:Nat)) (n:=(q:Int)) rfl rfl (by omega) (by omega) <| WOL.mv rfl <| WOL.cl3 rfl rfl rfl rfl (k.mono ?_)
          rintro u i6 ⟨z6,r6,o6,n6⟩
          refine WOL.nil fun r k => ⟨.inl ⟨rfl,?_⟩,o6 _ _ (by omega) (by omega) (AM.hx Z)⟩
          rw [es]
          refine ⟨rfl,fun h0 X a b => z6 _ ((XM h0 X a b).trans Z) a b,fun c y a b A => o6 _ _ a b ((OM _ _ a b A).hx Z),fb.hx (z6 _ ((XM hb Xb b1 b2).trans Z) b1 b2),by omega,?_⟩
          · rw [List.map_append,List.map_append]
            have e1:=padL_set (l:=Hj.map fun c => c.1) (z:=0) (x:=N.tdiv p) (m:=L.length + (p + q)) (by rw [List.length_map];omega)
            have e2:=padL_set (l:=Hj.map fun c => c.2) (z:=false) (x:=true) (m:=L.length + (p + q)) (by rw [List.length_map];omega)
            rw [List.length_map,show Hj.length = p + q + j by omega] at e1 e2
            rw [e1,e2] at r6
            exact r6
  · rintro g ⟨z0,x1,o,fg,nx,ra⟩
    have lj:=leng L.length z0
    rw [padL_full (by rw [List.length_map,lj];omega),padL_full (by rw [List.length_map,lj];omega)] at ra
    refine WL.sr <| WOL.sto (vs:=[zi 0]) rfl rfl tp30 (o _ _ (by omega) (by omega) A6) rfl rfl (Nat.le_of_ble_eq_true rfl) rfl fg (by omega) fun i1 M1 => WOL.nil ?_
    have:=M1.next
    refine WL.ret (WL.endC rfl (load_one tp30 M1.at_ rfl) ⟨fun h0 X a b => M1.hx _ (x1 h0 X a b) (by have:=X.next;omega),fun c y a b A => M1.oth _ _ (by have:=A.lt;omega) (o _ _ a b (A.hx Y5)),by omega,by rw [z0],fun _ => ⟨M1.oth _ _ (by omega) ra.v,M1.oth _ _ (by omega) ra.k,ra.e,ra.n⟩⟩)
  · rintro _ g ⟨rfl,z0,x1,o,fg,nx,A⟩
    exact fun r k => WL.endC rfl (load_one tp30 A rfl) ⟨x1,fun c y a b A => o _ _ a b (by have:=A.lt;omega) (A.hx Y5),by omega,rfl,fun q => absurd q z0⟩ r k
end
end Go.Tidy
namespace Go.Tidy
open Go Go.Proofs Tab
variable {tp:TProg}
def endE (a b:Int) (X:List Int):Int:=cond ((X.length:Int) != a + b) 2 (firstNZ (X.map readE))
def rngE (n a b:Int) (m:Nat):Int:=cond (decide (n < a)) 14 (cond (decide ((m:Int) + (a + b) > 4096)) 5 (cond (decide (n + m + b > 100000000)) 4 0))
def resTot (n a b:Int) (L:List Int) (S:List (Int × Int)) (X:List Int):Int:=if firstNZ [chordE a b,traceE n L S] ≠ 0 then firstNZ [chordE a b,traceE n L S] else if endE a b X ≠ 0 then endE a b X else if rngE n a b L.length ≠ 0 then rngE n a b L.length else (resJ a.toNat b.toNat X (zipK L S L.length) L.length).1
theorem filled_ints7 (a b c d e f g:Int):filled 1 7 [.int .i64 0] [(0,.int .i64 a),(1,.int .i64 b),(2,.int .i64 c),(3,.int .i64 d),(4,.int .i64 e),(5,.int .i64 f),(6,.int .i64 g)] = some ([a,b,c,d,e,f,g].map (.int .i64)):=by
 simp [filled,zeros,Instr.fill,Value.cells]
theorem first_two {a b:Int} {l:List Int}:firstNZ (a :: b :: l) = if firstNZ [a,b] ≠ 0 then firstNZ [a,b] else firstNZ l:=by
 show cond (a != 0) a (cond (b != 0) b (firstNZ l)) = if cond (a != 0) a (cond (b != 0) b 0) ≠ 0 then cond (a != 0) a (cond (b != 0) b 0) else _
 by_cases h1:a = 0
 ·subst h1
  show cond (b != 0) b (firstNZ l) = if cond (b != 0) b 0 ≠ 0 then cond (b != 0) b 0 else _
  by_cases h2:b = 0
  ·subst h2;rfl
  ·rw [bne_iff_ne.2 h2];show b = if b ≠ 0 then b else _;rw [if_pos h2]
 ·rw [bne_iff_ne.2 h1];show a = if a ≠ 0 then a else _;rw [if_pos h1]
theorem end_rng {n a b:Int} {X:List Int} {m:Nat}:firstNZ [cond ((X.length:Int) != a + b) 2 0,firstNZ (X.map readE),cond (decide (n < a)) 14 0,cond (decide ((m:Int) + (a + b) > 4096)) 5 0,cond (decide (n + m + b > 100000000)) 4 0] = if endE a b X ≠ 0 then endE a b X else rngE n a b m:=by
 unfold endE rngE
 generalize firstNZ (X.map readE) = x
 by_cases hx:x = 0
 ·subst hx
  cases ((X.length:Int) != a + b) <;> cases decide (n < a) <;> cases decide ((m:Int) + (a + b) > 4096) <;> cases decide (n + m + b > 100000000) <;> rfl
 ·cases ((X.length:Int) != a + b) with
  | true => rfl
  | false =>
   show cond (x != 0) x _ = if x ≠ 0 then x else _
   rw [bne_iff_ne.2 hx,if_pos hx];rfl
section
variable {h:TH} {n a b:Int} {v1 v2 w:Value} {L X:List Int} {S:List (Int × Int)}
theorem k1136 (H:Has tp) (s:SlL encI 1 h w X) (lX:X.length ≤ 1000000) :
  CallW Tryz.prog tp (.func (.func 36) #[] #[]) #[w] h fun v h' => HX h h' ∧ ∃ b m k,v = .slice b m k ∧ SlL encI 1 h' v X ∧ ∀ z,bl v = some z → h.next ≤ z:=by
 refine CallW.fnL (H.fn 36 f1136 rfl rfl) ?_
 refine WL.sr <| WOL.as rfl <| WOL.nil ?_
 refine WL.sr <| WOL.bs0 u29 tp3 (by decide) (by decide) fun h1 N1 => WOL.mv rfl ?_
 obtain ⟨u2,h7,ap7,X7,s7,b7,rfl,hb7,F7⟩:=append_own u29 tp3 N1.at_ (s.hx N1.hx) (by omega) (eI.all _)
 exact WOL.ap rfl rfl ap7 <| WOL.as rfl <| WOL.nil <| WL.ret (WL.end_ rfl ⟨N1.hx.trans X7,_,_,_,rfl,s7,fun z hz => by have:b7 = z:=Option.some.inj hz;omega⟩)
theorem k1199w (H:Has tp) (a b:Int) (h:TH):CallW Tryz.prog tp (.func (.func 99) #[] #[]) #[.agg #[zi a,zi b]] h fun v h' => v = zi (fwrap .i64 (a + b)) ∧ HX h h':=by
 refine CallW.fnL (H.fn 99 f1199 rfl rfl) ?_
 refine WL.sr <| WOL.box rfl fun h1 N1 => WOL.as rfl <| WOL.nil <| keep [(1,_)] ⟨rfl,trivial⟩ ?_
 have A1:At h1 h.next (.cells [zi a,zi b] true true 44):=N1.at_
 exact WL.sr <| WOL.fa rfl (fa_of fo1128_0) <| WOL.ld rfl (load_one tp3 A1 rfl) <| WOL.fa rfl (fa_of fo1128_1) <| WOL.ld rfl (load_one tp3 A1 rfl) <| WOL.bi (v:=zi (fwrap .i64 (a + b))) rfl rfl rfl <| WOL.as rfl <| WOL.nil <| WL.ret (WL.end_ rfl ⟨rfl,N1.hx⟩)
set_option maxHeartbeats 8000000 in
set_option maxRecDepth 10000 in
theorem k1135 (H:Has tp) (r:TrcH h v1 v2 L S) (s:SlL encI 1 h w X) (l1:L.length ≤ 900000) (t1:S.length ≤ 900000) (lX:X.length ≤ 900000) (f:Free0 h.next h) :
  CallW Tryz.prog tp (.func (.func 35) #[] #[]) #[.agg #[zi a,zi b],trcV n v1 v2,w] h fun v h' => HX h h' ∧ ProgR (n - a) (resTot n a b L S X) (resJ a.toNat b.toNat X (zipK L S L.length) L.length).2 h.next h' v:=by
 refine CallW.fnL (H.fn 35 f1135 rfl rfl) ?_
 obtain ⟨b1,k1,e1,_⟩:=id r.l
 obtain ⟨b2,k2,e2,_⟩:=id r.s
 subst e1 e2
 refine WL.sr <| WOL.box rfl fun h1 N1 => WOL.box rfl fun h2 N2 => WOL.al tp1117 fun h3 N3 => WOL.as rfl <| WOL.nil <| keep [(2,_),(3,_),(4,_),(6,_)] ⟨rfl,rfl,rfl,rfl,trivial⟩ ?_
 have q1:=N1.next
 have q2:=N2.next
 have q3:=N3.next
 have A3:At h3 h.next (.cells [zi a,zi b] true true 44):=(N1.at_.hx N2.hx).hx N3.hx
 have A4:At h3 h1.next (.cells [zi n,.slice b1 L.length k1,.slice b2 S.length k2] true true 31):=N2.at_.hx N3.hx
 have A6:=N3.at_
 have X3:=(N1.hx.trans N2.hx).trans N3.hx
 have r3:=r.hx X3
 have s3:=s.hx X3
 refine WL.sr <| WOL.ld rfl (load_row tp1128 A3 rfl (Nat.le_of_ble_eq_true rfl)) <| WOL.ld rfl (load_row tp1117 A4 rfl (Nat.le_of_ble_eq_true rfl)) <| WOL.mv rfl <| WOL.len rfl s3 u29 <| WOL.ld rfl (load_row tp1128 A3 rfl (Nat.le_of_ble_eq_true rfl)) <| WOL.mv rfl <| WOL.fa rfl (fa_of fo1117_0) <| WOL.ld rfl (load_one tp3 A4 rfl) <| WOL.fa rfl (fa_of fo1128_0) <| WOL.ld rfl (load_one tp3 A3 rfl) <| WOL.bi (v:=.bool (decide (n < a))) rfl rfl rfl <| WOL.fa rfl (fa_of fo1117_1) <| WOL.ld rfl (load_one tp29 A4 rfl) <| WOL.len rfl r3.l u29 <| WOL.ld rfl (load_row tp1128 A3 rfl (Nat.le_of_ble_eq_true rfl)) <| WOL.ld rfl (load_row tp1117 A4 rfl (Nat.le_of_ble_eq_true rfl)) <| WOL.fa rfl (fa_of fo1128_1) <| WOL.ld rfl (load_one tp3 A3 rfl) ?_
 refine WOL.lk1 rfl rfl fun M => ((k1121 H a b _).mono ?_)
 rintro v h4 ⟨rfl,X4⟩
 replace X4:=X4.relock
 generalize h4.withLock h3.lock = h4 at *
 have q4:=X4.next
 have Y4:=X3.trans X4
 refine WOL.lq1 [h.next,h1.next,h.next,h1.next,h.next,h1.next,h.next] rfl rfl rfl fun M hM => ((k1123 (n:=n) H ((r.hx Y4).relock M) (by omega) (by omega) ((f.on Y4).held hM (fun b hb => by simp at hb;omega))).mono ?_)
 rintro v h5 ⟨rfl,X5⟩
 replace X5:=X5.relock
 generalize h5.withLock h4.lock = h5 at *
 refine WOL.lk1 rfl rfl fun M => ((k1199w H a b _).mono ?_)
 rintro v h6 ⟨rfl,X6⟩
 replace X6:=X6.relock
 generalize h6.withLock h5.lock = h6 at *
 refine WOL.bi (v:=.bool ((X.length:Int) != fwrap .i64 (a + b))) rfl rfl rfl <| WOL.lk2 rfl rfl rfl fun M => ((k77 H _ _ _).mono ?_)
 rintro v h7 ⟨rfl,rfl⟩
 rw [TH.relock]
 have Y6:=(Y4.trans X5).trans X6
 refine WOL.lk2 rfl rfl rfl fun M => ((k1190 H ((s.hx Y6).relock M) (by omega) (fun x => k1191 H x _)).mono ?_)
 rintro v h7 ⟨rfl,rfl⟩
 rw [TH.relock]
 refine WOL.lk2 rfl rfl rfl fun M => ((k77 H _ _ _).mono ?_)
 rintro v h7 ⟨rfl,rfl⟩
 rw [TH.relock]
 refine WOL.lk1 rfl rfl fun M => ((k1199w H a b _).mono ?_)
 rintro v h7 ⟨rfl,X7⟩
 replace X7:=X7.relock
 generalize h7.withLock h6.lock = h7 at *
 refine WOL.bi (v:=zi (fwrap .i64 ((L.length:Int) + fwrap .i64 (a + b)))) rfl rfl rfl <| WOL.bi (v:=.bool (decide (fwrap .i64 ((L.length:Int) + fwrap .i64 (a + b)) > 4096))) rfl rfl rfl <| WOL.lk2 rfl rfl rfl fun M => ((k77 H _ _ _).mono ?_)
 rintro v h8 ⟨rfl,rfl⟩
 rw [TH.relock]
 have Y7:=Y6.trans X7
 refine WOL.lk1 rfl rfl fun M => ((k1183 (n:=n) H ((r.hx Y7).relock M).l).mono ?_)
 rintro v h8 ⟨rfl,X8⟩
 replace X8:=X8.relock
 generalize h8.withLock h7.lock = h8 at *
 refine WOL.bi (v:=zi (fwrap .i64 (fwrap .i64 (n + L.length) + b))) rfl rfl rfl <| WOL.bi (v:=.bool (decide (fwrap .i64 (fwrap .i64 (n + L.length) + b) > 100000000))) rfl rfl rfl <| WOL.cl2 rfl rfl rfl ((k77 H _ _ _).mono ?_)
 rintro v h9 ⟨rfl,rfl⟩
 refine WOL.bsl rfl u166 tp30 (by decide) (by decide) (by decide) (filled_ints7 _ _ _ _ _ _ _) fun h9 N9 => WOL.cl1 rfl rfl ((k71 H (l:=[_,_,_,_,_,_,_]) N9.at_.get (by simp)).mono ?_)
 rintro v h9 ⟨rfl,rfl⟩
 rw [first_two]
 have Z:=((((X4.trans X5).trans X6).trans X7).trans X8).trans N9.hx
 have Y:=X3.trans Z
 replace A3:=A3.hx Z;replace A4:=A4.hx Z;replace A6:=A6.hx Z
 have yn:=Y.next
 have lt6:=A6.lt
 refine WOL.as rfl <| WOL.nil <| keep [(2,_),(3,_),(4,_),(6,_),(8,_)] ⟨rfl,rfl,rfl,rfl,rfl,trivial⟩ ?_
 have fail:∀ e,e ≠ 0 → resTot n a b L S X = e → ∀ y,Kn [(2,w),(3,ptr h.next),(4,ptr h1.next),(6,ptr h2.next),(8,zi e)] y → W Tryz.prog tp false (.seq (.seq (.reg r1135_2) (.cond (.tmp 49) (.seq (.reg r1135_3) .ret) .skip)) (.seq (.reg r1135_4) (.seq (.seq (.reg r1135_5) (.block 0 (.loop (.seq (.reg r1135_6) (.seq (.cond (.tmp 67) .skip (.exit 0)) (.seq (.block 1 (.seq (.reg r1135_7) (.reg r1135_8))) (.reg r1135_9))))))) (.seq (.seq (.reg r1135_10) (.seq (.reg r1135_11) (.cond (.tmp 86) (.seq (.reg r1135_12) .ret) .skip))) (.seq (.reg r1135_13) .ret))))) y h9 (Fin Tryz.prog [.cell 6 31,.tmp 7] fun v h' => HX h h' ∧ ProgR (n - a) (resTot n a b L S X) (resJ a.toNat b.toNat X (zipK L S L.length) L.length).2 h.next h' v):=by
  intro e e0 et
  refine WL.seq <| WL.sr <| WOL.mv rfl <| WOL.bt rfl rfl rfl (bne_iff_ne.2 e0) <| WOL.nil <| WL.yes rfl <| WL.sr <| WOL.bd rfl bd1117z <| WOL.mv rfl <| WOL.sto (vs:=[zi 0,.slice none 0 0,.slice none 0 0]) rfl rfl tp1117 A6 rfl rfl (Nat.le_of_ble_eq_true rfl) rfl (f.hx Y) (by omega) fun i1 M1 => WOL.as rfl <| WOL.nil ?_
  rw [et]
  exact WL.ret (WL.endC1 rfl rfl (load_row tp1117 M1.at_ rfl (Nat.le_of_ble_eq_true rfl)) ⟨M1.hx _ Y (by omega),.inl ⟨e0,rfl⟩⟩)
 by_cases e0:firstNZ [chordE a b,traceE n L S] ≠ 0
 ·rw [if_pos e0]
  exact kto (fail _ e0 (by unfold resTot;rw [if_pos e0])) ⟨rfl,rfl,rfl,rfl,rfl,trivial⟩
 rw [if_neg e0]
 have e0':=Classical.not_not.1 e0
 have all:=firstNZ_zero e0'
 obtain ⟨⟨m1,m2⟩,m3,m4,m5,m6,m7⟩:=trace_ok (all (traceE n L S) (by simp))
 obtain ⟨p1,p2,p3,p4⟩:=chord_ok (all (chordE a b) (by simp))
 rw [fwrap_i64 (n:=a + b) (by omega) (by omega),fwrap_i64 (n:=(L.length:Int) + (a + b)) (by omega) (by omega),fwrap_i64 (n:=n + L.length) (by omega) (by omega),fwrap_i64 (n:=n + L.length + b) (by omega) (by omega),end_rng]
 have tot:resTot n a b L S X = if endE a b X ≠ 0 then endE a b X else if rngE n a b L.length ≠ 0 then rngE n a b L.length else (resJ a.toNat b.toNat X (zipK L S L.length) L.length).1:=by unfold resTot;rw [if_neg e0]
 by_cases e1:endE a b X ≠ 0
 ·rw [if_pos e1] at tot ⊢
  exact kto (fail _ e1 tot) ⟨rfl,rfl,rfl,rfl,rfl,trivial⟩
 rw [if_neg e1] at tot ⊢
 by_cases e2:rngE n a b L.length ≠ 0
 ·rw [if_pos e2] at tot
  exact kto (fail _ e2 tot) ⟨rfl,rfl,rfl,rfl,rfl,trivial⟩
 rw [if_neg e2] at tot
 clear fail
 rw [tot,Classical.not_not.1 e2]
 have e1':=Classical.not_not.1 e1
 have e2':=Classical.not_not.1 e2
 clear tot e0 e1 e2
 obtain ⟨p,rfl⟩:∃ p:Nat,a = p:=⟨a.toNat,by omega⟩
 obtain ⟨q,rfl⟩:∃ q:Nat,b = q:=⟨b.toNat,by omega⟩
 rw [Int.toNat_natCast,Int.toNat_natCast]
 have lX':X.length = p + q:=by
  unfold endE at e1'
  cases c:((X.length:Int) != (p:Int) + q) with
  | true => rw [c] at e1';cases e1'
  | false => have:=bne_eq_false_iff_eq.1 c;omega
 have hX:∀ x,x ∈ X → largeB x = false:=fun x hx => by
  unfold endE at e1'
  rw [show ((X.length:Int) != (p:Int) + q) = false from bne_eq_false_iff_eq.2 (by omega)] at e1'
  have:=firstNZ_zero e1' (readE x) (List.mem_map_of_mem hx)
  unfold largeB
  rw [this];rfl
 have np:(p:Int) ≤ n:=by
  unfold rngE at e2'
  by_cases c:n < p
  ·rw [decide_eq_true c] at e2';cases e2'
  ·omega
 have lM:L.length + (p + q) ≤ 4096:=by
  unfold rngE at e2'
  rw [show decide (n < (p:Int)) = false from decide_eq_false (by omega)] at e2'
  by_cases c:(L.length:Int) + ((p:Int) + q) > 4096
  ·rw [decide_eq_true c] at e2';cases e2'
  ·omega
 clear e1' e2'
 refine WL.seq <| WL.sr <| WOL.mv rfl <| WOL.bf rfl rfl rfl rfl <| WOL.nil <| keep [(2,_),(3,_),(4,_),(6,_),(49,_)] ⟨rfl,rfl,rfl,rfl,rfl,trivial⟩ <| WL.no rfl <| WL.skip ?_
 have r9:=r.hx Y
 have lt3:=A3.lt
 have lt4:=A4.lt
 refine WL.sr <| WOL.fa rfl (fa_of fo1117_0) <| WOL.ld rfl (load_one tp3 A4 rfl) <| WOL.fa rfl (fa_of fo1128_0) <| WOL.ld rfl (load_one tp3 A3 rfl) <| WOL.sub (m:=n) (n:=(p:Int)) rfl rfl (by omega) (by omega) <| WOL.fa rfl (fa_of fo1117_1) <| WOL.ld rfl (load_one tp29 A4 rfl) <| WOL.len rfl r9.l u29 <| WOL.ld rfl (load_row tp1128 A3 rfl (Nat.le_of_ble_eq_true rfl)) <| WOL.al tp1194 fun g1 M1 => ?_
 have n1:=M1.next
 refine WOL.lk1 rfl rfl fun M => ((k1199 H (a:=(p:Int)) (b:=(q:Int)) (by omega) (by omega) (by omega) (by omega) _).mono ?_)
 rintro v g2 ⟨rfl,G2⟩
 replace G2:=G2.relock
 generalize g2.withLock g1.lock = g2 at *
 have n2:=G2.next
 have W2:=(Y.trans M1.hx).trans G2
 refine WOL.add (m:=(L.length:Int)) (n:=(p:Int) + q) rfl rfl (by omega) (by omega) ?_
 rw [show (L.length:Int) + ((p:Int) + q) = ((L.length + (p + q):Nat):Int) by omega]
 refine WOL.lq2 [h9.next] rfl rfl rfl rfl fun M hM => ((k1178 (h:=g2.withLock M) (n:=n - p) (m:=L.length + (p + q)) H (by omega) ((f.on W2).held hM (fun b hb => by simp at hb;omega))).mono ?_)
 rintro v g3 ⟨G3,hv,hk,rfl,a1,a2,T⟩
 replace G3:=G3.relock
 replace T:RowA (g3.withLock g2.lock) hv hk (List.replicate (L.length + (p + q)) 0) (List.replicate (L.length + (p + q)) false):=⟨T.v.relock _,T.k.relock _,T.e,T.n⟩
 replace a1:g2.next ≤ hv:=a1
 replace a2:g2.next ≤ hk:=a2
 generalize g3.withLock g2.lock = g3 at *
 have n3:=G3.next
 have W3:=W2.trans G3
 have t1':=T.v.lt
 have t2':=T.k.lt
 refine WOL.sto (vs:=[zi (n - p),slA hv (L.length + (p + q)),.slice none 0 0,slA hk (L.length + (p + q))]) rfl rfl tp1194 ((M1.at_.hx G2).hx G3) rfl rfl (Nat.le_of_ble_eq_true rfl) rfl (f.hx W3) (by omega) fun g4 P4 => WOL.nil <| keep [(2,_),(3,_),(4,_),(6,_),(9,_)] ⟨rfl,rfl,rfl,rfl,rfl,trivial⟩ ?_
 have n4:=P4.next
 have W4:HX h g4:=P4.hx _ W3 (by omega)
 have Z4:HX h9 g4:=P4.hx _ ((M1.hx.trans G2).trans G3) (Nat.le_refl _)
 have A9:At g4 h9.next (.cells [zi (n - p),slA hv (L.length + (p + q)),.slice none 0 0,slA hk (L.length + (p + q))] true true 113):=P4.at_
 have T4:RowA g4 hv hk (padL (((X.take 0).map fun x => (x,true)).map fun c => c.1) 0 (L.length + (p + q))) (padL (((X.take 0).map fun x => (x,true)).map fun c => c.2) false (L.length + (p + q))):=⟨P4.oth _ _ (by omega) T.v,P4.oth _ _ (by omega) T.k,T.e,T.n⟩
 replace A3:=A3.hx Z4;replace A4:=A4.hx Z4;replace A6:=A6.hx Z4
 clear P4
 have sX:=s.hx W4
 -- the ends
 refine WL.seq <| WL.sr <| WOL.mv rfl <| WOL.len rfl sX u29 <| WOL.mv rfl <| WOL.nil <| keep [(3,_),(4,_),(6,_),(9,_),(64,_),(65,_),(66,_)] ⟨rfl,rfl,rfl,rfl,rfl,rfl,rfl,trivial⟩ ?_
 refine WL.upto (α:=Unit) X.length (fun j _ g => (∀ h0,HX h0 g4 → h0.next ≤ hv → h0.next ≤ hk → HX h0 g) ∧ (∀ c y,c ≠ hv → c ≠ hk → At g4 c y → At g c y) ∧ g4.next ≤ g.next ∧ RowA g hv hk (padL (((X.take j).map fun x => (x,true)).map fun c => c.1) 0 (L.length + (p + q))) (padL (((X.take j).map fun x => (x,true)).map fun c => c.2) false (L.length + (p + q)))) (fun _ _ => [(3,ptr h.next),(4,ptr h1.next),(6,ptr h2.next),(9,ptr h9.next),(64,w),(65,zi (X.length:Nat))]) () rfl rfl (by omega) ⟨fun _ x _ _ => x,fun _ _ _ _ a => a,Nat.le_refl _,T4⟩ ⟨rfl,rfl,rfl,rfl,rfl,rfl,rfl,trivial⟩ (fun _ _ => rfl) (fun _ _ _ => ⟨rfl,rfl,rfl,rfl,rfl,rfl,rfl,trivial⟩) (fun _ _ _ => ⟨rfl,rfl,rfl,rfl,rfl,rfl,rfl,trivial⟩) ?_ ?_
 ·rintro j _ g hj ⟨x1,o,nx,ra⟩
  have hp:X[j]? = some X[j]:=List.getElem?_eq_getElem hj
  have ht:X.take (j + 1) = X.take j ++ [X[j]]:=(List.take_append_getElem hj).symm
  have Wg:=x1 h W4 (by omega) (by omega)
  obtain ⟨_,_,cc,fix,wr,el,g1',g2',g3',g4',g5'⟩:=(s.hx Wg).at eI u29 tp3 hp .i64
  have gx:=g5' 0 (by decide)
  rw [Nat.add_zero] at gx
  generalize X[j] = x at *
  have lt:(X.take j).length = j:=by rw [List.length_take];omega
  have lv:(padL (((X.take j).map fun x => (x,true)).map fun c => c.1) 0 (L.length + (p + q))).length = L.length + (p + q):=padL_len (by rw [List.length_map,List.length_map,lt];omega)
  have B9:=o _ _ (by omega) (by omega) A9
  refine WL.sr <| WOL.mv rfl <| WOL.ix rfl rfl g1' <| WOL.ld rfl (load_one tp3 g2' gx) <| WOL.as rfl <| WOL.as rfl <| WOL.nil <| keep [(3,_),(4,_),(6,_),(9,_),(10,_),(11,_),(64,_),(65,_),(66,_)] ⟨rfl,rfl,rfl,rfl,rfl,rfl,rfl,rfl,rfl,trivial⟩ ?_
  have k:=k1181 (n:=n - p) (x:=x) H ra (i:=j) (by rw [lv];omega) (by omega) (by omega) (by rw [lv];omega) (m:=h.next) (f.hx Wg) (by omega) (by omega)
  rw [lv] at k
  refine WL.reg <| WOL.ld rfl (load_row tp1194 B9 rfl (Nat.le_of_ble_eq_true rfl)) <| WOL.fa rfl (fa_of fo1194_0) <| WOL.fa rfl (fa_of fo1117_0) <| WOL.ld rfl (load_one tp3 B9 rfl) <| WOL.mv rfl <| WOL.add (m:=n - (p:Int)) (n:=((j:Nat):Int)) rfl rfl (by omega) (by omega) <| WOL.mv rfl <| WOL.cl3 rfl rfl rfl rfl (k.mono ?_)
  rintro u i6 ⟨z6,r6,o6,n6⟩
  refine WOL.nil fun r k => ⟨(),⟨fun h0 X a b => z6 _ (x1 h0 X a b) a b,fun c y a b A => o6 _ _ a b (o _ _ a b A),by omega,?_⟩,k.sub ⟨rfl,rfl,rfl,rfl,rfl,rfl,rfl,trivial⟩⟩
  have e1:=padL_set (l:=((X.take j).map fun x => (x,true)).map fun c => c.1) (z:=0) (x:=x) (m:=L.length + (p + q)) (by rw [List.length_map,List.length_map,lt];omega)
  have e2:=padL_set (l:=((X.take j).map fun x => (x,true)).map fun c => c.2) (z:=false) (x:=true) (m:=L.length + (p + q)) (by rw [List.length_map,List.length_map,lt];omega)
  rw [List.length_map,List.length_map,lt] at e1 e2
  rw [e1,e2] at r6
  rw [ht,List.map_append,List.map_append,List.map_append]
  exact r6
 ·rintro _ g5 ⟨x5,o5,n5,ra⟩
  have ra:RowA g5 hv hk (padL (((X.take X.length).map fun x => (x,true)).map fun c => c.1) 0 (L.length + (p + q))) (padL (((X.take X.length).map fun x => (x,true)).map fun c => c.2) false (L.length + (p + q))):=ra
  rw [List.take_length] at ra
  have W5:=x5 h W4 (by omega) (by omega)
  have A3:=o5 _ _ (by omega) (by omega) A3
  have A4:=o5 _ _ (by omega) (by omega) A4
  have A6:=o5 _ _ (by omega) (by omega) A6
  have A9:=o5 _ _ (by omega) (by omega) A9
  refine keep [(3,_),(4,_),(6,_),(9,_)] ⟨rfl,rfl,rfl,rfl,trivial⟩ ?_
  -- the readings
  refine WL.seq <| WL.sr <| WOL.ld rfl (load_row tp1128 A3 rfl (Nat.le_of_ble_eq_true rfl)) <| WOL.ld rfl (load_row tp1117 A4 rfl (Nat.le_of_ble_eq_true rfl)) <| WOL.ld rfl (load_row tp1194 A9 rfl (Nat.le_of_ble_eq_true rfl)) ?_
  refine WOL.lq1 [h9.next,h.next] rfl rfl rfl fun M hM => ((k1177 H ((r.hx W5).relock M) (by omega) (by omega) (holeE_in m4) ((f.on W5).held hM (fun b hb => by simp at hb;omega))).mono ?_)
  rintro v g6 ⟨G6,rv,rk,rfl,a3,a4,R⟩
  replace G6:=G6.relock
  replace R:RowA (g6.withLock g5.lock) rv rk L (knownL S L.length):=⟨R.v.relock _,R.k.relock _,R.e,R.n⟩
  replace a3:g5.next ≤ rv:=a3
  replace a4:g5.next ≤ rk:=a4
  generalize g6.withLock g5.lock = g6 at *
  have n6:=G6.next
  have W6:=W5.trans G6
  have v1:=ra.v.lt
  have v2:=ra.k.lt
  replace A3:=A3.hx G6;replace A4:=A4.hx G6;replace A6:=A6.hx G6;replace A9:=A9.hx G6;replace ra:=ra.hx G6
  have k:=k1200 (n:=n) (p:=p) (q:=q) (E:=X) H R ra (by omega) (by omega) (by omega) (by omega) hX lX' (by omega) (by omega) (by omega) (by omega) m3 (by omega) (by omega) l1 W6 f (by omega) (by omega)
  refine WOL.cl3 rfl rfl rfl rfl (k.mono ?_)
  rintro v g7 ⟨x7,o7,n7,rfl,fin⟩
  have W7:=x7 h W6 (by omega) (by omega)
  have A6:=o7 _ _ (by omega) (by omega) A6
  have A9:=o7 _ _ (by omega) (by omega) A9
  refine WOL.as rfl <| WOL.nil <| keep [(6,_),(9,_),(12,_)] ⟨rfl,rfl,rfl,trivial⟩ ?_
  have fine:=resJ_fine (p:=p) (q:=q) (C:=zipK L S L.length) hX L.length
  have leng:=resJ_len (p:=p) (q:=q) (E:=X) (C:=zipK L S L.length) L.length
  generalize hJ:resJ p q X (zipK L S L.length) L.length = J at *
  obtain ⟨er,C⟩:=J
  replace fine:HFine C:=fine
  by_cases e3:er = 0
  ·subst e3
   have ra:=fin rfl
   replace leng:C.length = X.length + L.length:=leng rfl
   have lc:(C.map fun c => c.1).length = L.length + (p + q):=by rw [List.length_map];omega
   refine WL.sr <| WOL.mv rfl <| WOL.bf rfl rfl rfl rfl <| WOL.nil <| WL.no rfl <| WL.skip ?_
   have kk:=k1186 (n:=n - p) H ra (by rw [lc];omega) (f.on W7)
   rw [lc] at kk
   refine WL.sr <| WOL.ld rfl (load_row tp1194 A9 rfl (Nat.le_of_ble_eq_true rfl)) <| WOL.cl1 rfl rfl (kk.mono ?_)
   rintro v g8 ⟨G8,w8,rfl,to⟩
   obtain ⟨b2,m2,k2,rfl⟩:=to.form
   have W8:=W7.trans G8
   refine WOL.sto (vs:=[zi (n - p),slA hv (L.length + (p + q)),.slice b2 m2 k2]) rfl rfl tp1117 (A6.hx G8) rfl rfl (Nat.le_of_ble_eq_true rfl) rfl (f.hx W8) (by omega) fun i1 M1 => WOL.as rfl <| WOL.nil ?_
   refine WL.ret (WL.endC1 rfl rfl (load_row tp1117 M1.at_ rfl (Nat.le_of_ble_eq_true rfl)) ⟨M1.hx _ W8 (by omega),.inr (.inr ⟨rfl,fine.big,hv,_,by rw [show C.length = L.length + (p + q) by omega];rfl,by omega,?_⟩)⟩)
   rw [fine.val]
   exact (to.put M1 (by omega) (by omega)).low (by omega)
  ·refine WL.sr <| WOL.mv rfl <| WOL.bt rfl rfl rfl (bne_iff_ne.2 e3) <| WOL.nil <| WL.yes rfl <| WL.sr <| WOL.bd rfl bd1117z <| WOL.mv rfl <| WOL.sto (vs:=[zi 0,.slice none 0 0,.slice none 0 0]) rfl rfl tp1117 A6 rfl rfl (Nat.le_of_ble_eq_true rfl) rfl (f.hx W7) (by omega) fun i1 M1 => WOL.as rfl <| WOL.nil ?_
   exact WL.ret (WL.endC1 rfl rfl (load_row tp1117 M1.at_ rfl (Nat.le_of_ble_eq_true rfl)) ⟨M1.hx _ W7 (by omega),.inl ⟨e3,rfl⟩⟩)
end
end Go.Tidy
namespace Go.Tidy
open Go Go.Proofs Tab
variable {tp:TProg}
def rstE (n:Int) (p q:Nat) (L:List Int) (S:List (Int × Int)) (X:List Int):Int:=if rngE n p q L.length ≠ 0 then rngE n p q L.length else (resJ p q X (zipK L S L.length) L.length).1
section
variable {h:TH} {n:Int} {p q:Nat} {v1 v2 w:Value} {L X:List Int} {S:List (Int × Int)}
set_option maxHeartbeats 2000000 in
set_option maxRecDepth 10000 in
theorem k1138 (H:Has tp) (s:SlL encI 1 h w X) (lX:X.length ≤ 900000) (hp:1 ≤ p) (hp':p ≤ 32) (hq:1 ≤ q) (hq':q ≤ 32) :
    CallW Tryz.prog tp (.func (.func 38) #[] #[]) #[.agg #[zi (p:Nat),zi (q:Nat)],w] h fun v h' => v = zi (endE p q X) ∧ HX h h':=by
  refine CallW.fnL (H.fn 38 f1138 rfl rfl) ?_
  refine WL.sr <| WOL.box rfl fun h1 N1 => WOL.as rfl <| WOL.nil <| keep [(1,_),(2,_)] ⟨rfl,rfl,trivial⟩ ?_
  have A2:At h1 h.next (.cells [zi (p:Nat),zi (q:Nat)] true true 23):=N1.at_
  have s1:=s.hx N1.hx
  unfold endE
  refine WL.seq <| WL.sr <| WOL.mv rfl <| WOL.len rfl s1 u29 <| WOL.fa rfl (fa_of fo1112_0) <| WOL.ld rfl (load_one tp3 A2 rfl) <| WOL.fa rfl (fa_of fo1112_1) <| WOL.ld rfl (load_one tp3 A2 rfl) <| WOL.add (m:=(p:Int)) (n:=(q:Int)) rfl rfl (by omega) (by omega) ?_
  by_cases c:(X.length:Int) = (p:Int) + q
  · rw [bne_eq_false_iff_eq.2 c]
    refine WOL.bf rfl rfl rfl (bne_eq_false_iff_eq.2 c) <| WOL.nil <| WL.no rfl <| WL.skip <| keep [(1,_)] ⟨rfl,trivial⟩ ?_
    refine WL.seq <| WL.sr <| WOL.as rfl <| WOL.nil ?_
    refine WL.forz (α:=Unit) X.length (fun j _ g => g = h1 ∧ ∀ i,i < j → (X.map readE).getD i 0 = 0) (fun j _ => [(1,w),(5,zi (j:Nat))]) (fun j _ => [(1,w),(5,zi (j:Nat))]) () ⟨rfl,fun i hi => absurd hi (by omega)⟩ ⟨rfl,rfl,trivial⟩ ?_ ?_ (fun _ _ _ => ⟨rfl,rfl,trivial⟩) ?_ ?_
    · rintro j _ g hj ⟨rfl,_⟩
      exact WOL.mv rfl <| WOL.mv rfl <| WOL.len rfl s1 u29 <| WOL.bi rfl rfl rfl <| WOL.nil fun x k => ⟨rfl,k.sub ⟨rfl,rfl,rfl,trivial⟩⟩
    · rintro j _ g hj q
      exact WOL.mv rfl <| WOL.inc rfl (by omega) <| WOL.as rfl <| WOL.nil fun x k => ⟨q,k.sub ⟨rfl,rfl,trivial⟩⟩
    · rintro j _ g hj ⟨rfl,hz⟩
      have hp:X[j]? = some X[j]:=List.getElem?_eq_getElem hj
      generalize X[j] = x at hp
      have he:(X.map readE)[j]? = some (readE x):=by rw [List.getElem?_map,hp];rfl
      obtain ⟨_,_,cc,fix,wr,el,g1,g2,g3,g4,g5⟩:=s1.at eI u29 tp3 hp .i64
      have gx:=g5 0 (by decide)
      rw [Nat.add_zero] at gx
      refine WL.sr <| WOL.mv rfl <| WOL.mv rfl <| WOL.ix rfl rfl g1 <| WOL.ld rfl (load_one tp3 g2 gx) <| WOL.cl1 rfl rfl ((k1187 H x _).mono ?_)
      rintro v g' ⟨rfl,rfl⟩
      refine WOL.as rfl <| WOL.nil <| keep [(1,_),(5,_),(6,_)] ⟨rfl,rfl,rfl,trivial⟩ ?_
      by_cases h0:readE x = 0
      · refine WL.sr <| WOL.mv rfl <| WOL.bf rfl rfl rfl (bne_eq_false_iff_eq.2 h0) <| WOL.nil <| WL.no rfl <| WL.skip fun a q => ⟨(),⟨rfl,fun i hi => ?_⟩,q.sub ⟨rfl,rfl,trivial⟩⟩
        by_cases e:i = j
        · subst e
          rw [List.getD_eq_getElem?_getD,he]
          exact h0
        · exact hz i (by omega)
      · refine WL.sr <| WOL.mv rfl <| WOL.bt rfl rfl rfl (bne_iff_ne.2 h0) <| WOL.nil <| WL.yes rfl <| WL.sr <| WOL.mv rfl <| WOL.as rfl <| WOL.nil ?_
        exact WL.ret (WL.end_ rfl ⟨by rw [fNZ_at hz he h0];rfl,N1.hx⟩)
    · rintro _ g ⟨rfl,hz⟩
      exact WL.sr <| WOL.as rfl <| WOL.nil <| WL.ret (WL.end_ rfl ⟨by rw [fNZ_all (fun i hi => hz i (by rw [List.length_map] at hi;exact hi))];rfl,N1.hx⟩)
  · rw [bne_iff_ne.2 c]
    exact WOL.bt rfl rfl rfl (bne_iff_ne.2 c) <| WOL.nil <| WL.yes rfl <| WL.sr <| WOL.as rfl <| WOL.nil <| WL.ret (WL.end_ rfl ⟨rfl,N1.hx⟩)
set_option maxHeartbeats 8000000 in
set_option maxRecDepth 10000 in
theorem k1139 (H:Has tp) (r:TrcH h v1 v2 L S) (s:SlL encI 1 h w X) (lX:X.length = p + q) (hX:∀ x,x ∈ X → largeB x = false) (hp:1 ≤ p) (hp':p ≤ 32) (hq:1 ≤ q) (hq':q ≤ 32) (lim:∀ j,-1073741824 ≤ L.getD j 0 ∧ L.getD j 0 ≤ 1073741824) (m1:0 ≤ n) (m2:n ≤ 100000000) (l1:L.length ≤ 900000) (t1:S.length ≤ 900000) (f:Free0 h.next h) :
    CallW Tryz.prog tp (.func (.func 39) #[] #[]) #[.agg #[zi (p:Nat),zi (q:Nat)],trcV n v1 v2,w] h fun v h' => HX h h' ∧ TapR (n - p) (rstE n p q L S X) (resJ p q X (zipK L S L.length) L.length).2 h.next h' v:=by
  refine CallW.fnL (H.fn 39 f1139 rfl rfl) ?_
  obtain ⟨b1,k1,e1,_⟩:=id r.l
  obtain ⟨b2,k2,e2,_⟩:=id r.s
  subst e1 e2
  refine WL.sr <| WOL.box rfl fun h1 N1 => WOL.box rfl fun h2 N2 => WOL.al tp1114 fun h3 N3 => WOL.as rfl <| WOL.nil <| keep [(2,_),(3,_),(4,_),(6,_)] ⟨rfl,rfl,rfl,rfl,trivial⟩ ?_
  have q1:=N1.next
  have q2:=N2.next
  have q3:=N3.next
  have A3:At h3 h.next (.cells [zi (p:Nat),zi (q:Nat)] true true 23):=(N1.at_.hx N2.hx).hx N3.hx
  have A4:At h3 h1.next (.cells [zi n,.slice b1 L.length k1,.slice b2 S.length k2] true true 27):=N2.at_.hx N3.hx
  have A6:=N3.at_
  have X3:=(N1.hx.trans N2.hx).trans N3.hx
  have r3:=r.hx X3
  have s3:=s.hx X3
  unfold rstE rngE
  refine WL.seq <| WL.sr <| WOL.fa rfl (fa_of fo1114_0) <| WOL.ld rfl (load_one tp3 A4 rfl) <| WOL.fa rfl (fa_of fo1112_0) <| WOL.ld rfl (load_one tp3 A3 rfl) ?_
  by_cases c1:n < (p:Int)
  · rw [decide_eq_true c1]
    refine WOL.bt rfl rfl rfl (decide_eq_true c1) <| WOL.nil <| WL.yes rfl <| WL.sr <| WOL.bd rfl bd1114z <| WOL.sto (vs:=[zi 0,.slice none 0 0,.slice none 0 0]) rfl rfl tp1114 A6 rfl rfl (Nat.le_of_ble_eq_true rfl) rfl (f.hx X3) (by omega) fun i1 M1 => WOL.as rfl <| WOL.nil ?_
    exact WL.ret (WL.endC1 rfl rfl (load_row tp1114 M1.at_ rfl (Nat.le_of_ble_eq_true rfl)) ⟨M1.hx _ X3 (by omega),.inl ⟨show (14:Int) ≠ 0 by decide,rfl⟩⟩)
  rw [decide_eq_false c1]
  refine WOL.bf rfl rfl rfl (decide_eq_false c1) <| WOL.nil <| WL.no rfl <| WL.skip <| keep [(2,_),(3,_),(4,_),(6,_)] ⟨rfl,rfl,rfl,rfl,trivial⟩ ?_
  refine WL.sr <| WOL.fa rfl (fa_of fo1114_0) <| WOL.ld rfl (load_one tp3 A4 rfl) <| WOL.fa rfl (fa_of fo1112_0) <| WOL.ld rfl (load_one tp3 A3 rfl) <| WOL.sub (m:=n) (n:=(p:Int)) rfl rfl (by omega) (by omega) <| WOL.fa rfl (fa_of fo1114_1) <| WOL.ld rfl (load_one tp29 A4 rfl) <| WOL.len rfl r3.l u29 <| WOL.fa rfl (fa_of fo1112_0) <| WOL.ld rfl (load_one tp3 A3 rfl) <| WOL.addN rfl rfl (by omega) <| WOL.fa rfl (fa_of fo1112_1) <| WOL.ld rfl (load_one tp3 A3 rfl) <| WOL.addN (m:=L.length + p) (k:=q) rfl rfl (by omega) <| WOL.as rfl <| WOL.as rfl <| WOL.nil <| keep [(2,_),(3,_),(4,_),(6,_),(8,_),(9,_)] ⟨rfl,rfl,rfl,rfl,rfl,rfl,trivial⟩ ?_
  by_cases c2:((L.length:Nat):Int) + ((p:Int) + q) > 4096
  · rw [decide_eq_true c2]
    refine WL.seq <| WL.sr <| WOL.mv rfl <| WOL.bt rfl rfl rfl (by first | exact decide_eq_true (by omega) | exact beq_iff_eq.2 (by omega) | exact bne_iff_ne.2 (by omega)) <| WOL.nil <| WL.yes rfl <| WL.sr <| WOL.bd rfl bd1114z <| WOL.sto (vs:=[zi 0,.slice none 0 0,.slice none 0 0]) rfl rfl tp1114 A6 rfl rfl (Nat.le_of_ble_eq_true rfl) rfl (f.hx X3) (by omega) fun i1 M1 => WOL.as rfl <| WOL.nil ?_
    exact WL.ret (WL.endC1 rfl rfl (load_row tp1114 M1.at_ rfl (Nat.le_of_ble_eq_true rfl)) ⟨M1.hx _ X3 (by omega),.inl ⟨show (5:Int) ≠ 0 by decide,rfl⟩⟩)
  rw [decide_eq_false c2]
  refine WL.seq <| WL.sr <| WOL.mv rfl <| WOL.bf rfl rfl rfl (by first | exact decide_eq_false (by omega) | exact beq_eq_false_iff_ne.2 (by omega) | exact bne_eq_false_iff_eq.2 (by omega)) <| WOL.nil <| WL.no rfl <| WL.skip <| keep [(2,_),(3,_),(4,_),(6,_),(8,_),(9,_)] ⟨rfl,rfl,rfl,rfl,rfl,rfl,trivial⟩ ?_
  by_cases c3:n + ((L.length:Nat):Int) + (q:Int) > 100000000
  · rw [decide_eq_true c3]
    refine WL.seq <| WL.sr <| WOL.mv rfl <| WOL.mv rfl <| WOL.add (m:=n - (p:Int)) (n:=((L.length + p + q:Nat):Int)) rfl rfl (by omega) (by omega) <| WOL.bt rfl rfl rfl (by first | exact decide_eq_true (by omega) | exact beq_iff_eq.2 (by omega) | exact bne_iff_ne.2 (by omega)) <| WOL.nil <| WL.yes rfl <| WL.sr <| WOL.bd rfl bd1114z <| WOL.sto (vs:=[zi 0,.slice none 0 0,.slice none 0 0]) rfl rfl tp1114 A6 rfl rfl (Nat.le_of_ble_eq_true rfl) rfl (f.hx X3) (by omega) fun i1 M1 => WOL.as rfl <| WOL.nil ?_
    exact WL.ret (WL.endC1 rfl rfl (load_row tp1114 M1.at_ rfl (Nat.le_of_ble_eq_true rfl)) ⟨M1.hx _ X3 (by omega),.inl ⟨show (4:Int) ≠ 0 by decide,rfl⟩⟩)
  rw [decide_eq_false c3]
  refine WL.seq <| WL.sr <| WOL.mv rfl <| WOL.mv rfl <| WOL.add (m:=n - (p:Int)) (n:=((L.length + p + q:Nat):Int)) rfl rfl (by omega) (by omega) <| WOL.bf rfl rfl rfl (by first | exact decide_eq_false (by omega) | exact beq_eq_false_iff_ne.2 (by omega) | exact bne_eq_false_iff_eq.2 (by omega)) <| WOL.nil <| WL.no rfl <| WL.skip <| keep [(2,_),(3,_),(4,_),(6,_),(8,_)] ⟨rfl,rfl,rfl,rfl,rfl,trivial⟩ ?_
  show ∀ y,Kn _ y → W Tryz.prog tp false _ y h3 (Fin Tryz.prog _ fun v h' => HX h h' ∧ TapR (n - p) (resJ p q X (zipK L S L.length) L.length).1 (resJ p q X (zipK L S L.length) L.length).2 h.next h' v)
  -- the ends
  refine WL.sr <| WOL.as rfl <| WOL.nil ?_
  refine WL.seq <| WL.sr <| WOL.as rfl <| WOL.nil ?_
  refine WL.forz (α:=Value) X.length (fun j u g => HX h3 g ∧ OwnL encC h3.next g u 135 ((X.take j).map fun x => (x,true))) (fun j u => [(2,w),(3,ptr h.next),(4,ptr h1.next),(6,ptr h2.next),(8,zi (n - p)),(10,u),(11,zi (j:Nat))]) (fun j u => [(2,w),(3,ptr h.next),(4,ptr h1.next),(6,ptr h2.next),(8,zi (n - p)),(10,u),(11,zi (j:Nat))]) (.slice none 0 0) ⟨HX.refl _,.inl ⟨rfl,rfl⟩⟩ ⟨rfl,rfl,rfl,rfl,rfl,rfl,rfl,trivial⟩ ?_ ?_ (fun _ _ _ => ⟨rfl,rfl,rfl,rfl,rfl,rfl,rfl,trivial⟩) ?_ ?_
  · rintro j u g hj ⟨Z,_⟩
    exact WOL.mv rfl <| WOL.mv rfl <| WOL.len rfl (s3.hx Z) u29 <| WOL.bi rfl rfl rfl <| WOL.nil fun x k => ⟨rfl,k.sub ⟨rfl,rfl,rfl,rfl,rfl,rfl,rfl,rfl,trivial⟩⟩
  · rintro j u g hj q
    exact WOL.mv rfl <| WOL.inc rfl (by omega) <| WOL.as rfl <| WOL.nil fun x k => ⟨q,k.sub ⟨rfl,rfl,rfl,rfl,rfl,rfl,rfl,trivial⟩⟩
  · rintro j u g hj ⟨Z,O⟩
    have hp:X[j]? = some X[j]:=List.getElem?_eq_getElem hj
    have ht:X.take (j + 1) = X.take j ++ [X[j]]:=(List.take_append_getElem hj).symm
    generalize X[j] = x at *
    have zg:=Z.next
    have Y:=X3.trans Z
    obtain ⟨_,_,cc,fix,wr,el,g1,g2,g3,g4,g5⟩:=(s3.hx Z).at eI u29 tp3 hp .i64
    have gx:=g5 0 (by decide)
    rw [Nat.add_zero] at gx
    refine WL.reg <| WOL.mv rfl <| WOL.mv rfl <| WOL.mv rfl <| WOL.ix rfl rfl g1 <| WOL.ld rfl (load_one tp3 g2 gx) <| WOL.bd rfl bd1207 <| WOL.bsl rfl u1205 tp1207 (by decide) (by decide) (by decide) (cs:=encC (x,true)) rfl fun i1 M1 => ?_
    have m1:=M1.next
    obtain ⟨u',i2,ap,O',x2,_⟩:=own_push (sT:=133) (x:=(x,true)) eC u1205 tp1207 (O.hx M1.hx) (SlC.own (sz:=2) (m:=1) rfl M1.at_) ((f.hx (Y.trans M1.hx)).up (by omega)) (by rw [List.length_map,List.length_take];omega) (by omega)
    refine WOL.ap rfl rfl ap <| WOL.as rfl <| WOL.nil fun y k => ⟨u',⟨x2 _ (Z.trans M1.hx) (Nat.le_refl _),?_⟩,k.sub ⟨rfl,rfl,rfl,rfl,rfl,rfl,rfl,trivial⟩⟩
    rw [ht,List.map_append]
    exact O'
  rintro u0 g0 ⟨Z0,O0⟩
  have O0:OwnL encC h3.next g0 u0 135 ((X.take X.length).map fun x => (x,true)):=O0
  rw [List.take_length] at O0
  have Y0:=X3.trans Z0
  have z0:=Z0.next
  refine keep [(3,_),(4,_),(6,_),(8,_),(10,_)] ⟨rfl,rfl,rfl,rfl,rfl,trivial⟩ ?_
  refine WL.sr <| WOL.ld rfl (load_row tp1114 (A4.hx Z0) rfl (Nat.le_of_ble_eq_true rfl)) <| WOL.cl1 rfl rfl ((k1189 H (r.hx Y0) l1 (by omega) (f.on Y0)).mono ?_)
  rintro av g1 ⟨G1,O12⟩
  have Z1:=Z0.trans G1
  have Y1:=X3.trans Z1
  have z1:=G1.next
  have sA:=O12.sl eC
  have O1:=O0.hx G1
  refine WOL.as rfl <| WOL.nil <| keep [(3,_),(4,_),(6,_),(8,_),(10,_),(12,_)] ⟨rfl,rfl,rfl,rfl,rfl,rfl,trivial⟩ ?_
  have A3o:=A3
  have A6o:=A6
  clear A4 r3 s3
  have hCj:∀ j,j < L.length → (zipK L S L.length)[j]? = some (L.getD j 0,knownB S (j:Nat)):=fun j hj => zipK_get hj
  have lC:(zipK L S L.length).length = L.length:=zip_len
  generalize zipK L S L.length = C at *
  have fine:=fun j => resJ_fine (p:=p) (q:=q) (C:=C) hX j
  have leng:=fun j => resJ_len (p:=p) (q:=q) (E:=X) (C:=C) j
  have stop:=fun j => resJ_stop (p:=p) (q:=q) (E:=X) (C:=C) (j:=j)
  refine WL.seq <| WL.sr <| WOL.as rfl <| WOL.nil ?_
  have lt12:=fun z (hz:bl av = some z) => O12.lt hz
  refine WL.forz (α:=Value) L.length (fun j u g => (resJ p q X C j).1 = 0 ∧ HX h3 g ∧ OwnL encC g0.next g av 135 C ∧ OwnL encC h3.next g u 135 (resJ p q X C j).2 ∧ ∀ z,bl u = some z → bl av ≠ some z) (fun j u => [(3,ptr h.next),(6,ptr h2.next),(8,zi (n - p)),(10,u),(12,av),(13,zi (j:Nat))]) (fun j u => [(3,ptr h.next),(6,ptr h2.next),(8,zi (n - p)),(10,u),(12,av),(13,zi (j:Nat))]) u0 ⟨rfl,Z1,O12,O1,fun z hz e => by have:=O0.lt hz;have:=lt12 z e;omega⟩ ⟨rfl,rfl,rfl,rfl,rfl,rfl,trivial⟩ ?_ ?_ (fun _ _ _ => ⟨rfl,rfl,rfl,rfl,rfl,rfl,trivial⟩) ?_ ?_
  · rintro j u g hj ⟨_,Z,OA,_,_⟩
    refine WOL.mv rfl <| WOL.mv rfl <| WOL.len rfl (OA.sl eC) u1205 ?_
    rw [lC]
    exact WOL.bi rfl rfl rfl <| WOL.nil fun x k => ⟨rfl,k.sub ⟨rfl,rfl,rfl,rfl,rfl,rfl,rfl,trivial⟩⟩
  · rintro j u g hj q
    exact WOL.mv rfl <| WOL.inc rfl (by omega) <| WOL.as rfl <| WOL.nil fun x k => ⟨q,k.sub ⟨rfl,rfl,rfl,rfl,rfl,rfl,trivial⟩⟩
  · rintro j u g hj ⟨e0,Z,OA,O,ne⟩
    obtain ⟨Hj,e⟩:∃ Hj,resJ p q X C j = (0,Hj):=⟨_,Prod.ext e0 rfl⟩
    have fj:=fine j
    have lj:=leng j e0
    rw [e] at fj lj O
    replace lj:Hj.length = X.length + j:=lj
    replace O:OwnL encC h3.next g u 135 Hj:=O
    have hcd:C.getD j (0,false) = (L.getD j 0,knownB S (j:Nat)):=by rw [List.getD_eq_getElem?_getD,hCj j hj];rfl
    have sd:=resJ_dark (p:=p) (q:=q) (E:=X) (C:=C) e
    have se:=resJ_err (p:=p) (q:=q) (E:=X) (C:=C) e
    have sp:=resJ_put (p:=p) (q:=q) (E:=X) (C:=C) e
    rw [hcd] at sd se sp
    have lf:=fun i => fj.lim i
    have hg1:Hj[j]? = some (Hj.getD j (0,false)):=by rw [List.getD_eq_getElem?_getD,List.getElem?_eq_getElem (by omega)];rfl
    have hg2:Hj[j + p]? = some (Hj.getD (j + p) (0,false)):=by rw [List.getD_eq_getElem?_getD,List.getElem?_eq_getElem (by omega)];rfl
    have Y:=X3.trans Z
    have zg:=Z.next
    have B3:At g h.next (.cells [zi (p:Nat),zi (q:Nat)] true true 23):=A3o.hx Z
    have B6:At g h2.next (.cells [zi 0,.slice none 0 0,.slice none 0 0] true true 27):=A6o.hx Z
    have lu:=fun z (hz:bl u = some z) => O.lt hz
    obtain ⟨bo1,oo1,ca,fix1,wr1,el1,g1',g2',g3',g4',g5'⟩:=(O.sl eC).at eC u1205 tp1207 hg1 .i64
    obtain ⟨bo2,oo2,cb,fix2,wr2,el2,y1',y2',y3',y4',y5'⟩:=(O.sl eC).at eC u1205 tp1207 hg2 .i64
    obtain ⟨bo3,oo3,cv,fix3,wr3,el3,w1',w2',w3',w4',w5'⟩:=(OA.sl eC).at eC u1205 tp1207 (hCj j hj) .i64
    have wk:=w5' 1 (by decide)
    replace wk:cv[_ + 1]? = some (.bool (knownB S (j:Nat))):=wk
    have wv:=w5' 0 (by decide)
    rw [Nat.add_zero] at wv
    replace wv:cv[_]? = some (zi (L.getD j 0)):=wv
    have lb2:=y2'.lt
    have lb3:=B3.lt
    have lb6:=B6.lt
    refine WL.sr <| WOL.mv rfl <| WOL.mv rfl <| WOL.ix rfl rfl g1' <| WOL.ld rfl (load_row tp1207 g2' g4' g3') <| WOL.mv rfl <| WOL.mv rfl <| WOL.fa rfl (fa_of fo1112_0) <| WOL.ld rfl (load_one tp3 B3 rfl) <| WOL.addN rfl rfl (by omega) <| WOL.ix rfl rfl y1' <| WOL.ld rfl (load_row tp1207 y2' y4' y3') <| WOL.al tp1207 fun i1 M1 => WOL.al tp1207 fun i2 M2 => ?_
    have m1:=M1.next
    have m2:=M2.next
    have J2:=M1.hx.trans M2.hx
    refine WOL.stQ (vs:=encC (Hj.getD j (0,false))) [bo2,h.next] rfl rfl rfl tp1207 (M1.at_.hx M2.hx) rfl rfl (Nat.le_of_ble_eq_true rfl) rfl (f.hx (Y.trans J2)) (by omega) (by simp;omega) fun i3 M3 => ?_
    have m3:=M3.next
    have J3:HX g i3:=M3.hx _ J2 (by omega)
    refine WOL.sto (vs:=encC (Hj.getD (j + p) (0,false))) rfl rfl tp1207 (M3.oth _ _ (by omega) M2.at_) rfl rfl (Nat.le_of_ble_eq_true rfl) rfl (f.hx (Y.trans J3)) (by omega) fun i4 M4 => WOL.nil <| keep [(3,_),(6,_),(8,_),(10,_),(12,_),(13,_),(14,_),(15,_)] ⟨rfl,rfl,rfl,rfl,rfl,rfl,rfl,rfl,trivial⟩ ?_
    have m4:=M4.next
    have J4:HX g i4:=M4.hx _ J3 (by omega)
    have A14:At i4 g.next (.cells [zi (Hj.getD j (0,false)).1,.bool (Hj.getD j (0,false)).2] true true 135):=M4.oth _ _ (by omega) M3.at_
    have A15:At i4 i1.next (.cells [zi (Hj.getD (j + p) (0,false)).1,.bool (Hj.getD (j + p) (0,false)).2] true true 135):=M4.at_
    clear M3 M4 M1 M2 J2 J3 g1' g2' g3' g4' g5' y1' y2' y3' y4' y5'
    unfold resK at sd se sp
    refine WL.sr <| WOL.cut 13 [(3,ptr h.next),(6,ptr h2.next),(8,zi (n - p)),(10,u),(12,av),(13,zi (j:Nat)),(14,ptr g.next),(15,ptr i1.next),(91,.bool (knownB S (j:Nat) && ((Hj.getD (j + p) (0,false)).2 && (Hj.getD j (0,false)).2)))] ?_ ?_
    · cases hk1:(Hj.getD j (0,false)).2 with
      | false =>
        rw [hk1] at A14
        refine WOL.fa rfl (fa_of fo1207_1) <| WOL.ld rfl (load_one tp4 A14 rfl) <| WOL.mv rfl <| WOL.skp (b:=false) rfl rfl <| WOL.skp (b:=false) rfl rfl <| WOL.pkf rfl rfl <| WOL.mv rfl <| WOL.skp (b:=false) rfl rfl <| WOL.skp (b:=false) rfl rfl <| WOL.skp (b:=false) rfl rfl <| WOL.skp (b:=false) rfl rfl <| WOL.skp (b:=false) rfl rfl <| WOL.pkf rfl rfl ?_
        rw [Bool.and_false,Bool.and_false]
        exact WOL.nil fun a q => ⟨rfl,q.sub ⟨rfl,rfl,rfl,rfl,rfl,rfl,rfl,rfl,rfl,trivial⟩⟩
      | true =>
        rw [hk1] at A14
        cases hk2:(Hj.getD (j + p) (0,false)).2 with
        | false =>
          rw [hk2] at A15
          refine WOL.fa rfl (fa_of fo1207_1) <| WOL.ld rfl (load_one tp4 A14 rfl) <| WOL.mv rfl <| WOL.now (b:=true) rfl rfl <| WOL.fa rfl (fa_of fo1207_1) <| WOL.now (b:=true) rfl rfl <| WOL.ld rfl (load_one tp4 A15 rfl) <| WOL.pkt rfl rfl <| WOL.mv rfl <| WOL.skp (b:=false) rfl rfl <| WOL.skp (b:=false) rfl rfl <| WOL.skp (b:=false) rfl rfl <| WOL.skp (b:=false) rfl rfl <| WOL.skp (b:=false) rfl rfl <| WOL.pkf rfl rfl ?_
          rw [Bool.false_and,Bool.and_false]
          exact WOL.nil fun a q => ⟨rfl,q.sub ⟨rfl,rfl,rfl,rfl,rfl,rfl,rfl,rfl,rfl,trivial⟩⟩
        | true =>
          rw [hk2] at A15
          refine WOL.fa rfl (fa_of fo1207_1) <| WOL.ld rfl (load_one tp4 A14 rfl) <| WOL.mv rfl <| WOL.now (b:=true) rfl rfl <| WOL.fa rfl (fa_of fo1207_1) <| WOL.now (b:=true) rfl rfl <| WOL.ld rfl (load_one tp4 A15 rfl) <| WOL.pkt rfl rfl <| WOL.mv rfl <| WOL.now (b:=true) rfl rfl <| WOL.mv rfl <| WOL.now (b:=true) rfl rfl <| WOL.mv rfl <| WOL.now (b:=true) rfl rfl <| WOL.ix rfl rfl w1' <| WOL.now (b:=true) rfl rfl <| WOL.fa rfl (fa_of fo1207_1) <| WOL.now (b:=true) rfl rfl <| WOL.ld rfl (load_one tp4 (w2'.hx J4) wk) <| WOL.pkt rfl rfl ?_
          rw [Bool.and_self,Bool.and_true]
          exact WOL.nil fun a q => ⟨rfl,q.sub ⟨rfl,rfl,rfl,rfl,rfl,rfl,rfl,rfl,rfl,trivial⟩⟩
    show ∀ a,Kn _ a → WO _ _ (r1139_17.drop 13) a i4 _
    generalize hB:(knownB S (j:Nat) && ((Hj.getD (j + p) (0,false)).2 && (Hj.getD j (0,false)).2)) = B at *
    refine WOL.bd rfl bd1207 <| WOL.al tp1207 fun i5 M5 => WOL.sto (vs:=encC (0,B)) rfl rfl tp1207 M5.at_ rfl rfl (Nat.le_of_ble_eq_true rfl) rfl (f.hx ((Y.trans J4).trans M5.hx)) (by omega) fun i6 M6 => WOL.nil <| keep [(3,_),(6,_),(8,_),(10,_),(12,_),(13,_),(14,_),(15,_),(16,_)] ⟨rfl,rfl,rfl,rfl,rfl,rfl,rfl,rfl,rfl,trivial⟩ ?_
    have m5:=M5.next
    have m6:=M6.next
    have K6:HX i4 i6:=M6.hx _ M5.hx (Nat.le_refl _)
    have J6:=J4.trans K6
    have A16:At i6 i4.next (.cells [zi 0,.bool B] true true 135):=M6.at_
    have push:∀ (i:TH) (x:Int × Bool),HX g i → i4.next < i.next → At i i4.next (.cells [zi x.1,.bool x.2] true true 135) → resJ p q X C (j + 1) = (0,Hj ++ [x]) → ∀ {Q:Exit → Regs → TH → Prop},(∀ y g' u',((resJ p q X C (j + 1)).1 = 0 ∧ HX h3 g' ∧ OwnL encC g0.next g' av 135 C ∧ OwnL encC h3.next g' u' 135 (resJ p q X C (j + 1)).2 ∧ ∀ z,bl u' = some z → bl av ≠ some z) → Kn [(3,ptr h.next),(6,ptr h2.next),(8,zi (n - p)),(10,u'),(12,av),(13,zi (j:Nat))] y → Q .normal y g') → ∀ y,Kn [(3,ptr h.next),(6,ptr h2.next),(8,zi (n - p)),(10,u),(12,av),(13,zi (j:Nat)),(16,ptr i4.next)] y → W Tryz.prog tp false (.reg r1139_25) y i Q:=by
      intro i x Ji li A er Q hQ
      refine WL.reg <| WOL.mv rfl <| WOL.ld rfl (load_row tp1207 A rfl (Nat.le_of_ble_eq_true rfl)) <| WOL.bsl rfl u1205 tp1207 (by decide) (by decide) (by decide) (cs:=encC x) rfl fun i7 M7 => ?_
      have m7:=M7.next
      obtain ⟨u',i8,ap,O',x8,y8,b8,n8⟩:=own_push (sT:=133) (x:=x) eC u1205 tp1207 ((O.hx Ji).hx M7.hx) (SlC.own (sz:=2) (m:=1) rfl M7.at_) ((f.hx ((Y.trans Ji).trans M7.hx)).up (by omega)) (by omega) (by omega)
      refine WOL.ap rfl rfl ap <| WOL.as rfl <| WOL.nil fun y k => hQ y i8 u' ⟨by rw [er],x8 _ ((Z.trans Ji).trans M7.hx) (Nat.le_refl _),((OA.hx Ji).hx M7.hx).keep fun c y hc a => y8 _ _ (fun e => ne _ e hc) a,by rw [er];exact O',fun z hz e => ?_⟩ (k.sub ⟨rfl,rfl,rfl,rfl,rfl,rfl,trivial⟩)
      have e1:z = i7.next:=Option.some.inj (hz.symm.trans b8)
      have:=(OA.hx Ji).lt e
      omega
    cases B with
    | false =>
      have es:=sd rfl
      refine WL.seq <| WL.sr <| WOL.fa rfl (fa_of fo1207_1) <| WOL.ld rfl (load_one tp4 A16 rfl) <| WOL.nil <| WL.no rfl <| WL.skip ?_
      exact kto (push i6 (0,false) J6 (by omega) A16 es fun y g' u' hp k => ⟨u',hp,k⟩) ⟨rfl,rfl,rfl,rfl,rfl,rfl,rfl,trivial⟩
    | true =>
      replace se:=se rfl
      replace sp:=sp rfl
      clear sd
      have l1':=lf (j + p)
      have l2':=lf j
      have l3':=lim j
      obtain ⟨u1,u2⟩:=mul_lim (w:=((p + q:Nat):Int)) (x:=(Hj.getD (j + p) (0,false)).1) (by omega) (by omega) l1'.1 l1'.2
      obtain ⟨u3,u4⟩:=mul_lim (w:=(q:Int)) (x:=(Hj.getD j (0,false)).1) (by omega) (by omega) l2'.1 l2'.2
      have B3':=B3.hx J6
      refine WL.seq <| WL.sr <| WOL.fa rfl (fa_of fo1207_1) <| WOL.ld rfl (load_one tp4 A16 rfl) <| WOL.nil <| WL.yes rfl ?_
      refine WL.sr <| WOL.fa rfl (fa_of fo1112_0) <| WOL.ld rfl (load_one tp3 B3' rfl) <| WOL.fa rfl (fa_of fo1112_1) <| WOL.ld rfl (load_one tp3 B3' rfl) <| WOL.addN rfl rfl (by omega) <| WOL.fa rfl (fa_of fo1207_0) <| WOL.ld rfl (load_one tp3 (A15.hx K6) rfl) <| WOL.mul rfl rfl (Int.le_trans (by decide) u1) (Int.le_trans u2 (by decide)) <| WOL.fa rfl (fa_of fo1112_1) <| WOL.ld rfl (load_one tp3 B3' rfl) <| WOL.fa rfl (fa_of fo1207_0) <| WOL.ld rfl (load_one tp3 (A14.hx K6) rfl) <| WOL.mul rfl rfl (Int.le_trans (by decide) u3) (Int.le_trans u4 (by decide)) <| WOL.sub rfl rfl (by omega) (by omega) <| WOL.mv rfl <| WOL.mv rfl <| WOL.ix rfl rfl w1' <| WOL.fa rfl (fa_of fo1207_0) <| WOL.ld rfl (load_one tp3 (w2'.hx J6) wv) <| WOL.sub rfl rfl (by omega) (by omega) <| WOL.as rfl <| WOL.nil <| keep [(3,_),(6,_),(8,_),(10,_),(12,_),(13,_),(16,_),(17,_)] ⟨rfl,rfl,rfl,rfl,rfl,rfl,rfl,rfl,trivial⟩ ?_
      have hN:((p + q:Nat):Int) * (Hj.getD (j + p) (0,false)).1 - (q:Int) * (Hj.getD j (0,false)).1 - L.getD j 0 = resN p q Hj j (L.getD j 0):=rfl
      rw [hN]
      have lN:(resN p q Hj j (L.getD j 0)).natAbs ≤ 32212254720000:=by rw [← hN];omega
      clear hN
      generalize resN p q Hj j (L.getD j 0) = N at *
      have stp:∀ er,er ≠ 0 → resJ p q X C (j + 1) = (er,Hj) → resJ p q X C L.length = (er,Hj):=fun er e1 e2 => by
        have et:=stop (j + 1) (by rw [e2];exact e1) (L.length - (j + 1))
        rw [show j + 1 + (L.length - (j + 1)) = L.length by omega,e2] at et
        exact et
      have B6':=B6.hx J6
      unfold resE1 at se sp
      by_cases t0:N.tmod p = 0
      · rw [bne_eq_false_iff_eq.2 t0] at se sp
        refine WL.seq <| WL.sr <| WOL.mv rfl <| WOL.fa rfl (fa_of fo1112_0) <| WOL.ld rfl (load_one tp3 B3' rfl) <| WOL.remt rfl rfl (by omega) <| WOL.bf rfl rfl rfl (bne_eq_false_iff_eq.2 t0) <| WOL.nil <| WL.no rfl <| WL.skip <| keep [(3,_),(6,_),(8,_),(10,_),(12,_),(13,_),(16,_),(17,_)] ⟨rfl,rfl,rfl,rfl,rfl,rfl,rfl,rfl,trivial⟩ ?_
        refine WL.sr <| WOL.mv rfl <| WOL.fa rfl (fa_of fo1112_0) <| WOL.ld rfl (load_one tp3 B3' rfl) <| WOL.quoT rfl rfl (by omega) (by omega) <| WOL.fa rfl (fa_of fo1207_0) <| WOL.sto (vs:=encI (N.tdiv p)) rfl rfl tp3 A16 rfl rfl (Nat.le_of_ble_eq_true rfl) rfl (f.hx (Y.trans J6)) (by omega) fun i7 M7 => WOL.nil <| keep [(3,_),(6,_),(8,_),(10,_),(12,_),(13,_),(16,_)] ⟨rfl,rfl,rfl,rfl,rfl,rfl,rfl,trivial⟩ ?_
        have m7:=M7.next
        have J7:HX g i7:=M7.hx _ J6 (by omega)
        have A16':At i7 i4.next (.cells [zi (N.tdiv p),.bool true] true true 135):=M7.at_
        refine WL.sr <| WOL.fa rfl (fa_of fo1207_0) <| WOL.ld rfl (load_one tp3 A16' rfl) <| WOL.cl1 rfl rfl ((k1187 H (N.tdiv p) _).mono ?_)
        rintro v g' ⟨rfl,rfl⟩
        by_cases t1:readE (N.tdiv p) = 0
        · have hl:largeB (N.tdiv p) = false:=by unfold largeB;rw [t1];rfl
          rw [hl] at sp
          refine WOL.bf rfl rfl rfl (bne_eq_false_iff_eq.2 t1) <| WOL.nil <| WL.no rfl <| WL.skip ?_
          exact kto (push g' (N.tdiv p,true) J7 (by omega) A16' (sp rfl) fun y g' u' hp k => ⟨u',hp,k⟩) ⟨rfl,rfl,rfl,rfl,rfl,rfl,rfl,trivial⟩
        · have hl:largeB (N.tdiv p) = true:=by unfold largeB;exact bne_iff_ne.2 t1
          rw [hl] at se
          have et:=stp 4 (by decide) (se (by decide))
          refine WOL.bt rfl rfl rfl (bne_iff_ne.2 t1) <| WOL.nil <| WL.yes rfl <| WL.sr <| WOL.bd rfl bd1114z <| WOL.sto (vs:=[zi 0,.slice none 0 0,.slice none 0 0]) rfl rfl tp1114 (B6.hx J7) rfl rfl (Nat.le_of_ble_eq_true rfl) rfl (f.hx (Y.trans J7)) (by omega) fun i8 M8 => WOL.as rfl <| WOL.nil ?_
          refine WL.ret (WL.endC1 rfl rfl (load_row tp1114 M8.at_ rfl (Nat.le_of_ble_eq_true rfl)) ⟨M8.hx _ (Y.trans J7) (by omega),.inl ⟨?_,?_⟩⟩)
          · rw [et];exact (show (4:Int) ≠ 0 by decide)
          · rw [et];rfl
      · rw [bne_iff_ne.2 t0] at se
        have et:=stp 1 (by decide) (se (show (1:Int) ≠ 0 by decide))
        refine WL.seq <| WL.sr <| WOL.mv rfl <| WOL.fa rfl (fa_of fo1112_0) <| WOL.ld rfl (load_one tp3 B3' rfl) <| WOL.remt rfl rfl (by omega) <| WOL.bt rfl rfl rfl (bne_iff_ne.2 t0) <| WOL.nil <| WL.yes rfl <| WL.sr <| WOL.bd rfl bd1114z <| WOL.sto (vs:=[zi 0,.slice none 0 0,.slice none 0 0]) rfl rfl tp1114 B6' rfl rfl (Nat.le_of_ble_eq_true rfl) rfl (f.hx (Y.trans J6)) (by omega) fun i8 M8 => WOL.as rfl <| WOL.nil ?_
        refine WL.ret (WL.endC1 rfl rfl (load_row tp1114 M8.at_ rfl (Nat.le_of_ble_eq_true rfl)) ⟨M8.hx _ (Y.trans J6) (by omega),.inl ⟨?_,?_⟩⟩)
        · rw [et];exact Int.one_ne_zero
        · rw [et];rfl
  · rintro u g ⟨e0,Z,OA,O,ne⟩
    have fN:=fine L.length
    have lN:=leng L.length e0
    generalize resJ p q X C L.length = J at *
    obtain ⟨er,Hn⟩:=J
    replace e0:er = 0:=e0
    subst e0
    replace lN:Hn.length = X.length + L.length:=lN
    replace O:OwnL encC h3.next g u 135 Hn:=O
    replace fN:HFine Hn:=fN
    have Y:=X3.trans Z
    have zg:=Z.next
    have B6:=A6o.hx Z
    have lb6:=B6.lt
    refine WL.sr <| WOL.mv rfl <| WOL.mv rfl <| WOL.cl2 rfl rfl rfl ((k1188 (n:=n - p) H (O.sl eC) (by omega) (f.on Y)).mono ?_)
    rintro v g2 ⟨X2',R⟩
    have W:=Y.trans X2'
    have xx:=X2'.next
    have R':TapR (n - p) 0 Hn g.next g2 v:=.inr ⟨rfl,R⟩
    rcases R' with ⟨heT,rfl⟩ | ⟨heT,⟨hbT,rfl⟩ | ⟨hbT,u1T,u2T,rfl,o1T,o2T⟩⟩
    · exact WOL.ex rfl rfl <| WOL.ex rfl rfl <| WOL.sto (vs:=[zi 0,.slice none 0 0,.slice none 0 0]) rfl rfl tp1114 (B6.hx X2') rfl rfl (Nat.le_of_ble_eq_true rfl) rfl (f.hx (W)) (by omega) fun iT MT => WOL.as rfl <| WOL.nil <| WL.ret (WL.endC1 rfl rfl (load_row tp1114 MT.at_ rfl (Nat.le_of_ble_eq_true rfl)) ⟨MT.hx _ (W) (by omega),.inl ⟨heT,rfl⟩⟩)
    · exact WOL.ex rfl rfl <| WOL.ex rfl rfl <| WOL.sto (vs:=[zi 0,.slice none 0 0,.slice none 0 0]) rfl rfl tp1114 (B6.hx X2') rfl rfl (Nat.le_of_ble_eq_true rfl) rfl (f.hx (W)) (by omega) fun iT MT => WOL.as rfl <| WOL.nil <| WL.ret (WL.endC1 rfl rfl (load_row tp1114 MT.at_ rfl (Nat.le_of_ble_eq_true rfl)) ⟨MT.hx _ (W) (by omega),.inr ⟨heT,.inl ⟨hbT,rfl⟩⟩⟩)
    · obtain ⟨z1T,e1T⟩:=OwnF.form (Or.inl o1T)
      obtain ⟨z2T,e2T⟩:=OwnF.form (Or.inl o2T)
      exact WOL.ex rfl rfl <| WOL.ex rfl rfl <| WOL.sto (vs:=[zi _,u1T,u2T]) rfl rfl tp1114 (B6.hx X2') rfl rfl (Nat.le_of_ble_eq_true rfl) (by rw [e1T,e2T];rfl) (f.hx (W)) (by omega) fun iT MT => WOL.as rfl <| WOL.nil <| WL.ret (WL.endC1 rfl rfl (load_row tp1114 MT.at_ rfl (Nat.le_of_ble_eq_true rfl)) ⟨MT.hx _ (W) (by omega),.inr ⟨heT,.inr ⟨hbT,u1T,u2T,rfl,(o1T.keep fun z y hz a => MT.oth _ _ (by have:=o1T.lt hz;omega) a).low (by omega),(o2T.keep fun z y hz a => MT.oth _ _ (by have:=o2T.lt hz;omega) a).low (by omega)⟩⟩⟩)
end
end Go.Tidy
namespace Go.Tidy
open Go Go.Proofs Tab
variable {tp:TProg}
def agreeB (A B:List Int) (KA KB:List Bool) (m:Nat):Bool:=(List.range m).all fun i => !(KA.getD i false && KB.getD i false && (A.getD i 0 != B.getD i 0))
section
variable {A B:List Int} {KA KB:List Bool} {j m:Nat}
theorem agree_succ (h:agreeB A B KA KB j = true) (hj:(KA.getD j false && KB.getD j false && (A.getD j 0 != B.getD j 0)) = false):agreeB A B KA KB (j + 1) = true:=by
 unfold agreeB at h ⊢
 rw [List.range_succ,List.all_append,h]
 simp only [List.all_cons,List.all_nil,hj]
 rfl
theorem agree_not (h:j < m) (hj:(KA.getD j false && KB.getD j false && (A.getD j 0 != B.getD j 0)) = true):agreeB A B KA KB m = false:=by
 cases hc:agreeB A B KA KB m with
 | false => rfl
 | true =>
  unfold agreeB at hc
  have:=List.all_eq_true.1 hc j (List.mem_range.2 h)
  rw [hj] at this
  exact absurd this (by decide)
end
section
variable {h:TH} {n:Int} {A B:List Int} {KA KB:List Bool} {av ak bv bk:Nat}
set_option maxHeartbeats 4000000 in
set_option maxRecDepth 10000 in
theorem k1201 (H:Has tp) (R:RowA h av ak A KA) (T:RowA h bv bk B KB) (hl:B.length = A.length) (n0:0 ≤ n) (n1:n ≤ 1000000000) (lA:A.length ≤ 1000000) (f:Free0 h.next h) :
    CallW Tryz.prog tp (.func (.func 101) #[] #[]) #[rowV n (slA av A.length) (slA ak A.length),rowV n (slA bv A.length) (slA bk A.length)] h fun v h' => v = .bool (agreeB A B KA KB A.length) ∧ HX h h':=by
  refine CallW.fnL (H.fn 101 f1201 rfl rfl) ?_
  refine WL.sr <| WOL.box rfl fun h1 N1 => WOL.box rfl fun h2 N2 => WOL.as rfl <| WOL.nil <| keep [(2,_),(3,_),(4,_)] ⟨rfl,rfl,rfl,trivial⟩ ?_
  have q1:=N1.next
  have q2:=N2.next
  refine WL.sr <| WOL.al tp4 fun h3 N3 => WOL.sto (vs:=[.bool true]) rfl rfl tp4 N3.at_ rfl rfl (Nat.le_of_ble_eq_true rfl) rfl (f.hx ((N1.hx.trans N2.hx).trans N3.hx)) (by omega) fun h4 P4 => WOL.nil <| keep [(2,_),(3,_),(4,_),(5,_)] ⟨rfl,rfl,rfl,rfl,trivial⟩ ?_
  have q3:=N3.next
  have q4:=P4.next
  have X4:HX h h4:=P4.hx _ ((N1.hx.trans N2.hx).trans N3.hx) (by omega)
  have A2:At h4 h.next (.cells [zi n,slA av A.length,.slice none 0 0,slA ak A.length] true true 113):=P4.oth _ _ (by omega) ((N1.at_.hx N2.hx).hx N3.hx)
  have A3:At h4 h1.next (.cells [zi n,slA bv A.length,.slice none 0 0,slA bk A.length] true true 113):=P4.oth _ _ (by omega) (N2.at_.hx N3.hx)
  have A5:At h4 h2.next (.cells [.bool true] true true 4):=P4.at_
  refine WL.seq <| WL.skip <| WL.seq <| WL.sr <| WOL.fa rfl (fa_of fo1194_0) <| WOL.ld rfl (load_row tp1117 A2 (l:=[zi n,slA av A.length,.slice none 0 0]) rfl (Nat.le_of_ble_eq_true rfl)) <| WOL.cl1 rfl rfl ((k1179 H h4).mono ?_)
  rintro v h5 ⟨cc,rfl,X5,Ac,ac⟩
  have q5:=X5.next
  have lc:=Ac.lt
  have Y5:=X4.trans X5
  replace A2:=A2.hx X5;replace A3:=A3.hx X5;replace A5:=A5.hx X5
  have R5:=R.hx Y5
  have T5:=T.hx Y5
  have lr1:=R.v.lt
  have lr2:=R.k.lt
  have lt1:=T.v.lt
  have lt2:=T.k.lt
  refine WOL.nil <| keep [(2,_),(3,_),(4,_),(5,_),(13,_)] ⟨rfl,rfl,rfl,rfl,rfl,trivial⟩ ?_
  refine WL.block <| WL.rangeX rfl (H.fn 134 f1224 rfl rfl) (yX1224 (v1:=slA av A.length) (v2:=.slice none 0 0) H (n:=n) n0 n1 (m:=A.length) lA) (fun j g => agreeB A B KA KB j = true ∧ HX h g ∧ (∀ c y,c ≠ h2.next → At h5 c y → At g c y) ∧ h5.next ≤ g.next ∧ At g h2.next (.cells [.bool true] true true 4)) (fun e g => e = .exit 0 ∧ agreeB A B KA KB A.length = false ∧ HX h g ∧ h5.next ≤ g.next ∧ At g h2.next (.cells [.bool false] true true 4)) ?_ ?_ ?_ ?_ ?_ ?_ ?_ ?_ ?_
  · rintro j g ⟨_,_,o,_⟩
    exact ⟨o _ _ (by omega) Ac,A,rfl,SlL.own eI (o _ _ (by omega) R5.v) rfl⟩
  · rintro j g ⟨_,X,o,nx,_⟩
    exact (f.hx X).up (by omega)
  · rintro e g ⟨_,_,X,nx,_⟩
    exact (f.hx X).up (by omega)
  · rintro j g g' x ⟨z0,X,o,nx,A⟩ P
    exact ⟨z0,P.hx _ X (by omega),fun c y a A => P.oth _ _ (by have:=A.lt;omega) (o _ _ a A),by rw [P.next];exact nx,P.oth _ _ (by omega) A⟩
  · rintro e g g' x ⟨ee,z0,X,nx,A⟩ P
    exact ⟨ee,z0,P.hx _ X (by omega),by rw [P.next];exact nx,P.oth _ _ (by omega) A⟩
  · rintro g x N
    have:=N.next
    exact ⟨rfl,Y5.trans N.hx,fun c y _ A => A.hx N.hx,by omega,A5.hx N.hx⟩
  · rintro j g x hj _ A'
    refine WL.reg <| WOL.as rfl <| WOL.nil ?_
    intro r' hr
    refine ⟨rfl,rfl,fun g2 xx ⟨z0,X,o,nx,B5⟩ A1 => ?_⟩
    refine hr.go ?_
    have B2:=o _ _ (by omega) A2
    have B3:=o _ _ (by omega) A3
    have RR:RowA g2 av ak A KA:=⟨o _ _ (by omega) R5.v,o _ _ (by omega) R5.k,R5.e,R5.n⟩
    have TT:RowA g2 bv bk B KB:=⟨o _ _ (by omega) T5.v,o _ _ (by omega) T5.k,T5.e,T5.n⟩
    refine WL.block <| WL.sr <| WOL.ld rfl (load_row tp1194 B2 rfl (Nat.le_of_ble_eq_true rfl)) <| WOL.mv rfl <| WOL.cl2 rfl rfl rfl ((k1180 (n:=n) H RR hj n0 n1 lA).mono ?_)
    rintro u i1 ⟨rfl,M1⟩
    refine WOL.mv rfl <| WOL.ex rfl rfl <| WOL.ex rfl rfl <| WOL.as rfl <| WOL.as rfl <| WOL.nil <| keep [(2,_),(3,_),(4,_),(5,_),(6,_),(7,_),(8,_)] ⟨rfl,rfl,rfl,rfl,rfl,rfl,rfl,trivial⟩ ?_
    have k2:=k1180 (n:=n) (i:=j) H (TT.hx M1) (by omega) n0 n1 (by omega)
    rw [hl] at k2
    refine WL.sr <| WOL.ld rfl (load_row tp1194 (B3.hx M1) rfl (Nat.le_of_ble_eq_true rfl)) <| WOL.mv rfl <| WOL.cl2 rfl rfl rfl (k2.mono ?_)
    rintro u i2 ⟨rfl,M2⟩
    refine WOL.mv rfl <| WOL.ex rfl rfl <| WOL.ex rfl rfl <| WOL.as rfl <| WOL.as rfl <| WOL.nil <| keep [(4,_),(5,_),(7,_),(8,_),(9,_),(10,_)] ⟨rfl,rfl,rfl,rfl,rfl,rfl,trivial⟩ ?_
    have M:=M1.trans M2
    have mn:=M.next
    have AM:=A1.hx M
    have on:(KA.getD j false && KB.getD j false && (A.getD j 0 != B.getD j 0)) = false → agreeB A B KA KB (j + 1) = true ∧ HX h i2 ∧ (∀ c y,c ≠ h2.next → At h5 c y → At i2 c y) ∧ h5.next ≤ i2.next ∧ At i2 h2.next (.cells [.bool true] true true 4):=fun e => ⟨agree_succ z0 e,X.trans M,fun c y a A => (o _ _ a A).hx M,by omega,B5.hx M⟩
    have off:=agree_not (A:=A) (B:=B) (KA:=KA) (KB:=KB) (j:=j) hj
    clear k2 B2 B3 RR TT
    generalize KA.getD j false = ka at *
    generalize KB.getD j false = kb at *
    cases ka with
    | false => exact WL.block <| WL.sr <| WOL.mv rfl <| WOL.nt rfl <| WOL.mv rfl <| WOL.skp (b:=true) rfl rfl <| WOL.skp (b:=true) rfl rfl <| WOL.pkt rfl rfl <| WOL.as rfl <| WOL.nil <| WL.yes rfl <| WL.exit fun r k => ⟨.inl ⟨rfl,on rfl⟩,AM⟩
    | true =>
      cases kb with
      | false => exact WL.block <| WL.sr <| WOL.mv rfl <| WOL.nt rfl <| WOL.mv rfl <| WOL.now (b:=false) rfl rfl <| WOL.mv rfl <| WOL.now (b:=false) rfl rfl <| WOL.nt rfl <| WOL.pkf rfl rfl <| WOL.as rfl <| WOL.nil <| WL.yes rfl <| WL.exit fun r k => ⟨.inl ⟨rfl,on rfl⟩,AM⟩
      | true =>
        refine WL.block <| WL.sr <| WOL.mv rfl <| WOL.nt rfl <| WOL.mv rfl <| WOL.now (b:=false) rfl rfl <| WOL.mv rfl <| WOL.now (b:=false) rfl rfl <| WOL.nt rfl <| WOL.pkf rfl rfl <| WOL.as rfl <| WOL.nil <| WL.no rfl ?_
        by_cases e:A.getD j 0 = B.getD j 0
        · refine WL.sr <| WOL.mv rfl <| WOL.mv rfl <| WOL.bf rfl rfl rfl (bne_eq_false_iff_eq.2 e) <| WOL.as rfl <| WOL.nil <| WL.no rfl <| WL.skip fun r k => ⟨.inl ⟨rfl,on ?_⟩,AM⟩
          rw [e,bne_self_eq_false];rfl
        · refine WL.sr <| WOL.mv rfl <| WOL.mv rfl <| WOL.bt rfl rfl rfl (bne_iff_ne.2 e) <| WOL.as rfl <| WOL.nil <| WL.yes rfl <| WL.sr <| WOL.sto (vs:=[.bool false]) rfl rfl tp4 (B5.hx M) rfl rfl (Nat.le_of_ble_eq_true rfl) rfl (f.hx (X.trans M)) (by omega) fun i3 M3 => WOL.nil ?_
          have m3:=M3.next
          refine WL.exit fun r k => ⟨.inr ⟨.inr ⟨0,rfl⟩,rfl,off ?_,M3.hx _ (X.trans M) (by omega),by omega,M3.at_⟩,M3.oth _ _ (by omega) AM⟩
          rw [bne_iff_ne.2 e];rfl
  · rintro g ⟨z0,X,o,nx,A⟩
    refine WL.sr <| WOL.ld rfl (load_one tp4 A rfl) <| WOL.as rfl <| WOL.nil <| WL.ret (WL.end_ rfl ⟨?_,X⟩)
    rw [z0];rfl
  · rintro _ g ⟨rfl,z0,X,nx,A⟩
    refine WL.sr <| WOL.ld rfl (load_one tp4 A rfl) <| WOL.as rfl <| WOL.nil <| WL.ret (WL.end_ rfl ⟨?_,X⟩)
    rw [z0];rfl
end
end Go.Tidy
namespace Go.Tidy
open Go Go.Proofs Tab
variable {tp:TProg}
def agnR (n:Int) (p q:Nat) (L:List Int) (S:List (Int × Int)) (n':Int) (L':List Int) (S':List (Int × Int)):Bool × Int :=
  if L.length ≤ p + q then (false,16) else if bigC (tapC L S (vTn p q) (L.length - (p + q))) = true then (false,4) else if ¬ (n + p = n' ∧ L.length - (p + q) = L'.length) then (false,2) else
    (agreeB (valC (tapC L S (vTn p q) (L.length - (p + q)))) L' ((tapC L S (vTn p q) (L.length - (p + q))).map fun c => c.2) (knownL S' L'.length) L'.length,0)
def agnO (n a b:Int) (L:List Int) (S:List (Int × Int)) (n':Int) (L':List Int) (S':List (Int × Int)):Bool × Int :=
 if firstNZ [chordE a b,traceE n L S,traceE n' L' S'] ≠ 0 then (false,firstNZ [chordE a b,traceE n L S,traceE n' L' S']) else agnR n a.toNat b.toNat L S n' L' S'
theorem TrcO.relock {n0 bv:Nat} {g:TH} {w:Value} {L:List Int} {S:List (Int × Int)} (r:TrcO n0 g bv w L S) (M:List Nat):TrcO n0 (g.withLock M) bv w L S:=⟨r.v.relock _,r.s.keep fun z y hz a => a.relock _⟩
section
variable {h:TH} {n n' a b:Int} {v1 v2 w1 w2:Value} {L L':List Int} {S S':List (Int × Int)}
set_option maxHeartbeats 8000000 in
set_option maxRecDepth 10000 in
theorem k1137 (H:Has tp) (r:TrcH h v1 v2 L S) (r':TrcH h w1 w2 L' S') (l1:L.length ≤ 900000) (t1:S.length ≤ 900000) (l2:L'.length ≤ 900000) (t2:S'.length ≤ 900000) (f:Free0 h.next h) :
  CallW Tryz.prog tp (.func (.func 37) #[] #[]) #[.agg #[zi a,zi b],trcV n v1 v2,trcV n' w1 w2] h fun v h' => v = .tuple #[.bool (agnO n a b L S n' L' S').1,zi (agnO n a b L S n' L' S').2] ∧ HX h h':=by
 refine CallW.fnL (H.fn 37 f1137 rfl rfl) ?_
 obtain ⟨b1,k1,e1,_⟩:=id r.l
 obtain ⟨b2,k2,e2,_⟩:=id r.s
 obtain ⟨b3,k3,e3,_⟩:=id r'.l
 obtain ⟨b4,k4,e4,_⟩:=id r'.s
 subst e1 e2 e3 e4
 refine WL.sr <| WOL.box rfl fun h1 N1 => WOL.box rfl fun h2 N2 => WOL.box rfl fun h3 N3 => WOL.as rfl <| WOL.as rfl <| WOL.nil <| keep [(3,_),(4,_),(5,_)] ⟨rfl,rfl,rfl,trivial⟩ ?_
 have q1:=N1.next
 have q2:=N2.next
 have q3:=N3.next
 have A3:At h3 h.next (.cells [zi a,zi b] true true 44):=(N1.at_.hx N2.hx).hx N3.hx
 have A4:At h3 h1.next (.cells [zi n,.slice b1 L.length k1,.slice b2 S.length k2] true true 31):=N2.at_.hx N3.hx
 have A5:At h3 h2.next (.cells [zi n',.slice b3 L'.length k3,.slice b4 S'.length k4] true true 31):=N3.at_
 have X3:=(N1.hx.trans N2.hx).trans N3.hx
 refine WL.seq <| WL.sr <| WOL.ld rfl (load_row tp1128 A3 rfl (Nat.le_of_ble_eq_true rfl)) <| WOL.ld rfl (load_row tp1117 A4 rfl (Nat.le_of_ble_eq_true rfl)) <| WOL.ld rfl (load_row tp1117 A5 rfl (Nat.le_of_ble_eq_true rfl)) ?_
 refine WOL.lk1 rfl rfl fun M => ((k1121 H a b _).mono ?_)
 rintro v h4 ⟨rfl,X4⟩
 replace X4:=X4.relock
 generalize h4.withLock h3.lock = h4 at *
 have Y4:=X3.trans X4
 have y4:=X4.next
 refine WOL.lq1 [h2.next] rfl rfl rfl fun M hM => ((k1123 (n:=n) H ((r.hx Y4).relock M) (by omega) (by omega) ((f.on Y4).held hM (fun b hb => by simp at hb;omega))).mono ?_)
 rintro v h5 ⟨rfl,X5⟩
 replace X5:=X5.relock
 generalize h5.withLock h4.lock = h5 at *
 have Y5:=Y4.trans X5
 refine WOL.cl1 rfl rfl ((k1123 (n:=n') H (r'.hx Y5) (by omega) (by omega) (f.on Y5)).mono ?_)
 rintro v h6 ⟨rfl,X6⟩
 refine WOL.bsl rfl u166 tp30 (by decide) (by decide) (by decide) (filled_ints3 _ _ _) fun h7 N7 => WOL.cl1 rfl rfl ((k71 H (l:=[_,_,_]) N7.at_.get (by simp)).mono ?_)
 rintro v h7 ⟨rfl,rfl⟩
 have Z:=((X4.trans X5).trans X6).trans N7.hx
 have Y:=X3.trans Z
 replace A3:=A3.hx Z;replace A4:=A4.hx Z;replace A5:=A5.hx Z
 have yn:=Z.next
 have fY:=f.hx Y
 refine WOL.as rfl <| WOL.nil <| keep [(3,_),(4,_),(5,_),(8,_)] ⟨rfl,rfl,rfl,rfl,trivial⟩ ?_
 unfold agnO
 generalize hE:firstNZ [chordE a b,traceE n L S,traceE n' L' S'] = E
 by_cases e0:E ≠ 0
 ·rw [if_pos e0]
  exact WL.sr <| WOL.mv rfl <| WOL.bt rfl rfl rfl (bne_iff_ne.2 e0) <| WOL.nil <| WL.yes rfl <| WL.sr <| WOL.mv rfl <| WOL.as rfl <| WOL.as rfl <| WOL.nil <| WL.ret (WL.end_ rfl ⟨rfl,Y⟩)
 rw [if_neg e0]
 have e0:E = 0:=Classical.not_not.1 e0
 subst e0
 have all:=firstNZ_zero hE
 obtain ⟨⟨m1,m2⟩,m3,m4,m5,m6,m7⟩:=trace_ok (all (traceE n L S) (by simp))
 obtain ⟨⟨m1',m2'⟩,m3',m4',m5',m6',m7'⟩:=trace_ok (all (traceE n' L' S') (by simp))
 obtain ⟨p1,p2,p3,p4⟩:=chord_ok (all (chordE a b) (by simp))
 obtain ⟨p,rfl⟩:∃ p:Nat,a = p:=⟨a.toNat,by omega⟩
 obtain ⟨q,rfl⟩:∃ q:Nat,b = q:=⟨b.toNat,by omega⟩
 rw [Int.toNat_natCast,Int.toNat_natCast]
 refine WL.sr <| WOL.mv rfl <| WOL.bf rfl rfl rfl rfl <| WOL.nil <| WL.no rfl <| WL.skip <| keep [(3,_),(4,_),(5,_)] ⟨rfl,rfl,rfl,trivial⟩ ?_
 -- measured
 refine WL.sr <| WOL.ld rfl (load_row tp1117 A4 rfl (Nat.le_of_ble_eq_true rfl)) <| WOL.ld rfl (load_row tp1128 A3 rfl (Nat.le_of_ble_eq_true rfl)) <| WOL.al tp1117 fun h8 N8 => ?_
 have q8:=N8.next
 have Y8:=Y.trans N8.hx
 refine WOL.lk1 rfl rfl fun M => ((k1194 H (a:=p) (b:=q) (by omega) (by omega) (by omega) (by omega) _).mono ?_)
 rintro v g1 ⟨Xg,c,rfl,hc,Ac⟩
 replace Xg:=Xg.relock
 replace Ac:=Ac.relock h8.lock
 replace hc:h8.next ≤ c:=hc
 generalize g1.withLock h8.lock = g1 at *
 rw [← vTapD] at Ac
 have Yg:=Y8.trans Xg
 have xg:=Xg.next
 refine WOL.lq2 [h7.next] rfl rfl rfl rfl fun M hM => ((k1193 (n:=n) (W:=p + q) (c:=-(p:Int)) H ((r.hx Yg).relock M) ((SlL.own eS Ac rfl).relock M) (vTaps (by omega) (by omega) (by omega) (by omega)) m3 m1 m2 (by omega) (by omega) (by omega) l1 (by omega) (holeE_in m4) (by omega) ((f.on Yg).held hM (fun b hb => by simp at hb;omega))).mono ?_)
 rintro v g2 ⟨X2,R⟩
 replace X2:=X2.relock
 rw [Int.sub_neg] at R
 have x2:=X2.next
 have Y2:=Yg.trans X2
 have B4:=((A4.hx N8.hx).hx Xg).hx X2
 have B5:=((A5.hx N8.hx).hx Xg).hx X2
 have B9:=(N8.at_.hx Xg).hx X2
 have l4:=B4.lt
 unfold agnR
 rcases R with ⟨he,rfl⟩ | ⟨he,hb,rfl⟩ | ⟨he,hb,bv,w,rfl,hv,to⟩
 ·have hc':L.length ≤ p + q:=by
   by_cases hh:L.length ≤ p + q
   ·exact hh
   ·rw [decide_eq_false hh] at he;exact absurd rfl he
  rw [decide_eq_true hc',if_pos hc']
  exact WOL.mv rfl <| WOL.ex rfl rfl <| WOL.ex rfl rfl <| WOL.sto (vs:=[zi 0,.slice none 0 0,.slice none 0 0]) rfl rfl tp1117 B9 rfl rfl (Nat.le_of_ble_eq_true rfl) rfl (f.hx Y2) (by omega) fun i1 M1 => WOL.as rfl <| WOL.nil <| WL.seq <| WL.sr <| WOL.mv rfl <| WOL.bt rfl rfl rfl rfl <| WOL.nil <| WL.yes rfl <| WL.sr <| WOL.mv rfl <| WOL.as rfl <| WOL.as rfl <| WOL.nil <| WL.ret (WL.end_ rfl ⟨rfl,M1.hx _ Y2 (by omega)⟩)
 ·have hc':¬ L.length ≤ p + q:=fun hh => by
   rw [decide_eq_true hh] at he;exact absurd he (by decide)
  rw [if_neg hc',if_pos hb]
  exact WOL.mv rfl <| WOL.ex rfl rfl <| WOL.ex rfl rfl <| WOL.sto (vs:=[zi 0,.slice none 0 0,.slice none 0 0]) rfl rfl tp1117 B9 rfl rfl (Nat.le_of_ble_eq_true rfl) rfl (f.hx Y2) (by omega) fun i1 M1 => WOL.as rfl <| WOL.nil <| WL.seq <| WL.sr <| WOL.mv rfl <| WOL.bt rfl rfl rfl rfl <| WOL.nil <| WL.yes rfl <| WL.sr <| WOL.mv rfl <| WOL.as rfl <| WOL.as rfl <| WOL.nil <| WL.ret (WL.end_ rfl ⟨rfl,M1.hx _ Y2 (by omega)⟩)
 ·have hc':¬ L.length ≤ p + q:=fun hh => by
   rw [decide_eq_true hh] at he;exact absurd he (by decide)
  rw [if_neg hc',if_neg (by rw [hb];decide)]
  replace to:TrcO g1.next (g2.withLock g1.lock) bv w _ _:=to.relock g1.lock
  replace hv:g1.next ≤ bv:=hv
  generalize g2.withLock g1.lock = g2 at *
  obtain ⟨b5,l5,k5,rfl⟩:=to.form
  have lC:(tapC L S (vTn p q) (L.length - (p + q))).length = L.length - (p + q):=tapC_len
  have lD:((tapC L S (vTn p q) (L.length - (p + q))).map fun c => c.2).length = L.length - (p + q):=by rw [List.length_map,lC]
  have ho:=holes_ok ((tapC L S (vTn p q) (L.length - (p + q))).map fun c => c.2)
  have kh:=known_holes ((tapC L S (vTn p q) (L.length - (p + q))).map fun c => c.2)
  have lh:=holesOf_le ((tapC L S (vTn p q) (L.length - (p + q))).map fun c => c.2)
  have lV:(valC (tapC L S (vTn p q) (L.length - (p + q)))).length = L.length - (p + q):=by unfold valC;rw [List.length_map,lC]
  rw [lD] at ho kh lh
  rw [lC]
  generalize tapC L S (vTn p q) (L.length - (p + q)) = C at *
  refine WOL.mv rfl <| WOL.ex rfl rfl <| WOL.ex rfl rfl <| WOL.sto (vs:=[zi (n + p),slA bv _,.slice b5 l5 k5]) rfl rfl tp1117 B9 rfl rfl (Nat.le_of_ble_eq_true rfl) rfl (f.hx Y2) (by omega) fun g3 P3 => WOL.as rfl <| WOL.nil <| keep [(4,_),(5,_),(9,_),(10,_)] ⟨rfl,rfl,rfl,rfl,trivial⟩ ?_
  have Y3:HX h g3:=P3.hx _ Y2 (by omega)
  have p3:=P3.next
  replace to:=to.put P3 (by omega) (by omega)
  have C9:=P3.at_
  have C5:=P3.oth _ _ (by omega) B5
  have ro:=to.trc
  rw [lV] at ro
  refine WL.seq <| WL.sr <| WOL.mv rfl <| WOL.bf rfl rfl rfl rfl <| WOL.nil <| WL.no rfl <| WL.skip <| keep [(4,_),(5,_),(9,_)] ⟨rfl,rfl,rfl,trivial⟩ ?_
  refine WL.seq <| WL.sr <| WOL.ld rfl (load_row tp1117 C9 rfl (Nat.le_of_ble_eq_true rfl)) <| WOL.ld rfl (load_row tp1117 C5 rfl (Nat.le_of_ble_eq_true rfl)) <| WOL.cl2 rfl rfl rfl ((k1176 (n:=n + p) (n':=n') H ro.l (r'.hx Y3).l).mono ?_)
  rintro v g4 ⟨rfl,X4'⟩
  rw [lV]
  have Y4':=Y3.trans X4'
  have x4:=X4'.next
  replace C9:=C9.hx X4';replace C5:=C5.hx X4';replace ro:=ro.hx X4'
  by_cases hs:n + p = n' ∧ L.length - (p + q) = L'.length
  ·rw [if_neg (fun c => c hs),decide_eq_true hs]
   obtain ⟨rfl,hs⟩:=hs
   refine WOL.nt rfl <| WOL.nil <| WL.no rfl <| WL.skip <| keep [(4,_),(5,_),(9,_)] ⟨rfl,rfl,rfl,trivial⟩ ?_
   refine WL.sr <| WOL.ld rfl (load_row tp1117 C9 rfl (Nat.le_of_ble_eq_true rfl)) <| WOL.ld rfl (load_row tp1117 C5 rfl (Nat.le_of_ble_eq_true rfl)) ?_
   refine WOL.lq1 [h2.next] rfl rfl rfl fun M hM => ((k1177 (n:=n + p) H (ro.relock M) (by omega) (by omega) (by rw [lV];exact holeE_in ho) ((f.on Y4').held hM (fun b hb => by simp at hb;omega))).mono ?_)
   rintro v g5 ⟨X5',av,ak,rfl,ha1,ha2,RA⟩
   replace X5':=X5'.relock
   replace RA:RowA (g5.withLock g4.lock) av ak _ _:=⟨RA.v.relock _,RA.k.relock _,RA.e,RA.n⟩
   generalize g5.withLock g4.lock = g5 at *
   have Y5':=Y4'.trans X5'
   refine WOL.cl1 rfl rfl ((k1177 (n:=n + p) H (r'.hx Y5') (by omega) (by omega) (holeE_in m4') (f.on Y5')).mono ?_)
   rintro v g6 ⟨X6',cv,ck,rfl,hc1,hc2,RB⟩
   have Y6':=Y5'.trans X6'
   rw [lV,kh] at RA
   have kk:=k1201 (n:=n + p) H (RA.hx X6') RB (by omega) (by omega) (by omega) (by omega) (f.on Y6')
   rw [lV,hs] at kk
   rw [lV,hs]
   refine WOL.cl2 rfl rfl rfl (kk.mono ?_)
   rintro v g7 ⟨rfl,X7'⟩
   exact WOL.as rfl <| WOL.as rfl <| WOL.nil <| WL.ret (WL.end_ rfl ⟨rfl,Y6'.trans X7'⟩)
  ·rw [if_pos hs,decide_eq_false hs]
   exact WOL.nt rfl <| WOL.nil <| WL.yes rfl <| WL.sr <| WOL.as rfl <| WOL.as rfl <| WOL.nil <| WL.ret (WL.end_ rfl ⟨rfl,Y4'⟩)
end
end Go.Tidy
namespace Go.Tidy
open Go Go.Proofs Tab
variable {tp:TProg}
section
variable {h:TH} {n n':Int} {p q:Nat} {v1 v2 w1 w2:Value} {L L':List Int} {S S':List (Int × Int)}
theorem knownL_getD {S:List (Int × Int)} {m i:Nat} (hi:i < m):(knownL S m).getD i false = knownB S (i:Nat):=by
 rw [List.getD_eq_getElem?_getD,knownL_get hi];rfl
set_option maxHeartbeats 8000000 in
set_option maxRecDepth 10000 in
theorem k1140 (H:Has tp) (r:TrcH h v1 v2 L S) (r':TrcH h w1 w2 L' S') (hp:1 ≤ p) (hp':p ≤ 32) (hq:1 ≤ q) (hq':q ≤ 32) (lim:∀ j,-1073741824 ≤ L.getD j 0 ∧ L.getD j 0 ≤ 1073741824) (m1:0 ≤ n) (m2:n ≤ 100000000) (l1:L.length ≤ 900000) (t1:S.length ≤ 900000) (t2:S'.length ≤ 900000) (f:Free0 h.next h) :
    CallW Tryz.prog tp (.func (.func 40) #[] #[]) #[.agg #[zi (p:Nat),zi (q:Nat)],trcV n v1 v2,trcV n' w1 w2] h fun v h' => v = .tuple #[.bool (agnR n p q L S n' L' S').1,zi (agnR n p q L S n' L' S').2] ∧ HX h h':=by
  refine CallW.fnL (H.fn 40 f1140 rfl rfl) ?_
  obtain ⟨b1,k1,e1,_⟩:=id r.l
  obtain ⟨b2,k2,e2,_⟩:=id r.s
  obtain ⟨b3,k3,e3,_⟩:=id r'.l
  obtain ⟨b4,k4,e4,_⟩:=id r'.s
  subst e1 e2 e3 e4
  refine WL.sr <| WOL.box rfl fun h1 N1 => WOL.box rfl fun h2 N2 => WOL.box rfl fun h3 N3 => WOL.as rfl <| WOL.as rfl <| WOL.nil <| keep [(3,_),(4,_),(5,_)] ⟨rfl,rfl,rfl,trivial⟩ ?_
  have q1:=N1.next
  have q2:=N2.next
  have q3:=N3.next
  have A3:At h3 h.next (.cells [zi (p:Nat),zi (q:Nat)] true true 23):=(N1.at_.hx N2.hx).hx N3.hx
  have A4:At h3 h1.next (.cells [zi n,.slice b1 L.length k1,.slice b2 S.length k2] true true 27):=N2.at_.hx N3.hx
  have A5:At h3 h2.next (.cells [zi n',.slice b3 L'.length k3,.slice b4 S'.length k4] true true 27):=N3.at_
  have X3:=(N1.hx.trans N2.hx).trans N3.hx
  refine WL.sr <| WOL.ld rfl (load_row tp1112 A3 rfl (Nat.le_of_ble_eq_true rfl)) <| WOL.ld rfl (load_row tp1114 A4 rfl (Nat.le_of_ble_eq_true rfl)) <| WOL.cl2 rfl rfl rfl ((k1128 (n:=n) H (r.hx X3) hp hp' hq hq' lim m1 m2 l1 t1 (f.on X3)).mono ?_)
  rintro v g ⟨X,R⟩
  have Y:=X3.trans X
  have x1:=X.next
  have B5:=A5.hx X
  unfold agnR
  rcases R with ⟨he,rfl⟩ | ⟨he,⟨hb,rfl⟩ | ⟨hb,u1,u2,rfl,o1,o2⟩⟩
  · have hc':L.length ≤ p + q:=by
      by_cases hh:L.length ≤ p + q
      · exact hh
      · rw [decide_eq_false hh] at he;exact absurd rfl he
    rw [decide_eq_true hc',if_pos hc']
    exact WOL.mv rfl <| WOL.ex rfl rfl <| WOL.ex rfl rfl <| WOL.al tp1114 fun i1 M1 => WOL.sto (vs:=[zi 0,.slice none 0 0,.slice none 0 0]) rfl rfl tp1114 M1.at_ rfl rfl (Nat.le_of_ble_eq_true rfl) rfl (f.hx (Y.trans M1.hx)) (by omega) fun i2 M2 => WOL.as rfl <| WOL.nil <| WL.seq <| WL.sr <| WOL.mv rfl <| WOL.bt rfl rfl rfl rfl <| WOL.nil <| WL.yes rfl <| WL.sr <| WOL.mv rfl <| WOL.as rfl <| WOL.as rfl <| WOL.nil <| WL.ret (WL.end_ rfl ⟨rfl,M2.hx _ (Y.trans M1.hx) (by omega)⟩)
  · have hc':¬ L.length ≤ p + q:=fun hh => by
      rw [decide_eq_true hh] at he;exact absurd he (by decide)
    rw [if_neg hc',if_pos hb]
    exact WOL.mv rfl <| WOL.ex rfl rfl <| WOL.ex rfl rfl <| WOL.al tp1114 fun i1 M1 => WOL.sto (vs:=[zi 0,.slice none 0 0,.slice none 0 0]) rfl rfl tp1114 M1.at_ rfl rfl (Nat.le_of_ble_eq_true rfl) rfl (f.hx (Y.trans M1.hx)) (by omega) fun i2 M2 => WOL.as rfl <| WOL.nil <| WL.seq <| WL.sr <| WOL.mv rfl <| WOL.bt rfl rfl rfl rfl <| WOL.nil <| WL.yes rfl <| WL.sr <| WOL.mv rfl <| WOL.as rfl <| WOL.as rfl <| WOL.nil <| WL.ret (WL.end_ rfl ⟨rfl,M2.hx _ (Y.trans M1.hx) (by omega)⟩)
  · have hc':¬ L.length ≤ p + q:=fun hh => by
      rw [decide_eq_true hh] at he;exact absurd he (by decide)
    rw [if_neg hc',if_neg (by rw [hb];decide)]
    obtain ⟨z1,e1⟩:=OwnF.form (Or.inl o1)
    obtain ⟨z2,e2⟩:=OwnF.form (Or.inl o2)
    have sV:=o1.sl eI
    have sH:=o2.sl eS
    have lC:(tapC L S (vTn p q) (L.length - (p + q))).length = L.length - (p + q):=tapC_len
    have lD:((tapC L S (vTn p q) (L.length - (p + q))).map fun c => c.2).length = L.length - (p + q):=by rw [List.length_map,lC]
    have kh:=known_holes ((tapC L S (vTn p q) (L.length - (p + q))).map fun c => c.2)
    have lh:=holesOf_le ((tapC L S (vTn p q) (L.length - (p + q))).map fun c => c.2)
    have lV:(valC (tapC L S (vTn p q) (L.length - (p + q)))).length = L.length - (p + q):=by unfold valC;rw [List.length_map,lC]
    rw [lD] at kh lh
    rw [← kh]
    generalize valC (tapC L S (vTn p q) (L.length - (p + q))) = V at *
    generalize holesOf ((tapC L S (vTn p q) (L.length - (p + q))).map fun c => c.2) = T at *
    clear lC lD kh o1 o2 hb
    refine WOL.mv rfl <| WOL.ex rfl rfl <| WOL.ex rfl rfl <| WOL.al tp1114 fun i1 M1 => WOL.sto (vs:=[zi (n + p),u1,u2]) rfl rfl tp1114 M1.at_ rfl rfl (Nat.le_of_ble_eq_true rfl) (by rw [e1,e2];rfl) (f.hx (Y.trans M1.hx)) (by omega) fun i2 M2 => WOL.as rfl <| WOL.nil <| keep [(5,_),(8,_),(9,_)] ⟨rfl,rfl,rfl,trivial⟩ ?_
    have y1:=M1.next
    have y2:=M2.next
    have Y2:HX h i2:=M2.hx _ (Y.trans M1.hx) (by omega)
    have Z2:HX g i2:=M2.hx _ M1.hx (by omega)
    replace B5:=B5.hx Z2
    have B8:=M2.at_
    replace sV:=sV.hx Z2
    replace sH:=sH.hx Z2
    refine WL.seq <| WL.sr <| WOL.mv rfl <| WOL.bf rfl rfl rfl rfl <| WOL.nil <| WL.no rfl <| WL.skip <| keep [(5,_),(8,_)] ⟨rfl,rfl,trivial⟩ ?_
    refine WL.seq <| WL.sr <| WOL.fa rfl (fa_of fo1114_0) <| WOL.ld rfl (load_one tp3 B8 rfl) <| WOL.fa rfl (fa_of fo1114_0) <| WOL.ld rfl (load_one tp3 B5 rfl) ?_
    by_cases cn:n + p = n'
    · refine WOL.bf rfl rfl rfl (bne_eq_false_iff_eq.2 cn) <| WOL.mv rfl <| WOL.now (b:=false) rfl rfl <| WOL.fa rfl (fa_of fo1114_1) <| WOL.now (b:=false) rfl rfl <| WOL.ld rfl (load_one tp29 B8 rfl) <| WOL.now (b:=false) rfl rfl <| WOL.len rfl sV u29 <| WOL.now (b:=false) rfl rfl <| WOL.fa rfl (fa_of fo1114_1) <| WOL.now (b:=false) rfl rfl <| WOL.ld rfl (load_one tp29 B5 rfl) <| WOL.now (b:=false) rfl rfl <| WOL.len rfl (r'.hx Y2).l u29 <| WOL.now (b:=false) rfl rfl ?_
      by_cases cl:L.length - (p + q) = L'.length
      · rw [if_neg (fun c => c ⟨cn,cl⟩),cl]
        refine WOL.bf rfl rfl rfl (bne_eq_false_iff_eq.2 (by omega)) <| WOL.pkf rfl rfl <| WOL.nil <| WL.no rfl <| WL.skip <| keep [(5,_),(8,_)] ⟨rfl,rfl,trivial⟩ ?_
        rw [cl] at lV
        refine WL.seq <| WL.sr <| WOL.as rfl <| WOL.nil ?_
        refine WL.forz (α:=Unit) L'.length (fun j _ g => HX i2 g ∧ agreeB V L' (knownL T L'.length) (knownL S' L'.length) j = true) (fun j _ => [(5,ptr h2.next),(8,ptr g.next),(10,zi (j:Nat))]) (fun j _ => [(5,ptr h2.next),(8,ptr g.next),(10,zi (j:Nat))]) () ⟨HX.refl _,rfl⟩ ⟨rfl,rfl,rfl,trivial⟩ ?_ ?_ (fun _ _ _ => ⟨rfl,rfl,rfl,trivial⟩) ?_ ?_
        · rintro j _ g' hj ⟨G,_⟩
          exact WOL.mv rfl <| WOL.fa rfl (fa_of fo1114_1) <| WOL.ld rfl (load_one tp29 (B8.hx G) rfl) <| WOL.len rfl (sV.hx G) u29 <| WOL.bi rfl rfl (by rw [lV];rfl) <| WOL.nil fun x k => ⟨rfl,k.sub ⟨rfl,rfl,rfl,rfl,trivial⟩⟩
        · rintro j _ g' hj q
          exact WOL.mv rfl <| WOL.inc rfl (by omega) <| WOL.as rfl <| WOL.nil fun x k => ⟨q,k.sub ⟨rfl,rfl,rfl,trivial⟩⟩
        · rintro j _ g' hj ⟨G,z0⟩
          have ya:V[j]? = some (V.getD j 0):=by rw [List.getD_eq_getElem?_getD,List.getElem?_eq_getElem (by omega)];rfl
          have yb:L'[j]? = some (L'.getD j 0):=by rw [List.getD_eq_getElem?_getD,List.getElem?_eq_getElem hj];rfl
          have on:=fun e => agree_succ z0 e
          have off:=agree_not (A:=V) (B:=L') (KA:=knownL T L'.length) (KB:=knownL S' L'.length) (j:=j) hj
          rw [knownL_getD hj,knownL_getD hj] at on off
          refine WL.sr <| WOL.ld rfl (load_row tp1114 (B8.hx G) rfl (Nat.le_of_ble_eq_true rfl)) <| WOL.mv rfl <| WOL.cl2 rfl rfl rfl ((k1154 H (sH.hx G) (by omega)).mono ?_)
          rintro v g1 ⟨rfl,G1⟩
          have Z1:=G.trans G1
          generalize knownB T (j:Nat) = ka at *
          cases ka with
          | false =>
            refine WOL.mv rfl <| WOL.skp (b:=false) rfl rfl <| WOL.skp (b:=false) rfl rfl <| WOL.skp (b:=false) rfl rfl <| WOL.pkf rfl rfl <| WOL.mv rfl <| WOL.skp (b:=false) rfl rfl <| WOL.skp (b:=false) rfl rfl <| WOL.skp (b:=false) rfl rfl <| WOL.skp (b:=false) rfl rfl <| WOL.skp (b:=false) rfl rfl <| WOL.skp (b:=false) rfl rfl <| WOL.skp (b:=false) rfl rfl <| WOL.skp (b:=false) rfl rfl <| WOL.skp (b:=false) rfl rfl <| WOL.skp (b:=false) rfl rfl <| WOL.skp (b:=false) rfl rfl <| WOL.pkf rfl rfl <| WOL.nil <| WL.no rfl <| WL.skip fun a q => ⟨(),⟨Z1,on rfl⟩,q.sub ⟨rfl,rfl,rfl,trivial⟩⟩
          | true =>
            refine WOL.mv rfl <| WOL.now (b:=true) rfl rfl <| WOL.ld rfl (load_row tp1114 (B5.hx Z1) rfl (Nat.le_of_ble_eq_true rfl)) <| WOL.now (b:=true) rfl rfl <| WOL.mv rfl <| WOL.now (b:=true) rfl rfl <| WOL.cl2 rfl rfl rfl ((k1154 H ((r'.hx Y2).hx Z1).s (by omega)).mono ?_)
            rintro v g2 ⟨rfl,G2⟩
            have Z2':=Z1.trans G2
            generalize knownB S' (j:Nat) = kb at *
            cases kb with
            | false =>
              refine WOL.pkt rfl rfl <| WOL.mv rfl <| WOL.skp (b:=false) rfl rfl <| WOL.skp (b:=false) rfl rfl <| WOL.skp (b:=false) rfl rfl <| WOL.skp (b:=false) rfl rfl <| WOL.skp (b:=false) rfl rfl <| WOL.skp (b:=false) rfl rfl <| WOL.skp (b:=false) rfl rfl <| WOL.skp (b:=false) rfl rfl <| WOL.skp (b:=false) rfl rfl <| WOL.skp (b:=false) rfl rfl <| WOL.skp (b:=false) rfl rfl <| WOL.pkf rfl rfl <| WOL.nil <| WL.no rfl <| WL.skip fun a q => ⟨(),⟨Z2',on rfl⟩,q.sub ⟨rfl,rfl,rfl,trivial⟩⟩
            | true =>
              obtain ⟨_,_,ca,fa,wa,ela,g1a,g2a,g3a,g4a,g5a⟩:=(sV.hx Z2').at eI u29 tp3 ya .i64
              have gxa:=g5a 0 (by decide)
              rw [Nat.add_zero] at gxa
              obtain ⟨_,_,cb,fb,wb,elb,g1b,g2b,g3b,g4b,g5b⟩:=((r'.hx Y2).hx Z2').l.at eI u29 tp3 yb .i64
              have gxb:=g5b 0 (by decide)
              rw [Nat.add_zero] at gxb
              refine WOL.pkt rfl rfl <| WOL.mv rfl <| WOL.now (b:=true) rfl rfl <| WOL.fa rfl (fa_of fo1114_1) <| WOL.now (b:=true) rfl rfl <| WOL.ld rfl (load_one tp29 (B8.hx Z2') rfl) <| WOL.now (b:=true) rfl rfl <| WOL.mv rfl <| WOL.now (b:=true) rfl rfl <| WOL.ix rfl rfl g1a <| WOL.now (b:=true) rfl rfl <| WOL.ld rfl (load_one tp3 g2a gxa) <| WOL.now (b:=true) rfl rfl <| WOL.fa rfl (fa_of fo1114_1) <| WOL.now (b:=true) rfl rfl <| WOL.ld rfl (load_one tp29 (B5.hx Z2') rfl) <| WOL.now (b:=true) rfl rfl <| WOL.mv rfl <| WOL.now (b:=true) rfl rfl <| WOL.ix rfl rfl g1b <| WOL.now (b:=true) rfl rfl <| WOL.ld rfl (load_one tp3 g2b gxb) <| WOL.now (b:=true) rfl rfl ?_
              by_cases e:V.getD j 0 = L'.getD j 0
              · refine WOL.bf rfl rfl rfl (bne_eq_false_iff_eq.2 e) <| WOL.pkt rfl rfl <| WOL.nil <| WL.no rfl <| WL.skip fun a q => ⟨(),⟨Z2',on ?_⟩,q.sub ⟨rfl,rfl,rfl,trivial⟩⟩
                rw [e,bne_self_eq_false];rfl
              · refine WOL.bt rfl rfl rfl (bne_iff_ne.2 e) <| WOL.pkt rfl rfl <| WOL.nil <| WL.yes rfl <| WL.sr <| WOL.as rfl <| WOL.as rfl <| WOL.nil <| WL.ret (WL.end_ rfl ⟨?_,Y2.trans Z2'⟩)
                rw [off (by rw [bne_iff_ne.2 e];rfl)];rfl
        · rintro _ g' ⟨G,z0⟩
          refine WL.sr <| WOL.as rfl <| WOL.as rfl <| WOL.nil <| WL.ret (WL.end_ rfl ⟨?_,Y2.trans G⟩)
          rw [z0];rfl
      · rw [if_pos (fun c => cl c.2)]
        exact WOL.bt rfl rfl rfl (bne_iff_ne.2 (by omega)) <| WOL.pkf rfl rfl <| WOL.nil <| WL.yes rfl <| WL.sr <| WOL.as rfl <| WOL.as rfl <| WOL.nil <| WL.ret (WL.end_ rfl ⟨rfl,Y2⟩)
    · rw [if_pos (fun c => cn c.1)]
      exact WOL.bt rfl rfl rfl (bne_iff_ne.2 cn) <| WOL.mv rfl <| WOL.skp (b:=true) rfl rfl <| WOL.skp (b:=true) rfl rfl <| WOL.skp (b:=true) rfl rfl <| WOL.skp (b:=true) rfl rfl <| WOL.skp (b:=true) rfl rfl <| WOL.skp (b:=true) rfl rfl <| WOL.skp (b:=true) rfl rfl <| WOL.pkt rfl rfl <| WOL.nil <| WL.yes rfl <| WL.sr <| WOL.as rfl <| WOL.as rfl <| WOL.nil <| WL.ret (WL.end_ rfl ⟨rfl,Y2⟩)
end
end Go.Tidy
namespace Go.Tidy
open Go Go.Proofs Tab
variable {tp:TProg}
theorem endE_ok {p q:Nat} {X:List Int} (e:endE p q X = 0):X.length = p + q ∧ ∀ x,x ∈ X → largeB x = false:=by
 have lX:X.length = p + q:=by
  unfold endE at e
  cases c:((X.length:Int) != (p:Int) + q) with
  | true => rw [c] at e;cases e
  | false => have:=bne_eq_false_iff_eq.1 c;omega
 refine ⟨lX,fun x hx => ?_⟩
 unfold endE at e
 rw [show ((X.length:Int) != (p:Int) + q) = false from bne_eq_false_iff_eq.2 (by omega)] at e
 have:=firstNZ_zero e (readE x) (List.mem_map_of_mem hx)
 unfold largeB
 rw [this];rfl
section
variable {P:Program} {a:Regs} {h:TH} {K:Regs → TH → Prop} {rest:List TOper} {d:Option Tmp} {ty:TypeId} {i:Nat} {x y:Operand} {t u:TypeId}
theorem eqT_bool {b c:Bool}:eqT P t (.bool b) (.bool c) = none:=by
 unfold eqT ptrEq nilEq
 cases P.underlying t with
 | none => rfl
 | some d => cases d <;> rfl
theorem pv_eqB {b:Bool} (hu:P.underlying t = some .bool):pv P (Op.equal t (.bool b) (.bool b)) = some true:=by
 show pv P (Op.equalIn (9999 + 1) t _ _) = _
 rw [Op.equalIn,pv_bind,pv_underlying hu]
 simp [pv_pure]
theorem WO.eqb {b:Bool} (hu:P.underlying t = some .bool) (hx:getO a x = some (.bool b)) (hy:getO a y = some (.bool b)) (w:WO P tp rest (a.put d (.bool true)) h K):WO P tp (⟨d,.binOp .eql t x y u,ty,none,[],i⟩ :: rest) a h K:=by
 have ex:=getO_eval hx
 have ey:=getO_eval hy
 refine WO.plainly rfl rfl rfl (by simp [fastOp,fastBin,ex,ey]) (by simp [valueOp,ex,ey,eqT_bool]) (plainOp_of (by rfl) (fun q hq => ?_) ?_ rfl) w
 ·simp only [Op.operands] at hq
  simp at hq
  rcases hq with rfl | rfl
  ·rw [ex];rfl
  ·rw [ey];rfl
 ·simp [toOper,execOp,pv_bind,pv_map,pv_pure,ex,ey,eqGuard,binOp,pv_eqB hu]
theorem WOL.eqb {L:Rg} {b:Bool} (hu:P.underlying t = some .bool) (hx:getL L x = some (.bool b)) (hy:getL L y = some (.bool b)) (w:∀ a,Kn (putL L d (.bool true)) a → WO P tp rest a h K):∀ a,Kn L a → WO P tp (⟨d,.binOp .eql t x y u,ty,none,[],i⟩ :: rest) a h K :=
 fun _ k => WO.eqb hu (k.o hx) (k.o hy) (k.nx w)
end
theorem u4b:Tryz.prog.underlying 4 = some .bool:=by kernel_rfl
def resO (n a b:Int) (L:List Int) (S:List (Int × Int)) (X:List Int):Int × List Int × List (Int × Int):=sumO (resTot n a b L S X) (resJ a.toNat b.toNat X (zipK L S L.length) L.length).2
theorem resO_no {n a b:Int} {L:List Int} {S:List (Int × Int)} {X:List Int} {e:Int} (h:resTot n a b L S X = e) (he:e ≠ 0):resO n a b L S X = (e,[],[]):=by
 unfold resO
 rw [h,sumO_err he]
theorem resO_len {n a b:Int} {L:List Int} {S:List (Int × Int)} {X:List Int} (l1:L.length ≤ 900000) (lX:X.length ≤ 100000):(resO n a b L S X).2.1.length ≤ 1000000 ∧ (resO n a b L S X).2.2.length ≤ 1000000:=by
 by_cases e:resTot n a b L S X = 0
 ·have z:(resJ a.toNat b.toNat X (zipK L S L.length) L.length).1 = 0:=by
   unfold resTot at e
   by_cases e1:firstNZ [chordE a b,traceE n L S] ≠ 0
   ·rw [if_pos e1] at e;exact absurd e e1
   rw [if_neg e1] at e
   by_cases e2:endE a b X ≠ 0
   ·rw [if_pos e2] at e;exact absurd e e2
   rw [if_neg e2] at e
   by_cases e3:rngE n a b L.length ≠ 0
   ·rw [if_pos e3] at e;exact absurd e e3
   rw [if_neg e3] at e
   exact e
  have ln:=resJ_len (p:=a.toNat) (q:=b.toNat) (E:=X) (C:=zipK L S L.length) L.length z
  unfold resO
  exact ⟨Nat.le_trans sumO_l1 (by omega),Nat.le_trans sumO_l2 (by omega)⟩
 ·rw [resO_no rfl e]
  exact ⟨Nat.zero_le _,Nat.zero_le _⟩
section
variable {h h0 hb:TH} {a b n1 n2 m1:Int} {v1 v2 w1 w2 w:Value} {L1 L2 X:List Int} {S1 S2:List (Int × Int)} {o1:Int × List Int × List (Int × Int)} {o2:Bool × Int} {c3 c4 c7 c13:Nat}
def cd1103c:TCode:=.seq (.reg r1103_15) .ret
def cd1103b:TCode:=.seq (.seq (.reg r1103_13) (.cond (.tmp 85) (.reg r1103_14) .skip)) cd1103c
def cd1103a:TCode:=.seq (.reg r1103_9) (.seq (.reg r1103_10) (.seq (.seq (.reg r1103_11) (.cond (.tmp 75) (.reg r1103_12) .skip)) cd1103b))
set_option maxHeartbeats 4000000 in
set_option maxRecDepth 10000 in
theorem k1103c (H:Has tp) (K:Awk tp) (X0:HX h0 h) (f:Free0 h0.next h0) (l1:o1.2.1.length ≤ 1000000) (l2:o1.2.2.length ≤ 1000000)
  (C7:CelA 31 m1 o1 h c7) (C13:CelA 27 m1 o1 h c13) :
  ∀ r,Kn [(7,ptr c7),(8,zi o1.1),(9,.bool o2.1),(10,zi o2.2),(11,zi o1.1),(12,zi o2.2),(13,ptr c13),(14,.bool o2.1)] r → W Tryz.prog tp false cd1103c r h (Fin Tryz.prog [.tmp 6] fun v _ => v = .bool true):=by
 unfold cd1103c
 obtain ⟨_,_,A,A',_,_,_,_,_,_,_,_,_,_,_,_,_,_,rfl,rfl,w⟩:=celOne H f X0 C7 C13 l1 l2
 refine WL.sr <| WOL.ld rfl (load_row tp1117 A rfl (Nat.le_of_ble_eq_true rfl)) <| WOL.mv rfl <| WOL.mv rfl <| WOL.ld rfl (load_row tp1114 A' rfl (Nat.le_of_ble_eq_true rfl)) <| WOL.cl4 rfl rfl rfl rfl rfl (w.mono ?_)
 rintro v g5 ⟨rfl,X5⟩
 refine WOL.mv rfl <| WOL.now (b:=true) rfl rfl <| WOL.mv rfl <| WOL.now (b:=true) rfl rfl <| WOL.mv rfl <| WOL.now (b:=true) rfl rfl <| WOL.eqb u4b rfl rfl <| WOL.pkt rfl rfl <| WOL.mv rfl <| WOL.now (b:=true) rfl rfl <| WOL.mv rfl <| WOL.now (b:=true) rfl rfl <| WOL.mv rfl <| WOL.now (b:=true) rfl rfl <| WOL.bt rfl rfl rfl (beq_self_eq_true _) <| WOL.pkt rfl rfl <| WOL.mv rfl <| WOL.now (b:=true) rfl rfl <| WOL.cl0 rfl ((k11t K g5).mono ?_)
 rintro v g8 ⟨rfl,rfl⟩
 exact WOL.pkt rfl rfl <| WOL.as rfl <| WOL.nil <| WL.ret (WL.end_ rfl rfl)
set_option maxHeartbeats 4000000 in
set_option maxRecDepth 10000 in
theorem k1103b (H:Has tp) (K:Awk tp) (X0:HX h0 h) (f:Free0 h0.next h0) (A3:At h c3 (.cells [zi a,zi b] true true 23)) (A4:At h c4 (.cells [zi n1,v1,v2,zi n2,w1,w2] true true 28)) (r1:TrcH h v1 v2 L1 S1) (r2:TrcH h w1 w2 L2 S2) (hL:L1.length ≤ 900000) (hS:S1.length ≤ 900000) (hL2:L2.length ≤ 900000) (hS2:S2.length ≤ 900000) (l1:o1.2.1.length ≤ 1000000) (l2:o1.2.2.length ≤ 1000000)
  (ho:o2 = agnO n2 a b L2 S2 n1 L1 S1) (C7:CelA 31 m1 o1 h c7) (C13:CelA 27 m1 o1 h c13) :
  ∀ y,Kn [(3,ptr c3),(4,ptr c4),(7,ptr c7),(8,zi o1.1),(9,.bool o2.1),(10,zi o2.2),(11,zi o1.1),(12,zi (firstNZ [chordE a b,traceE n2 L2 S2,traceE n1 L1 S1])),(13,ptr c13),(14,.bool false)] y → W Tryz.prog tp false cd1103b y h (Fin Tryz.prog [.tmp 6] fun v _ => v = .bool true):=by
 unfold cd1103b
 unfold agnO at ho
 generalize hE:firstNZ [chordE a b,traceE n2 L2 S2,traceE n1 L1 S1] = E at *
 by_cases e0:E = 0
 ·subst e0
  have all:=firstNZ_zero hE
  obtain ⟨⟨q1,q2⟩,q3,q4,q5,q6,q7⟩:=trace_ok (all (traceE n2 L2 S2) (by simp))
  obtain ⟨p1,p2,p3,p4⟩:=chord_ok (all (chordE a b) (by simp))
  obtain ⟨p,rfl⟩:∃ p:Nat,a = p:=⟨a.toNat,by omega⟩
  obtain ⟨q,rfl⟩:∃ q:Nat,b = q:=⟨b.toNat,by omega⟩
  rw [if_neg (by decide),Int.toNat_natCast,Int.toNat_natCast] at ho
  refine WL.seq <| WL.sr <| WOL.mv rfl <| WOL.bt rfl rfl rfl rfl <| WOL.nil <| WL.yes rfl <| WL.reg <| WOL.ld rfl (load_row tp1112 A3 rfl (Nat.le_of_ble_eq_true rfl)) <| WOL.ix rfl rfl ix1115_1 <| WOL.ld rfl (load_row tp1114 A4 (l:=[zi n2,w1,w2]) rfl (Nat.le_of_ble_eq_true rfl)) <| WOL.ix rfl rfl ix1115_0 <| WOL.ld rfl (load_row tp1114 A4 (l:=[zi n1,v1,v2]) rfl (Nat.le_of_ble_eq_true rfl)) <| WOL.cl3 rfl rfl rfl rfl ((k1140 (n:=n2) (n':=n1) H r2 r1 (by omega) (by omega) (by omega) (by omega) q3 q1 q2 hL2 hS2 hS (f.on X0)).mono ?_)
  rintro v g ⟨rfl,X⟩
  rw [← ho]
  exact WOL.mv rfl <| WOL.ex rfl rfl <| WOL.ex rfl rfl <| WOL.as rfl <| WOL.as rfl <| WOL.nil <| kto (k1103c H K (X0.trans X) f l1 l2 (C7.hx X) (C13.hx X)) ⟨rfl,rfl,rfl,rfl,rfl,rfl,rfl,rfl,trivial⟩
 ·rw [if_pos e0] at ho
  subst ho
  refine WL.seq <| WL.sr <| WOL.mv rfl <| WOL.bf rfl rfl rfl (beq_eq_false_iff_ne.2 e0) <| WOL.nil <| WL.no rfl <| WL.skip ?_
  exact kto (k1103c (o2:=(false,E)) H K X0 f l1 l2 C7 C13) ⟨rfl,rfl,rfl,rfl,rfl,rfl,rfl,rfl,trivial⟩
set_option maxHeartbeats 4000000 in
set_option maxRecDepth 10000 in
theorem k1103a (H:Has tp) (K:Awk tp) (X0:HX h0 h) (f:Free0 h0.next h0) (A3:At h c3 (.cells [zi a,zi b] true true 23)) (A4:At h c4 (.cells [zi n1,v1,v2,zi n2,w1,w2] true true 28)) (r1:TrcH h v1 v2 L1 S1) (r2:TrcH h w1 w2 L2 S2) (s:SlL encI 1 h w X) (hL:L1.length ≤ 900000) (hS:S1.length ≤ 900000) (hL2:L2.length ≤ 900000) (hS2:S2.length ≤ 900000) (lX:X.length ≤ 100000) {E:Int}
    (hE:E = if firstNZ [chordE a b,traceE n1 L1 S1] ≠ 0 then firstNZ [chordE a b,traceE n1 L1 S1] else endE a b X)
    (ho:o2 = agnO n2 a b L2 S2 n1 L1 S1) (C7:CelA 31 (n1 - a) (resO n1 a b L1 S1 X) h c7) :
    ∀ y,Kn [(2,w),(3,ptr c3),(4,ptr c4),(7,ptr c7),(8,zi (resO n1 a b L1 S1 X).1),(9,.bool o2.1),(10,zi o2.2),(11,zi E),(12,zi (firstNZ [chordE a b,traceE n2 L2 S2,traceE n1 L1 S1]))] y → W Tryz.prog tp false cd1103a y h (Fin Tryz.prog [.tmp 6] fun v _ => v = .bool true):=by
  unfold cd1103a
  obtain ⟨l1,l2⟩:=resO_len (n:=n1) (a:=a) (b:=b) (L:=L1) (S:=S1) (X:=X) hL lX
  obtain ⟨b1,k1,e1,_⟩:=id s
  subst e1
  refine WL.sr <| WOL.al tp1114 fun h1 N1 => WOL.nil ?_
  refine WL.sr <| WOL.as rfl <| WOL.nil ?_
  have x0:=X0.next
  have n1':=N1.next
  have Y1:=X0.trans N1.hx
  by_cases e0:E = 0
  · rw [e0]
    have f0:firstNZ [chordE a b,traceE n1 L1 S1] = 0:=by
      by_cases c:firstNZ [chordE a b,traceE n1 L1 S1] ≠ 0
      · rw [if_pos c] at hE;exact absurd (hE.symm.trans e0) c
      · exact Classical.not_not.1 c
    rw [if_neg (fun c => c f0),e0] at hE
    have all:=firstNZ_zero f0
    obtain ⟨⟨q1,q2⟩,q3,q4,q5,q6,q7⟩:=trace_ok (all (traceE n1 L1 S1) (by simp))
    obtain ⟨p1,p2,p3,p4⟩:=chord_ok (all (chordE a b) (by simp))
    have ro:resO n1 a b L1 S1 X = sumO (if rngE n1 a b L1.length ≠ 0 then rngE n1 a b L1.length else (resJ a.toNat b.toNat X (zipK L1 S1 L1.length) L1.length).1) (resJ a.toNat b.toNat X (zipK L1 S1 L1.length) L1.length).2:=by
      unfold resO resTot
      rw [if_neg (fun c => c f0),if_neg (fun c => c hE.symm)]
    obtain ⟨p,rfl⟩:∃ p:Nat,a = p:=⟨a.toNat,by omega⟩
    obtain ⟨q,rfl⟩:∃ q:Nat,b = q:=⟨b.toNat,by omega⟩
    rw [Int.toNat_natCast,Int.toNat_natCast] at ro
    obtain ⟨lq,hX⟩:=endE_ok hE.symm
    refine WL.seq <| WL.sr <| WOL.mv rfl <| WOL.bt rfl rfl rfl rfl <| WOL.nil <| WL.yes rfl <| WL.reg <| WOL.ld rfl (load_row tp1112 (A3.hx N1.hx) rfl (Nat.le_of_ble_eq_true rfl)) <| WOL.ix rfl rfl ix1115_0 <| WOL.ld rfl (load_row tp1114 (A4.hx N1.hx) (l:=[zi n1,v1,v2]) rfl (Nat.le_of_ble_eq_true rfl)) <| WOL.mv rfl <| WOL.cl3 rfl rfl rfl rfl ((k1139 (n:=n1) H (r1.hx N1.hx) (s.hx N1.hx) lq hX (by omega) (by omega) (by omega) (by omega) q3 q1 q2 hL hS (f.on Y1)).mono ?_)
    rintro v g ⟨X',R⟩
    have x1:=X'.next
    have R':=R.ans
    unfold rstE at R'
    rw [← ro] at R'
    obtain ⟨zA,y1A,y2A,rfl,iA,sA,loA,lqA,eA⟩:=R';obtain ⟨d1A,d2A,d3A,rfl⟩:=ints_form iA;obtain ⟨d4A,d5A,rfl,_⟩:=id sA
    refine WOL.mv rfl <| WOL.ex rfl rfl <| WOL.ex rfl rfl <| WOL.sto (vs:=[zi zA,.slice d1A d2A d3A,.slice d4A _ d5A]) rfl rfl tp1114 (N1.at_.hx X') rfl rfl (Nat.le_of_ble_eq_true rfl) rfl (f.hx (Y1.trans X')) (by omega) fun gA PA => WOL.as rfl <| WOL.nil ?_
    have Z:HX h gA:=PA.hx _ (N1.hx.trans X') (by omega)
    exact kto (k1103b H K (X0.trans Z) f (A3.hx Z) (A4.hx Z) (r1.hx Z) (r2.hx Z) hL hS hL2 hS2 l1 l2 ho (C7.hx Z) ⟨zA,_,_,_,_,_,_,PA.at_,iA.keep fun b x hb a => PA.oth _ _ (by have:=loA b hb;have:=a.lt;omega) (a),slC_keep sA fun b x hb a => PA.oth _ _ (by have:=lqA b hb;have:=a.lt;omega) (a),eA⟩) ⟨rfl,rfl,rfl,rfl,rfl,rfl,rfl,rfl,rfl,rfl,trivial⟩
  · have ro:resO n1 a b L1 S1 X = (E,[],[]):=by
      refine resO_no ?_ e0
      unfold resTot
      rw [hE]
      by_cases c:firstNZ [chordE a b,traceE n1 L1 S1] ≠ 0
      · rw [if_pos c,if_pos c]
      · rw [if_neg c] at hE
        rw [if_neg c,if_neg c,if_pos (by rw [← hE];exact e0)]
    rw [ro] at C7 l1 l2 ⊢
    refine WL.seq <| WL.sr <| WOL.mv rfl <| WOL.bf rfl rfl rfl (beq_eq_false_iff_ne.2 e0) <| WOL.nil <| WL.no rfl <| WL.skip ?_
    exact kto (k1103b (o1:=(E,[],[])) (m1:=n1 - a) H K Y1 f (A3.hx N1.hx) (A4.hx N1.hx) (r1.hx N1.hx) (r2.hx N1.hx) hL hS hL2 hS2 l1 l2 ho (C7.hx N1.hx) (CelA.err e0 N1.at_)) ⟨rfl,rfl,rfl,rfl,rfl,rfl,rfl,rfl,rfl,rfl,trivial⟩
end
end Go.Tidy
