/- A part of the proof. -/
import Derived.Test.YtcgodmeccmkcaaaGreatDoorPa5
import Derived.Test.YtcgodmeccmkcaaaGreatDoorPa4
set_option linter.all false
namespace Go.Tidy
open Go Go.Proofs Tab
variable {tp:TProg}
def valC (C:List (Int × Bool)):List Int:=C.map fun c => cond c.2 c.1 0
def bigC (C:List (Int × Bool)):Bool:=C.any fun c => c.2 && largeB c.1
theorem bd1114z:buildT Tryz.prog 27 [] = some (trcV 0 (.slice none 0 0) (.slice none 0 0)):=by kernel_rfl
theorem bd1114a {z:Int}:buildT Tryz.prog 27 [(0,zi z)] = some (trcV z (.slice none 0 0) (.slice none 0 0)):=by kernel_rfl
theorem fo1207_0:fieldOff Tryz.prog 135 0 = some 0:=by kernel_rfl
theorem fo1207_1:fieldOff Tryz.prog 135 1 = some 1:=by kernel_rfl
structure MadeJ (h:TH) (n:Int) (C:List (Int × Bool)) (j:Nat) (s:Value × Value) (g:TH):Prop where
 X:HX h g
 A4:At g h.next (.cells [zi 0,.slice none 0 0,.slice none 0 0] true true 27)
 A6:At g (h.next + 1) (.cells [zi n,s.1,s.2] true true 27)
 O1:OwnL encI (h.next + 2) g s.1 3 (valC (C.take j))
 O2:OwnL encS (h.next + 2) g s.2 103 (holesN (C.map fun c => c.2) j)
 ne:∀ z,bl s.1 = some z → bl s.2 ≠ some z
 big:bigC (C.take j) = false
section
variable {h g:TH} {n:Int} {v:Value} {C:List (Int × Bool)} {j:Nat}
theorem valC_succ {c:Int × Bool} (hc:C[j]? = some c):valC (C.take (j + 1)) = valC (C.take j) ++ [cond c.2 c.1 0]:=by
 have hj:=(List.getElem?_eq_some_iff.1 hc).1
 rw [List.take_succ_eq_append_getElem hj,(List.getElem?_eq_some_iff.1 hc).2]
 unfold valC
 rw [List.map_append]
 rfl
theorem bigC_succ {c:Int × Bool} (hc:C[j]? = some c):bigC (C.take (j + 1)) = (bigC (C.take j) || (c.2 && largeB c.1)):=by
 have hj:=(List.getElem?_eq_some_iff.1 hc).1
 rw [List.take_succ_eq_append_getElem hj,(List.getElem?_eq_some_iff.1 hc).2]
 unfold bigC
 rw [List.any_append]
 simp
set_option maxHeartbeats 4000000 in
set_option maxRecDepth 10000 in
theorem k1188 (H:Has tp) (s:SlL encC 2 h v C) (hl:C.length ≤ 900000) (f:Free0 h.next h):CallW Tryz.prog tp (.func (.func 88) #[] #[]) #[zi n,v] h fun v h' => HX h h' ∧ ((bigC C = true ∧ v = .tuple #[trcV 0 (.slice none 0 0) (.slice none 0 0),zi 4]) ∨ (bigC C = false ∧ ∃ w1 w2,v = .tuple #[trcV n w1 w2,zi 0] ∧ OwnL encI h.next h' w1 3 (valC C) ∧ OwnL encS h.next h' w2 103 (holesOf (C.map fun c => c.2)))):=by
  refine CallW.fnL (H.fn 88 f1188 rfl rfl) ?_
  refine WL.sr <| WOL.al tp1114 fun h1 N1 => WOL.as rfl <| WOL.nil <| keep [(0,_),(1,_),(4,_)] ⟨rfl,rfl,rfl,trivial⟩ ?_
  have n1:=N1.next
  refine WL.sr <| WOL.mv rfl <| WOL.bd rfl bd1114a <| WOL.al tp1114 fun h2 N2 => ?_
  have n2:=N2.next
  have X2:=N1.hx.trans N2.hx
  refine WOL.sto (vs:=[zi n,.slice none 0 0,.slice none 0 0]) rfl rfl tp1114 N2.at_ rfl rfl (Nat.le_of_ble_eq_true rfl) rfl (f.hx X2) (by omega) fun h3 P3 => WOL.nil <| keep [(0,_),(1,_),(4,_),(6,_)] ⟨rfl,rfl,rfl,rfl,trivial⟩ ?_
  have n3:=P3.next
  have X3:HX h h3:=P3.hx _ X2 (by omega)
  have A4:=P3.oth _ _ (by omega) (N1.at_.hx N2.hx)
  have A6:At h3 (h.next + 1) (.cells [zi n,.slice none 0 0,.slice none 0 0] true true 27):=by rw [← n1];exact P3.at_
  rw [n1]
  refine WL.seq <| WL.sr <| WOL.as rfl <| WOL.nil <| keep [(0,_),(1,_),(4,_),(6,_),(7,_)] ⟨rfl,rfl,rfl,rfl,rfl,trivial⟩ ?_
  have lB:(C.map fun c => c.2).length = C.length:=List.length_map ..
  refine WL.forz (α:=Value × Value) C.length (MadeJ h n C) (fun j _ => [(0,zi n),(1,v),(4,ptr h.next),(6,ptr (h.next + 1)),(7,zi (j:Nat))]) (fun j _ => [(0,zi n),(1,v),(4,ptr h.next),(6,ptr (h.next + 1)),(7,zi (j:Nat))]) (.slice none 0 0,.slice none 0 0) ⟨X3,A4,A6,.inl ⟨rfl,rfl⟩,.inl ⟨rfl,rfl⟩,fun z e => (by cases e),rfl⟩ ⟨rfl,rfl,rfl,rfl,rfl,trivial⟩ ?_ ?_ (fun _ _ _ => ⟨rfl,rfl,rfl,rfl,rfl,trivial⟩) ?_ ?_
  · rintro j w g hj q
    exact WOL.mv rfl <| WOL.mv rfl <| WOL.len rfl (s.hx q.X) u1205 <| WOL.bi rfl rfl rfl <| WOL.nil fun a q => ⟨rfl,q.sub ⟨rfl,rfl,rfl,rfl,rfl,rfl,trivial⟩⟩
  · rintro j w g hj q
    exact WOL.mv rfl <| WOL.inc rfl (by omega) <| WOL.as rfl <| WOL.nil fun a k => ⟨q,k.sub ⟨rfl,rfl,rfl,rfl,rfl,trivial⟩⟩
  · rintro j ⟨w1,w2⟩ g hj ⟨X,A4,A6,O1,O2,ne,big⟩
    have hc:C[j]? = some C[j]:=List.getElem?_eq_getElem hj
    generalize C[j] = c at hc
    obtain ⟨x,kn⟩:=c
    have hB:(C.map fun c => c.2).getD j false = kn:=by rw [List.getD_eq_getElem?_getD,List.getElem?_map,hc];rfl
    have vs:=valC_succ hc
    have bs:=bigC_succ hc
    rw [big,Bool.false_or] at bs
    have lv:(valC (C.take j)).length ≤ j:=by unfold valC;rw [List.length_map,List.length_take];omega
    have lh:=holesN_len (C.map fun c => c.2) j
    have xg:=X.next
    have l4:=A4.lt
    have l6:=A6.lt
    have lw1:=fun z (hz:bl w1 = some z) => O1.lt hz
    have lw2:=fun z (hz:bl w2 = some z) => O2.lt hz
    obtain ⟨b,o,cc,fix,wr,el,g1,g2,g3,g4,g5⟩:=(s.hx X).at eC u1205 tp1207 hc .i64
    have c0:=g5 0 (by decide)
    have c1:=g5 1 (by decide)
    rw [Nat.add_zero] at c0
    replace c0:cc[o]? = some (zi x):=c0
    replace c1:cc[o + 1]? = some (.bool kn):=c1
    refine WL.seq <| WL.sr <| WOL.mv rfl <| WOL.mv rfl <| WOL.ix rfl rfl g1 <| WOL.fa rfl (fa_of fo1207_1) <| WOL.ld rfl (load_one tp4 g2 c1) <| WOL.nil <| keep [(0,_),(1,_),(4,_),(6,_),(7,_),(21,_)] ⟨rfl,rfl,rfl,rfl,rfl,rfl,trivial⟩ ?_
    cases kn with
    | true =>
      replace vs:valC (C.take (j + 1)) = valC (C.take j) ++ [x]:=vs
      replace bs:bigC (C.take (j + 1)) = largeB x:=bs
      refine WL.yes rfl <| WL.seq <| WL.sr <| WOL.mv rfl <| WOL.mv rfl <| WOL.ix rfl rfl g1 <| WOL.fa rfl (fa_of fo1207_0) <| WOL.ld rfl (load_one tp3 g2 c0) <| WOL.cl1 rfl rfl ((k1187 H x _).mono ?_)
      rintro u g' ⟨rfl,rfl⟩
      refine WOL.bi (v:=.bool (largeB x)) rfl rfl rfl <| WOL.nil <| keep [(0,_),(1,_),(4,_),(6,_),(7,_),(28,_)] ⟨rfl,rfl,rfl,rfl,rfl,rfl,trivial⟩ ?_
      cases hb:largeB x with
      | true =>
        rw [hb] at bs
        have bC:bigC C = true:=by
          unfold bigC
          rw [List.any_eq_true]
          exact ⟨(x,true),List.mem_of_getElem? hc,by show (true && largeB x) = true;rw [hb];rfl⟩
        refine WL.yes rfl <| WL.sr <| WOL.bd rfl bd1114z <| WOL.sto (vs:=[zi 0,.slice none 0 0,.slice none 0 0]) rfl rfl tp1114 A4 rfl rfl (Nat.le_of_ble_eq_true rfl) rfl (f.hx X) (Nat.le_refl _) fun i1 M1 => WOL.as rfl <| WOL.nil ?_
        exact WL.ret (WL.endC1 rfl rfl (load_row tp1114 M1.at_ rfl (Nat.le_of_ble_eq_true rfl)) ⟨M1.hx _ X (Nat.le_refl _),.inl ⟨bC,rfl⟩⟩)
      | false =>
        rw [hb] at bs
        refine WL.no rfl <| WL.skip ?_
        refine WL.sr <| WOL.fa rfl (fa_of fo1114_1) <| WOL.ld rfl (load_one tp29 A6 rfl) <| WOL.mv rfl <| WOL.mv rfl <| WOL.ix rfl rfl g1 <| WOL.fa rfl (fa_of fo1207_0) <| WOL.ld rfl (load_one tp3 g2 c0) <| WOL.bs1 rfl u29 tp3 rfl fun i1 M1 => ?_
        have m1:=M1.next
        obtain ⟨w',i2,ap,O1',x2,y2,b2,m2⟩:=own_push (sT:=24) (x:=x) eI u29 tp3 (O1.hx M1.hx) (SlC.own (sz:=1) (m:=1) rfl M1.at_) ((f.hx (X.trans M1.hx)).up (by omega)) (by omega) (by omega)
        obtain ⟨z5,e5⟩:=OwnF.form (Or.inl O1')
        have A6':=y2 _ _ (fun e => by have:=lw1 _ e;omega) (A6.hx M1.hx)
        have A4':=y2 _ _ (fun e => by have:=lw1 _ e;omega) (A4.hx M1.hx)
        refine WOL.ap rfl rfl ap <| WOL.fa rfl (fa_of fo1114_1) <| WOL.sto (vs:=[w']) rfl rfl tp29 A6' (by rw [e5];rfl) rfl (Nat.le_of_ble_eq_true rfl) (by rw [e5];rfl) (f.hx (x2 _ (X.trans M1.hx) (by omega))) (by omega) fun i3 M3 => WOL.nil ?_
        refine WL.exit fun a q => ⟨(w',w2),⟨M3.hx _ (x2 _ (X.trans M1.hx) (by omega)) (by omega),M3.oth _ _ (by omega) A4',M3.at_,?_,?_,?_,bs⟩,q.sub ⟨rfl,rfl,rfl,rfl,rfl,trivial⟩⟩
        · rw [vs]
          exact O1'.keep fun z y hz a => M3.oth _ _ (by have:=O1'.lt hz;omega) a
        · show OwnL encS (h.next + 2) i3 w2 103 (hstep (C.map fun c => c.2) (holesN (C.map fun c => c.2) j) j)
          unfold hstep
          rw [if_pos hB]
          exact (O2.hx M1.hx).keep fun z y hz a => M3.oth _ _ (by have:=lw2 z hz;omega) (y2 z y (fun e => ne z e hz) a)
        · intro z hz e
          have e1:z = i1.next:=Option.some.inj (hz.symm.trans b2)
          have:=lw2 z e
          omega
    | false =>
      replace vs:valC (C.take (j + 1)) = valC (C.take j) ++ [0]:=vs
      replace bs:bigC (C.take (j + 1)) = false:=bs
      have he:=hstep_ext (C.map fun c => c.2) j hB
      refine WL.no rfl <| WL.skip ?_
      refine WL.sr <| WOL.fa rfl (fa_of fo1114_1) <| WOL.ld rfl (load_one tp29 A6 rfl) <| WOL.bs1 (v:=zi 0) rfl u29 tp3 rfl fun i1 M1 => ?_
      have m1:=M1.next
      obtain ⟨w',i2,ap,O1',x2,y2,b2,m2⟩:=own_push (sT:=24) (x:=0) eI u29 tp3 (O1.hx M1.hx) (SlC.own (sz:=1) (m:=1) rfl M1.at_) ((f.hx (X.trans M1.hx)).up (by omega)) (by omega) (by omega)
      obtain ⟨z5,e5⟩:=OwnF.form (Or.inl O1')
      have A6':=y2 _ _ (fun e => by have:=lw1 _ e;omega) (A6.hx M1.hx)
      have A4':=y2 _ _ (fun e => by have:=lw1 _ e;omega) (A4.hx M1.hx)
      refine WOL.ap rfl rfl ap <| WOL.fa rfl (fa_of fo1114_1) <| WOL.sto (vs:=[w']) rfl rfl tp29 A6' (by rw [e5];rfl) rfl (Nat.le_of_ble_eq_true rfl) (by rw [e5];rfl) (f.hx (x2 _ (X.trans M1.hx) (by omega))) (by omega) fun i3 M3 => WOL.nil <| keep [(0,_),(1,_),(4,_),(6,_),(7,_)] ⟨rfl,rfl,rfl,rfl,rfl,trivial⟩ ?_
      have m3:=M3.next
      have X3:HX h i3:=M3.hx _ (x2 _ (X.trans M1.hx) (by omega)) (by omega)
      have B4:=M3.oth _ _ (by omega) A4'
      have B6:At i3 (h.next + 1) (.cells [zi n,w',w2] true true 27):=M3.at_
      have lw':=fun z (hz:bl w' = some z) => O1'.lt hz
      have nw:∀ z,bl w' = some z → z = i1.next:=fun z hz => Option.some.inj (hz.symm.trans b2)
      replace O1':=O1'.keep (h':=i3) fun z y hz a => M3.oth _ _ (by have:=lw' z hz;omega) a
      rw [← vs] at O1'
      replace O2:OwnL encS (h.next + 2) i3 w2 103 (holesN (C.map fun c => c.2) j):=(O2.hx M1.hx).keep fun z y hz a => M3.oth _ _ (by have:=lw2 z hz;omega) (y2 z y (fun e => ne z e hz) a)
      have eh:holesN (C.map fun c => c.2) (j + 1) = extS (holesN (C.map fun c => c.2) j) j:=he
      generalize holesN (C.map fun c => c.2) j = acc at *
      have pushH:extS acc j = acc ++ [((j:Int),(j:Int) + 1)] → ∀ a,Kn [(0,zi n),(1,v),(4,ptr h.next),(6,ptr (h.next + 1)),(7,zi (j:Nat))] a → WO Tryz.prog tp r1188_12 a i3 (fun a g' => ∃ x,MadeJ h n C (j + 1) x g' ∧ Kn [(0,zi n),(1,v),(4,ptr h.next),(6,ptr (h.next + 1)),(7,zi (j:Nat))] a):=by
        intro ee
        refine WOL.fa rfl (fa_of fo1114_2) <| WOL.ld rfl (load_one tp44 B6 rfl) <| WOL.mv rfl <| WOL.mv rfl <| WOL.inc rfl (by omega) <| WOL.bd rfl bd48 <| WOL.bs2 rfl u44 tp48 fun i4 M4 => ?_
        have m4:=M4.next
        obtain ⟨w2',i5,ap5,O5,x5,y5,b5,m5⟩:=own_push (sT:=25) (x:=((j:Int),((j + 1:Nat):Int))) eS u44 tp48 (O2.hx M4.hx) (SlC.own (sz:=2) (m:=1) rfl M4.at_) ((f.hx (X3.trans M4.hx)).up (by omega)) (by omega) (by omega)
        obtain ⟨z6,e6⟩:=OwnF.form (Or.inl O5)
        have C6:=y5 _ _ (fun e => by have:=lw2 _ e;omega) (B6.hx M4.hx)
        have C4:=y5 _ _ (fun e => by have:=lw2 _ e;omega) (B4.hx M4.hx)
        have l5:=fun z (hz:bl w2' = some z) => O5.lt hz
        refine WOL.ap rfl rfl ap5 <| WOL.fa rfl (fa_of fo1114_2) <| WOL.sto (vs:=[w2']) rfl rfl tp44 C6 (by rw [e6];rfl) rfl (Nat.le_of_ble_eq_true rfl) (by rw [e6];rfl) (f.hx (x5 _ (X3.trans M4.hx) (by omega))) (by omega) fun i6 M6 => WOL.nil fun a q => ⟨(w',w2'),⟨M6.hx _ (x5 _ (X3.trans M4.hx) (by omega)) (by omega),M6.oth _ _ (by omega) C4,M6.at_,?_,?_,?_,bs⟩,q.sub ⟨rfl,rfl,rfl,rfl,rfl,trivial⟩⟩
        · exact (O1'.hx M4.hx).keep fun z y hz a => M6.oth _ _ (by have:=lw' z hz;omega) (y5 z y (fun e => by have:=nw z hz;have:=lw2 z e;omega) a)
        · rw [eh,ee]
          exact O5.keep fun z y hz a => M6.oth _ _ (by have:=l5 z hz;omega) a
        · intro z hz e
          have e1:=nw z hz
          have e2:z = i4.next:=Option.some.inj (e.symm.trans b5)
          omega
      refine WL.sr <| WOL.fa rfl (fa_of fo1114_2) <| WOL.ld rfl (load_one tp44 B6 rfl) <| WOL.len rfl (O2.sl eS) u44 <| WOL.as rfl <| WOL.nil <| keep [(0,_),(1,_),(4,_),(6,_),(7,_),(8,_)] ⟨rfl,rfl,rfl,rfl,rfl,rfl,trivial⟩ ?_
      by_cases hne:acc = []
      · subst hne
        refine WL.sr <| WOL.mv rfl <| WOL.bf rfl rfl rfl rfl <| WOL.mv rfl ?_
        repeat' (first
    | (refine WOL.mv rfl ?_)
    | refine WOL.now (b:=true) rfl rfl ?_ | refine WOL.now (b:=false) rfl rfl ?_
    | refine WOL.skp (b:=true) rfl rfl ?_ | refine WOL.skp (b:=false) rfl rfl ?_ | refine WOL.gu rfl rfl ?_
    | refine WOL.mv rfl ?_ | refine WOL.as rfl ?_
    | refine WOL.bi rfl rfl rfl ?_ | refine WOL.nt rfl ?_
    | refine WOL.pkt rfl rfl ?_ | refine WOL.pkf rfl rfl ?_)
        refine WOL.nil <| keep [(0,_),(1,_),(4,_),(6,_),(7,_),(60,_)] ⟨rfl,rfl,rfl,rfl,rfl,rfl,trivial⟩ ?_
        exact WL.no rfl <| WL.reg <| kto (pushH (by unfold extS;rw [if_neg (fun q => q.1 rfl)])) ⟨rfl,rfl,rfl,rfl,rfl,trivial⟩
      · have hm:0 < acc.length:=List.length_pos_iff.2 hne
        have hp:acc[acc.length - 1]? = some (acc.getD (acc.length - 1) (0,0)):=by rw [List.getD_eq_getElem?_getD,List.getElem?_eq_getElem (by omega)];rfl
        obtain ⟨bO,o3,cc3,fix3,wr3,el3,k1,k2,k3,k4,k5⟩:=(O2.sl eS).at eS u44 tp48 hp .i64
        have k6:=k5 1 (by decide)
        refine WL.sr <| WOL.mv rfl <| WOL.bt rfl rfl rfl (by first | exact decide_eq_true (by omega) | exact beq_iff_eq.2 (by omega) | exact bne_iff_ne.2 (by omega)) <| WOL.mv rfl <| WOL.now (b:=true) rfl rfl <| WOL.fa rfl (fa_of fo1114_2) <| WOL.now (b:=true) rfl rfl <| WOL.ld rfl (load_one tp44 B6 rfl) <| WOL.now (b:=true) rfl rfl <| WOL.mv rfl <| WOL.now (b:=true) rfl rfl <| WOL.sub (m:=((acc.length:Nat):Int)) (n:=1) rfl rfl (by omega) (by omega) ?_
        rw [show ((acc.length:Nat):Int) - 1 = ((acc.length - 1:Nat):Int) by omega]
        refine WOL.now (b:=true) rfl rfl <| WOL.ix rfl rfl k1 <| WOL.now (b:=true) rfl rfl <| WOL.fa rfl (fa_of fo48_1) <| WOL.now (b:=true) rfl rfl <| WOL.ld rfl (load_one tp3 k2 k6) <| WOL.now (b:=true) rfl rfl <| WOL.mv rfl <| WOL.now (b:=true) rfl rfl ?_
        by_cases hq:(acc.getD (acc.length - 1) (0,0)).2 = (j:Int)
        · have ee:extS acc j = acc.set (acc.length - 1) ((acc.getD (acc.length - 1) (0,0)).1,((j + 1:Nat):Int)):=by unfold extS;rw [if_pos ⟨hne,hq⟩];rfl
          refine WOL.bt rfl rfl rfl (beq_iff_eq.2 hq) <| WOL.pkt rfl rfl <| WOL.nil <| keep [(0,_),(1,_),(4,_),(6,_),(7,_),(8,_),(60,_)] ⟨rfl,rfl,rfl,rfl,rfl,rfl,rfl,trivial⟩ ?_
          rcases O2 with ⟨_,e0⟩ | ⟨_,bA,rfl,hbA,AO⟩
          · exact absurd e0 hne
          have la:=AO.lt
          refine WL.yes rfl <| WL.reg <| WOL.fa rfl (fa_of fo1114_2) <| WOL.ld rfl (load_one tp44 B6 rfl) <| WOL.mv rfl <| WOL.sub (m:=((acc.length:Nat):Int)) (n:=1) rfl rfl (by omega) (by omega) ?_
          rw [show ((acc.length:Nat):Int) - 1 = ((acc.length - 1:Nat):Int) by omega]
          refine WOL.mv rfl <| WOL.inc rfl (by omega) <| WOL.ix rfl rfl (indexAddr_tp u44 tp48 (by omega)) <| WOL.fa rfl (fa_of fo48_1) ?_
          refine WOL.sto (vs:=[zi ((j + 1:Nat):Int)]) rfl rfl tp3 AO rfl rfl (by rw [eS.cat_len];omega) rfl (f.hx X3) (by omega) fun i4 M4 => ?_
          have D:=M4.at_
          rw [show (0:Nat) + (acc.length - 1) * 2 + 1 = (acc.length - 1) * 2 + 1 by omega,splice_one _ _ _ (by rw [eS.cat_len];omega),set_one _ _ _ _ hp] at D
          have n4:bA ≠ h.next ∧ bA ≠ h.next + 1:=⟨by omega,by omega⟩
          have lset:(acc.set (acc.length - 1) ((acc.getD (acc.length - 1) (0,0)).1,((j + 1:Nat):Int))).length = acc.length:=List.length_set
          refine WOL.nil fun a q => ⟨(w',.slice (some ⟨bA,0,none⟩) acc.length acc.length),⟨M4.hx _ X3 (by omega),M4.oth _ _ (by omega) B4,M4.oth _ _ (by omega) B6,?_,?_,?_,bs⟩,q.sub ⟨rfl,rfl,rfl,rfl,rfl,trivial⟩⟩
          · exact O1'.keep fun z y hz a => M4.oth _ _ (by have:=nw z hz;have:=lw2 bA rfl;omega) a
          · rw [eh,ee]
            refine .inr ⟨fun e => by rw [e] at lset;simp at lset;omega,bA,by rw [lset],hbA,D⟩
          · intro z hz e
            have e1:=nw z hz
            have e2:bA = z:=Option.some.inj e
            have:=lw2 bA rfl
            omega
        · refine WOL.bf rfl rfl rfl (beq_eq_false_iff_ne.2 hq) <| WOL.pkt rfl rfl <| WOL.nil <| keep [(0,_),(1,_),(4,_),(6,_),(7,_),(60,_)] ⟨rfl,rfl,rfl,rfl,rfl,rfl,trivial⟩ ?_
          exact WL.no rfl <| WL.reg <| kto (pushH (by unfold extS;rw [if_neg (fun q => hq q.2)])) ⟨rfl,rfl,rfl,rfl,rfl,trivial⟩
  · rintro ⟨w1,w2⟩ g ⟨X,A4,A6,O1,O2,ne,big⟩
    rw [List.take_length] at big
    have O1:OwnL encI (h.next + 2) g w1 3 (valC (C.take C.length)):=O1
    rw [List.take_length] at O1
    have O2:OwnL encS (h.next + 2) g w2 103 (holesN (C.map fun c => c.2) C.length):=O2
    obtain ⟨z1,e1⟩:=OwnF.form (Or.inl O1)
    obtain ⟨z2,e2⟩:=OwnF.form (Or.inl O2)
    refine WL.sr <| WOL.ld rfl (load_row tp1114 A6 rfl (Nat.le_of_ble_eq_true rfl)) <| WOL.sto (vs:=[zi n,w1,w2]) rfl rfl tp1114 A4 rfl rfl (Nat.le_of_ble_eq_true rfl) (by rw [e1,e2];rfl) (f.hx X) (Nat.le_refl _) fun i1 M1 => WOL.as rfl <| WOL.nil ?_
    refine WL.ret (WL.endC1 rfl rfl (load_row tp1114 M1.at_ rfl (Nat.le_of_ble_eq_true rfl)) ⟨M1.hx _ X (Nat.le_refl _),.inr ⟨big,w1,w2,rfl,?_,?_⟩⟩)
    · rcases O1.keep (h':=i1) (fun z y hz a => M1.oth _ _ (by have:=O1.lt hz;omega) a) with q | ⟨q1,b,q2,q3,q4⟩
      · exact .inl q
      · exact .inr ⟨q1,b,q2,by omega,q4⟩
    · show OwnL encS h.next i1 w2 103 (holesN _ _)
      rw [lB]
      rcases O2.keep (h':=i1) (fun z y hz a => M1.oth _ _ (by have:=O2.lt hz;omega) a) with q | ⟨q1,b,q2,q3,q4⟩
      · exact .inl q
      · exact .inr ⟨q1,b,q2,by omega,q4⟩
end
end Go.Tidy
namespace Go.Tidy
open Go Go.Proofs Tab
variable {tp:TProg}
def MadeR (n:Int) (C:List (Int × Bool)) (n0:Nat) (h':TH) (v:Value):Prop :=
 (bigC C = true ∧ v = .tuple #[trcV 0 (.slice none 0 0) (.slice none 0 0),zi 4]) ∨ (bigC C = false ∧ ∃ w1 w2,v = .tuple #[trcV n w1 w2,zi 0] ∧ OwnL encI n0 h' w1 3 (valC C) ∧ OwnL encS n0 h' w2 103 (holesOf (C.map fun c => c.2)))
theorem OwnL.low {α:Type} {enc:α → List Value} {n0 n1:Nat} {h:TH} {v:Value} {e:TypeId} {l:List α} (o:OwnL enc n1 h v e l) (h0:n0 ≤ n1):OwnL enc n0 h v e l:=by
 rcases o with q | ⟨q1,b,q2,q3,q4⟩
 ·exact .inl q
 ·exact .inr ⟨q1,b,q2,by omega,q4⟩
section
variable {h:TH} {n n':Int} {v1 v2 w1 w2:Value} {L1 L2:List Int} {S1 S2:List (Int × Int)}
end
end Go.Tidy
namespace Go.Tidy
open Go Go.Proofs Tab
variable {tp:TProg}
theorem tbl_get {α:Type} {f:Nat → α} {m i:Nat}:((List.range m).map f)[i]? = if i < m then some (f i) else none:=by
 rw [List.getElem?_map]
 by_cases h:i < m
 ·rw [List.getElem?_range h,if_pos h];rfl
 ·rw [List.getElem?_eq_none (by rw [List.length_range];omega),if_neg h];rfl
def upTo {α:Type} (z:α) (C:List α) (m j:Nat):List α:=(List.range m).map fun i => cond (decide (i < j)) (C.getD i z) z
section
variable {α:Type} {z:α} {C:List α} {m j:Nat}
theorem upTo_len:(upTo z C m j).length = m:=by unfold upTo;rw [List.length_map,List.length_range]
theorem upTo_zero:upTo z C m 0 = List.replicate m z:=by
 refine List.eq_replicate_iff.2 ⟨upTo_len,fun b hb => ?_⟩
 unfold upTo at hb
 obtain ⟨i,_,rfl⟩:=List.mem_map.1 hb
 rfl
theorem upTo_set:upTo z C m (j + 1) = (upTo z C m j).set j (C.getD j z):=by
 refine List.ext_getElem? fun i => ?_
 unfold upTo
 rw [tbl_get]
 by_cases e:i = j
 ·subst e
  by_cases h:i < m
  ·rw [if_pos h,List.getElem?_set_self (by rw [List.length_map,List.length_range];exact h),decide_eq_true (Nat.lt_succ_self i)];rfl
  ·rw [if_neg h,List.getElem?_eq_none (by rw [List.length_set,List.length_map,List.length_range];omega)]
 ·rw [List.getElem?_set_ne (by omega),tbl_get,show decide (i < j + 1) = decide (i < j) from decide_eq_decide.2 (by omega)]
theorem upTo_same (h:C.getD j z = z):upTo z C m (j + 1) = upTo z C m j:=by
 unfold upTo
 refine List.map_congr_left fun i _ => ?_
 by_cases e:i = j
 ·subst e
  rw [h]
  cases decide (i < i + 1) <;> cases decide (i < i) <;> rfl
 ·rw [show decide (i < j + 1) = decide (i < j) from decide_eq_decide.2 (by omega)]
theorem upTo_all (h:C.length = m):upTo z C m m = C:=by
 refine List.ext_getElem? fun i => ?_
 unfold upTo
 rw [tbl_get]
 by_cases hi:i < m
 ·rw [if_pos hi,decide_eq_true hi,List.getD_eq_getElem?_getD,List.getElem?_eq_getElem (by omega)];rfl
 ·rw [if_neg hi,List.getElem?_eq_none (by omega)]
end
theorem bigC_val (C:List (Int × Bool)):bigC C = (valC C).any largeB:=by
 unfold bigC valC
 rw [List.any_map]
 congr 1
 funext c
 obtain ⟨x,k⟩:=c
 cases k with
 | true => rfl
 | false => show false = largeB 0;rfl
def ProgR (n:Int) (e:Int) (C:List (Int × Bool)) (n0:Nat) (h':TH) (v:Value):Prop :=
 (e ≠ 0 ∧ v = .tuple #[trcV 0 (.slice none 0 0) (.slice none 0 0),zi e]) ∨ (e = 0 ∧ bigC C = true ∧ v = .tuple #[trcV 0 (.slice none 0 0) (.slice none 0 0),zi 4]) ∨ (e = 0 ∧ bigC C = false ∧ ∃ bv w,v = .tuple #[trcV n (slA bv C.length) w,zi 0] ∧ n0 ≤ bv ∧ TrcO n0 h' bv w (valC C) (holesOf (C.map fun c => c.2)))
section
variable {h:TH} {n n':Int} {v1 v2 w1 w2:Value} {L1 L2:List Int} {S1 S2:List (Int × Int)}
end
end Go.Tidy
namespace Go.Tidy
open Go Go.Proofs Tab
variable {tp:TProg}
theorem trace_ok {n:Int} {L:List Int} {S:List (Int × Int)} (h:traceE n L S = 0):(0 ≤ n ∧ n ≤ 100000000) ∧ (∀ i,-1073741824 ≤ L.getD i 0 ∧ L.getD i 0 ≤ 1073741824) ∧ holeE L.length (-1) S = 0 ∧ S.any (anyIn L) = false ∧ L.length ≤ 4096 ∧ n + (L.length:Int) ≤ 100000000:=by
  have all:=firstNZ_zero h
  have a1:=all _ (List.mem_cons_self ..)
  have a2:=all (cond (decide ((L.length:Int) > 4096)) 5 0) (by simp)
  have a3:=all (cond (decide (n + (L.length:Int) > 100000000)) 4 0) (by simp)
  have a4:=all (firstNZ (L.map readE)) (by simp)
  have a5:=all (cond (holeE L.length (-1) S != 0) (holeE L.length (-1) S) (formE L S)) (by simp)
  have a6:=firstNZ_zero a4
  have hh:holeE L.length (-1) S = 0:=by
    cases hb:(holeE L.length (-1) S != 0) with
    | true => rw [hb] at a5;exact a5
    | false => exact bne_eq_false_iff_eq.1 hb
  refine ⟨out_in a1,fun i => ?_,hh,?_,?_,?_⟩
  · rw [List.getD_eq_getElem?_getD]
    cases hL:L[i]? with
    | none => exact ⟨by decide,by decide⟩
    | some x =>
      have:=a6 _ (List.mem_map.2 ⟨x,List.mem_of_getElem? hL,rfl⟩)
      unfold readE outB at this
      show -1073741824 ≤ x ∧ x ≤ 1073741824
      cases h1:decide (x < -1073741824) with
      | true => rw [h1] at this;cases this
      | false =>
        cases h2:decide (x > 1073741824) with
        | true => rw [h1,h2] at this;cases this
        | false =>
          have:=of_decide_eq_false h1
          have:=of_decide_eq_false h2
          omega
  · rw [hh] at a5
    replace a5:formE L S = 0:=a5
    unfold formE at a5
    cases hf:S.any (anyIn L) with
    | true => rw [hf] at a5;cases a5
    | false => rfl
  · cases hb:decide ((L.length:Int) > 4096) with
    | true => rw [hb] at a2;cases a2
    | false => have:=of_decide_eq_false hb;omega
  · cases hb:decide (n + (L.length:Int) > 100000000) with
    | true => rw [hb] at a3;cases a3
    | false => have:=of_decide_eq_false hb;omega
section
variable {h:TH} {n n':Int} {v1 v2 w1 w2:Value} {L1 L2:List Int} {S1 S2:List (Int × Int)}
end
end Go.Tidy
namespace Go.Tidy
open Go Go.Proofs Tab
variable {tp:TProg}
def RevR (n p e:Int) (L:List Int) (S:List (Int × Int)) (n0:Nat) (h':TH) (v:Value):Prop :=
 (e ≠ 0 ∧ v = .tuple #[trcV 0 (.slice none 0 0) (.slice none 0 0),zi e]) ∨ (e = 0 ∧ (2 * p + 1 - (n + L.length) < 0 ∨ 2 * p + 1 - (n + L.length) + L.length > 100000000) ∧ v = .tuple #[trcV 0 (.slice none 0 0) (.slice none 0 0),zi 14]) ∨ (e = 0 ∧ 0 ≤ 2 * p + 1 - (n + L.length) ∧ 2 * p + 1 - (n + L.length) + L.length ≤ 100000000 ∧ ∃ bv w,v = .tuple #[trcV (2 * p + 1 - (n + L.length)) (slA bv L.length) w,zi 0] ∧ n0 ≤ bv ∧ TrcO n0 h' bv w L.reverse (holesOf (knownL S L.length).reverse))
section
variable {h:TH} {n p:Int} {v1 v2:Value} {L:List Int} {S:List (Int × Int)}
end
end Go.Tidy
namespace Go.Tidy
open Go Go.Proofs Tab
variable {tp:TProg}
def RefR (n p:Int) (L:List Int) (S:List (Int × Int)) (n0:Nat) (h':TH) (v:Value):Prop :=
 ((2 * p + 1 - (n + L.length) < 0 ∨ 2 * p + 1 - (n + L.length) + L.length > 100000000) ∧ v = .tuple #[trcV 0 (.slice none 0 0) (.slice none 0 0),zi 14]) ∨ (0 ≤ 2 * p + 1 - (n + L.length) ∧ 2 * p + 1 - (n + L.length) + L.length ≤ 100000000 ∧ MadeR (2 * p + 1 - (n + L.length)) (zipK L S L.length).reverse n0 h' v)
section
variable {h:TH} {n p:Int} {v1 v2:Value} {L:List Int} {S:List (Int × Int)}
end
end Go.Tidy
namespace Go.Tidy
open Go Go.Proofs Tab
variable {tp:TProg}
section
variable {h:TH} {n n' e:Int} {v1 v2 w1 w2:Value} {L:List Int} {S:List (Int × Int)}
theorem k1150 (H:Has tp) {b1 b2:Option Addr} {m1 c1 m2 c2:Nat} (f:Free0 h.next h):CallW Tryz.prog tp (.func (.func 53) #[] #[]) #[trcV n (.slice b1 m1 c1) (.slice b2 m2 c2)] h fun v h' => v = trcV n (.slice b1 m1 c1) (.slice b2 m2 c2) ∧ HX h h':=by
 refine CallW.fnL (H.fn 53 f1150 rfl rfl) ?_
 refine WL.sr <| WOL.box rfl fun h1 N1 => WOL.al tp1114 fun h2 N2 => WOL.nil <| keep [(1,_),(2,_)] ⟨rfl,rfl,trivial⟩ ?_
 have n1:=N1.next
 have n2:=N2.next
 have A1:At h2 h.next (.cells [zi n,.slice b1 m1 c1,.slice b2 m2 c2] true true 31):=N1.at_.hx N2.hx
 have X2:=N1.hx.trans N2.hx
 refine WL.sr <| WOL.ld rfl (load_row tp1117 A1 rfl (Nat.le_of_ble_eq_true rfl)) <| WOL.sto (vs:=[zi n,.slice b1 m1 c1,.slice b2 m2 c2]) rfl rfl tp1114 N2.at_ rfl rfl (Nat.le_of_ble_eq_true rfl) rfl (f.hx X2) (by omega) fun h3 P3 => WOL.nil ?_
 exact WL.ret (WL.endC rfl (load_row tp1114 P3.at_ rfl (Nat.le_of_ble_eq_true rfl)) ⟨rfl,P3.hx _ X2 (by omega)⟩)
theorem ints_form {v:Value} (i:IsInts h v L):∃ b m c,v = .slice b m c:=by
 rcases i with ⟨rfl,_⟩ | ⟨b,c,_,_,_,rfl,_⟩
 ·exact ⟨_,_,_,rfl⟩
 ·exact ⟨_,_,_,rfl⟩
theorem k1124 (H:Has tp) (i1:IsInts h v1 L) (s1:SlL encS 2 h v2 S) {b3 b4:Option Addr} {m3 c3 m4 c4:Nat} (e1:w1 = .slice b3 m3 c3) (e2:w2 = .slice b4 m4 c4) (hL:L.length ≤ 1000000) (hS:S.length ≤ 1000000) (f:Free0 h.next h)
  (c:(e ≠ 0 ∧ n = 0 ∧ L = [] ∧ S = []) ∨ (e = 0 ∧ n = n' ∧ IsInts h w1 L ∧ SlL encS 2 h w2 S)):CallW Tryz.prog tp (.func (.func 24) #[] #[]) #[trcV n v1 v2,zi e,zi e,trcV n' w1 w2] h fun v h' => v = .bool true ∧ HX h h':=by
 obtain ⟨b1,m1,c1,rfl⟩:=ints_form i1
 obtain ⟨b2,k2,q2,_⟩:=id s1
 subst q2 e1 e2
 refine CallW.fnL (H.fn 24 f1124 rfl rfl) ?_
 refine WL.sr <| WOL.box rfl fun h1 N1 => WOL.box rfl fun h2 N2 => WOL.as rfl <| WOL.nil <| keep [(1,_),(2,_),(4,_),(7,_)] ⟨rfl,rfl,rfl,rfl,trivial⟩ ?_
 have n1:=N1.next
 have n2:=N2.next
 have A4:At h2 h.next (.cells [zi n,.slice b1 m1 c1,.slice b2 S.length k2] true true 31):=N1.at_.hx N2.hx
 have A7:At h2 h1.next (.cells [zi n',.slice b3 m3 c3,.slice b4 m4 c4] true true 27):=N2.at_
 have X2:=N1.hx.trans N2.hx
 have fin:∀ {g:TH} {y1 y2:Value},HX h g → At g h.next (.cells [zi n,.slice b1 m1 c1,.slice b2 S.length k2] true true 31) → At g h1.next (.cells [zi n,y1,y2] true true 27) → IsInts g y1 L → SlL encS 2 g y2 S → ∀ a,Kn [(1,zi e),(2,zi e),(4,ptr h.next),(7,ptr h1.next)] a → W Tryz.prog tp false (.seq (.reg r1124_3) .ret) a g (Fin Tryz.prog [.tmp 8] fun v h' => v = .bool true ∧ HX h h'):=by
  intro g y1 y2 X B4 B7 i s
  refine WL.sr <| WOL.ld rfl (load_row tp1117 B4 rfl (Nat.le_of_ble_eq_true rfl)) <| WOL.ld rfl (load_row tp1114 B7 rfl (Nat.le_of_ble_eq_true rfl)) ?_
  refine WOL.lq1 [h1.next] rfl rfl rfl fun M hM => ((k1150 (h:=g.withLock M) H ((f.on X).held hM (fun b hb => by have:=X.next;have:=B7.lt;simp at hb;omega))).mono ?_)
  rintro v h4 ⟨rfl,X4⟩
  replace X4:=X4.relock
  generalize h4.withLock g.lock = h4 at *
  refine WOL.cl2 rfl rfl rfl ((k1152 H (i1.hx (X.trans X4)) (i.hx X4) (s1.hx (X.trans X4)) (s.hx X4) hL hS).mono ?_)
  rintro v h5 ⟨rfl,X5⟩
  refine WOL.mv rfl <| WOL.now (b:=true) rfl rfl <| WOL.mv rfl <| WOL.now (b:=true) rfl rfl <| WOL.mv rfl <| WOL.now (b:=true) rfl rfl <| WOL.bt rfl rfl rfl (by first | exact decide_eq_true (by omega) | exact beq_iff_eq.2 (by omega) | exact bne_iff_ne.2 (by omega)) <| WOL.pkt rfl rfl <| WOL.as rfl <| WOL.nil ?_
  exact WL.ret (WL.end_ rfl ⟨rfl,(X.trans X4).trans X5⟩)
 rcases c with ⟨c1',rfl,rfl,rfl⟩ | ⟨rfl,rfl,i,s⟩
 ·refine WL.seq <| WL.sr <| WOL.mv rfl <| WOL.bt rfl rfl rfl (bne_iff_ne.2 c1') <| WOL.nil <| keep [(1,_),(2,_),(4,_),(7,_),(10,_)] ⟨rfl,rfl,rfl,rfl,rfl,trivial⟩ ?_
  refine WL.yes rfl <| WL.reg <| WOL.bd rfl bd1114z <| WOL.sto (vs:=[zi 0,.slice none 0 0,.slice none 0 0]) rfl rfl tp1114 A7 rfl rfl (Nat.le_of_ble_eq_true rfl) rfl (f.hx X2) (by omega) fun i1 M1 => WOL.nil ?_
  have P:=M1.hx _ X2 (by omega)
  exact kto (fin P (M1.oth _ _ (by omega) A4) M1.at_ (.inl ⟨rfl,rfl⟩) SlL.nil) ⟨rfl,rfl,rfl,rfl,trivial⟩
 ·refine WL.seq <| WL.sr <| WOL.mv rfl <| WOL.bf rfl rfl rfl rfl <| WOL.nil <| keep [(1,_),(2,_),(4,_),(7,_),(10,_)] ⟨rfl,rfl,rfl,rfl,rfl,trivial⟩ ?_
  refine WL.no rfl <| WL.skip ?_
  exact kto (fin X2 A4 A7 (i.hx X2) (s.hx X2)) ⟨rfl,rfl,rfl,rfl,trivial⟩
end
end Go.Tidy
namespace Go.Tidy
open Go Go.Proofs Tab
theorem dark_zero {L:List Int} {S:List (Int × Int)} {i:Nat} (h:S.any (anyIn L) = false) (hi:knownB S (i:Int) = false):L.getD i 0 = 0:=by
 unfold knownB at hi
 rw [Bool.not_eq_false'] at hi
 obtain ⟨p,hp,hx⟩:=List.any_eq_true.1 hi
 have ha:=List.any_eq_false.1 h p hp
 unfold inS at hx
 simp only [Bool.and_eq_true,decide_eq_true_eq] at hx
 rw [List.getD_eq_getElem?_getD]
 cases hL:L[i]? with
 | none => rfl
 | some x =>
  show x = 0
  have hm:x ∈ (L.drop p.1.toNat).take (p.2.toNat - p.1.toNat):=by
   refine List.mem_of_getElem? (i:=i - p.1.toNat) ?_
   rw [List.getElem?_take_of_lt (by omega),List.getElem?_drop,show p.1.toNat + (i - p.1.toNat) = i by omega]
   exact hL
  by_cases h0:x = 0
  ·exact h0
  ·exact absurd (show anyIn L p = true by unfold anyIn;exact List.any_eq_true.2 ⟨x,hm,bne_iff_ne.2 h0⟩) ha
theorem zip_val {L:List Int} {S:List (Int × Int)} (h:S.any (anyIn L) = false):valC (zipK L S L.length) = L:=by
 unfold valC zipK
 rw [List.map_map]
 refine List.ext_getElem? fun i => ?_
 rw [List.getElem?_map]
 by_cases hi:i < L.length
 ·rw [List.getElem?_range hi,List.getElem?_eq_getElem hi]
  show some (cond (knownB S (i:Int)) (L.getD i 0) 0) = some L[i]
  have e:L.getD i 0 = L[i]:=by rw [List.getD_eq_getElem?_getD,List.getElem?_eq_getElem hi];rfl
  cases hk:knownB S (i:Int) with
  | true => rw [← e];rfl
  | false => rw [← e,dark_zero h hk];rfl
 ·rw [List.getElem?_eq_none (by rw [List.length_range];omega),List.getElem?_eq_none (by omega)];rfl
theorem zip_known {L:List Int} {S:List (Int × Int)} {m:Nat}:((zipK L S m).map fun c => c.2) = knownL S m:=by
 unfold zipK knownL
 rw [List.map_map];rfl
theorem rev_val {L:List Int} {S:List (Int × Int)} (h:S.any (anyIn L) = false):valC (zipK L S L.length).reverse = L.reverse:=by
 unfold valC
 rw [List.map_reverse]
 exact congrArg List.reverse (zip_val h)
theorem rev_known {L:List Int} {S:List (Int × Int)} {m:Nat}:((zipK L S m).reverse.map fun c => c.2) = (knownL S m).reverse:=by
 rw [List.map_reverse,zip_known]
theorem rev_big {L:List Int} {S:List (Int × Int)} {m:Nat} (lim:∀ i,-1073741824 ≤ L.getD i 0 ∧ L.getD i 0 ≤ 1073741824):bigC (zipK L S m).reverse = false:=by
 unfold bigC
 refine List.any_eq_false.2 fun c hc => ?_
 obtain ⟨i,_,rfl⟩:=List.mem_map.1 (List.mem_reverse.1 hc)
 have e:largeB (L.getD i 0) = false:=by
  obtain ⟨l1,l2⟩:=lim i
  unfold largeB readE outB
  rw [decide_eq_false (by omega),decide_eq_false (by omega)];rfl
 simp only [e,Bool.and_false]
 decide
def Ans (n:Int) (o:Int × List Int × List (Int × Int)) (n0:Nat) (g:TH) (v:Value):Prop:=∃ z y1 y2,v = .tuple #[trcV z y1 y2,zi o.1] ∧ IsInts g y1 o.2.1 ∧ SlL encS 2 g y2 o.2.2 ∧ (∀ z,bl y1 = some z → n0 ≤ z) ∧ (∀ z,bl y2 = some z → n0 ≤ z) ∧ ((o.1 ≠ 0 ∧ z = 0 ∧ o.2.1 = [] ∧ o.2.2 = []) ∨ (o.1 = 0 ∧ z = n))
def sumO (e:Int) (C:List (Int × Bool)):Int × List Int × List (Int × Int):=if e ≠ 0 then (e,[],[]) else if bigC C = true then (4,[],[]) else (0,valC C,holesOf (C.map fun c => c.2))
def revO (n p e:Int) (L:List Int) (S:List (Int × Int)):Int × List Int × List (Int × Int):=if e ≠ 0 then (e,[],[]) else if 2 * p + 1 - (n + L.length) < 0 ∨ 2 * p + 1 - (n + L.length) + L.length > 100000000 then (14,[],[]) else (0,L.reverse,holesOf (knownL S L.length).reverse)
theorem Ans.err {n e:Int} {n0:Nat} {g:TH} {v:Value} (he:e ≠ 0) (hv:v = .tuple #[trcV 0 (.slice none 0 0) (.slice none 0 0),zi e]):Ans n (e,[],[]) n0 g v:=⟨0,_,_,hv,.inl ⟨rfl,rfl⟩,SlL.nil,fun z hz => (by cases hz),fun z hz => (by cases hz),.inl ⟨he,rfl,rfl,rfl⟩⟩
theorem TrcO.ints {n0 bv m:Nat} {g:TH} {w:Value} {L:List Int} {S:List (Int × Int)} (r:TrcO n0 g bv w L S) (hm:m = L.length):IsInts g (slA bv m) L:=by
 subst hm
 have:=r.v
 rw [cat_I] at this
 exact .inr ⟨bv,L.length,_,_,_,rfl,this.lt,this.get⟩
theorem ProgR.ans {n e:Int} {C:List (Int × Bool)} {n0:Nat} {g:TH} {v:Value} (r:ProgR n e C n0 g v):Ans n (sumO e C) n0 g v:=by
 unfold sumO
 rcases r with ⟨h1,h2⟩ | ⟨rfl,h1,h2⟩ | ⟨rfl,h1,bv,w,h2,hb,h3⟩
 ·rw [if_pos h1];exact Ans.err h1 h2
 ·rw [if_neg (by decide),if_pos h1];exact Ans.err (by decide) h2
 ·rw [if_neg (by decide),if_neg (by rw [h1];decide)]
  exact ⟨n,_,_,h2,h3.ints (by unfold valC;rw [List.length_map]),h3.s.sl eS,fun z hz => (by have:bv = z:=Option.some.inj hz;omega),fun z hz => (h3.s.lt hz).1,.inr ⟨rfl,rfl⟩⟩
theorem MadeR.ans {n:Int} {C:List (Int × Bool)} {n0:Nat} {g:TH} {v:Value} (r:MadeR n C n0 g v):Ans n (sumO 0 C) n0 g v:=by
 unfold sumO
 rw [if_neg (by decide)]
 rcases r with ⟨h1,h2⟩ | ⟨h1,w1,w2,h2,h3,h4⟩
 ·rw [if_pos h1];exact Ans.err (by decide) h2
 ·rw [if_neg (by rw [h1];decide)]
  exact ⟨n,_,_,h2,ownI_ints h3,h4.sl eS,fun z hz => (h3.lt hz).1,fun z hz => (h4.lt hz).1,.inr ⟨rfl,rfl⟩⟩
theorem RevR.ans {n p e:Int} {L:List Int} {S:List (Int × Int)} {n0:Nat} {g:TH} {v:Value} (r:RevR n p e L S n0 g v):Ans (2 * p + 1 - (n + L.length)) (revO n p e L S) n0 g v:=by
 unfold revO
 rcases r with ⟨h1,h2⟩ | ⟨rfl,h1,h2⟩ | ⟨rfl,h0,h1,bv,w,h2,hb,h3⟩
 ·rw [if_pos h1];exact Ans.err h1 h2
 ·rw [if_neg (by decide),if_pos h1];exact Ans.err (by decide) h2
 ·rw [if_neg (by decide),if_neg (by omega)]
  exact ⟨_,_,_,h2,h3.ints (by rw [List.length_reverse]),h3.s.sl eS,fun z hz => (by have:bv = z:=Option.some.inj hz;omega),fun z hz => (h3.s.lt hz).1,.inr ⟨rfl,rfl⟩⟩
theorem RefR.ans {n p:Int} {L:List Int} {S:List (Int × Int)} {n0:Nat} {g:TH} {v:Value} (hd:S.any (anyIn L) = false) (lim:∀ i,-1073741824 ≤ L.getD i 0 ∧ L.getD i 0 ≤ 1073741824) (r:RefR n p L S n0 g v):Ans (2 * p + 1 - (n + L.length)) (revO n p 0 L S) n0 g v:=by
 unfold revO
 rw [if_neg (by decide)]
 rcases r with ⟨h1,h2⟩ | ⟨h0,h1,h2⟩
 ·rw [if_pos h1];exact Ans.err (by decide) h2
 ·rw [if_neg (by omega)]
  have:=h2.ans
  unfold sumO at this
  rw [if_neg (by decide),if_neg (by rw [rev_big lim];decide),rev_val hd,rev_known] at this
  exact this
end Go.Tidy
namespace Go.Tidy
open Go Go.Proofs Tab
def tapN (L:List Int) (i:Nat):List (Nat × Int) → Int → Int
 | [],s => s
 | t :: T,s => tapN L i T (s + t.2 * L.getD (i + t.1) 0)
def tapK (S:List (Int × Int)) (i:Nat) (T:List (Nat × Int)):Bool:=T.all fun t => knownB S ((i + t.1:Nat):Int)
def tapC (L:List Int) (S:List (Int × Int)) (T:List (Nat × Int)) (m:Nat):List (Int × Bool):=(List.range m).map fun i => (tapN L i T 0,tapK S i T)
theorem tapC_len {L:List Int} {S:List (Int × Int)} {T:List (Nat × Int)} {m:Nat}:(tapC L S T m).length = m:=by unfold tapC;rw [List.length_map,List.length_range]
theorem tapC_succ {L:List Int} {S:List (Int × Int)} {T:List (Nat × Int)} {m:Nat}:tapC L S T (m + 1) = tapC L S T m ++ [(tapN L m T 0,tapK S m T)]:=by
 unfold tapC
 rw [List.range_succ,List.map_append]
 rfl
theorem tapC_get {L:List Int} {S:List (Int × Int)} {T:List (Nat × Int)} {m i:Nat} (h:i < m):(tapC L S T m)[i]? = some (tapN L i T 0,tapK S i T):=by
 unfold tapC
 rw [tbl_get,if_pos h]
theorem tapN_app {L:List Int} {i:Nat}:∀ {T U:List (Nat × Int)} {s:Int},tapN L i (T ++ U) s = tapN L i U (tapN L i T s)
 | [],_,_ => rfl
 | t :: T,U,s => by
  show tapN L i (T ++ U) _ = tapN L i U (tapN L i T _)
  exact tapN_app
theorem tapN_lim {L:List Int} {i:Nat} (hL:∀ j,-1073741824 ≤ L.getD j 0 ∧ L.getD j 0 ≤ 1073741824):∀ {T:List (Nat × Int)} {s B:Int},(∀ t,t ∈ T → -10000 ≤ t.2 ∧ t.2 ≤ 10000) → -B ≤ s → s ≤ B → -(B + T.length * 10737418240000) ≤ tapN L i T s ∧ tapN L i T s ≤ B + T.length * 10737418240000
  | [],s,B,_,h1,h2 => by
    show -(B + ((0:Nat):Int) * _) ≤ s ∧ s ≤ B + ((0:Nat):Int) * _
    omega
  | t :: T,s,B,hT,h1,h2 => by
    obtain ⟨a1,a2⟩:=hT t (List.mem_cons_self ..)
    obtain ⟨b1,b2⟩:=hL (i + t.1)
    have hp:(t.2 * L.getD (i + t.1) 0).natAbs ≤ 10737418240000:=by
      rw [Int.natAbs_mul]
      exact Nat.le_trans (Nat.mul_le_mul (show t.2.natAbs ≤ 10000 by omega) (show (L.getD (i + t.1) 0).natAbs ≤ 1073741824 by omega)) (by decide)
    have ih:=tapN_lim (i:=i) hL (T:=T) (s:=s + t.2 * L.getD (i + t.1) 0) (B:=B + 10737418240000) (fun u hu => hT u (List.mem_cons_of_mem _ hu)) (by omega) (by omega)
    show _ ≤ tapN L i T _ ∧ tapN L i T _ ≤ _
    rw [List.length_cons]
    omega
end Go.Tidy
namespace Go.Tidy
open Go Go.Proofs Tab
variable {tp:TProg}
theorem tp1242:Tp Tryz.prog 192 2 [.int .i64 0,.int .i64 0] true:=tp_of (by kernel_rfl) (by kernel_rfl) rfl
theorem u1214:Tryz.prog.underlying 142 = some (.slice 192):=by kernel_rfl
theorem fo1242_0:fieldOff Tryz.prog 192 0 = some 0:=by kernel_rfl
theorem fo1242_1:fieldOff Tryz.prog 192 1 = some 1:=by kernel_rfl
theorem tp1214:Tp Tryz.prog 142 1 [.slice none 0 0] false:=tp_of (by kernel_rfl) (by kernel_rfl) rfl
theorem bd1242 {a b:Int}:buildT Tryz.prog 192 [(0,zi a),(1,zi b)] = some (.agg #[zi a,zi b]):=by kernel_rfl
def tapB (B:List Bool) (i:Nat) (T:List (Nat × Int)):Bool:=T.all fun t => B.getD (i + t.1) false
theorem tapB_known {S:List (Int × Int)} {m i:Nat} {T:List (Nat × Int)} (h:∀ t,t ∈ T → i + t.1 < m):tapB (knownL S m) i T = tapK S i T:=by
 unfold tapB tapK
 rw [Bool.eq_iff_iff,List.all_eq_true,List.all_eq_true]
 have e:∀ t,t ∈ T → (knownL S m).getD (i + t.1) false = knownB S ((i + t.1:Nat):Int):=fun t ht => by
  rw [List.getD_eq_getElem?_getD,knownL_get (h t ht)];rfl
 exact ⟨fun q t ht => (e t ht) ▸ q t ht,fun q t ht => (e t ht).symm ▸ q t ht⟩
def tapD (c:Int) (T:List (Nat × Int)):List (Int × Int):=T.map fun t => ((t.1:Int) + c,t.2)
theorem mul_lim {w x:Int} (a1:-10000 ≤ w) (a2:w ≤ 10000) (b1:-1073741824 ≤ x) (b2:x ≤ 1073741824):-10737418240000 ≤ w * x ∧ w * x ≤ 10737418240000:=by
 have hp:(w * x).natAbs ≤ 10737418240000:=by
  rw [Int.natAbs_mul]
  exact Nat.le_trans (Nat.mul_le_mul (show w.natAbs ≤ 10000 by omega) (show x.natAbs ≤ 1073741824 by omega)) (by decide)
 omega
section
variable {h:TH} {n:Int} {L:List Int} {B:List Bool} {bv bk:Nat}
set_option maxHeartbeats 2000000 in
set_option maxRecDepth 10000 in
theorem k1226 (H:Has tp) (r:RowA h bv bk L B) {T:List (Nat × Int)} {c p:Int} {i:Nat} {v:Value} (s:SlL encS 2 h v (tapD c T)) (hp:p + c = n + (i:Nat)) (hT:∀ t,t ∈ T → i + t.1 < L.length) (hw:∀ t,t ∈ T → -10000 ≤ t.2 ∧ t.2 ≤ 10000) (lT:T.length ≤ 1000) (lim:∀ j,-1073741824 ≤ L.getD j 0 ∧ L.getD j 0 ≤ 1073741824) (h0:0 ≤ n) (h1:n ≤ 1000000000) (hl:L.length ≤ 1000000) (c1:-1000000 ≤ c) (c2:c ≤ 1000000) (f:Free0 h.next h) :
    CallW Tryz.prog tp (.func (.func 137) #[] #[]) #[rowV n (slA bv L.length) (slA bk L.length),zi p,v] h fun v h' => v = .tuple #[zi (cond (tapB B i T) (tapN L i T 0) 0),.bool (tapB B i T)] ∧ HX h h':=by
  refine CallW.fnL (H.fn 137 f1226 rfl rfl) ?_
  refine WL.sr <| WOL.box rfl fun h1 N1 => WOL.as rfl <| WOL.as rfl <| WOL.nil <| keep [(1,_),(2,_),(3,_)] ⟨rfl,rfl,rfl,trivial⟩ ?_
  have n1:=N1.next
  have A1:At h1 h.next (.cells [zi n,slA bv L.length,.slice none 0 0,slA bk L.length] true true 113):=N1.at_
  have lD:(tapD c T).length = T.length:=by unfold tapD;rw [List.length_map]
  refine WL.sr <| WOL.as rfl <| WOL.nil ?_
  refine WL.seq <| WL.sr <| WOL.mv rfl <| WOL.len rfl (s.hx N1.hx) u1214 <| WOL.mv rfl <| WOL.nil <| keep [(1,_),(3,_),(8,_),(13,_),(14,_),(15,_)] ⟨rfl,rfl,rfl,rfl,rfl,rfl,trivial⟩ ?_
  rw [lD]
  refine WL.upto (α:=Int) T.length (fun j z g => HX h1 g ∧ tapB B i (T.take j) = true ∧ z = tapN L i (T.take j) 0) (fun j z => [(1,zi p),(3,ptr h.next),(8,zi z),(13,v),(14,zi (T.length:Nat))]) 0 rfl rfl (by omega) ⟨HX.refl _,rfl,rfl⟩ ⟨rfl,rfl,rfl,rfl,rfl,rfl,trivial⟩ (fun _ _ => rfl) (fun _ _ _ => ⟨rfl,rfl,rfl,rfl,rfl,rfl,trivial⟩) (fun _ _ _ => ⟨rfl,rfl,rfl,rfl,rfl,rfl,trivial⟩) ?_ ?_
  · rintro j z g hj ⟨X,hB,hz⟩
    have hm:T[j] ∈ T:=List.getElem_mem hj
    have ht:T[j]? = some T[j]:=List.getElem?_eq_getElem hj
    have hz':tapN L i (T.take j) 0 + T[j].2 * L.getD (i + T[j].1) 0 = tapN L i (T.take (j + 1)) 0:=by
      rw [← List.take_append_getElem hj,tapN_app];rfl
    have hB':tapB B i (T.take (j + 1)) = B.getD (i + T[j].1) false:=by
      rw [← List.take_append_getElem hj]
      unfold tapB at hB ⊢
      rw [List.all_append,hB]
      simp
    have hT':=hT _ hm
    obtain ⟨w1,w2⟩:=hw _ hm
    generalize T[j] = t at *
    obtain ⟨o,w⟩:=t
    replace hT':i + o < L.length:=hT'
    replace w1:-10000 ≤ w:=w1
    replace w2:w ≤ 10000:=w2
    replace hz':tapN L i (T.take j) 0 + w * L.getD (i + o) 0 = tapN L i (T.take (j + 1)) 0:=hz'
    replace hB':tapB B i (T.take (j + 1)) = B.getD (i + o) false:=hB'
    have hd:(tapD c T)[j]? = some ((o:Int) + c,w):=by unfold tapD;rw [List.getElem?_map,ht];rfl
    have A1':=A1.hx X
    have xg:=X.next
    obtain ⟨b,off,cc,fix,wr,el,g1,g2,g3,g4,g5⟩:=(s.hx (N1.hx.trans X)).at eS u1214 tp1242 hd .i64
    refine WL.sr <| WOL.ix rfl rfl g1 <| WOL.ld rfl (load_row tp1242 g2 g4 g3) <| WOL.al tp1242 fun i1 M1 => ?_
    refine WOL.sto (vs:=encS ((o:Int) + c,w)) rfl rfl tp1242 M1.at_ rfl rfl (Nat.le_of_ble_eq_true rfl) rfl (f.hx (N1.hx.trans (X.trans M1.hx))) (by omega) fun i2 M2 => WOL.nil <| keep [(1,_),(3,_),(8,_),(10,_),(13,_),(14,_),(15,_)] ⟨rfl,rfl,rfl,rfl,rfl,rfl,rfl,trivial⟩ ?_
    have A2:At i2 g.next (.cells [zi ((o:Int) + c),zi w] true true 192):=M2.at_
    have XI:HX g i2:=M2.hx _ M1.hx (Nat.le_refl _)
    replace A1':=A1'.hx XI
    have Y:=X.trans XI
    obtain ⟨b1,b2⟩:=lim (i + o)
    refine WL.sr <| WOL.ld rfl (load_row tp1194 A1' rfl (Nat.le_of_ble_eq_true rfl)) <| WOL.mv rfl <| WOL.fa rfl (fa_of fo1242_0) <| WOL.ld rfl (load_one tp3 A2 rfl) <| WOL.add rfl rfl (by omega) (by omega) ?_
    rw [show p + ((o:Int) + c) = n + ((i + o:Nat):Int) by omega]
    refine WOL.cl2 rfl rfl rfl ((k1180 H (r.hx (N1.hx.trans Y)) hT' h0 ‹n ≤ 1000000000› hl).mono ?_)
    rintro u i3 ⟨rfl,X3⟩
    replace A2:=A2.hx X3
    refine WOL.mv rfl <| WOL.ex rfl rfl <| WOL.ex rfl rfl <| WOL.as rfl <| WOL.as rfl <| WOL.nil <| keep [(1,_),(3,_),(8,_),(10,_),(11,_),(12,_),(13,_),(14,_),(15,_)] ⟨rfl,rfl,rfl,rfl,rfl,rfl,rfl,rfl,rfl,trivial⟩ ?_
    cases hb:B.getD (i + o) false with
    | false =>
      have hF:tapB B i T = false:=by
        unfold tapB
        rw [List.all_eq_false]
        exact ⟨(o,w),hm,by show ¬ B.getD (i + o) false = true;rw [hb];decide⟩
      refine WL.seq <| WL.sr <| WOL.mv rfl <| WOL.nt rfl <| WOL.nil <| WL.yes rfl <| WL.sr <| WOL.as rfl <| WOL.as rfl <| WOL.nil ?_
      exact WL.ret (WL.end_ rfl ⟨by rw [hF];rfl,N1.hx.trans (Y.trans X3)⟩)
    | true =>
      rw [hb] at hB'
      refine WL.seq <| WL.sr <| WOL.mv rfl <| WOL.nt rfl <| WOL.nil <| WL.no rfl <| WL.skip ?_
      obtain ⟨m1,m2⟩:=mul_lim w1 w2 b1 b2
      have ll:=tapN_lim (i:=i) lim (T:=T.take j) (s:=0) (B:=0) (fun t ht => hw t (List.mem_of_mem_take ht)) (by omega) (by omega)
      have lj:(T.take j).length ≤ 1000:=by rw [List.length_take];omega
      rw [← hz] at ll hz'
      refine WL.reg <| WOL.mv rfl <| WOL.fa rfl (fa_of fo1242_1) <| WOL.ld rfl (load_one tp3 A2 rfl) <| WOL.mv rfl <| WOL.mul rfl rfl (by omega) (by omega) <| WOL.add rfl rfl (by omega) (by omega) <| WOL.as rfl <| WOL.nil fun a q => ?_
      exact ⟨_,⟨Y.trans X3,hB',hz'⟩,q.sub ⟨rfl,rfl,rfl,rfl,rfl,rfl,trivial⟩⟩
  · rintro z g ⟨X,hB,hz⟩
    rw [List.take_length] at hB hz
    refine WL.sr <| WOL.mv rfl <| WOL.as rfl <| WOL.as rfl <| WOL.nil ?_
    exact WL.ret (WL.end_ rfl ⟨by rw [hB,hz];rfl,N1.hx.trans X⟩)
end
end Go.Tidy
namespace Go.Tidy
open Go Go.Proofs Tab
variable {tp:TProg}
theorem tapV_get {L:List Int} {S:List (Int × Int)} {T:List (Nat × Int)} {m j:Nat} (h:j < m):(valC (tapC L S T m)).getD j 0 = cond (tapK S j T) (tapN L j T 0) 0:=by
 unfold valC
 rw [List.getD_eq_getElem?_getD,List.getElem?_map,tapC_get h];rfl
theorem tapM_get {L:List Int} {S:List (Int × Int)} {T:List (Nat × Int)} {m j:Nat} (h:j < m):((tapC L S T m).map fun c => c.2).getD j false = tapK S j T:=by
 rw [List.getD_eq_getElem?_getD,List.getElem?_map,tapC_get h];rfl
structure Taps (T:List (Nat × Int)) (W:Nat):Prop where
 a:∃ y,T[0]? = some (0,y)
 z:∃ y,T[T.length - 1]? = some (W,y)
 o:∀ t,t ∈ T → t.1 ≤ W
 w:∀ t,t ∈ T → -10000 ≤ t.2 ∧ t.2 ≤ 10000
 l:T.length ≤ 1000
section
variable {h:TH} {n:Int} {v1 v2:Value} {L:List Int} {S:List (Int × Int)} {T:List (Nat × Int)} {W:Nat} {c:Int} {w:Value}
set_option maxHeartbeats 4000000 in
set_option maxRecDepth 10000 in
theorem k1193 (H:Has tp) (r:TrcH h v1 v2 L S) (s:SlL encS 2 h w (tapD c T)) (ts:Taps T W) (lim:∀ j,-1073741824 ≤ L.getD j 0 ∧ L.getD j 0 ≤ 1073741824) (n0:0 ≤ n) (n1:n ≤ 100000000) (nc:0 ≤ n - c) (c1:-1000000 ≤ c) (c2:c ≤ 1000000) (l1:L.length ≤ 900000) (t1:S.length ≤ 1000000) (i1:In L.length S) (hW:W ≤ 1000000) (f:Free0 h.next h) :
  CallW Tryz.prog tp (.func (.func 93) #[] #[]) #[trcV n v1 v2,w] h fun v h' => HX h h' ∧ ProgR (n - c) (cond (decide (L.length ≤ W)) 16 0) (tapC L S T (L.length - W)) h.next h' v:=by
 refine CallW.fnL (H.fn 93 f1193 rfl rfl) ?_
 obtain ⟨b1,k1,e1,_⟩:=id r.l
 obtain ⟨b2,k2,e2,_⟩:=id r.s
 obtain ⟨b3,k3,e3,_⟩:=id s
 subst e1 e2 e3
 have lD:(tapD c T).length = T.length:=by unfold tapD;rw [List.length_map]
 refine WL.sr <| WOL.box rfl fun h1 N1 => WOL.box rfl fun h2 N2 => WOL.al tp1117 fun h3 N3 => WOL.as rfl <| WOL.nil <| keep [(2,_),(3,_),(4,_)] ⟨rfl,rfl,rfl,trivial⟩ ?_
 have q1:=N1.next
 have q2:=N2.next
 have q3:=N3.next
 have A2:At h3 h.next (.cells [zi n,.slice b1 L.length k1,.slice b2 S.length k2] true true 31):=(N1.at_.hx N2.hx).hx N3.hx
 have A3:At h3 h1.next (.cells [.slice b3 (tapD c T).length k3] true true 142):=N2.at_.hx N3.hx
 have A4:=N3.at_
 have X3:=(N1.hx.trans N2.hx).trans N3.hx
 have s3:=s.hx X3
 have r3:=r.hx X3
 obtain ⟨ya,ta⟩:=ts.a
 obtain ⟨yz,tz⟩:=ts.z
 have lT:0 < T.length:=(List.getElem?_eq_some_iff.1 ta).1
 have d0:(tapD c T)[0]? = some (c,ya):=by
  unfold tapD
  rw [List.getElem?_map,ta]
  show some (((0:Nat):Int) + c,ya) = _
  rw [show ((0:Nat):Int) + c = c by omega]
 have dz:(tapD c T)[T.length - 1]? = some ((W:Int) + c,yz):=by unfold tapD;rw [List.getElem?_map,tz];rfl
 obtain ⟨_,_,ca,fix,wr,el,g1,g2,g3,g4,g5⟩:=s3.at eS u1214 tp1242 d0 .i64
 obtain ⟨_,_,cz,fix',wr',el',y1,y2,y3,y4,y5⟩:=s3.at eS u1214 tp1242 dz .i64
 have ga:=g5 0 (by decide)
 have gz:=y5 0 (by decide)
 rw [Nat.add_zero] at ga gz
 replace ga:ca[_]? = some (zi c):=ga
 replace gz:cz[_]? = some (zi ((W:Int) + c)):=gz
 refine WL.sr <| WOL.ld rfl (load_one tp1214 A3 rfl) <| WOL.ix rfl rfl g1 <| WOL.fa rfl (fa_of fo1242_0) <| WOL.ld rfl (load_one tp3 g2 ga) <| WOL.ld rfl (load_one tp1214 A3 rfl) <| WOL.ld rfl (load_one tp1214 A3 rfl) <| WOL.len rfl s3 u1214 <| WOL.sub (m:=(((tapD c T).length:Nat):Int)) (n:=1) rfl rfl (by rw [lD];omega) (by rw [lD];have:=ts.l;omega) ?_
 rw [show (((tapD c T).length:Nat):Int) - 1 = ((T.length - 1:Nat):Int) by rw [lD];omega]
 refine WOL.ix rfl rfl y1 <| WOL.fa rfl (fa_of fo1242_0) <| WOL.ld rfl (load_one tp3 y2 gz) <| WOL.as rfl <| WOL.as rfl <| WOL.nil <| keep [(2,_),(3,_),(4,_),(6,_),(7,_)] ⟨rfl,rfl,rfl,rfl,rfl,trivial⟩ ?_
 clear g1 g2 g3 g4 g5 y1 y2 y3 y4 y5 ga gz
 refine WL.sr <| WOL.fa rfl (fa_of fo1117_1) <| WOL.ld rfl (load_one tp29 A2 rfl) <| WOL.len rfl r3.l u29 <| WOL.mv rfl <| WOL.mv rfl <| WOL.sub (m:=(W:Int) + c) (n:=c) rfl rfl (by omega) (by omega) <| WOL.sub (m:=((L.length:Nat):Int)) (n:=(W:Int) + c - c) rfl rfl (by omega) (by omega) <| WOL.as rfl <| WOL.nil <| keep [(2,_),(3,_),(4,_),(6,_),(8,_)] ⟨rfl,rfl,rfl,rfl,rfl,trivial⟩ ?_
 rw [show ((L.length:Nat):Int) - ((W:Int) + c - c) = (L.length:Int) - W by omega]
 have F0:∀ {g:TH},HX h g → Free0 g.next g:=fun X => f.on X
 by_cases hc:L.length ≤ W
 ·rw [decide_eq_true hc]
  refine WL.seq <| WL.sr <| WOL.mv rfl <| WOL.bt rfl rfl rfl (by first | exact decide_eq_true (by omega) | exact beq_iff_eq.2 (by omega) | exact bne_iff_ne.2 (by omega)) <| WOL.nil <| WL.yes rfl <| WL.sr <| WOL.bd rfl bd1117z <| WOL.sto (vs:=[zi 0,.slice none 0 0,.slice none 0 0]) rfl rfl tp1117 A4 rfl rfl (Nat.le_of_ble_eq_true rfl) rfl (f.hx X3) (by omega) fun i1 M1 => WOL.as rfl <| WOL.nil ?_
  exact WL.ret (WL.endC1 rfl rfl (load_row tp1117 M1.at_ rfl (Nat.le_of_ble_eq_true rfl)) ⟨M1.hx _ X3 (by omega),.inl ⟨by decide,rfl⟩⟩)
 rw [decide_eq_false hc]
 refine WL.seq <| WL.sr <| WOL.mv rfl <| WOL.bf rfl rfl rfl (by first | exact decide_eq_false (by omega) | exact beq_eq_false_iff_ne.2 (by omega) | exact bne_eq_false_iff_eq.2 (by omega)) <| WOL.nil <| WL.no rfl <| WL.skip ?_
 rw [show (L.length:Int) - W = ((L.length - W:Nat):Int) by omega]
 have hmW:L.length - W + W = L.length:=by omega
 generalize L.length - W = m at *
 refine keep [(2,_),(3,_),(4,_),(6,_),(8,_)] ⟨rfl,rfl,rfl,rfl,rfl,trivial⟩ ?_
 refine WL.sr <| WOL.ld rfl (load_row tp1117 A2 rfl (Nat.le_of_ble_eq_true rfl)) <| WOL.fa rfl (fa_of fo1117_0) <| WOL.ld rfl (load_one tp3 A2 rfl) <| WOL.mv rfl <| WOL.sub (m:=n) (n:=c) rfl rfl (by omega) (by omega) <| WOL.mv rfl <| WOL.al tp1194 fun h4 N4 => WOL.al tp1194 fun h5 N5 => ?_
 have q4:=N4.next
 have q5:=N5.next
 have X5:=(X3.trans N4.hx).trans N5.hx
 refine WOL.lq1 [h4.next,h3.next,h.next] rfl rfl rfl fun M hM => ((k1177 H ((r.hx X5).relock M) (by omega) t1 i1 ((F0 X5).held hM (fun b hb => by simp at hb;omega))).mono ?_)
 rintro v h6 ⟨X6,p1,p2,rfl,a1,a2,R1⟩
 replace X6:=X6.relock
 replace R1:RowA (h6.withLock h5.lock) p1 p2 L (knownL S L.length):=⟨R1.v.relock _,R1.k.relock _,R1.e,R1.n⟩
 replace a1:h5.next ≤ p1:=a1
 replace a2:h5.next ≤ p2:=a2
 generalize h6.withLock h5.lock = h6 at *
 have Y6:=X5.trans X6
 have q6:=X6.next
 have l11:=R1.v.lt
 have l12:=R1.k.lt
 refine WOL.lq2 [h4.next,h3.next] rfl rfl rfl rfl fun M hM => ((k1178 (h:=h6.withLock M) (n:=n - c) (m:=m) H (by omega) ((F0 Y6).held hM (fun b hb => by simp at hb;omega))).mono ?_)
 rintro v h7 ⟨X7,bv,bk,rfl,a3,a4,R2⟩
 replace X7:=X7.relock
 replace R2:RowA (h7.withLock h6.lock) bv bk (List.replicate m 0) (List.replicate m false):=⟨R2.v.relock _,R2.k.relock _,R2.e,R2.n⟩
 replace a3:h6.next ≤ bv:=a3
 replace a4:h6.next ≤ bk:=a4
 generalize h7.withLock h6.lock = h7 at *
 have Y7:=Y6.trans X7
 have q7:=X7.next
 have l21:=R2.v.lt
 have l22:=R2.k.lt
 have Z:=X6.trans X7
 refine WOL.sto (vs:=[zi n,slA p1 L.length,.slice none 0 0,slA p2 L.length]) rfl rfl tp1194 ((N4.at_.hx N5.hx).hx Z) rfl rfl (Nat.le_of_ble_eq_true rfl) rfl (f.hx Y7) (by omega) fun h8 P8 => ?_
 have q8:=P8.next
 have Y8:HX h h8:=P8.hx _ Y7 (by omega)
 refine WOL.sto (vs:=[zi (n - c),slA bv m,.slice none 0 0,slA bk m]) rfl rfl tp1194 (P8.oth _ _ (by omega) (N5.at_.hx Z)) rfl rfl (Nat.le_of_ble_eq_true rfl) rfl (f.hx Y8) (by omega) fun h9 P9 => WOL.nil <| keep [(3,_),(4,_),(9,_),(10,_)] ⟨rfl,rfl,rfl,rfl,trivial⟩ ?_
 have q9:=P9.next
 have Y9:HX h h9:=P9.hx _ Y8 (by omega)
 have O9:∀ b y,b ≠ h3.next → b ≠ h4.next → At h7 b y → At h9 b y:=fun b y e1 e2 a => P9.oth _ _ e2 (P8.oth _ _ e1 a)
 have B9:=P9.oth _ _ (by omega) P8.at_
 have B10:=P9.at_
 have B4:=O9 _ _ (by omega) (by omega) (((A4.hx N4.hx).hx N5.hx).hx Z)
 have B3:=O9 _ _ (by omega) (by omega) (((A3.hx N4.hx).hx N5.hx).hx Z)
 have C1:RowA h9 p1 p2 L (knownL S L.length):=⟨O9 _ _ (by omega) (by omega) (R1.v.hx X7),O9 _ _ (by omega) (by omega) (R1.k.hx X7),R1.e,R1.n⟩
 have C2:RowA h9 bv bk (List.replicate m 0) (List.replicate m false):=⟨O9 _ _ (by omega) (by omega) R2.v,O9 _ _ (by omega) (by omega) R2.k,R2.e,R2.n⟩
 have lb4:=B4.lt
 have lb3:=B3.lt
 refine WL.seq <| WL.sr <| WOL.fa rfl (fa_of fo1194_0) <| WOL.ld rfl (load_row tp1117 B10 (l:=[zi (n - c),slA bv m,.slice none 0 0]) rfl (Nat.le_of_ble_eq_true rfl)) <| WOL.cl1 rfl rfl ((k1179 H h9).mono ?_)
 rintro v h10 ⟨cc,rfl,X10,Ac,ac⟩
 have q10:=X10.next
 have lc:=Ac.lt
 have Y10:=Y9.trans X10
 replace B3:=B3.hx X10;replace B4:=B4.hx X10;replace B9:=B9.hx X10;replace B10:=B10.hx X10;replace C1:=C1.hx X10;replace C2:=C2.hx X10
 refine WOL.nil <| keep [(3,_),(4,_),(9,_),(10,_),(45,_)] ⟨rfl,rfl,rfl,rfl,rfl,trivial⟩ ?_
 rw [← upTo_zero (C:=valC (tapC L S T m)),← upTo_zero (C:=(tapC L S T m).map fun c => c.2)] at C2
 have lC:(tapC L S T m).length = m:=tapC_len
 refine WL.block <| WL.range rfl (H.fn 134 f1224 rfl rfl) (y1224 (v1:=slA bv m) (v2:=.slice none 0 0) H nc (by omega) (m:=m) (by omega)) (fun j g => HX h g ∧ h10.next ≤ g.next ∧ At g h1.next (.cells [.slice b3 (tapD c T).length k3] true true 142) ∧ At g h2.next (.cells [zi 0,.slice none 0 0,.slice none 0 0] true true 31) ∧ At g h3.next (.cells [zi n,slA p1 L.length,.slice none 0 0,slA p2 L.length] true true 113) ∧ At g h4.next (.cells [zi (n - c),slA bv m,.slice none 0 0,slA bk m] true true 113) ∧ RowA g p1 p2 L (knownL S L.length) ∧ RowA g bv bk (upTo 0 (valC (tapC L S T m)) m j) (upTo false ((tapC L S T m).map fun c => c.2) m j) ∧ At g cc (.cells [zi (n - c),slA bv m,.slice none 0 0] true true 31)) (fun j g q => ⟨q.2.2.2.2.2.2.2.2,_,upTo_len,by have:=q.2.2.2.2.2.2.2.1.sv;rwa [upTo_len] at this⟩) (fun j g q => (f.hx q.1).up (by omega)) ?_ ?_ ?_ ?_
 ·rintro j g g' x ⟨x1,x2,x3,x4,x5,x6,x7,x8,x9⟩ P
  have o:∀ b y,b < h10.next → At g b y → At g' b y:=fun b y hb a => P.oth _ _ (by omega) a
  exact ⟨P.hx _ x1 (by omega),by rw [P.next];exact x2,o _ _ (by omega) x3,o _ _ (by omega) x4,o _ _ (by omega) x5,o _ _ (by omega) x6,⟨o _ _ (by omega) x7.v,o _ _ (by omega) x7.k,x7.e,x7.n⟩,⟨o _ _ (by omega) x8.v,o _ _ (by omega) x8.k,x8.e,x8.n⟩,o _ _ (by omega) x9⟩
 ·rintro g x N
  have:=N.next
  exact ⟨Y10.trans N.hx,by omega,B3.hx N.hx,B4.hx N.hx,B9.hx N.hx,B10.hx N.hx,C1.hx N.hx,C2.hx N.hx,Ac.hx N.hx⟩
 ·rintro j g x hj _ A
  refine WL.reg <| WOL.as rfl <| WOL.nil ?_
  intro r' hr
  refine ⟨rfl,rfl,fun g2 xx ⟨x1,x2,x3,x4,x5,x6,x7,x8,x9⟩ A2 => ?_⟩
  refine hr.go ?_
  have hk:=tapB_known (S:=S) (m:=L.length) (i:=j) (T:=T) (fun t ht => by have:=ts.o t ht;omega)
  refine WL.block <| WL.sr <| WOL.ld rfl (load_row tp1194 x5 rfl (Nat.le_of_ble_eq_true rfl)) <| WOL.mv rfl <| WOL.ld rfl (load_one tp1214 x3 rfl) <| WOL.cl3 rfl rfl rfl rfl ((k1226 (n:=n) (i:=j) (p:=n - c + (j:Nat)) H x7 (s.hx x1) (by omega) (fun t ht => by have:=ts.o t ht;omega) ts.w ts.l lim n0 (by omega) (by omega) c1 c2 (f.on x1)).mono ?_)
  rintro u g3 ⟨rfl,X3⟩
  rw [hk]
  have hV:=tapV_get (L:=L) (S:=S) (T:=T) hj
  have hM:=tapM_get (L:=L) (S:=S) (T:=T) hj
  have xs:=X3.next
  refine WOL.mv rfl <| WOL.ex rfl rfl <| WOL.ex rfl rfl <| WOL.as rfl <| WOL.as rfl <| WOL.nil <| keep [(10,_),(11,_),(12,_),(13,_)] ⟨rfl,rfl,rfl,rfl,trivial⟩ ?_
  cases hb:tapK S j T with
  | false =>
   rw [hb] at hV hM
   refine WL.sr <| WOL.mv rfl <| WOL.nil <| WL.no rfl <| WL.skip fun r k => ⟨rfl,⟨x1.trans X3,by omega,x3.hx X3,x4.hx X3,x5.hx X3,x6.hx X3,x7.hx X3,?_,x9.hx X3⟩,A2.hx X3⟩
   rw [upTo_same hV,upTo_same hM]
   exact x8.hx X3
  | true =>
   rw [hb] at hV hM
   replace hV:(valC (tapC L S T m)).getD j 0 = tapN L j T 0:=hV
   have k:=k1181 (n:=n - c) (x:=tapN L j T 0) H (x8.hx X3) (i:=j) (by rw [upTo_len];exact hj) nc (by omega) (by rw [upTo_len];omega) (m:=h.next) (f.hx (x1.trans X3)) (by omega) (by omega)
   rw [upTo_len] at k
   refine WL.sr <| WOL.mv rfl <| WOL.nil <| WL.yes rfl <| WL.reg <| WOL.ld rfl (load_row tp1194 (x6.hx X3) rfl (Nat.le_of_ble_eq_true rfl)) <| WOL.mv rfl <| WOL.mv rfl <| WOL.cl3 rfl rfl rfl rfl (k.mono ?_)
   rintro u g5 ⟨z5,ra,o5,n5⟩
   refine WOL.nil fun r k => ⟨rfl,⟨z5 _ (x1.trans X3) (by omega) (by omega),by omega,o5 _ _ (by omega) (by omega) (x3.hx X3),o5 _ _ (by omega) (by omega) (x4.hx X3),o5 _ _ (by omega) (by omega) (x5.hx X3),o5 _ _ (by omega) (by omega) (x6.hx X3),⟨o5 _ _ (by omega) (by omega) (x7.v.hx X3),o5 _ _ (by omega) (by omega) (x7.k.hx X3),x7.e,x7.n⟩,?_,o5 _ _ (by omega) (by omega) (x9.hx X3)⟩,o5 _ _ (by omega) (by omega) (A2.hx X3)⟩
   rw [upTo_set,upTo_set,hV,hM]
   exact ra
 ·rintro g ⟨x1,x2,x3,x4,x5,x6,x7,x8,x9⟩
  rw [upTo_all (by unfold valC;rw [List.length_map];exact lC),upTo_all (by rw [List.length_map];exact lC)] at x8
  have lv:(valC (tapC L S T m)).length = m:=by unfold valC;rw [List.length_map];exact lC
  refine WL.sr <| WOL.ld rfl (load_row tp1194 x6 rfl (Nat.le_of_ble_eq_true rfl)) ?_
  have k:=k1182 (n:=n - c) H x8 (by omega) (f.on x1)
  rw [lv,← bigC_val] at k
  refine WOL.cl1 rfl rfl (k.mono ?_)
  rintro v g1 ⟨X,R⟩
  have xg:=(x1.trans X).next
  have xx:=X.next
  rcases R with ⟨hb,rfl⟩ | ⟨hb,w,rfl,to⟩
  ·refine WOL.ex rfl rfl <| WOL.ex rfl rfl <| WOL.sto (vs:=[zi 0,.slice none 0 0,.slice none 0 0]) rfl rfl tp1117 (x4.hx X) rfl rfl (Nat.le_of_ble_eq_true rfl) rfl (f.hx (x1.trans X)) (by omega) fun i1 M1 => WOL.as rfl <| WOL.nil ?_
   exact WL.ret (WL.endC1 rfl rfl (load_row tp1117 M1.at_ rfl (Nat.le_of_ble_eq_true rfl)) ⟨M1.hx _ (x1.trans X) (by omega),.inr (.inl ⟨rfl,hb,rfl⟩)⟩)
  ·obtain ⟨b2,m2,k2,rfl⟩:=to.form
   refine WOL.ex rfl rfl <| WOL.ex rfl rfl <| WOL.sto (vs:=[zi (n - c),slA bv m,.slice b2 m2 k2]) rfl rfl tp1117 (x4.hx X) rfl rfl (Nat.le_of_ble_eq_true rfl) rfl (f.hx (x1.trans X)) (by omega) fun i1 M1 => WOL.as rfl <| WOL.nil ?_
   refine WL.ret (WL.endC1 rfl rfl (load_row tp1117 M1.at_ rfl (Nat.le_of_ble_eq_true rfl)) ⟨M1.hx _ (x1.trans X) (by omega),.inr (.inr ⟨rfl,hb,bv,_,by rw [lC];rfl,by omega,(to.put M1 (by omega) (by omega)).low (by omega)⟩)⟩)
end
end Go.Tidy
namespace Go.Tidy
open Go Go.Proofs Tab
variable {tp:TProg}
section
variable {h:TH} {l:List Nat} {bo:Option Addr} {n k:Nat}
end
section
variable {h:TH} {K:Regs → TH → Prop} {rest:List TOper} {d:Option Tmp} {ty:TypeId} {i:Nat} {x:Operand} {L:Rg} {v:Value} {m:List Nat}
end
section
variable {hb h g g2 g':TH} {n b o cap c4 c2 c3 nB:Nat} {cur cur':Cu} {s s':ByteArray} {fi fi':Int} {w1 w2 w':Value} {F F':List Nat} {S S':List (Int × Int)}
theorem Put.relock {M:List Nat} {x:TB} {c:Nat} {h1:TH} (p:Put (h.withLock M) h1 c x):Put h (h1.withLock h.lock) c x :=
 ⟨p.at_.relock _,fun z y hz a => (p.oth z y hz (a.relock M)).relock _,p.next,p.floor,rfl,fun h0 y hb => by rw [y.lock];exact (p.hx _ (y.locked M) hb).relock⟩
end
end Go.Tidy
namespace Go.Tidy
open Go Go.Proofs Tab
variable {tp:TProg}
section
variable (l:List Nat) (c:Cu)
end
section
variable {h g:TH} {l:List Nat} {b o cap:Nat}
theorem Stm.relock (s:Stm h b o cap l) (M:List Nat):Stm (h.withLock M) b o cap l:=⟨by
 obtain ⟨cc,fix,wr,el,a,r⟩:=s.ex
 exact ⟨cc,fix,wr,el,a.relock M,r⟩,s.cap⟩
end
section
variable {hb h:TH} {l:List Nat} {b o cap c4:Nat} {c:Cu}
end
end Go.Tidy
namespace Go.Tidy
open Go Go.Proofs Tab
variable {tp:TProg}
section
variable {P:Program} {h:TH} {K:Regs → TH → Prop} {rest:List TOper} {d:Option Tmp} {ty:TypeId} {i:Nat} {x y:Operand} {t u:TypeId} {L:Rg} {s s':ByteArray}
end
section
variable (l:List Nat)
end
theorem RunH.relock {h:TH} {v1 v2:Value} {F:List Nat} {S:List (Int × Int)} (r:RunH h v1 v2 F S) (M:List Nat):RunH (h.withLock M) v1 v2 F S:=⟨r.f.relock M,r.s.relock M,r.g.relock M⟩
section
variable {h:TH} {l:List Nat} {b o n cap:Nat} {es L:List Int}
end
end Go.Tidy
namespace Go.Tidy
open Go Go.Proofs Tab
variable {tp:TProg}
section
variable {P:Program} {h:TH} {K:Regs → TH → Prop} {rest:List TOper} {d:Option Tmp} {ty:TypeId} {i:Nat} {x y:Operand} {t u:TypeId} {L:Rg}
theorem WOL.addN {m k:Nat} (hx:getL L x = some (zi (m:Nat))) (hy:getL L y = some (zi (k:Nat))) (hb:m + k ≤ 1000000000) (w:∀ a,Kn (putL L d (zi ((m + k:Nat):Int))) a → WO P tp rest a h K):∀ a,Kn L a → WO P tp (⟨d,.binOp .add t x y u,ty,none,[],i⟩ :: rest) a h K :=
 WOL.bi hx hy (by show some (Value.int .i64 (fwrap .i64 ((m:Int) + (k:Int)))) = _;rw [fwrap_i64 (by omega) (by omega)];rfl) w
theorem WOL.mulN {m k:Nat} (hx:getL L x = some (zi (m:Nat))) (hy:getL L y = some (zi (k:Nat))) (hb:m * k ≤ 1000000000) (w:∀ a,Kn (putL L d (zi ((m * k:Nat):Int))) a → WO P tp rest a h K):∀ a,Kn L a → WO P tp (⟨d,.binOp .mul t x y u,ty,none,[],i⟩ :: rest) a h K :=
 WOL.bi hx hy (by
  have e:((m * k:Nat):Int) = (m:Int) * (k:Int):=rfl
  show some (Value.int .i64 (fwrap .i64 ((m:Int) * (k:Int)))) = _
  rw [← e,fwrap_i64 (by omega) (by omega)]) w
end
structure RrU (h g:TH) (c2 c7 nB:Nat) (s:ByteArray) (fi:Int) (w1 w2:Value) (F:List Nat) (S:List (Int × Int)):Prop where
 x:HX h g
 nx:nB ≤ g.next
 a2:At g c2 (.cells [.string ⟨#[]⟩,zi 0,.slice none 0 0,.slice none 0 0] true true 76)
 a7:At g c7 (.cells [.string s,zi fi,w1,w2] true true 76)
 o1:OwnL encF nB g w1 156 F
 o2:OwnL encS nB g w2 103 S
 ne:∀ x,bl w1 = some x → bl w2 ≠ some x
section
variable {h g g2 g':TH} {c2 c7 nB:Nat} {s:ByteArray} {fi:Int} {w1 w2 w':Value} {F F':List Nat} {S S':List (Int × Int)}
theorem RrU.hx (q:RrU h g c2 c7 nB s fi w1 w2 F S) (x:HX g g'):RrU h g' c2 c7 nB s fi w1 w2 F S:=⟨q.x.trans x,Nat.le_trans q.nx x.next,q.a2.hx x,q.a7.hx x,q.o1.hx x,q.o2.hx x,q.ne⟩
end
end Go.Tidy
namespace Go.Tidy
open Go Go.Proofs Tab
variable {tp:TProg}
def wTn (Wt:List Int) (st:Nat):Nat → List (Nat × Int)
 | 0 => []
 | j + 1 => if Wt.getD j 0 = 0 then wTn Wt st j else wTn Wt st j ++ [(j * st,Wt.getD j 0)]
theorem wTn_len {Wt:List Int} {st:Nat}:∀ j,(wTn Wt st j).length ≤ j
  | 0 => Nat.le_refl _
  | j + 1 => by
    have:=wTn_len (Wt:=Wt) (st:=st) j
    unfold wTn
    split
    · omega
    · rw [List.length_append]
      show _ + 1 ≤ _
      omega
theorem wTn_w {Wt:List Int} {st:Nat} (h:∀ j,-10000 ≤ Wt.getD j 0 ∧ Wt.getD j 0 ≤ 10000):∀ j t,t ∈ wTn Wt st j → -10000 ≤ t.2 ∧ t.2 ≤ 10000
  | 0,t,ht => by cases ht
  | j + 1,t,ht => by
    unfold wTn at ht
    split at ht
    · exact wTn_w h j t ht
    · rcases List.mem_append.1 ht with q | q
      · exact wTn_w h j t q
      · cases List.mem_singleton.1 q
        exact h j
theorem zipK_get {L:List Int} {S:List (Int × Int)} {m q:Nat} (h:q < m):(zipK L S m)[q]? = some (L.getD q 0,knownB S (q:Nat)):=by
 unfold zipK
 rw [tbl_get,if_pos h]
theorem tapK_app {S:List (Int × Int)} {i o:Nat} {x:Int} {T:List (Nat × Int)}:tapK S i (T ++ [(o,x)]) = (tapK S i T && knownB S ((i + o:Nat):Int)):=by
 unfold tapK
 rw [List.all_append]
 simp
def TapR (n:Int) (e:Int) (C:List (Int × Bool)) (n0:Nat) (h':TH) (v:Value):Prop :=
 (e ≠ 0 ∧ v = .tuple #[trcV 0 (.slice none 0 0) (.slice none 0 0),zi e]) ∨ (e = 0 ∧ MadeR n C n0 h' v)
theorem TapR.ans {n e:Int} {C:List (Int × Bool)} {n0:Nat} {g:TH} {v:Value} (r:TapR n e C n0 g v):Ans n (sumO e C) n0 g v:=by
 rcases r with ⟨h1,h2⟩ | ⟨rfl,h1⟩
 ·unfold sumO
  rw [if_pos h1];exact Ans.err h1 h2
 ·exact h1.ans
section
variable {h:TH} {n:Int} {v1 v2:Value} {L:List Int} {S:List (Int × Int)} {w:Value} {Wt:List Int} {b a st:Nat}
set_option maxHeartbeats 4000000 in
set_option maxRecDepth 10000 in
theorem k1197 (H:Has tp) (r:TrcH h v1 v2 L S) (s:SlL encI 1 h w Wt) (hk:∀ k,k < Wt.length → k * st ≤ b + a) (hb:b ≤ 100000) (ha:a ≤ 100000) (hst:st ≤ 1000) (lW:Wt.length ≤ 1000) (hw:∀ j,-10000 ≤ Wt.getD j 0 ∧ Wt.getD j 0 ≤ 10000) (lim:∀ j,-1073741824 ≤ L.getD j 0 ∧ L.getD j 0 ≤ 1073741824) (n0:0 ≤ n) (n1:n ≤ 100000000) (l1:L.length ≤ 900000) (t1:S.length ≤ 1000000) (f:Free0 h.next h) :
    CallW Tryz.prog tp (.func (.func 97) #[] #[]) #[trcV n v1 v2,w,zi (b:Nat),zi (a:Nat),zi (st:Nat)] h fun v h' => HX h h' ∧ TapR (n + b) (cond (decide (L.length ≤ b + a)) 16 0) (tapC L S (wTn Wt st Wt.length) (L.length - (b + a))) h.next h' v:=by
  refine CallW.fnL (H.fn 97 f1197 rfl rfl) ?_
  obtain ⟨b1,k1,e1,_⟩:=id r.l
  obtain ⟨b2,k2,e2,_⟩:=id r.s
  subst e1 e2
  refine WL.sr <| WOL.box rfl fun h1 N1 => WOL.al tp1114 fun h2 N2 => WOL.as rfl <| WOL.nil <| keep [(1,_),(2,_),(3,_),(4,_),(5,_),(10,_)] ⟨rfl,rfl,rfl,rfl,rfl,rfl,trivial⟩ ?_
  have q1:=N1.next
  have q2:=N2.next
  have A5:At h2 h.next (.cells [zi n,.slice b1 L.length k1,.slice b2 S.length k2] true true 27):=N1.at_.hx N2.hx
  have A10:=N2.at_
  have X2:=N1.hx.trans N2.hx
  refine WL.sr <| WOL.ld rfl (load_row tp1114 A5 rfl (Nat.le_of_ble_eq_true rfl)) <| WOL.cl1 rfl rfl ((k1189 H (r.hx X2) l1 t1 (f.on X2)).mono ?_)
  rintro av h3 ⟨X3,O12⟩
  have q3:=X3.next
  have Y3:=X2.trans X3
  replace A5:=A5.hx X3
  replace A10:=A10.hx X3
  have sA:=O12.sl eC
  refine WOL.as rfl <| WOL.nil <| keep [(1,_),(2,_),(3,_),(4,_),(5,_),(10,_),(12,_)] ⟨rfl,rfl,rfl,rfl,rfl,rfl,rfl,trivial⟩ ?_
  refine WL.sr <| WOL.as rfl <| WOL.nil ?_
  refine WL.seq <| WL.sr <| WOL.mv rfl <| WOL.as rfl <| WOL.nil ?_
  have hm:∀ j,j < L.length - (b + a) ↔ b + j + a < L.length:=fun j => by omega
  generalize hmm:L.length - (b + a) = m at *
  have lm:m ≤ L.length:=by omega
  refine WL.fori (α:=Value) m (fun j u g => HX h3 g ∧ OwnL encC h3.next g u 135 (tapC L S (wTn Wt st Wt.length) j)) (fun j u => [(1,w),(2,zi (b:Nat)),(3,zi (a:Nat)),(4,zi (st:Nat)),(5,ptr h.next),(10,ptr h1.next),(12,av),(13,u),(14,zi ((b + j:Nat):Int))]) (fun j u => [(1,w),(2,zi (b:Nat)),(3,zi (a:Nat)),(4,zi (st:Nat)),(5,ptr h.next),(10,ptr h1.next),(12,av),(13,u),(14,zi ((b + j:Nat):Int))]) (.slice none 0 0) ⟨HX.refl _,.inl ⟨rfl,rfl⟩⟩ ⟨rfl,rfl,rfl,rfl,rfl,rfl,rfl,rfl,rfl,trivial⟩ ?_ ?_ (fun _ _ _ => ⟨rfl,rfl,rfl,rfl,rfl,rfl,rfl,rfl,rfl,trivial⟩) ?_ ?_
  · rintro j u g hj ⟨X,_⟩
    refine WOL.mv rfl <| WOL.mv rfl <| WOL.addN (m:=b + j) (k:=a) rfl rfl (by omega) <| WOL.mv rfl <| WOL.len rfl (sA.hx X) u1205 <| WOL.bi (v:=.bool (decide (j < m))) rfl rfl ?_ <| WOL.nil fun x q => ⟨rfl,q.sub ⟨rfl,rfl,rfl,rfl,rfl,rfl,rfl,rfl,rfl,rfl,trivial⟩⟩
    show some (Value.bool (decide (((b + j + a:Nat):Int) < (((zipK L S L.length).length:Nat):Int)))) = _
    rw [zip_len,show decide (((b + j + a:Nat):Int) < ((L.length:Nat):Int)) = decide (j < m) from decide_eq_decide.2 (by rw [hm];omega)]
  · rintro j u g hj q
    exact WOL.mv rfl <| WOL.inc rfl (by omega) <| WOL.as rfl <| WOL.nil fun x k => ⟨q,k.sub ⟨rfl,rfl,rfl,rfl,rfl,rfl,rfl,rfl,rfl,trivial⟩⟩
  · rintro j u g hj ⟨X,O⟩
    have xg:=X.next
    have Yg:=Y3.trans X
    refine WL.sr <| WOL.bd rfl bd1207 <| WOL.al tp1207 fun i1 M1 => WOL.sto (vs:=encC (0,true)) rfl rfl tp1207 M1.at_ rfl rfl (Nat.le_of_ble_eq_true rfl) rfl (f.hx (Yg.trans M1.hx)) (by omega) fun i2 M2 => WOL.nil <| keep [(1,_),(2,_),(3,_),(4,_),(5,_),(10,_),(12,_),(13,_),(14,_),(15,_)] ⟨rfl,rfl,rfl,rfl,rfl,rfl,rfl,rfl,rfl,rfl,trivial⟩ ?_
    have A15:At i2 g.next (.cells [zi 0,.bool true] true true 135):=M2.at_
    have XI:HX g i2:=M2.hx _ M1.hx (Nat.le_refl _)
    refine WL.seq <| WL.sr <| WOL.as rfl <| WOL.nil ?_
    refine WL.forz (α:=Unit) Wt.length (fun k _ g' => HX g g' ∧ At g' g.next (.cells [zi (tapN L j (wTn Wt st k) 0),.bool (tapK S j (wTn Wt st k))] true true 135)) (fun k _ => [(1,w),(2,zi (b:Nat)),(3,zi (a:Nat)),(4,zi (st:Nat)),(5,ptr h.next),(10,ptr h1.next),(12,av),(13,u),(14,zi ((b + j:Nat):Int)),(15,ptr g.next),(16,zi (k:Nat))]) (fun k _ => [(1,w),(2,zi (b:Nat)),(3,zi (a:Nat)),(4,zi (st:Nat)),(5,ptr h.next),(10,ptr h1.next),(12,av),(13,u),(14,zi ((b + j:Nat):Int)),(15,ptr g.next),(16,zi (k:Nat))]) () ⟨XI,A15⟩ ⟨rfl,rfl,rfl,rfl,rfl,rfl,rfl,rfl,rfl,rfl,rfl,trivial⟩ ?_ ?_ (fun _ _ _ => ⟨rfl,rfl,rfl,rfl,rfl,rfl,rfl,rfl,rfl,rfl,rfl,trivial⟩) ?_ ?_
    · rintro k _ g' hj' ⟨Z,_⟩
      exact WOL.mv rfl <| WOL.mv rfl <| WOL.len rfl (s.hx (Yg.trans Z)) u29 <| WOL.bi rfl rfl rfl <| WOL.nil fun x q => ⟨rfl,q.sub ⟨rfl,rfl,rfl,rfl,rfl,rfl,rfl,rfl,rfl,rfl,rfl,rfl,trivial⟩⟩
    · rintro k _ g' hj' q
      exact WOL.mv rfl <| WOL.inc rfl (by omega) <| WOL.as rfl <| WOL.nil fun x k => ⟨q,k.sub ⟨rfl,rfl,rfl,rfl,rfl,rfl,rfl,rfl,rfl,rfl,rfl,trivial⟩⟩
    · rintro k _ g' hk' ⟨Z,A⟩
      have Yz:=Yg.trans Z
      have la:=A.lt
      have zg:=Z.next
      have hp:Wt[k]? = some (Wt.getD k 0):=by rw [List.getD_eq_getElem?_getD,List.getElem?_eq_getElem hk'];rfl
      have hst':wTn Wt st (k + 1) = if Wt.getD k 0 = 0 then wTn Wt st k else wTn Wt st k ++ [(k * st,Wt.getD k 0)]:=rfl
      obtain ⟨w1,w2⟩:=hw k
      generalize Wt.getD k 0 = x at *
      obtain ⟨_,_,cc,fix,wr,el,g1,g2,g3,g4,g5⟩:=(s.hx Yz).at eI u29 tp3 hp .i64
      have gx:=g5 0 (by decide)
      rw [Nat.add_zero] at gx
      refine WL.sr <| WOL.mv rfl <| WOL.mv rfl <| WOL.ix rfl rfl g1 <| WOL.ld rfl (load_one tp3 g2 gx) ?_
      by_cases h0:x = 0
      · rw [if_pos h0] at hst'
        refine WOL.bf rfl rfl rfl (by first | exact decide_eq_false (by omega) | exact beq_eq_false_iff_ne.2 (by omega) | exact bne_eq_false_iff_eq.2 (by omega)) <| WOL.nil <| WL.no rfl <| WL.skip fun y q => ⟨(),⟨Z,?_⟩,q.sub ⟨rfl,rfl,rfl,rfl,rfl,rfl,rfl,rfl,rfl,rfl,rfl,trivial⟩⟩
        rw [hst'];exact A
      rw [if_neg h0] at hst'
      have hq:j + k * st < L.length:=by have:=hk k hk';have:=(hm j).1 hj;omega
      have hkk:k * st ≤ 200000:=by have:=hk k hk';omega
      refine WOL.bt rfl rfl rfl (by first | exact decide_eq_true (by omega) | exact beq_iff_eq.2 (by omega) | exact bne_iff_ne.2 (by omega)) <| WOL.nil <| keep [(1,_),(2,_),(3,_),(4,_),(5,_),(10,_),(12,_),(13,_),(14,_),(15,_),(16,_),(40,_)] ⟨rfl,rfl,rfl,rfl,rfl,rfl,rfl,rfl,rfl,rfl,rfl,rfl,trivial⟩ ?_
      obtain ⟨_,_,cc',fix',wr',el',y1,y2,y3,y4,y5⟩:=(sA.hx (X.trans Z)).at eC u1205 tp1207 (zipK_get (L:=L) (S:=S) hq) .i64
      obtain ⟨b1',b2'⟩:=lim (j + k * st)
      refine WL.yes rfl <| WL.sr <| WOL.mv rfl <| WOL.mv rfl <| WOL.mv rfl <| WOL.sub (m:=((b + j:Nat):Int)) (n:=(b:Int)) rfl rfl (by omega) (by omega) ?_
      rw [show ((b + j:Nat):Int) - (b:Int) = ((j:Nat):Int) by omega]
      refine WOL.mv rfl <| WOL.mv rfl <| WOL.mulN rfl rfl (by omega) <| WOL.addN rfl rfl (by omega) <| WOL.ix rfl rfl y1 <| WOL.ld rfl (load_row tp1207 y2 y4 y3) <| WOL.al tp1207 fun i3 M3 => ?_
      have m3:=M3.next
      refine WOL.sto (vs:=encC (L.getD (j + k * st) 0,knownB S ((j + k * st:Nat):Int))) rfl rfl tp1207 M3.at_ rfl rfl (Nat.le_of_ble_eq_true rfl) rfl (f.hx (Yz.trans M3.hx)) (by have:=Yz.next;omega) fun i4 M4 => WOL.nil <| keep [(1,_),(2,_),(3,_),(4,_),(5,_),(10,_),(12,_),(13,_),(14,_),(15,_),(16,_),(17,_)] ⟨rfl,rfl,rfl,rfl,rfl,rfl,rfl,rfl,rfl,rfl,rfl,rfl,trivial⟩ ?_
      have m4:=M4.next
      have A17:At i4 g'.next (.cells [zi (L.getD (j + k * st) 0),.bool (knownB S ((j + k * st:Nat):Int))] true true 135):=M4.at_
      have A':=M4.oth _ _ (by omega) (A.hx M3.hx)
      have Z4:HX g i4:=M4.hx _ (Z.trans M3.hx) (by omega)
      have Y4:=Yg.trans Z4
      obtain ⟨_,_,cd,fixd,wrd,eld,d1,d2,d3,d4,d5⟩:=(s.hx Y4).at eI u29 tp3 hp .i64
      have dx:=d5 0 (by decide)
      rw [Nat.add_zero] at dx
      obtain ⟨m1,m2⟩:=mul_lim w1 w2 b1' b2'
      have ll:=tapN_lim (i:=j) lim (T:=wTn Wt st k) (s:=0) (B:=0) (fun t ht => wTn_w hw k t ht) (by omega) (by omega)
      have lk:=wTn_len (Wt:=Wt) (st:=st) k
      refine WL.sr <| WOL.fa rfl (fa_of fo1207_0) <| WOL.ld rfl (load_one tp3 A' rfl) <| WOL.mv rfl <| WOL.mv rfl <| WOL.ix rfl rfl d1 <| WOL.ld rfl (load_one tp3 d2 dx) <| WOL.fa rfl (fa_of fo1207_0) <| WOL.ld rfl (load_one tp3 A17 rfl) <| WOL.mul rfl rfl (by omega) (by omega) <| WOL.add rfl rfl (by omega) (by omega) <| WOL.fa rfl (fa_of fo1207_0) <| WOL.sto (vs:=encI (tapN L j (wTn Wt st k) 0 + x * L.getD (j + k * st) 0)) rfl rfl tp3 A' rfl rfl (Nat.le_of_ble_eq_true rfl) rfl (f.hx Y4) (by omega) fun i5 M5 => WOL.nil <| keep [(1,_),(2,_),(3,_),(4,_),(5,_),(10,_),(12,_),(13,_),(14,_),(15,_),(16,_),(17,_)] ⟨rfl,rfl,rfl,rfl,rfl,rfl,rfl,rfl,rfl,rfl,rfl,rfl,trivial⟩ ?_
      have m5:=M5.next
      have A5':At i5 g.next (.cells [zi (tapN L j (wTn Wt st k) 0 + x * L.getD (j + k * st) 0),.bool (tapK S j (wTn Wt st k))] true true 135):=M5.at_
      have A17':=M5.oth _ _ (by omega) A17
      have Z5:HX g i5:=M5.hx _ Z4 (by omega)
      have hN:tapN L j (wTn Wt st (k + 1)) 0 = tapN L j (wTn Wt st k) 0 + x * L.getD (j + k * st) 0:=by rw [hst',tapN_app];rfl
      have hK:tapK S j (wTn Wt st (k + 1)) = (tapK S j (wTn Wt st k) && knownB S ((j + k * st:Nat):Int)):=by rw [hst',tapK_app]
      refine WL.reg <| WOL.fa rfl (fa_of fo1207_1) <| WOL.ld rfl (load_one tp4 A5' rfl) <| WOL.mv rfl ?_
      have fin:∀ B:Bool,B = tapK S j (wTn Wt st (k + 1)) → ∀ y,Kn [(1,w),(2,zi (b:Nat)),(3,zi (a:Nat)),(4,zi (st:Nat)),(5,ptr h.next),(10,ptr h1.next),(12,av),(13,u),(14,zi ((b + j:Nat):Int)),(15,ptr g.next),(16,zi (k:Nat)),(67,.bool B)] y → WO Tryz.prog tp (r1197_11.drop 6) y i5 (fun y g' => ∃ x:Unit,(HX g g' ∧ At g' g.next (.cells [zi (tapN L j (wTn Wt st (k + 1)) 0),.bool (tapK S j (wTn Wt st (k + 1)))] true true 135)) ∧ Kn [(1,w),(2,zi (b:Nat)),(3,zi (a:Nat)),(4,zi (st:Nat)),(5,ptr h.next),(10,ptr h1.next),(12,av),(13,u),(14,zi ((b + j:Nat):Int)),(15,ptr g.next),(16,zi (k:Nat))] y):=by
        intro B hB
        refine WOL.fa rfl (fa_of fo1207_1) <| WOL.sto (vs:=encB B) rfl rfl tp4 A5' rfl rfl (Nat.le_of_ble_eq_true rfl) rfl (f.hx (Yg.trans Z5)) (by omega) fun i6 M6 => WOL.nil fun y q => ⟨(),⟨M6.hx _ Z5 (by omega),?_⟩,q.sub ⟨rfl,rfl,rfl,rfl,rfl,rfl,rfl,rfl,rfl,rfl,rfl,trivial⟩⟩
        rw [hN,← hB]
        exact M6.at_
      cases hkk':tapK S j (wTn Wt st k) with
      | true =>
        rw [hkk',Bool.true_and] at hK
        exact WOL.now (b:=true) rfl rfl <| WOL.fa rfl (fa_of fo1207_1) <| WOL.now (b:=true) rfl rfl <| WOL.ld rfl (load_one tp4 A17' rfl) <| WOL.pkt rfl rfl <| kto (fin _ hK.symm) ⟨rfl,rfl,rfl,rfl,rfl,rfl,rfl,rfl,rfl,rfl,rfl,rfl,trivial⟩
      | false =>
        rw [hkk',Bool.false_and] at hK
        exact WOL.skp (b:=false) rfl rfl <| WOL.skp (b:=false) rfl rfl <| WOL.pkf rfl rfl <| kto (fin _ hK.symm) ⟨rfl,rfl,rfl,rfl,rfl,rfl,rfl,rfl,rfl,rfl,rfl,rfl,trivial⟩
    · rintro _ g' ⟨Z,A⟩
      have zg:=Z.next
      have Yz:=Yg.trans Z
      refine WL.reg <| WOL.mv rfl <| WOL.ld rfl (load_row tp1207 A rfl (Nat.le_of_ble_eq_true rfl)) <| WOL.bsl rfl u1205 tp1207 (by decide) (by decide) (by decide) (cs:=encC (tapN L j (wTn Wt st Wt.length) 0,tapK S j (wTn Wt st Wt.length))) rfl fun i5 N5 => ?_
      have n5:=N5.next
      obtain ⟨u',i6,ap,O',x6,_,_,_⟩:=own_push (sT:=133) (x:=(tapN L j (wTn Wt st Wt.length) 0,tapK S j (wTn Wt st Wt.length))) eC u1205 tp1207 ((O.hx Z).hx N5.hx) (SlC.own (sz:=2) (m:=1) rfl N5.at_) ((f.hx (Yz.trans N5.hx)).up (by omega)) (by rw [tapC_len];omega) (by omega)
      rw [← tapC_succ] at O'
      exact WOL.ap rfl rfl ap <| WOL.as rfl <| WOL.nil fun y q => ⟨u',⟨x6 _ ((X.trans Z).trans N5.hx) (Nat.le_refl _),O'⟩,q.sub ⟨rfl,rfl,rfl,rfl,rfl,rfl,rfl,rfl,rfl,trivial⟩⟩
  · rintro u g ⟨X,O⟩
    have xg:=X.next
    have Yg:=Y3.trans X
    have sO:=O.sl eC
    refine WL.seq <| WL.sr <| WOL.mv rfl <| WOL.len rfl sO u1205 ?_
    rw [tapC_len]
    by_cases h0:L.length ≤ b + a
    · rw [decide_eq_true h0]
      refine WOL.bt rfl rfl rfl (by first | exact decide_eq_true (by omega) | exact beq_iff_eq.2 (by omega) | exact bne_iff_ne.2 (by omega)) <| WOL.nil <| WL.yes rfl <| WL.sr <| WOL.bd rfl bd1114z <| WOL.sto (vs:=[zi 0,.slice none 0 0,.slice none 0 0]) rfl rfl tp1114 (A10.hx X) rfl rfl (Nat.le_of_ble_eq_true rfl) rfl (f.hx Yg) (by omega) fun i1 M1 => WOL.as rfl <| WOL.nil ?_
      exact WL.ret (WL.endC1 rfl rfl (load_row tp1114 M1.at_ rfl (Nat.le_of_ble_eq_true rfl)) ⟨M1.hx _ Yg (by omega),.inl ⟨by decide,rfl⟩⟩)
    rw [decide_eq_false h0]
    refine WOL.bf rfl rfl rfl (by first | exact decide_eq_false (by omega) | exact beq_eq_false_iff_ne.2 (by omega) | exact bne_eq_false_iff_eq.2 (by omega)) <| WOL.nil <| WL.no rfl <| WL.skip ?_
    refine WL.sr <| WOL.fa rfl (fa_of fo1114_0) <| WOL.ld rfl (load_one tp3 (A5.hx X) rfl) <| WOL.mv rfl <| WOL.add (m:=n) (n:=(b:Int)) rfl rfl (by omega) (by omega) <| WOL.mv rfl <| WOL.cl2 rfl rfl rfl ((k1188 H sO (by rw [tapC_len];omega) (f.on Yg)).mono ?_)
    rintro v g2 ⟨X2',R⟩
    have Z:=Yg.trans X2'
    have B10:=(A10.hx X).hx X2'
    have xx:=X2'.next
    rcases R with ⟨hb,rfl⟩ | ⟨hb,u1,u2,rfl,O1,O2⟩
    · refine WOL.ex rfl rfl <| WOL.ex rfl rfl <| WOL.sto (vs:=[zi 0,.slice none 0 0,.slice none 0 0]) rfl rfl tp1114 B10 rfl rfl (Nat.le_of_ble_eq_true rfl) rfl (f.hx Z) (by omega) fun i1 M1 => WOL.as rfl <| WOL.nil ?_
      exact WL.ret (WL.endC1 rfl rfl (load_row tp1114 M1.at_ rfl (Nat.le_of_ble_eq_true rfl)) ⟨M1.hx _ Z (by omega),.inr ⟨rfl,.inl ⟨hb,rfl⟩⟩⟩)
    · obtain ⟨z1,e1⟩:=OwnF.form (Or.inl O1)
      obtain ⟨z2,e2⟩:=OwnF.form (Or.inl O2)
      refine WOL.ex rfl rfl <| WOL.ex rfl rfl <| WOL.sto (vs:=[zi (n + b),u1,u2]) rfl rfl tp1114 B10 rfl rfl (Nat.le_of_ble_eq_true rfl) (by rw [e1,e2];rfl) (f.hx Z) (by omega) fun i1 M1 => WOL.as rfl <| WOL.nil ?_
      exact WL.ret (WL.endC1 rfl rfl (load_row tp1114 M1.at_ rfl (Nat.le_of_ble_eq_true rfl)) ⟨M1.hx _ Z (by omega),.inr ⟨rfl,.inr ⟨hb,u1,u2,rfl,(O1.keep fun z y hz a => M1.oth _ _ (by have:=O1.lt hz;omega) a).low (by omega),(O2.keep fun z y hz a => M1.oth _ _ (by have:=O2.lt hz;omega) a).low (by omega)⟩⟩⟩)
end
end Go.Tidy
namespace Go.Tidy
open Go Go.Proofs Tab
variable {tp:TProg}
def errV (E:Int) (m w:Nat):Int:=if E ≠ 0 then E else cond (decide (m ≤ w)) 16 0
theorem errV_ok {m w:Nat}:errV 0 m w = cond (decide (m ≤ w)) 16 0:=by unfold errV;rw [if_neg (by decide)]
theorem errV_no {E:Int} {m w:Nat} (h:E ≠ 0):errV E m w = E:=by unfold errV;rw [if_pos h]
section
variable {h:TH} {n a b:Int} {v1 v2:Value} {L:List Int} {S:List (Int × Int)}
end
end Go.Tidy
namespace Go.Tidy
open Go Go.Proofs Tab
variable {tp:TProg}
theorem k11t (A:Awk tp) (h:TH):CallW Tryz.prog tp (.func (.func 12) #[] #[]) #[] h fun v h' => v = .bool true ∧ h' = h:=by
 obtain ⟨e,e1,e2⟩:=A.e
 exact CallW.ext A.no e1 rfl e2 rfl ⟨rfl,rfl⟩
theorem IsInts.keep {g g':TH} {y:Value} {L:List Int} (i:IsInts g y L) (k:∀ b x,bl y = some b → At g b x → At g' b x):IsInts g' y L:=by
 rcases i with i | ⟨b,c,fix,wr,el,i1,i2,i3⟩
 ·exact .inl i
 ·subst i1
  have:=k b _ rfl ⟨i3,i2⟩
  exact .inr ⟨b,c,fix,wr,el,rfl,this.lt,this.get⟩
def CelA (ty:TypeId) (n:Int) (o:Int × List Int × List (Int × Int)) (g:TH) (c:Nat):Prop:=∃ z b1 m1 k1 b2 m2 k2,At g c (.cells [zi z,.slice b1 m1 k1,.slice b2 m2 k2] true true ty) ∧ IsInts g (.slice b1 m1 k1) o.2.1 ∧ SlL encS 2 g (.slice b2 m2 k2) o.2.2 ∧ ((o.1 ≠ 0 ∧ z = 0 ∧ o.2.1 = [] ∧ o.2.2 = []) ∨ (o.1 = 0 ∧ z = n))
theorem CelA.hx {ty:TypeId} {n:Int} {o:Int × List Int × List (Int × Int)} {g g':TH} {c:Nat} (q:CelA ty n o g c) (x:HX g g'):CelA ty n o g' c:=by
 obtain ⟨z,b1,m1,k1,b2,m2,k2,A,i,s,e⟩:=q
 exact ⟨z,b1,m1,k1,b2,m2,k2,A.hx x,i.hx x,s.hx x,e⟩
section
variable {h h0:TH} {a b n1 n2 m1 m2 e1:Int} {v1 v2 w1 w2:Value} {L1:List Int} {S1:List (Int × Int)} {o1 o2:Int × List Int × List (Int × Int)} {c3 c4 c7 c9 c14 c15:Nat}
end
end Go.Tidy
namespace Go.Tidy
open Go Go.Proofs Tab
variable {tp:TProg}
theorem shortB2_le {m k:Nat} (h:shortB2 m k = true):m ≤ 900000 ∧ k ≤ 900000:=by
 unfold shortB2 at h
 cases h1:decide ((m:Int) ≤ 60) with
 | true =>
  rw [h1] at h
  have a1:=of_decide_eq_true h1
  have a2:((k:Int) ≤ 12):=of_decide_eq_true h
  omega
 | false =>
  rw [h1] at h
  cases h2:((m:Int) == 4097) with
  | true =>
   rw [h2] at h
   have a1:(m:Int) = 4097:=eq_of_beq h2
   have a2:((k:Int) ≤ 12):=of_decide_eq_true h
   omega
  | false => rw [h2] at h;cases h
theorem holesOf_le (B:List Bool):(holesOf B).length ≤ B.length:=by
 have:=holesN_len B B.length
 show (holesN _ _).length ≤ _
 exact this
section
variable {h:TH} {a b n1 n2 p:Int} {v1 v2 w1 w2:Value} {L1 L2:List Int} {S1 S2:List (Int × Int)}
end
set_option maxRecDepth 100000 in
theorem ty_trc {h:TH} {n:Nat} {ps:List Value} (y:Ty Tryz.prog h (n + 4) 27 ps):∃ z v1 v2 L S,ps = [zi z,v1,v2] ∧ TrcH h v1 v2 L S:=by
 obtain ⟨p,q,rfl,_,y1,p',q',rfl,_,y2,p2,q2,rfl,_,y3,rfl⟩:=tyg_struct Tryz.underlying27 y
 obtain ⟨z,rfl,_⟩:=ty_int y1
 obtain ⟨v1,L,rfl,r1,g1⟩:=tyg_slice eI u29 (fun p y => by obtain ⟨b,e,_⟩:=ty_int y;exact ⟨b,e⟩) y2
 obtain ⟨v2,S,rfl,r2,_⟩:=tyg_slice eS u44 (fun p y => ty_span y) y3
 exact ⟨z,v1,v2,L,S,rfl,r1,r2,g1 3⟩
end Go.Tidy
namespace Go.Tidy
open Go Go.Proofs Tab
variable {tp:TProg}
theorem sumO_l1 {e:Int} {C:List (Int × Bool)}:(sumO e C).2.1.length ≤ C.length:=by
 unfold sumO
 split
 ·exact Nat.zero_le _
 ·split
  ·exact Nat.zero_le _
  ·show (valC C).length ≤ _
   unfold valC
   rw [List.length_map];exact Nat.le_refl _
theorem sumO_l2 {e:Int} {C:List (Int × Bool)}:(sumO e C).2.2.length ≤ C.length:=by
 unfold sumO
 split
 ·exact Nat.zero_le _
 ·split
  ·exact Nat.zero_le _
  ·refine Nat.le_trans (holesOf_le _) ?_
   rw [List.length_map];exact Nat.le_refl _
theorem sumO_err {e:Int} {C:List (Int × Bool)} (h:e ≠ 0):sumO e C = (e,[],[]):=by unfold sumO;rw [if_pos h]
theorem CelA.err {n e:Int} {g:TH} {c:Nat} {ty:TypeId} (h:e ≠ 0) (A:At g c (.cells [zi 0,.slice none 0 0,.slice none 0 0] true true ty)):CelA ty n (e,[],[]) g c:=⟨0,_,_,_,_,_,_,A,.inl ⟨rfl,rfl⟩,SlL.nil,.inl ⟨h,rfl,rfl,rfl⟩⟩
theorem CelA.keep {ty:TypeId} {n:Int} {o:Int × List Int × List (Int × Int)} {g g':TH} {c:Nat} (q:CelA ty n o g c) (k:∀ b x,At g b x → At g' b x):CelA ty n o g' c:=by
 obtain ⟨z,b1,m1,k1,b2,m2,k2,A,i,s,e⟩:=q
 exact ⟨z,b1,m1,k1,b2,m2,k2,k _ _ A,i.keep fun b x _ a => k _ _ a,slC_keep s fun b x _ a => k _ _ a,e⟩
theorem celOne {n:Int} {o:Int × List Int × List (Int × Int)} {g h0:TH} {c c':Nat} (H:Has tp) (f:Free0 h0.next h0) (X0:HX h0 g) (C:CelA 31 n o g c) (C':CelA 27 n o g c') (l1:o.2.1.length ≤ 1000000) (l2:o.2.2.length ≤ 1000000):∃ u1 u2,At g c u1 ∧ At g c' u2 ∧ ∃ z z' b1 m1 k1 b2 m2 k2 b3 m3 k3 b4 m4 k4,u1 = .cells [zi z,.slice b1 m1 k1,.slice b2 m2 k2] true true 31 ∧ u2 = .cells [zi z',.slice b3 m3 k3,.slice b4 m4 k4] true true 27 ∧ CallW Tryz.prog tp (.func (.func 24) #[] #[]) #[trcV z (.slice b1 m1 k1) (.slice b2 m2 k2),zi o.1,zi o.1,trcV z' (.slice b3 m3 k3) (.slice b4 m4 k4)] g fun v h' => v = .bool true ∧ HX g h':=by
 obtain ⟨z,b1,m1,k1,b2,m2,k2,A,i,s,e⟩:=C
 obtain ⟨z',b3,m3,k3,b4,m4,k4,A',i',s',e'⟩:=C'
 refine ⟨_,_,A,A',z,z',b1,m1,k1,b2,m2,k2,b3,m3,k3,b4,m4,k4,rfl,rfl,k1124 (n:=z) (n':=z') H i s rfl rfl l1 l2 (f.on X0) ?_⟩
 rcases e with e | ⟨q1,q2⟩
 ·exact .inl e
 ·rcases e' with e' | ⟨q3,q4⟩
  ·exact absurd q1 e'.1
  ·exact .inr ⟨q1,q2.trans q4.symm,i',s'⟩
section
variable {h h0:TH} {a b n m1 m2 E1:Int} {v1 v2 w9 w16:Value} {L:List Int} {S:List (Int × Int)} {l3:List Int} {o1 o2:Int × List Int × List (Int × Int)} {c2 c3 c5 c7 c14 c15 p q:Nat}
end
end Go.Tidy
namespace Go.Tidy
open Go Go.Proofs Tab
variable {tp:TProg}
section
variable {h h0 hb:TH} {a b n:Int} {v1 v2 w9:Value} {L:List Int} {S:List (Int × Int)} {o1 o2:Int × List Int × List (Int × Int)} {c2 c3 c5 c7 c14 c15:Nat}
end
theorem args2 {P:Program} {h:TH} {m:Nat} {t0 t1:TypeId} {us:List Value} (ha:Args P h m [t0,t1] us):∃ x0 x1,us = [x0,x1] ∧ (∃ ps,Ty P h m t0 ps ∧ x0 = valOf P t0 ps) ∧ ∃ ps,Ty P h m t1 ps ∧ x1 = valOf P t1 ps:=by
 match us,ha with
 | [x0,x1],⟨a0,a1,_⟩ => exact ⟨x0,x1,rfl,a0,a1⟩
end Go.Tidy
namespace Go.Tidy
open Go Go.Proofs Tab
variable {tp:TProg}
theorem out_mm {x l m:Int} (h:outB x l m = 0):l ≤ x ∧ x ≤ m:=by
 unfold outB at h
 by_cases c1:x < l
 ·rw [decide_eq_true c1] at h;cases h
 ·by_cases c2:m < x
  ·rw [decide_eq_false c1,decide_eq_true c2] at h;cases h
  ·omega
section
variable {h:TH} {n a b s:Int} {v1 v2:Value} {L:List Int} {S:List (Int × Int)} {p q st:Nat}
end
end Go.Tidy
namespace Go.Tidy
open Go Go.Proofs Tab
variable {tp:TProg}
def rT (m:Nat) (g:Nat → Int):List (Nat × Int):=(List.range m).map fun i => (i,g i)
theorem rT_len {m:Nat} {g:Nat → Int}:(rT m g).length = m:=by unfold rT;rw [List.length_map,List.length_range]
theorem rT_get {m i:Nat} {g:Nat → Int} (h:i < m):(rT m g)[i]? = some (i,g i):=by
 unfold rT
 rw [tbl_get,if_pos h]
theorem rTaps {k:Nat} {g:Nat → Int} (hk:k ≤ 900) (hg:∀ i,i < k + 1 → -10000 ≤ g i ∧ g i ≤ 10000):Taps (rT (k + 1) g) k:=⟨⟨_,rT_get (by omega)⟩,⟨_,by rw [rT_len,rT_get (by omega)];rfl⟩,fun t ht => by
 obtain ⟨i,hi,rfl⟩:=List.mem_map.1 ht
 have:=List.mem_range.1 hi
 show i ≤ k
 omega,fun t ht => by
 obtain ⟨i,hi,rfl⟩:=List.mem_map.1 ht
 exact hg i (List.mem_range.1 hi),by rw [rT_len];omega⟩
def bw (s l i:Nat):Int:=if l ≤ i + s ∧ i ≤ l + s then -(2 * (s:Int) + 1) + (2 * (l:Int) + 1) else -(2 * (s:Int) + 1)
theorem bw_lim {s l i:Nat} (hs:s ≤ 64) (hl:l ≤ 64):-10000 ≤ bw s l i ∧ bw s l i ≤ 10000:=by
 unfold bw
 split <;> omega
section
variable {h:TH} {n a b:Int} {v1 v2:Value} {L:List Int} {S:List (Int × Int)} {s l:Nat}
theorem k1202 (H:Has tp) (x:Int) (h:TH):CallW Tryz.prog tp (.func (.func 102) #[] #[]) #[zi x] h fun v h' => v = zi (outB x 0 64) ∧ h' = h:=by
 refine CallW.fnL (H.fn 102 f1202 rfl rfl) ?_
 refine WL.sr <| WOL.as rfl <| WOL.nil ?_
 refine WL.sr <| WOL.mv rfl <| WOL.cl3 rfl rfl rfl rfl ((k72 H x _ _ _).mono ?_)
 rintro v h2 ⟨rfl,rfl⟩
 exact WOL.as rfl <| WOL.nil <| WL.ret (WL.end_ rfl ⟨rfl,rfl⟩)
set_option maxHeartbeats 2000000 in
set_option maxRecDepth 10000 in
theorem k1203 (H:Has tp) (hl:l ≤ 64) (f:Free0 h.next h) :
  CallW Tryz.prog tp (.func (.func 103) #[] #[]) #[zi (l:Nat)] h fun v h' => HX h h' ∧ ∃ c,v = slA c (2 * l + 1) ∧ h.next ≤ c ∧ At h' c (.cells (cat encS (tapD (-(l:Int)) (rT (2 * l + 1) fun _ => 1))) true true 192):=by
 refine CallW.fnL (H.fn 103 f1203 rfl rfl) ?_
 refine WL.sr <| WOL.as rfl <| WOL.nil ?_
 have lD:(tapD (-(l:Int)) (rT (2 * l + 1) fun _ => 1)).length = 2 * l + 1:=by unfold tapD;rw [List.length_map,rT_len]
 have hD:∀ i,i < 2 * l + 1 → (tapD (-(l:Int)) (rT (2 * l + 1) fun _ => 1))[i]? = some ((i:Int) - l,1):=fun i hi => by
  unfold tapD
  rw [List.getElem?_map,rT_get hi]
  show some ((i:Int) + -(l:Int),(1:Int)) = _
  rw [← Int.sub_eq_add_neg]
 generalize tapD (-(l:Int)) (rT (2 * l + 1) fun _ => 1) = D at *
 refine WL.sr <| WOL.mv rfl <| WOL.mulN (m:=2) (k:=l) rfl rfl (by omega) <| WOL.inc rfl (by omega) <| WOL.ms (m:=2 * l + 1) rfl rfl u1214 tp1242 (by decide) (by omega) fun h1 N1 => WOL.as rfl <| WOL.nil <| keep [(0,_),(3,_)] ⟨rfl,rfl,trivial⟩ ?_
 have q1:=N1.next
 have W0:=N1.at_
 rw [show ([zi 0,zi 0]:List Value) = encS (0,0) from rfl,Enc.rep,← lD,← fill_zero D] at W0
 rw [← lD]
 refine WL.seq <| WL.sr <| WOL.mv rfl <| WOL.len (m:=D.length) rfl (SlC.own (by rw [eS.cat_len,fill_len _ _ _ (by omega)]) W0) u1214 <| WOL.mv rfl <| WOL.nil <| keep [(0,_),(3,_),(10,_),(11,_)] ⟨rfl,rfl,rfl,rfl,trivial⟩ ?_
 refine WL.upto (α:=Unit) D.length (fun j _ g => HX h g ∧ At g h.next (.cells (cat encS (D.take j ++ List.replicate (D.length - j) (0,0))) true true 192)) (fun _ _ => [(0,zi (l:Nat)),(3,slA h.next D.length),(10,zi (D.length:Nat))]) () rfl rfl (by omega) ⟨N1.hx,W0⟩ ⟨rfl,rfl,rfl,rfl,trivial⟩ (fun _ _ => rfl) (fun _ _ _ => ⟨rfl,rfl,rfl,rfl,trivial⟩) (fun _ _ _ => ⟨rfl,rfl,rfl,rfl,trivial⟩) ?_ ?_
 ·rintro i _ g hi ⟨X,Wd⟩
  have hDi:=hD i (by omega)
  refine WL.sr <| WOL.mv rfl <| WOL.as rfl <| WOL.nil <| keep [(0,_),(3,_),(4,_),(10,_),(11,_)] ⟨rfl,rfl,rfl,rfl,rfl,trivial⟩ ?_
  refine WL.reg <| WOL.mv rfl <| WOL.mv rfl <| WOL.mv rfl <| WOL.mv rfl <| WOL.sub (m:=(i:Int)) (n:=(l:Int)) rfl rfl (by omega) (by omega) <| WOL.bd rfl bd1242 <| WOL.ix rfl rfl (indexAddr_tp (j:=i) u1214 tp1242 hi) ?_
  refine WOL.sto (vs:=encS ((i:Int) - l,1)) rfl rfl tp1242 Wd rfl rfl (by rw [eS.cat_len,fill_len _ _ _ (by omega)];omega) rfl (f.hx X) (by omega) fun h5 P5 => WOL.nil fun y k => ⟨(),⟨P5.hx _ X (by omega),?_⟩,k.sub ⟨rfl,rfl,rfl,rfl,trivial⟩⟩
  have:=P5.at_
  rw [Nat.zero_add,eS.set (by rw [fill_len _ _ _ (by omega)];omega),show ((i:Int) - l,(1:Int)) = D[i] from (Option.some.inj ((List.getElem?_eq_getElem hi).symm.trans hDi)).symm,fill_set D _ i hi] at this
  exact this
 ·rintro _ g ⟨X,Wd⟩
  rw [fill_all] at Wd
  exact WL.sr <| WOL.mv rfl <| WOL.as rfl <| WOL.nil <| WL.ret (WL.end_ rfl ⟨X,_,rfl,by omega,Wd⟩)
theorem take_set_drop {α:Type} (D E:List α) (i:Nat) (h:i < D.length) (he:i < E.length):(D.take i ++ E.drop i).set i D[i] = D.take (i + 1) ++ E.drop (i + 1):=by
 have e:(D.take i).length = i:=by rw [List.length_take];omega
 rw [List.set_append_right _ _ (by omega),e,Nat.sub_self,List.drop_eq_getElem_cons he,List.set_cons_zero,← List.take_append_getElem h,List.append_assoc]
 rfl
set_option maxHeartbeats 4000000 in
set_option maxRecDepth 10000 in
theorem k1204 (H:Has tp) (hl:l ≤ 64) (hs:s ≤ 64) (f:Free0 h.next h) :
    CallW Tryz.prog tp (.func (.func 104) #[] #[]) #[zi (s:Nat),zi (l:Nat)] h fun v h' => HX h h' ∧ ∃ c,v = slA c (2 * l + 1) ∧ h.next ≤ c ∧ At h' c (.cells (cat encS (tapD (-(l:Int)) (rT (2 * l + 1) (bw s l)))) true true 192):=by
  refine CallW.fnL (H.fn 104 f1204 rfl rfl) ?_
  refine WL.sr <| WOL.as rfl <| WOL.nil ?_
  refine WL.sr <| WOL.mv rfl <| WOL.cl1 rfl rfl ((k1203 (l:=l) H hl f).mono ?_)
  rintro v h1 ⟨X1,c,rfl,hc,W0⟩
  refine WOL.as rfl <| WOL.nil <| keep [(0,_),(1,_),(5,_)] ⟨rfl,rfl,rfl,trivial⟩ ?_
  have lD:(tapD (-(l:Int)) (rT (2 * l + 1) (bw s l))).length = 2 * l + 1:=by unfold tapD;rw [List.length_map,rT_len]
  have lE:(tapD (-(l:Int)) (rT (2 * l + 1) fun _ => 1)).length = 2 * l + 1:=by unfold tapD;rw [List.length_map,rT_len]
  have hD:∀ i,i < 2 * l + 1 → (tapD (-(l:Int)) (rT (2 * l + 1) (bw s l)))[i]? = some ((i:Int) - l,bw s l i):=fun i hi => by
    unfold tapD
    rw [List.getElem?_map,rT_get hi]
    show some ((i:Int) + -(l:Int),bw s l i) = _
    rw [← Int.sub_eq_add_neg]
  have hE:∀ i,i < 2 * l + 1 → (tapD (-(l:Int)) (rT (2 * l + 1) fun _ => 1))[i]? = some ((i:Int) - l,1):=fun i hi => by
    unfold tapD
    rw [List.getElem?_map,rT_get hi]
    show some ((i:Int) + -(l:Int),(1:Int)) = _
    rw [← Int.sub_eq_add_neg]
  generalize tapD (-(l:Int)) (rT (2 * l + 1) (bw s l)) = D at *
  generalize tapD (-(l:Int)) (rT (2 * l + 1) fun _ => 1) = E at *
  have lc:=W0.lt
  rw [← lE]
  refine WL.seq <| WL.sr <| WOL.mv rfl <| WOL.len (m:=E.length) rfl (SlC.own (eS.cat_len E) W0) u1214 <| WOL.mv rfl <| WOL.nil <| keep [(0,_),(1,_),(5,_),(10,_),(11,_),(12,_)] ⟨rfl,rfl,rfl,rfl,rfl,rfl,trivial⟩ ?_
  have W0':At h1 c (.cells (cat encS (D.take 0 ++ E.drop 0)) true true 192):=W0
  refine WL.upto (α:=Unit) E.length (fun j _ g => HX h g ∧ At g c (.cells (cat encS (D.take j ++ E.drop j)) true true 192)) (fun _ _ => [(0,zi (s:Nat)),(1,zi (l:Nat)),(5,slA c E.length),(10,slA c E.length),(11,zi (E.length:Nat))]) () rfl rfl (by omega) ⟨X1,W0'⟩ ⟨rfl,rfl,rfl,rfl,rfl,rfl,trivial⟩ (fun _ _ => rfl) (fun _ _ _ => ⟨rfl,rfl,rfl,rfl,rfl,rfl,trivial⟩) (fun _ _ _ => ⟨rfl,rfl,rfl,rfl,rfl,rfl,trivial⟩) ?_ ?_
  · rintro i _ g hi ⟨X,Wd⟩
    have hDi:=hD i (by omega)
    have hEi:=hE i (by omega)
    have lF:(D.take i ++ E.drop i).length = E.length:=by rw [List.length_append,List.length_take,List.length_drop];omega
    have hF:(D.take i ++ E.drop i)[i]? = some ((i:Int) - l,1):=by
      rw [List.getElem?_append_right (by rw [List.length_take];omega),List.length_take,Nat.min_eq_left (by omega),Nat.sub_self,List.getElem?_drop,Nat.add_zero]
      exact hEi
    have hset:(D.take i ++ E.drop i).set i ((i:Int) - l,bw s l i) = D.take (i + 1) ++ E.drop (i + 1):=by
      have:=take_set_drop D E i (by omega) hi
      rwa [show D[i]'(by omega) = ((i:Int) - l,bw s l i) from Option.some.inj ((List.getElem?_eq_getElem (by omega)).symm.trans hDi)] at this
    generalize D.take i ++ E.drop i = F at *
    have lw:=Wd.lt
    have xg:=X.next
    have sF:SlL encS 2 g (slA c E.length) F:=SlL.own eS Wd lF
    obtain ⟨_,_,cc,fix,wr,el,g1,g2,g3,g4,g5⟩:=sF.at eS u1214 tp1242 hF .i64
    refine WL.sr <| WOL.mv rfl <| WOL.ix rfl rfl g1 <| WOL.ld rfl (load_row tp1242 g2 g4 g3) <| WOL.al tp1242 fun i1 M1 => WOL.as rfl <| WOL.sto (vs:=encS ((i:Int) - l,1)) rfl rfl tp1242 M1.at_ rfl rfl (Nat.le_of_ble_eq_true rfl) rfl (f.hx (X.trans M1.hx)) (by omega) fun i2 M2 => WOL.nil <| keep [(0,_),(1,_),(5,_),(6,_),(7,_),(10,_),(11,_),(12,_)] ⟨rfl,rfl,rfl,rfl,rfl,rfl,rfl,rfl,trivial⟩ ?_
    have m1:=M1.next
    have m2:=M2.next
    have A7:At i2 g.next (.cells [zi ((i:Int) - l),zi 1] true true 192):=M2.at_
    have X2:HX h i2:=M2.hx _ (X.trans M1.hx) (by omega)
    have Wd2:=M2.oth _ _ (by omega) (Wd.hx M1.hx)
    refine WL.sr <| WOL.mv rfl <| WOL.mv rfl <| WOL.mv rfl <| WOL.mulN (m:=2) (k:=s) rfl rfl (by omega) <| WOL.inc rfl (by omega) <| WOL.neg rfl (by omega) (by omega) <| WOL.ix rfl rfl (indexAddr_tp (j:=i) u1214 tp1242 hi) <| WOL.fa rfl (fa_of fo1242_1) <| WOL.sto (vs:=[zi (-((2 * s + 1:Nat):Int))]) rfl rfl tp3 Wd2 rfl rfl (by rw [eS.cat_len,lF];omega) rfl (f.hx X2) (by omega) fun i3 M3 => WOL.nil <| keep [(0,_),(1,_),(5,_),(6,_),(7,_),(10,_),(11,_),(12,_)] ⟨rfl,rfl,rfl,rfl,rfl,rfl,rfl,rfl,trivial⟩ ?_
    have m3:=M3.next
    have Wd3:=M3.at_
    rw [show (0:Nat) + i * 2 + 1 = i * 2 + 1 by omega,splice_one _ _ _ (by rw [eS.cat_len,lF];omega),set_one _ _ _ _ hF] at Wd3
    have A7':=M3.oth _ _ (by omega) A7
    have X3:HX h i3:=M3.hx _ X2 (by omega)
    have lG:(F.set i ((i:Int) - l,-((2 * s + 1:Nat):Int))).length = E.length:=by rw [List.length_set];exact lF
    have hG:(F.set i ((i:Int) - l,-((2 * s + 1:Nat):Int)))[i]? = some ((i:Int) - l,-((2 * s + 1:Nat):Int)):=List.getElem?_set_self (by omega)
    have out:¬ (l ≤ i + s ∧ i ≤ l + s) → F.set i ((i:Int) - l,-((2 * s + 1:Nat):Int)) = D.take (i + 1) ++ E.drop (i + 1):=fun hn => by
      rw [← hset]
      unfold bw
      rw [if_neg hn,show -((2 * s + 1:Nat):Int) = -(2 * (s:Int) + 1) by omega]
    refine WL.sr <| WOL.mv rfl <| WOL.neg rfl (by omega) (by omega) <| WOL.fa rfl (fa_of fo1242_0) <| WOL.ld rfl (load_one tp3 A7' rfl) ?_
    by_cases c1:l ≤ i + s
    · refine WOL.bt rfl rfl rfl (by first | exact decide_eq_true (by omega) | exact beq_iff_eq.2 (by omega) | exact bne_iff_ne.2 (by omega)) <| WOL.mv rfl <| WOL.now (b:=true) rfl rfl <| WOL.fa rfl (fa_of fo1242_0) <| WOL.now (b:=true) rfl rfl <| WOL.ld rfl (load_one tp3 A7' rfl) <| WOL.now (b:=true) rfl rfl <| WOL.mv rfl <| WOL.now (b:=true) rfl rfl ?_
      by_cases c2:i ≤ l + s
      · have sG:SlL encS 2 i3 (slA c E.length) (F.set i ((i:Int) - l,-((2 * s + 1:Nat):Int))):=SlL.own eS Wd3 lG
        obtain ⟨_,_,cd,fixd,wrd,eld,d1,d2,d3,d4,d5⟩:=sG.at eS u1214 tp1242 hG .i64
        have dx:=d5 1 (by decide)
        replace dx:cd[_ + 1]? = some (zi (-((2 * s + 1:Nat):Int))):=dx
        refine WOL.bt rfl rfl rfl (by first | exact decide_eq_true (by omega) | exact beq_iff_eq.2 (by omega) | exact bne_iff_ne.2 (by omega)) <| WOL.pkt rfl rfl <| WOL.nil <| WL.yes rfl <| WL.reg <| WOL.mv rfl <| WOL.mv rfl <| WOL.ix rfl rfl d1 <| WOL.fa rfl (fa_of fo1242_1) <| WOL.ld rfl (load_one tp3 d2 dx) <| WOL.mv rfl <| WOL.mulN (m:=2) (k:=l) rfl rfl (by omega) <| WOL.inc rfl (by omega) <| WOL.add (m:=-((2 * s + 1:Nat):Int)) (n:=((2 * l + 1:Nat):Int)) rfl rfl (by omega) (by omega) <| WOL.ix rfl rfl (indexAddr_tp (j:=i) u1214 tp1242 hi) <| WOL.fa rfl (fa_of fo1242_1) <| WOL.sto (vs:=[zi (-((2 * s + 1:Nat):Int) + ((2 * l + 1:Nat):Int))]) rfl rfl tp3 Wd3 rfl rfl (by rw [eS.cat_len,lG];omega) rfl (f.hx X3) (by omega) fun i4 M4 => WOL.nil fun y k => ⟨(),⟨M4.hx _ X3 (by omega),?_⟩,k.sub ⟨rfl,rfl,rfl,rfl,rfl,rfl,trivial⟩⟩
        have Wd4:=M4.at_
        rw [show (0:Nat) + i * 2 + 1 = i * 2 + 1 by omega,splice_one _ _ _ (by rw [eS.cat_len,lG];omega),set_one _ _ _ _ hG,List.set_set] at Wd4
        rw [← hset]
        unfold bw
        rw [if_pos ⟨c1,c2⟩,show -(2 * (s:Int) + 1) + (2 * (l:Int) + 1) = -((2 * s + 1:Nat):Int) + ((2 * l + 1:Nat):Int) by omega]
        exact Wd4
      · rw [out (fun q => c2 q.2)] at Wd3
        exact WOL.bf rfl rfl rfl (by first | exact decide_eq_false (by omega) | exact beq_eq_false_iff_ne.2 (by omega) | exact bne_eq_false_iff_eq.2 (by omega)) <| WOL.pkt rfl rfl <| WOL.nil <| WL.no rfl <| WL.skip fun y k => ⟨(),⟨X3,Wd3⟩,k.sub ⟨rfl,rfl,rfl,rfl,rfl,rfl,trivial⟩⟩
    · rw [out (fun q => c1 q.1)] at Wd3
      exact WOL.bf rfl rfl rfl (by first | exact decide_eq_false (by omega) | exact beq_eq_false_iff_ne.2 (by omega) | exact bne_eq_false_iff_eq.2 (by omega)) <| WOL.mv rfl <| WOL.skp (b:=false) rfl rfl <| WOL.skp (b:=false) rfl rfl <| WOL.skp (b:=false) rfl rfl <| WOL.skp (b:=false) rfl rfl <| WOL.pkf rfl rfl <| WOL.nil <| WL.no rfl <| WL.skip fun y k => ⟨(),⟨X3,Wd3⟩,k.sub ⟨rfl,rfl,rfl,rfl,rfl,rfl,trivial⟩⟩
  · rintro _ g ⟨X,Wd⟩
    rw [List.drop_length,List.append_nil,show E.length = D.length by omega,List.take_length] at Wd
    exact WL.sr <| WOL.mv rfl <| WOL.as rfl <| WOL.nil <| WL.ret (WL.end_ rfl ⟨X,_,rfl,hc,Wd⟩)
set_option maxHeartbeats 2000000 in
set_option maxRecDepth 10000 in
theorem k1141 (H:Has tp) (r:TrcH h v1 v2 L S) (l1:L.length ≤ 900000) (t1:S.length ≤ 900000) (f:Free0 h.next h) :
  CallW Tryz.prog tp (.func (.func 41) #[] #[]) #[trcV n v1 v2,zi a] h fun v h' => HX h h' ∧ ProgR (n + a) (errV (firstNZ [traceE n L S,outB a 0 64]) L.length (2 * a.toNat)) (tapC L S (rT (2 * a.toNat + 1) fun _ => 1) (L.length - 2 * a.toNat)) h.next h' v:=by
 refine CallW.fnL (H.fn 41 f1141 rfl rfl) ?_
 obtain ⟨b1,k1,e1,_⟩:=id r.l
 obtain ⟨b2,k2,e2,_⟩:=id r.s
 subst e1 e2
 refine WL.sr <| WOL.box rfl fun h1 N1 => WOL.al tp1117 fun h2 N2 => WOL.as rfl <| WOL.nil <| keep [(1,_),(2,_),(4,_)] ⟨rfl,rfl,rfl,trivial⟩ ?_
 have q1:=N1.next
 have q2:=N2.next
 have A2:At h2 h.next (.cells [zi n,.slice b1 L.length k1,.slice b2 S.length k2] true true 31):=N1.at_.hx N2.hx
 have A4:=N2.at_
 have X2:=N1.hx.trans N2.hx
 refine WL.seq <| WL.sr <| WOL.ld rfl (load_row tp1117 A2 rfl (Nat.le_of_ble_eq_true rfl)) <| WOL.cl1 rfl rfl ((k1123 (n:=n) H (r.hx X2) (by omega) (by omega) (f.on X2)).mono ?_)
 rintro v h3 ⟨rfl,X3⟩
 refine WOL.mv rfl <| WOL.cl1 rfl rfl ((k1202 H a _).mono ?_)
 rintro v h3 ⟨rfl,rfl⟩
 refine WOL.bsl rfl u166 tp30 (by decide) (by decide) (by decide) (filled_ints _ _) fun h6 N6 => WOL.cl1 rfl rfl ((k71 H (l:=[_,_]) N6.at_.get (by simp)).mono ?_)
 rintro v h6 ⟨rfl,rfl⟩
 have Z:=X3.trans N6.hx
 have Y:=X2.trans Z
 replace A2:=A2.hx Z;replace A4:=A4.hx Z
 have yn:=Y.next
 refine WOL.as rfl <| WOL.nil <| keep [(1,_),(2,_),(4,_),(6,_)] ⟨rfl,rfl,rfl,rfl,trivial⟩ ?_
 generalize hE:firstNZ [traceE n L S,outB a 0 64] = E
 by_cases e0:E ≠ 0
 ·rw [errV_no e0]
  refine WL.sr <| WOL.mv rfl <| WOL.bt rfl rfl rfl (bne_iff_ne.2 e0) <| WOL.nil <| WL.yes rfl <| WL.sr <| WOL.bd rfl bd1117z <| WOL.mv rfl <| WOL.sto (vs:=[zi 0,.slice none 0 0,.slice none 0 0]) rfl rfl tp1117 A4 rfl rfl (Nat.le_of_ble_eq_true rfl) rfl (f.hx Y) (by omega) fun i1 M1 => WOL.as rfl <| WOL.nil ?_
  exact WL.ret (WL.endC1 rfl rfl (load_row tp1117 M1.at_ rfl (Nat.le_of_ble_eq_true rfl)) ⟨M1.hx _ Y (by omega),.inl ⟨e0,rfl⟩⟩)
 have e0:E = 0:=Classical.not_not.1 e0
 subst e0
 have all:=firstNZ_zero hE
 obtain ⟨⟨m1,m2⟩,m3,m4,m5,m6,m7⟩:=trace_ok (all (traceE n L S) (by simp))
 obtain ⟨p1,p2⟩:=out_mm (all (outB a 0 64) (by simp))
 obtain ⟨l,rfl⟩:∃ l:Nat,a = l:=⟨a.toNat,by omega⟩
 rw [errV_ok,Int.toNat_natCast]
 refine WL.sr <| WOL.mv rfl <| WOL.bf rfl rfl rfl rfl <| WOL.nil <| keep [(1,_),(2,_),(4,_),(14,_)] ⟨rfl,rfl,rfl,rfl,trivial⟩ <| WL.no rfl <| WL.skip ?_
 have l2:=A2.lt
 refine WL.sr <| WOL.ld rfl (load_row tp1117 A2 rfl (Nat.le_of_ble_eq_true rfl)) <| WOL.mv rfl ?_
 refine WOL.lq1 [h.next] rfl rfl rfl fun M hM => ((k1203 (h:=h6.withLock M) (l:=l) H (by omega) ((f.on Y).held hM (fun b hb => by simp at hb;omega))).mono ?_)
 rintro v g1 ⟨Xg,c,rfl,hc,Ac⟩
 replace Xg:=Xg.relock
 replace Ac:=Ac.relock h6.lock
 generalize g1.withLock h6.lock = g1 at *
 have Yg:=Y.trans Xg
 have lD:(tapD (-(l:Int)) (rT (2 * l + 1) fun _ => 1)).length = 2 * l + 1:=by unfold tapD;rw [List.length_map,rT_len]
 refine WOL.cl2 rfl rfl rfl ((k1193 (n:=n) (W:=2 * l) (c:=-(l:Int)) H (r.hx Yg) (SlL.own eS Ac lD) (rTaps (by omega) (fun i _ => by decide)) m3 m1 m2 (by omega) (by omega) (by omega) l1 (by omega) (holeE_in m4) (by omega) (f.on Yg)).mono ?_)
 rintro v g2 ⟨X2',R⟩
 rw [Int.sub_neg] at R
 have x2:=(Yg.trans X2').next
 have x3:=Yg.next
 have l4:=(A4.hx Xg).lt
 rcases R with ⟨heT,rfl⟩ | ⟨heT,hbT,rfl⟩ | ⟨heT,hbT,bvT,wT,rfl,hvT,toT⟩
 ·exact WOL.ex rfl rfl <| WOL.ex rfl rfl <| WOL.sto (vs:=[zi 0,.slice none 0 0,.slice none 0 0]) rfl rfl tp1117 ((A4.hx Xg).hx X2') rfl rfl (Nat.le_of_ble_eq_true rfl) rfl (f.hx (Yg.trans X2')) (by omega) fun iT MT => WOL.as rfl <| WOL.nil <| WL.ret (WL.endC1 rfl rfl (load_row tp1117 MT.at_ rfl (Nat.le_of_ble_eq_true rfl)) ⟨MT.hx _ (Yg.trans X2') (by omega),.inl ⟨heT,rfl⟩⟩)
 ·exact WOL.ex rfl rfl <| WOL.ex rfl rfl <| WOL.sto (vs:=[zi 0,.slice none 0 0,.slice none 0 0]) rfl rfl tp1117 ((A4.hx Xg).hx X2') rfl rfl (Nat.le_of_ble_eq_true rfl) rfl (f.hx (Yg.trans X2')) (by omega) fun iT MT => WOL.as rfl <| WOL.nil <| WL.ret (WL.endC1 rfl rfl (load_row tp1117 MT.at_ rfl (Nat.le_of_ble_eq_true rfl)) ⟨MT.hx _ (Yg.trans X2') (by omega),.inr (.inl ⟨heT,hbT,rfl⟩)⟩)
 ·obtain ⟨b2T,m2T,k2T,rfl⟩:=toT.form
  exact WOL.ex rfl rfl <| WOL.ex rfl rfl <| WOL.sto (vs:=[zi _,slA bvT _,.slice b2T m2T k2T]) rfl rfl tp1117 ((A4.hx Xg).hx X2') rfl rfl (Nat.le_of_ble_eq_true rfl) rfl (f.hx (Yg.trans X2')) (by omega) fun iT MT => WOL.as rfl <| WOL.nil <| WL.ret (WL.endC1 rfl rfl (load_row tp1117 MT.at_ rfl (Nat.le_of_ble_eq_true rfl)) ⟨MT.hx _ (Yg.trans X2') (by omega),.inr (.inr ⟨heT,hbT,bvT,_,rfl,by omega,(toT.put MT (by omega) (by omega)).low (by omega)⟩)⟩)
set_option maxHeartbeats 2000000 in
set_option maxRecDepth 10000 in
theorem k1142 (H:Has tp) (r:TrcH h v1 v2 L S) (l1:L.length ≤ 900000) (t1:S.length ≤ 900000) (f:Free0 h.next h) :
  CallW Tryz.prog tp (.func (.func 42) #[] #[]) #[trcV n v1 v2,zi a,zi b] h fun v h' => HX h h' ∧ ProgR (n + b) (errV (firstNZ [traceE n L S,outB a 0 64,outB b 0 64,cond (decide (a ≥ b)) 11 0]) L.length (2 * b.toNat)) (tapC L S (rT (2 * b.toNat + 1) (bw a.toNat b.toNat)) (L.length - 2 * b.toNat)) h.next h' v:=by
 refine CallW.fnL (H.fn 42 f1142 rfl rfl) ?_
 obtain ⟨b1,k1,e1,_⟩:=id r.l
 obtain ⟨b2,k2,e2,_⟩:=id r.s
 subst e1 e2
 refine WL.sr <| WOL.box rfl fun h1 N1 => WOL.al tp1117 fun h2 N2 => WOL.as rfl <| WOL.nil <| keep [(1,_),(2,_),(3,_),(6,_)] ⟨rfl,rfl,rfl,rfl,trivial⟩ ?_
 have q1:=N1.next
 have q2:=N2.next
 have A2:At h2 h.next (.cells [zi n,.slice b1 L.length k1,.slice b2 S.length k2] true true 31):=N1.at_.hx N2.hx
 have A4:=N2.at_
 have X2:=N1.hx.trans N2.hx
 refine WL.sr <| WOL.ld rfl (load_row tp1117 A2 rfl (Nat.le_of_ble_eq_true rfl)) <| WOL.cl1 rfl rfl ((k1123 (n:=n) H (r.hx X2) (by omega) (by omega) (f.on X2)).mono ?_)
 rintro v h3 ⟨rfl,X3⟩
 refine WOL.mv rfl <| WOL.cl1 rfl rfl ((k1202 H a _).mono ?_)
 rintro v h3 ⟨rfl,rfl⟩
 refine WOL.mv rfl <| WOL.cl1 rfl rfl ((k1202 H b _).mono ?_)
 rintro v h3 ⟨rfl,rfl⟩
 refine WOL.mv rfl <| WOL.mv rfl <| WOL.bi (v:=.bool (decide (a ≥ b))) rfl rfl rfl <| WOL.cl2 rfl rfl rfl ((k77 H _ _ _).mono ?_)
 rintro v h3 ⟨rfl,rfl⟩
 refine WOL.bsl rfl u166 tp30 (by decide) (by decide) (by decide) (filled_ints4 _ _ _ _) fun h6 N6 => WOL.cl1 rfl rfl ((k71 H (l:=[_,_,_,_]) N6.at_.get (by simp)).mono ?_)
 rintro v h6 ⟨rfl,rfl⟩
 have Z:=X3.trans N6.hx
 have Y:=X2.trans Z
 replace A2:=A2.hx Z;replace A4:=A4.hx Z
 have yn:=Y.next
 refine WOL.as rfl <| WOL.nil <| keep [(1,_),(2,_),(3,_),(6,_),(8,_)] ⟨rfl,rfl,rfl,rfl,rfl,trivial⟩ ?_
 generalize hE:firstNZ [traceE n L S,outB a 0 64,outB b 0 64,cond (decide (a ≥ b)) 11 0] = E
 by_cases e0:E ≠ 0
 ·rw [errV_no e0]
  refine WL.seq <| WL.sr <| WOL.mv rfl <| WOL.bt rfl rfl rfl (bne_iff_ne.2 e0) <| WOL.nil <| WL.yes rfl <| WL.sr <| WOL.bd rfl bd1117z <| WOL.mv rfl <| WOL.sto (vs:=[zi 0,.slice none 0 0,.slice none 0 0]) rfl rfl tp1117 A4 rfl rfl (Nat.le_of_ble_eq_true rfl) rfl (f.hx Y) (by omega) fun i1 M1 => WOL.as rfl <| WOL.nil ?_
  exact WL.ret (WL.endC1 rfl rfl (load_row tp1117 M1.at_ rfl (Nat.le_of_ble_eq_true rfl)) ⟨M1.hx _ Y (by omega),.inl ⟨e0,rfl⟩⟩)
 have e0:E = 0:=Classical.not_not.1 e0
 subst e0
 have all:=firstNZ_zero hE
 obtain ⟨⟨m1,m2⟩,m3,m4,m5,m6,m7⟩:=trace_ok (all (traceE n L S) (by simp))
 obtain ⟨p1,p2⟩:=out_mm (all (outB a 0 64) (by simp))
 obtain ⟨p3,p4⟩:=out_mm (all (outB b 0 64) (by simp))
 obtain ⟨s,rfl⟩:∃ s:Nat,a = s:=⟨a.toNat,by omega⟩
 obtain ⟨l,rfl⟩:∃ l:Nat,b = l:=⟨b.toNat,by omega⟩
 rw [errV_ok,Int.toNat_natCast,Int.toNat_natCast]
 refine WL.seq <| WL.sr <| WOL.mv rfl <| WOL.bf rfl rfl rfl rfl <| WOL.nil <| keep [(1,_),(2,_),(3,_),(6,_),(22,_)] ⟨rfl,rfl,rfl,rfl,rfl,trivial⟩ <| WL.no rfl <| WL.skip ?_
 have l2:=A2.lt
 refine WL.sr <| WOL.ld rfl (load_row tp1117 A2 rfl (Nat.le_of_ble_eq_true rfl)) <| WOL.mv rfl <| WOL.mv rfl ?_
 refine WOL.lq2 [h.next] rfl rfl rfl rfl fun M hM => ((k1204 (h:=h6.withLock M) (s:=s) (l:=l) H (by omega) (by omega) ((f.on Y).held hM (fun b hb => by simp at hb;omega))).mono ?_)
 rintro v g1 ⟨Xg,c,rfl,hc,Ac⟩
 replace Xg:=Xg.relock
 replace Ac:=Ac.relock h6.lock
 generalize g1.withLock h6.lock = g1 at *
 have Yg:=Y.trans Xg
 have lD:(tapD (-(l:Int)) (rT (2 * l + 1) (bw s l))).length = 2 * l + 1:=by unfold tapD;rw [List.length_map,rT_len]
 refine WOL.cl2 rfl rfl rfl ((k1193 (n:=n) (W:=2 * l) (c:=-(l:Int)) H (r.hx Yg) (SlL.own eS Ac lD) (rTaps (by omega) (fun i _ => bw_lim (by omega) (by omega))) m3 m1 m2 (by omega) (by omega) (by omega) l1 (by omega) (holeE_in m4) (by omega) (f.on Yg)).mono ?_)
 rintro v g2 ⟨X2',R⟩
 rw [Int.sub_neg] at R
 have x2:=(Yg.trans X2').next
 have x3:=Yg.next
 have l4:=(A4.hx Xg).lt
 rcases R with ⟨heT,rfl⟩ | ⟨heT,hbT,rfl⟩ | ⟨heT,hbT,bvT,wT,rfl,hvT,toT⟩
 ·exact WOL.ex rfl rfl <| WOL.ex rfl rfl <| WOL.sto (vs:=[zi 0,.slice none 0 0,.slice none 0 0]) rfl rfl tp1117 ((A4.hx Xg).hx X2') rfl rfl (Nat.le_of_ble_eq_true rfl) rfl (f.hx (Yg.trans X2')) (by omega) fun iT MT => WOL.as rfl <| WOL.nil <| WL.ret (WL.endC1 rfl rfl (load_row tp1117 MT.at_ rfl (Nat.le_of_ble_eq_true rfl)) ⟨MT.hx _ (Yg.trans X2') (by omega),.inl ⟨heT,rfl⟩⟩)
 ·exact WOL.ex rfl rfl <| WOL.ex rfl rfl <| WOL.sto (vs:=[zi 0,.slice none 0 0,.slice none 0 0]) rfl rfl tp1117 ((A4.hx Xg).hx X2') rfl rfl (Nat.le_of_ble_eq_true rfl) rfl (f.hx (Yg.trans X2')) (by omega) fun iT MT => WOL.as rfl <| WOL.nil <| WL.ret (WL.endC1 rfl rfl (load_row tp1117 MT.at_ rfl (Nat.le_of_ble_eq_true rfl)) ⟨MT.hx _ (Yg.trans X2') (by omega),.inr (.inl ⟨heT,hbT,rfl⟩)⟩)
 ·obtain ⟨b2T,m2T,k2T,rfl⟩:=toT.form
  exact WOL.ex rfl rfl <| WOL.ex rfl rfl <| WOL.sto (vs:=[zi _,slA bvT _,.slice b2T m2T k2T]) rfl rfl tp1117 ((A4.hx Xg).hx X2') rfl rfl (Nat.le_of_ble_eq_true rfl) rfl (f.hx (Yg.trans X2')) (by omega) fun iT MT => WOL.as rfl <| WOL.nil <| WL.ret (WL.endC1 rfl rfl (load_row tp1117 MT.at_ rfl (Nat.le_of_ble_eq_true rfl)) ⟨MT.hx _ (Yg.trans X2') (by omega),.inr (.inr ⟨heT,hbT,bvT,_,rfl,by omega,(toT.put MT (by omega) (by omega)).low (by omega)⟩)⟩)
end
end Go.Tidy
namespace Go.Tidy
open Go Go.Proofs Tab
variable {tp:TProg}
theorem rT_succ {m:Nat} {g:Nat → Int}:rT (m + 1) g = rT m g ++ [(m,g m)]:=by
 unfold rT
 rw [List.range_succ,List.map_append]
 rfl
theorem wTn_rep {m:Nat} {w:Int} (hw:w ≠ 0):∀ j,j ≤ m → wTn (List.replicate m w) 1 j = rT j fun _ => w
 | 0,_ => rfl
 | j + 1,h => by
  unfold wTn
  rw [show (List.replicate m w).getD j 0 = w by rw [List.getD_eq_getElem?_getD,List.getElem?_replicate,if_pos (by omega)];rfl,if_neg hw,wTn_rep hw j (by omega),rT_succ,Nat.mul_one]
def bwL (s l j:Nat):List Int:=(List.range (2 * l + 1)).map fun i => if l ≤ i + s ∧ i + s < l + j then -(2 * (s:Int) + 1) + (2 * (l:Int) + 1) else -(2 * (s:Int) + 1)
theorem bwL_len {s l j:Nat}:(bwL s l j).length = 2 * l + 1:=by unfold bwL;rw [List.length_map,List.length_range]
theorem bwL_zero {s l:Nat}:bwL s l 0 = List.replicate (2 * l + 1) (-(2 * (s:Int) + 1)):=by
 refine List.eq_replicate_iff.2 ⟨bwL_len,fun b hb => ?_⟩
 unfold bwL at hb
 obtain ⟨i,_,rfl⟩:=List.mem_map.1 hb
 rw [if_neg (by omega)]
theorem bwL_set {s l j:Nat} (h:s ≤ l) (hj:j < 2 * s + 1):bwL s l (j + 1) = (bwL s l j).set (l - s + j) (-(2 * (s:Int) + 1) + (2 * (l:Int) + 1)):=by
 refine List.ext_getElem? fun i => ?_
 by_cases e:i = l - s + j
 ·rw [e,List.getElem?_set_self (by rw [bwL_len];omega)]
  unfold bwL
  rw [tbl_get,if_pos (by omega),if_pos (by omega)]
 ·rw [List.getElem?_set_ne (by omega)]
  unfold bwL
  rw [tbl_get,tbl_get]
  by_cases hi:i < 2 * l + 1
  ·rw [if_pos hi,if_pos hi]
   by_cases c:l ≤ i + s ∧ i + s < l + j
   ·rw [if_pos c,if_pos (by omega)]
   ·rw [if_neg c,if_neg (by omega)]
  ·rw [if_neg hi,if_neg hi]
theorem bwL_get {s l i:Nat} (hi:i < 2 * l + 1):(bwL s l (2 * s + 1)).getD i 0 = bw s l i:=by
 unfold bwL bw
 rw [List.getD_eq_getElem?_getD,tbl_get,if_pos hi]
 show (if _ then _ else _) = _
 by_cases c:l ≤ i + s ∧ i ≤ l + s
 ·rw [if_pos (by omega),if_pos c]
 ·rw [if_neg (by omega),if_neg c]
theorem bwL_mid {s l j:Nat} (h:s ≤ l) (hj:j < 2 * s + 1):(bwL s l j)[l - s + j]? = some (-(2 * (s:Int) + 1)):=by
 unfold bwL
 rw [tbl_get,if_pos (by omega),if_neg (by omega)]
section
variable {h:TH} {n a b w:Int} {v1 v2:Value} {L:List Int} {S:List (Int × Int)} {s l m:Nat}
set_option maxRecDepth 10000 in
theorem k1205 (H:Has tp) (hm:m ≤ 900000) (f:Free0 h.next h) :
  CallW Tryz.prog tp (.func (.func 105) #[] #[]) #[zi (m:Nat),zi w] h fun v h' => HX h h' ∧ OwnL encI h.next h' v 3 (List.replicate m w):=by
 refine CallW.fnL (H.fn 105 f1205 rfl rfl) ?_
 refine WL.sr <| WOL.as rfl <| WOL.nil ?_
 refine WL.sr <| WOL.as rfl <| WOL.nil ?_
 refine WL.seq <| WL.sr <| WOL.as rfl <| WOL.nil ?_
 refine WL.forz (α:=Value) m (fun j u g => HX h g ∧ OwnL encI h.next g u 3 (List.replicate j w)) (fun j u => [(0,zi (m:Nat)),(1,zi w),(5,u),(6,zi (j:Nat))]) (fun j u => [(0,zi (m:Nat)),(1,zi w),(5,u),(6,zi (j:Nat))]) (.slice none 0 0) ⟨HX.refl _,.inl ⟨rfl,rfl⟩⟩ ⟨rfl,rfl,rfl,rfl,trivial⟩ ?_ ?_ (fun _ _ _ => ⟨rfl,rfl,rfl,rfl,trivial⟩) ?_ ?_
 ·rintro j u g hj q
  exact WOL.mv rfl <| WOL.mv rfl <| WOL.bi rfl rfl rfl <| WOL.nil fun x k => ⟨rfl,k.sub ⟨rfl,rfl,rfl,rfl,rfl,trivial⟩⟩
 ·rintro j u g hj q
  exact WOL.mv rfl <| WOL.inc rfl (by omega) <| WOL.as rfl <| WOL.nil fun x k => ⟨q,k.sub ⟨rfl,rfl,rfl,rfl,trivial⟩⟩
 ·rintro j u g hj ⟨X,O⟩
  have xg:=X.next
  refine WL.reg <| WOL.mv rfl <| WOL.mv rfl <| WOL.bs1 rfl u29 tp3 rfl fun i1 M1 => ?_
  have m1:=M1.next
  obtain ⟨w',i2,ap,O',x2,_⟩:=own_push (sT:=24) (x:=w) eI u29 tp3 (O.hx M1.hx) (SlC.own (sz:=1) (m:=1) rfl M1.at_) ((f.hx (X.trans M1.hx)).up (by omega)) (by rw [List.length_replicate];omega) (by omega)
  rw [← List.replicate_succ'] at O'
  exact WOL.ap rfl rfl ap <| WOL.as rfl <| WOL.nil fun y k => ⟨w',⟨x2 _ (X.trans M1.hx) (Nat.le_refl _),O'⟩,k.sub ⟨rfl,rfl,rfl,rfl,trivial⟩⟩
 ·rintro u g ⟨X,O⟩
  exact WL.sr <| WOL.mv rfl <| WOL.as rfl <| WOL.nil <| WL.ret (WL.end_ rfl ⟨X,O⟩)
theorem k1143 (H:Has tp) (h:TH):CallW Tryz.prog tp (.func (.func 43) #[] #[]) #[zi a,zi b] h fun v h' => v = zi (firstNZ [outB a 0 64,outB b 0 64,cond (decide (a ≥ b)) 11 0]) ∧ HX h h':=by
 refine CallW.fnL (H.fn 43 f1143 rfl rfl) ?_
 refine WL.sr <| WOL.as rfl <| WOL.nil ?_
 refine WL.sr <| WOL.mv rfl <| WOL.cl3 rfl rfl rfl rfl ((k14 H a 0 64 _).mono ?_)
 rintro v h2 ⟨rfl,rfl⟩
 refine WOL.mv rfl <| WOL.cl3 rfl rfl rfl rfl ((k14 H b 0 64 _).mono ?_)
 rintro v h2 ⟨rfl,rfl⟩
 refine WOL.mv rfl <| WOL.mv rfl <| WOL.bi (v:=.bool (decide (a ≥ b))) rfl rfl rfl <| WOL.cl2 rfl rfl rfl ((k32 H _ _ _).mono ?_)
 rintro v h2 ⟨rfl,rfl⟩
 refine WOL.bsl rfl u29 tp3 (by decide) (by decide) (by decide) (filled_ints3 _ _ _) fun h5 N5 => WOL.cl1 rfl rfl ((k13 H (l:=[_,_,_]) N5.at_.get (by simp)).mono ?_)
 rintro v h6 ⟨rfl,rfl⟩
 exact WOL.as rfl <| WOL.nil <| WL.ret (WL.end_ rfl ⟨rfl,N5.hx⟩)
set_option maxHeartbeats 2000000 in
set_option maxRecDepth 10000 in
theorem k1144 (H:Has tp) (r:TrcH h v1 v2 L S) (hl:l ≤ 64) (lim:∀ j,-1073741824 ≤ L.getD j 0 ∧ L.getD j 0 ≤ 1073741824) (m1:0 ≤ n) (m2:n ≤ 100000000) (l1:L.length ≤ 900000) (t1:S.length ≤ 900000) (f:Free0 h.next h) :
  CallW Tryz.prog tp (.func (.func 44) #[] #[]) #[trcV n v1 v2,zi (l:Nat)] h fun v h' => HX h h' ∧ TapR (n + l) (cond (decide (L.length ≤ 2 * l)) 16 0) (tapC L S (rT (2 * l + 1) fun _ => 1) (L.length - 2 * l)) h.next h' v:=by
 refine CallW.fnL (H.fn 44 f1144 rfl rfl) ?_
 obtain ⟨b1,k1,e1,_⟩:=id r.l
 obtain ⟨b2,k2,e2,_⟩:=id r.s
 subst e1 e2
 refine WL.sr <| WOL.box rfl fun h1 N1 => WOL.al tp1114 fun h2 N2 => WOL.as rfl <| WOL.nil <| keep [(1,_),(2,_),(4,_)] ⟨rfl,rfl,rfl,trivial⟩ ?_
 have q1:=N1.next
 have q2:=N2.next
 have A2:At h2 h.next (.cells [zi n,.slice b1 L.length k1,.slice b2 S.length k2] true true 27):=N1.at_.hx N2.hx
 have A4:=N2.at_
 have X2:=N1.hx.trans N2.hx
 have l4:=A4.lt
 refine WL.sr <| WOL.ld rfl (load_row tp1114 A2 rfl (Nat.le_of_ble_eq_true rfl)) <| WOL.mv rfl <| WOL.mulN (m:=2) (k:=l) rfl rfl (by omega) <| WOL.inc rfl (by omega) <| WOL.mv rfl <| WOL.mv rfl ?_
 refine WOL.lq2 [h.next] rfl rfl rfl rfl fun M hM => ((k1205 (h:=h2.withLock M) (m:=2 * l + 1) (w:=1) H (by omega) ((f.on X2).held hM (fun b hb => by simp at hb;omega))).mono ?_)
 rintro v h4 ⟨X4,O⟩
 replace X4:=X4.relock
 replace O:=own_lock O h2.lock
 generalize h4.withLock h2.lock = h4 at *
 have Y:=X2.trans X4
 refine WOL.cl5 rfl rfl rfl rfl rfl rfl ((k1197 (n:=n) (b:=l) (a:=l) (st:=1) (Wt:=List.replicate (2 * l + 1) 1) H (r.hx Y) (O.sl eI) (fun k hk => by rw [List.length_replicate] at hk;omega) (by omega) (by omega) (by omega) (by rw [List.length_replicate];omega) (fun j => ?_) lim m1 m2 l1 (by omega) (f.on Y)).mono ?_)
 ·rw [List.getD_eq_getElem?_getD,List.getElem?_replicate]
  split <;> decide
 rintro v g ⟨X,R⟩
 rw [List.length_replicate,wTn_rep (by decide) _ (Nat.le_refl _),← Nat.two_mul] at R
 have x1:=Y.next
 have x2:=X.next
 have x4:=X4.next
 rcases R with ⟨heT,rfl⟩ | ⟨heT,⟨hbT,rfl⟩ | ⟨hbT,u1T,u2T,rfl,o1T,o2T⟩⟩
 ·exact WOL.ex rfl rfl <| WOL.ex rfl rfl <| WOL.sto (vs:=[zi 0,.slice none 0 0,.slice none 0 0]) rfl rfl tp1114 ((A4.hx X4).hx X) rfl rfl (Nat.le_of_ble_eq_true rfl) rfl (f.hx (Y.trans X)) (by omega) fun iT MT => WOL.as rfl <| WOL.nil <| WL.ret (WL.endC1 rfl rfl (load_row tp1114 MT.at_ rfl (Nat.le_of_ble_eq_true rfl)) ⟨MT.hx _ (Y.trans X) (by omega),.inl ⟨heT,rfl⟩⟩)
 ·exact WOL.ex rfl rfl <| WOL.ex rfl rfl <| WOL.sto (vs:=[zi 0,.slice none 0 0,.slice none 0 0]) rfl rfl tp1114 ((A4.hx X4).hx X) rfl rfl (Nat.le_of_ble_eq_true rfl) rfl (f.hx (Y.trans X)) (by omega) fun iT MT => WOL.as rfl <| WOL.nil <| WL.ret (WL.endC1 rfl rfl (load_row tp1114 MT.at_ rfl (Nat.le_of_ble_eq_true rfl)) ⟨MT.hx _ (Y.trans X) (by omega),.inr ⟨heT,.inl ⟨hbT,rfl⟩⟩⟩)
 ·obtain ⟨z1T,e1T⟩:=OwnF.form (Or.inl o1T)
  obtain ⟨z2T,e2T⟩:=OwnF.form (Or.inl o2T)
  exact WOL.ex rfl rfl <| WOL.ex rfl rfl <| WOL.sto (vs:=[zi _,u1T,u2T]) rfl rfl tp1114 ((A4.hx X4).hx X) rfl rfl (Nat.le_of_ble_eq_true rfl) (by rw [e1T,e2T];rfl) (f.hx (Y.trans X)) (by omega) fun iT MT => WOL.as rfl <| WOL.nil <| WL.ret (WL.endC1 rfl rfl (load_row tp1114 MT.at_ rfl (Nat.le_of_ble_eq_true rfl)) ⟨MT.hx _ (Y.trans X) (by omega),.inr ⟨heT,.inr ⟨hbT,u1T,u2T,rfl,(o1T.keep fun z y hz a => MT.oth _ _ (by have:=o1T.lt hz;omega) a).low (by omega),(o2T.keep fun z y hz a => MT.oth _ _ (by have:=o2T.lt hz;omega) a).low (by omega)⟩⟩⟩)
set_option maxHeartbeats 4000000 in
set_option maxRecDepth 10000 in
theorem k1145 (H:Has tp) (r:TrcH h v1 v2 L S) (hs:s ≤ l) (hl:l ≤ 64) (lim:∀ j,-1073741824 ≤ L.getD j 0 ∧ L.getD j 0 ≤ 1073741824) (n0:0 ≤ n) (n1:n ≤ 100000000) (l1:L.length ≤ 900000) (t1:S.length ≤ 900000) (f:Free0 h.next h) :
    CallW Tryz.prog tp (.func (.func 45) #[] #[]) #[trcV n v1 v2,zi (s:Nat),zi (l:Nat)] h fun v h' => HX h h' ∧ TapR (n + l) (cond (decide (L.length ≤ 2 * l)) 16 0) (tapC L S (rT (2 * l + 1) (bw s l)) (L.length - 2 * l)) h.next h' v:=by
  refine CallW.fnL (H.fn 45 f1145 rfl rfl) ?_
  obtain ⟨b1,k1,e1,_⟩:=id r.l
  obtain ⟨b2,k2,e2,_⟩:=id r.s
  subst e1 e2
  refine WL.sr <| WOL.box rfl fun h1 N1 => WOL.al tp1114 fun h2 N2 => WOL.as rfl <| WOL.nil <| keep [(1,_),(2,_),(3,_),(6,_)] ⟨rfl,rfl,rfl,rfl,trivial⟩ ?_
  have q1:=N1.next
  have q2:=N2.next
  have A3:At h2 h.next (.cells [zi n,.slice b1 L.length k1,.slice b2 S.length k2] true true 27):=N1.at_.hx N2.hx
  have A6:=N2.at_
  have X2:=N1.hx.trans N2.hx
  refine WL.sr <| WOL.mv rfl <| WOL.mulN (m:=2) (k:=l) rfl rfl (by omega) <| WOL.inc rfl (by omega) <| WOL.mv rfl <| WOL.mulN (m:=2) (k:=s) rfl rfl (by omega) <| WOL.inc rfl (by omega) <| WOL.sub (m:=0) (n:=((2 * s + 1:Nat):Int)) rfl rfl (by omega) (by omega) ?_
  rw [show (0:Int) - ((2 * s + 1:Nat):Int) = -(2 * (s:Int) + 1) by omega]
  refine WOL.cl2 rfl rfl rfl ((k1205 (m:=2 * l + 1) (w:=-(2 * (s:Int) + 1)) H (by omega) (f.on X2)).mono ?_)
  rintro v h3 ⟨X3,O⟩
  rw [← bwL_zero] at O
  obtain ⟨c,rfl,hc,Wd⟩:∃ c,v = slA c (2 * l + 1) ∧ h2.next ≤ c ∧ At h3 c (.cells (cat encI (bwL s l 0)) false true 3):=by
    rcases O with ⟨_,q⟩ | ⟨_,c,q2,q3,q4⟩
    · have:=bwL_len (s:=s) (l:=l) (j:=0)
      rw [q] at this;simp at this
    · exact ⟨c,by rw [q2,bwL_len],q3,q4⟩
  clear O
  have Y3:=X2.trans X3
  have y3:=X3.next
  replace A3:=A3.hx X3
  replace A6:=A6.hx X3
  refine WOL.as rfl <| WOL.nil <| keep [(1,_),(2,_),(3,_),(6,_),(8,_)] ⟨rfl,rfl,rfl,rfl,rfl,trivial⟩ ?_
  refine WL.seq <| WL.sr <| WOL.mv rfl <| WOL.mv rfl <| WOL.sub (m:=(l:Int)) (n:=(s:Int)) rfl rfl (by omega) (by omega) ?_
  rw [show (l:Int) - (s:Int) = ((l - s + 0:Nat):Int) by omega]
  refine WOL.as rfl <| WOL.nil ?_
  refine WL.fori (α:=Unit) (2 * s + 1) (fun j _ g => HX h g ∧ At g h.next (.cells [zi n,.slice b1 L.length k1,.slice b2 S.length k2] true true 27) ∧ At g h1.next (.cells [zi 0,.slice none 0 0,.slice none 0 0] true true 27) ∧ At g c (.cells (cat encI (bwL s l j)) false true 3)) (fun j _ => [(1,zi (s:Nat)),(2,zi (l:Nat)),(3,ptr h.next),(6,ptr h1.next),(8,slA c (2 * l + 1)),(9,zi ((l - s + j:Nat):Int))]) (fun j _ => [(1,zi (s:Nat)),(2,zi (l:Nat)),(3,ptr h.next),(6,ptr h1.next),(8,slA c (2 * l + 1)),(9,zi ((l - s + j:Nat):Int))]) () ⟨Y3,A3,A6,Wd⟩ ⟨rfl,rfl,rfl,rfl,rfl,rfl,trivial⟩ ?_ ?_ (fun _ _ _ => ⟨rfl,rfl,rfl,rfl,rfl,rfl,trivial⟩) ?_ ?_
  · rintro j _ g hj q
    refine WOL.mv rfl <| WOL.mv rfl <| WOL.mv rfl <| WOL.addN (m:=l) (k:=s) rfl rfl (by omega) <| WOL.bi (v:=.bool (decide (j < 2 * s + 1))) rfl rfl ?_ <| WOL.nil fun x k => ⟨rfl,k.sub ⟨rfl,rfl,rfl,rfl,rfl,rfl,rfl,trivial⟩⟩
    show some (Value.bool (decide (((l - s + j:Nat):Int) ≤ ((l + s:Nat):Int)))) = _
    rw [show decide (((l - s + j:Nat):Int) ≤ ((l + s:Nat):Int)) = decide (j < 2 * s + 1) from decide_eq_decide.2 (by omega)]
  · rintro j _ g hj q
    exact WOL.mv rfl <| WOL.inc rfl (by omega) <| WOL.as rfl <| WOL.nil fun x k => ⟨q,k.sub ⟨rfl,rfl,rfl,rfl,rfl,rfl,trivial⟩⟩
  · rintro j _ g hj ⟨X,B3,B6,Wd⟩
    have hm:=bwL_mid (j:=j) hs hj
    have sW:SlL encI 1 g (slA c (2 * l + 1)) (bwL s l j):=SlL.own eI Wd bwL_len
    obtain ⟨_,_,cc,fix,wr,el,g1,g2,g3,g4,g5⟩:=sW.at eI u29 tp3 hm .i64
    have gx:=g5 0 (by decide)
    rw [Nat.add_zero] at gx
    refine WL.reg <| WOL.mv rfl <| WOL.mv rfl <| WOL.mv rfl <| WOL.mv rfl <| WOL.ix rfl rfl g1 <| WOL.ld rfl (load_one tp3 g2 gx) <| WOL.mv rfl <| WOL.mulN (m:=2) (k:=l) rfl rfl (by omega) <| WOL.add (m:=-(2 * (s:Int) + 1)) (n:=((2 * l:Nat):Int)) rfl rfl (by omega) (by omega) <| WOL.add (m:=-(2 * (s:Int) + 1) + ((2 * l:Nat):Int)) (n:=1) rfl rfl (by omega) (by omega) ?_
    rw [show -(2 * (s:Int) + 1) + ((2 * l:Nat):Int) + 1 = -(2 * (s:Int) + 1) + (2 * (l:Int) + 1) by omega]
    refine WOL.ix rfl rfl (indexAddr_tp (j:=l - s + j) u29 tp3 (by omega)) <| WOL.sto (vs:=encI (-(2 * (s:Int) + 1) + (2 * (l:Int) + 1))) rfl rfl tp3 Wd rfl rfl (by rw [eI.cat_len,bwL_len];omega) rfl (f.hx X) (by omega) fun i1 M1 => WOL.nil fun x k => ⟨(),⟨M1.hx _ X (by omega),M1.oth _ _ (by omega) B3,M1.oth _ _ (by omega) B6,?_⟩,k.sub ⟨rfl,rfl,rfl,rfl,rfl,rfl,trivial⟩⟩
    have:=M1.at_
    rw [Nat.zero_add,eI.set (by rw [bwL_len];omega),← bwL_set hs hj] at this
    exact this
  rintro _ g0 ⟨Yg,A3,A6,Wd⟩
  have hWt:∀ k,k < 2 * l + 1 → (bwL s l (2 * s + 1)).getD k 0 = bw s l k:=fun k hk => bwL_get hk
  have lWt:(bwL s l (2 * s + 1)).length = 2 * l + 1:=bwL_len
  generalize bwL s l (2 * s + 1) = Wt at *
  have sW:SlL encI 1 g0 (slA c (2 * l + 1)) Wt:=SlL.own eI Wd lWt
  clear Wd
  refine keep [(2,_),(3,_),(6,_),(8,_)] ⟨rfl,rfl,rfl,rfl,trivial⟩ ?_
  have yg:=Yg.next
  refine WL.sr <| WOL.ld rfl (load_row tp1114 A3 rfl (Nat.le_of_ble_eq_true rfl)) <| WOL.cl1 rfl rfl ((k1189 H (r.hx Yg) l1 (by omega) (f.on Yg)).mono ?_)
  rintro av h4 ⟨X4,O12⟩
  have q4:=X4.next
  have Y4:=Yg.trans X4
  replace A3:=A3.hx X4
  replace A6:=A6.hx X4
  replace sW:=sW.hx X4
  have sA:=O12.sl eC
  refine WOL.as rfl <| WOL.nil <| keep [(2,_),(3,_),(6,_),(8,_),(10,_)] ⟨rfl,rfl,rfl,rfl,rfl,trivial⟩ ?_
  refine WL.sr <| WOL.as rfl <| WOL.nil ?_
  refine WL.seq <| WL.sr <| WOL.mv rfl <| WOL.as rfl <| WOL.nil ?_
  have hm:∀ j,j < L.length - 2 * l ↔ l + j + l < L.length:=fun j => by omega
  generalize hmm:L.length - 2 * l = m at *
  have lm:m ≤ L.length:=by omega
  refine WL.fori (α:=Value) m (fun j u g => HX h4 g ∧ OwnL encC h4.next g u 135 (tapC L S (rT (2 * l + 1) (bw s l)) j)) (fun j u => [(2,zi (l:Nat)),(3,ptr h.next),(6,ptr h1.next),(8,slA c (2 * l + 1)),(10,av),(11,u),(12,zi ((l + j:Nat):Int))]) (fun j u => [(2,zi (l:Nat)),(3,ptr h.next),(6,ptr h1.next),(8,slA c (2 * l + 1)),(10,av),(11,u),(12,zi ((l + j:Nat):Int))]) (.slice none 0 0) ⟨HX.refl _,.inl ⟨rfl,rfl⟩⟩ ⟨rfl,rfl,rfl,rfl,rfl,rfl,rfl,trivial⟩ ?_ ?_ (fun _ _ _ => ⟨rfl,rfl,rfl,rfl,rfl,rfl,rfl,trivial⟩) ?_ ?_
  · rintro j u g hj ⟨X,_⟩
    refine WOL.mv rfl <| WOL.mv rfl <| WOL.addN (m:=l + j) (k:=l) rfl rfl (by omega) <| WOL.mv rfl <| WOL.len rfl (sA.hx X) u1205 <| WOL.bi (v:=.bool (decide (j < m))) rfl rfl ?_ <| WOL.nil fun x q => ⟨rfl,q.sub ⟨rfl,rfl,rfl,rfl,rfl,rfl,rfl,rfl,trivial⟩⟩
    show some (Value.bool (decide (((l + j + l:Nat):Int) < (((zipK L S L.length).length:Nat):Int)))) = _
    rw [zip_len,show decide (((l + j + l:Nat):Int) < ((L.length:Nat):Int)) = decide (j < m) from decide_eq_decide.2 (by rw [hm];omega)]
  · rintro j u g hj q
    exact WOL.mv rfl <| WOL.inc rfl (by omega) <| WOL.as rfl <| WOL.nil fun x k => ⟨q,k.sub ⟨rfl,rfl,rfl,rfl,rfl,rfl,rfl,trivial⟩⟩
  · rintro j u g hj ⟨X,O⟩
    have xg:=X.next
    have Yg:=Y4.trans X
    refine WL.sr <| WOL.bd rfl bd1207 <| WOL.al tp1207 fun i1 M1 => WOL.sto (vs:=encC (0,true)) rfl rfl tp1207 M1.at_ rfl rfl (Nat.le_of_ble_eq_true rfl) rfl (f.hx (Yg.trans M1.hx)) (by omega) fun i2 M2 => WOL.nil <| keep [(2,_),(3,_),(6,_),(8,_),(10,_),(11,_),(12,_),(13,_)] ⟨rfl,rfl,rfl,rfl,rfl,rfl,rfl,rfl,trivial⟩ ?_
    have A15:At i2 g.next (.cells [zi 0,.bool true] true true 135):=M2.at_
    have XI:HX g i2:=M2.hx _ M1.hx (Nat.le_refl _)
    refine WL.seq <| WL.sr <| WOL.as rfl <| WOL.nil ?_
    refine WL.forz (α:=Unit) (2 * l + 1) (fun k _ g' => HX g g' ∧ At g' g.next (.cells [zi (tapN L j (rT k (bw s l)) 0),.bool (tapK S j (rT k (bw s l)))] true true 135)) (fun k _ => [(2,zi (l:Nat)),(3,ptr h.next),(6,ptr h1.next),(8,slA c (2 * l + 1)),(10,av),(11,u),(12,zi ((l + j:Nat):Int)),(13,ptr g.next),(14,zi (k:Nat))]) (fun k _ => [(2,zi (l:Nat)),(3,ptr h.next),(6,ptr h1.next),(8,slA c (2 * l + 1)),(10,av),(11,u),(12,zi ((l + j:Nat):Int)),(13,ptr g.next),(14,zi (k:Nat))]) () ⟨XI,A15⟩ ⟨rfl,rfl,rfl,rfl,rfl,rfl,rfl,rfl,rfl,trivial⟩ ?_ ?_ (fun _ _ _ => ⟨rfl,rfl,rfl,rfl,rfl,rfl,rfl,rfl,rfl,trivial⟩) ?_ ?_
    · rintro k _ g' hj' ⟨Z,_⟩
      have:=sW.hx (X.trans Z)
      refine WOL.mv rfl <| WOL.mv rfl <| WOL.len (m:=Wt.length) rfl this u29 ?_
      rw [lWt]
      exact WOL.bi rfl rfl rfl <| WOL.nil fun x q => ⟨rfl,q.sub ⟨rfl,rfl,rfl,rfl,rfl,rfl,rfl,rfl,rfl,rfl,trivial⟩⟩
    · rintro k _ g' hj' q
      exact WOL.mv rfl <| WOL.inc rfl (by omega) <| WOL.as rfl <| WOL.nil fun x k => ⟨q,k.sub ⟨rfl,rfl,rfl,rfl,rfl,rfl,rfl,rfl,rfl,trivial⟩⟩
    · rintro k _ g' hk' ⟨Z,A⟩
      have Yz:=Yg.trans Z
      have la:=A.lt
      have zg:=Z.next
      have hp:Wt[k]? = some (bw s l k):=by
        rw [← hWt k hk',List.getD_eq_getElem?_getD,List.getElem?_eq_getElem (by omega)];rfl
      have hq:j + k < L.length:=by have:=(hm j).1 hj;omega
      obtain ⟨w1,w2⟩:=bw_lim (s:=s) (l:=l) (i:=k) (by omega) hl
      obtain ⟨_,_,cc,fix,wr,el,g1,g2,g3,g4,g5⟩:=(sW.hx (X.trans Z)).at eI u29 tp3 hp .i64
      have gx:=g5 0 (by decide)
      rw [Nat.add_zero] at gx
      obtain ⟨_,_,cc',fix',wr',el',y1,y2,y3,y4,y5⟩:=(sA.hx (X.trans Z)).at eC u1205 tp1207 (zipK_get (L:=L) (S:=S) hq) .i64
      have yx:=y5 0 (by decide)
      rw [Nat.add_zero] at yx
      replace yx:cc'[_]? = some (zi (L.getD (j + k) 0)):=yx
      obtain ⟨b1',b2'⟩:=lim (j + k)
      obtain ⟨m1,m2⟩:=mul_lim w1 w2 b1' b2'
      have ll:=tapN_lim (i:=j) lim (T:=rT k (bw s l)) (s:=0) (B:=0) (fun t ht => by obtain ⟨i,hi,rfl⟩:=List.mem_map.1 ht;exact bw_lim (by omega) hl) (by omega) (by omega)
      have lk:=rT_len (m:=k) (g:=bw s l)
      refine WL.sr <| WOL.fa rfl (fa_of fo1207_0) <| WOL.ld rfl (load_one tp3 A rfl) <| WOL.mv rfl <| WOL.mv rfl <| WOL.ix rfl rfl g1 <| WOL.ld rfl (load_one tp3 g2 gx) <| WOL.mv rfl <| WOL.mv rfl <| WOL.mv rfl <| WOL.sub (m:=((l + j:Nat):Int)) (n:=(l:Int)) rfl rfl (by omega) (by omega) ?_
      rw [show ((l + j:Nat):Int) - (l:Int) = ((j:Nat):Int) by omega]
      refine WOL.mv rfl <| WOL.addN rfl rfl (by omega) <| WOL.ix rfl rfl y1 <| WOL.fa rfl (fa_of fo1207_0) <| WOL.ld rfl (load_one tp3 y2 yx) <| WOL.mul rfl rfl (by omega) (by omega) <| WOL.add rfl rfl (by omega) (by omega) <| WOL.fa rfl (fa_of fo1207_0) <| WOL.sto (vs:=encI (tapN L j (rT k (bw s l)) 0 + bw s l k * L.getD (j + k) 0)) rfl rfl tp3 A rfl rfl (Nat.le_of_ble_eq_true rfl) rfl (f.hx Yz) (by have:=Yg.next;omega) fun i5 M5 => WOL.nil <| keep [(2,_),(3,_),(6,_),(8,_),(10,_),(11,_),(12,_),(13,_),(14,_)] ⟨rfl,rfl,rfl,rfl,rfl,rfl,rfl,rfl,rfl,trivial⟩ ?_
      have m5:=M5.next
      have A5':At i5 g.next (.cells [zi (tapN L j (rT k (bw s l)) 0 + bw s l k * L.getD (j + k) 0),.bool (tapK S j (rT k (bw s l)))] true true 135):=M5.at_
      have Z5:HX g i5:=M5.hx _ Z (by omega)
      have hN:tapN L j (rT (k + 1) (bw s l)) 0 = tapN L j (rT k (bw s l)) 0 + bw s l k * L.getD (j + k) 0:=by rw [rT_succ,tapN_app];rfl
      have hK:tapK S j (rT (k + 1) (bw s l)) = (tapK S j (rT k (bw s l)) && knownB S ((j + k:Nat):Int)):=by rw [rT_succ,tapK_app]
      obtain ⟨_,_,cd,fixd,wrd,eld,d1,d2,d3,d4,d5⟩:=(sA.hx (X.trans Z5)).at eC u1205 tp1207 (zipK_get (L:=L) (S:=S) hq) .i64
      have dx:=d5 1 (by decide)
      replace dx:cd[_ + 1]? = some (.bool (knownB S ((j + k:Nat):Int))):=dx
      refine WL.reg <| WOL.fa rfl (fa_of fo1207_1) <| WOL.ld rfl (load_one tp4 A5' rfl) <| WOL.mv rfl ?_
      have fin:∀ B:Bool,B = tapK S j (rT (k + 1) (bw s l)) → ∀ y,Kn [(2,zi (l:Nat)),(3,ptr h.next),(6,ptr h1.next),(8,slA c (2 * l + 1)),(10,av),(11,u),(12,zi ((l + j:Nat):Int)),(13,ptr g.next),(14,zi (k:Nat)),(92,.bool B)] y → WO Tryz.prog tp (r1145_14.drop 13) y i5 (fun y g' => ∃ x:Unit,(HX g g' ∧ At g' g.next (.cells [zi (tapN L j (rT (k + 1) (bw s l)) 0),.bool (tapK S j (rT (k + 1) (bw s l)))] true true 135)) ∧ Kn [(2,zi (l:Nat)),(3,ptr h.next),(6,ptr h1.next),(8,slA c (2 * l + 1)),(10,av),(11,u),(12,zi ((l + j:Nat):Int)),(13,ptr g.next),(14,zi (k:Nat))] y):=by
        intro B hB
        refine WOL.fa rfl (fa_of fo1207_1) <| WOL.sto (vs:=encB B) rfl rfl tp4 A5' rfl rfl (Nat.le_of_ble_eq_true rfl) rfl (f.hx (Yg.trans Z5)) (by have:=Yg.next;omega) fun i6 M6 => WOL.nil fun y q => ⟨(),⟨M6.hx _ Z5 (by omega),?_⟩,q.sub ⟨rfl,rfl,rfl,rfl,rfl,rfl,rfl,rfl,rfl,trivial⟩⟩
        rw [hN,← hB]
        exact M6.at_
      cases hkk':tapK S j (rT k (bw s l)) with
      | true =>
        rw [hkk',Bool.true_and] at hK
        refine WOL.now (b:=true) rfl rfl <| WOL.mv rfl <| WOL.now (b:=true) rfl rfl <| WOL.mv rfl <| WOL.now (b:=true) rfl rfl <| WOL.mv rfl <| WOL.now (b:=true) rfl rfl <| WOL.sub (m:=((l + j:Nat):Int)) (n:=(l:Int)) rfl rfl (by omega) (by omega) ?_
        rw [show ((l + j:Nat):Int) - (l:Int) = ((j:Nat):Int) by omega]
        exact WOL.now (b:=true) rfl rfl <| WOL.mv rfl <| WOL.now (b:=true) rfl rfl <| WOL.addN rfl rfl (by omega) <| WOL.now (b:=true) rfl rfl <| WOL.ix rfl rfl d1 <| WOL.now (b:=true) rfl rfl <| WOL.fa rfl (fa_of fo1207_1) <| WOL.now (b:=true) rfl rfl <| WOL.ld rfl (load_one tp4 d2 dx) <| WOL.pkt rfl rfl <| kto (fin _ hK.symm) ⟨rfl,rfl,rfl,rfl,rfl,rfl,rfl,rfl,rfl,rfl,trivial⟩
      | false =>
        rw [hkk',Bool.false_and] at hK
        exact WOL.skp (b:=false) rfl rfl <| WOL.skp (b:=false) rfl rfl <| WOL.skp (b:=false) rfl rfl <| WOL.skp (b:=false) rfl rfl <| WOL.skp (b:=false) rfl rfl <| WOL.skp (b:=false) rfl rfl <| WOL.skp (b:=false) rfl rfl <| WOL.skp (b:=false) rfl rfl <| WOL.skp (b:=false) rfl rfl <| WOL.pkf rfl rfl <| kto (fin _ hK.symm) ⟨rfl,rfl,rfl,rfl,rfl,rfl,rfl,rfl,rfl,rfl,trivial⟩
    · rintro _ g' ⟨Z,A⟩
      have zg:=Z.next
      have Yz:=Yg.trans Z
      refine WL.reg <| WOL.mv rfl <| WOL.ld rfl (load_row tp1207 A rfl (Nat.le_of_ble_eq_true rfl)) <| WOL.bsl rfl u1205 tp1207 (by decide) (by decide) (by decide) (cs:=encC (tapN L j (rT (2 * l + 1) (bw s l)) 0,tapK S j (rT (2 * l + 1) (bw s l)))) rfl fun i5 N5 => ?_
      have n5:=N5.next
      obtain ⟨u',i6,ap,O',x6,_,_,_⟩:=own_push (sT:=133) (x:=(tapN L j (rT (2 * l + 1) (bw s l)) 0,tapK S j (rT (2 * l + 1) (bw s l)))) eC u1205 tp1207 ((O.hx Z).hx N5.hx) (SlC.own (sz:=2) (m:=1) rfl N5.at_) ((f.hx (Yz.trans N5.hx)).up (by omega)) (by rw [tapC_len];omega) (by omega)
      rw [← tapC_succ] at O'
      exact WOL.ap rfl rfl ap <| WOL.as rfl <| WOL.nil fun y q => ⟨u',⟨x6 _ ((X.trans Z).trans N5.hx) (Nat.le_refl _),O'⟩,q.sub ⟨rfl,rfl,rfl,rfl,rfl,rfl,rfl,trivial⟩⟩
  · rintro u g ⟨X,O⟩
    have xg:=X.next
    have Yg:=Y4.trans X
    have sO:=O.sl eC
    refine WL.seq <| WL.sr <| WOL.mv rfl <| WOL.len rfl sO u1205 ?_
    rw [tapC_len]
    by_cases h0:L.length ≤ 2 * l
    · rw [decide_eq_true h0]
      refine WOL.bt rfl rfl rfl (by first | exact decide_eq_true (by omega) | exact beq_iff_eq.2 (by omega) | exact bne_iff_ne.2 (by omega)) <| WOL.nil <| WL.yes rfl <| WL.sr <| WOL.bd rfl bd1114z <| WOL.sto (vs:=[zi 0,.slice none 0 0,.slice none 0 0]) rfl rfl tp1114 (A6.hx X) rfl rfl (Nat.le_of_ble_eq_true rfl) rfl (f.hx Yg) (by omega) fun i1 M1 => WOL.as rfl <| WOL.nil ?_
      exact WL.ret (WL.endC1 rfl rfl (load_row tp1114 M1.at_ rfl (Nat.le_of_ble_eq_true rfl)) ⟨M1.hx _ Yg (by omega),.inl ⟨by decide,rfl⟩⟩)
    rw [decide_eq_false h0]
    refine WOL.bf rfl rfl rfl (by first | exact decide_eq_false (by omega) | exact beq_eq_false_iff_ne.2 (by omega) | exact bne_eq_false_iff_eq.2 (by omega)) <| WOL.nil <| WL.no rfl <| WL.skip ?_
    refine WL.sr <| WOL.fa rfl (fa_of fo1114_0) <| WOL.ld rfl (load_one tp3 (A3.hx X) rfl) <| WOL.mv rfl <| WOL.add (m:=n) (n:=(l:Int)) rfl rfl (by omega) (by omega) <| WOL.mv rfl <| WOL.cl2 rfl rfl rfl ((k1188 H sO (by rw [tapC_len];omega) (f.on Yg)).mono ?_)
    rintro v g2 ⟨X2',R⟩
    have Z:=Yg.trans X2'
    have xx:=X2'.next
    have l6:=(A6.hx X).lt
    replace R:TapR (n + l) 0 (tapC L S (rT (2 * l + 1) (bw s l)) m) g.next g2 v:=.inr ⟨rfl,R⟩
    rcases R with ⟨heT,rfl⟩ | ⟨heT,⟨hbT,rfl⟩ | ⟨hbT,u1T,u2T,rfl,o1T,o2T⟩⟩
    · exact WOL.ex rfl rfl <| WOL.ex rfl rfl <| WOL.sto (vs:=[zi 0,.slice none 0 0,.slice none 0 0]) rfl rfl tp1114 ((A6.hx X).hx X2') rfl rfl (Nat.le_of_ble_eq_true rfl) rfl (f.hx (Z)) (by omega) fun iT MT => WOL.as rfl <| WOL.nil <| WL.ret (WL.endC1 rfl rfl (load_row tp1114 MT.at_ rfl (Nat.le_of_ble_eq_true rfl)) ⟨MT.hx _ (Z) (by omega),.inl ⟨heT,rfl⟩⟩)
    · exact WOL.ex rfl rfl <| WOL.ex rfl rfl <| WOL.sto (vs:=[zi 0,.slice none 0 0,.slice none 0 0]) rfl rfl tp1114 ((A6.hx X).hx X2') rfl rfl (Nat.le_of_ble_eq_true rfl) rfl (f.hx (Z)) (by omega) fun iT MT => WOL.as rfl <| WOL.nil <| WL.ret (WL.endC1 rfl rfl (load_row tp1114 MT.at_ rfl (Nat.le_of_ble_eq_true rfl)) ⟨MT.hx _ (Z) (by omega),.inr ⟨heT,.inl ⟨hbT,rfl⟩⟩⟩)
    · obtain ⟨z1T,e1T⟩:=OwnF.form (Or.inl o1T)
      obtain ⟨z2T,e2T⟩:=OwnF.form (Or.inl o2T)
      exact WOL.ex rfl rfl <| WOL.ex rfl rfl <| WOL.sto (vs:=[zi _,u1T,u2T]) rfl rfl tp1114 ((A6.hx X).hx X2') rfl rfl (Nat.le_of_ble_eq_true rfl) (by rw [e1T,e2T];rfl) (f.hx (Z)) (by omega) fun iT MT => WOL.as rfl <| WOL.nil <| WL.ret (WL.endC1 rfl rfl (load_row tp1114 MT.at_ rfl (Nat.le_of_ble_eq_true rfl)) ⟨MT.hx _ (Z) (by omega),.inr ⟨heT,.inr ⟨hbT,u1T,u2T,rfl,(o1T.keep fun z y hz a => MT.oth _ _ (by have:=o1T.lt hz;omega) a).low (by omega),(o2T.keep fun z y hz a => MT.oth _ _ (by have:=o2T.lt hz;omega) a).low (by omega)⟩⟩⟩)
end
end Go.Tidy
namespace Go.Tidy
open Go Go.Proofs Tab
variable {tp:TProg}
theorem ix83_0 {c:Nat}:indexAddrT Tryz.prog 69 (.pointer (some ⟨c,0,none⟩)) (.int .i64 0) = some (.pointer (some ⟨c,0,none⟩)):=by kernel_rfl
theorem ix83_1 {c:Nat}:indexAddrT Tryz.prog 69 (.pointer (some ⟨c,0,none⟩)) (.int .i64 1) = some (.pointer (some ⟨c,1,none⟩)):=by kernel_rfl
theorem ix83_2 {c:Nat}:indexAddrT Tryz.prog 69 (.pointer (some ⟨c,0,none⟩)) (.int .i64 2) = some (.pointer (some ⟨c,2,none⟩)):=by kernel_rfl
theorem firstB {e:Int} {l:List Int}:firstNZ [e,firstNZ l] = firstNZ (e :: l):=by
 show cond (e != 0) e (cond (firstNZ l != 0) (firstNZ l) 0) = cond (e != 0) e (firstNZ l)
 by_cases h:firstNZ l = 0
 ·rw [h];rfl
 ·rw [bne_iff_ne.2 h];rfl
section
variable {h h0 hb:TH} {n x y z m1 m2:Int} {v1 v2:Value} {L:List Int} {S:List (Int × Int)} {o1 o2:Int × List Int × List (Int × Int)} {c2 c3 c5 c7 c12 c13:Nat}
def cd1104c:TCode:=.seq (.reg r1104_12) .ret
def cd1104b:TCode:=.seq (.seq (.reg r1104_10) (.cond (.tmp 62) (.reg r1104_11) .skip)) cd1104c
def cd1104a:TCode:=.seq (.seq (.reg r1104_8) (.cond (.tmp 53) (.reg r1104_9) .skip)) cd1104b
set_option maxHeartbeats 4000000 in
set_option maxRecDepth 10000 in
theorem k1104c (H:Has tp) (K:Awk tp) (X0:HX h0 h) (f:Free0 h0.next h0) (l1:o1.2.1.length ≤ 1000000) (l2:o1.2.2.length ≤ 1000000) (l4:o2.2.1.length ≤ 1000000) (l5:o2.2.2.length ≤ 1000000)
  (C5:CelA 31 m1 o1 h c5) (C12:CelA 27 m1 o1 h c12) (C7:CelA 31 m2 o2 h c7) (C13:CelA 27 m2 o2 h c13) :
  ∀ r,Kn [(5,ptr c5),(6,zi o1.1),(7,ptr c7),(8,zi o2.1),(10,zi o1.1),(11,zi o2.1),(12,ptr c12),(13,ptr c13)] r → W Tryz.prog tp false cd1104c r h (Fin Tryz.prog [.tmp 4] fun v _ => v = .bool true):=by
 unfold cd1104c
 obtain ⟨_,_,A,A',_,_,_,_,_,_,_,_,_,_,_,_,_,_,rfl,rfl,w⟩:=celOne H f X0 C5 C12 l1 l2
 refine WL.sr <| WOL.ld rfl (load_row tp1117 A rfl (Nat.le_of_ble_eq_true rfl)) <| WOL.mv rfl <| WOL.mv rfl <| WOL.ld rfl (load_row tp1114 A' rfl (Nat.le_of_ble_eq_true rfl)) <| WOL.cl4 rfl rfl rfl rfl rfl (w.mono ?_)
 rintro v g5 ⟨rfl,X5⟩
 obtain ⟨_,_,B,B',_,_,_,_,_,_,_,_,_,_,_,_,_,_,rfl,rfl,w'⟩:=celOne H f (X0.trans X5) (C7.hx X5) (C13.hx X5) l4 l5
 refine WOL.mv rfl <| WOL.now (b:=true) rfl rfl <| WOL.ld rfl (load_row tp1117 B rfl (Nat.le_of_ble_eq_true rfl)) <| WOL.now (b:=true) rfl rfl <| WOL.mv rfl <| WOL.now (b:=true) rfl rfl <| WOL.mv rfl <| WOL.now (b:=true) rfl rfl <| WOL.ld rfl (load_row tp1114 B' rfl (Nat.le_of_ble_eq_true rfl)) <| WOL.now (b:=true) rfl rfl <| WOL.cl4 rfl rfl rfl rfl rfl (w'.mono ?_)
 rintro v g6 ⟨rfl,X6⟩
 refine WOL.pkt rfl rfl <| WOL.mv rfl <| WOL.now (b:=true) rfl rfl <| WOL.cl0 rfl ((k11t K g6).mono ?_)
 rintro v g8 ⟨rfl,rfl⟩
 exact WOL.pkt rfl rfl <| WOL.as rfl <| WOL.nil <| WL.ret (WL.end_ rfl rfl)
set_option maxHeartbeats 4000000 in
set_option maxRecDepth 10000 in
theorem k1104b (H:Has tp) (K:Awk tp) (X0:HX h0 h) (f:Free0 h0.next h0) (Xb:HX hb h) (b13:hb.next ≤ c13) (h13:h0.next ≤ c13) (A2:At hb c2 (.cells [zi n,v1,v2] true true 27)) (A3:At hb c3 (.cells [zi x,zi y,zi z] true true 69)) (r:TrcH hb v1 v2 L S) (hL:L.length ≤ 900000) (hS:S.length ≤ 900000) (l1:o1.2.1.length ≤ 1000000) (l2:o1.2.2.length ≤ 1000000)
  (ho:o2 = sumO (errV (firstNZ [traceE n L S,outB y 0 64,outB z 0 64,cond (decide (y ≥ z)) 11 0]) L.length (2 * z.toNat)) (tapC L S (rT (2 * z.toNat + 1) (bw y.toNat z.toNat)) (L.length - 2 * z.toNat)))
  (C5:CelA 31 m1 o1 hb c5) (C7:CelA 31 (n + z) o2 hb c7) (C12:∀ g,(∀ b x,b ≠ c13 → At h b x → At g b x) → CelA 27 m1 o1 g c12) (A13:At h c13 (.cells [zi 0,.slice none 0 0,.slice none 0 0] true true 27)) :
  ∀ r,Kn [(2,ptr c2),(3,ptr c3),(5,ptr c5),(6,zi o1.1),(7,ptr c7),(8,zi o2.1),(10,zi o1.1),(11,zi (firstNZ [traceE n L S,outB y 0 64,outB z 0 64,cond (decide (y ≥ z)) 11 0])),(12,ptr c12),(13,ptr c13)] r → W Tryz.prog tp false cd1104b r h (Fin Tryz.prog [.tmp 4] fun v _ => v = .bool true):=by
 unfold cd1104b
 have l4:o2.2.1.length ≤ 1000000:=by rw [ho];exact Nat.le_trans sumO_l1 (by rw [tapC_len];omega)
 have l5:o2.2.2.length ≤ 1000000:=by rw [ho];exact Nat.le_trans sumO_l2 (by rw [tapC_len];omega)
 have lc:=A13.lt
 generalize hE:firstNZ [traceE n L S,outB y 0 64,outB z 0 64,cond (decide (y ≥ z)) 11 0] = E at *
 by_cases e0:E = 0
 ·subst e0
  have all:=firstNZ_zero hE
  obtain ⟨⟨q1,q2⟩,q3,q4,q5,q6,q7⟩:=trace_ok (all (traceE n L S) (by simp))
  obtain ⟨p1,p2⟩:=out_mm (all (outB y 0 64) (by simp))
  obtain ⟨p3,p4⟩:=out_mm (all (outB z 0 64) (by simp))
  have p5:y < z:=by
   have:=all (cond (decide (y ≥ z)) 11 0) (by simp)
   by_cases c:y ≥ z
   ·rw [decide_eq_true c] at this;cases this
   ·omega
  obtain ⟨s,rfl⟩:∃ s:Nat,y = s:=⟨y.toNat,by omega⟩
  obtain ⟨l,rfl⟩:∃ l:Nat,z = l:=⟨z.toNat,by omega⟩
  rw [errV_ok,Int.toNat_natCast,Int.toNat_natCast] at ho
  refine WL.seq <| WL.sr <| WOL.mv rfl <| WOL.bt rfl rfl rfl rfl <| WOL.nil <| WL.yes rfl <| WL.reg <| WOL.ld rfl (load_row tp1114 (A2.hx Xb) rfl (Nat.le_of_ble_eq_true rfl)) <| WOL.ix rfl rfl ix83_1 <| WOL.ld rfl (load_one tp3 (A3.hx Xb) rfl) <| WOL.ix rfl rfl ix83_2 <| WOL.ld rfl (load_one tp3 (A3.hx Xb) rfl) <| WOL.cl3 rfl rfl rfl rfl ((k1145 (n:=n) (s:=s) (l:=l) H (r.hx Xb) (by omega) (by omega) q3 q1 q2 hL hS (f.on X0)).mono ?_)
  rintro v g ⟨X,R⟩
  have x1:=X.next
  have R':=R.ans
  rw [← ho] at R'
  obtain ⟨zA,y1A,y2A,rfl,iA,sA,loA,lqA,eA⟩:=R';obtain ⟨d1A,d2A,d3A,rfl⟩:=ints_form iA;obtain ⟨d4A,d5A,rfl,_⟩:=id sA
  refine WOL.mv rfl <| WOL.ex rfl rfl <| WOL.ex rfl rfl <| WOL.sto (vs:=[zi zA,.slice d1A d2A d3A,.slice d4A _ d5A]) rfl rfl tp1114 (A13.hx X) rfl rfl (Nat.le_of_ble_eq_true rfl) rfl (f.hx (X0.trans X)) (by omega) fun gA PA => WOL.as rfl <| WOL.nil ?_
  have Yb:HX hb gA:=PA.hx _ (Xb.trans X) b13
  exact kto (k1104c H K (PA.hx _ (X0.trans X) h13) f l1 l2 l4 l5 (C5.hx Yb) (C12 gA fun b x hb a => PA.oth _ _ hb (a.hx X)) (C7.hx Yb) ⟨zA,_,_,_,_,_,_,PA.at_,iA.keep fun b x hb a => PA.oth _ _ (by have:=loA b hb;have:=a.lt;omega) (a),slC_keep sA fun b x hb a => PA.oth _ _ (by have:=lqA b hb;have:=a.lt;omega) (a),eA⟩) ⟨rfl,rfl,rfl,rfl,rfl,rfl,rfl,rfl,trivial⟩
 ·have er:=errV_no (m:=L.length) (w:=2 * z.toNat) e0
  rw [er,sumO_err e0] at ho
  subst ho
  refine WL.seq <| WL.sr <| WOL.mv rfl <| WOL.bf rfl rfl rfl (beq_eq_false_iff_ne.2 e0) <| WOL.nil <| WL.no rfl <| WL.skip ?_
  exact kto (k1104c (o2:=(E,[],[])) (m2:=n + z) H K X0 f l1 l2 l4 l5 (C5.hx Xb) (C12 h fun b x _ a => a) (C7.hx Xb) (CelA.err e0 A13)) ⟨rfl,rfl,rfl,rfl,rfl,rfl,rfl,rfl,trivial⟩
set_option maxHeartbeats 4000000 in
set_option maxRecDepth 10000 in
theorem k1104a (H:Has tp) (K:Awk tp) (X0:HX h0 h) (f:Free0 h0.next h0) (Xb:HX hb h) (b12:hb.next ≤ c12) (b13:hb.next ≤ c13) (h12:h0.next ≤ c12) (h13:h0.next ≤ c13) (n34:c12 ≠ c13) (A2:At hb c2 (.cells [zi n,v1,v2] true true 27)) (A3:At hb c3 (.cells [zi x,zi y,zi z] true true 69)) (r:TrcH hb v1 v2 L S) (hL:L.length ≤ 900000) (hS:S.length ≤ 900000)
  (ho1:o1 = sumO (errV (firstNZ [traceE n L S,outB x 0 64]) L.length (2 * x.toNat)) (tapC L S (rT (2 * x.toNat + 1) fun _ => 1) (L.length - 2 * x.toNat)))
  (ho:o2 = sumO (errV (firstNZ [traceE n L S,outB y 0 64,outB z 0 64,cond (decide (y ≥ z)) 11 0]) L.length (2 * z.toNat)) (tapC L S (rT (2 * z.toNat + 1) (bw y.toNat z.toNat)) (L.length - 2 * z.toNat)))
  (C5:CelA 31 (n + x) o1 hb c5) (C7:CelA 31 (n + z) o2 hb c7) (A12:At h c12 (.cells [zi 0,.slice none 0 0,.slice none 0 0] true true 27)) (A13:At h c13 (.cells [zi 0,.slice none 0 0,.slice none 0 0] true true 27)) :
  ∀ r,Kn [(2,ptr c2),(3,ptr c3),(5,ptr c5),(6,zi o1.1),(7,ptr c7),(8,zi o2.1),(10,zi (firstNZ [traceE n L S,outB x 0 64])),(11,zi (firstNZ [traceE n L S,outB y 0 64,outB z 0 64,cond (decide (y ≥ z)) 11 0])),(12,ptr c12),(13,ptr c13)] r → W Tryz.prog tp false cd1104a r h (Fin Tryz.prog [.tmp 4] fun v _ => v = .bool true):=by
 unfold cd1104a
 have l1:o1.2.1.length ≤ 1000000:=by rw [ho1];exact Nat.le_trans sumO_l1 (by rw [tapC_len];omega)
 have l2:o1.2.2.length ≤ 1000000:=by rw [ho1];exact Nat.le_trans sumO_l2 (by rw [tapC_len];omega)
 have t12:=A12.lt
 have t13:=A13.lt
 generalize hE:firstNZ [traceE n L S,outB x 0 64] = E at *
 by_cases e0:E = 0
 ·subst e0
  have all:=firstNZ_zero hE
  obtain ⟨⟨q1,q2⟩,q3,q4,q5,q6,q7⟩:=trace_ok (all (traceE n L S) (by simp))
  obtain ⟨p1,p2⟩:=out_mm (all (outB x 0 64) (by simp))
  obtain ⟨l,rfl⟩:∃ l:Nat,x = l:=⟨x.toNat,by omega⟩
  rw [errV_ok,Int.toNat_natCast] at ho1
  refine WL.seq <| WL.sr <| WOL.mv rfl <| WOL.bt rfl rfl rfl rfl <| WOL.nil <| WL.yes rfl <| WL.reg <| WOL.ld rfl (load_row tp1114 (A2.hx Xb) rfl (Nat.le_of_ble_eq_true rfl)) <| WOL.ix rfl rfl ix83_0 <| WOL.ld rfl (load_one tp3 (A3.hx Xb) rfl) <| WOL.cl2 rfl rfl rfl ((k1144 (n:=n) (l:=l) H (r.hx Xb) (by omega) q3 q1 q2 hL hS (f.on X0)).mono ?_)
  rintro v g ⟨X,R⟩
  have x1:=X.next
  have R':=R.ans
  rw [← ho1] at R'
  obtain ⟨zA,y1A,y2A,rfl,iA,sA,loA,lqA,eA⟩:=R';obtain ⟨d1A,d2A,d3A,rfl⟩:=ints_form iA;obtain ⟨d4A,d5A,rfl,_⟩:=id sA
  refine WOL.mv rfl <| WOL.ex rfl rfl <| WOL.ex rfl rfl <| WOL.sto (vs:=[zi zA,.slice d1A d2A d3A,.slice d4A _ d5A]) rfl rfl tp1114 (A12.hx X) rfl rfl (Nat.le_of_ble_eq_true rfl) rfl (f.hx (X0.trans X)) (by omega) fun gA PA => WOL.as rfl <| WOL.nil ?_
  have Yb:HX hb gA:=PA.hx _ (Xb.trans X) b12
  refine kto (k1104b H K (PA.hx _ (X0.trans X) h12) f Yb b13 h13 A2 A3 r hL hS l1 l2 ho C5 C7 (fun g k => ?_) (PA.oth _ _ (by omega) (A13.hx X))) ⟨rfl,rfl,rfl,rfl,rfl,rfl,rfl,rfl,rfl,rfl,trivial⟩
  exact ⟨zA,_,_,_,_,_,_,k _ _ n34 PA.at_,iA.keep fun b x hb a => k _ _ (by have:=loA b hb;omega) (PA.oth _ _ (by have:=loA b hb;omega) a),slC_keep sA fun b x hb a => k _ _ (by have:=lqA b hb;omega) (PA.oth _ _ (by have:=lqA b hb;omega) a),eA⟩
 ·have er:=errV_no (m:=L.length) (w:=2 * x.toNat) e0
  rw [er,sumO_err e0] at ho1
  subst ho1
  refine WL.seq <| WL.sr <| WOL.mv rfl <| WOL.bf rfl rfl rfl (beq_eq_false_iff_ne.2 e0) <| WOL.nil <| WL.no rfl <| WL.skip ?_
  exact kto (k1104b (o1:=(E,[],[])) (m1:=n + x) H K X0 f Xb b13 h13 A2 A3 r hL hS l1 l2 ho C5 C7 (fun g k => CelA.err e0 (k _ _ n34 A12)) A13) ⟨rfl,rfl,rfl,rfl,rfl,rfl,rfl,rfl,rfl,rfl,trivial⟩
set_option maxHeartbeats 4000000 in
set_option maxRecDepth 10000 in
theorem k1104 (H:Has tp) (K:Awk tp) (r:TrcH h v1 v2 L S) (f:Free0 h.next h) :
  CallW Tryz.prog tp (.func (.func 7) #[] #[]) #[.agg #[zi n,v1,v2],.agg #[zi x,zi y,zi z]] h fun v _ => v = .bool true:=by
 obtain ⟨b1,k1,e1,_⟩:=id r.l
 obtain ⟨b2,k2,e2,_⟩:=id r.s
 subst e1 e2
 refine CallW.fnL (H.fn 7 f1104 rfl rfl) ?_
 refine WL.sr <| WOL.box rfl fun h1 N1 => WOL.box rfl fun h2 N2 => WOL.as rfl <| WOL.nil <| keep [(2,_),(3,_)] ⟨rfl,rfl,trivial⟩ ?_
 have q1:=N1.next
 have q2:=N2.next
 have A2:At h2 h.next (.cells [zi n,.slice b1 L.length k1,.slice b2 S.length k2] true true 27):=N1.at_.hx N2.hx
 have A3:At h2 h1.next (.cells [zi x,zi y,zi z] true true 69):=N2.at_
 have X2:=N1.hx.trans N2.hx
 refine WL.seq <| WL.sr <| WOL.ld rfl (load_row tp1114 A2 rfl (Nat.le_of_ble_eq_true rfl)) <| WOL.cl1 rfl rfl ((k1112 (n:=n) H (r.hx X2)).mono ?_)
 rintro v h3 ⟨rfl,X3⟩
 have Y3:=X2.trans X3
 replace A2:=A2.hx X3;replace A3:=A3.hx X3
 cases hb:shortB2 L.length S.length with
 | false =>
  refine WOL.nt rfl <| WOL.nil <| WL.yes rfl <| WL.sr <| WOL.cl0 rfl ((k11t K _).mono ?_)
  rintro v h4 ⟨rfl,rfl⟩
  exact WOL.as rfl <| WOL.nil <| WL.ret (WL.end_ rfl rfl)
 | true =>
  obtain ⟨hL,hS⟩:=shortB2_le hb
  refine WOL.nt rfl <| WOL.nil <| WL.no rfl <| WL.skip <| keep [(2,_),(3,_)] ⟨rfl,rfl,trivial⟩ ?_
  have y3:=Y3.next
  have t2:=A2.lt
  have t3:=A3.lt
  -- smoothed
  refine WL.sr <| WOL.ld rfl (load_row tp1114 A2 rfl (Nat.le_of_ble_eq_true rfl)) <| WOL.ix rfl rfl ix83_0 <| WOL.ld rfl (load_one tp3 A3 rfl) <| WOL.al tp1117 fun h4 N4 => ?_
  have q4:=N4.next
  have Y4:=Y3.trans N4.hx
  refine WOL.lq1 [h3.next,h1.next] rfl rfl rfl fun M hM => ((k1115 (n:=n) H ((r.hx Y4).relock M) (by omega) (by omega) ((f.on Y4).held hM (fun b hb => by simp at hb;omega))).mono ?_)
  rintro v h5 ⟨X5,u1,u2,rfl,ru,_,_⟩
  replace X5:=X5.relock
  replace ru:=ru.relock h4.lock
  generalize h5.withLock h4.lock = h5 at *
  have Y5:=Y4.trans X5
  have q5:=X5.next
  refine WOL.lq2 [h3.next] rfl rfl rfl rfl fun M hM => ((k1141 (n:=n) (a:=x) H (ru.relock M) hL hS ((f.on Y5).held hM (fun b hb => by simp at hb;omega))).mono ?_)
  rintro v h6 ⟨X6,PR⟩
  have PA:=PR.ans
  clear PR
  obtain ⟨zA,y1A,y2A,rfl,iA,sA,loA,lqA,eA⟩:=PA;obtain ⟨d1A,d2A,d3A,rfl⟩:=ints_form iA;obtain ⟨d4A,d5A,rfl,_⟩:=id sA
  replace X6:=X6.relock
  replace iA:=iA.keep (g':=h6.withLock h5.lock) fun b x _ a => a.relock _
  replace sA:=slC_keep (h':=h6.withLock h5.lock) sA fun b x _ a => a.relock _
  replace loA:∀ z,bl (.slice d1A d2A d3A) = some z → h5.next ≤ z:=loA
  replace lqA:∀ z,bl (.slice d4A _ d5A) = some z → h5.next ≤ z:=lqA
  generalize h6.withLock h5.lock = h6 at *
  have Y6:=Y5.trans X6
  have q6:=X6.next
  have Z6:=(N4.hx.trans X5).trans X6
  refine WOL.mv rfl <| WOL.ex rfl rfl <| WOL.ex rfl rfl <| WOL.sto (vs:=[zi zA,.slice d1A d2A d3A,.slice d4A _ d5A]) rfl rfl tp1117 ((N4.at_.hx X5).hx X6) rfl rfl (Nat.le_of_ble_eq_true rfl) rfl (f.hx (Y6)) (by omega) fun gA PA => WOL.as rfl <| WOL.nil <| keep [(2,_),(3,_),(5,_),(6,_)] ⟨rfl,rfl,rfl,rfl,trivial⟩ ?_
  have Z7:HX h3 gA:=PA.hx _ Z6 (Nat.le_refl _)
  have Y7:=Y3.trans Z7
  have C5:CelA 31 (n + x) (sumO (errV (firstNZ [traceE n L S,outB x 0 64]) L.length (2 * x.toNat)) (tapC L S (rT (2 * x.toNat + 1) fun _ => 1) (L.length - 2 * x.toNat))) gA h3.next:=⟨zA,_,_,_,_,_,_,PA.at_,iA.keep fun b x hb a => PA.oth _ _ (by have:=loA b hb;have:=a.lt;omega) (a),slC_keep sA fun b x hb a => PA.oth _ _ (by have:=lqA b hb;have:=a.lt;omega) (a),eA⟩
  clear PA
  replace A2:=A2.hx Z7;replace A3:=A3.hx Z7
  have z7:=Z7.next
  generalize gA = h7 at *
  -- the band
  refine WL.sr <| WOL.ld rfl (load_row tp1114 A2 rfl (Nat.le_of_ble_eq_true rfl)) <| WOL.ix rfl rfl ix83_1 <| WOL.ld rfl (load_one tp3 A3 rfl) <| WOL.ix rfl rfl ix83_2 <| WOL.ld rfl (load_one tp3 A3 rfl) <| WOL.al tp1117 fun h8 N8 => ?_
  have q8:=N8.next
  have Y8:=Y7.trans N8.hx
  refine WOL.lq1 [h7.next,h1.next,h1.next] rfl rfl rfl fun M hM => ((k1115 (n:=n) H ((r.hx Y8).relock M) (by omega) (by omega) ((f.on Y8).held hM (fun b hb => by simp at hb;omega))).mono ?_)
  rintro v h9 ⟨X9,u3,u4,rfl,rv,_,_⟩
  replace X9:=X9.relock
  replace rv:=rv.relock h8.lock
  generalize h9.withLock h8.lock = h9 at *
  have Y9:=Y8.trans X9
  have q9:=X9.next
  refine WOL.lq3 [h7.next] rfl rfl rfl rfl rfl fun M hM => ((k1142 (n:=n) (a:=y) (b:=z) H (rv.relock M) hL hS ((f.on Y9).held hM (fun b hb => by simp at hb;omega))).mono ?_)
  rintro v h10 ⟨X10,PR⟩
  have PB:=PR.ans
  clear PR
  obtain ⟨zB,y1B,y2B,rfl,iB,sB,loB,lqB,eB⟩:=PB;obtain ⟨d1B,d2B,d3B,rfl⟩:=ints_form iB;obtain ⟨d4B,d5B,rfl,_⟩:=id sB
  replace X10:=X10.relock
  replace iB:=iB.keep (g':=h10.withLock h9.lock) fun b x _ a => a.relock _
  replace sB:=slC_keep (h':=h10.withLock h9.lock) sB fun b x _ a => a.relock _
  replace loB:∀ z,bl (.slice d1B d2B d3B) = some z → h9.next ≤ z:=loB
  replace lqB:∀ z,bl (.slice d4B _ d5B) = some z → h9.next ≤ z:=lqB
  generalize h10.withLock h9.lock = h10 at *
  have Y10:=Y9.trans X10
  have q10:=X10.next
  have Z10:=(N8.hx.trans X9).trans X10
  refine WOL.mv rfl <| WOL.ex rfl rfl <| WOL.ex rfl rfl <| WOL.sto (vs:=[zi zB,.slice d1B d2B d3B,.slice d4B _ d5B]) rfl rfl tp1117 ((N8.at_.hx X9).hx X10) rfl rfl (Nat.le_of_ble_eq_true rfl) rfl (f.hx (Y10)) (by omega) fun gB PB => WOL.as rfl <| WOL.nil <| keep [(2,_),(3,_),(5,_),(6,_),(7,_),(8,_)] ⟨rfl,rfl,rfl,rfl,rfl,rfl,trivial⟩ ?_
  have Z11:HX h7 gB:=PB.hx _ Z10 (Nat.le_refl _)
  have Y11:=Y7.trans Z11
  have C7:CelA 31 (n + z) (sumO (errV (firstNZ [traceE n L S,outB y 0 64,outB z 0 64,cond (decide (y ≥ z)) 11 0]) L.length (2 * z.toNat)) (tapC L S (rT (2 * z.toNat + 1) (bw y.toNat z.toNat)) (L.length - 2 * z.toNat))) gB h7.next:=⟨zB,_,_,_,_,_,_,PB.at_,iB.keep fun b x hb a => PB.oth _ _ (by have:=loB b hb;have:=a.lt;omega) (a),slC_keep sB fun b x hb a => PB.oth _ _ (by have:=lqB b hb;have:=a.lt;omega) (a),eB⟩
  clear PB
  replace A2:=A2.hx Z11;replace A3:=A3.hx Z11;replace C5:=C5.hx Z11
  have z11:=Z11.next
  generalize gB = h11 at *
  -- the errors
  refine WL.sr <| WOL.ld rfl (load_row tp1114 A2 rfl (Nat.le_of_ble_eq_true rfl)) <| WOL.cl1 rfl rfl ((k1117 (n:=n) H (r.hx Y11) (by omega) (by omega) (f.on Y11)).mono ?_)
  rintro v h12 ⟨rfl,X12⟩
  have Y12:=Y11.trans X12
  replace A2:=A2.hx X12;replace A3:=A3.hx X12;replace C5:=C5.hx X12;replace C7:=C7.hx X12
  refine WOL.as rfl <| WOL.nil <| keep [(2,_),(3,_),(5,_),(6,_),(7,_),(8,_),(9,_)] ⟨rfl,rfl,rfl,rfl,rfl,rfl,rfl,trivial⟩ ?_
  refine WL.sr <| WOL.mv rfl <| WOL.ix rfl rfl ix83_0 <| WOL.ld rfl (load_one tp3 A3 rfl) <| WOL.mv rfl <| WOL.ix rfl rfl ix83_1 <| WOL.ld rfl (load_one tp3 A3 rfl) <| WOL.ix rfl rfl ix83_2 <| WOL.ld rfl (load_one tp3 A3 rfl) ?_
  refine WOL.lk3 rfl rfl rfl rfl fun M => ((k14 H x 0 64 _).mono ?_)
  rintro v h13 ⟨rfl,rfl⟩
  rw [TH.relock]
  refine WOL.bsl rfl u29 tp3 (by decide) (by decide) (by decide) (filled_ints _ _) fun h14 N14 => ?_
  refine WOL.lk1 rfl rfl fun M => ((k1118 H (l:=[_,_]) (N14.at_.relock M) (by simp)).mono ?_)
  rintro v h15 ⟨rfl,rfl⟩
  rw [TH.relock]
  refine WOL.cl2 rfl rfl rfl ((k1143 (a:=y) (b:=z) H _).mono ?_)
  rintro v h16 ⟨rfl,X16⟩
  refine WOL.bsl rfl u29 tp3 (by decide) (by decide) (by decide) (filled_ints _ _) fun h17 N17 => WOL.cl1 rfl rfl ((k1118 H (l:=[_,_]) N17.at_ (by simp)).mono ?_)
  rintro v h17 ⟨rfl,rfl⟩
  rw [firstB]
  refine WOL.as rfl <| WOL.as rfl <| WOL.nil <| keep [(2,_),(3,_),(5,_),(6,_),(7,_),(8,_),(10,_),(11,_)] ⟨rfl,rfl,rfl,rfl,rfl,rfl,rfl,rfl,trivial⟩ ?_
  have Z17:=(N14.hx.trans X16).trans N17.hx
  have Y17:=Y12.trans Z17
  have y17:=Y17.next
  replace A2:=A2.hx Z17;replace A3:=A3.hx Z17;replace C5:=C5.hx Z17;replace C7:=C7.hx Z17
  refine WL.sr <| WOL.al tp1114 fun h18 N18 => WOL.al tp1114 fun h19 N19 => WOL.nil <| keep [(2,_),(3,_),(5,_),(6,_),(7,_),(8,_),(10,_),(11,_),(12,_),(13,_)] ⟨rfl,rfl,rfl,rfl,rfl,rfl,rfl,rfl,rfl,rfl,trivial⟩ ?_
  have q18:=N18.next
  have q19:=N19.next
  have Z19:=N18.hx.trans N19.hx
  exact kto (k1104a H K (Y17.trans Z19) f Z19 (Nat.le_refl _) (by omega) (by omega) (by omega) (by omega) A2 A3 (r.hx Y17) hL hS rfl rfl C5 C7 (N18.at_.hx N19.hx) N19.at_) ⟨rfl,rfl,rfl,rfl,rfl,rfl,rfl,rfl,rfl,rfl,trivial⟩
end
set_option maxRecDepth 100000 in
theorem law1104:Law tpE 7 5 [27,69]:=by
 intro h us f ha
 obtain ⟨x0,x1,rfl,⟨p0,y0,e0⟩,⟨p1,y1,e1⟩⟩:=args2 ha
 rw [val_agg (.inl ⟨_,Tryz.underlying27⟩)] at e0
 obtain ⟨n1,v1,v2,L1,S1,rfl,r1⟩:=ty_trc (n:=1) y0
 have q1:=tyg_array Tryz.underlying69 y1
 rw [val_agg (.inr ⟨_,_,Tryz.underlying69⟩)] at e1
 obtain ⟨c0,d0,rfl,_,t0,c1,d1,rfl,_,t1,c2,d2,rfl,_,t2,rfl⟩:=q1
 obtain ⟨a,rfl,_⟩:=ty_int t0
 obtain ⟨b,rfl,_⟩:=ty_int t1
 obtain ⟨c,rfl,_⟩:=ty_int t2
 subst e0 e1
 exact k1104 hasE awkE r1 f
end Go.Tidy
