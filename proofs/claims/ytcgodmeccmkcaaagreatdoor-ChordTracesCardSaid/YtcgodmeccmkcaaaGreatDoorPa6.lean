/- A part of the proof. -/
import Derived.Test.YtcgodmeccmkcaaaGreatDoorPa5
import Derived.Test.YtcgodmeccmkcaaaGreatDoorPa4
set_option linter.all false
namespace Go.Tidy
open Go Go.Proofs Tab
variable {tp:TProg}
def valC (C:List (Int × Bool)):List Int:=C.map fun c => cond c.2 c.1 0
def bigC (C:List (Int × Bool)):Bool:=C.any fun c => c.2 && largeB c.1
theorem bd1114z:buildT Tryz.prog 27 [] = some (trcV 0 (.slice none 0 0) (.slice none 0 0)):=by kernel_rfl
theorem bd1114a {z:Int}:buildT Tryz.prog 27 [(0,zi z)] = some (trcV z (.slice none 0 0) (.slice none 0 0)):=by kernel_rfl
theorem fo1207_0:fieldOff Tryz.prog 135 0 = some 0:=by kernel_rfl
theorem fo1207_1:fieldOff Tryz.prog 135 1 = some 1:=by kernel_rfl
structure MadeJ (h:TH) (n:Int) (C:List (Int × Bool)) (j:Nat) (s:Value × Value) (g:TH):Prop where
 X:HX h g
 A4:At g h.next (.cells [zi 0,.slice none 0 0,.slice none 0 0] true true 27)
 A6:At g (h.next + 1) (.cells [zi n,s.1,s.2] true true 27)
 O1:OwnL encI (h.next + 2) g s.1 3 (valC (C.take j))
 O2:OwnL encS (h.next + 2) g s.2 103 (holesN (C.map fun c => c.2) j)
 ne:∀ z,bl s.1 = some z → bl s.2 ≠ some z
 big:bigC (C.take j) = false
section
variable {h g:TH} {n:Int} {v:Value} {C:List (Int × Bool)} {j:Nat}
theorem valC_succ {c:Int × Bool} (hc:C[j]? = some c):valC (C.take (j + 1)) = valC (C.take j) ++ [cond c.2 c.1 0]:=by
 have hj:=(List.getElem?_eq_some_iff.1 hc).1
 rw [List.take_succ_eq_append_getElem hj,(List.getElem?_eq_some_iff.1 hc).2]
 unfold valC
 rw [List.map_append]
 rfl
theorem bigC_succ {c:Int × Bool} (hc:C[j]? = some c):bigC (C.take (j + 1)) = (bigC (C.take j) || (c.2 && largeB c.1)):=by
 have hj:=(List.getElem?_eq_some_iff.1 hc).1
 rw [List.take_succ_eq_append_getElem hj,(List.getElem?_eq_some_iff.1 hc).2]
 unfold bigC
 rw [List.any_append]
 simp
set_option maxHeartbeats 4000000 in
set_option maxRecDepth 10000 in
theorem k1188 (H:Has tp) (s:SlL encC 2 h v C) (hl:C.length ≤ 900000) (f:Free0 h.next h):CallW Tryz.prog tp (.func (.func 88) #[] #[]) #[zi n,v] h fun v h' => HX h h' ∧ ((bigC C = true ∧ v = .tuple #[trcV 0 (.slice none 0 0) (.slice none 0 0),zi 4]) ∨ (bigC C = false ∧ ∃ w1 w2,v = .tuple #[trcV n w1 w2,zi 0] ∧ OwnL encI h.next h' w1 3 (valC C) ∧ OwnL encS h.next h' w2 103 (holesOf (C.map fun c => c.2)))):=by
  refine CallW.fnL (H.fn 88 f1188 rfl rfl) ?_
  refine WL.sr <| WOL.al tp1114 fun h1 N1 => WOL.as rfl <| WOL.nil <| keep [(0,_),(1,_),(4,_)] ⟨rfl,rfl,rfl,trivial⟩ ?_
  have n1:=N1.next
  refine WL.sr <| WOL.mv rfl <| WOL.bd rfl bd1114a <| WOL.al tp1114 fun h2 N2 => ?_
  have n2:=N2.next
  have X2:=N1.hx.trans N2.hx
  refine WOL.sto (vs:=[zi n,.slice none 0 0,.slice none 0 0]) rfl rfl tp1114 N2.at_ rfl rfl (Nat.le_of_ble_eq_true rfl) rfl (f.hx X2) (by omega) fun h3 P3 => WOL.nil <| keep [(0,_),(1,_),(4,_),(6,_)] ⟨rfl,rfl,rfl,rfl,trivial⟩ ?_
  have n3:=P3.next
  have X3:HX h h3:=P3.hx _ X2 (by omega)
  have A4:=P3.oth _ _ (by omega) (N1.at_.hx N2.hx)
  have A6:At h3 (h.next + 1) (.cells [zi n,.slice none 0 0,.slice none 0 0] true true 27):=by rw [← n1];exact P3.at_
  rw [n1]
  refine WL.seq <| WL.sr <| WOL.as rfl <| WOL.nil <| keep [(0,_),(1,_),(4,_),(6,_),(7,_)] ⟨rfl,rfl,rfl,rfl,rfl,trivial⟩ ?_
  have lB:(C.map fun c => c.2).length = C.length:=List.length_map ..
  refine WL.forz (α:=Value × Value) C.length (MadeJ h n C) (fun j _ => [(0,zi n),(1,v),(4,ptr h.next),(6,ptr (h.next + 1)),(7,zi (j:Nat))]) (fun j _ => [(0,zi n),(1,v),(4,ptr h.next),(6,ptr (h.next + 1)),(7,zi (j:Nat))]) (.slice none 0 0,.slice none 0 0) ⟨X3,A4,A6,.inl ⟨rfl,rfl⟩,.inl ⟨rfl,rfl⟩,fun z e => (by cases e),rfl⟩ ⟨rfl,rfl,rfl,rfl,rfl,trivial⟩ ?_ ?_ (fun _ _ _ => ⟨rfl,rfl,rfl,rfl,rfl,trivial⟩) ?_ ?_
  · rintro j w g hj q
    exact WOL.mv rfl <| WOL.mv rfl <| WOL.len rfl (s.hx q.X) u1205 <| WOL.bi rfl rfl rfl <| WOL.nil fun a q => ⟨rfl,q.sub ⟨rfl,rfl,rfl,rfl,rfl,rfl,trivial⟩⟩
  · rintro j w g hj q
    exact WOL.mv rfl <| WOL.inc rfl (by omega) <| WOL.as rfl <| WOL.nil fun a k => ⟨q,k.sub ⟨rfl,rfl,rfl,rfl,rfl,trivial⟩⟩
  · rintro j ⟨w1,w2⟩ g hj ⟨X,A4,A6,O1,O2,ne,big⟩
    have hc:C[j]? = some C[j]:=List.getElem?_eq_getElem hj
    generalize C[j] = c at hc
    obtain ⟨x,kn⟩:=c
    have hB:(C.map fun c => c.2).getD j false = kn:=by rw [List.getD_eq_getElem?_getD,List.getElem?_map,hc];rfl
    have vs:=valC_succ hc
    have bs:=bigC_succ hc
    rw [big,Bool.false_or] at bs
    have lv:(valC (C.take j)).length ≤ j:=by unfold valC;rw [List.length_map,List.length_take];omega
    have lh:=holesN_len (C.map fun c => c.2) j
    have xg:=X.next
    have l4:=A4.lt
    have l6:=A6.lt
    have lw1:=fun z (hz:bl w1 = some z) => O1.lt hz
    have lw2:=fun z (hz:bl w2 = some z) => O2.lt hz
    obtain ⟨b,o,cc,fix,wr,el,g1,g2,g3,g4,g5⟩:=(s.hx X).at eC u1205 tp1207 hc .i64
    have c0:=g5 0 (by decide)
    have c1:=g5 1 (by decide)
    rw [Nat.add_zero] at c0
    replace c0:cc[o]? = some (zi x):=c0
    replace c1:cc[o + 1]? = some (.bool kn):=c1
    refine WL.seq <| WL.sr <| WOL.mv rfl <| WOL.mv rfl <| WOL.ix rfl rfl g1 <| WOL.fa rfl (fa_of fo1207_1) <| WOL.ld rfl (load_one tp4 g2 c1) <| WOL.nil <| keep [(0,_),(1,_),(4,_),(6,_),(7,_),(21,_)] ⟨rfl,rfl,rfl,rfl,rfl,rfl,trivial⟩ ?_
    cases kn with
    | true =>
      replace vs:valC (C.take (j + 1)) = valC (C.take j) ++ [x]:=vs
      replace bs:bigC (C.take (j + 1)) = largeB x:=bs
      refine WL.yes rfl <| WL.seq <| WL.sr <| WOL.mv rfl <| WOL.mv rfl <| WOL.ix rfl rfl g1 <| WOL.fa rfl (fa_of fo1207_0) <| WOL.ld rfl (load_one tp3 g2 c0) <| WOL.cl1 rfl rfl ((k1187 H x _).mono ?_)
      rintro u g' ⟨rfl,rfl⟩
      refine WOL.bi (v:=.bool (largeB x)) rfl rfl rfl <| WOL.nil <| keep [(0,_),(1,_),(4,_),(6,_),(7,_),(28,_)] ⟨rfl,rfl,rfl,rfl,rfl,rfl,trivial⟩ ?_
      cases hb:largeB x with
      | true =>
        rw [hb] at bs
        have bC:bigC C = true:=by
          unfold bigC
          rw [List.any_eq_true]
          exact ⟨(x,true),List.mem_of_getElem? hc,by show (true && largeB x) = true;rw [hb];rfl⟩
        refine WL.yes rfl <| WL.sr <| WOL.bd rfl bd1114z <| WOL.sto (vs:=[zi 0,.slice none 0 0,.slice none 0 0]) rfl rfl tp1114 A4 rfl rfl (Nat.le_of_ble_eq_true rfl) rfl (f.hx X) (Nat.le_refl _) fun i1 M1 => WOL.as rfl <| WOL.nil ?_
        exact WL.ret (WL.endC1 rfl rfl (load_row tp1114 M1.at_ rfl (Nat.le_of_ble_eq_true rfl)) ⟨M1.hx _ X (Nat.le_refl _),.inl ⟨bC,rfl⟩⟩)
      | false =>
        rw [hb] at bs
        refine WL.no rfl <| WL.skip ?_
        refine WL.sr <| WOL.fa rfl (fa_of fo1114_1) <| WOL.ld rfl (load_one tp29 A6 rfl) <| WOL.mv rfl <| WOL.mv rfl <| WOL.ix rfl rfl g1 <| WOL.fa rfl (fa_of fo1207_0) <| WOL.ld rfl (load_one tp3 g2 c0) <| WOL.bs1 rfl u29 tp3 rfl fun i1 M1 => ?_
        have m1:=M1.next
        obtain ⟨w',i2,ap,O1',x2,y2,b2,m2⟩:=own_push (sT:=24) (x:=x) eI u29 tp3 (O1.hx M1.hx) (SlC.own (sz:=1) (m:=1) rfl M1.at_) ((f.hx (X.trans M1.hx)).up (by omega)) (by omega) (by omega)
        obtain ⟨z5,e5⟩:=OwnF.form (Or.inl O1')
        have A6':=y2 _ _ (fun e => by have:=lw1 _ e;omega) (A6.hx M1.hx)
        have A4':=y2 _ _ (fun e => by have:=lw1 _ e;omega) (A4.hx M1.hx)
        refine WOL.ap rfl rfl ap <| WOL.fa rfl (fa_of fo1114_1) <| WOL.sto (vs:=[w']) rfl rfl tp29 A6' (by rw [e5];rfl) rfl (Nat.le_of_ble_eq_true rfl) (by rw [e5];rfl) (f.hx (x2 _ (X.trans M1.hx) (by omega))) (by omega) fun i3 M3 => WOL.nil ?_
        refine WL.exit fun a q => ⟨(w',w2),⟨M3.hx _ (x2 _ (X.trans M1.hx) (by omega)) (by omega),M3.oth _ _ (by omega) A4',M3.at_,?_,?_,?_,bs⟩,q.sub ⟨rfl,rfl,rfl,rfl,rfl,trivial⟩⟩
        · rw [vs]
          exact O1'.keep fun z y hz a => M3.oth _ _ (by have:=O1'.lt hz;omega) a
        · show OwnL encS (h.next + 2) i3 w2 103 (hstep (C.map fun c => c.2) (holesN (C.map fun c => c.2) j) j)
          unfold hstep
          rw [if_pos hB]
          exact (O2.hx M1.hx).keep fun z y hz a => M3.oth _ _ (by have:=lw2 z hz;omega) (y2 z y (fun e => ne z e hz) a)
        · intro z hz e
          have e1:z = i1.next:=Option.some.inj (hz.symm.trans b2)
          have:=lw2 z e
          omega
    | false =>
      replace vs:valC (C.take (j + 1)) = valC (C.take j) ++ [0]:=vs
      replace bs:bigC (C.take (j + 1)) = false:=bs
      have he:=hstep_ext (C.map fun c => c.2) j hB
      refine WL.no rfl <| WL.skip ?_
      refine WL.sr <| WOL.fa rfl (fa_of fo1114_1) <| WOL.ld rfl (load_one tp29 A6 rfl) <| WOL.bs1 (v:=zi 0) rfl u29 tp3 rfl fun i1 M1 => ?_
      have m1:=M1.next
      obtain ⟨w',i2,ap,O1',x2,y2,b2,m2⟩:=own_push (sT:=24) (x:=0) eI u29 tp3 (O1.hx M1.hx) (SlC.own (sz:=1) (m:=1) rfl M1.at_) ((f.hx (X.trans M1.hx)).up (by omega)) (by omega) (by omega)
      obtain ⟨z5,e5⟩:=OwnF.form (Or.inl O1')
      have A6':=y2 _ _ (fun e => by have:=lw1 _ e;omega) (A6.hx M1.hx)
      have A4':=y2 _ _ (fun e => by have:=lw1 _ e;omega) (A4.hx M1.hx)
      refine WOL.ap rfl rfl ap <| WOL.fa rfl (fa_of fo1114_1) <| WOL.sto (vs:=[w']) rfl rfl tp29 A6' (by rw [e5];rfl) rfl (Nat.le_of_ble_eq_true rfl) (by rw [e5];rfl) (f.hx (x2 _ (X.trans M1.hx) (by omega))) (by omega) fun i3 M3 => WOL.nil <| keep [(0,_),(1,_),(4,_),(6,_),(7,_)] ⟨rfl,rfl,rfl,rfl,rfl,trivial⟩ ?_
      have m3:=M3.next
      have X3:HX h i3:=M3.hx _ (x2 _ (X.trans M1.hx) (by omega)) (by omega)
      have B4:=M3.oth _ _ (by omega) A4'
      have B6:At i3 (h.next + 1) (.cells [zi n,w',w2] true true 27):=M3.at_
      have lw':=fun z (hz:bl w' = some z) => O1'.lt hz
      have nw:∀ z,bl w' = some z → z = i1.next:=fun z hz => Option.some.inj (hz.symm.trans b2)
      replace O1':=O1'.keep (h':=i3) fun z y hz a => M3.oth _ _ (by have:=lw' z hz;omega) a
      rw [← vs] at O1'
      replace O2:OwnL encS (h.next + 2) i3 w2 103 (holesN (C.map fun c => c.2) j):=(O2.hx M1.hx).keep fun z y hz a => M3.oth _ _ (by have:=lw2 z hz;omega) (y2 z y (fun e => ne z e hz) a)
      have eh:holesN (C.map fun c => c.2) (j + 1) = extS (holesN (C.map fun c => c.2) j) j:=he
      generalize holesN (C.map fun c => c.2) j = acc at *
      have pushH:extS acc j = acc ++ [((j:Int),(j:Int) + 1)] → ∀ a,Kn [(0,zi n),(1,v),(4,ptr h.next),(6,ptr (h.next + 1)),(7,zi (j:Nat))] a → WO Tryz.prog tp r1188_12 a i3 (fun a g' => ∃ x,MadeJ h n C (j + 1) x g' ∧ Kn [(0,zi n),(1,v),(4,ptr h.next),(6,ptr (h.next + 1)),(7,zi (j:Nat))] a):=by
        intro ee
        refine WOL.fa rfl (fa_of fo1114_2) <| WOL.ld rfl (load_one tp44 B6 rfl) <| WOL.mv rfl <| WOL.mv rfl <| WOL.inc rfl (by omega) <| WOL.bd rfl bd48 <| WOL.bs2 rfl u44 tp48 fun i4 M4 => ?_
        have m4:=M4.next
        obtain ⟨w2',i5,ap5,O5,x5,y5,b5,m5⟩:=own_push (sT:=25) (x:=((j:Int),((j + 1:Nat):Int))) eS u44 tp48 (O2.hx M4.hx) (SlC.own (sz:=2) (m:=1) rfl M4.at_) ((f.hx (X3.trans M4.hx)).up (by omega)) (by omega) (by omega)
        obtain ⟨z6,e6⟩:=OwnF.form (Or.inl O5)
        have C6:=y5 _ _ (fun e => by have:=lw2 _ e;omega) (B6.hx M4.hx)
        have C4:=y5 _ _ (fun e => by have:=lw2 _ e;omega) (B4.hx M4.hx)
        have l5:=fun z (hz:bl w2' = some z) => O5.lt hz
        refine WOL.ap rfl rfl ap5 <| WOL.fa rfl (fa_of fo1114_2) <| WOL.sto (vs:=[w2']) rfl rfl tp44 C6 (by rw [e6];rfl) rfl (Nat.le_of_ble_eq_true rfl) (by rw [e6];rfl) (f.hx (x5 _ (X3.trans M4.hx) (by omega))) (by omega) fun i6 M6 => WOL.nil fun a q => ⟨(w',w2'),⟨M6.hx _ (x5 _ (X3.trans M4.hx) (by omega)) (by omega),M6.oth _ _ (by omega) C4,M6.at_,?_,?_,?_,bs⟩,q.sub ⟨rfl,rfl,rfl,rfl,rfl,trivial⟩⟩
        · exact (O1'.hx M4.hx).keep fun z y hz a => M6.oth _ _ (by have:=lw' z hz;omega) (y5 z y (fun e => by have:=nw z hz;have:=lw2 z e;omega) a)
        · rw [eh,ee]
          exact O5.keep fun z y hz a => M6.oth _ _ (by have:=l5 z hz;omega) a
        · intro z hz e
          have e1:=nw z hz
          have e2:z = i4.next:=Option.some.inj (e.symm.trans b5)
          omega
      refine WL.sr <| WOL.fa rfl (fa_of fo1114_2) <| WOL.ld rfl (load_one tp44 B6 rfl) <| WOL.len rfl (O2.sl eS) u44 <| WOL.as rfl <| WOL.nil <| keep [(0,_),(1,_),(4,_),(6,_),(7,_),(8,_)] ⟨rfl,rfl,rfl,rfl,rfl,rfl,trivial⟩ ?_
      by_cases hne:acc = []
      · subst hne
        refine WL.sr <| WOL.mv rfl <| WOL.bf rfl rfl rfl rfl <| WOL.mv rfl ?_
        repeat' (first
    | (refine WOL.mv rfl ?_)
    | refine WOL.now (b:=true) rfl rfl ?_ | refine WOL.now (b:=false) rfl rfl ?_
    | refine WOL.skp (b:=true) rfl rfl ?_ | refine WOL.skp (b:=false) rfl rfl ?_ | refine WOL.gu rfl rfl ?_
    | refine WOL.mv rfl ?_ | refine WOL.as rfl ?_
    | refine WOL.bi rfl rfl rfl ?_ | refine WOL.nt rfl ?_
    | refine WOL.pkt rfl rfl ?_ | refine WOL.pkf rfl rfl ?_)
        refine WOL.nil <| keep [(0,_),(1,_),(4,_),(6,_),(7,_),(60,_)] ⟨rfl,rfl,rfl,rfl,rfl,rfl,trivial⟩ ?_
        exact WL.no rfl <| WL.reg <| kto (pushH (by unfold extS;rw [if_neg (fun q => q.1 rfl)])) ⟨rfl,rfl,rfl,rfl,rfl,trivial⟩
      · have hm:0 < acc.length:=List.length_pos_iff.2 hne
        have hp:acc[acc.length - 1]? = some (acc.getD (acc.length - 1) (0,0)):=by rw [List.getD_eq_getElem?_getD,List.getElem?_eq_getElem (by omega)];rfl
        obtain ⟨bO,o3,cc3,fix3,wr3,el3,k1,k2,k3,k4,k5⟩:=(O2.sl eS).at eS u44 tp48 hp .i64
        have k6:=k5 1 (by decide)
        refine WL.sr <| WOL.mv rfl <| WOL.bt rfl rfl rfl (by first | exact decide_eq_true (by omega) | exact beq_iff_eq.2 (by omega) | exact bne_iff_ne.2 (by omega)) <| WOL.mv rfl <| WOL.now (b:=true) rfl rfl <| WOL.fa rfl (fa_of fo1114_2) <| WOL.now (b:=true) rfl rfl <| WOL.ld rfl (load_one tp44 B6 rfl) <| WOL.now (b:=true) rfl rfl <| WOL.mv rfl <| WOL.now (b:=true) rfl rfl <| WOL.sub (m:=((acc.length:Nat):Int)) (n:=1) rfl rfl (by omega) (by omega) ?_
        rw [show ((acc.length:Nat):Int) - 1 = ((acc.length - 1:Nat):Int) by omega]
        refine WOL.now (b:=true) rfl rfl <| WOL.ix rfl rfl k1 <| WOL.now (b:=true) rfl rfl <| WOL.fa rfl (fa_of fo48_1) <| WOL.now (b:=true) rfl rfl <| WOL.ld rfl (load_one tp3 k2 k6) <| WOL.now (b:=true) rfl rfl <| WOL.mv rfl <| WOL.now (b:=true) rfl rfl ?_
        by_cases hq:(acc.getD (acc.length - 1) (0,0)).2 = (j:Int)
        · have ee:extS acc j = acc.set (acc.length - 1) ((acc.getD (acc.length - 1) (0,0)).1,((j + 1:Nat):Int)):=by unfold extS;rw [if_pos ⟨hne,hq⟩];rfl
          refine WOL.bt rfl rfl rfl (beq_iff_eq.2 hq) <| WOL.pkt rfl rfl <| WOL.nil <| keep [(0,_),(1,_),(4,_),(6,_),(7,_),(8,_),(60,_)] ⟨rfl,rfl,rfl,rfl,rfl,rfl,rfl,trivial⟩ ?_
          rcases O2 with ⟨_,e0⟩ | ⟨_,bA,rfl,hbA,AO⟩
          · exact absurd e0 hne
          have la:=AO.lt
          refine WL.yes rfl <| WL.reg <| WOL.fa rfl (fa_of fo1114_2) <| WOL.ld rfl (load_one tp44 B6 rfl) <| WOL.mv rfl <| WOL.sub (m:=((acc.length:Nat):Int)) (n:=1) rfl rfl (by omega) (by omega) ?_
          rw [show ((acc.length:Nat):Int) - 1 = ((acc.length - 1:Nat):Int) by omega]
          refine WOL.mv rfl <| WOL.inc rfl (by omega) <| WOL.ix rfl rfl (indexAddr_tp u44 tp48 (by omega)) <| WOL.fa rfl (fa_of fo48_1) ?_
          refine WOL.sto (vs:=[zi ((j + 1:Nat):Int)]) rfl rfl tp3 AO rfl rfl (by rw [eS.cat_len];omega) rfl (f.hx X3) (by omega) fun i4 M4 => ?_
          have D:=M4.at_
          rw [show (0:Nat) + (acc.length - 1) * 2 + 1 = (acc.length - 1) * 2 + 1 by omega,splice_one _ _ _ (by rw [eS.cat_len];omega),set_one _ _ _ _ hp] at D
          have n4:bA ≠ h.next ∧ bA ≠ h.next + 1:=⟨by omega,by omega⟩
          have lset:(acc.set (acc.length - 1) ((acc.getD (acc.length - 1) (0,0)).1,((j + 1:Nat):Int))).length = acc.length:=List.length_set
          refine WOL.nil fun a q => ⟨(w',.slice (some ⟨bA,0,none⟩) acc.length acc.length),⟨M4.hx _ X3 (by omega),M4.oth _ _ (by omega) B4,M4.oth _ _ (by omega) B6,?_,?_,?_,bs⟩,q.sub ⟨rfl,rfl,rfl,rfl,rfl,trivial⟩⟩
          · exact O1'.keep fun z y hz a => M4.oth _ _ (by have:=nw z hz;have:=lw2 bA rfl;omega) a
          · rw [eh,ee]
            refine .inr ⟨fun e => by rw [e] at lset;simp at lset;omega,bA,by rw [lset],hbA,D⟩
          · intro z hz e
            have e1:=nw z hz
            have e2:bA = z:=Option.some.inj e
            have:=lw2 bA rfl
            omega
        · refine WOL.bf rfl rfl rfl (beq_eq_false_iff_ne.2 hq) <| WOL.pkt rfl rfl <| WOL.nil <| keep [(0,_),(1,_),(4,_),(6,_),(7,_),(60,_)] ⟨rfl,rfl,rfl,rfl,rfl,rfl,trivial⟩ ?_
          exact WL.no rfl <| WL.reg <| kto (pushH (by unfold extS;rw [if_neg (fun q => hq q.2)])) ⟨rfl,rfl,rfl,rfl,rfl,trivial⟩
  · rintro ⟨w1,w2⟩ g ⟨X,A4,A6,O1,O2,ne,big⟩
    rw [List.take_length] at big
    have O1:OwnL encI (h.next + 2) g w1 3 (valC (C.take C.length)):=O1
    rw [List.take_length] at O1
    have O2:OwnL encS (h.next + 2) g w2 103 (holesN (C.map fun c => c.2) C.length):=O2
    obtain ⟨z1,e1⟩:=OwnF.form (Or.inl O1)
    obtain ⟨z2,e2⟩:=OwnF.form (Or.inl O2)
    refine WL.sr <| WOL.ld rfl (load_row tp1114 A6 rfl (Nat.le_of_ble_eq_true rfl)) <| WOL.sto (vs:=[zi n,w1,w2]) rfl rfl tp1114 A4 rfl rfl (Nat.le_of_ble_eq_true rfl) (by rw [e1,e2];rfl) (f.hx X) (Nat.le_refl _) fun i1 M1 => WOL.as rfl <| WOL.nil ?_
    refine WL.ret (WL.endC1 rfl rfl (load_row tp1114 M1.at_ rfl (Nat.le_of_ble_eq_true rfl)) ⟨M1.hx _ X (Nat.le_refl _),.inr ⟨big,w1,w2,rfl,?_,?_⟩⟩)
    · rcases O1.keep (h':=i1) (fun z y hz a => M1.oth _ _ (by have:=O1.lt hz;omega) a) with q | ⟨q1,b,q2,q3,q4⟩
      · exact .inl q
      · exact .inr ⟨q1,b,q2,by omega,q4⟩
    · show OwnL encS h.next i1 w2 103 (holesN _ _)
      rw [lB]
      rcases O2.keep (h':=i1) (fun z y hz a => M1.oth _ _ (by have:=O2.lt hz;omega) a) with q | ⟨q1,b,q2,q3,q4⟩
      · exact .inl q
      · exact .inr ⟨q1,b,q2,by omega,q4⟩
end
end Go.Tidy
namespace Go.Tidy
open Go Go.Proofs Tab
variable {tp:TProg}
def MadeR (n:Int) (C:List (Int × Bool)) (n0:Nat) (h':TH) (v:Value):Prop :=
 (bigC C = true ∧ v = .tuple #[trcV 0 (.slice none 0 0) (.slice none 0 0),zi 4]) ∨ (bigC C = false ∧ ∃ w1 w2,v = .tuple #[trcV n w1 w2,zi 0] ∧ OwnL encI n0 h' w1 3 (valC C) ∧ OwnL encS n0 h' w2 103 (holesOf (C.map fun c => c.2)))
def addC (L1 L2:List Int) (S1 S2:List (Int × Int)) (m:Nat):List (Int × Bool):=(List.range m).map fun i => (L1.getD i 0 + L2.getD i 0,knownB S1 (i:Nat) && knownB S2 (i:Nat))
theorem addC_len {L1 L2:List Int} {S1 S2:List (Int × Int)} {m:Nat}:(addC L1 L2 S1 S2 m).length = m:=by unfold addC;rw [List.length_map,List.length_range]
theorem addC_succ {L1 L2:List Int} {S1 S2:List (Int × Int)} {m:Nat}:addC L1 L2 S1 S2 (m + 1) = addC L1 L2 S1 S2 m ++ [(L1.getD m 0 + L2.getD m 0,knownB S1 (m:Nat) && knownB S2 (m:Nat))]:=by
 unfold addC
 rw [List.range_succ,List.map_append]
 rfl
theorem OwnL.low {α:Type} {enc:α → List Value} {n0 n1:Nat} {h:TH} {v:Value} {e:TypeId} {l:List α} (o:OwnL enc n1 h v e l) (h0:n0 ≤ n1):OwnL enc n0 h v e l:=by
 rcases o with q | ⟨q1,b,q2,q3,q4⟩
 ·exact .inl q
 ·exact .inr ⟨q1,b,q2,by omega,q4⟩
section
variable {h:TH} {n n':Int} {v1 v2 w1 w2:Value} {L1 L2:List Int} {S1 S2:List (Int × Int)}
set_option maxHeartbeats 4000000 in
set_option maxRecDepth 10000 in
theorem k1119 (H:Has tp) (r1:TrcH h v1 v2 L1 S1) (r2:TrcH h w1 w2 L2 S2) (l1:L1.length ≤ 900000) (t1:S1.length ≤ 1000000) (t2:S2.length ≤ 1000000) (lim:∀ i,-2000000000 ≤ L1.getD i 0 ∧ L1.getD i 0 ≤ 2000000000 ∧ -2000000000 ≤ L2.getD i 0 ∧ L2.getD i 0 ≤ 2000000000) (f:Free0 h.next h) :
  CallW Tryz.prog tp (.func (.func 19) #[] #[]) #[trcV n v1 v2,trcV n' w1 w2] h fun v h' => HX h h' ∧ ((¬ (n = n' ∧ L1.length = L2.length) ∧ v = .tuple #[trcV 0 (.slice none 0 0) (.slice none 0 0),zi 2]) ∨ ((n = n' ∧ L1.length = L2.length) ∧ MadeR n (addC L1 L2 S1 S2 L1.length) h.next h' v)):=by
 refine CallW.fnL (H.fn 19 f1119 rfl rfl) ?_
 refine WL.sr <| WOL.box rfl fun h1 N1 => WOL.box rfl fun h2 N2 => WOL.al tp1114 fun h3 N3 => WOL.as rfl <| WOL.nil <| keep [(2,_),(3,_),(4,_)] ⟨rfl,rfl,rfl,trivial⟩ ?_
 have n1:=N1.next
 have n2:=N2.next
 have n3:=N3.next
 obtain ⟨b1,k1,e1,_⟩:=id r1.l
 obtain ⟨b2,k2,e2,_⟩:=id r1.s
 obtain ⟨b3,k3,e3,_⟩:=id r2.l
 obtain ⟨b4,k4,e4,_⟩:=id r2.s
 subst e1 e2 e3 e4
 have A2:At h3 h.next (.cells [zi n,.slice b1 L1.length k1,.slice b2 S1.length k2] true true 27):=(N1.at_.hx N2.hx).hx N3.hx
 have A3:At h3 h1.next (.cells [zi n',.slice b3 L2.length k3,.slice b4 S2.length k4] true true 27):=N2.at_.hx N3.hx
 have A4:=N3.at_
 have X3:=(N1.hx.trans N2.hx).trans N3.hx
 have q1:=r1.hx X3
 have q2:=r2.hx X3
 by_cases c0:¬ (n = n' ∧ L1.length = L2.length)
 ·refine WL.seq <| WL.sr ?_
  have body:∀ a,Kn [(4,ptr h2.next),(21,.bool true)] a → W Tryz.prog tp false (.cond (.tmp 21) (.seq (.reg r1119_2) .ret) .skip) a h3 (fun e r g => e = .ret ∧ Fin Tryz.prog [.cell 4 27,.tmp 5] (fun v h' => HX h h' ∧ ((¬ (n = n' ∧ L1.length = L2.length) ∧ v = .tuple #[trcV 0 (.slice none 0 0) (.slice none 0 0),zi 2]) ∨ ((n = n' ∧ L1.length = L2.length) ∧ MadeR n (addC L1 L2 S1 S2 L1.length) h.next h' v))) .ret r g):=by
   refine WL.yes rfl <| WL.sr <| WOL.bd rfl bd1114z <| WOL.sto (vs:=[zi 0,.slice none 0 0,.slice none 0 0]) rfl rfl tp1114 A4 rfl rfl (Nat.le_of_ble_eq_true rfl) rfl (f.hx X3) (by omega) fun i1 M1 => WOL.as rfl <| WOL.nil ?_
   exact WL.ret fun a k => ⟨rfl,WL.endC1 rfl rfl (load_row tp1114 M1.at_ rfl (Nat.le_of_ble_eq_true rfl)) ⟨M1.hx _ X3 (by omega),.inl ⟨c0,rfl⟩⟩ a k⟩
  have fin:∀ {Q:Exit → Regs → TH → Prop},(∀ r g,Fin Tryz.prog [.cell 4 27,.tmp 5] (fun v h' => HX h h' ∧ ((¬ (n = n' ∧ L1.length = L2.length) ∧ v = .tuple #[trcV 0 (.slice none 0 0) (.slice none 0 0),zi 2]) ∨ ((n = n' ∧ L1.length = L2.length) ∧ MadeR n (addC L1 L2 S1 S2 L1.length) h.next h' v))) .ret r g → Q .ret r g) → ∀ a,Kn [(4,ptr h2.next),(21,.bool true)] a → W Tryz.prog tp false (.cond (.tmp 21) (.seq (.reg r1119_2) .ret) .skip) a h3 Q:=fun hq a k => (body a k).mono fun e r g ⟨he,hf⟩ => by subst he;exact hq _ _ hf
  refine WOL.fa rfl (fa_of fo1114_0) <| WOL.ld rfl (load_one tp3 A2 rfl) <| WOL.fa rfl (fa_of fo1114_0) <| WOL.ld rfl (load_one tp3 A3 rfl) ?_
  by_cases c1:n = n'
  ·have c2:L1.length ≠ L2.length:=fun e => c0 ⟨c1,e⟩
   refine WOL.bf rfl rfl rfl (by first | exact decide_eq_false (by omega) | exact beq_eq_false_iff_ne.2 (by omega) | exact bne_eq_false_iff_eq.2 (by omega)) <| WOL.mv rfl <| WOL.now (b:=false) rfl rfl <| WOL.fa rfl (fa_of fo1114_1) <| WOL.now (b:=false) rfl rfl <| WOL.ld rfl (load_one tp29 A2 rfl) <| WOL.now (b:=false) rfl rfl <| WOL.len rfl q1.l u29 <| WOL.now (b:=false) rfl rfl <| WOL.fa rfl (fa_of fo1114_1) <| WOL.now (b:=false) rfl rfl <| WOL.ld rfl (load_one tp29 A3 rfl) <| WOL.now (b:=false) rfl rfl <| WOL.len rfl q2.l u29 <| WOL.now (b:=false) rfl rfl <| WOL.bt rfl rfl rfl (by first | exact decide_eq_true (by omega) | exact beq_iff_eq.2 (by omega) | exact bne_iff_ne.2 (by omega)) <| WOL.pkf rfl rfl <| WOL.nil ?_
   exact kto (fin fun r g q => q) ⟨rfl,rfl,trivial⟩
  ·refine WOL.bt rfl rfl rfl (by first | exact decide_eq_true (by omega) | exact beq_iff_eq.2 (by omega) | exact bne_iff_ne.2 (by omega)) ?_
   repeat' (first
  | (refine WOL.mv rfl ?_)
  | refine WOL.now (b:=true) rfl rfl ?_ | refine WOL.now (b:=false) rfl rfl ?_
  | refine WOL.skp (b:=true) rfl rfl ?_ | refine WOL.skp (b:=false) rfl rfl ?_ | refine WOL.gu rfl rfl ?_
  | refine WOL.mv rfl ?_ | refine WOL.as rfl ?_
  | refine WOL.bi rfl rfl rfl ?_ | refine WOL.nt rfl ?_
  | refine WOL.pkt rfl rfl ?_ | refine WOL.pkf rfl rfl ?_)
   exact WOL.nil <| kto (fin fun r g q => q) ⟨rfl,rfl,trivial⟩
 have c0:n = n' ∧ L1.length = L2.length:=Classical.not_not.1 c0
 obtain ⟨rfl,cl⟩:=c0
 refine WL.seq <| WL.sr <| WOL.fa rfl (fa_of fo1114_0) <| WOL.ld rfl (load_one tp3 A2 rfl) <| WOL.fa rfl (fa_of fo1114_0) <| WOL.ld rfl (load_one tp3 A3 rfl) <| WOL.bf rfl rfl rfl (by first | exact decide_eq_false (by omega) | exact beq_eq_false_iff_ne.2 (by omega) | exact bne_eq_false_iff_eq.2 (by omega)) <| WOL.mv rfl <| WOL.now (b:=false) rfl rfl <| WOL.fa rfl (fa_of fo1114_1) <| WOL.now (b:=false) rfl rfl <| WOL.ld rfl (load_one tp29 A2 rfl) <| WOL.now (b:=false) rfl rfl <| WOL.len rfl q1.l u29 <| WOL.now (b:=false) rfl rfl <| WOL.fa rfl (fa_of fo1114_1) <| WOL.now (b:=false) rfl rfl <| WOL.ld rfl (load_one tp29 A3 rfl) <| WOL.now (b:=false) rfl rfl <| WOL.len rfl q2.l u29 <| WOL.now (b:=false) rfl rfl <| WOL.bf rfl rfl rfl (by first | exact decide_eq_false (by omega) | exact beq_eq_false_iff_ne.2 (by omega) | exact bne_eq_false_iff_eq.2 (by omega)) <| WOL.pkf rfl rfl <| WOL.nil <| keep [(2,_),(3,_),(4,_),(21,_)] ⟨rfl,rfl,rfl,rfl,trivial⟩ ?_
 refine WL.no rfl <| WL.skip ?_
 refine WL.sr <| WOL.as rfl <| WOL.nil ?_
 refine WL.seq <| WL.sr <| WOL.as rfl <| WOL.nil <| keep [(2,_),(3,_),(4,_),(6,_),(7,_)] ⟨rfl,rfl,rfl,rfl,rfl,trivial⟩ ?_
 refine WL.forz (α:=Value) L1.length (fun j w g => HX h3 g ∧ OwnL encC h3.next g w 135 (addC L1 L2 S1 S2 j)) (fun j w => [(2,ptr h.next),(3,ptr h1.next),(4,ptr h2.next),(6,w),(7,zi (j:Nat))]) (fun j w => [(2,ptr h.next),(3,ptr h1.next),(4,ptr h2.next),(6,w),(7,zi (j:Nat))]) (.slice none 0 0) ⟨HX.refl _,.inl ⟨rfl,rfl⟩⟩ ⟨rfl,rfl,rfl,rfl,rfl,trivial⟩ ?_ ?_ (fun _ _ _ => ⟨rfl,rfl,rfl,rfl,rfl,trivial⟩) ?_ ?_
 ·rintro j w g hj ⟨X,_⟩
  exact WOL.mv rfl <| WOL.fa rfl (fa_of fo1114_1) <| WOL.ld rfl (load_one tp29 (A2.hx X) rfl) <| WOL.len rfl (q1.l.hx X) u29 <| WOL.bi rfl rfl rfl <| WOL.nil fun a q => ⟨rfl,q.sub ⟨rfl,rfl,rfl,rfl,rfl,rfl,trivial⟩⟩
 ·rintro j w g hj q
  exact WOL.mv rfl <| WOL.inc rfl (by omega) <| WOL.as rfl <| WOL.nil fun a k => ⟨q,k.sub ⟨rfl,rfl,rfl,rfl,rfl,trivial⟩⟩
 ·rintro j w g hj ⟨X,O⟩
  obtain ⟨m1,m2,m3,m4⟩:=lim j
  have hp:L1[j]? = some (L1.getD j 0):=by rw [List.getD_eq_getElem?_getD,List.getElem?_eq_getElem hj];rfl
  have hp2:L2[j]? = some (L2.getD j 0):=by rw [List.getD_eq_getElem?_getD,List.getElem?_eq_getElem (by omega)];rfl
  have B2:=A2.hx X
  have B3:=A3.hx X
  have p1:=q1.hx X
  have p2:=q2.hx X
  have xg:=X.next
  obtain ⟨b5,o5,cc,fix,wr,el,g1,g2,g3,g4,g5⟩:=p1.l.at eI u29 tp3 hp .i64
  obtain ⟨b6,o6,cc',fix',wr',el',y1,y2,y3,y4,y5⟩:=p2.l.at eI u29 tp3 hp2 .i64
  refine WL.reg <| WOL.mv rfl <| WOL.fa rfl (fa_of fo1114_1) <| WOL.ld rfl (load_one tp29 B2 rfl) <| WOL.mv rfl <| WOL.ix rfl rfl g1 <| WOL.ld rfl (load_one tp3 g2 (by have:=g5 0 (by decide);rwa [Nat.add_zero] at this)) <| WOL.fa rfl (fa_of fo1114_1) <| WOL.ld rfl (load_one tp29 B3 rfl) <| WOL.mv rfl <| WOL.ix rfl rfl y1 <| WOL.ld rfl (load_one tp3 y2 (by have:=y5 0 (by decide);rwa [Nat.add_zero] at this)) <| WOL.add rfl rfl (by omega) (by omega) <| WOL.ld rfl (load_row tp1114 B2 rfl (Nat.le_of_ble_eq_true rfl)) <| WOL.mv rfl ?_
  refine WOL.lk2 rfl rfl rfl fun M => ((k1154 H (x:=((j:Nat):Int)) (p1.s.relock M) t1).mono ?_)
  rintro v g3 ⟨rfl,Y3⟩
  replace Y3:=Y3.relock
  generalize g3.withLock g.lock = g3 at *
  have end_:∀ g4,HX g3 g4 → ∀ a,Kn [(2,ptr h.next),(3,ptr h1.next),(4,ptr h2.next),(7,zi (j:Nat)),(30,w),(41,zi (L1.getD j 0 + L2.getD j 0)),(49,.bool (knownB S1 ((j:Nat):Int) && knownB S2 ((j:Nat):Int)))] a → WO Tryz.prog tp (r1119_6.drop 20) a g4 (fun a g' => ∃ w,(HX h3 g' ∧ OwnL encC h3.next g' w 135 (addC L1 L2 S1 S2 (j + 1))) ∧ Kn [(2,ptr h.next),(3,ptr h1.next),(4,ptr h2.next),(6,w),(7,zi (j:Nat))] a):=by
   intro g4 Y4
   have Z:=(X.trans Y3).trans Y4
   refine WOL.bd rfl bd1207 <| WOL.bsl rfl u1205 tp1207 (by decide) (by decide) (by decide) (cs:=encC (L1.getD j 0 + L2.getD j 0,knownB S1 ((j:Nat):Int) && knownB S2 ((j:Nat):Int))) rfl fun g5 N5 => ?_
   have n5:=N5.next
   have z:=Z.next
   obtain ⟨w',g6,ap,O',x6,_,_,_⟩:=own_push (sT:=133) (x:=(L1.getD j 0 + L2.getD j 0,knownB S1 ((j:Nat):Int) && knownB S2 ((j:Nat):Int))) eC u1205 tp1207 (((O.hx Y3).hx Y4).hx N5.hx) (SlC.own (sz:=2) (m:=1) rfl N5.at_) ((f.hx (X3.trans (Z.trans N5.hx))).up (by omega)) (by rw [addC_len];omega) (by omega)
   rw [← addC_succ] at O'
   exact WOL.ap rfl rfl ap <| WOL.as rfl <| WOL.nil fun a q => ⟨w',⟨x6 _ (Z.trans N5.hx) (Nat.le_refl _),O'⟩,q.sub ⟨rfl,rfl,rfl,rfl,rfl,trivial⟩⟩
  refine WOL.mv rfl ?_
  cases hk:knownB S1 ((j:Nat):Int) with
  | true =>
   rw [hk] at end_
   refine WOL.now (b:=true) rfl rfl <| WOL.ld rfl (load_row tp1114 (B3.hx Y3) rfl (Nat.le_of_ble_eq_true rfl)) <| WOL.now (b:=true) rfl rfl <| WOL.mv rfl <| WOL.now (b:=true) rfl rfl ?_
   refine WOL.lk2 rfl rfl rfl fun M => ((k1154 H (x:=((j:Nat):Int)) ((p2.s.hx Y3).relock M) t2).mono ?_)
   rintro v g4 ⟨rfl,Y4⟩
   replace Y4:=Y4.relock
   generalize g4.withLock g3.lock = g4 at *
   exact WOL.pkt rfl rfl <| kto (end_ g4 Y4) ⟨rfl,rfl,rfl,rfl,rfl,rfl,rfl,trivial⟩
  | false =>
   rw [hk] at end_
   exact WOL.skp (b:=false) rfl rfl <| WOL.skp (b:=false) rfl rfl <| WOL.skp (b:=false) rfl rfl <| WOL.pkf rfl rfl <| kto (end_ g3 (HX.refl _)) ⟨rfl,rfl,rfl,rfl,rfl,rfl,rfl,trivial⟩
 ·rintro w g ⟨X,O⟩
  refine WL.sr <| WOL.fa rfl (fa_of fo1114_0) <| WOL.ld rfl (load_one tp3 (A2.hx X) rfl) <| WOL.mv rfl <| WOL.cl2 rfl rfl rfl ((k1188 H (O.sl eC) (by rw [addC_len];omega) (f.on (X3.trans X))).mono ?_)
  rintro v g2 ⟨X2,R⟩
  have Z:=X3.trans (X.trans X2)
  have B4:=(A4.hx X).hx X2
  have zx:=(X3.trans X).next
  have xx:=X.next
  rcases R with ⟨hb,rfl⟩ | ⟨hb,u1,u2,rfl,O1,O2⟩
  ·refine WOL.ex rfl rfl <| WOL.ex rfl rfl <| WOL.sto (vs:=[zi 0,.slice none 0 0,.slice none 0 0]) rfl rfl tp1114 B4 rfl rfl (Nat.le_of_ble_eq_true rfl) rfl (f.hx Z) (by omega) fun i1 M1 => WOL.as rfl <| WOL.nil ?_
   exact WL.ret (WL.endC1 rfl rfl (load_row tp1114 M1.at_ rfl (Nat.le_of_ble_eq_true rfl)) ⟨M1.hx _ Z (by omega),.inr ⟨⟨rfl,cl⟩,.inl ⟨hb,rfl⟩⟩⟩)
  ·obtain ⟨z1,e1⟩:=OwnF.form (Or.inl O1)
   obtain ⟨z2,e2⟩:=OwnF.form (Or.inl O2)
   refine WOL.ex rfl rfl <| WOL.ex rfl rfl <| WOL.sto (vs:=[zi n,u1,u2]) rfl rfl tp1114 B4 rfl rfl (Nat.le_of_ble_eq_true rfl) (by rw [e1,e2];rfl) (f.hx Z) (by omega) fun i1 M1 => WOL.as rfl <| WOL.nil ?_
   exact WL.ret (WL.endC1 rfl rfl (load_row tp1114 M1.at_ rfl (Nat.le_of_ble_eq_true rfl)) ⟨M1.hx _ Z (by omega),.inr ⟨⟨rfl,cl⟩,.inr ⟨hb,u1,u2,rfl,(O1.keep fun z y hz a => M1.oth _ _ (by have:=O1.lt hz;omega) a).low (by omega),(O2.keep fun z y hz a => M1.oth _ _ (by have:=O2.lt hz;omega) a).low (by omega)⟩⟩⟩)
end
end Go.Tidy
namespace Go.Tidy
open Go Go.Proofs Tab
variable {tp:TProg}
theorem tbl_get {α:Type} {f:Nat → α} {m i:Nat}:((List.range m).map f)[i]? = if i < m then some (f i) else none:=by
 rw [List.getElem?_map]
 by_cases h:i < m
 ·rw [List.getElem?_range h,if_pos h];rfl
 ·rw [List.getElem?_eq_none (by rw [List.length_range];omega),if_neg h];rfl
def upTo {α:Type} (z:α) (C:List α) (m j:Nat):List α:=(List.range m).map fun i => cond (decide (i < j)) (C.getD i z) z
section
variable {α:Type} {z:α} {C:List α} {m j:Nat}
theorem upTo_len:(upTo z C m j).length = m:=by unfold upTo;rw [List.length_map,List.length_range]
theorem upTo_zero:upTo z C m 0 = List.replicate m z:=by
 refine List.eq_replicate_iff.2 ⟨upTo_len,fun b hb => ?_⟩
 unfold upTo at hb
 obtain ⟨i,_,rfl⟩:=List.mem_map.1 hb
 rfl
theorem upTo_set:upTo z C m (j + 1) = (upTo z C m j).set j (C.getD j z):=by
 refine List.ext_getElem? fun i => ?_
 unfold upTo
 rw [tbl_get]
 by_cases e:i = j
 ·subst e
  by_cases h:i < m
  ·rw [if_pos h,List.getElem?_set_self (by rw [List.length_map,List.length_range];exact h),decide_eq_true (Nat.lt_succ_self i)];rfl
  ·rw [if_neg h,List.getElem?_eq_none (by rw [List.length_set,List.length_map,List.length_range];omega)]
 ·rw [List.getElem?_set_ne (by omega),tbl_get,show decide (i < j + 1) = decide (i < j) from decide_eq_decide.2 (by omega)]
theorem upTo_same (h:C.getD j z = z):upTo z C m (j + 1) = upTo z C m j:=by
 unfold upTo
 refine List.map_congr_left fun i _ => ?_
 by_cases e:i = j
 ·subst e
  rw [h]
  cases decide (i < i + 1) <;> cases decide (i < i) <;> rfl
 ·rw [show decide (i < j + 1) = decide (i < j) from decide_eq_decide.2 (by omega)]
theorem upTo_all (h:C.length = m):upTo z C m m = C:=by
 refine List.ext_getElem? fun i => ?_
 unfold upTo
 rw [tbl_get]
 by_cases hi:i < m
 ·rw [if_pos hi,decide_eq_true hi,List.getD_eq_getElem?_getD,List.getElem?_eq_getElem (by omega)];rfl
 ·rw [if_neg hi,List.getElem?_eq_none (by omega)]
end
theorem bigC_val (C:List (Int × Bool)):bigC C = (valC C).any largeB:=by
 unfold bigC valC
 rw [List.any_map]
 congr 1
 funext c
 obtain ⟨x,k⟩:=c
 cases k with
 | true => rfl
 | false => show false = largeB 0;rfl
def ProgR (n:Int) (e:Int) (C:List (Int × Bool)) (n0:Nat) (h':TH) (v:Value):Prop :=
 (e ≠ 0 ∧ v = .tuple #[trcV 0 (.slice none 0 0) (.slice none 0 0),zi e]) ∨ (e = 0 ∧ bigC C = true ∧ v = .tuple #[trcV 0 (.slice none 0 0) (.slice none 0 0),zi 4]) ∨ (e = 0 ∧ bigC C = false ∧ ∃ bv w,v = .tuple #[trcV n (slA bv C.length) w,zi 0] ∧ n0 ≤ bv ∧ TrcO n0 h' bv w (valC C) (holesOf (C.map fun c => c.2)))
def shapeE (n n':Int) (m m':Nat):Int:=cond (!decide (n = n' ∧ m = m')) 2 0
section
variable {h:TH} {n n':Int} {v1 v2 w1 w2:Value} {L1 L2:List Int} {S1 S2:List (Int × Int)}
def cd1114b:TCode:=.seq (.reg r1114_4) (.seq (.reg r1114_5) (.seq (.seq (.reg r1114_6) (.block 0 (.rangeFunc (.tmp 42) #[43] (.reg r1114_7) (.block 1 (.seq (.reg r1114_8) (.seq (.reg r1114_9) (.seq (.reg r1114_10) (.cond (.tmp 59) (.reg r1114_11) .skip)))))))) (.seq (.reg r1114_12) .ret)))
set_option maxHeartbeats 4000000 in
set_option maxRecDepth 10000 in
theorem k1114b (H:Has tp) {h0:TH} {c2 c3 c4:Nat} (X0:HX h0 h) (hc4:h0.next ≤ c4) (A2:At h c2 (.cells [zi n,v1,v2] true true 31)) (A3:At h c3 (.cells [zi n',w1,w2] true true 31)) (A4:At h c4 (.cells [zi 0,.slice none 0 0,.slice none 0 0] true true 31)) (r1:TrcH h v1 v2 L1 S1) (r2:TrcH h w1 w2 L2 S2) (n0:0 ≤ n) (n1:n ≤ 1000000000) (hnn:n = n') (hll:L1.length = L2.length) (l1:L1.length ≤ 900000) (t1:S1.length ≤ 1000000) (t2:S2.length ≤ 1000000) (i1:In L1.length S1) (i2:In L2.length S2)
    (lim:∀ i,-2000000000 ≤ L1.getD i 0 ∧ L1.getD i 0 ≤ 2000000000 ∧ -2000000000 ≤ L2.getD i 0 ∧ L2.getD i 0 ≤ 2000000000) (f:Free0 h0.next h0) :
    ∀ a,Kn [(2,ptr c2),(3,ptr c3),(4,ptr c4)] a → W Tryz.prog tp false cd1114b a h (Fin Tryz.prog [.cell 4 31,.tmp 5] fun v h' => HX h0 h' ∧ ProgR n 0 (addC L1 L2 S1 S2 L1.length) h0.next h' v):=by
  subst hnn
  have la2:=A2.lt
  have la3:=A3.lt
  have la4:=A4.lt
  have x0:=X0.next
  unfold cd1114b
  refine WL.sr <| WOL.ld rfl (load_row tp1117 A2 rfl (Nat.le_of_ble_eq_true rfl)) <| WOL.ld rfl (load_row tp1117 A3 rfl (Nat.le_of_ble_eq_true rfl)) <| WOL.al tp1194 fun h1 N1 => WOL.al tp1194 fun h2 N2 => ?_
  have n1':=N1.next
  have n2:=N2.next
  have X2:=N1.hx.trans N2.hx
  have Y2:=X0.trans X2
  have F0:∀ {g:TH},HX h0 g → Free0 g.next g:=fun X => f.on X
  refine WOL.lq1 [h1.next,h.next,c3] rfl rfl rfl fun M hM => ((k1177 H ((r1.hx X2).relock M) (by omega) t1 i1 ((F0 Y2).held hM (fun b hb => by simp at hb;omega))).mono ?_)
  rintro v h3 ⟨X3,p1,p2,rfl,a1,a2,R1⟩
  replace X3:=X3.relock
  replace R1:RowA (h3.withLock h2.lock) p1 p2 L1 (knownL S1 L1.length):=⟨R1.v.relock _,R1.k.relock _,R1.e,R1.n⟩
  generalize h3.withLock h2.lock = h3 at *
  have Y3:=Y2.trans X3
  have x3:=X3.next
  have l11:=R1.v.lt
  have l12:=R1.k.lt
  refine WOL.lq1 [h1.next,h.next] rfl rfl rfl fun M hM => ((k1177 H (((r2.hx X2).hx X3).relock M) (by omega) t2 i2 ((F0 Y3).held hM (fun b hb => by simp at hb;omega))).mono ?_)
  rintro v h4 ⟨X4,p3,p4,rfl,a3,a4,R2⟩
  replace X4:=X4.relock
  replace R2:RowA (h4.withLock h3.lock) p3 p4 L2 (knownL S2 L2.length):=⟨R2.v.relock _,R2.k.relock _,R2.e,R2.n⟩
  replace a3:h3.next ≤ p3:=a3
  replace a4:h3.next ≤ p4:=a4
  replace a1:h2.next ≤ p1:=a1
  replace a2:h2.next ≤ p2:=a2
  generalize h4.withLock h3.lock = h4 at *
  have Y4:=Y3.trans X4
  have x4:=X4.next
  have l21:=R2.v.lt
  have l22:=R2.k.lt
  have Z4:=X3.trans X4
  have T7:=((N1.at_.hx N2.hx).hx X3).hx X4
  have T8:=(N2.at_.hx X3).hx X4
  refine WOL.sto (vs:=[zi n,slA p1 L1.length,.slice none 0 0,slA p2 L1.length]) rfl rfl tp1194 T7 rfl rfl (Nat.le_of_ble_eq_true rfl) rfl (f.hx Y4) (by omega) fun h5 P5 => ?_
  have n5:=P5.next
  have Y5:HX h0 h5:=P5.hx _ Y4 (by omega)
  refine WOL.sto (vs:=[zi n,slA p3 L2.length,.slice none 0 0,slA p4 L2.length]) rfl rfl tp1194 (P5.oth _ _ (by omega) T8) rfl rfl (Nat.le_of_ble_eq_true rfl) rfl (f.hx Y5) (by omega) fun h6 P6 => WOL.nil <| keep [(2,_),(4,_),(7,_),(8,_)] ⟨rfl,rfl,rfl,rfl,trivial⟩ ?_
  have n6:=P6.next
  have Y6:HX h0 h6:=P6.hx _ Y5 (by omega)
  have O6:∀ c y,c ≠ h.next → c ≠ h1.next → At h4 c y → At h6 c y:=fun c y e1 e2 a => P6.oth _ _ e2 (P5.oth _ _ e1 a)
  have B7:=P6.oth _ _ (by omega) P5.at_
  have B8:=P6.at_
  have B4:=O6 _ _ (by omega) (by omega) ((A4.hx X2).hx Z4)
  have B2:=O6 _ _ (by omega) (by omega) ((A2.hx X2).hx Z4)
  have X6:HX h h6:=P6.hx _ (P5.hx _ (X2.trans Z4) (Nat.le_refl _)) (by omega)
  have C1:RowA h6 p1 p2 L1 (knownL S1 L1.length):=⟨O6 _ _ (by omega) (by omega) (R1.v.hx X4),O6 _ _ (by omega) (by omega) (R1.k.hx X4),R1.e,R1.n⟩
  have C2:RowA h6 p3 p4 L2 (knownL S2 L2.length):=⟨O6 _ _ (by omega) (by omega) R2.v,O6 _ _ (by omega) (by omega) R2.k,R2.e,R2.n⟩
  refine WL.sr <| WOL.fa rfl (fa_of fo1117_0) <| WOL.ld rfl (load_one tp3 B2 rfl) <| WOL.fa rfl (fa_of fo1117_1) <| WOL.ld rfl (load_one tp29 B2 rfl) <| WOL.len rfl (r1.l.hx X6) u29 <| WOL.cl2 rfl rfl rfl ((k1178 H (m:=L1.length) (by omega) (F0 Y6)).mono ?_)
  rintro v h7 ⟨X7,bv,bk,rfl,a5,a6,R3⟩
  have x7:=X7.next
  have l31:=R3.v.lt
  have l32:=R3.k.lt
  refine WOL.al tp1194 fun h8 N8 => ?_
  have n8:=N8.next
  have Y8:=(Y6.trans X7).trans N8.hx
  refine WOL.sto (vs:=[zi n,slA bv L1.length,.slice none 0 0,slA bk L1.length]) rfl rfl tp1194 N8.at_ rfl rfl (Nat.le_of_ble_eq_true rfl) rfl (f.hx Y8) (by omega) fun h9 P9 => WOL.nil <| keep [(4,_),(7,_),(8,_),(9,_)] ⟨rfl,rfl,rfl,rfl,trivial⟩ ?_
  have n9:=P9.next
  have Y9:HX h0 h9:=P9.hx _ Y8 (by omega)
  have x79:HX h7 h9:=P9.hx _ N8.hx (Nat.le_refl _)
  have x69:=X7.trans x79
  have B9:At h9 h7.next (.cells [zi n,slA bv L1.length,.slice none 0 0,slA bk L1.length] true true 113):=P9.at_
  replace R3:=R3.hx x79
  replace B4:=B4.hx x69;replace B7:=B7.hx x69;replace B8:=B8.hx x69;replace C1:=C1.hx x69;replace C2:=C2.hx x69
  have lb4:=B4.lt
  refine WL.seq <| WL.sr <| WOL.fa rfl (fa_of fo1194_0) <| WOL.ld rfl (load_row tp1117 B9 (l:=[zi n,slA bv L1.length,.slice none 0 0]) rfl (Nat.le_of_ble_eq_true rfl)) <| WOL.cl1 rfl rfl ((k1179 H h9).mono ?_)
  rintro v h10 ⟨cc,rfl,X10,Ac,ac⟩
  have x10:=X10.next
  have lc:=Ac.lt
  have Y10:=Y9.trans X10
  replace B4:=B4.hx X10;replace B7:=B7.hx X10;replace B8:=B8.hx X10;replace C1:=C1.hx X10;replace C2:=C2.hx X10;replace B9:=B9.hx X10;replace R3:=R3.hx X10
  refine WOL.nil <| keep [(4,_),(7,_),(8,_),(9,_),(42,_)] ⟨rfl,rfl,rfl,rfl,rfl,trivial⟩ ?_
  rw [← upTo_zero (C:=valC (addC L1 L2 S1 S2 L1.length)),← upTo_zero (C:=(addC L1 L2 S1 S2 L1.length).map fun c => c.2)] at R3
  have lC:(addC L1 L2 S1 S2 L1.length).length = L1.length:=addC_len
  refine WL.block <| WL.range rfl (H.fn 134 f1224 rfl rfl) (y1224 (v1:=slA bv L1.length) (v2:=.slice none 0 0) H n0 n1 (m:=L1.length) (by omega)) (fun j g => HX h0 g ∧ h10.next ≤ g.next ∧ At g c4 (.cells [zi 0,.slice none 0 0,.slice none 0 0] true true 31) ∧ At g h.next (.cells [zi n,slA p1 L1.length,.slice none 0 0,slA p2 L1.length] true true 113) ∧ At g h1.next (.cells [zi n,slA p3 L2.length,.slice none 0 0,slA p4 L2.length] true true 113) ∧ At g h7.next (.cells [zi n,slA bv L1.length,.slice none 0 0,slA bk L1.length] true true 113) ∧ RowA g p1 p2 L1 (knownL S1 L1.length) ∧ RowA g p3 p4 L2 (knownL S2 L2.length) ∧ RowA g bv bk (upTo 0 (valC (addC L1 L2 S1 S2 L1.length)) L1.length j) (upTo false ((addC L1 L2 S1 S2 L1.length).map fun c => c.2) L1.length j) ∧ At g cc (.cells [zi n,slA bv L1.length,.slice none 0 0] true true 31)) (fun j g q => ⟨q.2.2.2.2.2.2.2.2.2,_,upTo_len,by have:=q.2.2.2.2.2.2.2.2.1.sv;rwa [upTo_len] at this⟩) (fun j g q => (f.hx q.1).up (by omega)) ?_ ?_ ?_ ?_
  · rintro j g g' x ⟨q1,q2,q3,q4,q5,q6,q7,q8,q9,q10⟩ P
    have o:∀ c y,c < h10.next → At g c y → At g' c y:=fun c y hc a => P.oth _ _ (by omega) a
    exact ⟨P.hx _ q1 (by omega),by rw [P.next];exact q2,o _ _ (by omega) q3,o _ _ (by omega) q4,o _ _ (by omega) q5,o _ _ (by omega) q6,⟨o _ _ (by omega) q7.v,o _ _ (by omega) q7.k,q7.e,q7.n⟩,⟨o _ _ (by omega) q8.v,o _ _ (by omega) q8.k,q8.e,q8.n⟩,⟨o _ _ (by omega) q9.v,o _ _ (by omega) q9.k,q9.e,q9.n⟩,o _ _ (by omega) q10⟩
  · rintro g x N
    have n:=N.next
    exact ⟨Y10.trans N.hx,by omega,B4.hx N.hx,B7.hx N.hx,B8.hx N.hx,B9.hx N.hx,C1.hx N.hx,C2.hx N.hx,R3.hx N.hx,Ac.hx N.hx⟩
  · rintro j g x hj q A
    refine WL.reg <| WOL.as rfl <| WOL.nil ?_
    intro r hr
    refine ⟨rfl,rfl,fun g2 x2 ⟨q1,q2,q3,q4,q5,q6,q7,q8,q9,q10⟩ A2 => ?_⟩
    refine hr.go ?_
    obtain ⟨m1,m2,m3,m4⟩:=lim j
    have hC:(addC L1 L2 S1 S2 L1.length).getD j (0,false) = (L1.getD j 0 + L2.getD j 0,knownB S1 ((j:Nat):Int) && knownB S2 ((j:Nat):Int)):=by
      unfold addC
      rw [List.getD_eq_getElem?_getD,tbl_get,if_pos hj];rfl
    have hCg:(addC L1 L2 S1 S2 L1.length)[j]? = some (L1.getD j 0 + L2.getD j 0,knownB S1 ((j:Nat):Int) && knownB S2 ((j:Nat):Int)):=by
      unfold addC
      rw [tbl_get,if_pos hj]
    have hV:(valC (addC L1 L2 S1 S2 L1.length)).getD j 0 = cond (knownB S1 ((j:Nat):Int) && knownB S2 ((j:Nat):Int)) (L1.getD j 0 + L2.getD j 0) 0:=by
      unfold valC
      rw [List.getD_eq_getElem?_getD,List.getElem?_map,hCg];rfl
    have hK:((addC L1 L2 S1 S2 L1.length).map fun c => c.2).getD j false = (knownB S1 ((j:Nat):Int) && knownB S2 ((j:Nat):Int)):=by
      rw [List.getD_eq_getElem?_getD,List.getElem?_map,hCg];rfl
    have g1:(knownL S1 L1.length).getD j false = knownB S1 ((j:Nat):Int):=by rw [List.getD_eq_getElem?_getD,knownL_get hj];rfl
    have g2':(knownL S2 L2.length).getD j false = knownB S2 ((j:Nat):Int):=by rw [List.getD_eq_getElem?_getD,knownL_get (by omega)];rfl
    refine WL.block <| WL.sr <| WOL.ld rfl (load_row tp1194 q4 rfl (Nat.le_of_ble_eq_true rfl)) <| WOL.mv rfl <| WOL.cl2 rfl rfl rfl ((k1180 H q7 hj n0 n1 (by omega)).mono ?_)
    rintro u g3 ⟨rfl,X3⟩
    rw [g1]
    refine WOL.mv rfl <| WOL.ex rfl rfl <| WOL.ex rfl rfl <| WOL.as rfl <| WOL.as rfl <| WOL.nil <| keep [(8,_),(9,_),(10,_),(11,_),(12,_)] ⟨rfl,rfl,rfl,rfl,rfl,trivial⟩ ?_
    refine WL.sr <| WOL.ld rfl (load_row tp1194 (q5.hx X3) rfl (Nat.le_of_ble_eq_true rfl)) <| WOL.mv rfl <| WOL.cl2 rfl rfl rfl ((k1180 H (q8.hx X3) (by omega) n0 n1 (by omega)).mono ?_)
    rintro u g4 ⟨rfl,X4⟩
    rw [g2']
    have Xs:=X3.trans X4
    have xs:=Xs.next
    refine WOL.mv rfl <| WOL.ex rfl rfl <| WOL.ex rfl rfl <| WOL.as rfl <| WOL.as rfl <| WOL.nil <| keep [(9,_),(10,_),(11,_),(12,_),(13,_),(14,_)] ⟨rfl,rfl,rfl,rfl,rfl,rfl,trivial⟩ ?_
    have keepJ:(knownB S1 ((j:Nat):Int) && knownB S2 ((j:Nat):Int)) = false → (∀ r,Kn [] r → W Tryz.prog tp true .skip r g4 (leaves 1 fun e _ g3 => e = .normal ∧ (HX h0 g3 ∧ h10.next ≤ g3.next ∧ At g3 c4 (.cells [zi 0,.slice none 0 0,.slice none 0 0] true true 31) ∧ At g3 h.next (.cells [zi n,slA p1 L1.length,.slice none 0 0,slA p2 L1.length] true true 113) ∧ At g3 h1.next (.cells [zi n,slA p3 L2.length,.slice none 0 0,slA p4 L2.length] true true 113) ∧ At g3 h7.next (.cells [zi n,slA bv L1.length,.slice none 0 0,slA bk L1.length] true true 113) ∧ RowA g3 p1 p2 L1 (knownL S1 L1.length) ∧ RowA g3 p3 p4 L2 (knownL S2 L2.length) ∧ RowA g3 bv bk (upTo 0 (valC (addC L1 L2 S1 S2 L1.length)) L1.length (j + 1)) (upTo false ((addC L1 L2 S1 S2 L1.length).map fun c => c.2) L1.length (j + 1)) ∧ At g3 cc (.cells [zi n,slA bv L1.length,.slice none 0 0] true true 31)) ∧ At g3 h10.next x2)):=by
      intro hf
      rw [upTo_same (by rw [hV,hf];rfl),upTo_same (by rw [hK,hf])]
      exact WL.skip fun r k => ⟨rfl,⟨q1.trans Xs,by omega,q3.hx Xs,q4.hx Xs,q5.hx Xs,q6.hx Xs,q7.hx Xs,q8.hx Xs,q9.hx Xs,q10.hx Xs⟩,A2.hx Xs⟩
    refine WL.sr <| WOL.mv rfl <| WOL.mv rfl ?_
    cases hk1:knownB S1 ((j:Nat):Int) with
    | false =>
      rw [hk1] at keepJ
      exact WOL.skp (b:=false) rfl rfl <| WOL.pkf rfl rfl <| WOL.nil <| WL.no rfl <| kto (keepJ rfl) trivial
    | true =>
      cases hk2:knownB S2 ((j:Nat):Int) with
      | false =>
        rw [hk1,hk2] at keepJ
        exact WOL.now (b:=true) rfl rfl <| WOL.mv rfl <| WOL.pkt rfl rfl <| WOL.nil <| WL.no rfl <| kto (keepJ rfl) trivial
      | true =>
        rw [hk1,hk2] at hV hK
        replace hV:(valC (addC L1 L2 S1 S2 L1.length)).getD j 0 = L1.getD j 0 + L2.getD j 0:=hV
        replace hK:((addC L1 L2 S1 S2 L1.length).map fun c => c.2).getD j false = true:=hK
        refine WOL.now (b:=true) rfl rfl <| WOL.mv rfl <| WOL.pkt rfl rfl <| WOL.nil <| WL.yes rfl <| WL.reg <| WOL.ld rfl (load_row tp1194 (q6.hx Xs) rfl (Nat.le_of_ble_eq_true rfl)) <| WOL.mv rfl <| WOL.mv rfl <| WOL.mv rfl <| WOL.add rfl rfl (by omega) (by omega) ?_
        have q9':=q9.hx Xs
        have k:=k1181 (n:=n) (x:=L1.getD j 0 + L2.getD j 0) H q9' (i:=j) (by rw [upTo_len];exact hj) n0 n1 (by rw [upTo_len];omega) (m:=h0.next) (f.hx (q1.trans Xs)) (by omega) (by omega)
        rw [upTo_len] at k
        refine WOL.cl3 rfl rfl rfl rfl (k.mono ?_)
        rintro u g5 ⟨x5,ra,o5,n5⟩
        refine WOL.nil fun r k => ⟨rfl,⟨x5 _ (q1.trans Xs) (by omega) (by omega),by omega,o5 _ _ (by omega) (by omega) (q3.hx Xs),o5 _ _ (by omega) (by omega) (q4.hx Xs),o5 _ _ (by omega) (by omega) (q5.hx Xs),o5 _ _ (by omega) (by omega) (q6.hx Xs),⟨o5 _ _ (by omega) (by omega) (q7.v.hx Xs),o5 _ _ (by omega) (by omega) (q7.k.hx Xs),q7.e,q7.n⟩,⟨o5 _ _ (by omega) (by omega) (q8.v.hx Xs),o5 _ _ (by omega) (by omega) (q8.k.hx Xs),q8.e,q8.n⟩,?_,o5 _ _ (by omega) (by omega) (q10.hx Xs)⟩,o5 _ _ (by omega) (by omega) (A2.hx Xs)⟩
        rw [upTo_set,upTo_set,hV,hK]
        exact ra
  · rintro g ⟨q1,q2,q3,q4,q5,q6,q7,q8,q9,q10⟩
    rw [upTo_all (by unfold valC;rw [List.length_map];exact lC),upTo_all (by rw [List.length_map];exact lC)] at q9
    have lv:(valC (addC L1 L2 S1 S2 L1.length)).length = L1.length:=by unfold valC;rw [List.length_map];exact lC
    refine WL.sr <| WOL.ld rfl (load_row tp1194 q6 rfl (Nat.le_of_ble_eq_true rfl)) ?_
    have k:=k1182 (n:=n) H q9 (by omega) (f.on q1)
    rw [lv,← bigC_val] at k
    refine WOL.cl1 rfl rfl (k.mono ?_)
    rintro v g1 ⟨X,R⟩
    have xg:=(q1.trans X).next
    have xx:=X.next
    rcases R with ⟨hb,rfl⟩ | ⟨hb,w,rfl,to⟩
    · refine WOL.ex rfl rfl <| WOL.ex rfl rfl <| WOL.sto (vs:=[zi 0,.slice none 0 0,.slice none 0 0]) rfl rfl tp1117 (q3.hx X) rfl rfl (Nat.le_of_ble_eq_true rfl) rfl (f.hx (q1.trans X)) (by omega) fun i1 M1 => WOL.as rfl <| WOL.nil ?_
      exact WL.ret (WL.endC1 rfl rfl (load_row tp1117 M1.at_ rfl (Nat.le_of_ble_eq_true rfl)) ⟨M1.hx _ (q1.trans X) (by omega),.inr (.inl ⟨rfl,hb,rfl⟩)⟩)
    · obtain ⟨b2,m2,k2,rfl⟩:=to.form
      refine WOL.ex rfl rfl <| WOL.ex rfl rfl <| WOL.sto (vs:=[zi n,slA bv L1.length,.slice b2 m2 k2]) rfl rfl tp1117 (q3.hx X) rfl rfl (Nat.le_of_ble_eq_true rfl) rfl (f.hx (q1.trans X)) (by omega) fun i1 M1 => WOL.as rfl <| WOL.nil ?_
      refine WL.ret (WL.endC1 rfl rfl (load_row tp1117 M1.at_ rfl (Nat.le_of_ble_eq_true rfl)) ⟨M1.hx _ (q1.trans X) (by omega),.inr (.inr ⟨rfl,hb,bv,_,by rw [lC];rfl,by omega,(to.put M1 (by omega) (by omega)).low (by omega)⟩)⟩)
end
end Go.Tidy
namespace Go.Tidy
open Go Go.Proofs Tab
variable {tp:TProg}
theorem trace_ok {n:Int} {L:List Int} {S:List (Int × Int)} (h:traceE n L S = 0):(0 ≤ n ∧ n ≤ 100000000) ∧ (∀ i,-1073741824 ≤ L.getD i 0 ∧ L.getD i 0 ≤ 1073741824) ∧ holeE L.length (-1) S = 0 ∧ S.any (anyIn L) = false ∧ L.length ≤ 4096 ∧ n + (L.length:Int) ≤ 100000000:=by
  have all:=firstNZ_zero h
  have a1:=all _ (List.mem_cons_self ..)
  have a2:=all (cond (decide ((L.length:Int) > 4096)) 5 0) (by simp)
  have a3:=all (cond (decide (n + (L.length:Int) > 100000000)) 4 0) (by simp)
  have a4:=all (firstNZ (L.map readE)) (by simp)
  have a5:=all (cond (holeE L.length (-1) S != 0) (holeE L.length (-1) S) (formE L S)) (by simp)
  have a6:=firstNZ_zero a4
  have hh:holeE L.length (-1) S = 0:=by
    cases hb:(holeE L.length (-1) S != 0) with
    | true => rw [hb] at a5;exact a5
    | false => exact bne_eq_false_iff_eq.1 hb
  refine ⟨out_in a1,fun i => ?_,hh,?_,?_,?_⟩
  · rw [List.getD_eq_getElem?_getD]
    cases hL:L[i]? with
    | none => exact ⟨by decide,by decide⟩
    | some x =>
      have:=a6 _ (List.mem_map.2 ⟨x,List.mem_of_getElem? hL,rfl⟩)
      unfold readE outB at this
      show -1073741824 ≤ x ∧ x ≤ 1073741824
      cases h1:decide (x < -1073741824) with
      | true => rw [h1] at this;cases this
      | false =>
        cases h2:decide (x > 1073741824) with
        | true => rw [h1,h2] at this;cases this
        | false =>
          have:=of_decide_eq_false h1
          have:=of_decide_eq_false h2
          omega
  · rw [hh] at a5
    replace a5:formE L S = 0:=a5
    unfold formE at a5
    cases hf:S.any (anyIn L) with
    | true => rw [hf] at a5;cases a5
    | false => rfl
  · cases hb:decide ((L.length:Int) > 4096) with
    | true => rw [hb] at a2;cases a2
    | false => have:=of_decide_eq_false hb;omega
  · cases hb:decide (n + (L.length:Int) > 100000000) with
    | true => rw [hb] at a3;cases a3
    | false => have:=of_decide_eq_false hb;omega
section
variable {h:TH} {n n':Int} {v1 v2 w1 w2:Value} {L1 L2:List Int} {S1 S2:List (Int × Int)}
set_option maxHeartbeats 4000000 in
set_option maxRecDepth 10000 in
theorem k1114 (H:Has tp) (r1:TrcH h v1 v2 L1 S1) (r2:TrcH h w1 w2 L2 S2) (l1:L1.length ≤ 900000) (l2:L2.length ≤ 900000) (t1:S1.length ≤ 900000) (t2:S2.length ≤ 900000) (f:Free0 h.next h) :
  CallW Tryz.prog tp (.func (.func 13) #[] #[]) #[trcV n v1 v2,trcV n' w1 w2] h fun v h' => HX h h' ∧ ProgR n (firstNZ [traceE n L1 S1,traceE n' L2 S2,shapeE n n' L1.length L2.length]) (addC L1 L2 S1 S2 L1.length) h.next h' v:=by
 obtain ⟨b1,k1,e1,_⟩:=id r1.l
 obtain ⟨b2,k2,e2,_⟩:=id r1.s
 obtain ⟨b3,k3,e3,_⟩:=id r2.l
 obtain ⟨b4,k4,e4,_⟩:=id r2.s
 subst e1 e2 e3 e4
 refine CallW.fnL (H.fn 13 f1114 rfl rfl) ?_
 refine WL.sr <| WOL.box rfl fun h1 N1 => WOL.box rfl fun h2 N2 => WOL.al tp1117 fun h3 N3 => WOL.as rfl <| WOL.nil <| keep [(2,_),(3,_),(4,_)] ⟨rfl,rfl,rfl,trivial⟩ ?_
 have n1:=N1.next
 have n2:=N2.next
 have n3:=N3.next
 have A2:At h3 h.next (.cells [zi n,.slice b1 L1.length k1,.slice b2 S1.length k2] true true 31):=(N1.at_.hx N2.hx).hx N3.hx
 have A3:At h3 h1.next (.cells [zi n',.slice b3 L2.length k3,.slice b4 S2.length k4] true true 31):=N2.at_.hx N3.hx
 have A4:=N3.at_
 have X3:=(N1.hx.trans N2.hx).trans N3.hx
 have F0:∀ {g:TH},HX h g → Free0 g.next g:=fun X => f.on X
 refine WL.seq <| WL.sr <| WOL.ld rfl (load_row tp1117 A2 rfl (Nat.le_of_ble_eq_true rfl)) <| WOL.ld rfl (load_row tp1117 A3 rfl (Nat.le_of_ble_eq_true rfl)) <| WOL.ld rfl (load_row tp1117 A2 rfl (Nat.le_of_ble_eq_true rfl)) <| WOL.ld rfl (load_row tp1117 A3 rfl (Nat.le_of_ble_eq_true rfl)) ?_
 refine WOL.lq1 [h1.next,h.next,h1.next] rfl rfl rfl fun M hM => ((k1123 (n:=n) H ((r1.hx X3).relock M) (by omega) (by omega) ((F0 X3).held hM (fun b hb => by simp at hb;omega))).mono ?_)
 rintro v h4 ⟨rfl,X4⟩
 replace X4:=X4.relock
 generalize h4.withLock h3.lock = h4 at *
 have x4:=X4.next
 have Y4:=X3.trans X4
 refine WOL.lq1 [h1.next,h.next] rfl rfl rfl fun M hM => ((k1123 (n:=n') H ((r2.hx Y4).relock M) (by omega) (by omega) ((F0 Y4).held hM (fun b hb => by simp at hb;omega))).mono ?_)
 rintro v h5 ⟨rfl,X5⟩
 replace X5:=X5.relock
 generalize h5.withLock h4.lock = h5 at *
 have Y5:=Y4.trans X5
 refine WOL.cl2 rfl rfl rfl ((k1176 H (r1.hx Y5).l (r2.hx Y5).l).mono ?_)
 rintro v h6 ⟨rfl,X6⟩
 refine WOL.nt rfl <| WOL.cl2 rfl rfl rfl ((k77 H _ _ _).mono ?_)
 rintro v h7 ⟨rfl,rfl⟩
 refine WOL.bsl rfl u166 tp30 (by decide) (by decide) (by decide) (filled_ints3 _ _ _) fun h8 N8 => ?_
 refine WOL.cl1 rfl rfl ((k71 H (l:=[_,_,_]) N8.at_.get (by simp)).mono ?_)
 rintro v h9 ⟨rfl,rfl⟩
 have Z:=((X4.trans X5).trans X6).trans N8.hx
 have Y:=X3.trans Z
 replace A2:=A2.hx Z;replace A3:=A3.hx Z;replace A4:=A4.hx Z
 have yx:=Y.next
 show ∀ a,Kn _ a → WO _ _ _ a _ _
 refine WOL.as rfl <| WOL.nil <| keep [(2,_),(3,_),(4,_),(6,_)] ⟨rfl,rfl,rfl,rfl,trivial⟩ ?_
 have ee:firstNZ [traceE n L1 S1,traceE n' L2 S2,cond (!decide (n = n' ∧ L1.length = L2.length)) 2 0] = firstNZ [traceE n L1 S1,traceE n' L2 S2,shapeE n n' L1.length L2.length]:=rfl
 rw [ee]
 generalize hE:firstNZ [traceE n L1 S1,traceE n' L2 S2,shapeE n n' L1.length L2.length] = E
 by_cases e0:E ≠ 0
 ·refine WL.sr <| WOL.mv rfl <| WOL.bt rfl rfl rfl (bne_iff_ne.2 e0) <| WOL.nil <| keep [(4,_),(6,_),(27,_)] ⟨rfl,rfl,rfl,trivial⟩ ?_
  refine WL.yes rfl <| WL.sr <| WOL.bd rfl bd1117z <| WOL.mv rfl <| WOL.sto (vs:=[zi 0,.slice none 0 0,.slice none 0 0]) rfl rfl tp1117 A4 rfl rfl (Nat.le_of_ble_eq_true rfl) rfl (f.hx Y) (by omega) fun i1 M1 => WOL.as rfl <| WOL.nil ?_
  exact WL.ret (WL.endC1 rfl rfl (load_row tp1117 M1.at_ rfl (Nat.le_of_ble_eq_true rfl)) ⟨M1.hx _ Y (by omega),.inl ⟨e0,rfl⟩⟩)
 have e0:E = 0:=Classical.not_not.1 e0
 subst e0
 have all:=firstNZ_zero hE
 obtain ⟨⟨m1,m2⟩,m3,m4,m5,m6,m7⟩:=trace_ok (all (traceE n L1 S1) (by simp))
 obtain ⟨_,u3,u4,u5,u6,_⟩:=trace_ok (all (traceE n' L2 S2) (by simp))
 have sh:n = n' ∧ L1.length = L2.length:=by
  have:=all (shapeE n n' L1.length L2.length) (by simp)
  unfold shapeE at this
  cases hb:decide (n = n' ∧ L1.length = L2.length) with
  | true => exact of_decide_eq_true hb
  | false => rw [hb] at this;cases this
 refine WL.sr <| WOL.mv rfl <| WOL.bf rfl rfl rfl rfl <| WOL.nil <| keep [(2,_),(3,_),(4,_),(27,_)] ⟨rfl,rfl,rfl,rfl,trivial⟩ ?_
 refine WL.no rfl <| WL.skip ?_
 exact kto (M:=[(2,ptr h.next),(3,ptr h1.next),(4,ptr h2.next)]) (k1114b H Y (by omega) A2 A3 A4 (r1.hx Y) (r2.hx Y) m1 (by omega) sh.1 sh.2 l1 (by omega) (by omega) (holeE_in m4) (holeE_in u4) (fun i => by have:=m3 i;have:=u3 i;omega) f) ⟨rfl,rfl,rfl,trivial⟩
end
end Go.Tidy
namespace Go.Tidy
open Go Go.Proofs Tab
variable {tp:TProg}
def RevR (n p e:Int) (L:List Int) (S:List (Int × Int)) (n0:Nat) (h':TH) (v:Value):Prop :=
 (e ≠ 0 ∧ v = .tuple #[trcV 0 (.slice none 0 0) (.slice none 0 0),zi e]) ∨ (e = 0 ∧ (2 * p + 1 - (n + L.length) < 0 ∨ 2 * p + 1 - (n + L.length) + L.length > 100000000) ∧ v = .tuple #[trcV 0 (.slice none 0 0) (.slice none 0 0),zi 14]) ∨ (e = 0 ∧ 0 ≤ 2 * p + 1 - (n + L.length) ∧ 2 * p + 1 - (n + L.length) + L.length ≤ 100000000 ∧ ∃ bv w,v = .tuple #[trcV (2 * p + 1 - (n + L.length)) (slA bv L.length) w,zi 0] ∧ n0 ≤ bv ∧ TrcO n0 h' bv w L.reverse (holesOf (knownL S L.length).reverse))
section
variable {h:TH} {n p:Int} {v1 v2:Value} {L:List Int} {S:List (Int × Int)}
set_option maxHeartbeats 4000000 in
set_option maxRecDepth 10000 in
theorem k1116 (H:Has tp) (r:TrcH h v1 v2 L S) (hL:L.length ≤ 900000) (hS:S.length ≤ 900000) (f:Free0 h.next h) :
  CallW Tryz.prog tp (.func (.func 15) #[] #[]) #[trcV n v1 v2,zi p] h fun v h' => HX h h' ∧ RevR n p (firstNZ [traceE n L S,outB p 0 100000000]) L S h.next h' v:=by
 obtain ⟨b1,k1,e1,_⟩:=id r.l
 obtain ⟨b2,k2,e2,_⟩:=id r.s
 subst e1 e2
 refine CallW.fnL (H.fn 15 f1116 rfl rfl) ?_
 refine WL.sr <| WOL.box rfl fun h1 N1 => WOL.al tp1117 fun h2 N2 => WOL.as rfl <| WOL.nil <| keep [(1,_),(2,_),(4,_)] ⟨rfl,rfl,rfl,trivial⟩ ?_
 have n1:=N1.next
 have n2:=N2.next
 have A2:At h2 h.next (.cells [zi n,.slice b1 L.length k1,.slice b2 S.length k2] true true 31):=N1.at_.hx N2.hx
 have A4:=N2.at_
 have X2:=N1.hx.trans N2.hx
 refine WL.seq <| WL.sr <| WOL.ld rfl (load_row tp1117 A2 rfl (Nat.le_of_ble_eq_true rfl)) <| WOL.cl1 rfl rfl ((k1123 (n:=n) H (r.hx X2) (by omega) (by omega) (f.on X2)).mono ?_)
 rintro v h3 ⟨rfl,X3⟩
 refine WOL.mv rfl <| WOL.cl3 rfl rfl rfl rfl ((k72 H _ _ _ _).mono ?_)
 rintro v h4 ⟨rfl,rfl⟩
 refine WOL.bsl rfl u166 tp30 (by decide) (by decide) (by decide) (filled_ints _ _) fun h5 N5 => ?_
 refine WOL.cl1 rfl rfl ((k71 H (l:=[_,_]) N5.at_.get (by simp)).mono ?_)
 rintro v h6 ⟨rfl,rfl⟩
 have Z:=X3.trans N5.hx
 have Y:=X2.trans Z
 replace A2:=A2.hx Z;replace A4:=A4.hx Z
 have yx:=Y.next
 have yz:=Z.next
 show ∀ a,Kn _ a → WO _ _ _ a _ _
 refine WOL.as rfl <| WOL.nil <| keep [(1,_),(2,_),(4,_),(6,_)] ⟨rfl,rfl,rfl,rfl,trivial⟩ ?_
 generalize hE:firstNZ [traceE n L S,outB p 0 100000000] = E
 by_cases e0:E ≠ 0
 ·refine WL.sr <| WOL.mv rfl <| WOL.bt rfl rfl rfl (bne_iff_ne.2 e0) <| WOL.nil <| keep [(4,_),(6,_),(15,_)] ⟨rfl,rfl,rfl,trivial⟩ ?_
  refine WL.yes rfl <| WL.sr <| WOL.bd rfl bd1117z <| WOL.mv rfl <| WOL.sto (vs:=[zi 0,.slice none 0 0,.slice none 0 0]) rfl rfl tp1117 A4 rfl rfl (Nat.le_of_ble_eq_true rfl) rfl (f.hx Y) (by omega) fun i1 M1 => WOL.as rfl <| WOL.nil ?_
  exact WL.ret (WL.endC1 rfl rfl (load_row tp1117 M1.at_ rfl (Nat.le_of_ble_eq_true rfl)) ⟨M1.hx _ Y (by omega),.inl ⟨e0,rfl⟩⟩)
 have e0:E = 0:=Classical.not_not.1 e0
 subst e0
 have all:=firstNZ_zero hE
 obtain ⟨⟨m1,m2⟩,m3,m4,m5,m6,m7⟩:=trace_ok (all (traceE n L S) (by simp))
 obtain ⟨q1,q2⟩:=out_in (all (outB p 0 100000000) (by simp))
 refine WL.sr <| WOL.mv rfl <| WOL.bf rfl rfl rfl rfl <| WOL.nil <| keep [(1,_),(2,_),(4,_),(15,_)] ⟨rfl,rfl,rfl,rfl,trivial⟩ ?_
 refine WL.no rfl <| WL.skip ?_
 refine WL.sr <| WOL.ld rfl (load_row tp1117 A2 rfl (Nat.le_of_ble_eq_true rfl)) <| WOL.cl1 rfl rfl ((k1177 (n:=n) H (r.hx Y) (by omega) (by omega) (holeE_in m4) (f.on Y)).mono ?_)
 rintro v h7 ⟨X7,bv,bk,rfl,lv,lk,R⟩
 have x7:=X7.next
 have bvl:=R.v.lt
 have bkl:=R.k.lt
 refine WOL.al tp1194 fun h8 N8 => ?_
 have n8:=N8.next
 have Y8:=(Y.trans X7).trans N8.hx
 refine WOL.sto (vs:=[zi n,slA bv L.length,.slice none 0 0,slA bk L.length]) rfl rfl tp1194 N8.at_ rfl rfl (Nat.le_of_ble_eq_true rfl) rfl (f.hx Y8) (by omega) fun h9 P9 => WOL.nil <| keep [(1,_),(2,_),(4,_),(7,_)] ⟨rfl,rfl,rfl,rfl,trivial⟩ ?_
 have n9:=P9.next
 have Y9:HX h h9:=P9.hx _ Y8 (by omega)
 have x79:HX h7 h9:=P9.hx _ N8.hx (Nat.le_refl _)
 have x59:=X7.trans x79
 have B9:At h9 h7.next (.cells [zi n,slA bv L.length,.slice none 0 0,slA bk L.length] true true 113):=P9.at_
 replace R:=R.hx x79
 replace A2:=A2.hx x59;replace A4:=A4.hx x59
 have la4:=A4.lt
 refine WL.sr <| WOL.mv rfl <| WOL.mul (m:=2) (n:=p) rfl rfl (by omega) (by omega) <| WOL.add (m:=2 * p) (n:=1) rfl rfl (by omega) (by omega) <| WOL.ld rfl (load_row tp1117 A2 rfl (Nat.le_of_ble_eq_true rfl)) <| WOL.cl1 rfl rfl ((k1183 H (r.hx Y9).l).mono ?_)
 rintro v h10 ⟨rfl,X10⟩
 have x10:=X10.next
 rw [fwrap_i64 (by omega) (by omega)]
 have Y10:=Y9.trans X10
 replace A4:=A4.hx X10;replace B9:=B9.hx X10;replace R:=R.hx X10
 generalize hz:2 * p + 1 - (n + (L.length:Int)) = z
 refine WOL.sub (m:=2 * p + 1) (n:=n + (L.length:Int)) rfl rfl (by omega) (by omega) ?_
 rw [hz]
 refine WOL.fa rfl (fa_of fo1194_0) <| WOL.fa rfl (fa_of fo1117_0) <| WOL.sto (vs:=[zi z]) rfl rfl tp3 B9 rfl rfl (Nat.le_of_ble_eq_true rfl) rfl (f.hx Y10) (by omega) fun h11 P11 => WOL.nil <| keep [(4,_),(7,_)] ⟨rfl,rfl,trivial⟩ ?_
 have n11:=P11.next
 have Y11:HX h h11:=P11.hx _ Y10 (by omega)
 have C9:At h11 h7.next (.cells [zi z,slA bv L.length,.slice none 0 0,slA bk L.length] true true 113):=P11.at_
 have C4:=P11.oth _ _ (by omega) A4
 replace R:RowA h11 bv bk L (knownL S L.length):=⟨P11.oth _ _ (by omega) R.v,P11.oth _ _ (by omega) R.k,R.e,R.n⟩
 unfold RevR
 rw [hz]
 refine WL.seq <| WL.sr <| WOL.fa rfl (fa_of fo1194_0) <| WOL.fa rfl (fa_of fo1117_0) <| WOL.ld rfl (load_one tp3 C9 rfl) ?_
 by_cases z0:z < 0
 ·refine WOL.bt rfl rfl rfl (decide_eq_true z0) <| WOL.mv rfl <| WOL.skp (b:=true) rfl rfl <| WOL.skp (b:=true) rfl rfl <| WOL.skp (b:=true) rfl rfl <| WOL.skp (b:=true) rfl rfl <| WOL.pkt rfl rfl <| WOL.nil <| keep [(4,_),(37,_)] ⟨rfl,rfl,trivial⟩ ?_
  refine WL.yes rfl <| WL.sr <| WOL.bd rfl bd1117z <| WOL.sto (vs:=[zi 0,.slice none 0 0,.slice none 0 0]) rfl rfl tp1117 C4 rfl rfl (Nat.le_of_ble_eq_true rfl) rfl (f.hx Y11) (by omega) fun i1 M1 => WOL.as rfl <| WOL.nil ?_
  exact WL.ret (WL.endC1 rfl rfl (load_row tp1117 M1.at_ rfl (Nat.le_of_ble_eq_true rfl)) ⟨M1.hx _ Y11 (by omega),.inr (.inl ⟨rfl,.inl z0,rfl⟩)⟩)
 refine WOL.bf rfl rfl rfl (decide_eq_false z0) <| WOL.mv rfl <| WOL.now (b:=false) rfl rfl <| WOL.fa rfl (fa_of fo1194_0) <| WOL.now (b:=false) rfl rfl <| WOL.ld rfl (load_row tp1117 C9 (l:=[zi z,slA bv L.length,.slice none 0 0]) rfl (Nat.le_of_ble_eq_true rfl)) <| WOL.now (b:=false) rfl rfl <| WOL.cl1 rfl rfl ((k1183 (n:=z) (v2:=.slice none 0 0) H R.sv).mono ?_)
 rintro v h12 ⟨rfl,X12⟩
 have x12:=X12.next
 rw [fwrap_i64 (by omega) (by omega)]
 have Y12:=Y11.trans X12
 by_cases z1:z + (L.length:Int) > 100000000
 ·refine WOL.now (b:=false) rfl rfl <| WOL.bt rfl rfl rfl (decide_eq_true z1) <| WOL.pkf rfl rfl <| WOL.nil <| keep [(4,_),(37,_)] ⟨rfl,rfl,trivial⟩ ?_
  refine WL.yes rfl <| WL.sr <| WOL.bd rfl bd1117z <| WOL.sto (vs:=[zi 0,.slice none 0 0,.slice none 0 0]) rfl rfl tp1117 (C4.hx X12) rfl rfl (Nat.le_of_ble_eq_true rfl) rfl (f.hx Y12) (by omega) fun i1 M1 => WOL.as rfl <| WOL.nil ?_
  exact WL.ret (WL.endC1 rfl rfl (load_row tp1117 M1.at_ rfl (Nat.le_of_ble_eq_true rfl)) ⟨M1.hx _ Y12 (by omega),.inr (.inl ⟨rfl,.inr z1,rfl⟩)⟩)
 refine WOL.now (b:=false) rfl rfl <| WOL.bf rfl rfl rfl (decide_eq_false z1) <| WOL.pkf rfl rfl <| WOL.nil <| keep [(4,_),(7,_),(37,_)] ⟨rfl,rfl,rfl,trivial⟩ ?_
 refine WL.no rfl <| WL.skip ?_
 replace C4:=C4.hx X12;replace C9:=C9.hx X12;replace R:=R.hx X12
 have f12:=f.hx Y12
 refine WL.sr <| WOL.fa rfl (fa_of fo1194_0) <| WOL.fa rfl (fa_of fo1117_1) <| WOL.ld rfl (load_one tp29 C9 rfl) <| WOL.cl1 rfl rfl ((k1184 (n0:=h.next) H R.v hL f12 (by omega)).mono ?_)
 rintro v h13 ⟨D1,G1,O1,f13,n13⟩
 refine WOL.nil <| keep [(4,_),(7,_)] ⟨rfl,rfl,trivial⟩ ?_
 have Y13:=G1 _ Y12 (by omega)
 have D4:=O1 _ _ (by omega) C4
 have D9:=O1 _ _ (by omega) C9
 have Dk:=O1 _ _ (Ne.symm R.n) R.k
 have ek:=R.e
 have en:=R.n
 have sz:=k1185 (n0:=h.next) (tp:=tp) H Dk (by rw [ek];exact hL) f13 (by omega)
 rw [ek] at sz
 refine WL.sr <| WOL.fa rfl (fa_of fo1194_1) <| WOL.ld rfl (load_one tp145 D9 rfl) <| WOL.cl1 rfl rfl (sz.mono ?_)
 rintro v h14 ⟨E1,G2,O2,f14,n14⟩
 refine WOL.nil <| keep [(4,_),(7,_)] ⟨rfl,rfl,trivial⟩ ?_
 have Y14:=G2 _ Y13 (by omega)
 have E4:=O2 _ _ (by omega) D4
 have E9:=O2 _ _ (by omega) D9
 have E2:=O2 _ _ en D1
 have Q:RowA h14 bv bk L.reverse (knownL S L.length).reverse:=⟨E2,E1,by rw [List.length_reverse,List.length_reverse];exact ek,en⟩
 have k:=k1186 (n:=z) (tp:=tp) H Q (by rw [List.length_reverse];exact hL) (f.on Y14)
 rw [List.length_reverse] at k
 refine WL.sr <| WOL.ld rfl (load_row tp1194 E9 rfl (Nat.le_of_ble_eq_true rfl)) <| WOL.cl1 rfl rfl (k.mono ?_)
 rintro v h15 ⟨X15,w,rfl,to⟩
 have x15:=X15.next
 obtain ⟨b3,m8,k3,rfl⟩:=to.form
 have y14:=Y14.next
 refine WOL.sto (vs:=[zi z,slA bv L.length,.slice b3 m8 k3]) rfl rfl tp1117 (E4.hx X15) rfl rfl (Nat.le_of_ble_eq_true rfl) rfl (f.hx (Y14.trans X15)) (by omega) fun i1 M1 => WOL.as rfl <| WOL.nil ?_
 exact WL.ret (WL.endC1 rfl rfl (load_row tp1117 M1.at_ rfl (Nat.le_of_ble_eq_true rfl)) ⟨M1.hx _ (Y14.trans X15) (by omega),.inr (.inr ⟨rfl,by omega,by omega,bv,_,rfl,by omega,(to.put M1 (by omega) (by omega)).low (by omega)⟩)⟩)
end
end Go.Tidy
namespace Go.Tidy
open Go Go.Proofs Tab
variable {tp:TProg}
def RefR (n p:Int) (L:List Int) (S:List (Int × Int)) (n0:Nat) (h':TH) (v:Value):Prop :=
 ((2 * p + 1 - (n + L.length) < 0 ∨ 2 * p + 1 - (n + L.length) + L.length > 100000000) ∧ v = .tuple #[trcV 0 (.slice none 0 0) (.slice none 0 0),zi 14]) ∨ (0 ≤ 2 * p + 1 - (n + L.length) ∧ 2 * p + 1 - (n + L.length) + L.length ≤ 100000000 ∧ MadeR (2 * p + 1 - (n + L.length)) (zipK L S L.length).reverse n0 h' v)
section
variable {h:TH} {n p:Int} {v1 v2:Value} {L:List Int} {S:List (Int × Int)}
set_option maxHeartbeats 4000000 in
set_option maxRecDepth 10000 in
theorem k1120 (H:Has tp) (r:TrcH h v1 v2 L S) (hL:L.length ≤ 900000) (hS:S.length ≤ 1000000) (m1:0 ≤ n) (m2:n ≤ 100000000) (q1:0 ≤ p) (q2:p ≤ 100000000) (f:Free0 h.next h) :
  CallW Tryz.prog tp (.func (.func 20) #[] #[]) #[trcV n v1 v2,zi p] h fun v h' => HX h h' ∧ RefR n p L S h.next h' v:=by
 obtain ⟨b1,k1,e1,_⟩:=id r.l
 obtain ⟨b2,k2,e2,_⟩:=id r.s
 subst e1 e2
 refine CallW.fnL (H.fn 20 f1120 rfl rfl) ?_
 refine WL.sr <| WOL.box rfl fun h1 N1 => WOL.al tp1114 fun h2 N2 => WOL.as rfl <| WOL.nil <| keep [(1,_),(2,_),(4,_)] ⟨rfl,rfl,rfl,trivial⟩ ?_
 have n1:=N1.next
 have n2:=N2.next
 have A2:At h2 h.next (.cells [zi n,.slice b1 L.length k1,.slice b2 S.length k2] true true 27):=N1.at_.hx N2.hx
 have A4:=N2.at_
 have X2:=N1.hx.trans N2.hx
 have r2:=r.hx X2
 generalize hz:2 * p + 1 - (n + (L.length:Int)) = z
 refine WL.sr <| WOL.mv rfl <| WOL.mul (m:=2) (n:=p) rfl rfl (by omega) (by omega) <| WOL.add (m:=2 * p) (n:=1) rfl rfl (by omega) (by omega) <| WOL.fa rfl (fa_of fo1114_0) <| WOL.ld rfl (load_one tp3 A2 rfl) <| WOL.sub (m:=2 * p + 1) (n:=n) rfl rfl (by omega) (by omega) <| WOL.fa rfl (fa_of fo1114_1) <| WOL.ld rfl (load_one tp29 A2 rfl) <| WOL.len rfl r2.l u29 <| WOL.sub (m:=2 * p + 1 - n) (n:=(L.length:Nat)) rfl rfl (by omega) (by omega) ?_
 rw [show 2 * p + 1 - n - ((L.length:Nat):Int) = z by omega]
 refine WOL.as rfl <| WOL.nil <| keep [(2,_),(4,_),(6,_)] ⟨rfl,rfl,rfl,trivial⟩ ?_
 unfold RefR
 rw [hz]
 refine WL.seq <| WL.sr <| WOL.mv rfl ?_
 by_cases z0:z < 0
 ·refine WOL.bt rfl rfl rfl (decide_eq_true z0) <| WOL.mv rfl <| WOL.skp (b:=true) rfl rfl <| WOL.skp (b:=true) rfl rfl <| WOL.skp (b:=true) rfl rfl <| WOL.skp (b:=true) rfl rfl <| WOL.skp (b:=true) rfl rfl <| WOL.skp (b:=true) rfl rfl <| WOL.pkt rfl rfl <| WOL.nil <| keep [(4,_),(29,_)] ⟨rfl,rfl,trivial⟩ ?_
  refine WL.yes rfl <| WL.sr <| WOL.bd rfl bd1114z <| WOL.sto (vs:=[zi 0,.slice none 0 0,.slice none 0 0]) rfl rfl tp1114 A4 rfl rfl (Nat.le_of_ble_eq_true rfl) rfl (f.hx X2) (by omega) fun i1 M1 => WOL.as rfl <| WOL.nil ?_
  exact WL.ret (WL.endC1 rfl rfl (load_row tp1114 M1.at_ rfl (Nat.le_of_ble_eq_true rfl)) ⟨M1.hx _ X2 (by omega),.inl ⟨.inl z0,rfl⟩⟩)
 refine WOL.bf rfl rfl rfl (decide_eq_false z0) <| WOL.mv rfl <| WOL.now (b:=false) rfl rfl <| WOL.mv rfl <| WOL.now (b:=false) rfl rfl <| WOL.fa rfl (fa_of fo1114_1) <| WOL.now (b:=false) rfl rfl <| WOL.ld rfl (load_one tp29 A2 rfl) <| WOL.now (b:=false) rfl rfl <| WOL.len rfl r2.l u29 <| WOL.now (b:=false) rfl rfl <| WOL.add (m:=z) (n:=(L.length:Nat)) rfl rfl (by omega) (by omega) ?_
 by_cases z1:z + ((L.length:Nat):Int) > 100000000
 ·refine WOL.now (b:=false) rfl rfl <| WOL.bt rfl rfl rfl (decide_eq_true z1) <| WOL.pkf rfl rfl <| WOL.nil <| keep [(4,_),(29,_)] ⟨rfl,rfl,trivial⟩ ?_
  refine WL.yes rfl <| WL.sr <| WOL.bd rfl bd1114z <| WOL.sto (vs:=[zi 0,.slice none 0 0,.slice none 0 0]) rfl rfl tp1114 A4 rfl rfl (Nat.le_of_ble_eq_true rfl) rfl (f.hx X2) (by omega) fun i1 M1 => WOL.as rfl <| WOL.nil ?_
  exact WL.ret (WL.endC1 rfl rfl (load_row tp1114 M1.at_ rfl (Nat.le_of_ble_eq_true rfl)) ⟨M1.hx _ X2 (by omega),.inl ⟨.inr z1,rfl⟩⟩)
 refine WOL.now (b:=false) rfl rfl <| WOL.bf rfl rfl rfl (decide_eq_false z1) <| WOL.pkf rfl rfl <| WOL.nil <| keep [(2,_),(4,_),(6,_),(29,_)] ⟨rfl,rfl,rfl,rfl,trivial⟩ ?_
 refine WL.no rfl <| WL.skip ?_
 refine WL.sr <| WOL.ld rfl (load_row tp1114 A2 rfl (Nat.le_of_ble_eq_true rfl)) <| WOL.cl1 rfl rfl ((k1189 (n:=n) H r2 hL hS (f.on X2)).mono ?_)
 rintro vC h3 ⟨X3,OC⟩
 have x3:=X3.next
 have X23:=X2.trans X3
 have hc:(zipK L S L.length).length = L.length:=zip_len
 generalize hC:zipK L S L.length = C at *
 have sC:SlL encC 2 h3 vC C:=OC.sl eC
 refine WOL.as rfl <| WOL.nil <| WL.sr <| WOL.as rfl <| WOL.nil <| keep [(4,_),(6,_),(7,_),(8,_)] ⟨rfl,rfl,rfl,rfl,trivial⟩ ?_
 refine WL.seq <| WL.sr <| WOL.mv rfl <| WOL.len rfl sC u1205 ?_
 rw [hc]
 refine WOL.sub (m:=((L.length:Nat):Int)) (n:=1) rfl rfl (by omega) (by omega) <| WOL.as rfl <| WOL.nil <| keep [(4,_),(6,_),(7,_),(8,_),(9,_)] ⟨rfl,rfl,rfl,rfl,rfl,trivial⟩ ?_
 refine WL.fori (α:=Value) L.length (fun j w g => HX h3 g ∧ OwnL encC h3.next g w 135 (C.reverse.take j)) (fun j w => [(4,ptr h1.next),(6,zi z),(7,vC),(8,w),(9,zi ((L.length:Int) - 1 - (j:Nat)))]) (fun j w => [(4,ptr h1.next),(6,zi z),(7,vC),(8,w),(9,zi ((L.length:Int) - 1 - (j:Nat)))]) (.slice none 0 0) ⟨HX.refl _,.inl ⟨rfl,rfl⟩⟩ (by rw [show (L.length:Int) - 1 - ((0:Nat):Int) = (L.length:Int) - 1 by omega];exact ⟨rfl,rfl,rfl,rfl,rfl,trivial⟩) ?_ ?_ (fun _ _ _ => ⟨rfl,rfl,rfl,rfl,rfl,trivial⟩) ?_ ?_
 ·rintro j w g hj ⟨X,_⟩
  refine WOL.mv rfl <| WOL.bi (v:=.bool (decide (j < L.length))) rfl rfl ?_ <| WOL.nil fun a q => ⟨rfl,q.sub ⟨rfl,rfl,rfl,rfl,rfl,rfl,trivial⟩⟩
  show some (Value.bool (decide (0 ≤ (L.length:Int) - 1 - ((j:Nat):Int)))) = _
  rw [show decide (0 ≤ (L.length:Int) - 1 - ((j:Nat):Int)) = decide (j < L.length) from decide_eq_decide.2 (by omega)]
 ·rintro j w g hj q
  refine WOL.mv rfl <| WOL.sub (m:=(L.length:Int) - 1 - (j:Nat)) (n:=1) rfl rfl (by omega) (by omega) ?_
  rw [show (L.length:Int) - 1 - ((j:Nat):Int) - 1 = (L.length:Int) - 1 - ((j + 1:Nat):Int) by omega]
  exact WOL.as rfl <| WOL.nil fun a k => ⟨q,k.sub ⟨rfl,rfl,rfl,rfl,rfl,trivial⟩⟩
 ·rintro j w g hj ⟨X,O⟩
  have xg:=X.next
  obtain ⟨c,hcj⟩:∃ c,C[L.length - 1 - j]? = some c:=⟨_,List.getElem?_eq_getElem (by omega)⟩
  have hrj:C.reverse[j]? = some c:=by rw [List.getElem?_reverse (by omega),hc];exact hcj
  obtain ⟨b,o,cc,fix,wr,el,g1,g2,g3,g4,g5⟩:=(sC.hx X).at eC u1205 tp1207 hcj .i64
  rw [show ((L.length - 1 - j:Nat):Int) = (L.length:Int) - 1 - ((j:Nat):Int) by omega] at g1
  refine WL.reg <| WOL.mv rfl <| WOL.mv rfl <| WOL.mv rfl <| WOL.ix rfl rfl g1 <| WOL.ld rfl (load_row tp1207 g2 g4 g3) <| WOL.bsl rfl u1205 tp1207 (by decide) (by decide) (by decide) (cs:=encC c) rfl fun g6 N6 => ?_
  have n6:=N6.next
  obtain ⟨w',g7,ap,O',x7,_,_,_⟩:=own_push (sT:=133) (x:=c) eC u1205 tp1207 (O.hx N6.hx) (SlC.own (sz:=2) (m:=1) rfl N6.at_) ((f.hx (X23.trans (X.trans N6.hx))).up (by omega)) (by rw [List.length_take,List.length_reverse];omega) (by omega)
  rw [show C.reverse.take j ++ [c] = C.reverse.take (j + 1) by rw [List.take_succ,hrj];rfl] at O'
  exact WOL.ap rfl rfl ap <| WOL.as rfl <| WOL.nil fun a q => ⟨w',⟨x7 _ (X.trans N6.hx) (Nat.le_refl _),O'⟩,q.sub ⟨rfl,rfl,rfl,rfl,rfl,trivial⟩⟩
 ·rintro w g ⟨X,O⟩
  rw [List.take_of_length_le (by rw [List.length_reverse];omega)] at O
  have Y:=X23.trans X
  refine WL.sr <| WOL.mv rfl <| WOL.mv rfl <| WOL.cl2 rfl rfl rfl ((k1188 H (O.sl eC) (by rw [List.length_reverse];omega) (f.on Y)).mono ?_)
  rintro v g2 ⟨Y2,R⟩
  have Z:=Y.trans Y2
  have B4:=((A4.hx X3).hx X).hx Y2
  have zx:=Y.next
  rcases R with ⟨hb,rfl⟩ | ⟨hb,u1,u2,rfl,O1,O2⟩
  ·refine WOL.ex rfl rfl <| WOL.ex rfl rfl <| WOL.sto (vs:=[zi 0,.slice none 0 0,.slice none 0 0]) rfl rfl tp1114 B4 rfl rfl (Nat.le_of_ble_eq_true rfl) rfl (f.hx Z) (by omega) fun i1 M1 => WOL.as rfl <| WOL.nil ?_
   exact WL.ret (WL.endC1 rfl rfl (load_row tp1114 M1.at_ rfl (Nat.le_of_ble_eq_true rfl)) ⟨M1.hx _ Z (by omega),.inr ⟨by omega,by omega,.inl ⟨hb,rfl⟩⟩⟩)
  ·obtain ⟨z3,e1⟩:=OwnF.form (Or.inl O1)
   obtain ⟨z2,e2⟩:=OwnF.form (Or.inl O2)
   have xx:=X.next
   refine WOL.ex rfl rfl <| WOL.ex rfl rfl <| WOL.sto (vs:=[zi z,u1,u2]) rfl rfl tp1114 B4 rfl rfl (Nat.le_of_ble_eq_true rfl) (by rw [e1,e2];rfl) (f.hx Z) (by omega) fun i1 M1 => WOL.as rfl <| WOL.nil ?_
   exact WL.ret (WL.endC1 rfl rfl (load_row tp1114 M1.at_ rfl (Nat.le_of_ble_eq_true rfl)) ⟨M1.hx _ Z (by omega),.inr ⟨by omega,by omega,.inr ⟨hb,u1,u2,rfl,(O1.keep fun z y hz a => M1.oth _ _ (by have:=O1.lt hz;omega) a).low (by omega),(O2.keep fun z y hz a => M1.oth _ _ (by have:=O2.lt hz;omega) a).low (by omega)⟩⟩⟩)
end
end Go.Tidy
namespace Go.Tidy
open Go Go.Proofs Tab
variable {tp:TProg}
section
variable {h:TH} {n n' e:Int} {v1 v2 w1 w2:Value} {L:List Int} {S:List (Int × Int)}
theorem k1150 (H:Has tp) {b1 b2:Option Addr} {m1 c1 m2 c2:Nat} (f:Free0 h.next h):CallW Tryz.prog tp (.func (.func 53) #[] #[]) #[trcV n (.slice b1 m1 c1) (.slice b2 m2 c2)] h fun v h' => v = trcV n (.slice b1 m1 c1) (.slice b2 m2 c2) ∧ HX h h':=by
 refine CallW.fnL (H.fn 53 f1150 rfl rfl) ?_
 refine WL.sr <| WOL.box rfl fun h1 N1 => WOL.al tp1114 fun h2 N2 => WOL.nil <| keep [(1,_),(2,_)] ⟨rfl,rfl,trivial⟩ ?_
 have n1:=N1.next
 have n2:=N2.next
 have A1:At h2 h.next (.cells [zi n,.slice b1 m1 c1,.slice b2 m2 c2] true true 31):=N1.at_.hx N2.hx
 have X2:=N1.hx.trans N2.hx
 refine WL.sr <| WOL.ld rfl (load_row tp1117 A1 rfl (Nat.le_of_ble_eq_true rfl)) <| WOL.sto (vs:=[zi n,.slice b1 m1 c1,.slice b2 m2 c2]) rfl rfl tp1114 N2.at_ rfl rfl (Nat.le_of_ble_eq_true rfl) rfl (f.hx X2) (by omega) fun h3 P3 => WOL.nil ?_
 exact WL.ret (WL.endC rfl (load_row tp1114 P3.at_ rfl (Nat.le_of_ble_eq_true rfl)) ⟨rfl,P3.hx _ X2 (by omega)⟩)
theorem ints_form {v:Value} (i:IsInts h v L):∃ b m c,v = .slice b m c:=by
 rcases i with ⟨rfl,_⟩ | ⟨b,c,_,_,_,rfl,_⟩
 ·exact ⟨_,_,_,rfl⟩
 ·exact ⟨_,_,_,rfl⟩
theorem k1124 (H:Has tp) (i1:IsInts h v1 L) (s1:SlL encS 2 h v2 S) {b3 b4:Option Addr} {m3 c3 m4 c4:Nat} (e1:w1 = .slice b3 m3 c3) (e2:w2 = .slice b4 m4 c4) (hL:L.length ≤ 1000000) (hS:S.length ≤ 1000000) (f:Free0 h.next h)
  (c:(e ≠ 0 ∧ n = 0 ∧ L = [] ∧ S = []) ∨ (e = 0 ∧ n = n' ∧ IsInts h w1 L ∧ SlL encS 2 h w2 S)):CallW Tryz.prog tp (.func (.func 24) #[] #[]) #[trcV n v1 v2,zi e,zi e,trcV n' w1 w2] h fun v h' => v = .bool true ∧ HX h h':=by
 obtain ⟨b1,m1,c1,rfl⟩:=ints_form i1
 obtain ⟨b2,k2,q2,_⟩:=id s1
 subst q2 e1 e2
 refine CallW.fnL (H.fn 24 f1124 rfl rfl) ?_
 refine WL.sr <| WOL.box rfl fun h1 N1 => WOL.box rfl fun h2 N2 => WOL.as rfl <| WOL.nil <| keep [(1,_),(2,_),(4,_),(7,_)] ⟨rfl,rfl,rfl,rfl,trivial⟩ ?_
 have n1:=N1.next
 have n2:=N2.next
 have A4:At h2 h.next (.cells [zi n,.slice b1 m1 c1,.slice b2 S.length k2] true true 31):=N1.at_.hx N2.hx
 have A7:At h2 h1.next (.cells [zi n',.slice b3 m3 c3,.slice b4 m4 c4] true true 27):=N2.at_
 have X2:=N1.hx.trans N2.hx
 have fin:∀ {g:TH} {y1 y2:Value},HX h g → At g h.next (.cells [zi n,.slice b1 m1 c1,.slice b2 S.length k2] true true 31) → At g h1.next (.cells [zi n,y1,y2] true true 27) → IsInts g y1 L → SlL encS 2 g y2 S → ∀ a,Kn [(1,zi e),(2,zi e),(4,ptr h.next),(7,ptr h1.next)] a → W Tryz.prog tp false (.seq (.reg r1124_3) .ret) a g (Fin Tryz.prog [.tmp 8] fun v h' => v = .bool true ∧ HX h h'):=by
  intro g y1 y2 X B4 B7 i s
  refine WL.sr <| WOL.ld rfl (load_row tp1117 B4 rfl (Nat.le_of_ble_eq_true rfl)) <| WOL.ld rfl (load_row tp1114 B7 rfl (Nat.le_of_ble_eq_true rfl)) ?_
  refine WOL.lq1 [h1.next] rfl rfl rfl fun M hM => ((k1150 (h:=g.withLock M) H ((f.on X).held hM (fun b hb => by have:=X.next;have:=B7.lt;simp at hb;omega))).mono ?_)
  rintro v h4 ⟨rfl,X4⟩
  replace X4:=X4.relock
  generalize h4.withLock g.lock = h4 at *
  refine WOL.cl2 rfl rfl rfl ((k1152 H (i1.hx (X.trans X4)) (i.hx X4) (s1.hx (X.trans X4)) (s.hx X4) hL hS).mono ?_)
  rintro v h5 ⟨rfl,X5⟩
  refine WOL.mv rfl <| WOL.now (b:=true) rfl rfl <| WOL.mv rfl <| WOL.now (b:=true) rfl rfl <| WOL.mv rfl <| WOL.now (b:=true) rfl rfl <| WOL.bt rfl rfl rfl (by first | exact decide_eq_true (by omega) | exact beq_iff_eq.2 (by omega) | exact bne_iff_ne.2 (by omega)) <| WOL.pkt rfl rfl <| WOL.as rfl <| WOL.nil ?_
  exact WL.ret (WL.end_ rfl ⟨rfl,(X.trans X4).trans X5⟩)
 rcases c with ⟨c1',rfl,rfl,rfl⟩ | ⟨rfl,rfl,i,s⟩
 ·refine WL.seq <| WL.sr <| WOL.mv rfl <| WOL.bt rfl rfl rfl (bne_iff_ne.2 c1') <| WOL.nil <| keep [(1,_),(2,_),(4,_),(7,_),(10,_)] ⟨rfl,rfl,rfl,rfl,rfl,trivial⟩ ?_
  refine WL.yes rfl <| WL.reg <| WOL.bd rfl bd1114z <| WOL.sto (vs:=[zi 0,.slice none 0 0,.slice none 0 0]) rfl rfl tp1114 A7 rfl rfl (Nat.le_of_ble_eq_true rfl) rfl (f.hx X2) (by omega) fun i1 M1 => WOL.nil ?_
  have P:=M1.hx _ X2 (by omega)
  exact kto (fin P (M1.oth _ _ (by omega) A4) M1.at_ (.inl ⟨rfl,rfl⟩) SlL.nil) ⟨rfl,rfl,rfl,rfl,trivial⟩
 ·refine WL.seq <| WL.sr <| WOL.mv rfl <| WOL.bf rfl rfl rfl rfl <| WOL.nil <| keep [(1,_),(2,_),(4,_),(7,_),(10,_)] ⟨rfl,rfl,rfl,rfl,rfl,trivial⟩ ?_
  refine WL.no rfl <| WL.skip ?_
  exact kto (fin X2 A4 A7 (i.hx X2) (s.hx X2)) ⟨rfl,rfl,rfl,rfl,trivial⟩
end
end Go.Tidy
namespace Go.Tidy
open Go Go.Proofs Tab
theorem dark_zero {L:List Int} {S:List (Int × Int)} {i:Nat} (h:S.any (anyIn L) = false) (hi:knownB S (i:Int) = false):L.getD i 0 = 0:=by
 unfold knownB at hi
 rw [Bool.not_eq_false'] at hi
 obtain ⟨p,hp,hx⟩:=List.any_eq_true.1 hi
 have ha:=List.any_eq_false.1 h p hp
 unfold inS at hx
 simp only [Bool.and_eq_true,decide_eq_true_eq] at hx
 rw [List.getD_eq_getElem?_getD]
 cases hL:L[i]? with
 | none => rfl
 | some x =>
  show x = 0
  have hm:x ∈ (L.drop p.1.toNat).take (p.2.toNat - p.1.toNat):=by
   refine List.mem_of_getElem? (i:=i - p.1.toNat) ?_
   rw [List.getElem?_take_of_lt (by omega),List.getElem?_drop,show p.1.toNat + (i - p.1.toNat) = i by omega]
   exact hL
  by_cases h0:x = 0
  ·exact h0
  ·exact absurd (show anyIn L p = true by unfold anyIn;exact List.any_eq_true.2 ⟨x,hm,bne_iff_ne.2 h0⟩) ha
theorem zip_val {L:List Int} {S:List (Int × Int)} (h:S.any (anyIn L) = false):valC (zipK L S L.length) = L:=by
 unfold valC zipK
 rw [List.map_map]
 refine List.ext_getElem? fun i => ?_
 rw [List.getElem?_map]
 by_cases hi:i < L.length
 ·rw [List.getElem?_range hi,List.getElem?_eq_getElem hi]
  show some (cond (knownB S (i:Int)) (L.getD i 0) 0) = some L[i]
  have e:L.getD i 0 = L[i]:=by rw [List.getD_eq_getElem?_getD,List.getElem?_eq_getElem hi];rfl
  cases hk:knownB S (i:Int) with
  | true => rw [← e];rfl
  | false => rw [← e,dark_zero h hk];rfl
 ·rw [List.getElem?_eq_none (by rw [List.length_range];omega),List.getElem?_eq_none (by omega)];rfl
theorem zip_known {L:List Int} {S:List (Int × Int)} {m:Nat}:((zipK L S m).map fun c => c.2) = knownL S m:=by
 unfold zipK knownL
 rw [List.map_map];rfl
theorem rev_val {L:List Int} {S:List (Int × Int)} (h:S.any (anyIn L) = false):valC (zipK L S L.length).reverse = L.reverse:=by
 unfold valC
 rw [List.map_reverse]
 exact congrArg List.reverse (zip_val h)
theorem rev_known {L:List Int} {S:List (Int × Int)} {m:Nat}:((zipK L S m).reverse.map fun c => c.2) = (knownL S m).reverse:=by
 rw [List.map_reverse,zip_known]
theorem rev_big {L:List Int} {S:List (Int × Int)} {m:Nat} (lim:∀ i,-1073741824 ≤ L.getD i 0 ∧ L.getD i 0 ≤ 1073741824):bigC (zipK L S m).reverse = false:=by
 unfold bigC
 refine List.any_eq_false.2 fun c hc => ?_
 obtain ⟨i,_,rfl⟩:=List.mem_map.1 (List.mem_reverse.1 hc)
 have e:largeB (L.getD i 0) = false:=by
  obtain ⟨l1,l2⟩:=lim i
  unfold largeB readE outB
  rw [decide_eq_false (by omega),decide_eq_false (by omega)];rfl
 simp only [e,Bool.and_false]
 decide
def Ans (n:Int) (o:Int × List Int × List (Int × Int)) (n0:Nat) (g:TH) (v:Value):Prop:=∃ z y1 y2,v = .tuple #[trcV z y1 y2,zi o.1] ∧ IsInts g y1 o.2.1 ∧ SlL encS 2 g y2 o.2.2 ∧ (∀ z,bl y1 = some z → n0 ≤ z) ∧ (∀ z,bl y2 = some z → n0 ≤ z) ∧ ((o.1 ≠ 0 ∧ z = 0 ∧ o.2.1 = [] ∧ o.2.2 = []) ∨ (o.1 = 0 ∧ z = n))
def sumO (e:Int) (C:List (Int × Bool)):Int × List Int × List (Int × Int):=if e ≠ 0 then (e,[],[]) else if bigC C = true then (4,[],[]) else (0,valC C,holesOf (C.map fun c => c.2))
def revO (n p e:Int) (L:List Int) (S:List (Int × Int)):Int × List Int × List (Int × Int):=if e ≠ 0 then (e,[],[]) else if 2 * p + 1 - (n + L.length) < 0 ∨ 2 * p + 1 - (n + L.length) + L.length > 100000000 then (14,[],[]) else (0,L.reverse,holesOf (knownL S L.length).reverse)
theorem Ans.err {n e:Int} {n0:Nat} {g:TH} {v:Value} (he:e ≠ 0) (hv:v = .tuple #[trcV 0 (.slice none 0 0) (.slice none 0 0),zi e]):Ans n (e,[],[]) n0 g v:=⟨0,_,_,hv,.inl ⟨rfl,rfl⟩,SlL.nil,fun z hz => (by cases hz),fun z hz => (by cases hz),.inl ⟨he,rfl,rfl,rfl⟩⟩
theorem TrcO.ints {n0 bv m:Nat} {g:TH} {w:Value} {L:List Int} {S:List (Int × Int)} (r:TrcO n0 g bv w L S) (hm:m = L.length):IsInts g (slA bv m) L:=by
 subst hm
 have:=r.v
 rw [cat_I] at this
 exact .inr ⟨bv,L.length,_,_,_,rfl,this.lt,this.get⟩
theorem ProgR.ans {n e:Int} {C:List (Int × Bool)} {n0:Nat} {g:TH} {v:Value} (r:ProgR n e C n0 g v):Ans n (sumO e C) n0 g v:=by
 unfold sumO
 rcases r with ⟨h1,h2⟩ | ⟨rfl,h1,h2⟩ | ⟨rfl,h1,bv,w,h2,hb,h3⟩
 ·rw [if_pos h1];exact Ans.err h1 h2
 ·rw [if_neg (by decide),if_pos h1];exact Ans.err (by decide) h2
 ·rw [if_neg (by decide),if_neg (by rw [h1];decide)]
  exact ⟨n,_,_,h2,h3.ints (by unfold valC;rw [List.length_map]),h3.s.sl eS,fun z hz => (by have:bv = z:=Option.some.inj hz;omega),fun z hz => (h3.s.lt hz).1,.inr ⟨rfl,rfl⟩⟩
theorem MadeR.ans {n:Int} {C:List (Int × Bool)} {n0:Nat} {g:TH} {v:Value} (r:MadeR n C n0 g v):Ans n (sumO 0 C) n0 g v:=by
 unfold sumO
 rw [if_neg (by decide)]
 rcases r with ⟨h1,h2⟩ | ⟨h1,w1,w2,h2,h3,h4⟩
 ·rw [if_pos h1];exact Ans.err (by decide) h2
 ·rw [if_neg (by rw [h1];decide)]
  exact ⟨n,_,_,h2,ownI_ints h3,h4.sl eS,fun z hz => (h3.lt hz).1,fun z hz => (h4.lt hz).1,.inr ⟨rfl,rfl⟩⟩
theorem RevR.ans {n p e:Int} {L:List Int} {S:List (Int × Int)} {n0:Nat} {g:TH} {v:Value} (r:RevR n p e L S n0 g v):Ans (2 * p + 1 - (n + L.length)) (revO n p e L S) n0 g v:=by
 unfold revO
 rcases r with ⟨h1,h2⟩ | ⟨rfl,h1,h2⟩ | ⟨rfl,h0,h1,bv,w,h2,hb,h3⟩
 ·rw [if_pos h1];exact Ans.err h1 h2
 ·rw [if_neg (by decide),if_pos h1];exact Ans.err (by decide) h2
 ·rw [if_neg (by decide),if_neg (by omega)]
  exact ⟨_,_,_,h2,h3.ints (by rw [List.length_reverse]),h3.s.sl eS,fun z hz => (by have:bv = z:=Option.some.inj hz;omega),fun z hz => (h3.s.lt hz).1,.inr ⟨rfl,rfl⟩⟩
theorem RefR.ans {n p:Int} {L:List Int} {S:List (Int × Int)} {n0:Nat} {g:TH} {v:Value} (hd:S.any (anyIn L) = false) (lim:∀ i,-1073741824 ≤ L.getD i 0 ∧ L.getD i 0 ≤ 1073741824) (r:RefR n p L S n0 g v):Ans (2 * p + 1 - (n + L.length)) (revO n p 0 L S) n0 g v:=by
 unfold revO
 rw [if_neg (by decide)]
 rcases r with ⟨h1,h2⟩ | ⟨h0,h1,h2⟩
 ·rw [if_pos h1];exact Ans.err (by decide) h2
 ·rw [if_neg (by omega)]
  have:=h2.ans
  unfold sumO at this
  rw [if_neg (by decide),if_neg (by rw [rev_big lim];decide),rev_val hd,rev_known] at this
  exact this
end Go.Tidy
namespace Go.Tidy
open Go Go.Proofs Tab
variable {tp:TProg}
theorem k11t (A:Awk tp) (h:TH):CallW Tryz.prog tp (.func (.func 12) #[] #[]) #[] h fun v h' => v = .bool true ∧ h' = h:=by
 obtain ⟨e,e1,e2⟩:=A.e
 exact CallW.ext A.no e1 rfl e2 rfl ⟨rfl,rfl⟩
theorem ix1115_0 {c:Nat}:indexAddrT Tryz.prog 28 (.pointer (some ⟨c,0,none⟩)) (.int .i64 0) = some (.pointer (some ⟨c,0,none⟩)):=by kernel_rfl
theorem ix1115_1 {c:Nat}:indexAddrT Tryz.prog 28 (.pointer (some ⟨c,0,none⟩)) (.int .i64 1) = some (.pointer (some ⟨c,3,none⟩)):=by kernel_rfl
theorem IsInts.keep {g g':TH} {y:Value} {L:List Int} (i:IsInts g y L) (k:∀ b x,bl y = some b → At g b x → At g' b x):IsInts g' y L:=by
 rcases i with i | ⟨b,c,fix,wr,el,i1,i2,i3⟩
 ·exact .inl i
 ·subst i1
  have:=k b _ rfl ⟨i3,i2⟩
  exact .inr ⟨b,c,fix,wr,el,rfl,this.lt,this.get⟩
def CelA (ty:TypeId) (n:Int) (o:Int × List Int × List (Int × Int)) (g:TH) (c:Nat):Prop:=∃ z b1 m1 k1 b2 m2 k2,At g c (.cells [zi z,.slice b1 m1 k1,.slice b2 m2 k2] true true ty) ∧ IsInts g (.slice b1 m1 k1) o.2.1 ∧ SlL encS 2 g (.slice b2 m2 k2) o.2.2 ∧ ((o.1 ≠ 0 ∧ z = 0 ∧ o.2.1 = [] ∧ o.2.2 = []) ∨ (o.1 = 0 ∧ z = n))
theorem CelA.hx {ty:TypeId} {n:Int} {o:Int × List Int × List (Int × Int)} {g g':TH} {c:Nat} (q:CelA ty n o g c) (x:HX g g'):CelA ty n o g' c:=by
 obtain ⟨z,b1,m1,k1,b2,m2,k2,A,i,s,e⟩:=q
 exact ⟨z,b1,m1,k1,b2,m2,k2,A.hx x,i.hx x,s.hx x,e⟩
section
variable {h h0:TH} {a b n1 n2 m1 m2 e1:Int} {v1 v2 w1 w2:Value} {L1:List Int} {S1:List (Int × Int)} {o1 o2:Int × List Int × List (Int × Int)} {c3 c4 c7 c9 c14 c15:Nat}
set_option maxHeartbeats 4000000 in
set_option maxRecDepth 10000 in
theorem k1100d (H:Has tp) (K:Awk tp) (X0:HX h0 h) (f:Free0 h0.next h0) (A3:At h c3 (.cells [zi a,zi b] true true 23)) (A4:At h c4 (.cells [zi n1,v1,v2,zi n2,w1,w2] true true 28)) (r1:TrcH h v1 v2 L1 S1) (hL:L1.length ≤ 900000) (hS:S1.length ≤ 900000) (he:e1 = traceE n1 L1 S1) (l1:o1.2.1.length ≤ 1000000) (l2:o1.2.2.length ≤ 1000000) (l3:o2.2.1.length ≤ 1000000) (l4:o2.2.2.length ≤ 1000000)
  (C7:CelA 31 m1 o1 h c7) (C14:CelA 27 m1 o1 h c14) (C9:CelA 31 m2 o2 h c9) (C15:CelA 27 m2 o2 h c15) :
  ∀ r,Kn [(3,ptr c3),(4,ptr c4),(7,ptr c7),(8,zi o1.1),(9,ptr c9),(10,zi o2.1),(11,zi e1),(12,zi o1.1),(13,zi o2.1),(14,ptr c14),(15,ptr c15)] r → W Tryz.prog tp false (.seq (.reg r1100_12) .ret) r h (Fin Tryz.prog [.tmp 6] fun v _ => v = .bool true):=by
 refine WL.sr <| WOL.ld rfl (load_row tp1112 A3 rfl (Nat.le_of_ble_eq_true rfl)) <| WOL.ld rfl (load_row tp1112 A3 rfl (Nat.le_of_ble_eq_true rfl)) ?_
 refine WOL.lk1 rfl rfl fun M => ((k1121 H a b _).mono ?_)
 rintro v g1 ⟨rfl,X1⟩
 replace X1:=X1.relock
 generalize g1.withLock h.lock = g1 at *
 refine WOL.cl1 rfl rfl ((k1122 H a b _).mono ?_)
 rintro v g2 ⟨rfl,X2⟩
 have Y2:=X1.trans X2
 refine WOL.bt rfl rfl rfl (by first | exact decide_eq_true (by omega) | exact beq_iff_eq.2 (by omega) | exact bne_iff_ne.2 (by omega)) <| WOL.mv rfl <| WOL.now (b:=true) rfl rfl <| WOL.ix rfl rfl ix1115_0 <| WOL.now (b:=true) rfl rfl <| WOL.ld rfl (load_row tp1114 (A4.hx Y2) (l:=[zi n1,v1,v2]) rfl (Nat.le_of_ble_eq_true rfl)) <| WOL.now (b:=true) rfl rfl <| WOL.mv rfl <| WOL.now (b:=true) rfl rfl <| WOL.cl1 rfl rfl ((k1115 (n:=n1) H (r1.hx Y2) (by omega) (by omega) (f.on (X0.trans Y2))).mono ?_)
 rintro v g3 ⟨X3,u1,u2,rfl,ru,_,_⟩
 have Y3:=Y2.trans X3
 refine WOL.now (b:=true) rfl rfl <| WOL.cl1 rfl rfl ((k1123 (n:=n1) H ru (by omega) (by omega) (f.on (X0.trans Y3))).mono ?_)
 rintro v g4 ⟨rfl,X4⟩
 have Y4:=Y3.trans X4
 subst he
 refine WOL.now (b:=true) rfl rfl <| WOL.bt rfl rfl rfl (by first | exact decide_eq_true (by omega) | exact beq_iff_eq.2 (by omega) | exact bne_iff_ne.2 (by omega)) <| WOL.pkt rfl rfl <| WOL.mv rfl ?_
 obtain ⟨z,b1,p1,k1,b2,p2,k2,A,i,s,e⟩:=C7.hx Y4
 obtain ⟨z',b3,p3,k3,b4,p4,k4,A',i',s',e'⟩:=C14.hx Y4
 refine WOL.now (b:=true) rfl rfl <| WOL.ld rfl (load_row tp1117 A rfl (Nat.le_of_ble_eq_true rfl)) <| WOL.now (b:=true) rfl rfl <| WOL.mv rfl <| WOL.now (b:=true) rfl rfl <| WOL.mv rfl <| WOL.now (b:=true) rfl rfl <| WOL.ld rfl (load_row tp1114 A' rfl (Nat.le_of_ble_eq_true rfl)) <| WOL.now (b:=true) rfl rfl ?_
 refine WOL.cl4 rfl rfl rfl rfl rfl ((k1124 (n:=z) (n':=z') H i s rfl rfl l1 l2 (f.on (X0.trans Y4)) ?_).mono ?_)
 ·rcases e with e | ⟨q1,q2⟩
  ·exact .inl e
  ·rcases e' with e' | ⟨q3,q4⟩
   ·exact absurd q1 e'.1
   ·exact .inr ⟨q1,q2.trans q4.symm,i',s'⟩
 rintro v g5 ⟨rfl,X5⟩
 have Y5:=Y4.trans X5
 refine WOL.pkt rfl rfl <| WOL.mv rfl ?_
 obtain ⟨z5,b5,p5,k5,b6,p6,k6,B,j,t,d⟩:=C9.hx Y5
 obtain ⟨z6,b7,p7,k7,b8,p8,k8,B',j',t',d'⟩:=C15.hx Y5
 refine WOL.now (b:=true) rfl rfl <| WOL.ld rfl (load_row tp1117 B rfl (Nat.le_of_ble_eq_true rfl)) <| WOL.now (b:=true) rfl rfl <| WOL.mv rfl <| WOL.now (b:=true) rfl rfl <| WOL.mv rfl <| WOL.now (b:=true) rfl rfl <| WOL.ld rfl (load_row tp1114 B' rfl (Nat.le_of_ble_eq_true rfl)) <| WOL.now (b:=true) rfl rfl ?_
 refine WOL.cl4 rfl rfl rfl rfl rfl ((k1124 (n:=z5) (n':=z6) H j t rfl rfl l3 l4 (f.on (X0.trans Y5)) ?_).mono ?_)
 ·rcases d with d | ⟨q1,q2⟩
  ·exact .inl d
  ·rcases d' with d' | ⟨q3,q4⟩
   ·exact absurd q1 d'.1
   ·exact .inr ⟨q1,q2.trans q4.symm,j',t'⟩
 rintro v g6 ⟨rfl,X6⟩
 refine WOL.pkt rfl rfl <| WOL.mv rfl <| WOL.now (b:=true) rfl rfl <| WOL.cl0 rfl ((k11t K g6).mono ?_)
 rintro v g7 ⟨rfl,rfl⟩
 exact WOL.pkt rfl rfl <| WOL.as rfl <| WOL.nil <| WL.ret (WL.end_ rfl rfl)
end
end Go.Tidy
namespace Go.Tidy
open Go Go.Proofs Tab
variable {tp:TProg}
theorem nz_more {e1 e2 x:Int} (h0:firstNZ [e1,e2] ≠ 0):firstNZ [e1,e2,x] = firstNZ [e1,e2]:=by
 show cond (e1 != 0) e1 (cond (e2 != 0) e2 (firstNZ [x])) = cond (e1 != 0) e1 (cond (e2 != 0) e2 0)
 cases h1:(e1 != 0) with
 | true => rfl
 | false =>
  cases h2:(e2 != 0) with
  | true => rfl
  | false =>
   refine absurd ?_ h0
   show cond (e1 != 0) e1 (cond (e2 != 0) e2 0) = 0
   rw [h1,h2];rfl
theorem sum_err {e1 e2 x:Int} {C:List (Int × Bool)} (h0:firstNZ [e1,e2] ≠ 0):sumO (firstNZ [e1,e2,x]) C = (firstNZ [e1,e2],[],[]):=by
 unfold sumO
 rw [nz_more h0,if_pos h0]
theorem sum_ans {e1 e2 n n':Int} {m m':Nat} {C:List (Int × Bool)} {n0:Nat} {g:TH} {v:Value} (h0:firstNZ [e1,e2] = 0) (R:(¬ (n = n' ∧ m = m') ∧ v = .tuple #[trcV 0 (.slice none 0 0) (.slice none 0 0),zi 2]) ∨ ((n = n' ∧ m = m') ∧ MadeR n C n0 g v)):Ans n (sumO (firstNZ [e1,e2,shapeE n n' m m']) C) n0 g v:=by
 have a:=firstNZ_zero h0
 have z1:e1 = 0:=a _ (by simp)
 have z2:e2 = 0:=a _ (by simp)
 rw [z1,z2]
 rcases R with ⟨hn,hv⟩ | ⟨hy,mr⟩
 ·have e:firstNZ [0,0,shapeE n n' m m'] = 2:=by unfold shapeE;rw [decide_eq_false hn];rfl
  rw [e]
  unfold sumO
  rw [if_pos (by decide)]
  exact Ans.err (by decide) hv
 ·have e:firstNZ [0,0,shapeE n n' m m'] = 0:=by unfold shapeE;rw [decide_eq_true hy];rfl
  rw [e]
  exact mr.ans
section
variable {h h0:TH} {a b n1 n2 m1 m2 e1 E2 p:Int} {v1 v2 w1 w2:Value} {L1:List Int} {S1:List (Int × Int)} {o1:Int × List Int × List (Int × Int)} {c3 c4 c7 c9 c14 c15:Nat}
set_option maxHeartbeats 4000000 in
set_option maxRecDepth 10000 in
theorem k1100c (H:Has tp) (K:Awk tp) (X0:HX h0 h) (f:Free0 h0.next h0) {hb:TH} (Xb:HX hb h) (hb15:hb.next ≤ c15) (h015:h0.next ≤ c15) (A3:At hb c3 (.cells [zi a,zi b] true true 23)) (A4:At hb c4 (.cells [zi n1,v1,v2,zi n2,w1,w2] true true 28)) (r1:TrcH hb v1 v2 L1 S1) (hL:L1.length ≤ 900000) (hS:S1.length ≤ 900000) (he:e1 = traceE n1 L1 S1) (hE:E2 = firstNZ [e1,outB p 0 100000000]) (l1:o1.2.1.length ≤ 1000000) (l2:o1.2.2.length ≤ 1000000) (l3:(revO n1 p E2 L1 S1).2.1.length ≤ 1000000) (l4:(revO n1 p E2 L1 S1).2.2.length ≤ 1000000)
  (C7:CelA 31 m1 o1 hb c7) (C9:CelA 31 (2 * p + 1 - (n1 + L1.length)) (revO n1 p E2 L1 S1) hb c9) (C14:∀ g,(∀ c x,c ≠ c15 → At h c x → At g c x) → CelA 27 m1 o1 g c14) (A15:At h c15 (.cells [zi 0,.slice none 0 0,.slice none 0 0] true true 27)) :
  ∀ r,Kn [(2,zi p),(3,ptr c3),(4,ptr c4),(7,ptr c7),(8,zi o1.1),(9,ptr c9),(10,zi (revO n1 p E2 L1 S1).1),(11,zi e1),(12,zi o1.1),(13,zi E2),(14,ptr c14),(15,ptr c15)] r → W Tryz.prog tp false (.seq (.seq (.reg r1100_10) (.cond (.tmp 70) (.reg r1100_11) .skip)) (.seq (.reg r1100_12) .ret)) r h (Fin Tryz.prog [.tmp 6] fun v _ => v = .bool true):=by
 have lc:=A15.lt
 by_cases e0:E2 = 0
 ·subst e0
  have a0:=firstNZ_zero hE.symm
  have z1:e1 = 0:=a0 _ (by simp)
  have z2:outB p 0 100000000 = 0:=a0 _ (by simp)
  obtain ⟨⟨q1,q2⟩,q3,q4,q5,q6,q7⟩:=trace_ok (he.symm.trans z1)
  obtain ⟨q8,q9⟩:=out_in z2
  refine WL.seq <| WL.sr <| WOL.mv rfl <| WOL.bt rfl rfl rfl rfl <| WOL.nil <| keep [(2,_),(3,_),(4,_),(7,_),(8,_),(9,_),(10,_),(11,_),(12,_),(14,_),(15,_),(70,_)] ⟨rfl,rfl,rfl,rfl,rfl,rfl,rfl,rfl,rfl,rfl,rfl,rfl,trivial⟩ ?_
  refine WL.yes rfl <| WL.reg <| WOL.ix rfl rfl ix1115_0 <| WOL.ld rfl (load_row tp1114 (A4.hx Xb) (l:=[zi n1,v1,v2]) rfl (Nat.le_of_ble_eq_true rfl)) <| WOL.mv rfl <| WOL.cl2 rfl rfl rfl ((k1120 H (r1.hx Xb) (by omega) (by omega) q1 q2 q8 q9 (f.on X0)).mono ?_)
  rintro v g1 ⟨X1,R⟩
  have x1:=X1.next
  obtain ⟨z,y1,y2,rfl,i,s,b1,b2,e⟩:=R.ans q5 q3
  obtain ⟨d1,d2,d3,rfl⟩:=ints_form i
  obtain ⟨d4,d5,rfl,_⟩:=id s
  refine WOL.mv rfl <| WOL.ex rfl rfl <| WOL.ex rfl rfl <| WOL.sto (vs:=[zi z,.slice d1 d2 d3,.slice d4 _ d5]) rfl rfl tp1114 (A15.hx X1) rfl rfl (Nat.le_of_ble_eq_true rfl) rfl (f.hx (X0.trans X1)) h015 fun g2 P => WOL.as rfl <| WOL.nil ?_
  have Y:HX hb g2:=P.hx _ (Xb.trans X1) hb15
  have Y0:HX h0 g2:=P.hx _ (X0.trans X1) h015
  have C15:CelA 27 (2 * p + 1 - (n1 + L1.length)) (revO n1 p 0 L1 S1) g2 c15:=⟨z,_,_,_,_,_,_,P.at_,i.keep fun b x hb a => P.oth _ _ (by have:=b1 b hb;omega) a,slC_keep s fun b x hb a => P.oth _ _ (by have:=b2 b hb;omega) a,e⟩
  exact kto (k1100d H K Y0 f (A3.hx Y) (A4.hx Y) (r1.hx Y) hL hS he l1 l2 l3 l4 (C7.hx Y) (C14 g2 fun c x hc a => P.oth _ _ hc (a.hx X1)) (C9.hx Y) C15) ⟨rfl,rfl,rfl,rfl,rfl,rfl,rfl,rfl,rfl,rfl,rfl,trivial⟩
 ·have er:revO n1 p E2 L1 S1 = (E2,[],[]):=by unfold revO;rw [if_pos e0]
  refine WL.seq <| WL.sr <| WOL.mv rfl <| WOL.bf rfl rfl rfl (beq_eq_false_iff_ne.2 e0) <| WOL.nil <| keep [(2,_),(3,_),(4,_),(7,_),(8,_),(9,_),(10,_),(11,_),(12,_),(13,_),(14,_),(15,_),(70,_)] ⟨rfl,rfl,rfl,rfl,rfl,rfl,rfl,rfl,rfl,rfl,rfl,rfl,rfl,trivial⟩ ?_
  refine WL.no rfl <| WL.skip ?_
  rw [er] at C9 l3 l4 ⊢
  exact kto (k1100d (o2:=(E2,[],[])) (m2:=2 * p + 1 - (n1 + L1.length)) H K X0 f (A3.hx Xb) (A4.hx Xb) (r1.hx Xb) hL hS he l1 l2 l3 l4 (C7.hx Xb) (C14 h fun c x _ a => a) (C9.hx Xb) ⟨0,_,_,_,_,_,_,A15,.inl ⟨rfl,rfl⟩,SlL.nil,.inl ⟨e0,rfl,rfl,rfl⟩⟩) ⟨rfl,rfl,rfl,rfl,rfl,rfl,rfl,rfl,rfl,rfl,rfl,trivial⟩
end
end Go.Tidy
namespace Go.Tidy
open Go Go.Proofs Tab
variable {tp:TProg}
section
variable {h h0:TH} {a b n1 n2 e1 e2 E1 E2 p:Int} {v1 v2 w1 w2:Value} {L1 L2:List Int} {S1 S2:List (Int × Int)} {o1:Int × List Int × List (Int × Int)} {c3 c4 c7 c9:Nat}
set_option maxHeartbeats 4000000 in
set_option maxRecDepth 10000 in
theorem k1100e (H:Has tp) (K:Awk tp) (X0:HX h0 h) (f:Free0 h0.next h0) (A3:At h c3 (.cells [zi a,zi b] true true 23)) (A4:At h c4 (.cells [zi n1,v1,v2,zi n2,w1,w2] true true 28)) (r1:TrcH h v1 v2 L1 S1) (r2:TrcH h w1 w2 L2 S2) (hL:L1.length ≤ 900000) (hS:S1.length ≤ 900000) (hL2:L2.length ≤ 900000) (hS2:S2.length ≤ 900000) (he:e1 = traceE n1 L1 S1) (he2:e2 = traceE n2 L2 S2) (hE1:E1 = firstNZ [e1,e2]) (hE:E2 = firstNZ [e1,outB p 0 100000000]) (ho:o1 = sumO (firstNZ [e1,e2,shapeE n1 n2 L1.length L2.length]) (addC L1 L2 S1 S2 L1.length)) (l1:o1.2.1.length ≤ 1000000) (l2:o1.2.2.length ≤ 1000000) (l3:(revO n1 p E2 L1 S1).2.1.length ≤ 1000000) (l4:(revO n1 p E2 L1 S1).2.2.length ≤ 1000000)
  (C7:CelA 31 n1 o1 h c7) (C9:CelA 31 (2 * p + 1 - (n1 + L1.length)) (revO n1 p E2 L1 S1) h c9) :
  ∀ r,Kn [(2,zi p),(3,ptr c3),(4,ptr c4),(7,ptr c7),(8,zi o1.1),(9,ptr c9),(10,zi (revO n1 p E2 L1 S1).1),(11,zi e1),(12,zi E1),(13,zi E2)] r → W Tryz.prog tp false (.seq (.reg r1100_7) (.seq (.seq (.reg r1100_8) (.cond (.tmp 60) (.reg r1100_9) .skip)) (.seq (.seq (.reg r1100_10) (.cond (.tmp 70) (.reg r1100_11) .skip)) (.seq (.reg r1100_12) .ret)))) r h (Fin Tryz.prog [.tmp 6] fun v _ => v = .bool true):=by
 refine WL.sr <| WOL.al tp1114 fun h1 N1 => WOL.al tp1114 fun h2 N2 => WOL.nil <| keep [(2,_),(3,_),(4,_),(7,_),(8,_),(9,_),(10,_),(11,_),(12,_),(13,_),(14,_),(15,_)] ⟨rfl,rfl,rfl,rfl,rfl,rfl,rfl,rfl,rfl,rfl,rfl,rfl,trivial⟩ ?_
 have q1:=N1.next
 have q2:=N2.next
 have x0:=X0.next
 have X2:=N1.hx.trans N2.hx
 have A14:=N1.at_.hx N2.hx
 have A15:=N2.at_
 by_cases e0:E1 = 0
 ·have a0:=firstNZ_zero (hE1.symm.trans e0)
  have z1:e1 = 0:=a0 _ (by simp)
  have z2:e2 = 0:=a0 _ (by simp)
  obtain ⟨⟨s1,s2⟩,s3,s4,s5,s6,s7⟩:=trace_ok (he.symm.trans z1)
  obtain ⟨_,u3,u4,u5,u6,u7⟩:=trace_ok (he2.symm.trans z2)
  rw [e0]
  refine WL.seq <| WL.sr <| WOL.mv rfl <| WOL.bt rfl rfl rfl rfl <| WOL.nil <| keep [(2,_),(3,_),(4,_),(7,_),(8,_),(9,_),(10,_),(11,_),(13,_),(14,_),(15,_),(60,_)] ⟨rfl,rfl,rfl,rfl,rfl,rfl,rfl,rfl,rfl,rfl,rfl,rfl,trivial⟩ ?_
  refine WL.yes rfl <| WL.reg <| WOL.ix rfl rfl ix1115_0 <| WOL.ld rfl (load_row tp1114 (A4.hx X2) (l:=[zi n1,v1,v2]) rfl (Nat.le_of_ble_eq_true rfl)) <| WOL.ix rfl rfl ix1115_1 <| WOL.ld rfl (load_row tp1114 (A4.hx X2) (l:=[zi n2,w1,w2]) rfl (Nat.le_of_ble_eq_true rfl)) <| WOL.cl2 rfl rfl rfl ((k1119 (n:=n1) (n':=n2) H (r1.hx X2) (r2.hx X2) hL (by omega) (by omega) (fun i => by have:=s3 i;have:=u3 i;omega) (f.on (X0.trans X2))).mono ?_)
  rintro v g1 ⟨X1,R⟩
  have x1:=X1.next
  have q:=sum_ans ((hE1.symm.trans e0)) R
  rw [← ho] at q
  obtain ⟨z,y1,y2,rfl,i,s,b1,b2,e⟩:=q
  obtain ⟨d1,d2,d3,rfl⟩:=ints_form i
  obtain ⟨d4,d5,rfl,_⟩:=id s
  refine WOL.mv rfl <| WOL.ex rfl rfl <| WOL.ex rfl rfl <| WOL.sto (vs:=[zi z,.slice d1 d2 d3,.slice d4 _ d5]) rfl rfl tp1114 (A14.hx X1) rfl rfl (Nat.le_of_ble_eq_true rfl) rfl (f.hx ((X0.trans X2).trans X1)) x0 fun g2 P => WOL.as rfl <| WOL.nil ?_
  have Y:HX h g2:=P.hx _ (X2.trans X1) (Nat.le_refl _)
  refine kto (k1100c H K (X0.trans Y) f Y (by omega) (by omega) A3 A4 r1 hL hS he hE l1 l2 l3 l4 C7 C9 (c14:=h.next) (c15:=h1.next) (fun g hk => ⟨z,_,_,_,_,_,_,hk _ _ (by omega) P.at_,i.keep fun b x hb a => hk _ _ (by have:=b1 b hb;omega) (P.oth _ _ (by have:=b1 b hb;omega) a),slC_keep s fun b x hb a => hk _ _ (by have:=b2 b hb;omega) (P.oth _ _ (by have:=b2 b hb;omega) a),e⟩) (P.oth _ _ (by omega) (A15.hx X1))) ⟨rfl,rfl,rfl,rfl,rfl,rfl,rfl,rfl,rfl,rfl,rfl,rfl,trivial⟩
 ·rw [sum_err (hE1 ▸ e0),← hE1] at ho
  subst ho
  refine WL.seq <| WL.sr <| WOL.mv rfl <| WOL.bf rfl rfl rfl (beq_eq_false_iff_ne.2 e0) <| WOL.nil <| keep [(2,_),(3,_),(4,_),(7,_),(8,_),(9,_),(10,_),(11,_),(12,_),(13,_),(14,_),(15,_),(60,_)] ⟨rfl,rfl,rfl,rfl,rfl,rfl,rfl,rfl,rfl,rfl,rfl,rfl,rfl,trivial⟩ ?_
  refine WL.no rfl <| WL.skip ?_
  exact kto (k1100c H K (X0.trans X2) f X2 (by omega) (by omega) A3 A4 r1 hL hS he hE l1 l2 l3 l4 C7 C9 (c14:=h.next) (c15:=h1.next) (fun g hk => ⟨0,_,_,_,_,_,_,hk _ _ (by omega) A14,.inl ⟨rfl,rfl⟩,SlL.nil,.inl ⟨e0,rfl,rfl,rfl⟩⟩) A15) ⟨rfl,rfl,rfl,rfl,rfl,rfl,rfl,rfl,rfl,rfl,rfl,rfl,trivial⟩
end
end Go.Tidy
namespace Go.Tidy
open Go Go.Proofs Tab
variable {tp:TProg}
section
variable {h h0:TH} {a b n1 n2 p:Int} {v1 v2 w1 w2:Value} {L1 L2:List Int} {S1 S2:List (Int × Int)} {c3 c4:Nat}
set_option maxHeartbeats 4000000 in
set_option maxRecDepth 10000 in
theorem k1100f (H:Has tp) (K:Awk tp) (X0:HX h0 h) (f:Free0 h0.next h0) (A3:At h c3 (.cells [zi a,zi b] true true 23)) (A4:At h c4 (.cells [zi n1,v1,v2,zi n2,w1,w2] true true 28)) (r1:TrcH h v1 v2 L1 S1) (r2:TrcH h w1 w2 L2 S2) (hL:L1.length ≤ 900000) (hS:S1.length ≤ 900000) (hL2:L2.length ≤ 900000) (hS2:S2.length ≤ 900000)
  (l1:∀ e,(sumO e (addC L1 L2 S1 S2 L1.length)).2.1.length ≤ 1000000) (l2:∀ e,(sumO e (addC L1 L2 S1 S2 L1.length)).2.2.length ≤ 1000000) (l3:∀ e,(revO n1 p e L1 S1).2.1.length ≤ 1000000) (l4:∀ e,(revO n1 p e L1 S1).2.2.length ≤ 1000000) :
  ∀ r,Kn [(2,zi p),(3,ptr c3),(4,ptr c4)] r → W Tryz.prog tp false (.seq (.reg r1100_3) (.seq (.reg r1100_4) (.seq (.reg r1100_5) (.seq (.reg r1100_6) (.seq (.reg r1100_7) (.seq (.seq (.reg r1100_8) (.cond (.tmp 60) (.reg r1100_9) .skip)) (.seq (.seq (.reg r1100_10) (.cond (.tmp 70) (.reg r1100_11) .skip)) (.seq (.reg r1100_12) .ret)))))))) r h (Fin Tryz.prog [.tmp 6] fun v _ => v = .bool true):=by
 have x0:=X0.next
 have lc4:=A4.lt
 have lc3:=A3.lt
 refine WL.sr <| WOL.ix rfl rfl ix1115_0 <| WOL.ld rfl (load_row tp1114 A4 (l:=[zi n1,v1,v2]) rfl (Nat.le_of_ble_eq_true rfl)) <| WOL.ix rfl rfl ix1115_1 <| WOL.ld rfl (load_row tp1114 A4 (l:=[zi n2,w1,w2]) rfl (Nat.le_of_ble_eq_true rfl)) <| WOL.al tp1117 fun h1 N1 => ?_
 have q1:=N1.next
 have Y1:=X0.trans N1.hx
 refine WOL.lq1 [h.next,c4] rfl rfl rfl fun M hM => ((k1115 (n:=n1) H ((r1.hx N1.hx).relock M) (by omega) (by omega) ((f.on Y1).held hM (fun b hb => by simp at hb;omega))).mono ?_)
 rintro v h2 ⟨X2,u1,u2,rfl,ru,_,_⟩
 replace X2:=X2.relock
 replace ru:=ru.relock h1.lock
 generalize h2.withLock h1.lock = h2 at *
 have Y2:=Y1.trans X2
 have q2:=X2.next
 refine WOL.lq1 [h.next] rfl rfl rfl fun M hM => ((k1115 (n:=n2) H (((r2.hx N1.hx).hx X2).relock M) (by omega) (by omega) ((f.on Y2).held hM (fun b hb => by simp at hb;omega))).mono ?_)
 rintro v h3 ⟨X3,u3,u4,rfl,rv,_,_⟩
 replace X3:=X3.relock
 replace rv:=rv.relock h2.lock
 generalize h3.withLock h2.lock = h3 at *
 have Y3:=Y2.trans X3
 have q3:=X3.next
 refine WOL.lq2 [h.next] rfl rfl rfl rfl fun M hM => ((k1114 (n:=n1) (n':=n2) H ((ru.hx X3).relock M) (rv.relock M) hL hL2 hS hS2 ((f.on Y3).held hM (fun b hb => by simp at hb;omega))).mono ?_)
 rintro v h4 ⟨X4,PR⟩
 obtain ⟨z,y1,y2,rfl,i,s,b1,b2,e⟩:=PR.ans
 obtain ⟨d1,d2,d3,rfl⟩:=ints_form i
 obtain ⟨d4,d5,rfl,_⟩:=id s
 replace X4:=X4.relock
 replace i:=i.keep (g':=h4.withLock h3.lock) fun b x _ a => a.relock _
 replace s:=slC_keep (h':=h4.withLock h3.lock) s fun b x _ a => a.relock _
 replace b1:∀ z,bl (.slice d1 d2 d3) = some z → h3.next ≤ z:=b1
 replace b2:∀ z,bl (.slice d4 _ d5) = some z → h3.next ≤ z:=b2
 clear PR
 generalize h4.withLock h3.lock = h4 at *
 have Y4:=Y3.trans X4
 have q4:=X4.next
 have Z4:=((N1.hx.trans X2).trans X3).trans X4
 have A7:=((N1.at_.hx X2).hx X3).hx X4
 refine WOL.mv rfl <| WOL.ex rfl rfl <| WOL.ex rfl rfl <| WOL.sto (vs:=[zi z,.slice d1 d2 d3,.slice d4 _ d5]) rfl rfl tp1117 A7 rfl rfl (Nat.le_of_ble_eq_true rfl) rfl (f.hx Y4) x0 fun h5 P5 => WOL.as rfl <| WOL.nil <| keep [(2,_),(3,_),(4,_),(7,_),(8,_)] ⟨rfl,rfl,rfl,rfl,rfl,trivial⟩ ?_
 have Z5:HX h h5:=P5.hx _ Z4 (Nat.le_refl _)
 have Y5:=X0.trans Z5
 have C7:CelA 31 n1 (sumO (firstNZ [traceE n1 L1 S1,traceE n2 L2 S2,shapeE n1 n2 L1.length L2.length]) (addC L1 L2 S1 S2 L1.length)) h5 h.next:=⟨z,_,_,_,_,_,_,P5.at_,i.keep fun b x hb a => P5.oth _ _ (by have:=b1 b hb;omega) a,slC_keep s fun b x hb a => P5.oth _ _ (by have:=b2 b hb;omega) a,e⟩
 refine WL.sr <| WOL.ix rfl rfl ix1115_0 <| WOL.ld rfl (load_row tp1114 (A4.hx Z5) (l:=[zi n1,v1,v2]) rfl (Nat.le_of_ble_eq_true rfl)) <| WOL.cl1 rfl rfl ((k1115 (n:=n1) H (r1.hx Z5) (by omega) (by omega) (f.on Y5)).mono ?_)
 rintro v h6 ⟨X6,u5,u6,rfl,rw_,_,_⟩
 have Y6:=Y5.trans X6
 refine WOL.mv rfl <| WOL.cl2 rfl rfl rfl ((k1116 (n:=n1) (p:=p) H rw_ hL hS (f.on Y6)).mono ?_)
 rintro v h7 ⟨X7,RR⟩
 obtain ⟨z',y3,y4,rfl,i',s',_,_,e'⟩:=RR.ans
 obtain ⟨g1,g2,g3,rfl⟩:=ints_form i'
 obtain ⟨g4,g5,rfl,_⟩:=id s'
 have Y7:=Y6.trans X7
 have y7:=Y7.next
 refine WOL.mv rfl <| WOL.ex rfl rfl <| WOL.ex rfl rfl <| WOL.al tp1117 fun h8 N8 => ?_
 have Y8:=Y7.trans N8.hx
 refine WOL.sto (vs:=[zi z',.slice g1 g2 g3,.slice g4 _ g5]) rfl rfl tp1117 N8.at_ rfl rfl (Nat.le_of_ble_eq_true rfl) rfl (f.hx Y8) y7 fun h9 P9 => WOL.as rfl <| WOL.nil <| keep [(2,_),(3,_),(4,_),(7,_),(8,_),(9,_),(10,_)] ⟨rfl,rfl,rfl,rfl,rfl,rfl,rfl,trivial⟩ ?_
 have Z79:HX h7 h9:=P9.hx _ N8.hx (Nat.le_refl _)
 have Z9:=((Z5.trans X6).trans X7).trans Z79
 have Y9:=X0.trans Z9
 have C9:CelA 31 (2 * p + 1 - (n1 + L1.length)) (revO n1 p (firstNZ [traceE n1 L1 S1,outB p 0 100000000]) L1 S1) h9 h7.next:=⟨z',_,_,_,_,_,_,P9.at_,i'.keep fun b x hb a => P9.oth _ _ (by have:=a.lt;omega) (a.hx N8.hx),slC_keep s' fun b x hb a => P9.oth _ _ (by have:=a.lt;omega) (a.hx N8.hx),e'⟩
 replace C7:=C7.hx ((X6.trans X7).trans Z79)
 refine WL.sr <| WOL.ix rfl rfl ix1115_0 <| WOL.ld rfl (load_row tp1114 (A4.hx Z9) (l:=[zi n1,v1,v2]) rfl (Nat.le_of_ble_eq_true rfl)) <| WOL.cl1 rfl rfl ((k1117 (n:=n1) H (r1.hx Z9) (by omega) (by omega) (f.on Y9)).mono ?_)
 rintro v h10 ⟨rfl,X10⟩
 have Z10:=Z9.trans X10
 refine WOL.as rfl <| WOL.nil <| keep [(2,_),(3,_),(4,_),(7,_),(8,_),(9,_),(10,_),(11,_)] ⟨rfl,rfl,rfl,rfl,rfl,rfl,rfl,rfl,trivial⟩ ?_
 refine WL.sr <| WOL.mv rfl <| WOL.ix rfl rfl ix1115_1 <| WOL.ld rfl (load_row tp1114 (A4.hx Z10) (l:=[zi n2,w1,w2]) rfl (Nat.le_of_ble_eq_true rfl)) <| WOL.cl1 rfl rfl ((k1117 (n:=n2) H (r2.hx Z10) (by omega) (by omega) (f.on (X0.trans Z10))).mono ?_)
 rintro v h11 ⟨rfl,X11⟩
 refine WOL.bsl rfl u29 tp3 (by decide) (by decide) (by decide) (filled_ints _ _) fun h12 N12 => WOL.cl1 rfl rfl ((k1118 H (l:=[_,_]) N12.at_ (by simp)).mono ?_)
 rintro v h13 ⟨rfl,rfl⟩
 refine WOL.mv rfl <| WOL.mv rfl <| WOL.cl3 rfl rfl rfl rfl ((k14 H p 0 100000000 _).mono ?_)
 rintro v h14 ⟨rfl,rfl⟩
 refine WOL.bsl rfl u29 tp3 (by decide) (by decide) (by decide) (filled_ints _ _) fun h15 N15 => WOL.cl1 rfl rfl ((k1118 H (l:=[_,_]) N15.at_ (by simp)).mono ?_)
 rintro v h16 ⟨rfl,rfl⟩
 refine WOL.as rfl <| WOL.as rfl <| WOL.nil ?_
 have Zt:=((X10.trans X11).trans N12.hx).trans N15.hx
 have Zn:=Z9.trans Zt
 exact kto (k1100e (e1:=traceE n1 L1 S1) (e2:=traceE n2 L2 S2) H K (X0.trans Zn) f (A3.hx Zn) (A4.hx Zn) (r1.hx Zn) (r2.hx Zn) hL hS hL2 hS2 rfl rfl rfl rfl rfl (l1 _) (l2 _) (l3 _) (l4 _) (C7.hx Zt) (C9.hx Zt)) ⟨rfl,rfl,rfl,rfl,rfl,rfl,rfl,rfl,rfl,rfl,trivial⟩
end
end Go.Tidy
namespace Go.Tidy
open Go Go.Proofs Tab
variable {tp:TProg}
theorem shortB2_le {m k:Nat} (h:shortB2 m k = true):m ≤ 900000 ∧ k ≤ 900000:=by
 unfold shortB2 at h
 cases h1:decide ((m:Int) ≤ 60) with
 | true =>
  rw [h1] at h
  have a1:=of_decide_eq_true h1
  have a2:((k:Int) ≤ 12):=of_decide_eq_true h
  omega
 | false =>
  rw [h1] at h
  cases h2:((m:Int) == 4097) with
  | true =>
   rw [h2] at h
   have a1:(m:Int) = 4097:=eq_of_beq h2
   have a2:((k:Int) ≤ 12):=of_decide_eq_true h
   omega
  | false => rw [h2] at h;cases h
theorem holesOf_le (B:List Bool):(holesOf B).length ≤ B.length:=by
 have:=holesN_len B B.length
 show (holesN _ _).length ≤ _
 exact this
section
variable {h:TH} {a b n1 n2 p:Int} {v1 v2 w1 w2:Value} {L1 L2:List Int} {S1 S2:List (Int × Int)}
set_option maxHeartbeats 4000000 in
set_option maxRecDepth 10000 in
theorem k1100 (H:Has tp) (K:Awk tp) (r1:TrcH h v1 v2 L1 S1) (r2:TrcH h w1 w2 L2 S2) (f:Free0 h.next h) :
    CallW Tryz.prog tp (.func (.func 3) #[] #[]) #[.agg #[zi a,zi b],.agg #[zi n1,v1,v2,zi n2,w1,w2],zi p] h fun v _ => v = .bool true:=by
  obtain ⟨b1,k1,e1,_⟩:=id r1.l
  obtain ⟨b2,k2,e2,_⟩:=id r1.s
  obtain ⟨b3,k3,e3,_⟩:=id r2.l
  obtain ⟨b4,k4,e4,_⟩:=id r2.s
  subst e1 e2 e3 e4
  refine CallW.fnL (H.fn 3 f1100 rfl rfl) ?_
  refine WL.sr <| WOL.box rfl fun h1 N1 => WOL.box rfl fun h2 N2 => WOL.as rfl <| WOL.nil <| keep [(2,_),(3,_),(4,_)] ⟨rfl,rfl,rfl,trivial⟩ ?_
  have A3:At h2 h.next (.cells [zi a,zi b] true true 23):=N1.at_.hx N2.hx
  have A4:At h2 h1.next (.cells [zi n1,.slice b1 L1.length k1,.slice b2 S1.length k2,zi n2,.slice b3 L2.length k3,.slice b4 S2.length k4] true true 28):=N2.at_
  have X2:=N1.hx.trans N2.hx
  refine WL.seq <| WL.sr <| WOL.ix rfl rfl ix1115_0 <| WOL.ld rfl (load_row tp1114 A4 (l:=[zi n1,.slice b1 L1.length k1,.slice b2 S1.length k2]) rfl (Nat.le_of_ble_eq_true rfl)) <| WOL.cl1 rfl rfl ((k1112 (n:=n1) H (r1.hx X2)).mono ?_)
  rintro v h3 ⟨rfl,X3⟩
  cases hb:shortB2 L1.length S1.length with
  | false =>
    refine WOL.nt rfl <| WOL.mv rfl <| WOL.skp (b:=true) rfl rfl <| WOL.skp (b:=true) rfl rfl <| WOL.skp (b:=true) rfl rfl <| WOL.skp (b:=true) rfl rfl <| WOL.pkt rfl rfl <| WOL.nil ?_
    refine WL.yes rfl <| WL.sr <| WOL.cl0 rfl ((k11t K _).mono ?_)
    rintro v h4 ⟨rfl,rfl⟩
    exact WOL.as rfl <| WOL.nil <| WL.ret (WL.end_ rfl rfl)
  | true =>
    refine WOL.nt rfl <| WOL.mv rfl <| WOL.now (b:=false) rfl rfl <| WOL.ix rfl rfl ix1115_1 <| WOL.now (b:=false) rfl rfl <| WOL.ld rfl (load_row tp1114 (A4.hx X3) (l:=[zi n2,.slice b3 L2.length k3,.slice b4 S2.length k4]) rfl (Nat.le_of_ble_eq_true rfl)) <| WOL.now (b:=false) rfl rfl <| WOL.cl1 rfl rfl ((k1112 (n:=n2) H (r2.hx (X2.trans X3))).mono ?_)
    rintro v h4 ⟨rfl,X4⟩
    cases hc:shortB2 L2.length S2.length with
    | false =>
      refine WOL.now (b:=false) rfl rfl <| WOL.nt rfl <| WOL.pkf rfl rfl <| WOL.nil ?_
      refine WL.yes rfl <| WL.sr <| WOL.cl0 rfl ((k11t K _).mono ?_)
      rintro v h5 ⟨rfl,rfl⟩
      exact WOL.as rfl <| WOL.nil <| WL.ret (WL.end_ rfl rfl)
    | true =>
      obtain ⟨p1,p2⟩:=shortB2_le hb
      obtain ⟨p3,p4⟩:=shortB2_le hc
      have Y:=(X2.trans X3).trans X4
      refine WOL.now (b:=false) rfl rfl <| WOL.nt rfl <| WOL.pkf rfl rfl <| WOL.nil <| keep [(2,_),(3,_),(4,_),(25,_)] ⟨rfl,rfl,rfl,rfl,trivial⟩ ?_
      refine WL.no rfl <| WL.skip ?_
      refine kto (k1100f H K Y f (A3.hx (X3.trans X4)) (A4.hx (X3.trans X4)) (r1.hx Y) (r2.hx Y) p1 p2 p3 p4 (fun e => ?_) (fun e => ?_) (fun e => ?_) (fun e => ?_)) ⟨rfl,rfl,rfl,trivial⟩
      · unfold sumO
        split
        · exact Nat.zero_le _
        · split
          · exact Nat.zero_le _
          · show (valC _).length ≤ _
            unfold valC
            rw [List.length_map,addC_len];omega
      · unfold sumO
        split
        · exact Nat.zero_le _
        · split
          · exact Nat.zero_le _
          · refine Nat.le_trans (holesOf_le _) ?_
            rw [List.length_map,addC_len];omega
      · unfold revO
        split
        · exact Nat.zero_le _
        · split
          · exact Nat.zero_le _
          · show L1.reverse.length ≤ _
            rw [List.length_reverse];omega
      · unfold revO
        split
        · exact Nat.zero_le _
        · split
          · exact Nat.zero_le _
          · refine Nat.le_trans (holesOf_le _) ?_
            rw [List.length_reverse,knownL_len];omega
end
set_option maxRecDepth 100000 in
theorem ty_trc {h:TH} {n:Nat} {ps:List Value} (y:Ty Tryz.prog h (n + 4) 27 ps):∃ z v1 v2 L S,ps = [zi z,v1,v2] ∧ TrcH h v1 v2 L S:=by
 obtain ⟨p,q,rfl,_,y1,p',q',rfl,_,y2,p2,q2,rfl,_,y3,rfl⟩:=tyg_struct Tryz.underlying27 y
 obtain ⟨z,rfl,_⟩:=ty_int y1
 obtain ⟨v1,L,rfl,r1,g1⟩:=tyg_slice eI u29 (fun p y => by obtain ⟨b,e,_⟩:=ty_int y;exact ⟨b,e⟩) y2
 obtain ⟨v2,S,rfl,r2,_⟩:=tyg_slice eS u44 (fun p y => ty_span y) y3
 exact ⟨z,v1,v2,L,S,rfl,r1,r2,g1 3⟩
end Go.Tidy
namespace Go.Tidy
open Go Go.Proofs Tab
theorem args3 {P:Program} {h:TH} {m:Nat} {t0 t1 t2:TypeId} {us:List Value} (ha:Args P h m [t0,t1,t2] us):∃ x0 x1 x2,us = [x0,x1,x2] ∧ (∃ ps,Ty P h m t0 ps ∧ x0 = valOf P t0 ps) ∧ (∃ ps,Ty P h m t1 ps ∧ x1 = valOf P t1 ps) ∧ ∃ ps,Ty P h m t2 ps ∧ x2 = valOf P t2 ps:=by
 match us,ha with
 | [x0,x1,x2],⟨a0,a1,a2,_⟩ => exact ⟨x0,x1,x2,rfl,a0,a1,a2⟩
set_option maxRecDepth 100000 in
theorem law1100:Law tpE 3 5 [23,28,3]:=by
 intro h us f ha
 obtain ⟨x0,x1,x2,rfl,⟨p0,y0,e0⟩,⟨p1,y1,e1⟩,⟨p2,y2,e2⟩⟩:=args3 ha
 have q0:=tyg_struct Tryz.underlying23 y0
 have q1:=tyg_array Tryz.underlying28 y1
 rw [val_agg (.inl ⟨_,Tryz.underlying23⟩)] at e0
 rw [val_agg (.inr ⟨_,_,Tryz.underlying28⟩)] at e1
 obtain ⟨p,rfl,_⟩:=ty_int y2
 rw [val_int] at e2
 obtain ⟨c0,d0,rfl,_,t0,c1,d1,rfl,_,t1,rfl⟩:=q0
 obtain ⟨a,rfl,_⟩:=ty_int t0
 obtain ⟨b,rfl,_⟩:=ty_int t1
 obtain ⟨c2,d2,rfl,_,t2,c3,d3,rfl,_,t3,rfl⟩:=q1
 obtain ⟨n1,v1,v2,L1,S1,rfl,r1⟩:=ty_trc t2
 obtain ⟨n2,w1,w2,L2,S2,rfl,r2⟩:=ty_trc t3
 subst e0 e1 e2
 exact k1100 hasE awkE r1 r2 f
end Go.Tidy
