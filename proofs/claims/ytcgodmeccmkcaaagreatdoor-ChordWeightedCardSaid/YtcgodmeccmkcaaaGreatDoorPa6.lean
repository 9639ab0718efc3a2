/- A part of the proof. -/
import Derived.Test.YtcgodmeccmkcaaaGreatDoorPa5
import Derived.Test.YtcgodmeccmkcaaaGreatDoorPa4
set_option linter.all false
namespace Go.Tidy
open Go Go.Proofs Tab
variable {tp:TProg}
def valC (C:List (Int × Bool)):List Int:=C.map fun c => cond c.2 c.1 0
def bigC (C:List (Int × Bool)):Bool:=C.any fun c => c.2 && largeB c.1
theorem bd1114z:buildT Tryz.prog 27 [] = some (trcV 0 (.slice none 0 0) (.slice none 0 0)):=by kernel_rfl
theorem bd1114a {z:Int}:buildT Tryz.prog 27 [(0,zi z)] = some (trcV z (.slice none 0 0) (.slice none 0 0)):=by kernel_rfl
theorem fo1207_0:fieldOff Tryz.prog 135 0 = some 0:=by kernel_rfl
theorem fo1207_1:fieldOff Tryz.prog 135 1 = some 1:=by kernel_rfl
structure MadeJ (h:TH) (n:Int) (C:List (Int × Bool)) (j:Nat) (s:Value × Value) (g:TH):Prop where
 X:HX h g
 A4:At g h.next (.cells [zi 0,.slice none 0 0,.slice none 0 0] true true 27)
 A6:At g (h.next + 1) (.cells [zi n,s.1,s.2] true true 27)
 O1:OwnL encI (h.next + 2) g s.1 3 (valC (C.take j))
 O2:OwnL encS (h.next + 2) g s.2 103 (holesN (C.map fun c => c.2) j)
 ne:∀ z,bl s.1 = some z → bl s.2 ≠ some z
 big:bigC (C.take j) = false
section
variable {h g:TH} {n:Int} {v:Value} {C:List (Int × Bool)} {j:Nat}
theorem valC_succ {c:Int × Bool} (hc:C[j]? = some c):valC (C.take (j + 1)) = valC (C.take j) ++ [cond c.2 c.1 0]:=by
 have hj:=(List.getElem?_eq_some_iff.1 hc).1
 rw [List.take_succ_eq_append_getElem hj,(List.getElem?_eq_some_iff.1 hc).2]
 unfold valC
 rw [List.map_append]
 rfl
theorem bigC_succ {c:Int × Bool} (hc:C[j]? = some c):bigC (C.take (j + 1)) = (bigC (C.take j) || (c.2 && largeB c.1)):=by
 have hj:=(List.getElem?_eq_some_iff.1 hc).1
 rw [List.take_succ_eq_append_getElem hj,(List.getElem?_eq_some_iff.1 hc).2]
 unfold bigC
 rw [List.any_append]
 simp
set_option maxHeartbeats 4000000 in
set_option maxRecDepth 10000 in
theorem k1188 (H:Has tp) (s:SlL encC 2 h v C) (hl:C.length ≤ 900000) (f:Free0 h.next h):CallW Tryz.prog tp (.func (.func 88) #[] #[]) #[zi n,v] h fun v h' => HX h h' ∧ ((bigC C = true ∧ v = .tuple #[trcV 0 (.slice none 0 0) (.slice none 0 0),zi 4]) ∨ (bigC C = false ∧ ∃ w1 w2,v = .tuple #[trcV n w1 w2,zi 0] ∧ OwnL encI h.next h' w1 3 (valC C) ∧ OwnL encS h.next h' w2 103 (holesOf (C.map fun c => c.2)))):=by
  refine CallW.fnL (H.fn 88 f1188 rfl rfl) ?_
  refine WL.sr <| WOL.al tp1114 fun h1 N1 => WOL.as rfl <| WOL.nil <| keep [(0,_),(1,_),(4,_)] ⟨rfl,rfl,rfl,trivial⟩ ?_
  have n1:=N1.next
  refine WL.sr <| WOL.mv rfl <| WOL.bd rfl bd1114a <| WOL.al tp1114 fun h2 N2 => ?_
  have n2:=N2.next
  have X2:=N1.hx.trans N2.hx
  refine WOL.sto (vs:=[zi n,.slice none 0 0,.slice none 0 0]) rfl rfl tp1114 N2.at_ rfl rfl (Nat.le_of_ble_eq_true rfl) rfl (f.hx X2) (by omega) fun h3 P3 => WOL.nil <| keep [(0,_),(1,_),(4,_),(6,_)] ⟨rfl,rfl,rfl,rfl,trivial⟩ ?_
  have n3:=P3.next
  have X3:HX h h3:=P3.hx _ X2 (by omega)
  have A4:=P3.oth _ _ (by omega) (N1.at_.hx N2.hx)
  have A6:At h3 (h.next + 1) (.cells [zi n,.slice none 0 0,.slice none 0 0] true true 27):=by rw [← n1];exact P3.at_
  rw [n1]
  refine WL.seq <| WL.sr <| WOL.as rfl <| WOL.nil <| keep [(0,_),(1,_),(4,_),(6,_),(7,_)] ⟨rfl,rfl,rfl,rfl,rfl,trivial⟩ ?_
  have lB:(C.map fun c => c.2).length = C.length:=List.length_map ..
  refine WL.forz (α:=Value × Value) C.length (MadeJ h n C) (fun j _ => [(0,zi n),(1,v),(4,ptr h.next),(6,ptr (h.next + 1)),(7,zi (j:Nat))]) (fun j _ => [(0,zi n),(1,v),(4,ptr h.next),(6,ptr (h.next + 1)),(7,zi (j:Nat))]) (.slice none 0 0,.slice none 0 0) ⟨X3,A4,A6,.inl ⟨rfl,rfl⟩,.inl ⟨rfl,rfl⟩,fun z e => (by cases e),rfl⟩ ⟨rfl,rfl,rfl,rfl,rfl,trivial⟩ ?_ ?_ (fun _ _ _ => ⟨rfl,rfl,rfl,rfl,rfl,trivial⟩) ?_ ?_
  · rintro j w g hj q
    exact WOL.mv rfl <| WOL.mv rfl <| WOL.len rfl (s.hx q.X) u1205 <| WOL.bi rfl rfl rfl <| WOL.nil fun a q => ⟨rfl,q.sub ⟨rfl,rfl,rfl,rfl,rfl,rfl,trivial⟩⟩
  · rintro j w g hj q
    exact WOL.mv rfl <| WOL.inc rfl (by omega) <| WOL.as rfl <| WOL.nil fun a k => ⟨q,k.sub ⟨rfl,rfl,rfl,rfl,rfl,trivial⟩⟩
  · rintro j ⟨w1,w2⟩ g hj ⟨X,A4,A6,O1,O2,ne,big⟩
    have hc:C[j]? = some C[j]:=List.getElem?_eq_getElem hj
    generalize C[j] = c at hc
    obtain ⟨x,kn⟩:=c
    have hB:(C.map fun c => c.2).getD j false = kn:=by rw [List.getD_eq_getElem?_getD,List.getElem?_map,hc];rfl
    have vs:=valC_succ hc
    have bs:=bigC_succ hc
    rw [big,Bool.false_or] at bs
    have lv:(valC (C.take j)).length ≤ j:=by unfold valC;rw [List.length_map,List.length_take];omega
    have lh:=holesN_len (C.map fun c => c.2) j
    have xg:=X.next
    have l4:=A4.lt
    have l6:=A6.lt
    have lw1:=fun z (hz:bl w1 = some z) => O1.lt hz
    have lw2:=fun z (hz:bl w2 = some z) => O2.lt hz
    obtain ⟨b,o,cc,fix,wr,el,g1,g2,g3,g4,g5⟩:=(s.hx X).at eC u1205 tp1207 hc .i64
    have c0:=g5 0 (by decide)
    have c1:=g5 1 (by decide)
    rw [Nat.add_zero] at c0
    replace c0:cc[o]? = some (zi x):=c0
    replace c1:cc[o + 1]? = some (.bool kn):=c1
    refine WL.seq <| WL.sr <| WOL.mv rfl <| WOL.mv rfl <| WOL.ix rfl rfl g1 <| WOL.fa rfl (fa_of fo1207_1) <| WOL.ld rfl (load_one tp4 g2 c1) <| WOL.nil <| keep [(0,_),(1,_),(4,_),(6,_),(7,_),(21,_)] ⟨rfl,rfl,rfl,rfl,rfl,rfl,trivial⟩ ?_
    cases kn with
    | true =>
      replace vs:valC (C.take (j + 1)) = valC (C.take j) ++ [x]:=vs
      replace bs:bigC (C.take (j + 1)) = largeB x:=bs
      refine WL.yes rfl <| WL.seq <| WL.sr <| WOL.mv rfl <| WOL.mv rfl <| WOL.ix rfl rfl g1 <| WOL.fa rfl (fa_of fo1207_0) <| WOL.ld rfl (load_one tp3 g2 c0) <| WOL.cl1 rfl rfl ((k1187 H x _).mono ?_)
      rintro u g' ⟨rfl,rfl⟩
      refine WOL.bi (v:=.bool (largeB x)) rfl rfl rfl <| WOL.nil <| keep [(0,_),(1,_),(4,_),(6,_),(7,_),(28,_)] ⟨rfl,rfl,rfl,rfl,rfl,rfl,trivial⟩ ?_
      cases hb:largeB x with
      | true =>
        rw [hb] at bs
        have bC:bigC C = true:=by
          unfold bigC
          rw [List.any_eq_true]
          exact ⟨(x,true),List.mem_of_getElem? hc,by show (true && largeB x) = true;rw [hb];rfl⟩
        refine WL.yes rfl <| WL.sr <| WOL.bd rfl bd1114z <| WOL.sto (vs:=[zi 0,.slice none 0 0,.slice none 0 0]) rfl rfl tp1114 A4 rfl rfl (Nat.le_of_ble_eq_true rfl) rfl (f.hx X) (Nat.le_refl _) fun i1 M1 => WOL.as rfl <| WOL.nil ?_
        exact WL.ret (WL.endC1 rfl rfl (load_row tp1114 M1.at_ rfl (Nat.le_of_ble_eq_true rfl)) ⟨M1.hx _ X (Nat.le_refl _),.inl ⟨bC,rfl⟩⟩)
      | false =>
        rw [hb] at bs
        refine WL.no rfl <| WL.skip ?_
        refine WL.sr <| WOL.fa rfl (fa_of fo1114_1) <| WOL.ld rfl (load_one tp29 A6 rfl) <| WOL.mv rfl <| WOL.mv rfl <| WOL.ix rfl rfl g1 <| WOL.fa rfl (fa_of fo1207_0) <| WOL.ld rfl (load_one tp3 g2 c0) <| WOL.bs1 rfl u29 tp3 rfl fun i1 M1 => ?_
        have m1:=M1.next
        obtain ⟨w',i2,ap,O1',x2,y2,b2,m2⟩:=own_push (sT:=24) (x:=x) eI u29 tp3 (O1.hx M1.hx) (SlC.own (sz:=1) (m:=1) rfl M1.at_) ((f.hx (X.trans M1.hx)).up (by omega)) (by omega) (by omega)
        obtain ⟨z5,e5⟩:=OwnF.form (Or.inl O1')
        have A6':=y2 _ _ (fun e => by have:=lw1 _ e;omega) (A6.hx M1.hx)
        have A4':=y2 _ _ (fun e => by have:=lw1 _ e;omega) (A4.hx M1.hx)
        refine WOL.ap rfl rfl ap <| WOL.fa rfl (fa_of fo1114_1) <| WOL.sto (vs:=[w']) rfl rfl tp29 A6' (by rw [e5];rfl) rfl (Nat.le_of_ble_eq_true rfl) (by rw [e5];rfl) (f.hx (x2 _ (X.trans M1.hx) (by omega))) (by omega) fun i3 M3 => WOL.nil ?_
        refine WL.exit fun a q => ⟨(w',w2),⟨M3.hx _ (x2 _ (X.trans M1.hx) (by omega)) (by omega),M3.oth _ _ (by omega) A4',M3.at_,?_,?_,?_,bs⟩,q.sub ⟨rfl,rfl,rfl,rfl,rfl,trivial⟩⟩
        · rw [vs]
          exact O1'.keep fun z y hz a => M3.oth _ _ (by have:=O1'.lt hz;omega) a
        · show OwnL encS (h.next + 2) i3 w2 103 (hstep (C.map fun c => c.2) (holesN (C.map fun c => c.2) j) j)
          unfold hstep
          rw [if_pos hB]
          exact (O2.hx M1.hx).keep fun z y hz a => M3.oth _ _ (by have:=lw2 z hz;omega) (y2 z y (fun e => ne z e hz) a)
        · intro z hz e
          have e1:z = i1.next:=Option.some.inj (hz.symm.trans b2)
          have:=lw2 z e
          omega
    | false =>
      replace vs:valC (C.take (j + 1)) = valC (C.take j) ++ [0]:=vs
      replace bs:bigC (C.take (j + 1)) = false:=bs
      have he:=hstep_ext (C.map fun c => c.2) j hB
      refine WL.no rfl <| WL.skip ?_
      refine WL.sr <| WOL.fa rfl (fa_of fo1114_1) <| WOL.ld rfl (load_one tp29 A6 rfl) <| WOL.bs1 (v:=zi 0) rfl u29 tp3 rfl fun i1 M1 => ?_
      have m1:=M1.next
      obtain ⟨w',i2,ap,O1',x2,y2,b2,m2⟩:=own_push (sT:=24) (x:=0) eI u29 tp3 (O1.hx M1.hx) (SlC.own (sz:=1) (m:=1) rfl M1.at_) ((f.hx (X.trans M1.hx)).up (by omega)) (by omega) (by omega)
      obtain ⟨z5,e5⟩:=OwnF.form (Or.inl O1')
      have A6':=y2 _ _ (fun e => by have:=lw1 _ e;omega) (A6.hx M1.hx)
      have A4':=y2 _ _ (fun e => by have:=lw1 _ e;omega) (A4.hx M1.hx)
      refine WOL.ap rfl rfl ap <| WOL.fa rfl (fa_of fo1114_1) <| WOL.sto (vs:=[w']) rfl rfl tp29 A6' (by rw [e5];rfl) rfl (Nat.le_of_ble_eq_true rfl) (by rw [e5];rfl) (f.hx (x2 _ (X.trans M1.hx) (by omega))) (by omega) fun i3 M3 => WOL.nil <| keep [(0,_),(1,_),(4,_),(6,_),(7,_)] ⟨rfl,rfl,rfl,rfl,rfl,trivial⟩ ?_
      have m3:=M3.next
      have X3:HX h i3:=M3.hx _ (x2 _ (X.trans M1.hx) (by omega)) (by omega)
      have B4:=M3.oth _ _ (by omega) A4'
      have B6:At i3 (h.next + 1) (.cells [zi n,w',w2] true true 27):=M3.at_
      have lw':=fun z (hz:bl w' = some z) => O1'.lt hz
      have nw:∀ z,bl w' = some z → z = i1.next:=fun z hz => Option.some.inj (hz.symm.trans b2)
      replace O1':=O1'.keep (h':=i3) fun z y hz a => M3.oth _ _ (by have:=lw' z hz;omega) a
      rw [← vs] at O1'
      replace O2:OwnL encS (h.next + 2) i3 w2 103 (holesN (C.map fun c => c.2) j):=(O2.hx M1.hx).keep fun z y hz a => M3.oth _ _ (by have:=lw2 z hz;omega) (y2 z y (fun e => ne z e hz) a)
      have eh:holesN (C.map fun c => c.2) (j + 1) = extS (holesN (C.map fun c => c.2) j) j:=he
      generalize holesN (C.map fun c => c.2) j = acc at *
      have pushH:extS acc j = acc ++ [((j:Int),(j:Int) + 1)] → ∀ a,Kn [(0,zi n),(1,v),(4,ptr h.next),(6,ptr (h.next + 1)),(7,zi (j:Nat))] a → WO Tryz.prog tp r1188_12 a i3 (fun a g' => ∃ x,MadeJ h n C (j + 1) x g' ∧ Kn [(0,zi n),(1,v),(4,ptr h.next),(6,ptr (h.next + 1)),(7,zi (j:Nat))] a):=by
        intro ee
        refine WOL.fa rfl (fa_of fo1114_2) <| WOL.ld rfl (load_one tp44 B6 rfl) <| WOL.mv rfl <| WOL.mv rfl <| WOL.inc rfl (by omega) <| WOL.bd rfl bd48 <| WOL.bs2 rfl u44 tp48 fun i4 M4 => ?_
        have m4:=M4.next
        obtain ⟨w2',i5,ap5,O5,x5,y5,b5,m5⟩:=own_push (sT:=25) (x:=((j:Int),((j + 1:Nat):Int))) eS u44 tp48 (O2.hx M4.hx) (SlC.own (sz:=2) (m:=1) rfl M4.at_) ((f.hx (X3.trans M4.hx)).up (by omega)) (by omega) (by omega)
        obtain ⟨z6,e6⟩:=OwnF.form (Or.inl O5)
        have C6:=y5 _ _ (fun e => by have:=lw2 _ e;omega) (B6.hx M4.hx)
        have C4:=y5 _ _ (fun e => by have:=lw2 _ e;omega) (B4.hx M4.hx)
        have l5:=fun z (hz:bl w2' = some z) => O5.lt hz
        refine WOL.ap rfl rfl ap5 <| WOL.fa rfl (fa_of fo1114_2) <| WOL.sto (vs:=[w2']) rfl rfl tp44 C6 (by rw [e6];rfl) rfl (Nat.le_of_ble_eq_true rfl) (by rw [e6];rfl) (f.hx (x5 _ (X3.trans M4.hx) (by omega))) (by omega) fun i6 M6 => WOL.nil fun a q => ⟨(w',w2'),⟨M6.hx _ (x5 _ (X3.trans M4.hx) (by omega)) (by omega),M6.oth _ _ (by omega) C4,M6.at_,?_,?_,?_,bs⟩,q.sub ⟨rfl,rfl,rfl,rfl,rfl,trivial⟩⟩
        · exact (O1'.hx M4.hx).keep fun z y hz a => M6.oth _ _ (by have:=lw' z hz;omega) (y5 z y (fun e => by have:=nw z hz;have:=lw2 z e;omega) a)
        · rw [eh,ee]
          exact O5.keep fun z y hz a => M6.oth _ _ (by have:=l5 z hz;omega) a
        · intro z hz e
          have e1:=nw z hz
          have e2:z = i4.next:=Option.some.inj (e.symm.trans b5)
          omega
      refine WL.sr <| WOL.fa rfl (fa_of fo1114_2) <| WOL.ld rfl (load_one tp44 B6 rfl) <| WOL.len rfl (O2.sl eS) u44 <| WOL.as rfl <| WOL.nil <| keep [(0,_),(1,_),(4,_),(6,_),(7,_),(8,_)] ⟨rfl,rfl,rfl,rfl,rfl,rfl,trivial⟩ ?_
      by_cases hne:acc = []
      · subst hne
        refine WL.sr <| WOL.mv rfl <| WOL.bf rfl rfl rfl rfl <| WOL.mv rfl ?_
        repeat' (first
    | (refine WOL.mv rfl ?_)
    | refine WOL.now (b:=true) rfl rfl ?_ | refine WOL.now (b:=false) rfl rfl ?_
    | refine WOL.skp (b:=true) rfl rfl ?_ | refine WOL.skp (b:=false) rfl rfl ?_ | refine WOL.gu rfl rfl ?_
    | refine WOL.mv rfl ?_ | refine WOL.as rfl ?_
    | refine WOL.bi rfl rfl rfl ?_ | refine WOL.nt rfl ?_
    | refine WOL.pkt rfl rfl ?_ | refine WOL.pkf rfl rfl ?_)
        refine WOL.nil <| keep [(0,_),(1,_),(4,_),(6,_),(7,_),(60,_)] ⟨rfl,rfl,rfl,rfl,rfl,rfl,trivial⟩ ?_
        exact WL.no rfl <| WL.reg <| kto (pushH (by unfold extS;rw [if_neg (fun q => q.1 rfl)])) ⟨rfl,rfl,rfl,rfl,rfl,trivial⟩
      · have hm:0 < acc.length:=List.length_pos_iff.2 hne
        have hp:acc[acc.length - 1]? = some (acc.getD (acc.length - 1) (0,0)):=by rw [List.getD_eq_getElem?_getD,List.getElem?_eq_getElem (by omega)];rfl
        obtain ⟨bO,o3,cc3,fix3,wr3,el3,k1,k2,k3,k4,k5⟩:=(O2.sl eS).at eS u44 tp48 hp .i64
        have k6:=k5 1 (by decide)
        refine WL.sr <| WOL.mv rfl <| WOL.bt rfl rfl rfl (by first | exact decide_eq_true (by omega) | exact beq_iff_eq.2 (by omega) | exact bne_iff_ne.2 (by omega)) <| WOL.mv rfl <| WOL.now (b:=true) rfl rfl <| WOL.fa rfl (fa_of fo1114_2) <| WOL.now (b:=true) rfl rfl <| WOL.ld rfl (load_one tp44 B6 rfl) <| WOL.now (b:=true) rfl rfl <| WOL.mv rfl <| WOL.now (b:=true) rfl rfl <| WOL.sub (m:=((acc.length:Nat):Int)) (n:=1) rfl rfl (by omega) (by omega) ?_
        rw [show ((acc.length:Nat):Int) - 1 = ((acc.length - 1:Nat):Int) by omega]
        refine WOL.now (b:=true) rfl rfl <| WOL.ix rfl rfl k1 <| WOL.now (b:=true) rfl rfl <| WOL.fa rfl (fa_of fo48_1) <| WOL.now (b:=true) rfl rfl <| WOL.ld rfl (load_one tp3 k2 k6) <| WOL.now (b:=true) rfl rfl <| WOL.mv rfl <| WOL.now (b:=true) rfl rfl ?_
        by_cases hq:(acc.getD (acc.length - 1) (0,0)).2 = (j:Int)
        · have ee:extS acc j = acc.set (acc.length - 1) ((acc.getD (acc.length - 1) (0,0)).1,((j + 1:Nat):Int)):=by unfold extS;rw [if_pos ⟨hne,hq⟩];rfl
          refine WOL.bt rfl rfl rfl (beq_iff_eq.2 hq) <| WOL.pkt rfl rfl <| WOL.nil <| keep [(0,_),(1,_),(4,_),(6,_),(7,_),(8,_),(60,_)] ⟨rfl,rfl,rfl,rfl,rfl,rfl,rfl,trivial⟩ ?_
          rcases O2 with ⟨_,e0⟩ | ⟨_,bA,rfl,hbA,AO⟩
          · exact absurd e0 hne
          have la:=AO.lt
          refine WL.yes rfl <| WL.reg <| WOL.fa rfl (fa_of fo1114_2) <| WOL.ld rfl (load_one tp44 B6 rfl) <| WOL.mv rfl <| WOL.sub (m:=((acc.length:Nat):Int)) (n:=1) rfl rfl (by omega) (by omega) ?_
          rw [show ((acc.length:Nat):Int) - 1 = ((acc.length - 1:Nat):Int) by omega]
          refine WOL.mv rfl <| WOL.inc rfl (by omega) <| WOL.ix rfl rfl (indexAddr_tp u44 tp48 (by omega)) <| WOL.fa rfl (fa_of fo48_1) ?_
          refine WOL.sto (vs:=[zi ((j + 1:Nat):Int)]) rfl rfl tp3 AO rfl rfl (by rw [eS.cat_len];omega) rfl (f.hx X3) (by omega) fun i4 M4 => ?_
          have D:=M4.at_
          rw [show (0:Nat) + (acc.length - 1) * 2 + 1 = (acc.length - 1) * 2 + 1 by omega,splice_one _ _ _ (by rw [eS.cat_len];omega),set_one _ _ _ _ hp] at D
          have n4:bA ≠ h.next ∧ bA ≠ h.next + 1:=⟨by omega,by omega⟩
          have lset:(acc.set (acc.length - 1) ((acc.getD (acc.length - 1) (0,0)).1,((j + 1:Nat):Int))).length = acc.length:=List.length_set
          refine WOL.nil fun a q => ⟨(w',.slice (some ⟨bA,0,none⟩) acc.length acc.length),⟨M4.hx _ X3 (by omega),M4.oth _ _ (by omega) B4,M4.oth _ _ (by omega) B6,?_,?_,?_,bs⟩,q.sub ⟨rfl,rfl,rfl,rfl,rfl,trivial⟩⟩
          · exact O1'.keep fun z y hz a => M4.oth _ _ (by have:=nw z hz;have:=lw2 bA rfl;omega) a
          · rw [eh,ee]
            refine .inr ⟨fun e => by rw [e] at lset;simp at lset;omega,bA,by rw [lset],hbA,D⟩
          · intro z hz e
            have e1:=nw z hz
            have e2:bA = z:=Option.some.inj e
            have:=lw2 bA rfl
            omega
        · refine WOL.bf rfl rfl rfl (beq_eq_false_iff_ne.2 hq) <| WOL.pkt rfl rfl <| WOL.nil <| keep [(0,_),(1,_),(4,_),(6,_),(7,_),(60,_)] ⟨rfl,rfl,rfl,rfl,rfl,rfl,trivial⟩ ?_
          exact WL.no rfl <| WL.reg <| kto (pushH (by unfold extS;rw [if_neg (fun q => hq q.2)])) ⟨rfl,rfl,rfl,rfl,rfl,trivial⟩
  · rintro ⟨w1,w2⟩ g ⟨X,A4,A6,O1,O2,ne,big⟩
    rw [List.take_length] at big
    have O1:OwnL encI (h.next + 2) g w1 3 (valC (C.take C.length)):=O1
    rw [List.take_length] at O1
    have O2:OwnL encS (h.next + 2) g w2 103 (holesN (C.map fun c => c.2) C.length):=O2
    obtain ⟨z1,e1⟩:=OwnF.form (Or.inl O1)
    obtain ⟨z2,e2⟩:=OwnF.form (Or.inl O2)
    refine WL.sr <| WOL.ld rfl (load_row tp1114 A6 rfl (Nat.le_of_ble_eq_true rfl)) <| WOL.sto (vs:=[zi n,w1,w2]) rfl rfl tp1114 A4 rfl rfl (Nat.le_of_ble_eq_true rfl) (by rw [e1,e2];rfl) (f.hx X) (Nat.le_refl _) fun i1 M1 => WOL.as rfl <| WOL.nil ?_
    refine WL.ret (WL.endC1 rfl rfl (load_row tp1114 M1.at_ rfl (Nat.le_of_ble_eq_true rfl)) ⟨M1.hx _ X (Nat.le_refl _),.inr ⟨big,w1,w2,rfl,?_,?_⟩⟩)
    · rcases O1.keep (h':=i1) (fun z y hz a => M1.oth _ _ (by have:=O1.lt hz;omega) a) with q | ⟨q1,b,q2,q3,q4⟩
      · exact .inl q
      · exact .inr ⟨q1,b,q2,by omega,q4⟩
    · show OwnL encS h.next i1 w2 103 (holesN _ _)
      rw [lB]
      rcases O2.keep (h':=i1) (fun z y hz a => M1.oth _ _ (by have:=O2.lt hz;omega) a) with q | ⟨q1,b,q2,q3,q4⟩
      · exact .inl q
      · exact .inr ⟨q1,b,q2,by omega,q4⟩
end
end Go.Tidy
namespace Go.Tidy
open Go Go.Proofs Tab
variable {tp:TProg}
def MadeR (n:Int) (C:List (Int × Bool)) (n0:Nat) (h':TH) (v:Value):Prop :=
 (bigC C = true ∧ v = .tuple #[trcV 0 (.slice none 0 0) (.slice none 0 0),zi 4]) ∨ (bigC C = false ∧ ∃ w1 w2,v = .tuple #[trcV n w1 w2,zi 0] ∧ OwnL encI n0 h' w1 3 (valC C) ∧ OwnL encS n0 h' w2 103 (holesOf (C.map fun c => c.2)))
theorem OwnL.low {α:Type} {enc:α → List Value} {n0 n1:Nat} {h:TH} {v:Value} {e:TypeId} {l:List α} (o:OwnL enc n1 h v e l) (h0:n0 ≤ n1):OwnL enc n0 h v e l:=by
 rcases o with q | ⟨q1,b,q2,q3,q4⟩
 ·exact .inl q
 ·exact .inr ⟨q1,b,q2,by omega,q4⟩
section
variable {h:TH} {n n':Int} {v1 v2 w1 w2:Value} {L1 L2:List Int} {S1 S2:List (Int × Int)}
end
end Go.Tidy
namespace Go.Tidy
open Go Go.Proofs Tab
variable {tp:TProg}
theorem tbl_get {α:Type} {f:Nat → α} {m i:Nat}:((List.range m).map f)[i]? = if i < m then some (f i) else none:=by
 rw [List.getElem?_map]
 by_cases h:i < m
 ·rw [List.getElem?_range h,if_pos h];rfl
 ·rw [List.getElem?_eq_none (by rw [List.length_range];omega),if_neg h];rfl
def upTo {α:Type} (z:α) (C:List α) (m j:Nat):List α:=(List.range m).map fun i => cond (decide (i < j)) (C.getD i z) z
section
variable {α:Type} {z:α} {C:List α} {m j:Nat}
theorem upTo_len:(upTo z C m j).length = m:=by unfold upTo;rw [List.length_map,List.length_range]
theorem upTo_zero:upTo z C m 0 = List.replicate m z:=by
 refine List.eq_replicate_iff.2 ⟨upTo_len,fun b hb => ?_⟩
 unfold upTo at hb
 obtain ⟨i,_,rfl⟩:=List.mem_map.1 hb
 rfl
theorem upTo_set:upTo z C m (j + 1) = (upTo z C m j).set j (C.getD j z):=by
 refine List.ext_getElem? fun i => ?_
 unfold upTo
 rw [tbl_get]
 by_cases e:i = j
 ·subst e
  by_cases h:i < m
  ·rw [if_pos h,List.getElem?_set_self (by rw [List.length_map,List.length_range];exact h),decide_eq_true (Nat.lt_succ_self i)];rfl
  ·rw [if_neg h,List.getElem?_eq_none (by rw [List.length_set,List.length_map,List.length_range];omega)]
 ·rw [List.getElem?_set_ne (by omega),tbl_get,show decide (i < j + 1) = decide (i < j) from decide_eq_decide.2 (by omega)]
theorem upTo_same (h:C.getD j z = z):upTo z C m (j + 1) = upTo z C m j:=by
 unfold upTo
 refine List.map_congr_left fun i _ => ?_
 by_cases e:i = j
 ·subst e
  rw [h]
  cases decide (i < i + 1) <;> cases decide (i < i) <;> rfl
 ·rw [show decide (i < j + 1) = decide (i < j) from decide_eq_decide.2 (by omega)]
theorem upTo_all (h:C.length = m):upTo z C m m = C:=by
 refine List.ext_getElem? fun i => ?_
 unfold upTo
 rw [tbl_get]
 by_cases hi:i < m
 ·rw [if_pos hi,decide_eq_true hi,List.getD_eq_getElem?_getD,List.getElem?_eq_getElem (by omega)];rfl
 ·rw [if_neg hi,List.getElem?_eq_none (by omega)]
end
theorem bigC_val (C:List (Int × Bool)):bigC C = (valC C).any largeB:=by
 unfold bigC valC
 rw [List.any_map]
 congr 1
 funext c
 obtain ⟨x,k⟩:=c
 cases k with
 | true => rfl
 | false => show false = largeB 0;rfl
def ProgR (n:Int) (e:Int) (C:List (Int × Bool)) (n0:Nat) (h':TH) (v:Value):Prop :=
 (e ≠ 0 ∧ v = .tuple #[trcV 0 (.slice none 0 0) (.slice none 0 0),zi e]) ∨ (e = 0 ∧ bigC C = true ∧ v = .tuple #[trcV 0 (.slice none 0 0) (.slice none 0 0),zi 4]) ∨ (e = 0 ∧ bigC C = false ∧ ∃ bv w,v = .tuple #[trcV n (slA bv C.length) w,zi 0] ∧ n0 ≤ bv ∧ TrcO n0 h' bv w (valC C) (holesOf (C.map fun c => c.2)))
section
variable {h:TH} {n n':Int} {v1 v2 w1 w2:Value} {L1 L2:List Int} {S1 S2:List (Int × Int)}
end
end Go.Tidy
namespace Go.Tidy
open Go Go.Proofs Tab
variable {tp:TProg}
theorem trace_ok {n:Int} {L:List Int} {S:List (Int × Int)} (h:traceE n L S = 0):(0 ≤ n ∧ n ≤ 100000000) ∧ (∀ i,-1073741824 ≤ L.getD i 0 ∧ L.getD i 0 ≤ 1073741824) ∧ holeE L.length (-1) S = 0 ∧ S.any (anyIn L) = false ∧ L.length ≤ 4096 ∧ n + (L.length:Int) ≤ 100000000:=by
  have all:=firstNZ_zero h
  have a1:=all _ (List.mem_cons_self ..)
  have a2:=all (cond (decide ((L.length:Int) > 4096)) 5 0) (by simp)
  have a3:=all (cond (decide (n + (L.length:Int) > 100000000)) 4 0) (by simp)
  have a4:=all (firstNZ (L.map readE)) (by simp)
  have a5:=all (cond (holeE L.length (-1) S != 0) (holeE L.length (-1) S) (formE L S)) (by simp)
  have a6:=firstNZ_zero a4
  have hh:holeE L.length (-1) S = 0:=by
    cases hb:(holeE L.length (-1) S != 0) with
    | true => rw [hb] at a5;exact a5
    | false => exact bne_eq_false_iff_eq.1 hb
  refine ⟨out_in a1,fun i => ?_,hh,?_,?_,?_⟩
  · rw [List.getD_eq_getElem?_getD]
    cases hL:L[i]? with
    | none => exact ⟨by decide,by decide⟩
    | some x =>
      have:=a6 _ (List.mem_map.2 ⟨x,List.mem_of_getElem? hL,rfl⟩)
      unfold readE outB at this
      show -1073741824 ≤ x ∧ x ≤ 1073741824
      cases h1:decide (x < -1073741824) with
      | true => rw [h1] at this;cases this
      | false =>
        cases h2:decide (x > 1073741824) with
        | true => rw [h1,h2] at this;cases this
        | false =>
          have:=of_decide_eq_false h1
          have:=of_decide_eq_false h2
          omega
  · rw [hh] at a5
    replace a5:formE L S = 0:=a5
    unfold formE at a5
    cases hf:S.any (anyIn L) with
    | true => rw [hf] at a5;cases a5
    | false => rfl
  · cases hb:decide ((L.length:Int) > 4096) with
    | true => rw [hb] at a2;cases a2
    | false => have:=of_decide_eq_false hb;omega
  · cases hb:decide (n + (L.length:Int) > 100000000) with
    | true => rw [hb] at a3;cases a3
    | false => have:=of_decide_eq_false hb;omega
section
variable {h:TH} {n n':Int} {v1 v2 w1 w2:Value} {L1 L2:List Int} {S1 S2:List (Int × Int)}
end
end Go.Tidy
namespace Go.Tidy
open Go Go.Proofs Tab
variable {tp:TProg}
def RevR (n p e:Int) (L:List Int) (S:List (Int × Int)) (n0:Nat) (h':TH) (v:Value):Prop :=
 (e ≠ 0 ∧ v = .tuple #[trcV 0 (.slice none 0 0) (.slice none 0 0),zi e]) ∨ (e = 0 ∧ (2 * p + 1 - (n + L.length) < 0 ∨ 2 * p + 1 - (n + L.length) + L.length > 100000000) ∧ v = .tuple #[trcV 0 (.slice none 0 0) (.slice none 0 0),zi 14]) ∨ (e = 0 ∧ 0 ≤ 2 * p + 1 - (n + L.length) ∧ 2 * p + 1 - (n + L.length) + L.length ≤ 100000000 ∧ ∃ bv w,v = .tuple #[trcV (2 * p + 1 - (n + L.length)) (slA bv L.length) w,zi 0] ∧ n0 ≤ bv ∧ TrcO n0 h' bv w L.reverse (holesOf (knownL S L.length).reverse))
section
variable {h:TH} {n p:Int} {v1 v2:Value} {L:List Int} {S:List (Int × Int)}
end
end Go.Tidy
namespace Go.Tidy
open Go Go.Proofs Tab
variable {tp:TProg}
def RefR (n p:Int) (L:List Int) (S:List (Int × Int)) (n0:Nat) (h':TH) (v:Value):Prop :=
 ((2 * p + 1 - (n + L.length) < 0 ∨ 2 * p + 1 - (n + L.length) + L.length > 100000000) ∧ v = .tuple #[trcV 0 (.slice none 0 0) (.slice none 0 0),zi 14]) ∨ (0 ≤ 2 * p + 1 - (n + L.length) ∧ 2 * p + 1 - (n + L.length) + L.length ≤ 100000000 ∧ MadeR (2 * p + 1 - (n + L.length)) (zipK L S L.length).reverse n0 h' v)
section
variable {h:TH} {n p:Int} {v1 v2:Value} {L:List Int} {S:List (Int × Int)}
end
end Go.Tidy
namespace Go.Tidy
open Go Go.Proofs Tab
variable {tp:TProg}
section
variable {h:TH} {n n' e:Int} {v1 v2 w1 w2:Value} {L:List Int} {S:List (Int × Int)}
theorem k1150 (H:Has tp) {b1 b2:Option Addr} {m1 c1 m2 c2:Nat} (f:Free0 h.next h):CallW Tryz.prog tp (.func (.func 53) #[] #[]) #[trcV n (.slice b1 m1 c1) (.slice b2 m2 c2)] h fun v h' => v = trcV n (.slice b1 m1 c1) (.slice b2 m2 c2) ∧ HX h h':=by
 refine CallW.fnL (H.fn 53 f1150 rfl rfl) ?_
 refine WL.sr <| WOL.box rfl fun h1 N1 => WOL.al tp1114 fun h2 N2 => WOL.nil <| keep [(1,_),(2,_)] ⟨rfl,rfl,trivial⟩ ?_
 have n1:=N1.next
 have n2:=N2.next
 have A1:At h2 h.next (.cells [zi n,.slice b1 m1 c1,.slice b2 m2 c2] true true 31):=N1.at_.hx N2.hx
 have X2:=N1.hx.trans N2.hx
 refine WL.sr <| WOL.ld rfl (load_row tp1117 A1 rfl (Nat.le_of_ble_eq_true rfl)) <| WOL.sto (vs:=[zi n,.slice b1 m1 c1,.slice b2 m2 c2]) rfl rfl tp1114 N2.at_ rfl rfl (Nat.le_of_ble_eq_true rfl) rfl (f.hx X2) (by omega) fun h3 P3 => WOL.nil ?_
 exact WL.ret (WL.endC rfl (load_row tp1114 P3.at_ rfl (Nat.le_of_ble_eq_true rfl)) ⟨rfl,P3.hx _ X2 (by omega)⟩)
theorem ints_form {v:Value} (i:IsInts h v L):∃ b m c,v = .slice b m c:=by
 rcases i with ⟨rfl,_⟩ | ⟨b,c,_,_,_,rfl,_⟩
 ·exact ⟨_,_,_,rfl⟩
 ·exact ⟨_,_,_,rfl⟩
theorem k1124 (H:Has tp) (i1:IsInts h v1 L) (s1:SlL encS 2 h v2 S) {b3 b4:Option Addr} {m3 c3 m4 c4:Nat} (e1:w1 = .slice b3 m3 c3) (e2:w2 = .slice b4 m4 c4) (hL:L.length ≤ 1000000) (hS:S.length ≤ 1000000) (f:Free0 h.next h)
  (c:(e ≠ 0 ∧ n = 0 ∧ L = [] ∧ S = []) ∨ (e = 0 ∧ n = n' ∧ IsInts h w1 L ∧ SlL encS 2 h w2 S)):CallW Tryz.prog tp (.func (.func 24) #[] #[]) #[trcV n v1 v2,zi e,zi e,trcV n' w1 w2] h fun v h' => v = .bool true ∧ HX h h':=by
 obtain ⟨b1,m1,c1,rfl⟩:=ints_form i1
 obtain ⟨b2,k2,q2,_⟩:=id s1
 subst q2 e1 e2
 refine CallW.fnL (H.fn 24 f1124 rfl rfl) ?_
 refine WL.sr <| WOL.box rfl fun h1 N1 => WOL.box rfl fun h2 N2 => WOL.as rfl <| WOL.nil <| keep [(1,_),(2,_),(4,_),(7,_)] ⟨rfl,rfl,rfl,rfl,trivial⟩ ?_
 have n1:=N1.next
 have n2:=N2.next
 have A4:At h2 h.next (.cells [zi n,.slice b1 m1 c1,.slice b2 S.length k2] true true 31):=N1.at_.hx N2.hx
 have A7:At h2 h1.next (.cells [zi n',.slice b3 m3 c3,.slice b4 m4 c4] true true 27):=N2.at_
 have X2:=N1.hx.trans N2.hx
 have fin:∀ {g:TH} {y1 y2:Value},HX h g → At g h.next (.cells [zi n,.slice b1 m1 c1,.slice b2 S.length k2] true true 31) → At g h1.next (.cells [zi n,y1,y2] true true 27) → IsInts g y1 L → SlL encS 2 g y2 S → ∀ a,Kn [(1,zi e),(2,zi e),(4,ptr h.next),(7,ptr h1.next)] a → W Tryz.prog tp false (.seq (.reg r1124_3) .ret) a g (Fin Tryz.prog [.tmp 8] fun v h' => v = .bool true ∧ HX h h'):=by
  intro g y1 y2 X B4 B7 i s
  refine WL.sr <| WOL.ld rfl (load_row tp1117 B4 rfl (Nat.le_of_ble_eq_true rfl)) <| WOL.ld rfl (load_row tp1114 B7 rfl (Nat.le_of_ble_eq_true rfl)) ?_
  refine WOL.lq1 [h1.next] rfl rfl rfl fun M hM => ((k1150 (h:=g.withLock M) H ((f.on X).held hM (fun b hb => by have:=X.next;have:=B7.lt;simp at hb;omega))).mono ?_)
  rintro v h4 ⟨rfl,X4⟩
  replace X4:=X4.relock
  generalize h4.withLock g.lock = h4 at *
  refine WOL.cl2 rfl rfl rfl ((k1152 H (i1.hx (X.trans X4)) (i.hx X4) (s1.hx (X.trans X4)) (s.hx X4) hL hS).mono ?_)
  rintro v h5 ⟨rfl,X5⟩
  refine WOL.mv rfl <| WOL.now (b:=true) rfl rfl <| WOL.mv rfl <| WOL.now (b:=true) rfl rfl <| WOL.mv rfl <| WOL.now (b:=true) rfl rfl <| WOL.bt rfl rfl rfl (by first | exact decide_eq_true (by omega) | exact beq_iff_eq.2 (by omega) | exact bne_iff_ne.2 (by omega)) <| WOL.pkt rfl rfl <| WOL.as rfl <| WOL.nil ?_
  exact WL.ret (WL.end_ rfl ⟨rfl,(X.trans X4).trans X5⟩)
 rcases c with ⟨c1',rfl,rfl,rfl⟩ | ⟨rfl,rfl,i,s⟩
 ·refine WL.seq <| WL.sr <| WOL.mv rfl <| WOL.bt rfl rfl rfl (bne_iff_ne.2 c1') <| WOL.nil <| keep [(1,_),(2,_),(4,_),(7,_),(10,_)] ⟨rfl,rfl,rfl,rfl,rfl,trivial⟩ ?_
  refine WL.yes rfl <| WL.reg <| WOL.bd rfl bd1114z <| WOL.sto (vs:=[zi 0,.slice none 0 0,.slice none 0 0]) rfl rfl tp1114 A7 rfl rfl (Nat.le_of_ble_eq_true rfl) rfl (f.hx X2) (by omega) fun i1 M1 => WOL.nil ?_
  have P:=M1.hx _ X2 (by omega)
  exact kto (fin P (M1.oth _ _ (by omega) A4) M1.at_ (.inl ⟨rfl,rfl⟩) SlL.nil) ⟨rfl,rfl,rfl,rfl,trivial⟩
 ·refine WL.seq <| WL.sr <| WOL.mv rfl <| WOL.bf rfl rfl rfl rfl <| WOL.nil <| keep [(1,_),(2,_),(4,_),(7,_),(10,_)] ⟨rfl,rfl,rfl,rfl,rfl,trivial⟩ ?_
  refine WL.no rfl <| WL.skip ?_
  exact kto (fin X2 A4 A7 (i.hx X2) (s.hx X2)) ⟨rfl,rfl,rfl,rfl,trivial⟩
end
end Go.Tidy
namespace Go.Tidy
open Go Go.Proofs Tab
theorem dark_zero {L:List Int} {S:List (Int × Int)} {i:Nat} (h:S.any (anyIn L) = false) (hi:knownB S (i:Int) = false):L.getD i 0 = 0:=by
 unfold knownB at hi
 rw [Bool.not_eq_false'] at hi
 obtain ⟨p,hp,hx⟩:=List.any_eq_true.1 hi
 have ha:=List.any_eq_false.1 h p hp
 unfold inS at hx
 simp only [Bool.and_eq_true,decide_eq_true_eq] at hx
 rw [List.getD_eq_getElem?_getD]
 cases hL:L[i]? with
 | none => rfl
 | some x =>
  show x = 0
  have hm:x ∈ (L.drop p.1.toNat).take (p.2.toNat - p.1.toNat):=by
   refine List.mem_of_getElem? (i:=i - p.1.toNat) ?_
   rw [List.getElem?_take_of_lt (by omega),List.getElem?_drop,show p.1.toNat + (i - p.1.toNat) = i by omega]
   exact hL
  by_cases h0:x = 0
  ·exact h0
  ·exact absurd (show anyIn L p = true by unfold anyIn;exact List.any_eq_true.2 ⟨x,hm,bne_iff_ne.2 h0⟩) ha
theorem zip_val {L:List Int} {S:List (Int × Int)} (h:S.any (anyIn L) = false):valC (zipK L S L.length) = L:=by
 unfold valC zipK
 rw [List.map_map]
 refine List.ext_getElem? fun i => ?_
 rw [List.getElem?_map]
 by_cases hi:i < L.length
 ·rw [List.getElem?_range hi,List.getElem?_eq_getElem hi]
  show some (cond (knownB S (i:Int)) (L.getD i 0) 0) = some L[i]
  have e:L.getD i 0 = L[i]:=by rw [List.getD_eq_getElem?_getD,List.getElem?_eq_getElem hi];rfl
  cases hk:knownB S (i:Int) with
  | true => rw [← e];rfl
  | false => rw [← e,dark_zero h hk];rfl
 ·rw [List.getElem?_eq_none (by rw [List.length_range];omega),List.getElem?_eq_none (by omega)];rfl
theorem zip_known {L:List Int} {S:List (Int × Int)} {m:Nat}:((zipK L S m).map fun c => c.2) = knownL S m:=by
 unfold zipK knownL
 rw [List.map_map];rfl
theorem rev_val {L:List Int} {S:List (Int × Int)} (h:S.any (anyIn L) = false):valC (zipK L S L.length).reverse = L.reverse:=by
 unfold valC
 rw [List.map_reverse]
 exact congrArg List.reverse (zip_val h)
theorem rev_known {L:List Int} {S:List (Int × Int)} {m:Nat}:((zipK L S m).reverse.map fun c => c.2) = (knownL S m).reverse:=by
 rw [List.map_reverse,zip_known]
theorem rev_big {L:List Int} {S:List (Int × Int)} {m:Nat} (lim:∀ i,-1073741824 ≤ L.getD i 0 ∧ L.getD i 0 ≤ 1073741824):bigC (zipK L S m).reverse = false:=by
 unfold bigC
 refine List.any_eq_false.2 fun c hc => ?_
 obtain ⟨i,_,rfl⟩:=List.mem_map.1 (List.mem_reverse.1 hc)
 have e:largeB (L.getD i 0) = false:=by
  obtain ⟨l1,l2⟩:=lim i
  unfold largeB readE outB
  rw [decide_eq_false (by omega),decide_eq_false (by omega)];rfl
 simp only [e,Bool.and_false]
 decide
def Ans (n:Int) (o:Int × List Int × List (Int × Int)) (n0:Nat) (g:TH) (v:Value):Prop:=∃ z y1 y2,v = .tuple #[trcV z y1 y2,zi o.1] ∧ IsInts g y1 o.2.1 ∧ SlL encS 2 g y2 o.2.2 ∧ (∀ z,bl y1 = some z → n0 ≤ z) ∧ (∀ z,bl y2 = some z → n0 ≤ z) ∧ ((o.1 ≠ 0 ∧ z = 0 ∧ o.2.1 = [] ∧ o.2.2 = []) ∨ (o.1 = 0 ∧ z = n))
def sumO (e:Int) (C:List (Int × Bool)):Int × List Int × List (Int × Int):=if e ≠ 0 then (e,[],[]) else if bigC C = true then (4,[],[]) else (0,valC C,holesOf (C.map fun c => c.2))
def revO (n p e:Int) (L:List Int) (S:List (Int × Int)):Int × List Int × List (Int × Int):=if e ≠ 0 then (e,[],[]) else if 2 * p + 1 - (n + L.length) < 0 ∨ 2 * p + 1 - (n + L.length) + L.length > 100000000 then (14,[],[]) else (0,L.reverse,holesOf (knownL S L.length).reverse)
theorem Ans.err {n e:Int} {n0:Nat} {g:TH} {v:Value} (he:e ≠ 0) (hv:v = .tuple #[trcV 0 (.slice none 0 0) (.slice none 0 0),zi e]):Ans n (e,[],[]) n0 g v:=⟨0,_,_,hv,.inl ⟨rfl,rfl⟩,SlL.nil,fun z hz => (by cases hz),fun z hz => (by cases hz),.inl ⟨he,rfl,rfl,rfl⟩⟩
theorem TrcO.ints {n0 bv m:Nat} {g:TH} {w:Value} {L:List Int} {S:List (Int × Int)} (r:TrcO n0 g bv w L S) (hm:m = L.length):IsInts g (slA bv m) L:=by
 subst hm
 have:=r.v
 rw [cat_I] at this
 exact .inr ⟨bv,L.length,_,_,_,rfl,this.lt,this.get⟩
theorem ProgR.ans {n e:Int} {C:List (Int × Bool)} {n0:Nat} {g:TH} {v:Value} (r:ProgR n e C n0 g v):Ans n (sumO e C) n0 g v:=by
 unfold sumO
 rcases r with ⟨h1,h2⟩ | ⟨rfl,h1,h2⟩ | ⟨rfl,h1,bv,w,h2,hb,h3⟩
 ·rw [if_pos h1];exact Ans.err h1 h2
 ·rw [if_neg (by decide),if_pos h1];exact Ans.err (by decide) h2
 ·rw [if_neg (by decide),if_neg (by rw [h1];decide)]
  exact ⟨n,_,_,h2,h3.ints (by unfold valC;rw [List.length_map]),h3.s.sl eS,fun z hz => (by have:bv = z:=Option.some.inj hz;omega),fun z hz => (h3.s.lt hz).1,.inr ⟨rfl,rfl⟩⟩
theorem MadeR.ans {n:Int} {C:List (Int × Bool)} {n0:Nat} {g:TH} {v:Value} (r:MadeR n C n0 g v):Ans n (sumO 0 C) n0 g v:=by
 unfold sumO
 rw [if_neg (by decide)]
 rcases r with ⟨h1,h2⟩ | ⟨h1,w1,w2,h2,h3,h4⟩
 ·rw [if_pos h1];exact Ans.err (by decide) h2
 ·rw [if_neg (by rw [h1];decide)]
  exact ⟨n,_,_,h2,ownI_ints h3,h4.sl eS,fun z hz => (h3.lt hz).1,fun z hz => (h4.lt hz).1,.inr ⟨rfl,rfl⟩⟩
theorem RevR.ans {n p e:Int} {L:List Int} {S:List (Int × Int)} {n0:Nat} {g:TH} {v:Value} (r:RevR n p e L S n0 g v):Ans (2 * p + 1 - (n + L.length)) (revO n p e L S) n0 g v:=by
 unfold revO
 rcases r with ⟨h1,h2⟩ | ⟨rfl,h1,h2⟩ | ⟨rfl,h0,h1,bv,w,h2,hb,h3⟩
 ·rw [if_pos h1];exact Ans.err h1 h2
 ·rw [if_neg (by decide),if_pos h1];exact Ans.err (by decide) h2
 ·rw [if_neg (by decide),if_neg (by omega)]
  exact ⟨_,_,_,h2,h3.ints (by rw [List.length_reverse]),h3.s.sl eS,fun z hz => (by have:bv = z:=Option.some.inj hz;omega),fun z hz => (h3.s.lt hz).1,.inr ⟨rfl,rfl⟩⟩
theorem RefR.ans {n p:Int} {L:List Int} {S:List (Int × Int)} {n0:Nat} {g:TH} {v:Value} (hd:S.any (anyIn L) = false) (lim:∀ i,-1073741824 ≤ L.getD i 0 ∧ L.getD i 0 ≤ 1073741824) (r:RefR n p L S n0 g v):Ans (2 * p + 1 - (n + L.length)) (revO n p 0 L S) n0 g v:=by
 unfold revO
 rw [if_neg (by decide)]
 rcases r with ⟨h1,h2⟩ | ⟨h0,h1,h2⟩
 ·rw [if_pos h1];exact Ans.err (by decide) h2
 ·rw [if_neg (by omega)]
  have:=h2.ans
  unfold sumO at this
  rw [if_neg (by decide),if_neg (by rw [rev_big lim];decide),rev_val hd,rev_known] at this
  exact this
end Go.Tidy
namespace Go.Tidy
open Go Go.Proofs Tab
def tapN (L:List Int) (i:Nat):List (Nat × Int) → Int → Int
 | [],s => s
 | t :: T,s => tapN L i T (s + t.2 * L.getD (i + t.1) 0)
def tapK (S:List (Int × Int)) (i:Nat) (T:List (Nat × Int)):Bool:=T.all fun t => knownB S ((i + t.1:Nat):Int)
def tapC (L:List Int) (S:List (Int × Int)) (T:List (Nat × Int)) (m:Nat):List (Int × Bool):=(List.range m).map fun i => (tapN L i T 0,tapK S i T)
theorem tapC_len {L:List Int} {S:List (Int × Int)} {T:List (Nat × Int)} {m:Nat}:(tapC L S T m).length = m:=by unfold tapC;rw [List.length_map,List.length_range]
theorem tapC_succ {L:List Int} {S:List (Int × Int)} {T:List (Nat × Int)} {m:Nat}:tapC L S T (m + 1) = tapC L S T m ++ [(tapN L m T 0,tapK S m T)]:=by
 unfold tapC
 rw [List.range_succ,List.map_append]
 rfl
theorem tapC_get {L:List Int} {S:List (Int × Int)} {T:List (Nat × Int)} {m i:Nat} (h:i < m):(tapC L S T m)[i]? = some (tapN L i T 0,tapK S i T):=by
 unfold tapC
 rw [tbl_get,if_pos h]
theorem tapN_app {L:List Int} {i:Nat}:∀ {T U:List (Nat × Int)} {s:Int},tapN L i (T ++ U) s = tapN L i U (tapN L i T s)
 | [],_,_ => rfl
 | t :: T,U,s => by
  show tapN L i (T ++ U) _ = tapN L i U (tapN L i T _)
  exact tapN_app
theorem tapN_lim {L:List Int} {i:Nat} (hL:∀ j,-1073741824 ≤ L.getD j 0 ∧ L.getD j 0 ≤ 1073741824):∀ {T:List (Nat × Int)} {s B:Int},(∀ t,t ∈ T → -10000 ≤ t.2 ∧ t.2 ≤ 10000) → -B ≤ s → s ≤ B → -(B + T.length * 10737418240000) ≤ tapN L i T s ∧ tapN L i T s ≤ B + T.length * 10737418240000
  | [],s,B,_,h1,h2 => by
    show -(B + ((0:Nat):Int) * _) ≤ s ∧ s ≤ B + ((0:Nat):Int) * _
    omega
  | t :: T,s,B,hT,h1,h2 => by
    obtain ⟨a1,a2⟩:=hT t (List.mem_cons_self ..)
    obtain ⟨b1,b2⟩:=hL (i + t.1)
    have hp:(t.2 * L.getD (i + t.1) 0).natAbs ≤ 10737418240000:=by
      rw [Int.natAbs_mul]
      exact Nat.le_trans (Nat.mul_le_mul (show t.2.natAbs ≤ 10000 by omega) (show (L.getD (i + t.1) 0).natAbs ≤ 1073741824 by omega)) (by decide)
    have ih:=tapN_lim (i:=i) hL (T:=T) (s:=s + t.2 * L.getD (i + t.1) 0) (B:=B + 10737418240000) (fun u hu => hT u (List.mem_cons_of_mem _ hu)) (by omega) (by omega)
    show _ ≤ tapN L i T _ ∧ tapN L i T _ ≤ _
    rw [List.length_cons]
    omega
end Go.Tidy
namespace Go.Tidy
open Go Go.Proofs Tab
variable {tp:TProg}
theorem tp1242:Tp Tryz.prog 192 2 [.int .i64 0,.int .i64 0] true:=tp_of (by kernel_rfl) (by kernel_rfl) rfl
theorem u1214:Tryz.prog.underlying 142 = some (.slice 192):=by kernel_rfl
theorem fo1242_0:fieldOff Tryz.prog 192 0 = some 0:=by kernel_rfl
theorem fo1242_1:fieldOff Tryz.prog 192 1 = some 1:=by kernel_rfl
theorem tp1214:Tp Tryz.prog 142 1 [.slice none 0 0] false:=tp_of (by kernel_rfl) (by kernel_rfl) rfl
theorem bd1242 {a b:Int}:buildT Tryz.prog 192 [(0,zi a),(1,zi b)] = some (.agg #[zi a,zi b]):=by kernel_rfl
def tapB (B:List Bool) (i:Nat) (T:List (Nat × Int)):Bool:=T.all fun t => B.getD (i + t.1) false
theorem tapB_known {S:List (Int × Int)} {m i:Nat} {T:List (Nat × Int)} (h:∀ t,t ∈ T → i + t.1 < m):tapB (knownL S m) i T = tapK S i T:=by
 unfold tapB tapK
 rw [Bool.eq_iff_iff,List.all_eq_true,List.all_eq_true]
 have e:∀ t,t ∈ T → (knownL S m).getD (i + t.1) false = knownB S ((i + t.1:Nat):Int):=fun t ht => by
  rw [List.getD_eq_getElem?_getD,knownL_get (h t ht)];rfl
 exact ⟨fun q t ht => (e t ht) ▸ q t ht,fun q t ht => (e t ht).symm ▸ q t ht⟩
def tapD (c:Int) (T:List (Nat × Int)):List (Int × Int):=T.map fun t => ((t.1:Int) + c,t.2)
theorem mul_lim {w x:Int} (a1:-10000 ≤ w) (a2:w ≤ 10000) (b1:-1073741824 ≤ x) (b2:x ≤ 1073741824):-10737418240000 ≤ w * x ∧ w * x ≤ 10737418240000:=by
 have hp:(w * x).natAbs ≤ 10737418240000:=by
  rw [Int.natAbs_mul]
  exact Nat.le_trans (Nat.mul_le_mul (show w.natAbs ≤ 10000 by omega) (show x.natAbs ≤ 1073741824 by omega)) (by decide)
 omega
section
variable {h:TH} {n:Int} {L:List Int} {B:List Bool} {bv bk:Nat}
set_option maxRecDepth 10000 in
theorem k1199 (H:Has tp) {a b:Int} (a1:-1000000 ≤ a) (a2:a ≤ 1000000) (b1:-1000000 ≤ b) (b2:b ≤ 1000000) (h:TH):CallW Tryz.prog tp (.func (.func 99) #[] #[]) #[.agg #[zi a,zi b]] h fun v h' => v = zi (a + b) ∧ HX h h':=by
 refine CallW.fnL (H.fn 99 f1199 rfl rfl) ?_
 refine WL.sr <| WOL.box rfl fun h1 N1 => WOL.as rfl <| WOL.nil <| keep [(1,_)] ⟨rfl,trivial⟩ ?_
 have A1:At h1 h.next (.cells [zi a,zi b] true true 44):=N1.at_
 refine WL.sr ?_
 repeat' (first
  | refine WOL.now (b:=true) rfl rfl ?_
  | refine WOL.now (b:=false) rfl rfl ?_
  | refine WOL.skp (b:=true) rfl rfl ?_
  | refine WOL.skp (b:=false) rfl rfl ?_
  | refine WOL.gu rfl rfl ?_
  | refine WOL.mv rfl ?_
  | refine WOL.as rfl ?_
  | refine WOL.ex rfl rfl ?_
  | refine WOL.nt rfl ?_
  | refine WOL.pkt rfl rfl ?_
  | refine WOL.pkf rfl rfl ?_
  | refine WOL.fa rfl (fa_of (by first | exact fo1117_0 | exact fo1117_1 | exact fo1117_2 | exact fo1114_0 | exact fo1114_1 | exact fo1114_2 | exact fo1194_0 | exact fo1194_1 | exact fo1112_0 | exact fo1112_1 | exact fo1128_0 | exact fo1128_1 | exact fo48_0 | exact fo48_1 | exact fo1207_0 | exact fo1207_1)) ?_
  | refine WOL.ld rfl (load_one (by first | exact tp3 | exact tp29 | exact tp4 | exact tp145 | exact tp44 | exact tp48 | exact tp1117 | exact tp1114 | exact tp1194 | exact tp1112 | exact tp1128 | exact tp1207) A1 rfl) ?_
  | refine WOL.ld rfl (load_row (by first | exact tp3 | exact tp29 | exact tp4 | exact tp145 | exact tp44 | exact tp48 | exact tp1117 | exact tp1114 | exact tp1194 | exact tp1112 | exact tp1128 | exact tp1207) A1 rfl (Nat.le_of_ble_eq_true rfl)) ?_
  | refine WOL.add rfl rfl (by omega) (by omega) ?_
  | refine WOL.sub rfl rfl (by omega) (by omega) ?_
  | refine WOL.bt rfl rfl rfl (by first | exact decide_eq_true (by omega) | exact beq_iff_eq.2 (by omega) | exact bne_iff_ne.2 (by omega)) ?_
  | refine WOL.bf rfl rfl rfl (by first | exact decide_eq_false (by omega) | exact beq_eq_false_iff_ne.2 (by omega) | exact bne_eq_false_iff_eq.2 (by omega)) ?_)
 exact WOL.nil <| WL.ret (WL.end_ rfl ⟨rfl,N1.hx⟩)
set_option maxHeartbeats 2000000 in
set_option maxRecDepth 10000 in
theorem k1226 (H:Has tp) (r:RowA h bv bk L B) {T:List (Nat × Int)} {c p:Int} {i:Nat} {v:Value} (s:SlL encS 2 h v (tapD c T)) (hp:p + c = n + (i:Nat)) (hT:∀ t,t ∈ T → i + t.1 < L.length) (hw:∀ t,t ∈ T → -10000 ≤ t.2 ∧ t.2 ≤ 10000) (lT:T.length ≤ 1000) (lim:∀ j,-1073741824 ≤ L.getD j 0 ∧ L.getD j 0 ≤ 1073741824) (h0:0 ≤ n) (h1:n ≤ 1000000000) (hl:L.length ≤ 1000000) (c1:-1000000 ≤ c) (c2:c ≤ 1000000) (f:Free0 h.next h) :
    CallW Tryz.prog tp (.func (.func 137) #[] #[]) #[rowV n (slA bv L.length) (slA bk L.length),zi p,v] h fun v h' => v = .tuple #[zi (cond (tapB B i T) (tapN L i T 0) 0),.bool (tapB B i T)] ∧ HX h h':=by
  refine CallW.fnL (H.fn 137 f1226 rfl rfl) ?_
  refine WL.sr <| WOL.box rfl fun h1 N1 => WOL.as rfl <| WOL.as rfl <| WOL.nil <| keep [(1,_),(2,_),(3,_)] ⟨rfl,rfl,rfl,trivial⟩ ?_
  have n1:=N1.next
  have A1:At h1 h.next (.cells [zi n,slA bv L.length,.slice none 0 0,slA bk L.length] true true 113):=N1.at_
  have lD:(tapD c T).length = T.length:=by unfold tapD;rw [List.length_map]
  refine WL.sr <| WOL.as rfl <| WOL.nil ?_
  refine WL.seq <| WL.sr <| WOL.mv rfl <| WOL.len rfl (s.hx N1.hx) u1214 <| WOL.mv rfl <| WOL.nil <| keep [(1,_),(3,_),(8,_),(13,_),(14,_),(15,_)] ⟨rfl,rfl,rfl,rfl,rfl,rfl,trivial⟩ ?_
  rw [lD]
  refine WL.upto (α:=Int) T.length (fun j z g => HX h1 g ∧ tapB B i (T.take j) = true ∧ z = tapN L i (T.take j) 0) (fun j z => [(1,zi p),(3,ptr h.next),(8,zi z),(13,v),(14,zi (T.length:Nat))]) 0 rfl rfl (by omega) ⟨HX.refl _,rfl,rfl⟩ ⟨rfl,rfl,rfl,rfl,rfl,rfl,trivial⟩ (fun _ _ => rfl) (fun _ _ _ => ⟨rfl,rfl,rfl,rfl,rfl,rfl,trivial⟩) (fun _ _ _ => ⟨rfl,rfl,rfl,rfl,rfl,rfl,trivial⟩) ?_ ?_
  · rintro j z g hj ⟨X,hB,hz⟩
    have hm:T[j] ∈ T:=List.getElem_mem hj
    have ht:T[j]? = some T[j]:=List.getElem?_eq_getElem hj
    have hz':tapN L i (T.take j) 0 + T[j].2 * L.getD (i + T[j].1) 0 = tapN L i (T.take (j + 1)) 0:=by
      rw [← List.take_append_getElem hj,tapN_app];rfl
    have hB':tapB B i (T.take (j + 1)) = B.getD (i + T[j].1) false:=by
      rw [← List.take_append_getElem hj]
      unfold tapB at hB ⊢
      rw [List.all_append,hB]
      simp
    have hT':=hT _ hm
    obtain ⟨w1,w2⟩:=hw _ hm
    generalize T[j] = t at *
    obtain ⟨o,w⟩:=t
    replace hT':i + o < L.length:=hT'
    replace w1:-10000 ≤ w:=w1
    replace w2:w ≤ 10000:=w2
    replace hz':tapN L i (T.take j) 0 + w * L.getD (i + o) 0 = tapN L i (T.take (j + 1)) 0:=hz'
    replace hB':tapB B i (T.take (j + 1)) = B.getD (i + o) false:=hB'
    have hd:(tapD c T)[j]? = some ((o:Int) + c,w):=by unfold tapD;rw [List.getElem?_map,ht];rfl
    have A1':=A1.hx X
    have xg:=X.next
    obtain ⟨b,off,cc,fix,wr,el,g1,g2,g3,g4,g5⟩:=(s.hx (N1.hx.trans X)).at eS u1214 tp1242 hd .i64
    refine WL.sr <| WOL.ix rfl rfl g1 <| WOL.ld rfl (load_row tp1242 g2 g4 g3) <| WOL.al tp1242 fun i1 M1 => ?_
    refine WOL.sto (vs:=encS ((o:Int) + c,w)) rfl rfl tp1242 M1.at_ rfl rfl (Nat.le_of_ble_eq_true rfl) rfl (f.hx (N1.hx.trans (X.trans M1.hx))) (by omega) fun i2 M2 => WOL.nil <| keep [(1,_),(3,_),(8,_),(10,_),(13,_),(14,_),(15,_)] ⟨rfl,rfl,rfl,rfl,rfl,rfl,rfl,trivial⟩ ?_
    have A2:At i2 g.next (.cells [zi ((o:Int) + c),zi w] true true 192):=M2.at_
    have XI:HX g i2:=M2.hx _ M1.hx (Nat.le_refl _)
    replace A1':=A1'.hx XI
    have Y:=X.trans XI
    obtain ⟨b1,b2⟩:=lim (i + o)
    refine WL.sr <| WOL.ld rfl (load_row tp1194 A1' rfl (Nat.le_of_ble_eq_true rfl)) <| WOL.mv rfl <| WOL.fa rfl (fa_of fo1242_0) <| WOL.ld rfl (load_one tp3 A2 rfl) <| WOL.add rfl rfl (by omega) (by omega) ?_
    rw [show p + ((o:Int) + c) = n + ((i + o:Nat):Int) by omega]
    refine WOL.cl2 rfl rfl rfl ((k1180 H (r.hx (N1.hx.trans Y)) hT' h0 ‹n ≤ 1000000000› hl).mono ?_)
    rintro u i3 ⟨rfl,X3⟩
    replace A2:=A2.hx X3
    refine WOL.mv rfl <| WOL.ex rfl rfl <| WOL.ex rfl rfl <| WOL.as rfl <| WOL.as rfl <| WOL.nil <| keep [(1,_),(3,_),(8,_),(10,_),(11,_),(12,_),(13,_),(14,_),(15,_)] ⟨rfl,rfl,rfl,rfl,rfl,rfl,rfl,rfl,rfl,trivial⟩ ?_
    cases hb:B.getD (i + o) false with
    | false =>
      have hF:tapB B i T = false:=by
        unfold tapB
        rw [List.all_eq_false]
        exact ⟨(o,w),hm,by show ¬ B.getD (i + o) false = true;rw [hb];decide⟩
      refine WL.seq <| WL.sr <| WOL.mv rfl <| WOL.nt rfl <| WOL.nil <| WL.yes rfl <| WL.sr <| WOL.as rfl <| WOL.as rfl <| WOL.nil ?_
      exact WL.ret (WL.end_ rfl ⟨by rw [hF];rfl,N1.hx.trans (Y.trans X3)⟩)
    | true =>
      rw [hb] at hB'
      refine WL.seq <| WL.sr <| WOL.mv rfl <| WOL.nt rfl <| WOL.nil <| WL.no rfl <| WL.skip ?_
      obtain ⟨m1,m2⟩:=mul_lim w1 w2 b1 b2
      have ll:=tapN_lim (i:=i) lim (T:=T.take j) (s:=0) (B:=0) (fun t ht => hw t (List.mem_of_mem_take ht)) (by omega) (by omega)
      have lj:(T.take j).length ≤ 1000:=by rw [List.length_take];omega
      rw [← hz] at ll hz'
      refine WL.reg <| WOL.mv rfl <| WOL.fa rfl (fa_of fo1242_1) <| WOL.ld rfl (load_one tp3 A2 rfl) <| WOL.mv rfl <| WOL.mul rfl rfl (by omega) (by omega) <| WOL.add rfl rfl (by omega) (by omega) <| WOL.as rfl <| WOL.nil fun a q => ?_
      exact ⟨_,⟨Y.trans X3,hB',hz'⟩,q.sub ⟨rfl,rfl,rfl,rfl,rfl,rfl,trivial⟩⟩
  · rintro z g ⟨X,hB,hz⟩
    rw [List.take_length] at hB hz
    refine WL.sr <| WOL.mv rfl <| WOL.as rfl <| WOL.as rfl <| WOL.nil ?_
    exact WL.ret (WL.end_ rfl ⟨by rw [hB,hz];rfl,N1.hx.trans X⟩)
end
end Go.Tidy
namespace Go.Tidy
open Go Go.Proofs Tab
variable {tp:TProg}
theorem tapV_get {L:List Int} {S:List (Int × Int)} {T:List (Nat × Int)} {m j:Nat} (h:j < m):(valC (tapC L S T m)).getD j 0 = cond (tapK S j T) (tapN L j T 0) 0:=by
 unfold valC
 rw [List.getD_eq_getElem?_getD,List.getElem?_map,tapC_get h];rfl
theorem tapM_get {L:List Int} {S:List (Int × Int)} {T:List (Nat × Int)} {m j:Nat} (h:j < m):((tapC L S T m).map fun c => c.2).getD j false = tapK S j T:=by
 rw [List.getD_eq_getElem?_getD,List.getElem?_map,tapC_get h];rfl
structure Taps (T:List (Nat × Int)) (W:Nat):Prop where
 a:∃ y,T[0]? = some (0,y)
 z:∃ y,T[T.length - 1]? = some (W,y)
 o:∀ t,t ∈ T → t.1 ≤ W
 w:∀ t,t ∈ T → -10000 ≤ t.2 ∧ t.2 ≤ 10000
 l:T.length ≤ 1000
section
variable {h:TH} {n:Int} {v1 v2:Value} {L:List Int} {S:List (Int × Int)} {T:List (Nat × Int)} {W:Nat} {c:Int} {w:Value}
set_option maxHeartbeats 4000000 in
set_option maxRecDepth 10000 in
theorem k1193 (H:Has tp) (r:TrcH h v1 v2 L S) (s:SlL encS 2 h w (tapD c T)) (ts:Taps T W) (lim:∀ j,-1073741824 ≤ L.getD j 0 ∧ L.getD j 0 ≤ 1073741824) (n0:0 ≤ n) (n1:n ≤ 100000000) (nc:0 ≤ n - c) (c1:-1000000 ≤ c) (c2:c ≤ 1000000) (l1:L.length ≤ 900000) (t1:S.length ≤ 1000000) (i1:In L.length S) (hW:W ≤ 1000000) (f:Free0 h.next h) :
  CallW Tryz.prog tp (.func (.func 93) #[] #[]) #[trcV n v1 v2,w] h fun v h' => HX h h' ∧ ProgR (n - c) (cond (decide (L.length ≤ W)) 16 0) (tapC L S T (L.length - W)) h.next h' v:=by
 refine CallW.fnL (H.fn 93 f1193 rfl rfl) ?_
 obtain ⟨b1,k1,e1,_⟩:=id r.l
 obtain ⟨b2,k2,e2,_⟩:=id r.s
 obtain ⟨b3,k3,e3,_⟩:=id s
 subst e1 e2 e3
 have lD:(tapD c T).length = T.length:=by unfold tapD;rw [List.length_map]
 refine WL.sr <| WOL.box rfl fun h1 N1 => WOL.box rfl fun h2 N2 => WOL.al tp1117 fun h3 N3 => WOL.as rfl <| WOL.nil <| keep [(2,_),(3,_),(4,_)] ⟨rfl,rfl,rfl,trivial⟩ ?_
 have q1:=N1.next
 have q2:=N2.next
 have q3:=N3.next
 have A2:At h3 h.next (.cells [zi n,.slice b1 L.length k1,.slice b2 S.length k2] true true 31):=(N1.at_.hx N2.hx).hx N3.hx
 have A3:At h3 h1.next (.cells [.slice b3 (tapD c T).length k3] true true 142):=N2.at_.hx N3.hx
 have A4:=N3.at_
 have X3:=(N1.hx.trans N2.hx).trans N3.hx
 have s3:=s.hx X3
 have r3:=r.hx X3
 obtain ⟨ya,ta⟩:=ts.a
 obtain ⟨yz,tz⟩:=ts.z
 have lT:0 < T.length:=(List.getElem?_eq_some_iff.1 ta).1
 have d0:(tapD c T)[0]? = some (c,ya):=by
  unfold tapD
  rw [List.getElem?_map,ta]
  show some (((0:Nat):Int) + c,ya) = _
  rw [show ((0:Nat):Int) + c = c by omega]
 have dz:(tapD c T)[T.length - 1]? = some ((W:Int) + c,yz):=by unfold tapD;rw [List.getElem?_map,tz];rfl
 obtain ⟨_,_,ca,fix,wr,el,g1,g2,g3,g4,g5⟩:=s3.at eS u1214 tp1242 d0 .i64
 obtain ⟨_,_,cz,fix',wr',el',y1,y2,y3,y4,y5⟩:=s3.at eS u1214 tp1242 dz .i64
 have ga:=g5 0 (by decide)
 have gz:=y5 0 (by decide)
 rw [Nat.add_zero] at ga gz
 replace ga:ca[_]? = some (zi c):=ga
 replace gz:cz[_]? = some (zi ((W:Int) + c)):=gz
 refine WL.sr <| WOL.ld rfl (load_one tp1214 A3 rfl) <| WOL.ix rfl rfl g1 <| WOL.fa rfl (fa_of fo1242_0) <| WOL.ld rfl (load_one tp3 g2 ga) <| WOL.ld rfl (load_one tp1214 A3 rfl) <| WOL.ld rfl (load_one tp1214 A3 rfl) <| WOL.len rfl s3 u1214 <| WOL.sub (m:=(((tapD c T).length:Nat):Int)) (n:=1) rfl rfl (by rw [lD];omega) (by rw [lD];have:=ts.l;omega) ?_
 rw [show (((tapD c T).length:Nat):Int) - 1 = ((T.length - 1:Nat):Int) by rw [lD];omega]
 refine WOL.ix rfl rfl y1 <| WOL.fa rfl (fa_of fo1242_0) <| WOL.ld rfl (load_one tp3 y2 gz) <| WOL.as rfl <| WOL.as rfl <| WOL.nil <| keep [(2,_),(3,_),(4,_),(6,_),(7,_)] ⟨rfl,rfl,rfl,rfl,rfl,trivial⟩ ?_
 clear g1 g2 g3 g4 g5 y1 y2 y3 y4 y5 ga gz
 refine WL.sr <| WOL.fa rfl (fa_of fo1117_1) <| WOL.ld rfl (load_one tp29 A2 rfl) <| WOL.len rfl r3.l u29 <| WOL.mv rfl <| WOL.mv rfl <| WOL.sub (m:=(W:Int) + c) (n:=c) rfl rfl (by omega) (by omega) <| WOL.sub (m:=((L.length:Nat):Int)) (n:=(W:Int) + c - c) rfl rfl (by omega) (by omega) <| WOL.as rfl <| WOL.nil <| keep [(2,_),(3,_),(4,_),(6,_),(8,_)] ⟨rfl,rfl,rfl,rfl,rfl,trivial⟩ ?_
 rw [show ((L.length:Nat):Int) - ((W:Int) + c - c) = (L.length:Int) - W by omega]
 have F0:∀ {g:TH},HX h g → Free0 g.next g:=fun X => f.on X
 by_cases hc:L.length ≤ W
 ·rw [decide_eq_true hc]
  refine WL.seq <| WL.sr <| WOL.mv rfl <| WOL.bt rfl rfl rfl (by first | exact decide_eq_true (by omega) | exact beq_iff_eq.2 (by omega) | exact bne_iff_ne.2 (by omega)) <| WOL.nil <| WL.yes rfl <| WL.sr <| WOL.bd rfl bd1117z <| WOL.sto (vs:=[zi 0,.slice none 0 0,.slice none 0 0]) rfl rfl tp1117 A4 rfl rfl (Nat.le_of_ble_eq_true rfl) rfl (f.hx X3) (by omega) fun i1 M1 => WOL.as rfl <| WOL.nil ?_
  exact WL.ret (WL.endC1 rfl rfl (load_row tp1117 M1.at_ rfl (Nat.le_of_ble_eq_true rfl)) ⟨M1.hx _ X3 (by omega),.inl ⟨by decide,rfl⟩⟩)
 rw [decide_eq_false hc]
 refine WL.seq <| WL.sr <| WOL.mv rfl <| WOL.bf rfl rfl rfl (by first | exact decide_eq_false (by omega) | exact beq_eq_false_iff_ne.2 (by omega) | exact bne_eq_false_iff_eq.2 (by omega)) <| WOL.nil <| WL.no rfl <| WL.skip ?_
 rw [show (L.length:Int) - W = ((L.length - W:Nat):Int) by omega]
 have hmW:L.length - W + W = L.length:=by omega
 generalize L.length - W = m at *
 refine keep [(2,_),(3,_),(4,_),(6,_),(8,_)] ⟨rfl,rfl,rfl,rfl,rfl,trivial⟩ ?_
 refine WL.sr <| WOL.ld rfl (load_row tp1117 A2 rfl (Nat.le_of_ble_eq_true rfl)) <| WOL.fa rfl (fa_of fo1117_0) <| WOL.ld rfl (load_one tp3 A2 rfl) <| WOL.mv rfl <| WOL.sub (m:=n) (n:=c) rfl rfl (by omega) (by omega) <| WOL.mv rfl <| WOL.al tp1194 fun h4 N4 => WOL.al tp1194 fun h5 N5 => ?_
 have q4:=N4.next
 have q5:=N5.next
 have X5:=(X3.trans N4.hx).trans N5.hx
 refine WOL.lq1 [h4.next,h3.next,h.next] rfl rfl rfl fun M hM => ((k1177 H ((r.hx X5).relock M) (by omega) t1 i1 ((F0 X5).held hM (fun b hb => by simp at hb;omega))).mono ?_)
 rintro v h6 ⟨X6,p1,p2,rfl,a1,a2,R1⟩
 replace X6:=X6.relock
 replace R1:RowA (h6.withLock h5.lock) p1 p2 L (knownL S L.length):=⟨R1.v.relock _,R1.k.relock _,R1.e,R1.n⟩
 replace a1:h5.next ≤ p1:=a1
 replace a2:h5.next ≤ p2:=a2
 generalize h6.withLock h5.lock = h6 at *
 have Y6:=X5.trans X6
 have q6:=X6.next
 have l11:=R1.v.lt
 have l12:=R1.k.lt
 refine WOL.lq2 [h4.next,h3.next] rfl rfl rfl rfl fun M hM => ((k1178 (h:=h6.withLock M) (n:=n - c) (m:=m) H (by omega) ((F0 Y6).held hM (fun b hb => by simp at hb;omega))).mono ?_)
 rintro v h7 ⟨X7,bv,bk,rfl,a3,a4,R2⟩
 replace X7:=X7.relock
 replace R2:RowA (h7.withLock h6.lock) bv bk (List.replicate m 0) (List.replicate m false):=⟨R2.v.relock _,R2.k.relock _,R2.e,R2.n⟩
 replace a3:h6.next ≤ bv:=a3
 replace a4:h6.next ≤ bk:=a4
 generalize h7.withLock h6.lock = h7 at *
 have Y7:=Y6.trans X7
 have q7:=X7.next
 have l21:=R2.v.lt
 have l22:=R2.k.lt
 have Z:=X6.trans X7
 refine WOL.sto (vs:=[zi n,slA p1 L.length,.slice none 0 0,slA p2 L.length]) rfl rfl tp1194 ((N4.at_.hx N5.hx).hx Z) rfl rfl (Nat.le_of_ble_eq_true rfl) rfl (f.hx Y7) (by omega) fun h8 P8 => ?_
 have q8:=P8.next
 have Y8:HX h h8:=P8.hx _ Y7 (by omega)
 refine WOL.sto (vs:=[zi (n - c),slA bv m,.slice none 0 0,slA bk m]) rfl rfl tp1194 (P8.oth _ _ (by omega) (N5.at_.hx Z)) rfl rfl (Nat.le_of_ble_eq_true rfl) rfl (f.hx Y8) (by omega) fun h9 P9 => WOL.nil <| keep [(3,_),(4,_),(9,_),(10,_)] ⟨rfl,rfl,rfl,rfl,trivial⟩ ?_
 have q9:=P9.next
 have Y9:HX h h9:=P9.hx _ Y8 (by omega)
 have O9:∀ b y,b ≠ h3.next → b ≠ h4.next → At h7 b y → At h9 b y:=fun b y e1 e2 a => P9.oth _ _ e2 (P8.oth _ _ e1 a)
 have B9:=P9.oth _ _ (by omega) P8.at_
 have B10:=P9.at_
 have B4:=O9 _ _ (by omega) (by omega) (((A4.hx N4.hx).hx N5.hx).hx Z)
 have B3:=O9 _ _ (by omega) (by omega) (((A3.hx N4.hx).hx N5.hx).hx Z)
 have C1:RowA h9 p1 p2 L (knownL S L.length):=⟨O9 _ _ (by omega) (by omega) (R1.v.hx X7),O9 _ _ (by omega) (by omega) (R1.k.hx X7),R1.e,R1.n⟩
 have C2:RowA h9 bv bk (List.replicate m 0) (List.replicate m false):=⟨O9 _ _ (by omega) (by omega) R2.v,O9 _ _ (by omega) (by omega) R2.k,R2.e,R2.n⟩
 have lb4:=B4.lt
 have lb3:=B3.lt
 refine WL.seq <| WL.sr <| WOL.fa rfl (fa_of fo1194_0) <| WOL.ld rfl (load_row tp1117 B10 (l:=[zi (n - c),slA bv m,.slice none 0 0]) rfl (Nat.le_of_ble_eq_true rfl)) <| WOL.cl1 rfl rfl ((k1179 H h9).mono ?_)
 rintro v h10 ⟨cc,rfl,X10,Ac,ac⟩
 have q10:=X10.next
 have lc:=Ac.lt
 have Y10:=Y9.trans X10
 replace B3:=B3.hx X10;replace B4:=B4.hx X10;replace B9:=B9.hx X10;replace B10:=B10.hx X10;replace C1:=C1.hx X10;replace C2:=C2.hx X10
 refine WOL.nil <| keep [(3,_),(4,_),(9,_),(10,_),(45,_)] ⟨rfl,rfl,rfl,rfl,rfl,trivial⟩ ?_
 rw [← upTo_zero (C:=valC (tapC L S T m)),← upTo_zero (C:=(tapC L S T m).map fun c => c.2)] at C2
 have lC:(tapC L S T m).length = m:=tapC_len
 refine WL.block <| WL.range rfl (H.fn 134 f1224 rfl rfl) (y1224 (v1:=slA bv m) (v2:=.slice none 0 0) H nc (by omega) (m:=m) (by omega)) (fun j g => HX h g ∧ h10.next ≤ g.next ∧ At g h1.next (.cells [.slice b3 (tapD c T).length k3] true true 142) ∧ At g h2.next (.cells [zi 0,.slice none 0 0,.slice none 0 0] true true 31) ∧ At g h3.next (.cells [zi n,slA p1 L.length,.slice none 0 0,slA p2 L.length] true true 113) ∧ At g h4.next (.cells [zi (n - c),slA bv m,.slice none 0 0,slA bk m] true true 113) ∧ RowA g p1 p2 L (knownL S L.length) ∧ RowA g bv bk (upTo 0 (valC (tapC L S T m)) m j) (upTo false ((tapC L S T m).map fun c => c.2) m j) ∧ At g cc (.cells [zi (n - c),slA bv m,.slice none 0 0] true true 31)) (fun j g q => ⟨q.2.2.2.2.2.2.2.2,_,upTo_len,by have:=q.2.2.2.2.2.2.2.1.sv;rwa [upTo_len] at this⟩) (fun j g q => (f.hx q.1).up (by omega)) ?_ ?_ ?_ ?_
 ·rintro j g g' x ⟨x1,x2,x3,x4,x5,x6,x7,x8,x9⟩ P
  have o:∀ b y,b < h10.next → At g b y → At g' b y:=fun b y hb a => P.oth _ _ (by omega) a
  exact ⟨P.hx _ x1 (by omega),by rw [P.next];exact x2,o _ _ (by omega) x3,o _ _ (by omega) x4,o _ _ (by omega) x5,o _ _ (by omega) x6,⟨o _ _ (by omega) x7.v,o _ _ (by omega) x7.k,x7.e,x7.n⟩,⟨o _ _ (by omega) x8.v,o _ _ (by omega) x8.k,x8.e,x8.n⟩,o _ _ (by omega) x9⟩
 ·rintro g x N
  have:=N.next
  exact ⟨Y10.trans N.hx,by omega,B3.hx N.hx,B4.hx N.hx,B9.hx N.hx,B10.hx N.hx,C1.hx N.hx,C2.hx N.hx,Ac.hx N.hx⟩
 ·rintro j g x hj _ A
  refine WL.reg <| WOL.as rfl <| WOL.nil ?_
  intro r' hr
  refine ⟨rfl,rfl,fun g2 xx ⟨x1,x2,x3,x4,x5,x6,x7,x8,x9⟩ A2 => ?_⟩
  refine hr.go ?_
  have hk:=tapB_known (S:=S) (m:=L.length) (i:=j) (T:=T) (fun t ht => by have:=ts.o t ht;omega)
  refine WL.block <| WL.sr <| WOL.ld rfl (load_row tp1194 x5 rfl (Nat.le_of_ble_eq_true rfl)) <| WOL.mv rfl <| WOL.ld rfl (load_one tp1214 x3 rfl) <| WOL.cl3 rfl rfl rfl rfl ((k1226 (n:=n) (i:=j) (p:=n - c + (j:Nat)) H x7 (s.hx x1) (by omega) (fun t ht => by have:=ts.o t ht;omega) ts.w ts.l lim n0 (by omega) (by omega) c1 c2 (f.on x1)).mono ?_)
  rintro u g3 ⟨rfl,X3⟩
  rw [hk]
  have hV:=tapV_get (L:=L) (S:=S) (T:=T) hj
  have hM:=tapM_get (L:=L) (S:=S) (T:=T) hj
  have xs:=X3.next
  refine WOL.mv rfl <| WOL.ex rfl rfl <| WOL.ex rfl rfl <| WOL.as rfl <| WOL.as rfl <| WOL.nil <| keep [(10,_),(11,_),(12,_),(13,_)] ⟨rfl,rfl,rfl,rfl,trivial⟩ ?_
  cases hb:tapK S j T with
  | false =>
   rw [hb] at hV hM
   refine WL.sr <| WOL.mv rfl <| WOL.nil <| WL.no rfl <| WL.skip fun r k => ⟨rfl,⟨x1.trans X3,by omega,x3.hx X3,x4.hx X3,x5.hx X3,x6.hx X3,x7.hx X3,?_,x9.hx X3⟩,A2.hx X3⟩
   rw [upTo_same hV,upTo_same hM]
   exact x8.hx X3
  | true =>
   rw [hb] at hV hM
   replace hV:(valC (tapC L S T m)).getD j 0 = tapN L j T 0:=hV
   have k:=k1181 (n:=n - c) (x:=tapN L j T 0) H (x8.hx X3) (i:=j) (by rw [upTo_len];exact hj) nc (by omega) (by rw [upTo_len];omega) (m:=h.next) (f.hx (x1.trans X3)) (by omega) (by omega)
   rw [upTo_len] at k
   refine WL.sr <| WOL.mv rfl <| WOL.nil <| WL.yes rfl <| WL.reg <| WOL.ld rfl (load_row tp1194 (x6.hx X3) rfl (Nat.le_of_ble_eq_true rfl)) <| WOL.mv rfl <| WOL.mv rfl <| WOL.cl3 rfl rfl rfl rfl (k.mono ?_)
   rintro u g5 ⟨z5,ra,o5,n5⟩
   refine WOL.nil fun r k => ⟨rfl,⟨z5 _ (x1.trans X3) (by omega) (by omega),by omega,o5 _ _ (by omega) (by omega) (x3.hx X3),o5 _ _ (by omega) (by omega) (x4.hx X3),o5 _ _ (by omega) (by omega) (x5.hx X3),o5 _ _ (by omega) (by omega) (x6.hx X3),⟨o5 _ _ (by omega) (by omega) (x7.v.hx X3),o5 _ _ (by omega) (by omega) (x7.k.hx X3),x7.e,x7.n⟩,?_,o5 _ _ (by omega) (by omega) (x9.hx X3)⟩,o5 _ _ (by omega) (by omega) (A2.hx X3)⟩
   rw [upTo_set,upTo_set,hV,hM]
   exact ra
 ·rintro g ⟨x1,x2,x3,x4,x5,x6,x7,x8,x9⟩
  rw [upTo_all (by unfold valC;rw [List.length_map];exact lC),upTo_all (by rw [List.length_map];exact lC)] at x8
  have lv:(valC (tapC L S T m)).length = m:=by unfold valC;rw [List.length_map];exact lC
  refine WL.sr <| WOL.ld rfl (load_row tp1194 x6 rfl (Nat.le_of_ble_eq_true rfl)) ?_
  have k:=k1182 (n:=n - c) H x8 (by omega) (f.on x1)
  rw [lv,← bigC_val] at k
  refine WOL.cl1 rfl rfl (k.mono ?_)
  rintro v g1 ⟨X,R⟩
  have xg:=(x1.trans X).next
  have xx:=X.next
  rcases R with ⟨hb,rfl⟩ | ⟨hb,w,rfl,to⟩
  ·refine WOL.ex rfl rfl <| WOL.ex rfl rfl <| WOL.sto (vs:=[zi 0,.slice none 0 0,.slice none 0 0]) rfl rfl tp1117 (x4.hx X) rfl rfl (Nat.le_of_ble_eq_true rfl) rfl (f.hx (x1.trans X)) (by omega) fun i1 M1 => WOL.as rfl <| WOL.nil ?_
   exact WL.ret (WL.endC1 rfl rfl (load_row tp1117 M1.at_ rfl (Nat.le_of_ble_eq_true rfl)) ⟨M1.hx _ (x1.trans X) (by omega),.inr (.inl ⟨rfl,hb,rfl⟩)⟩)
  ·obtain ⟨b2,m2,k2,rfl⟩:=to.form
   refine WOL.ex rfl rfl <| WOL.ex rfl rfl <| WOL.sto (vs:=[zi (n - c),slA bv m,.slice b2 m2 k2]) rfl rfl tp1117 (x4.hx X) rfl rfl (Nat.le_of_ble_eq_true rfl) rfl (f.hx (x1.trans X)) (by omega) fun i1 M1 => WOL.as rfl <| WOL.nil ?_
   refine WL.ret (WL.endC1 rfl rfl (load_row tp1117 M1.at_ rfl (Nat.le_of_ble_eq_true rfl)) ⟨M1.hx _ (x1.trans X) (by omega),.inr (.inr ⟨rfl,hb,bv,_,by rw [lC];rfl,by omega,(to.put M1 (by omega) (by omega)).low (by omega)⟩)⟩)
end
end Go.Tidy
namespace Go.Tidy
open Go Go.Proofs Tab
variable {tp:TProg}
section
variable {h:TH} {l:List Nat} {bo:Option Addr} {n k:Nat}
end
section
variable {h:TH} {K:Regs → TH → Prop} {rest:List TOper} {d:Option Tmp} {ty:TypeId} {i:Nat} {x:Operand} {L:Rg} {v:Value} {m:List Nat}
end
section
variable {hb h g g2 g':TH} {n b o cap c4 c2 c3 nB:Nat} {cur cur':Cu} {s s':ByteArray} {fi fi':Int} {w1 w2 w':Value} {F F':List Nat} {S S':List (Int × Int)}
theorem Put.relock {M:List Nat} {x:TB} {c:Nat} {h1:TH} (p:Put (h.withLock M) h1 c x):Put h (h1.withLock h.lock) c x :=
 ⟨p.at_.relock _,fun z y hz a => (p.oth z y hz (a.relock M)).relock _,p.next,p.floor,rfl,fun h0 y hb => by rw [y.lock];exact (p.hx _ (y.locked M) hb).relock⟩
end
end Go.Tidy
namespace Go.Tidy
open Go Go.Proofs Tab
variable {tp:TProg}
section
variable (l:List Nat) (c:Cu)
end
section
variable {h g:TH} {l:List Nat} {b o cap:Nat}
theorem Stm.relock (s:Stm h b o cap l) (M:List Nat):Stm (h.withLock M) b o cap l:=⟨by
 obtain ⟨cc,fix,wr,el,a,r⟩:=s.ex
 exact ⟨cc,fix,wr,el,a.relock M,r⟩,s.cap⟩
end
section
variable {hb h:TH} {l:List Nat} {b o cap c4:Nat} {c:Cu}
end
end Go.Tidy
namespace Go.Tidy
open Go Go.Proofs Tab
variable {tp:TProg}
section
variable {P:Program} {h:TH} {K:Regs → TH → Prop} {rest:List TOper} {d:Option Tmp} {ty:TypeId} {i:Nat} {x y:Operand} {t u:TypeId} {L:Rg} {s s':ByteArray}
end
section
variable (l:List Nat)
end
theorem RunH.relock {h:TH} {v1 v2:Value} {F:List Nat} {S:List (Int × Int)} (r:RunH h v1 v2 F S) (M:List Nat):RunH (h.withLock M) v1 v2 F S:=⟨r.f.relock M,r.s.relock M,r.g.relock M⟩
section
variable {h:TH} {l:List Nat} {b o n cap:Nat} {es L:List Int}
end
end Go.Tidy
namespace Go.Tidy
open Go Go.Proofs Tab
variable {tp:TProg}
section
variable {P:Program} {h:TH} {K:Regs → TH → Prop} {rest:List TOper} {d:Option Tmp} {ty:TypeId} {i:Nat} {x y:Operand} {t u:TypeId} {L:Rg}
theorem WOL.addN {m k:Nat} (hx:getL L x = some (zi (m:Nat))) (hy:getL L y = some (zi (k:Nat))) (hb:m + k ≤ 1000000000) (w:∀ a,Kn (putL L d (zi ((m + k:Nat):Int))) a → WO P tp rest a h K):∀ a,Kn L a → WO P tp (⟨d,.binOp .add t x y u,ty,none,[],i⟩ :: rest) a h K :=
 WOL.bi hx hy (by show some (Value.int .i64 (fwrap .i64 ((m:Int) + (k:Int)))) = _;rw [fwrap_i64 (by omega) (by omega)];rfl) w
theorem WOL.mulN {m k:Nat} (hx:getL L x = some (zi (m:Nat))) (hy:getL L y = some (zi (k:Nat))) (hb:m * k ≤ 1000000000) (w:∀ a,Kn (putL L d (zi ((m * k:Nat):Int))) a → WO P tp rest a h K):∀ a,Kn L a → WO P tp (⟨d,.binOp .mul t x y u,ty,none,[],i⟩ :: rest) a h K :=
 WOL.bi hx hy (by
  have e:((m * k:Nat):Int) = (m:Int) * (k:Int):=rfl
  show some (Value.int .i64 (fwrap .i64 ((m:Int) * (k:Int)))) = _
  rw [← e,fwrap_i64 (by omega) (by omega)]) w
end
structure RrU (h g:TH) (c2 c7 nB:Nat) (s:ByteArray) (fi:Int) (w1 w2:Value) (F:List Nat) (S:List (Int × Int)):Prop where
 x:HX h g
 nx:nB ≤ g.next
 a2:At g c2 (.cells [.string ⟨#[]⟩,zi 0,.slice none 0 0,.slice none 0 0] true true 76)
 a7:At g c7 (.cells [.string s,zi fi,w1,w2] true true 76)
 o1:OwnL encF nB g w1 156 F
 o2:OwnL encS nB g w2 103 S
 ne:∀ x,bl w1 = some x → bl w2 ≠ some x
section
variable {h g g2 g':TH} {c2 c7 nB:Nat} {s:ByteArray} {fi:Int} {w1 w2 w':Value} {F F':List Nat} {S S':List (Int × Int)}
theorem RrU.hx (q:RrU h g c2 c7 nB s fi w1 w2 F S) (x:HX g g'):RrU h g' c2 c7 nB s fi w1 w2 F S:=⟨q.x.trans x,Nat.le_trans q.nx x.next,q.a2.hx x,q.a7.hx x,q.o1.hx x,q.o2.hx x,q.ne⟩
end
end Go.Tidy
namespace Go.Tidy
open Go Go.Proofs Tab
variable {tp:TProg}
def wTn (Wt:List Int) (st:Nat):Nat → List (Nat × Int)
 | 0 => []
 | j + 1 => if Wt.getD j 0 = 0 then wTn Wt st j else wTn Wt st j ++ [(j * st,Wt.getD j 0)]
theorem wTn_len {Wt:List Int} {st:Nat}:∀ j,(wTn Wt st j).length ≤ j
  | 0 => Nat.le_refl _
  | j + 1 => by
    have:=wTn_len (Wt:=Wt) (st:=st) j
    unfold wTn
    split
    · omega
    · rw [List.length_append]
      show _ + 1 ≤ _
      omega
theorem wTn_w {Wt:List Int} {st:Nat} (h:∀ j,-10000 ≤ Wt.getD j 0 ∧ Wt.getD j 0 ≤ 10000):∀ j t,t ∈ wTn Wt st j → -10000 ≤ t.2 ∧ t.2 ≤ 10000
  | 0,t,ht => by cases ht
  | j + 1,t,ht => by
    unfold wTn at ht
    split at ht
    · exact wTn_w h j t ht
    · rcases List.mem_append.1 ht with q | q
      · exact wTn_w h j t q
      · cases List.mem_singleton.1 q
        exact h j
theorem zipK_get {L:List Int} {S:List (Int × Int)} {m q:Nat} (h:q < m):(zipK L S m)[q]? = some (L.getD q 0,knownB S (q:Nat)):=by
 unfold zipK
 rw [tbl_get,if_pos h]
theorem tapK_app {S:List (Int × Int)} {i o:Nat} {x:Int} {T:List (Nat × Int)}:tapK S i (T ++ [(o,x)]) = (tapK S i T && knownB S ((i + o:Nat):Int)):=by
 unfold tapK
 rw [List.all_append]
 simp
def TapR (n:Int) (e:Int) (C:List (Int × Bool)) (n0:Nat) (h':TH) (v:Value):Prop :=
 (e ≠ 0 ∧ v = .tuple #[trcV 0 (.slice none 0 0) (.slice none 0 0),zi e]) ∨ (e = 0 ∧ MadeR n C n0 h' v)
theorem TapR.ans {n e:Int} {C:List (Int × Bool)} {n0:Nat} {g:TH} {v:Value} (r:TapR n e C n0 g v):Ans n (sumO e C) n0 g v:=by
 rcases r with ⟨h1,h2⟩ | ⟨rfl,h1⟩
 ·unfold sumO
  rw [if_pos h1];exact Ans.err h1 h2
 ·exact h1.ans
section
variable {h:TH} {n:Int} {v1 v2:Value} {L:List Int} {S:List (Int × Int)} {w:Value} {Wt:List Int} {b a st:Nat}
set_option maxHeartbeats 4000000 in
set_option maxRecDepth 10000 in
theorem k1197 (H:Has tp) (r:TrcH h v1 v2 L S) (s:SlL encI 1 h w Wt) (hk:∀ k,k < Wt.length → k * st ≤ b + a) (hb:b ≤ 100000) (ha:a ≤ 100000) (hst:st ≤ 1000) (lW:Wt.length ≤ 1000) (hw:∀ j,-10000 ≤ Wt.getD j 0 ∧ Wt.getD j 0 ≤ 10000) (lim:∀ j,-1073741824 ≤ L.getD j 0 ∧ L.getD j 0 ≤ 1073741824) (n0:0 ≤ n) (n1:n ≤ 100000000) (l1:L.length ≤ 900000) (t1:S.length ≤ 1000000) (f:Free0 h.next h) :
    CallW Tryz.prog tp (.func (.func 97) #[] #[]) #[trcV n v1 v2,w,zi (b:Nat),zi (a:Nat),zi (st:Nat)] h fun v h' => HX h h' ∧ TapR (n + b) (cond (decide (L.length ≤ b + a)) 16 0) (tapC L S (wTn Wt st Wt.length) (L.length - (b + a))) h.next h' v:=by
  refine CallW.fnL (H.fn 97 f1197 rfl rfl) ?_
  obtain ⟨b1,k1,e1,_⟩:=id r.l
  obtain ⟨b2,k2,e2,_⟩:=id r.s
  subst e1 e2
  refine WL.sr <| WOL.box rfl fun h1 N1 => WOL.al tp1114 fun h2 N2 => WOL.as rfl <| WOL.nil <| keep [(1,_),(2,_),(3,_),(4,_),(5,_),(10,_)] ⟨rfl,rfl,rfl,rfl,rfl,rfl,trivial⟩ ?_
  have q1:=N1.next
  have q2:=N2.next
  have A5:At h2 h.next (.cells [zi n,.slice b1 L.length k1,.slice b2 S.length k2] true true 27):=N1.at_.hx N2.hx
  have A10:=N2.at_
  have X2:=N1.hx.trans N2.hx
  refine WL.sr <| WOL.ld rfl (load_row tp1114 A5 rfl (Nat.le_of_ble_eq_true rfl)) <| WOL.cl1 rfl rfl ((k1189 H (r.hx X2) l1 t1 (f.on X2)).mono ?_)
  rintro av h3 ⟨X3,O12⟩
  have q3:=X3.next
  have Y3:=X2.trans X3
  replace A5:=A5.hx X3
  replace A10:=A10.hx X3
  have sA:=O12.sl eC
  refine WOL.as rfl <| WOL.nil <| keep [(1,_),(2,_),(3,_),(4,_),(5,_),(10,_),(12,_)] ⟨rfl,rfl,rfl,rfl,rfl,rfl,rfl,trivial⟩ ?_
  refine WL.sr <| WOL.as rfl <| WOL.nil ?_
  refine WL.seq <| WL.sr <| WOL.mv rfl <| WOL.as rfl <| WOL.nil ?_
  have hm:∀ j,j < L.length - (b + a) ↔ b + j + a < L.length:=fun j => by omega
  generalize hmm:L.length - (b + a) = m at *
  have lm:m ≤ L.length:=by omega
  refine WL.fori (α:=Value) m (fun j u g => HX h3 g ∧ OwnL encC h3.next g u 135 (tapC L S (wTn Wt st Wt.length) j)) (fun j u => [(1,w),(2,zi (b:Nat)),(3,zi (a:Nat)),(4,zi (st:Nat)),(5,ptr h.next),(10,ptr h1.next),(12,av),(13,u),(14,zi ((b + j:Nat):Int))]) (fun j u => [(1,w),(2,zi (b:Nat)),(3,zi (a:Nat)),(4,zi (st:Nat)),(5,ptr h.next),(10,ptr h1.next),(12,av),(13,u),(14,zi ((b + j:Nat):Int))]) (.slice none 0 0) ⟨HX.refl _,.inl ⟨rfl,rfl⟩⟩ ⟨rfl,rfl,rfl,rfl,rfl,rfl,rfl,rfl,rfl,trivial⟩ ?_ ?_ (fun _ _ _ => ⟨rfl,rfl,rfl,rfl,rfl,rfl,rfl,rfl,rfl,trivial⟩) ?_ ?_
  · rintro j u g hj ⟨X,_⟩
    refine WOL.mv rfl <| WOL.mv rfl <| WOL.addN (m:=b + j) (k:=a) rfl rfl (by omega) <| WOL.mv rfl <| WOL.len rfl (sA.hx X) u1205 <| WOL.bi (v:=.bool (decide (j < m))) rfl rfl ?_ <| WOL.nil fun x q => ⟨rfl,q.sub ⟨rfl,rfl,rfl,rfl,rfl,rfl,rfl,rfl,rfl,rfl,trivial⟩⟩
    show some (Value.bool (decide (((b + j + a:Nat):Int) < (((zipK L S L.length).length:Nat):Int)))) = _
    rw [zip_len,show decide (((b + j + a:Nat):Int) < ((L.length:Nat):Int)) = decide (j < m) from decide_eq_decide.2 (by rw [hm];omega)]
  · rintro j u g hj q
    exact WOL.mv rfl <| WOL.inc rfl (by omega) <| WOL.as rfl <| WOL.nil fun x k => ⟨q,k.sub ⟨rfl,rfl,rfl,rfl,rfl,rfl,rfl,rfl,rfl,trivial⟩⟩
  · rintro j u g hj ⟨X,O⟩
    have xg:=X.next
    have Yg:=Y3.trans X
    refine WL.sr <| WOL.bd rfl bd1207 <| WOL.al tp1207 fun i1 M1 => WOL.sto (vs:=encC (0,true)) rfl rfl tp1207 M1.at_ rfl rfl (Nat.le_of_ble_eq_true rfl) rfl (f.hx (Yg.trans M1.hx)) (by omega) fun i2 M2 => WOL.nil <| keep [(1,_),(2,_),(3,_),(4,_),(5,_),(10,_),(12,_),(13,_),(14,_),(15,_)] ⟨rfl,rfl,rfl,rfl,rfl,rfl,rfl,rfl,rfl,rfl,trivial⟩ ?_
    have A15:At i2 g.next (.cells [zi 0,.bool true] true true 135):=M2.at_
    have XI:HX g i2:=M2.hx _ M1.hx (Nat.le_refl _)
    refine WL.seq <| WL.sr <| WOL.as rfl <| WOL.nil ?_
    refine WL.forz (α:=Unit) Wt.length (fun k _ g' => HX g g' ∧ At g' g.next (.cells [zi (tapN L j (wTn Wt st k) 0),.bool (tapK S j (wTn Wt st k))] true true 135)) (fun k _ => [(1,w),(2,zi (b:Nat)),(3,zi (a:Nat)),(4,zi (st:Nat)),(5,ptr h.next),(10,ptr h1.next),(12,av),(13,u),(14,zi ((b + j:Nat):Int)),(15,ptr g.next),(16,zi (k:Nat))]) (fun k _ => [(1,w),(2,zi (b:Nat)),(3,zi (a:Nat)),(4,zi (st:Nat)),(5,ptr h.next),(10,ptr h1.next),(12,av),(13,u),(14,zi ((b + j:Nat):Int)),(15,ptr g.next),(16,zi (k:Nat))]) () ⟨XI,A15⟩ ⟨rfl,rfl,rfl,rfl,rfl,rfl,rfl,rfl,rfl,rfl,rfl,trivial⟩ ?_ ?_ (fun _ _ _ => ⟨rfl,rfl,rfl,rfl,rfl,rfl,rfl,rfl,rfl,rfl,rfl,trivial⟩) ?_ ?_
    · rintro k _ g' hj' ⟨Z,_⟩
      exact WOL.mv rfl <| WOL.mv rfl <| WOL.len rfl (s.hx (Yg.trans Z)) u29 <| WOL.bi rfl rfl rfl <| WOL.nil fun x q => ⟨rfl,q.sub ⟨rfl,rfl,rfl,rfl,rfl,rfl,rfl,rfl,rfl,rfl,rfl,rfl,trivial⟩⟩
    · rintro k _ g' hj' q
      exact WOL.mv rfl <| WOL.inc rfl (by omega) <| WOL.as rfl <| WOL.nil fun x k => ⟨q,k.sub ⟨rfl,rfl,rfl,rfl,rfl,rfl,rfl,rfl,rfl,rfl,rfl,trivial⟩⟩
    · rintro k _ g' hk' ⟨Z,A⟩
      have Yz:=Yg.trans Z
      have la:=A.lt
      have zg:=Z.next
      have hp:Wt[k]? = some (Wt.getD k 0):=by rw [List.getD_eq_getElem?_getD,List.getElem?_eq_getElem hk'];rfl
      have hst':wTn Wt st (k + 1) = if Wt.getD k 0 = 0 then wTn Wt st k else wTn Wt st k ++ [(k * st,Wt.getD k 0)]:=rfl
      obtain ⟨w1,w2⟩:=hw k
      generalize Wt.getD k 0 = x at *
      obtain ⟨_,_,cc,fix,wr,el,g1,g2,g3,g4,g5⟩:=(s.hx Yz).at eI u29 tp3 hp .i64
      have gx:=g5 0 (by decide)
      rw [Nat.add_zero] at gx
      refine WL.sr <| WOL.mv rfl <| WOL.mv rfl <| WOL.ix rfl rfl g1 <| WOL.ld rfl (load_one tp3 g2 gx) ?_
      by_cases h0:x = 0
      · rw [if_pos h0] at hst'
        refine WOL.bf rfl rfl rfl (by first | exact decide_eq_false (by omega) | exact beq_eq_false_iff_ne.2 (by omega) | exact bne_eq_false_iff_eq.2 (by omega)) <| WOL.nil <| WL.no rfl <| WL.skip fun y q => ⟨(),⟨Z,?_⟩,q.sub ⟨rfl,rfl,rfl,rfl,rfl,rfl,rfl,rfl,rfl,rfl,rfl,trivial⟩⟩
        rw [hst'];exact A
      rw [if_neg h0] at hst'
      have hq:j + k * st < L.length:=by have:=hk k hk';have:=(hm j).1 hj;omega
      have hkk:k * st ≤ 200000:=by have:=hk k hk';omega
      refine WOL.bt rfl rfl rfl (by first | exact decide_eq_true (by omega) | exact beq_iff_eq.2 (by omega) | exact bne_iff_ne.2 (by omega)) <| WOL.nil <| keep [(1,_),(2,_),(3,_),(4,_),(5,_),(10,_),(12,_),(13,_),(14,_),(15,_),(16,_),(40,_)] ⟨rfl,rfl,rfl,rfl,rfl,rfl,rfl,rfl,rfl,rfl,rfl,rfl,trivial⟩ ?_
      obtain ⟨_,_,cc',fix',wr',el',y1,y2,y3,y4,y5⟩:=(sA.hx (X.trans Z)).at eC u1205 tp1207 (zipK_get (L:=L) (S:=S) hq) .i64
      obtain ⟨b1',b2'⟩:=lim (j + k * st)
      refine WL.yes rfl <| WL.sr <| WOL.mv rfl <| WOL.mv rfl <| WOL.mv rfl <| WOL.sub (m:=((b + j:Nat):Int)) (n:=(b:Int)) rfl rfl (by omega) (by omega) ?_
      rw [show ((b + j:Nat):Int) - (b:Int) = ((j:Nat):Int) by omega]
      refine WOL.mv rfl <| WOL.mv rfl <| WOL.mulN rfl rfl (by omega) <| WOL.addN rfl rfl (by omega) <| WOL.ix rfl rfl y1 <| WOL.ld rfl (load_row tp1207 y2 y4 y3) <| WOL.al tp1207 fun i3 M3 => ?_
      have m3:=M3.next
      refine WOL.sto (vs:=encC (L.getD (j + k * st) 0,knownB S ((j + k * st:Nat):Int))) rfl rfl tp1207 M3.at_ rfl rfl (Nat.le_of_ble_eq_true rfl) rfl (f.hx (Yz.trans M3.hx)) (by have:=Yz.next;omega) fun i4 M4 => WOL.nil <| keep [(1,_),(2,_),(3,_),(4,_),(5,_),(10,_),(12,_),(13,_),(14,_),(15,_),(16,_),(17,_)] ⟨rfl,rfl,rfl,rfl,rfl,rfl,rfl,rfl,rfl,rfl,rfl,rfl,trivial⟩ ?_
      have m4:=M4.next
      have A17:At i4 g'.next (.cells [zi (L.getD (j + k * st) 0),.bool (knownB S ((j + k * st:Nat):Int))] true true 135):=M4.at_
      have A':=M4.oth _ _ (by omega) (A.hx M3.hx)
      have Z4:HX g i4:=M4.hx _ (Z.trans M3.hx) (by omega)
      have Y4:=Yg.trans Z4
      obtain ⟨_,_,cd,fixd,wrd,eld,d1,d2,d3,d4,d5⟩:=(s.hx Y4).at eI u29 tp3 hp .i64
      have dx:=d5 0 (by decide)
      rw [Nat.add_zero] at dx
      obtain ⟨m1,m2⟩:=mul_lim w1 w2 b1' b2'
      have ll:=tapN_lim (i:=j) lim (T:=wTn Wt st k) (s:=0) (B:=0) (fun t ht => wTn_w hw k t ht) (by omega) (by omega)
      have lk:=wTn_len (Wt:=Wt) (st:=st) k
      refine WL.sr <| WOL.fa rfl (fa_of fo1207_0) <| WOL.ld rfl (load_one tp3 A' rfl) <| WOL.mv rfl <| WOL.mv rfl <| WOL.ix rfl rfl d1 <| WOL.ld rfl (load_one tp3 d2 dx) <| WOL.fa rfl (fa_of fo1207_0) <| WOL.ld rfl (load_one tp3 A17 rfl) <| WOL.mul rfl rfl (by omega) (by omega) <| WOL.add rfl rfl (by omega) (by omega) <| WOL.fa rfl (fa_of fo1207_0) <| WOL.sto (vs:=encI (tapN L j (wTn Wt st k) 0 + x * L.getD (j + k * st) 0)) rfl rfl tp3 A' rfl rfl (Nat.le_of_ble_eq_true rfl) rfl (f.hx Y4) (by omega) fun i5 M5 => WOL.nil <| keep [(1,_),(2,_),(3,_),(4,_),(5,_),(10,_),(12,_),(13,_),(14,_),(15,_),(16,_),(17,_)] ⟨rfl,rfl,rfl,rfl,rfl,rfl,rfl,rfl,rfl,rfl,rfl,rfl,trivial⟩ ?_
      have m5:=M5.next
      have A5':At i5 g.next (.cells [zi (tapN L j (wTn Wt st k) 0 + x * L.getD (j + k * st) 0),.bool (tapK S j (wTn Wt st k))] true true 135):=M5.at_
      have A17':=M5.oth _ _ (by omega) A17
      have Z5:HX g i5:=M5.hx _ Z4 (by omega)
      have hN:tapN L j (wTn Wt st (k + 1)) 0 = tapN L j (wTn Wt st k) 0 + x * L.getD (j + k * st) 0:=by rw [hst',tapN_app];rfl
      have hK:tapK S j (wTn Wt st (k + 1)) = (tapK S j (wTn Wt st k) && knownB S ((j + k * st:Nat):Int)):=by rw [hst',tapK_app]
      refine WL.reg <| WOL.fa rfl (fa_of fo1207_1) <| WOL.ld rfl (load_one tp4 A5' rfl) <| WOL.mv rfl ?_
      have fin:∀ B:Bool,B = tapK S j (wTn Wt st (k + 1)) → ∀ y,Kn [(1,w),(2,zi (b:Nat)),(3,zi (a:Nat)),(4,zi (st:Nat)),(5,ptr h.next),(10,ptr h1.next),(12,av),(13,u),(14,zi ((b + j:Nat):Int)),(15,ptr g.next),(16,zi (k:Nat)),(67,.bool B)] y → WO Tryz.prog tp (r1197_11.drop 6) y i5 (fun y g' => ∃ x:Unit,(HX g g' ∧ At g' g.next (.cells [zi (tapN L j (wTn Wt st (k + 1)) 0),.bool (tapK S j (wTn Wt st (k + 1)))] true true 135)) ∧ Kn [(1,w),(2,zi (b:Nat)),(3,zi (a:Nat)),(4,zi (st:Nat)),(5,ptr h.next),(10,ptr h1.next),(12,av),(13,u),(14,zi ((b + j:Nat):Int)),(15,ptr g.next),(16,zi (k:Nat))] y):=by
        intro B hB
        refine WOL.fa rfl (fa_of fo1207_1) <| WOL.sto (vs:=encB B) rfl rfl tp4 A5' rfl rfl (Nat.le_of_ble_eq_true rfl) rfl (f.hx (Yg.trans Z5)) (by omega) fun i6 M6 => WOL.nil fun y q => ⟨(),⟨M6.hx _ Z5 (by omega),?_⟩,q.sub ⟨rfl,rfl,rfl,rfl,rfl,rfl,rfl,rfl,rfl,rfl,rfl,trivial⟩⟩
        rw [hN,← hB]
        exact M6.at_
      cases hkk':tapK S j (wTn Wt st k) with
      | true =>
        rw [hkk',Bool.true_and] at hK
        exact WOL.now (b:=true) rfl rfl <| WOL.fa rfl (fa_of fo1207_1) <| WOL.now (b:=true) rfl rfl <| WOL.ld rfl (load_one tp4 A17' rfl) <| WOL.pkt rfl rfl <| kto (fin _ hK.symm) ⟨rfl,rfl,rfl,rfl,rfl,rfl,rfl,rfl,rfl,rfl,rfl,rfl,trivial⟩
      | false =>
        rw [hkk',Bool.false_and] at hK
        exact WOL.skp (b:=false) rfl rfl <| WOL.skp (b:=false) rfl rfl <| WOL.pkf rfl rfl <| kto (fin _ hK.symm) ⟨rfl,rfl,rfl,rfl,rfl,rfl,rfl,rfl,rfl,rfl,rfl,rfl,trivial⟩
    · rintro _ g' ⟨Z,A⟩
      have zg:=Z.next
      have Yz:=Yg.trans Z
      refine WL.reg <| WOL.mv rfl <| WOL.ld rfl (load_row tp1207 A rfl (Nat.le_of_ble_eq_true rfl)) <| WOL.bsl rfl u1205 tp1207 (by decide) (by decide) (by decide) (cs:=encC (tapN L j (wTn Wt st Wt.length) 0,tapK S j (wTn Wt st Wt.length))) rfl fun i5 N5 => ?_
      have n5:=N5.next
      obtain ⟨u',i6,ap,O',x6,_,_,_⟩:=own_push (sT:=133) (x:=(tapN L j (wTn Wt st Wt.length) 0,tapK S j (wTn Wt st Wt.length))) eC u1205 tp1207 ((O.hx Z).hx N5.hx) (SlC.own (sz:=2) (m:=1) rfl N5.at_) ((f.hx (Yz.trans N5.hx)).up (by omega)) (by rw [tapC_len];omega) (by omega)
      rw [← tapC_succ] at O'
      exact WOL.ap rfl rfl ap <| WOL.as rfl <| WOL.nil fun y q => ⟨u',⟨x6 _ ((X.trans Z).trans N5.hx) (Nat.le_refl _),O'⟩,q.sub ⟨rfl,rfl,rfl,rfl,rfl,rfl,rfl,rfl,rfl,trivial⟩⟩
  · rintro u g ⟨X,O⟩
    have xg:=X.next
    have Yg:=Y3.trans X
    have sO:=O.sl eC
    refine WL.seq <| WL.sr <| WOL.mv rfl <| WOL.len rfl sO u1205 ?_
    rw [tapC_len]
    by_cases h0:L.length ≤ b + a
    · rw [decide_eq_true h0]
      refine WOL.bt rfl rfl rfl (by first | exact decide_eq_true (by omega) | exact beq_iff_eq.2 (by omega) | exact bne_iff_ne.2 (by omega)) <| WOL.nil <| WL.yes rfl <| WL.sr <| WOL.bd rfl bd1114z <| WOL.sto (vs:=[zi 0,.slice none 0 0,.slice none 0 0]) rfl rfl tp1114 (A10.hx X) rfl rfl (Nat.le_of_ble_eq_true rfl) rfl (f.hx Yg) (by omega) fun i1 M1 => WOL.as rfl <| WOL.nil ?_
      exact WL.ret (WL.endC1 rfl rfl (load_row tp1114 M1.at_ rfl (Nat.le_of_ble_eq_true rfl)) ⟨M1.hx _ Yg (by omega),.inl ⟨by decide,rfl⟩⟩)
    rw [decide_eq_false h0]
    refine WOL.bf rfl rfl rfl (by first | exact decide_eq_false (by omega) | exact beq_eq_false_iff_ne.2 (by omega) | exact bne_eq_false_iff_eq.2 (by omega)) <| WOL.nil <| WL.no rfl <| WL.skip ?_
    refine WL.sr <| WOL.fa rfl (fa_of fo1114_0) <| WOL.ld rfl (load_one tp3 (A5.hx X) rfl) <| WOL.mv rfl <| WOL.add (m:=n) (n:=(b:Int)) rfl rfl (by omega) (by omega) <| WOL.mv rfl <| WOL.cl2 rfl rfl rfl ((k1188 H sO (by rw [tapC_len];omega) (f.on Yg)).mono ?_)
    rintro v g2 ⟨X2',R⟩
    have Z:=Yg.trans X2'
    have B10:=(A10.hx X).hx X2'
    have xx:=X2'.next
    rcases R with ⟨hb,rfl⟩ | ⟨hb,u1,u2,rfl,O1,O2⟩
    · refine WOL.ex rfl rfl <| WOL.ex rfl rfl <| WOL.sto (vs:=[zi 0,.slice none 0 0,.slice none 0 0]) rfl rfl tp1114 B10 rfl rfl (Nat.le_of_ble_eq_true rfl) rfl (f.hx Z) (by omega) fun i1 M1 => WOL.as rfl <| WOL.nil ?_
      exact WL.ret (WL.endC1 rfl rfl (load_row tp1114 M1.at_ rfl (Nat.le_of_ble_eq_true rfl)) ⟨M1.hx _ Z (by omega),.inr ⟨rfl,.inl ⟨hb,rfl⟩⟩⟩)
    · obtain ⟨z1,e1⟩:=OwnF.form (Or.inl O1)
      obtain ⟨z2,e2⟩:=OwnF.form (Or.inl O2)
      refine WOL.ex rfl rfl <| WOL.ex rfl rfl <| WOL.sto (vs:=[zi (n + b),u1,u2]) rfl rfl tp1114 B10 rfl rfl (Nat.le_of_ble_eq_true rfl) (by rw [e1,e2];rfl) (f.hx Z) (by omega) fun i1 M1 => WOL.as rfl <| WOL.nil ?_
      exact WL.ret (WL.endC1 rfl rfl (load_row tp1114 M1.at_ rfl (Nat.le_of_ble_eq_true rfl)) ⟨M1.hx _ Z (by omega),.inr ⟨rfl,.inr ⟨hb,u1,u2,rfl,(O1.keep fun z y hz a => M1.oth _ _ (by have:=O1.lt hz;omega) a).low (by omega),(O2.keep fun z y hz a => M1.oth _ _ (by have:=O2.lt hz;omega) a).low (by omega)⟩⟩⟩)
end
end Go.Tidy
namespace Go.Tidy
open Go Go.Proofs Tab
variable {tp:TProg}
def errV (E:Int) (m w:Nat):Int:=if E ≠ 0 then E else cond (decide (m ≤ w)) 16 0
theorem errV_ok {m w:Nat}:errV 0 m w = cond (decide (m ≤ w)) 16 0:=by unfold errV;rw [if_neg (by decide)]
theorem errV_no {E:Int} {m w:Nat} (h:E ≠ 0):errV E m w = E:=by unfold errV;rw [if_pos h]
theorem chord_ok {a b:Int} (h:chordE a b = 0):1 ≤ a ∧ a ≤ 32 ∧ 1 ≤ b ∧ b ≤ 32:=by
 have all:=firstNZ_zero h
 have h1:=all (outB a 1 32) (by simp)
 have h2:=all (outB b 1 32) (by simp)
 have o:∀ x:Int,outB x 1 32 = 0 → 1 ≤ x ∧ x ≤ 32:=fun x hx => by
  unfold outB at hx
  by_cases c1:x < 1
  ·rw [decide_eq_true c1] at hx;cases hx
  ·by_cases c2:32 < x
   ·rw [decide_eq_false c1,decide_eq_true c2] at hx;cases hx
   ·omega
 exact ⟨(o _ h1).1,(o _ h1).2,(o _ h2).1,(o _ h2).2⟩
section
variable {h:TH} {n a b:Int} {v1 v2:Value} {L:List Int} {S:List (Int × Int)}
end
end Go.Tidy
namespace Go.Tidy
open Go Go.Proofs Tab
variable {tp:TProg}
def wgt (p q i:Nat):Int:=if i + 1 ≤ p then (q:Int) * ((i:Int) + 1) else (p:Int) * ((p:Int) + q - 1 - i)
def wts (p q:Nat):List Int:=(List.range (p + q - 1)).map (wgt p q)
def wTp (p q st:Nat):List (Nat × Int):=(List.range (p + q - 1)).map fun i => (i * st,wgt p q i)
theorem wts_len {p q:Nat}:(wts p q).length = p + q - 1:=by unfold wts;rw [List.length_map,List.length_range]
theorem wTp_len {p q st:Nat}:(wTp p q st).length = p + q - 1:=by unfold wTp;rw [List.length_map,List.length_range]
theorem wTp_get {p q st i:Nat} (h:i < p + q - 1):(wTp p q st)[i]? = some (i * st,wgt p q i):=by
 unfold wTp
 rw [tbl_get,if_pos h]
theorem wgt_lim {p q i:Nat} (hp:p ≤ 32) (hq:q ≤ 32) (hi:i < p + q):0 ≤ wgt p q i ∧ wgt p q i ≤ 4096:=by
 unfold wgt
 split
 ·have e:(q:Int) * ((i:Int) + 1) = ((q * (i + 1):Nat):Int):=rfl
  have:=Nat.mul_le_mul hq (show i + 1 ≤ 32 by omega)
  rw [e];omega
 ·obtain ⟨k,hk⟩:∃ k:Nat,(p:Int) + q - 1 - i = k:=⟨p + q - 1 - i,by omega⟩
  rw [hk]
  have e:(p:Int) * (k:Int) = ((p * k:Nat):Int):=rfl
  have:=Nat.mul_le_mul hp (show k ≤ 64 by omega)
  rw [e];omega
theorem wTaps {p q st:Nat} (hp:1 ≤ p) (hp':p ≤ 32) (hq:1 ≤ q) (hq':q ≤ 32):Taps (wTp p q st) ((p + q - 2) * st):=⟨⟨_,by rw [wTp_get (by omega),Nat.zero_mul]⟩,⟨_,by rw [wTp_len,wTp_get (by omega)];rfl⟩,fun t ht => by
 obtain ⟨i,hi,rfl⟩:=List.mem_map.1 ht
 have:=List.mem_range.1 hi
 exact Nat.mul_le_mul_right _ (by omega),fun t ht => by
 obtain ⟨i,hi,rfl⟩:=List.mem_map.1 ht
 have:=List.mem_range.1 hi
 have:=wgt_lim (i:=i) hp' hq' (by omega)
 show -10000 ≤ wgt p q i ∧ wgt p q i ≤ 10000
 omega,by rw [wTp_len];omega⟩
section
variable {h:TH} {n a b:Int} {v1 v2:Value} {L:List Int} {S:List (Int × Int)} {p q st:Nat}
set_option maxHeartbeats 2000000 in
set_option maxRecDepth 10000 in
theorem k1198 (H:Has tp) (hp:1 ≤ p) (hp':p ≤ 32) (hq:1 ≤ q) (hq':q ≤ 32) (hst:st ≤ 32) (f:Free0 h.next h) :
  CallW Tryz.prog tp (.func (.func 98) #[] #[]) #[.agg #[zi (p:Nat),zi (q:Nat)],zi (st:Nat)] h fun v h' => HX h h' ∧ ∃ c,v = slA c (p + q - 1) ∧ h.next ≤ c ∧ At h' c (.cells (cat encS (tapD ((1 - (p:Int)) * st) (wTp p q st))) true true 192):=by
 refine CallW.fnL (H.fn 98 f1198 rfl rfl) ?_
 refine WL.sr <| WOL.box rfl fun h1 N1 => WOL.as rfl <| WOL.nil <| keep [(1,_),(2,_)] ⟨rfl,rfl,trivial⟩ ?_
 have q1:=N1.next
 have A2:At h1 h.next (.cells [zi (p:Nat),zi (q:Nat)] true true 44):=N1.at_
 refine WL.sr <| WOL.ld rfl (load_row tp1128 A2 rfl (Nat.le_of_ble_eq_true rfl)) <| WOL.cl1 rfl rfl ((k1199 H (a:=p) (b:=q) (by omega) (by omega) (by omega) (by omega) _).mono ?_)
 rintro v h2 ⟨rfl,X2⟩
 have Y2:=N1.hx.trans X2
 replace A2:=A2.hx X2
 have y2:=Y2.next
 have x2:=X2.next
 refine WOL.sub (m:=(p:Int) + q) (n:=1) rfl rfl (by omega) (by omega) ?_
 rw [show (p:Int) + q - 1 = ((p + q - 1:Nat):Int) by omega]
 have lD:(tapD ((1 - (p:Int)) * st) (wTp p q st)).length = p + q - 1:=by unfold tapD;rw [List.length_map,wTp_len]
 have hD:∀ i,i < p + q - 1 → (tapD ((1 - (p:Int)) * st) (wTp p q st))[i]? = some (((i:Int) + 1 - p) * st,wgt p q i):=fun i hi => by
  unfold tapD
  rw [List.getElem?_map,wTp_get hi]
  show some (((i * st:Nat):Int) + (1 - (p:Int)) * st,wgt p q i) = _
  rw [show (i:Int) + 1 - p = i + (1 - (p:Int)) by omega,Int.add_mul];rfl
 generalize tapD ((1 - (p:Int)) * st) (wTp p q st) = D at *
 refine WOL.ms (m:=p + q - 1) rfl rfl u1214 tp1242 (by decide) (by omega) fun h3 N3 => WOL.as rfl <| WOL.nil <| keep [(1,_),(2,_),(5,_)] ⟨rfl,rfl,rfl,trivial⟩ ?_
 have q3:=N3.next
 have W0:=N3.at_
 rw [show ([zi 0,zi 0]:List Value) = encS (0,0) from rfl,Enc.rep,← lD,← fill_zero D] at W0
 rw [← lD]
 have Y3:=Y2.trans N3.hx
 replace A2:=A2.hx N3.hx
 refine WL.seq <| WL.sr <| WOL.mv rfl <| WOL.len (m:=D.length) rfl (SlC.own (by rw [eS.cat_len,fill_len _ _ _ (by omega)]) W0) u1214 <| WOL.mv rfl <| WOL.nil <| keep [(1,_),(2,_),(5,_),(14,_),(15,_)] ⟨rfl,rfl,rfl,rfl,rfl,trivial⟩ ?_
 refine WL.upto (α:=Unit) D.length (fun j _ g => HX h g ∧ At g h.next (.cells [zi (p:Nat),zi (q:Nat)] true true 44) ∧ At g h2.next (.cells (cat encS (D.take j ++ List.replicate (D.length - j) (0,0))) true true 192)) (fun _ _ => [(1,zi (st:Nat)),(2,ptr h.next),(5,slA h2.next D.length),(14,zi (D.length:Nat))]) () rfl rfl (by omega) ⟨Y3,A2,W0⟩ ⟨rfl,rfl,rfl,rfl,rfl,trivial⟩ (fun _ _ => rfl) (fun _ _ _ => ⟨rfl,rfl,rfl,rfl,rfl,trivial⟩) (fun _ _ _ => ⟨rfl,rfl,rfl,rfl,rfl,trivial⟩) ?_ ?_
 ·rintro i _ g hi ⟨X,A,Wd⟩
  have hi':i < p + q - 1:=by omega
  have hw:=wgt_lim (i:=i) hp' hq' (by omega)
  have hDi:=hD i hi'
  have k1:-64 ≤ (i:Int) + 1 - p ∧ (i:Int) + 1 - p ≤ 64:=by omega
  refine WL.sr <| WOL.mv rfl <| WOL.as rfl <| WOL.nil <| keep [(1,_),(2,_),(5,_),(6,_),(14,_),(15,_)] ⟨rfl,rfl,rfl,rfl,rfl,rfl,trivial⟩ ?_
  refine WL.sr <| WOL.mv rfl <| WOL.add (m:=(i:Nat)) (n:=1) rfl rfl (by omega) (by omega) <| WOL.fa rfl (fa_of fo1128_0) <| WOL.ld rfl (load_one tp3 A rfl) <| WOL.sub (m:=(i:Int) + 1) (n:=(p:Int)) rfl rfl (by omega) (by omega) <| WOL.as rfl <| WOL.nil <| keep [(1,_),(2,_),(5,_),(6,_),(7,_),(14,_),(15,_)] ⟨rfl,rfl,rfl,rfl,rfl,rfl,rfl,trivial⟩ ?_
  obtain ⟨c1,c2⟩:=mul_lim (w:=(p:Int)) (x:=(q:Int) - ((i:Int) + 1 - p)) (by omega) (by omega) (by omega) (by omega)
  obtain ⟨c3,c4⟩:=mul_lim (w:=(q:Int)) (x:=(p:Int) + ((i:Int) + 1 - p)) (by omega) (by omega) (by omega) (by omega)
  obtain ⟨c5,c6⟩:=mul_lim (w:=(i:Int) + 1 - p) (x:=(st:Int)) (by omega) (by omega) (by omega) (by omega)
  refine WL.sr <| WOL.fa rfl (fa_of fo1128_0) <| WOL.ld rfl (load_one tp3 A rfl) <| WOL.fa rfl (fa_of fo1128_1) <| WOL.ld rfl (load_one tp3 A rfl) <| WOL.mv rfl <| WOL.sub (m:=(q:Int)) (n:=(i:Int) + 1 - p) rfl rfl (by omega) (by omega) <| WOL.mul rfl rfl (Int.le_trans (by decide) c1) (Int.le_trans c2 (by decide)) <| WOL.as rfl <| WOL.nil <| keep [(1,_),(2,_),(5,_),(6,_),(7,_),(8,_),(14,_),(15,_)] ⟨rfl,rfl,rfl,rfl,rfl,rfl,rfl,rfl,trivial⟩ ?_
  have fin:∀ x,x = wgt p q i → ∀ y,Kn [(1,zi (st:Nat)),(2,ptr h.next),(5,slA h2.next D.length),(6,zi (i:Nat)),(7,zi ((i:Int) + 1 - p)),(8,zi x),(14,zi (D.length:Nat)),(15,zi (i:Nat))] y → W Tryz.prog tp false (.reg r1198_9) y g (Next 1 0 15 i ((fun j _ g => HX h g ∧ At g h.next (.cells [zi (p:Nat),zi (q:Nat)] true true 44) ∧ At g h2.next (.cells (cat encS (D.take j ++ List.replicate (D.length - j) (0,0))) true true 192)) (i + 1)) ((fun _ (_:Unit) => [(1,zi (st:Nat)),(2,ptr h.next),(5,slA h2.next D.length),(14,zi (D.length:Nat))]) (i + 1)) (andThen (fun a h' => W Tryz.prog tp false (.seq (.reg r1198_11) .ret) a h' (Fin Tryz.prog [.tmp 4] fun v h' => HX h h' ∧ ∃ c,v = slA c D.length ∧ h.next ≤ c ∧ At h' c (.cells (cat encS D) true true 192))) (Fin Tryz.prog [.tmp 4] fun v h' => HX h h' ∧ ∃ c,v = slA c D.length ∧ h.next ≤ c ∧ At h' c (.cells (cat encS D) true true 192)))):=by
   rintro x rfl
   refine WL.reg <| WOL.mv rfl <| WOL.mv rfl <| WOL.mv rfl <| WOL.mv rfl <| WOL.mul rfl rfl (Int.le_trans (by decide) c5) (Int.le_trans c6 (by decide)) <| WOL.mv rfl <| WOL.bd rfl bd1242 <| WOL.ix rfl rfl (indexAddr_tp (j:=i) u1214 tp1242 hi) ?_
   refine WOL.sto (vs:=encS (((i:Int) + 1 - p) * st,wgt p q i)) rfl rfl tp1242 Wd rfl rfl (by rw [eS.cat_len,fill_len _ _ _ (by omega)];omega) rfl (f.hx X) (by omega) fun h5 P5 => WOL.nil fun y k => ⟨(),⟨P5.hx _ X (by omega),P5.oth _ _ (by omega) A,?_⟩,k.sub ⟨rfl,rfl,rfl,rfl,rfl,trivial⟩⟩
   have:=P5.at_
   rw [Nat.zero_add,eS.set (by rw [fill_len _ _ _ (by omega)];omega),show (((i:Int) + 1 - p) * st,wgt p q i) = D[i] from (Option.some.inj ((List.getElem?_eq_getElem hi).symm.trans hDi)).symm,fill_set D _ i hi] at this
   exact this
  by_cases hk:i + 1 ≤ p
  ·refine WL.seq <| WL.sr <| WOL.mv rfl <| WOL.bt rfl rfl rfl (by first | exact decide_eq_true (by omega) | exact beq_iff_eq.2 (by omega) | exact bne_iff_ne.2 (by omega)) <| WOL.nil <| WL.yes rfl <| WL.reg <| WOL.fa rfl (fa_of fo1128_1) <| WOL.ld rfl (load_one tp3 A rfl) <| WOL.fa rfl (fa_of fo1128_0) <| WOL.ld rfl (load_one tp3 A rfl) <| WOL.mv rfl <| WOL.add (m:=(p:Int)) (n:=(i:Int) + 1 - p) rfl rfl (by omega) (by omega) <| WOL.mul rfl rfl (Int.le_trans (by decide) c3) (Int.le_trans c4 (by decide)) <| WOL.as rfl <| WOL.nil ?_
   refine kto (fin _ ?_) ⟨rfl,rfl,rfl,rfl,rfl,rfl,rfl,rfl,trivial⟩
   unfold wgt
   rw [if_pos hk,show (p:Int) + ((i:Int) + 1 - p) = (i:Int) + 1 by omega]
  ·refine WL.seq <| WL.sr <| WOL.mv rfl <| WOL.bf rfl rfl rfl (by first | exact decide_eq_false (by omega) | exact beq_eq_false_iff_ne.2 (by omega) | exact bne_eq_false_iff_eq.2 (by omega)) <| WOL.nil <| WL.no rfl <| WL.skip ?_
   refine kto (fin _ ?_) ⟨rfl,rfl,rfl,rfl,rfl,rfl,rfl,rfl,trivial⟩
   unfold wgt
   rw [if_neg hk,show (q:Int) - ((i:Int) + 1 - p) = (p:Int) + q - 1 - i by omega]
 ·rintro _ g ⟨X,A,Wd⟩
  rw [fill_all] at Wd
  exact WL.sr <| WOL.mv rfl <| WOL.as rfl <| WOL.nil <| WL.ret (WL.end_ rfl ⟨X,_,rfl,by omega,Wd⟩)
set_option maxHeartbeats 2000000 in
set_option maxRecDepth 10000 in
theorem k1129 (H:Has tp) (hp:1 ≤ p) (hp':p ≤ 32) (hq:1 ≤ q) (hq':q ≤ 32) (f:Free0 h.next h) :
  CallW Tryz.prog tp (.func (.func 29) #[] #[]) #[.agg #[zi (p:Nat),zi (q:Nat)]] h fun v h' => HX h h' ∧ OwnL encI h.next h' v 3 (wts p q):=by
 refine CallW.fnL (H.fn 29 f1129 rfl rfl) ?_
 refine WL.sr <| WOL.box rfl fun h1 N1 => WOL.as rfl <| WOL.nil <| keep [(1,_)] ⟨rfl,trivial⟩ ?_
 have q1:=N1.next
 have A1:At h1 h.next (.cells [zi (p:Nat),zi (q:Nat)] true true 23):=N1.at_
 refine WL.sr <| WOL.as rfl <| WOL.nil ?_
 refine WL.seq <| WL.sr <| WOL.fa rfl (fa_of fo1112_0) <| WOL.ld rfl (load_one tp3 A1 rfl) <| WOL.sub (m:=1) (n:=(p:Int)) rfl rfl (by omega) (by omega) <| WOL.as rfl <| WOL.nil ?_
 have hws:∀ j,j < p + q - 1 → (wts p q).take (j + 1) = (wts p q).take j ++ [wgt p q j]:=fun j hj => by
  have hl:j < (wts p q).length:=by rw [wts_len];exact hj
  rw [List.take_succ_eq_append_getElem hl]
  have:(wts p q)[j] = wgt p q j:=by
   refine Option.some.inj ((List.getElem?_eq_getElem hl).symm.trans ?_)
   unfold wts
   rw [tbl_get,if_pos hj]
  rw [this]
 refine WL.fori (α:=Value) (p + q - 1) (fun j u g => HX h1 g ∧ OwnL encI h1.next g u 3 ((wts p q).take j)) (fun j u => [(1,ptr h.next),(3,u),(4,zi (1 - (p:Int) + (j:Nat)))]) (fun j u => [(1,ptr h.next),(3,u),(4,zi (1 - (p:Int) + (j:Nat)))]) (.slice none 0 0) ⟨HX.refl _,.inl ⟨rfl,rfl⟩⟩ (by rw [show 1 - (p:Int) + ((0:Nat):Int) = 1 - (p:Int) by omega];exact ⟨rfl,rfl,rfl,trivial⟩) ?_ ?_ (fun _ _ _ => ⟨rfl,rfl,rfl,trivial⟩) ?_ ?_
 ·rintro j u g hj ⟨X,_⟩
  refine WOL.mv rfl <| WOL.fa rfl (fa_of fo1112_1) <| WOL.ld rfl (load_one tp3 (A1.hx X) rfl) <| WOL.bi (v:=.bool (decide (j < p + q - 1))) rfl rfl ?_ <| WOL.nil fun x q => ⟨rfl,q.sub ⟨rfl,rfl,rfl,rfl,trivial⟩⟩
  show some (Value.bool (decide (1 - (p:Int) + (j:Nat) < (q:Int)))) = _
  rw [show decide (1 - (p:Int) + (j:Nat) < (q:Int)) = decide (j < p + q - 1) from decide_eq_decide.2 (by omega)]
 ·rintro j u g hj q
  refine WOL.mv rfl <| WOL.add (m:=1 - (p:Int) + (j:Nat)) (n:=1) rfl rfl (by omega) (by omega) ?_
  rw [show 1 - (p:Int) + ((j:Nat):Int) + 1 = 1 - (p:Int) + ((j + 1:Nat):Int) by omega]
  exact WOL.as rfl <| WOL.nil fun x k => ⟨q,k.sub ⟨rfl,rfl,rfl,trivial⟩⟩
 ·rintro j u g hj ⟨X,O⟩
  have A:=A1.hx X
  have xg:=X.next
  have Y:=N1.hx.trans X
  obtain ⟨c1,c2⟩:=mul_lim (w:=(p:Int)) (x:=(q:Int) - (1 - (p:Int) + (j:Nat))) (by omega) (by omega) (by omega) (by omega)
  obtain ⟨c3,c4⟩:=mul_lim (w:=(q:Int)) (x:=(p:Int) + (1 - (p:Int) + (j:Nat))) (by omega) (by omega) (by omega) (by omega)
  have push:∀ x g2,x = wgt p q j → New g g2 (.cells [zi x] true true 3) → ∃ u' g3,appendT Tryz.prog #[24,24] #[u,.slice (some ⟨g.next,0,none⟩) 1 1] g2 = some (u',g3) ∧ HX h1 g3 ∧ OwnL encI h1.next g3 u' 3 ((wts p q).take (j + 1)):=fun x g2 hx M1 => by
   have m1:=M1.next
   obtain ⟨w',i2,ap,O',x2,_⟩:=own_push (sT:=24) (x:=x) eI u29 tp3 (O.hx M1.hx) (SlC.own (sz:=1) (m:=1) rfl M1.at_) ((f.hx (Y.trans M1.hx)).up (by omega)) (by rw [List.length_take];omega) (by omega)
   refine ⟨w',i2,ap,x2 _ (X.trans M1.hx) (Nat.le_refl _),?_⟩
   rw [hws j hj,← hx]
   exact O'
  by_cases hk:j + 1 ≤ p
  ·refine WL.sr <| WOL.mv rfl <| WOL.bt rfl rfl rfl (by first | exact decide_eq_true (by omega) | exact beq_iff_eq.2 (by omega) | exact bne_iff_ne.2 (by omega)) <| WOL.nil <| WL.yes rfl <| WL.reg <| WOL.mv rfl <| WOL.fa rfl (fa_of fo1112_1) <| WOL.ld rfl (load_one tp3 A rfl) <| WOL.fa rfl (fa_of fo1112_0) <| WOL.ld rfl (load_one tp3 A rfl) <| WOL.mv rfl <| WOL.add (m:=(p:Int)) (n:=1 - (p:Int) + (j:Nat)) rfl rfl (by omega) (by omega) <| WOL.mul rfl rfl (Int.le_trans (by decide) c3) (Int.le_trans c4 (by decide)) <| WOL.bs1 rfl u29 tp3 rfl fun i1 M1 => ?_
   obtain ⟨u',g3,ap,X3,O3⟩:=push _ _ (by unfold wgt;rw [if_pos hk,show (p:Int) + (1 - (p:Int) + ((j:Nat):Int)) = (j:Int) + 1 by omega]) M1
   exact WOL.ap rfl rfl ap <| WOL.as rfl <| WOL.nil fun y k => ⟨u',⟨X3,O3⟩,k.sub ⟨rfl,rfl,rfl,trivial⟩⟩
  ·refine WL.sr <| WOL.mv rfl <| WOL.bf rfl rfl rfl (by first | exact decide_eq_false (by omega) | exact beq_eq_false_iff_ne.2 (by omega) | exact bne_eq_false_iff_eq.2 (by omega)) <| WOL.nil <| WL.no rfl <| WL.reg <| WOL.mv rfl <| WOL.fa rfl (fa_of fo1112_0) <| WOL.ld rfl (load_one tp3 A rfl) <| WOL.fa rfl (fa_of fo1112_1) <| WOL.ld rfl (load_one tp3 A rfl) <| WOL.mv rfl <| WOL.sub (m:=(q:Int)) (n:=1 - (p:Int) + (j:Nat)) rfl rfl (by omega) (by omega) <| WOL.mul rfl rfl (Int.le_trans (by decide) c1) (Int.le_trans c2 (by decide)) <| WOL.bs1 rfl u29 tp3 rfl fun i1 M1 => ?_
   obtain ⟨u',g3,ap,X3,O3⟩:=push _ _ (by unfold wgt;rw [if_neg hk,show (q:Int) - (1 - (p:Int) + ((j:Nat):Int)) = (p:Int) + q - 1 - j by omega]) M1
   exact WOL.ap rfl rfl ap <| WOL.as rfl <| WOL.nil fun y k => ⟨u',⟨X3,O3⟩,k.sub ⟨rfl,rfl,rfl,trivial⟩⟩
 ·rintro u g ⟨X,O⟩
  have O:OwnL encI h1.next g u 3 ((wts p q).take (p + q - 1)):=O
  rw [← wts_len (p:=p) (q:=q),List.take_length] at O
  have xn:=N1.hx.next
  exact WL.sr <| WOL.mv rfl <| WOL.as rfl <| WOL.nil <| WL.ret (WL.end_ rfl ⟨N1.hx.trans X,O.low xn⟩)
end
end Go.Tidy
namespace Go.Tidy
open Go Go.Proofs Tab
variable {tp:TProg}
theorem k11t (A:Awk tp) (h:TH):CallW Tryz.prog tp (.func (.func 12) #[] #[]) #[] h fun v h' => v = .bool true ∧ h' = h:=by
 obtain ⟨e,e1,e2⟩:=A.e
 exact CallW.ext A.no e1 rfl e2 rfl ⟨rfl,rfl⟩
theorem IsInts.keep {g g':TH} {y:Value} {L:List Int} (i:IsInts g y L) (k:∀ b x,bl y = some b → At g b x → At g' b x):IsInts g' y L:=by
 rcases i with i | ⟨b,c,fix,wr,el,i1,i2,i3⟩
 ·exact .inl i
 ·subst i1
  have:=k b _ rfl ⟨i3,i2⟩
  exact .inr ⟨b,c,fix,wr,el,rfl,this.lt,this.get⟩
def CelA (ty:TypeId) (n:Int) (o:Int × List Int × List (Int × Int)) (g:TH) (c:Nat):Prop:=∃ z b1 m1 k1 b2 m2 k2,At g c (.cells [zi z,.slice b1 m1 k1,.slice b2 m2 k2] true true ty) ∧ IsInts g (.slice b1 m1 k1) o.2.1 ∧ SlL encS 2 g (.slice b2 m2 k2) o.2.2 ∧ ((o.1 ≠ 0 ∧ z = 0 ∧ o.2.1 = [] ∧ o.2.2 = []) ∨ (o.1 = 0 ∧ z = n))
theorem CelA.hx {ty:TypeId} {n:Int} {o:Int × List Int × List (Int × Int)} {g g':TH} {c:Nat} (q:CelA ty n o g c) (x:HX g g'):CelA ty n o g' c:=by
 obtain ⟨z,b1,m1,k1,b2,m2,k2,A,i,s,e⟩:=q
 exact ⟨z,b1,m1,k1,b2,m2,k2,A.hx x,i.hx x,s.hx x,e⟩
section
variable {h h0:TH} {a b n1 n2 m1 m2 e1:Int} {v1 v2 w1 w2:Value} {L1:List Int} {S1:List (Int × Int)} {o1 o2:Int × List Int × List (Int × Int)} {c3 c4 c7 c9 c14 c15:Nat}
end
end Go.Tidy
namespace Go.Tidy
open Go Go.Proofs Tab
variable {tp:TProg}
theorem shortB2_le {m k:Nat} (h:shortB2 m k = true):m ≤ 900000 ∧ k ≤ 900000:=by
 unfold shortB2 at h
 cases h1:decide ((m:Int) ≤ 60) with
 | true =>
  rw [h1] at h
  have a1:=of_decide_eq_true h1
  have a2:((k:Int) ≤ 12):=of_decide_eq_true h
  omega
 | false =>
  rw [h1] at h
  cases h2:((m:Int) == 4097) with
  | true =>
   rw [h2] at h
   have a1:(m:Int) = 4097:=eq_of_beq h2
   have a2:((k:Int) ≤ 12):=of_decide_eq_true h
   omega
  | false => rw [h2] at h;cases h
theorem holesOf_le (B:List Bool):(holesOf B).length ≤ B.length:=by
 have:=holesN_len B B.length
 show (holesN _ _).length ≤ _
 exact this
section
variable {h:TH} {a b n1 n2 p:Int} {v1 v2 w1 w2:Value} {L1 L2:List Int} {S1 S2:List (Int × Int)}
end
set_option maxRecDepth 100000 in
theorem ty_trc {h:TH} {n:Nat} {ps:List Value} (y:Ty Tryz.prog h (n + 4) 27 ps):∃ z v1 v2 L S,ps = [zi z,v1,v2] ∧ TrcH h v1 v2 L S:=by
 obtain ⟨p,q,rfl,_,y1,p',q',rfl,_,y2,p2,q2,rfl,_,y3,rfl⟩:=tyg_struct Tryz.underlying27 y
 obtain ⟨z,rfl,_⟩:=ty_int y1
 obtain ⟨v1,L,rfl,r1,g1⟩:=tyg_slice eI u29 (fun p y => by obtain ⟨b,e,_⟩:=ty_int y;exact ⟨b,e⟩) y2
 obtain ⟨v2,S,rfl,r2,_⟩:=tyg_slice eS u44 (fun p y => ty_span y) y3
 exact ⟨z,v1,v2,L,S,rfl,r1,r2,g1 3⟩
end Go.Tidy
namespace Go.Tidy
open Go Go.Proofs Tab
theorem args3 {P:Program} {h:TH} {m:Nat} {t0 t1 t2:TypeId} {us:List Value} (ha:Args P h m [t0,t1,t2] us):∃ x0 x1 x2,us = [x0,x1,x2] ∧ (∃ ps,Ty P h m t0 ps ∧ x0 = valOf P t0 ps) ∧ (∃ ps,Ty P h m t1 ps ∧ x1 = valOf P t1 ps) ∧ ∃ ps,Ty P h m t2 ps ∧ x2 = valOf P t2 ps:=by
 match us,ha with
 | [x0,x1,x2],⟨a0,a1,a2,_⟩ => exact ⟨x0,x1,x2,rfl,a0,a1,a2⟩
end Go.Tidy
namespace Go.Tidy
open Go Go.Proofs Tab
variable {tp:TProg}
theorem sumO_l1 {e:Int} {C:List (Int × Bool)}:(sumO e C).2.1.length ≤ C.length:=by
 unfold sumO
 split
 ·exact Nat.zero_le _
 ·split
  ·exact Nat.zero_le _
  ·show (valC C).length ≤ _
   unfold valC
   rw [List.length_map];exact Nat.le_refl _
theorem sumO_l2 {e:Int} {C:List (Int × Bool)}:(sumO e C).2.2.length ≤ C.length:=by
 unfold sumO
 split
 ·exact Nat.zero_le _
 ·split
  ·exact Nat.zero_le _
  ·refine Nat.le_trans (holesOf_le _) ?_
   rw [List.length_map];exact Nat.le_refl _
theorem sumO_err {e:Int} {C:List (Int × Bool)} (h:e ≠ 0):sumO e C = (e,[],[]):=by unfold sumO;rw [if_pos h]
theorem CelA.err {n e:Int} {g:TH} {c:Nat} {ty:TypeId} (h:e ≠ 0) (A:At g c (.cells [zi 0,.slice none 0 0,.slice none 0 0] true true ty)):CelA ty n (e,[],[]) g c:=⟨0,_,_,_,_,_,_,A,.inl ⟨rfl,rfl⟩,SlL.nil,.inl ⟨h,rfl,rfl,rfl⟩⟩
theorem CelA.keep {ty:TypeId} {n:Int} {o:Int × List Int × List (Int × Int)} {g g':TH} {c:Nat} (q:CelA ty n o g c) (k:∀ b x,At g b x → At g' b x):CelA ty n o g' c:=by
 obtain ⟨z,b1,m1,k1,b2,m2,k2,A,i,s,e⟩:=q
 exact ⟨z,b1,m1,k1,b2,m2,k2,k _ _ A,i.keep fun b x _ a => k _ _ a,slC_keep s fun b x _ a => k _ _ a,e⟩
theorem celOne {n:Int} {o:Int × List Int × List (Int × Int)} {g h0:TH} {c c':Nat} (H:Has tp) (f:Free0 h0.next h0) (X0:HX h0 g) (C:CelA 31 n o g c) (C':CelA 27 n o g c') (l1:o.2.1.length ≤ 1000000) (l2:o.2.2.length ≤ 1000000):∃ u1 u2,At g c u1 ∧ At g c' u2 ∧ ∃ z z' b1 m1 k1 b2 m2 k2 b3 m3 k3 b4 m4 k4,u1 = .cells [zi z,.slice b1 m1 k1,.slice b2 m2 k2] true true 31 ∧ u2 = .cells [zi z',.slice b3 m3 k3,.slice b4 m4 k4] true true 27 ∧ CallW Tryz.prog tp (.func (.func 24) #[] #[]) #[trcV z (.slice b1 m1 k1) (.slice b2 m2 k2),zi o.1,zi o.1,trcV z' (.slice b3 m3 k3) (.slice b4 m4 k4)] g fun v h' => v = .bool true ∧ HX g h':=by
 obtain ⟨z,b1,m1,k1,b2,m2,k2,A,i,s,e⟩:=C
 obtain ⟨z',b3,m3,k3,b4,m4,k4,A',i',s',e'⟩:=C'
 refine ⟨_,_,A,A',z,z',b1,m1,k1,b2,m2,k2,b3,m3,k3,b4,m4,k4,rfl,rfl,k1124 (n:=z) (n':=z') H i s rfl rfl l1 l2 (f.on X0) ?_⟩
 rcases e with e | ⟨q1,q2⟩
 ·exact .inl e
 ·rcases e' with e' | ⟨q3,q4⟩
  ·exact absurd q1 e'.1
  ·exact .inr ⟨q1,q2.trans q4.symm,i',s'⟩
section
variable {h h0:TH} {a b n m1 m2 E1:Int} {v1 v2 w9 w16:Value} {L:List Int} {S:List (Int × Int)} {l3:List Int} {o1 o2:Int × List Int × List (Int × Int)} {c2 c3 c5 c7 c14 c15 p q:Nat}
end
end Go.Tidy
namespace Go.Tidy
open Go Go.Proofs Tab
variable {tp:TProg}
theorem out_mm {x l m:Int} (h:outB x l m = 0):l ≤ x ∧ x ≤ m:=by
 unfold outB at h
 by_cases c1:x < l
 ·rw [decide_eq_true c1] at h;cases h
 ·by_cases c2:m < x
  ·rw [decide_eq_false c1,decide_eq_true c2] at h;cases h
  ·omega
theorem wts_get {p q j:Nat} (h:j < p + q - 1):(wts p q).getD j 0 = wgt p q j:=by
 unfold wts
 rw [List.getD_eq_getElem?_getD,tbl_get,if_pos h];rfl
theorem wts_lim {p q:Nat} (hp:p ≤ 32) (hq:q ≤ 32) (j:Nat):-10000 ≤ (wts p q).getD j 0 ∧ (wts p q).getD j 0 ≤ 10000:=by
 by_cases h:j < p + q - 1
 ·rw [wts_get h]
  have:=wgt_lim (i:=j) hp hq (by omega)
  omega
 ·rw [List.getD_eq_getElem?_getD,List.getElem?_eq_none (by rw [wts_len];omega)]
  decide
theorem wgt_pos {p q i:Nat} (hp:1 ≤ p) (hq:1 ≤ q) (hi:i < p + q - 1):wgt p q i ≠ 0:=by
 unfold wgt
 split
 ·exact Int.mul_ne_zero (by omega) (by omega)
 ·exact Int.mul_ne_zero (by omega) (by omega)
theorem wTn_wts {p q st:Nat} (hp:1 ≤ p) (hq:1 ≤ q):∀ j,j ≤ p + q - 1 → wTn (wts p q) st j = (List.range j).map fun i => (i * st,wgt p q i)
 | 0,_ => rfl
 | j + 1,h => by
  unfold wTn
  rw [wts_get (by omega),if_neg (wgt_pos hp hq (by omega)),wTn_wts hp hq j (by omega),List.range_succ,List.map_append]
  rfl
theorem arm_mul {p st:Nat} (hp:1 ≤ p):(1 - (p:Int)) * (st:Int) = -(((p - 1) * st:Nat):Int):=by
 rw [show 1 - (p:Int) = -((p - 1:Nat):Int) by omega,Int.neg_mul];rfl
theorem arms_add {p q st:Nat} (hp:1 ≤ p) (hq:1 ≤ q):(p - 1) * st + (q - 1) * st = (p + q - 2) * st:=by
 rw [← Nat.add_mul,show p - 1 + (q - 1) = p + q - 2 by omega]
section
variable {h:TH} {n a b s:Int} {v1 v2:Value} {L:List Int} {S:List (Int × Int)} {p q st:Nat}
set_option maxHeartbeats 2000000 in
set_option maxRecDepth 10000 in
theorem k1132 (H:Has tp) (r:TrcH h v1 v2 L S) (l1:L.length ≤ 900000) (t1:S.length ≤ 900000) (f:Free0 h.next h) :
  CallW Tryz.prog tp (.func (.func 32) #[] #[]) #[.agg #[zi a,zi b],zi s,trcV n v1 v2] h fun v h' => HX h h' ∧ ProgR (n - (1 - a) * s) (errV (firstNZ [chordE a b,outB s 1 32,traceE n L S]) L.length ((a.toNat + b.toNat - 2) * s.toNat)) (tapC L S (wTp a.toNat b.toNat s.toNat) (L.length - (a.toNat + b.toNat - 2) * s.toNat)) h.next h' v:=by
 refine CallW.fnL (H.fn 32 f1132 rfl rfl) ?_
 obtain ⟨b1,k1,e1,_⟩:=id r.l
 obtain ⟨b2,k2,e2,_⟩:=id r.s
 subst e1 e2
 refine WL.sr <| WOL.box rfl fun h1 N1 => WOL.box rfl fun h2 N2 => WOL.al tp1117 fun h3 N3 => WOL.as rfl <| WOL.nil <| keep [(1,_),(3,_),(5,_),(6,_)] ⟨rfl,rfl,rfl,rfl,trivial⟩ ?_
 have q1:=N1.next
 have q2:=N2.next
 have q3:=N3.next
 have A3:At h3 h.next (.cells [zi a,zi b] true true 44):=(N1.at_.hx N2.hx).hx N3.hx
 have A5:At h3 h1.next (.cells [zi n,.slice b1 L.length k1,.slice b2 S.length k2] true true 31):=N2.at_.hx N3.hx
 have A6:=N3.at_
 have X3:=(N1.hx.trans N2.hx).trans N3.hx
 refine WL.sr <| WOL.ld rfl (load_row tp1128 A3 rfl (Nat.le_of_ble_eq_true rfl)) <| WOL.mv rfl <| WOL.ld rfl (load_row tp1117 A5 rfl (Nat.le_of_ble_eq_true rfl)) ?_
 refine WOL.lk1 rfl rfl fun M => ((k1121 H a b _).mono ?_)
 rintro v h4 ⟨rfl,X4⟩
 replace X4:=X4.relock
 generalize h4.withLock h3.lock = h4 at *
 refine WOL.lk3 rfl rfl rfl rfl fun M => ((k72 H s 1 32 _).mono ?_)
 rintro v h5 ⟨rfl,rfl⟩
 rw [TH.relock]
 refine WOL.cl1 rfl rfl ((k1123 (n:=n) H (r.hx (X3.trans X4)) (by omega) (by omega) (f.on (X3.trans X4))).mono ?_)
 rintro v h5 ⟨rfl,X5⟩
 refine WOL.bsl rfl u166 tp30 (by decide) (by decide) (by decide) (filled_ints3 _ _ _) fun h6 N6 => WOL.cl1 rfl rfl ((k71 H (l:=[_,_,_]) N6.at_.get (by simp)).mono ?_)
 rintro v h6 ⟨rfl,rfl⟩
 have Z:=(X4.trans X5).trans N6.hx
 have Y:=X3.trans Z
 replace A3:=A3.hx Z;replace A5:=A5.hx Z;replace A6:=A6.hx Z
 have yn:=Y.next
 refine WOL.as rfl <| WOL.nil <| keep [(1,_),(3,_),(5,_),(6,_),(8,_)] ⟨rfl,rfl,rfl,rfl,rfl,trivial⟩ ?_
 generalize hE:firstNZ [chordE a b,outB s 1 32,traceE n L S] = E
 by_cases e0:E ≠ 0
 ·rw [errV_no e0]
  refine WL.seq <| WL.sr <| WOL.mv rfl <| WOL.bt rfl rfl rfl (bne_iff_ne.2 e0) <| WOL.nil <| WL.yes rfl <| WL.sr <| WOL.bd rfl bd1117z <| WOL.mv rfl <| WOL.sto (vs:=[zi 0,.slice none 0 0,.slice none 0 0]) rfl rfl tp1117 A6 rfl rfl (Nat.le_of_ble_eq_true rfl) rfl (f.hx Y) (by omega) fun i1 M1 => WOL.as rfl <| WOL.nil ?_
  exact WL.ret (WL.endC1 rfl rfl (load_row tp1117 M1.at_ rfl (Nat.le_of_ble_eq_true rfl)) ⟨M1.hx _ Y (by omega),.inl ⟨e0,rfl⟩⟩)
 have e0:E = 0:=Classical.not_not.1 e0
 subst e0
 have all:=firstNZ_zero hE
 obtain ⟨⟨m1,m2⟩,m3,m4,m5,m6,m7⟩:=trace_ok (all (traceE n L S) (by simp))
 obtain ⟨p1,p2,p3,p4⟩:=chord_ok (all (chordE a b) (by simp))
 obtain ⟨p5,p6⟩:=out_mm (all (outB s 1 32) (by simp))
 obtain ⟨p,rfl⟩:∃ p:Nat,a = p:=⟨a.toNat,by omega⟩
 obtain ⟨q,rfl⟩:∃ q:Nat,b = q:=⟨b.toNat,by omega⟩
 obtain ⟨st,rfl⟩:∃ st:Nat,s = st:=⟨s.toNat,by omega⟩
 rw [errV_ok,Int.toNat_natCast,Int.toNat_natCast,Int.toNat_natCast]
 have mp:=Nat.mul_le_mul (show p - 1 ≤ 31 by omega) (show st ≤ 32 by omega)
 have mw:=Nat.mul_le_mul (show p + q - 2 ≤ 62 by omega) (show st ≤ 32 by omega)
 have ea:=arm_mul (p:=p) (st:=st) (by omega)
 refine WL.seq <| WL.sr <| WOL.mv rfl <| WOL.bf rfl rfl rfl rfl <| WOL.nil <| keep [(1,_),(3,_),(5,_),(6,_),(18,_)] ⟨rfl,rfl,rfl,rfl,rfl,trivial⟩ <| WL.no rfl <| WL.skip ?_
 refine WL.sr <| WOL.ld rfl (load_row tp1117 A5 rfl (Nat.le_of_ble_eq_true rfl)) <| WOL.ld rfl (load_row tp1128 A3 rfl (Nat.le_of_ble_eq_true rfl)) <| WOL.mv rfl ?_
 have l5:=A5.lt
 refine WOL.lq2 [h1.next] rfl rfl rfl rfl fun M hM => ((k1198 (h:=h6.withLock M) (p:=p) (q:=q) (st:=st) H (by omega) (by omega) (by omega) (by omega) (by omega) ((f.on Y).held hM (fun b hb => by simp at hb;omega))).mono ?_)
 rintro v g1 ⟨Xg,c,rfl,hc,Ac⟩
 replace Xg:=Xg.relock
 replace Ac:=Ac.relock h6.lock
 generalize g1.withLock h6.lock = g1 at *
 have Yg:=Y.trans Xg
 have lD:(tapD ((1 - (p:Int)) * st) (wTp p q st)).length = p + q - 1:=by unfold tapD;rw [List.length_map,wTp_len]
 refine WOL.cl2 rfl rfl rfl ((k1193 (n:=n) (W:=(p + q - 2) * st) (c:=(1 - (p:Int)) * st) H (r.hx Yg) (SlL.own eS Ac lD) (wTaps (by omega) (by omega) (by omega) (by omega)) m3 m1 m2 (by omega) (by omega) (by omega) l1 (by omega) (holeE_in m4) (by omega) (f.on Yg)).mono ?_)
 rintro v g2 ⟨X2,R⟩
 have x2:=(Yg.trans X2).next
 have x3:=Yg.next
 have l4:=(A6.hx Xg).lt
 rcases R with ⟨heT,rfl⟩ | ⟨heT,hbT,rfl⟩ | ⟨heT,hbT,bvT,wT,rfl,hvT,toT⟩
 ·exact WOL.ex rfl rfl <| WOL.ex rfl rfl <| WOL.sto (vs:=[zi 0,.slice none 0 0,.slice none 0 0]) rfl rfl tp1117 ((A6.hx Xg).hx X2) rfl rfl (Nat.le_of_ble_eq_true rfl) rfl (f.hx (Yg.trans X2)) (by omega) fun iT MT => WOL.as rfl <| WOL.nil <| WL.ret (WL.endC1 rfl rfl (load_row tp1117 MT.at_ rfl (Nat.le_of_ble_eq_true rfl)) ⟨MT.hx _ (Yg.trans X2) (by omega),.inl ⟨heT,rfl⟩⟩)
 ·exact WOL.ex rfl rfl <| WOL.ex rfl rfl <| WOL.sto (vs:=[zi 0,.slice none 0 0,.slice none 0 0]) rfl rfl tp1117 ((A6.hx Xg).hx X2) rfl rfl (Nat.le_of_ble_eq_true rfl) rfl (f.hx (Yg.trans X2)) (by omega) fun iT MT => WOL.as rfl <| WOL.nil <| WL.ret (WL.endC1 rfl rfl (load_row tp1117 MT.at_ rfl (Nat.le_of_ble_eq_true rfl)) ⟨MT.hx _ (Yg.trans X2) (by omega),.inr (.inl ⟨heT,hbT,rfl⟩)⟩)
 ·obtain ⟨b2T,m2T,k2T,rfl⟩:=toT.form
  exact WOL.ex rfl rfl <| WOL.ex rfl rfl <| WOL.sto (vs:=[zi _,slA bvT _,.slice b2T m2T k2T]) rfl rfl tp1117 ((A6.hx Xg).hx X2) rfl rfl (Nat.le_of_ble_eq_true rfl) rfl (f.hx (Yg.trans X2)) (by omega) fun iT MT => WOL.as rfl <| WOL.nil <| WL.ret (WL.endC1 rfl rfl (load_row tp1117 MT.at_ rfl (Nat.le_of_ble_eq_true rfl)) ⟨MT.hx _ (Yg.trans X2) (by omega),.inr (.inr ⟨heT,hbT,bvT,_,rfl,by omega,(toT.put MT (by omega) (by omega)).low (by omega)⟩)⟩)
theorem k1131 (H:Has tp) (r:TrcH h v1 v2 L S) (l1:L.length ≤ 900000) (t1:S.length ≤ 900000) (f:Free0 h.next h) :
  CallW Tryz.prog tp (.func (.func 31) #[] #[]) #[.agg #[zi a,zi b],trcV n v1 v2] h fun v h' => HX h h' ∧ ProgR (n - (1 - a) * 1) (errV (firstNZ [chordE a b,outB 1 1 32,traceE n L S]) L.length ((a.toNat + b.toNat - 2) * 1)) (tapC L S (wTp a.toNat b.toNat 1) (L.length - (a.toNat + b.toNat - 2) * 1)) h.next h' v:=by
 refine CallW.fnL (H.fn 31 f1131 rfl rfl) ?_
 obtain ⟨b1,k1,e1,_⟩:=id r.l
 obtain ⟨b2,k2,e2,_⟩:=id r.s
 subst e1 e2
 refine WL.sr <| WOL.box rfl fun h1 N1 => WOL.box rfl fun h2 N2 => WOL.al tp1117 fun h3 N3 => WOL.as rfl <| WOL.nil <| keep [(2,_),(3,_),(4,_)] ⟨rfl,rfl,rfl,trivial⟩ ?_
 have q1:=N1.next
 have q2:=N2.next
 have q3:=N3.next
 have A2:At h3 h.next (.cells [zi a,zi b] true true 44):=(N1.at_.hx N2.hx).hx N3.hx
 have A3:At h3 h1.next (.cells [zi n,.slice b1 L.length k1,.slice b2 S.length k2] true true 31):=N2.at_.hx N3.hx
 have A4:=N3.at_
 have X3:=(N1.hx.trans N2.hx).trans N3.hx
 have l4:=A4.lt
 refine WL.sr <| WOL.ld rfl (load_row tp1128 A2 rfl (Nat.le_of_ble_eq_true rfl)) <| WOL.ld rfl (load_row tp1117 A3 rfl (Nat.le_of_ble_eq_true rfl)) <| WOL.cl3 rfl rfl rfl rfl ((k1132 (n:=n) (a:=a) (b:=b) (s:=1) H (r.hx X3) l1 t1 (f.on X3)).mono ?_)
 rintro v g ⟨X,R⟩
 have x1:=X3.next
 have x2:=X.next
 replace R:ProgR (n - (1 - a) * 1) (errV (firstNZ [chordE a b,outB 1 1 32,traceE n L S]) L.length ((a.toNat + b.toNat - 2) * 1)) (tapC L S (wTp a.toNat b.toNat 1) (L.length - (a.toNat + b.toNat - 2) * 1)) h3.next g v:=R
 rcases R with ⟨heT,rfl⟩ | ⟨heT,hbT,rfl⟩ | ⟨heT,hbT,bvT,wT,rfl,hvT,toT⟩
 ·exact WOL.ex rfl rfl <| WOL.ex rfl rfl <| WOL.sto (vs:=[zi 0,.slice none 0 0,.slice none 0 0]) rfl rfl tp1117 (A4.hx X) rfl rfl (Nat.le_of_ble_eq_true rfl) rfl (f.hx (X3.trans X)) (by omega) fun iT MT => WOL.as rfl <| WOL.nil <| WL.ret (WL.endC1 rfl rfl (load_row tp1117 MT.at_ rfl (Nat.le_of_ble_eq_true rfl)) ⟨MT.hx _ (X3.trans X) (by omega),.inl ⟨heT,rfl⟩⟩)
 ·exact WOL.ex rfl rfl <| WOL.ex rfl rfl <| WOL.sto (vs:=[zi 0,.slice none 0 0,.slice none 0 0]) rfl rfl tp1117 (A4.hx X) rfl rfl (Nat.le_of_ble_eq_true rfl) rfl (f.hx (X3.trans X)) (by omega) fun iT MT => WOL.as rfl <| WOL.nil <| WL.ret (WL.endC1 rfl rfl (load_row tp1117 MT.at_ rfl (Nat.le_of_ble_eq_true rfl)) ⟨MT.hx _ (X3.trans X) (by omega),.inr (.inl ⟨heT,hbT,rfl⟩)⟩)
 ·obtain ⟨b2T,m2T,k2T,rfl⟩:=toT.form
  exact WOL.ex rfl rfl <| WOL.ex rfl rfl <| WOL.sto (vs:=[zi _,slA bvT _,.slice b2T m2T k2T]) rfl rfl tp1117 (A4.hx X) rfl rfl (Nat.le_of_ble_eq_true rfl) rfl (f.hx (X3.trans X)) (by omega) fun iT MT => WOL.as rfl <| WOL.nil <| WL.ret (WL.endC1 rfl rfl (load_row tp1117 MT.at_ rfl (Nat.le_of_ble_eq_true rfl)) ⟨MT.hx _ (X3.trans X) (by omega),.inr (.inr ⟨heT,hbT,bvT,_,rfl,by omega,(toT.put MT (by omega) (by omega)).low (by omega)⟩)⟩)
theorem tapR_wts {hp:1 ≤ p} {hq:1 ≤ q} {g:TH} {v:Value} {n0:Nat} (R:TapR (n + ((p - 1) * st:Nat)) (cond (decide (L.length ≤ (p - 1) * st + (q - 1) * st)) 16 0) (tapC L S (wTn (wts p q) st (wts p q).length) (L.length - ((p - 1) * st + (q - 1) * st))) n0 g v):TapR (n - (1 - (p:Int)) * st) (cond (decide (L.length ≤ (p + q - 2) * st)) 16 0) (tapC L S (wTp p q st) (L.length - (p + q - 2) * st)) n0 g v:=by
 rw [arm_mul hp,Int.sub_neg,← arms_add hp hq]
 rw [wts_len,wTn_wts hp hq _ (Nat.le_refl _)] at R
 exact R
set_option maxHeartbeats 2000000 in
set_option maxRecDepth 10000 in
theorem k1133 (H:Has tp) (r:TrcH h v1 v2 L S) (hp:1 ≤ p) (hp':p ≤ 32) (hq:1 ≤ q) (hq':q ≤ 32) (lim:∀ j,-1073741824 ≤ L.getD j 0 ∧ L.getD j 0 ≤ 1073741824) (m1:0 ≤ n) (m2:n ≤ 100000000) (l1:L.length ≤ 900000) (t1:S.length ≤ 900000) (f:Free0 h.next h) :
  CallW Tryz.prog tp (.func (.func 33) #[] #[]) #[.agg #[zi (p:Nat),zi (q:Nat)],trcV n v1 v2] h fun v h' => HX h h' ∧ TapR (n - (1 - (p:Int)) * ((1:Nat):Int)) (cond (decide (L.length ≤ (p + q - 2) * 1)) 16 0) (tapC L S (wTp p q 1) (L.length - (p + q - 2) * 1)) h.next h' v:=by
 refine CallW.fnL (H.fn 33 f1133 rfl rfl) ?_
 obtain ⟨b1,k1,e1,_⟩:=id r.l
 obtain ⟨b2,k2,e2,_⟩:=id r.s
 subst e1 e2
 refine WL.sr <| WOL.box rfl fun h1 N1 => WOL.box rfl fun h2 N2 => WOL.al tp1114 fun h3 N3 => WOL.as rfl <| WOL.nil <| keep [(2,_),(3,_),(4,_)] ⟨rfl,rfl,rfl,trivial⟩ ?_
 have q1:=N1.next
 have q2:=N2.next
 have q3:=N3.next
 have A2:At h3 h.next (.cells [zi (p:Nat),zi (q:Nat)] true true 23):=(N1.at_.hx N2.hx).hx N3.hx
 have A3:At h3 h1.next (.cells [zi n,.slice b1 L.length k1,.slice b2 S.length k2] true true 27):=N2.at_.hx N3.hx
 have A4:=N3.at_
 have X3:=(N1.hx.trans N2.hx).trans N3.hx
 have l4:=A4.lt
 refine WL.sr <| WOL.ld rfl (load_row tp1114 A3 rfl (Nat.le_of_ble_eq_true rfl)) <| WOL.ld rfl (load_row tp1112 A2 rfl (Nat.le_of_ble_eq_true rfl)) <| WOL.fa rfl (fa_of fo1112_0) <| WOL.ld rfl (load_one tp3 A2 rfl) <| WOL.sub (m:=(p:Int)) (n:=1) rfl rfl (by omega) (by omega) <| WOL.fa rfl (fa_of fo1112_1) <| WOL.ld rfl (load_one tp3 A2 rfl) <| WOL.sub (m:=(q:Int)) (n:=1) rfl rfl (by omega) (by omega) ?_
 rw [show (p:Int) - 1 = (((p - 1) * 1:Nat):Int) by omega,show (q:Int) - 1 = (((q - 1) * 1:Nat):Int) by omega]
 refine WOL.lq1 [h.next,h.next,h1.next] rfl rfl rfl fun M hM => ((k1129 (h:=h3.withLock M) H hp hp' hq hq' ((f.on X3).held hM (fun b hb => by simp at hb;omega))).mono ?_)
 rintro v h4 ⟨X4,O⟩
 replace X4:=X4.relock
 replace O:=own_lock O h3.lock
 generalize h4.withLock h3.lock = h4 at *
 have Y:=X3.trans X4
 refine WOL.cl5 rfl rfl rfl rfl rfl rfl ((k1197 (n:=n) (b:=(p - 1) * 1) (a:=(q - 1) * 1) (st:=1) (Wt:=wts p q) H (r.hx Y) (O.sl eI) (fun k hk => by rw [wts_len] at hk;omega) (by omega) (by omega) (by omega) (by rw [wts_len];omega) (wts_lim hp' hq') lim m1 m2 l1 (by omega) (f.on Y)).mono ?_)
 rintro v g ⟨X,R⟩
 replace R:=tapR_wts (hp:=hp) (hq:=hq) (st:=1) R
 have x1:=Y.next
 have x2:=X.next
 have x4:=X4.next
 rcases R with ⟨heT,rfl⟩ | ⟨heT,⟨hbT,rfl⟩ | ⟨hbT,u1T,u2T,rfl,o1T,o2T⟩⟩
 ·exact WOL.ex rfl rfl <| WOL.ex rfl rfl <| WOL.sto (vs:=[zi 0,.slice none 0 0,.slice none 0 0]) rfl rfl tp1114 ((A4.hx X4).hx X) rfl rfl (Nat.le_of_ble_eq_true rfl) rfl (f.hx (Y.trans X)) (by omega) fun iT MT => WOL.as rfl <| WOL.nil <| WL.ret (WL.endC1 rfl rfl (load_row tp1114 MT.at_ rfl (Nat.le_of_ble_eq_true rfl)) ⟨MT.hx _ (Y.trans X) (by omega),.inl ⟨heT,rfl⟩⟩)
 ·exact WOL.ex rfl rfl <| WOL.ex rfl rfl <| WOL.sto (vs:=[zi 0,.slice none 0 0,.slice none 0 0]) rfl rfl tp1114 ((A4.hx X4).hx X) rfl rfl (Nat.le_of_ble_eq_true rfl) rfl (f.hx (Y.trans X)) (by omega) fun iT MT => WOL.as rfl <| WOL.nil <| WL.ret (WL.endC1 rfl rfl (load_row tp1114 MT.at_ rfl (Nat.le_of_ble_eq_true rfl)) ⟨MT.hx _ (Y.trans X) (by omega),.inr ⟨heT,.inl ⟨hbT,rfl⟩⟩⟩)
 ·obtain ⟨z1T,e1T⟩:=OwnF.form (Or.inl o1T)
  obtain ⟨z2T,e2T⟩:=OwnF.form (Or.inl o2T)
  exact WOL.ex rfl rfl <| WOL.ex rfl rfl <| WOL.sto (vs:=[zi _,u1T,u2T]) rfl rfl tp1114 ((A4.hx X4).hx X) rfl rfl (Nat.le_of_ble_eq_true rfl) (by rw [e1T,e2T];rfl) (f.hx (Y.trans X)) (by omega) fun iT MT => WOL.as rfl <| WOL.nil <| WL.ret (WL.endC1 rfl rfl (load_row tp1114 MT.at_ rfl (Nat.le_of_ble_eq_true rfl)) ⟨MT.hx _ (Y.trans X) (by omega),.inr ⟨heT,.inr ⟨hbT,u1T,u2T,rfl,(o1T.keep fun z y hz a => MT.oth _ _ (by have:=o1T.lt hz;omega) a).low (by omega),(o2T.keep fun z y hz a => MT.oth _ _ (by have:=o2T.lt hz;omega) a).low (by omega)⟩⟩⟩)
set_option maxHeartbeats 2000000 in
set_option maxRecDepth 10000 in
theorem k1134 (H:Has tp) (r:TrcH h v1 v2 L S) (hp:1 ≤ p) (hp':p ≤ 32) (hq:1 ≤ q) (hq':q ≤ 32) (hst:st ≤ 32) (lim:∀ j,-1073741824 ≤ L.getD j 0 ∧ L.getD j 0 ≤ 1073741824) (m1:0 ≤ n) (m2:n ≤ 100000000) (l1:L.length ≤ 900000) (t1:S.length ≤ 900000) (f:Free0 h.next h) :
  CallW Tryz.prog tp (.func (.func 34) #[] #[]) #[.agg #[zi (p:Nat),zi (q:Nat)],zi (st:Nat),trcV n v1 v2] h fun v h' => HX h h' ∧ TapR (n - (1 - (p:Int)) * (st:Int)) (cond (decide (L.length ≤ (p + q - 2) * st)) 16 0) (tapC L S (wTp p q st) (L.length - (p + q - 2) * st)) h.next h' v:=by
 refine CallW.fnL (H.fn 34 f1134 rfl rfl) ?_
 obtain ⟨b1,k1,e1,_⟩:=id r.l
 obtain ⟨b2,k2,e2,_⟩:=id r.s
 subst e1 e2
 refine WL.sr <| WOL.box rfl fun h1 N1 => WOL.box rfl fun h2 N2 => WOL.al tp1114 fun h3 N3 => WOL.as rfl <| WOL.nil <| keep [(1,_),(3,_),(5,_),(6,_)] ⟨rfl,rfl,rfl,rfl,trivial⟩ ?_
 have q1:=N1.next
 have q2:=N2.next
 have q3:=N3.next
 have A2:At h3 h.next (.cells [zi (p:Nat),zi (q:Nat)] true true 23):=(N1.at_.hx N2.hx).hx N3.hx
 have A3:At h3 h1.next (.cells [zi n,.slice b1 L.length k1,.slice b2 S.length k2] true true 27):=N2.at_.hx N3.hx
 have A4:=N3.at_
 have X3:=(N1.hx.trans N2.hx).trans N3.hx
 have l4:=A4.lt
 have mp:=Nat.mul_le_mul (show p - 1 ≤ 31 by omega) hst
 have mq:=Nat.mul_le_mul (show q - 1 ≤ 31 by omega) hst
 refine WL.sr <| WOL.ld rfl (load_row tp1114 A3 rfl (Nat.le_of_ble_eq_true rfl)) <| WOL.ld rfl (load_row tp1112 A2 rfl (Nat.le_of_ble_eq_true rfl)) <| WOL.fa rfl (fa_of fo1112_0) <| WOL.ld rfl (load_one tp3 A2 rfl) <| WOL.sub (m:=(p:Int)) (n:=1) rfl rfl (by omega) (by omega) ?_
 rw [show (p:Int) - 1 = ((p - 1:Nat):Int) by omega]
 refine WOL.mv rfl <| WOL.mulN rfl rfl (by omega) <| WOL.fa rfl (fa_of fo1112_1) <| WOL.ld rfl (load_one tp3 A2 rfl) <| WOL.sub (m:=(q:Int)) (n:=1) rfl rfl (by omega) (by omega) ?_
 rw [show (q:Int) - 1 = ((q - 1:Nat):Int) by omega]
 refine WOL.mv rfl <| WOL.mulN rfl rfl (by omega) <| WOL.mv rfl ?_
 refine WOL.lq1 [h.next,h.next,h1.next] rfl rfl rfl fun M hM => ((k1129 (h:=h3.withLock M) H hp hp' hq hq' ((f.on X3).held hM (fun b hb => by simp at hb;omega))).mono ?_)
 rintro v h4 ⟨X4,O⟩
 replace X4:=X4.relock
 replace O:=own_lock O h3.lock
 generalize h4.withLock h3.lock = h4 at *
 have Y:=X3.trans X4
 refine WOL.cl5 rfl rfl rfl rfl rfl rfl ((k1197 (n:=n) (b:=(p - 1) * st) (a:=(q - 1) * st) (st:=st) (Wt:=wts p q) H (r.hx Y) (O.sl eI) (fun k hk => by rw [wts_len] at hk;rw [arms_add hp hq];exact Nat.mul_le_mul_right _ (by omega)) (by omega) (by omega) (by omega) (by rw [wts_len];omega) (wts_lim hp' hq') lim m1 m2 l1 (by omega) (f.on Y)).mono ?_)
 rintro v g ⟨X,R⟩
 replace R:=tapR_wts (hp:=hp) (hq:=hq) R
 have x1:=Y.next
 have x2:=X.next
 have x4:=X4.next
 rcases R with ⟨heT,rfl⟩ | ⟨heT,⟨hbT,rfl⟩ | ⟨hbT,u1T,u2T,rfl,o1T,o2T⟩⟩
 ·exact WOL.ex rfl rfl <| WOL.ex rfl rfl <| WOL.sto (vs:=[zi 0,.slice none 0 0,.slice none 0 0]) rfl rfl tp1114 ((A4.hx X4).hx X) rfl rfl (Nat.le_of_ble_eq_true rfl) rfl (f.hx (Y.trans X)) (by omega) fun iT MT => WOL.as rfl <| WOL.nil <| WL.ret (WL.endC1 rfl rfl (load_row tp1114 MT.at_ rfl (Nat.le_of_ble_eq_true rfl)) ⟨MT.hx _ (Y.trans X) (by omega),.inl ⟨heT,rfl⟩⟩)
 ·exact WOL.ex rfl rfl <| WOL.ex rfl rfl <| WOL.sto (vs:=[zi 0,.slice none 0 0,.slice none 0 0]) rfl rfl tp1114 ((A4.hx X4).hx X) rfl rfl (Nat.le_of_ble_eq_true rfl) rfl (f.hx (Y.trans X)) (by omega) fun iT MT => WOL.as rfl <| WOL.nil <| WL.ret (WL.endC1 rfl rfl (load_row tp1114 MT.at_ rfl (Nat.le_of_ble_eq_true rfl)) ⟨MT.hx _ (Y.trans X) (by omega),.inr ⟨heT,.inl ⟨hbT,rfl⟩⟩⟩)
 ·obtain ⟨z1T,e1T⟩:=OwnF.form (Or.inl o1T)
  obtain ⟨z2T,e2T⟩:=OwnF.form (Or.inl o2T)
  exact WOL.ex rfl rfl <| WOL.ex rfl rfl <| WOL.sto (vs:=[zi _,u1T,u2T]) rfl rfl tp1114 ((A4.hx X4).hx X) rfl rfl (Nat.le_of_ble_eq_true rfl) (by rw [e1T,e2T];rfl) (f.hx (Y.trans X)) (by omega) fun iT MT => WOL.as rfl <| WOL.nil <| WL.ret (WL.endC1 rfl rfl (load_row tp1114 MT.at_ rfl (Nat.le_of_ble_eq_true rfl)) ⟨MT.hx _ (Y.trans X) (by omega),.inr ⟨heT,.inr ⟨hbT,u1T,u2T,rfl,(o1T.keep fun z y hz a => MT.oth _ _ (by have:=o1T.lt hz;omega) a).low (by omega),(o2T.keep fun z y hz a => MT.oth _ _ (by have:=o2T.lt hz;omega) a).low (by omega)⟩⟩⟩)
end
end Go.Tidy
namespace Go.Tidy
open Go Go.Proofs Tab
variable {tp:TProg}
theorem firstW {e1 e2:Int}:firstNZ [e1,outB 1 1 32,e2] = firstNZ [e1,e2]:=by
 show cond (e1 != 0) e1 (cond (e2 != 0) e2 0) = cond (e1 != 0) e1 (cond (e2 != 0) e2 0)
 rfl
section
variable {h h0 hb:TH} {a b n s m1 m2:Int} {v1 v2:Value} {L:List Int} {S:List (Int × Int)} {o1 o2:Int × List Int × List (Int × Int)} {c3 c5 c7 c9 c13 c14:Nat}
def cd1102c:TCode:=.seq (.reg r1102_12) .ret
def cd1102b:TCode:=.seq (.seq (.reg r1102_10) (.cond (.tmp 57) (.reg r1102_11) .skip)) cd1102c
def cd1102a:TCode:=.seq (.seq (.reg r1102_8) (.cond (.tmp 49) (.reg r1102_9) .skip)) cd1102b
set_option maxHeartbeats 4000000 in
set_option maxRecDepth 10000 in
theorem k1102c (H:Has tp) (K:Awk tp) (X0:HX h0 h) (f:Free0 h0.next h0) (l1:o1.2.1.length ≤ 1000000) (l2:o1.2.2.length ≤ 1000000) (l4:o2.2.1.length ≤ 1000000) (l5:o2.2.2.length ≤ 1000000)
  (C7:CelA 31 m1 o1 h c7) (C13:CelA 27 m1 o1 h c13) (C9:CelA 31 m2 o2 h c9) (C14:CelA 27 m2 o2 h c14) :
  ∀ r,Kn [(7,ptr c7),(8,zi o1.1),(9,ptr c9),(10,zi o2.1),(11,zi o1.1),(12,zi o2.1),(13,ptr c13),(14,ptr c14)] r → W Tryz.prog tp false cd1102c r h (Fin Tryz.prog [.tmp 6] fun v _ => v = .bool true):=by
 unfold cd1102c
 obtain ⟨_,_,A,A',_,_,_,_,_,_,_,_,_,_,_,_,_,_,rfl,rfl,w⟩:=celOne H f X0 C7 C13 l1 l2
 refine WL.sr <| WOL.ld rfl (load_row tp1117 A rfl (Nat.le_of_ble_eq_true rfl)) <| WOL.mv rfl <| WOL.mv rfl <| WOL.ld rfl (load_row tp1114 A' rfl (Nat.le_of_ble_eq_true rfl)) <| WOL.cl4 rfl rfl rfl rfl rfl (w.mono ?_)
 rintro v g5 ⟨rfl,X5⟩
 obtain ⟨_,_,B,B',_,_,_,_,_,_,_,_,_,_,_,_,_,_,rfl,rfl,w'⟩:=celOne H f (X0.trans X5) (C9.hx X5) (C14.hx X5) l4 l5
 refine WOL.mv rfl <| WOL.now (b:=true) rfl rfl <| WOL.ld rfl (load_row tp1117 B rfl (Nat.le_of_ble_eq_true rfl)) <| WOL.now (b:=true) rfl rfl <| WOL.mv rfl <| WOL.now (b:=true) rfl rfl <| WOL.mv rfl <| WOL.now (b:=true) rfl rfl <| WOL.ld rfl (load_row tp1114 B' rfl (Nat.le_of_ble_eq_true rfl)) <| WOL.now (b:=true) rfl rfl <| WOL.cl4 rfl rfl rfl rfl rfl (w'.mono ?_)
 rintro v g6 ⟨rfl,X6⟩
 refine WOL.pkt rfl rfl <| WOL.mv rfl <| WOL.now (b:=true) rfl rfl <| WOL.cl0 rfl ((k11t K g6).mono ?_)
 rintro v g8 ⟨rfl,rfl⟩
 exact WOL.pkt rfl rfl <| WOL.as rfl <| WOL.nil <| WL.ret (WL.end_ rfl rfl)
set_option maxHeartbeats 4000000 in
set_option maxRecDepth 10000 in
theorem k1102b (H:Has tp) (K:Awk tp) (X0:HX h0 h) (f:Free0 h0.next h0) (Xb:HX hb h) (b14:hb.next ≤ c14) (h14:h0.next ≤ c14) (A3:At hb c3 (.cells [zi a,zi b] true true 23)) (A5:At hb c5 (.cells [zi n,v1,v2] true true 27)) (r:TrcH hb v1 v2 L S) (hL:L.length ≤ 900000) (hS:S.length ≤ 900000) (l1:o1.2.1.length ≤ 1000000) (l2:o1.2.2.length ≤ 1000000)
  (ho:o2 = sumO (errV (firstNZ [chordE a b,outB s 1 32,traceE n L S]) L.length ((a.toNat + b.toNat - 2) * s.toNat)) (tapC L S (wTp a.toNat b.toNat s.toNat) (L.length - (a.toNat + b.toNat - 2) * s.toNat)))
  (C7:CelA 31 m1 o1 hb c7) (C9:CelA 31 (n - (1 - a) * s) o2 hb c9) (C13:∀ g,(∀ b x,b ≠ c14 → At h b x → At g b x) → CelA 27 m1 o1 g c13) (A14:At h c14 (.cells [zi 0,.slice none 0 0,.slice none 0 0] true true 27)) :
  ∀ y,Kn [(1,zi s),(3,ptr c3),(5,ptr c5),(7,ptr c7),(8,zi o1.1),(9,ptr c9),(10,zi o2.1),(11,zi o1.1),(12,zi (firstNZ [chordE a b,outB s 1 32,traceE n L S])),(13,ptr c13),(14,ptr c14)] y → W Tryz.prog tp false cd1102b y h (Fin Tryz.prog [.tmp 6] fun v _ => v = .bool true):=by
 unfold cd1102b
 have l4:o2.2.1.length ≤ 1000000:=by rw [ho];exact Nat.le_trans sumO_l1 (by rw [tapC_len];omega)
 have l5:o2.2.2.length ≤ 1000000:=by rw [ho];exact Nat.le_trans sumO_l2 (by rw [tapC_len];omega)
 have lc:=A14.lt
 generalize hE:firstNZ [chordE a b,outB s 1 32,traceE n L S] = E at *
 by_cases e0:E = 0
 ·subst e0
  have all:=firstNZ_zero hE
  obtain ⟨⟨q1,q2⟩,q3,q4,q5,q6,q7⟩:=trace_ok (all (traceE n L S) (by simp))
  obtain ⟨p1,p2,p3,p4⟩:=chord_ok (all (chordE a b) (by simp))
  obtain ⟨p5,p6⟩:=out_mm (all (outB s 1 32) (by simp))
  obtain ⟨p,rfl⟩:∃ p:Nat,a = p:=⟨a.toNat,by omega⟩
  obtain ⟨q,rfl⟩:∃ q:Nat,b = q:=⟨b.toNat,by omega⟩
  obtain ⟨st,rfl⟩:∃ st:Nat,s = st:=⟨s.toNat,by omega⟩
  rw [errV_ok,Int.toNat_natCast,Int.toNat_natCast,Int.toNat_natCast] at ho
  refine WL.seq <| WL.sr <| WOL.mv rfl <| WOL.bt rfl rfl rfl rfl <| WOL.nil <| WL.yes rfl <| WL.reg <| WOL.ld rfl (load_row tp1112 (A3.hx Xb) rfl (Nat.le_of_ble_eq_true rfl)) <| WOL.mv rfl <| WOL.ld rfl (load_row tp1114 (A5.hx Xb) rfl (Nat.le_of_ble_eq_true rfl)) <| WOL.cl3 rfl rfl rfl rfl ((k1134 (n:=n) (p:=p) (q:=q) (st:=st) H (r.hx Xb) (by omega) (by omega) (by omega) (by omega) (by omega) q3 q1 q2 hL hS (f.on X0)).mono ?_)
  rintro v g ⟨X,R⟩
  have x1:=X.next
  have R':=R.ans
  rw [← ho] at R'
  obtain ⟨zA,y1A,y2A,rfl,iA,sA,loA,lqA,eA⟩:=R';obtain ⟨d1A,d2A,d3A,rfl⟩:=ints_form iA;obtain ⟨d4A,d5A,rfl,_⟩:=id sA
  refine WOL.mv rfl <| WOL.ex rfl rfl <| WOL.ex rfl rfl <| WOL.sto (vs:=[zi zA,.slice d1A d2A d3A,.slice d4A _ d5A]) rfl rfl tp1114 (A14.hx X) rfl rfl (Nat.le_of_ble_eq_true rfl) rfl (f.hx (X0.trans X)) (by omega) fun gA PA => WOL.as rfl <| WOL.nil ?_
  have Yb:HX hb gA:=PA.hx _ (Xb.trans X) b14
  exact kto (k1102c H K (PA.hx _ (X0.trans X) h14) f l1 l2 l4 l5 (C7.hx Yb) (C13 gA fun b x hb a => PA.oth _ _ hb (a.hx X)) (C9.hx Yb) ⟨zA,_,_,_,_,_,_,PA.at_,iA.keep fun b x hb a => PA.oth _ _ (by have:=loA b hb;have:=a.lt;omega) (a),slC_keep sA fun b x hb a => PA.oth _ _ (by have:=lqA b hb;have:=a.lt;omega) (a),eA⟩) ⟨rfl,rfl,rfl,rfl,rfl,rfl,rfl,rfl,trivial⟩
 ·have er:=errV_no (m:=L.length) (w:=(a.toNat + b.toNat - 2) * s.toNat) e0
  rw [er,sumO_err e0] at ho
  subst ho
  refine WL.seq <| WL.sr <| WOL.mv rfl <| WOL.bf rfl rfl rfl (beq_eq_false_iff_ne.2 e0) <| WOL.nil <| WL.no rfl <| WL.skip ?_
  exact kto (k1102c (o2:=(E,[],[])) (m2:=n - (1 - a) * s) H K X0 f l1 l2 l4 l5 (C7.hx Xb) (C13 h fun b x _ a => a) (C9.hx Xb) (CelA.err e0 A14)) ⟨rfl,rfl,rfl,rfl,rfl,rfl,rfl,rfl,trivial⟩
set_option maxHeartbeats 4000000 in
set_option maxRecDepth 10000 in
theorem k1102a (H:Has tp) (K:Awk tp) (X0:HX h0 h) (f:Free0 h0.next h0) (Xb:HX hb h) (b13:hb.next ≤ c13) (b14:hb.next ≤ c14) (h13:h0.next ≤ c13) (h14:h0.next ≤ c14) (n34:c13 ≠ c14) (A3:At hb c3 (.cells [zi a,zi b] true true 23)) (A5:At hb c5 (.cells [zi n,v1,v2] true true 27)) (r:TrcH hb v1 v2 L S) (hL:L.length ≤ 900000) (hS:S.length ≤ 900000)
  (ho1:o1 = sumO (errV (firstNZ [chordE a b,traceE n L S]) L.length ((a.toNat + b.toNat - 2) * 1)) (tapC L S (wTp a.toNat b.toNat 1) (L.length - (a.toNat + b.toNat - 2) * 1)))
  (ho:o2 = sumO (errV (firstNZ [chordE a b,outB s 1 32,traceE n L S]) L.length ((a.toNat + b.toNat - 2) * s.toNat)) (tapC L S (wTp a.toNat b.toNat s.toNat) (L.length - (a.toNat + b.toNat - 2) * s.toNat)))
  (C7:CelA 31 (n - (1 - a) * 1) o1 hb c7) (C9:CelA 31 (n - (1 - a) * s) o2 hb c9) (A13:At h c13 (.cells [zi 0,.slice none 0 0,.slice none 0 0] true true 27)) (A14:At h c14 (.cells [zi 0,.slice none 0 0,.slice none 0 0] true true 27)) :
  ∀ y,Kn [(1,zi s),(3,ptr c3),(5,ptr c5),(7,ptr c7),(8,zi o1.1),(9,ptr c9),(10,zi o2.1),(11,zi (firstNZ [chordE a b,traceE n L S])),(12,zi (firstNZ [chordE a b,outB s 1 32,traceE n L S])),(13,ptr c13),(14,ptr c14)] y → W Tryz.prog tp false cd1102a y h (Fin Tryz.prog [.tmp 6] fun v _ => v = .bool true):=by
 unfold cd1102a
 have l1:o1.2.1.length ≤ 1000000:=by rw [ho1];exact Nat.le_trans sumO_l1 (by rw [tapC_len];omega)
 have l2:o1.2.2.length ≤ 1000000:=by rw [ho1];exact Nat.le_trans sumO_l2 (by rw [tapC_len];omega)
 have t13:=A13.lt
 have t14:=A14.lt
 generalize hE:firstNZ [chordE a b,traceE n L S] = E at *
 by_cases e0:E = 0
 ·subst e0
  have all:=firstNZ_zero hE
  obtain ⟨⟨q1,q2⟩,q3,q4,q5,q6,q7⟩:=trace_ok (all (traceE n L S) (by simp))
  obtain ⟨p1,p2,p3,p4⟩:=chord_ok (all (chordE a b) (by simp))
  obtain ⟨p,rfl⟩:∃ p:Nat,a = p:=⟨a.toNat,by omega⟩
  obtain ⟨q,rfl⟩:∃ q:Nat,b = q:=⟨b.toNat,by omega⟩
  rw [errV_ok,Int.toNat_natCast,Int.toNat_natCast] at ho1
  refine WL.seq <| WL.sr <| WOL.mv rfl <| WOL.bt rfl rfl rfl rfl <| WOL.nil <| WL.yes rfl <| WL.reg <| WOL.ld rfl (load_row tp1112 (A3.hx Xb) rfl (Nat.le_of_ble_eq_true rfl)) <| WOL.ld rfl (load_row tp1114 (A5.hx Xb) rfl (Nat.le_of_ble_eq_true rfl)) <| WOL.cl2 rfl rfl rfl ((k1133 (n:=n) (p:=p) (q:=q) H (r.hx Xb) (by omega) (by omega) (by omega) (by omega) q3 q1 q2 hL hS (f.on X0)).mono ?_)
  rintro v g ⟨X,R⟩
  have x1:=X.next
  have R':=R.ans
  rw [← ho1] at R'
  obtain ⟨zA,y1A,y2A,rfl,iA,sA,loA,lqA,eA⟩:=R';obtain ⟨d1A,d2A,d3A,rfl⟩:=ints_form iA;obtain ⟨d4A,d5A,rfl,_⟩:=id sA
  refine WOL.mv rfl <| WOL.ex rfl rfl <| WOL.ex rfl rfl <| WOL.sto (vs:=[zi zA,.slice d1A d2A d3A,.slice d4A _ d5A]) rfl rfl tp1114 (A13.hx X) rfl rfl (Nat.le_of_ble_eq_true rfl) rfl (f.hx (X0.trans X)) (by omega) fun gA PA => WOL.as rfl <| WOL.nil ?_
  have Yb:HX hb gA:=PA.hx _ (Xb.trans X) b13
  refine kto (k1102b H K (PA.hx _ (X0.trans X) h13) f Yb b14 h14 A3 A5 r hL hS l1 l2 ho C7 C9 (fun g k => ?_) (PA.oth _ _ (by omega) (A14.hx X))) ⟨rfl,rfl,rfl,rfl,rfl,rfl,rfl,rfl,rfl,rfl,rfl,trivial⟩
  exact ⟨zA,_,_,_,_,_,_,k _ _ n34 PA.at_,iA.keep fun b x hb a => k _ _ (by have:=loA b hb;omega) (PA.oth _ _ (by have:=loA b hb;omega) a),slC_keep sA fun b x hb a => k _ _ (by have:=lqA b hb;omega) (PA.oth _ _ (by have:=lqA b hb;omega) a),eA⟩
 ·have er:=errV_no (m:=L.length) (w:=(a.toNat + b.toNat - 2) * 1) e0
  rw [er,sumO_err e0] at ho1
  subst ho1
  refine WL.seq <| WL.sr <| WOL.mv rfl <| WOL.bf rfl rfl rfl (beq_eq_false_iff_ne.2 e0) <| WOL.nil <| WL.no rfl <| WL.skip ?_
  exact kto (k1102b (o1:=(E,[],[])) (m1:=n - (1 - a) * 1) H K X0 f Xb b14 h14 A3 A5 r hL hS l1 l2 ho C7 C9 (fun g k => CelA.err e0 (k _ _ n34 A13)) A14) ⟨rfl,rfl,rfl,rfl,rfl,rfl,rfl,rfl,rfl,rfl,rfl,trivial⟩
set_option maxHeartbeats 4000000 in
set_option maxRecDepth 10000 in
theorem k1102 (H:Has tp) (K:Awk tp) (r:TrcH h v1 v2 L S) (f:Free0 h.next h) :
  CallW Tryz.prog tp (.func (.func 5) #[] #[]) #[.agg #[zi a,zi b],zi s,.agg #[zi n,v1,v2]] h fun v _ => v = .bool true:=by
 obtain ⟨b1,k1,e1,_⟩:=id r.l
 obtain ⟨b2,k2,e2,_⟩:=id r.s
 subst e1 e2
 refine CallW.fnL (H.fn 5 f1102 rfl rfl) ?_
 refine WL.sr <| WOL.box rfl fun h1 N1 => WOL.box rfl fun h2 N2 => WOL.as rfl <| WOL.nil <| keep [(1,_),(3,_),(5,_)] ⟨rfl,rfl,rfl,trivial⟩ ?_
 have q1:=N1.next
 have q2:=N2.next
 have A3:At h2 h.next (.cells [zi a,zi b] true true 23):=N1.at_.hx N2.hx
 have A5:At h2 h1.next (.cells [zi n,.slice b1 L.length k1,.slice b2 S.length k2] true true 27):=N2.at_
 have X2:=N1.hx.trans N2.hx
 refine WL.seq <| WL.sr <| WOL.ld rfl (load_row tp1114 A5 rfl (Nat.le_of_ble_eq_true rfl)) <| WOL.cl1 rfl rfl ((k1112 (n:=n) H (r.hx X2)).mono ?_)
 rintro v h3 ⟨rfl,X3⟩
 have Y3:=X2.trans X3
 replace A3:=A3.hx X3;replace A5:=A5.hx X3
 cases hb:shortB2 L.length S.length with
 | false =>
  refine WOL.nt rfl <| WOL.nil <| WL.yes rfl <| WL.sr <| WOL.cl0 rfl ((k11t K _).mono ?_)
  rintro v h4 ⟨rfl,rfl⟩
  exact WOL.as rfl <| WOL.nil <| WL.ret (WL.end_ rfl rfl)
 | true =>
  obtain ⟨hL,hS⟩:=shortB2_le hb
  refine WOL.nt rfl <| WOL.nil <| WL.no rfl <| WL.skip <| keep [(1,_),(3,_),(5,_)] ⟨rfl,rfl,rfl,trivial⟩ ?_
  have y3:=Y3.next
  have t3:=A3.lt
  have t5:=A5.lt
  -- weighted
  refine WL.sr <| WOL.ld rfl (load_row tp1112 A3 rfl (Nat.le_of_ble_eq_true rfl)) <| WOL.ld rfl (load_row tp1114 A5 rfl (Nat.le_of_ble_eq_true rfl)) <| WOL.al tp1117 fun h4 N4 => ?_
  have q4:=N4.next
  have Y4:=Y3.trans N4.hx
  refine WOL.lq1 [h3.next,h.next] rfl rfl rfl fun M hM => ((k1115 (n:=n) H ((r.hx Y4).relock M) (by omega) (by omega) ((f.on Y4).held hM (fun b hb => by simp at hb;omega))).mono ?_)
  rintro v h5 ⟨X5,u1,u2,rfl,ru,_,_⟩
  replace X5:=X5.relock
  replace ru:=ru.relock h4.lock
  generalize h5.withLock h4.lock = h5 at *
  have Y5:=Y4.trans X5
  have q5:=X5.next
  refine WOL.lq2 [h3.next] rfl rfl rfl rfl fun M hM => ((k1131 (n:=n) (a:=a) (b:=b) H (ru.relock M) hL hS ((f.on Y5).held hM (fun b hb => by simp at hb;omega))).mono ?_)
  rintro v h6 ⟨X6,PR⟩
  have PA:=PR.ans
  clear PR
  rw [firstW] at PA
  obtain ⟨zA,y1A,y2A,rfl,iA,sA,loA,lqA,eA⟩:=PA;obtain ⟨d1A,d2A,d3A,rfl⟩:=ints_form iA;obtain ⟨d4A,d5A,rfl,_⟩:=id sA
  replace X6:=X6.relock
  replace iA:=iA.keep (g':=h6.withLock h5.lock) fun b x _ a => a.relock _
  replace sA:=slC_keep (h':=h6.withLock h5.lock) sA fun b x _ a => a.relock _
  replace loA:∀ z,bl (.slice d1A d2A d3A) = some z → h5.next ≤ z:=loA
  replace lqA:∀ z,bl (.slice d4A _ d5A) = some z → h5.next ≤ z:=lqA
  generalize h6.withLock h5.lock = h6 at *
  have Y6:=Y5.trans X6
  have q6:=X6.next
  have Z6:=(N4.hx.trans X5).trans X6
  refine WOL.mv rfl <| WOL.ex rfl rfl <| WOL.ex rfl rfl <| WOL.sto (vs:=[zi zA,.slice d1A d2A d3A,.slice d4A _ d5A]) rfl rfl tp1117 ((N4.at_.hx X5).hx X6) rfl rfl (Nat.le_of_ble_eq_true rfl) rfl (f.hx (Y6)) (by omega) fun gA PA => WOL.as rfl <| WOL.nil <| keep [(1,_),(3,_),(5,_),(7,_),(8,_)] ⟨rfl,rfl,rfl,rfl,rfl,trivial⟩ ?_
  have Z7:HX h3 gA:=PA.hx _ Z6 (Nat.le_refl _)
  have Y7:=Y3.trans Z7
  have C7:CelA 31 (n - (1 - a) * 1) (sumO (errV (firstNZ [chordE a b,traceE n L S]) L.length ((a.toNat + b.toNat - 2) * 1)) (tapC L S (wTp a.toNat b.toNat 1) (L.length - (a.toNat + b.toNat - 2) * 1))) gA h3.next:=⟨zA,_,_,_,_,_,_,PA.at_,iA.keep fun b x hb a => PA.oth _ _ (by have:=loA b hb;have:=a.lt;omega) (a),slC_keep sA fun b x hb a => PA.oth _ _ (by have:=lqA b hb;have:=a.lt;omega) (a),eA⟩
  clear PA
  replace A3:=A3.hx Z7;replace A5:=A5.hx Z7
  have z7:=Z7.next
  generalize gA = h7 at *
  -- lengthened
  refine WL.sr <| WOL.ld rfl (load_row tp1112 A3 rfl (Nat.le_of_ble_eq_true rfl)) <| WOL.mv rfl <| WOL.ld rfl (load_row tp1114 A5 rfl (Nat.le_of_ble_eq_true rfl)) <| WOL.al tp1117 fun h8 N8 => ?_
  have q8:=N8.next
  have Y8:=Y7.trans N8.hx
  refine WOL.lq1 [h7.next,h.next] rfl rfl rfl fun M hM => ((k1115 (n:=n) H ((r.hx Y8).relock M) (by omega) (by omega) ((f.on Y8).held hM (fun b hb => by simp at hb;omega))).mono ?_)
  rintro v h9 ⟨X9,u3,u4,rfl,rv,_,_⟩
  replace X9:=X9.relock
  replace rv:=rv.relock h8.lock
  generalize h9.withLock h8.lock = h9 at *
  have Y9:=Y8.trans X9
  have q9:=X9.next
  refine WOL.lq3 [h7.next] rfl rfl rfl rfl rfl fun M hM => ((k1132 (n:=n) (a:=a) (b:=b) (s:=s) H (rv.relock M) hL hS ((f.on Y9).held hM (fun b hb => by simp at hb;omega))).mono ?_)
  rintro v h10 ⟨X10,PR⟩
  have PB:=PR.ans
  clear PR
  obtain ⟨zB,y1B,y2B,rfl,iB,sB,loB,lqB,eB⟩:=PB;obtain ⟨d1B,d2B,d3B,rfl⟩:=ints_form iB;obtain ⟨d4B,d5B,rfl,_⟩:=id sB
  replace X10:=X10.relock
  replace iB:=iB.keep (g':=h10.withLock h9.lock) fun b x _ a => a.relock _
  replace sB:=slC_keep (h':=h10.withLock h9.lock) sB fun b x _ a => a.relock _
  replace loB:∀ z,bl (.slice d1B d2B d3B) = some z → h9.next ≤ z:=loB
  replace lqB:∀ z,bl (.slice d4B _ d5B) = some z → h9.next ≤ z:=lqB
  generalize h10.withLock h9.lock = h10 at *
  have Y10:=Y9.trans X10
  have q10:=X10.next
  have Z10:=(N8.hx.trans X9).trans X10
  refine WOL.mv rfl <| WOL.ex rfl rfl <| WOL.ex rfl rfl <| WOL.sto (vs:=[zi zB,.slice d1B d2B d3B,.slice d4B _ d5B]) rfl rfl tp1117 ((N8.at_.hx X9).hx X10) rfl rfl (Nat.le_of_ble_eq_true rfl) rfl (f.hx (Y10)) (by omega) fun gB PB => WOL.as rfl <| WOL.nil <| keep [(1,_),(3,_),(5,_),(7,_),(8,_),(9,_),(10,_)] ⟨rfl,rfl,rfl,rfl,rfl,rfl,rfl,trivial⟩ ?_
  have Z11:HX h7 gB:=PB.hx _ Z10 (Nat.le_refl _)
  have Y11:=Y7.trans Z11
  have C9:CelA 31 (n - (1 - a) * s) (sumO (errV (firstNZ [chordE a b,outB s 1 32,traceE n L S]) L.length ((a.toNat + b.toNat - 2) * s.toNat)) (tapC L S (wTp a.toNat b.toNat s.toNat) (L.length - (a.toNat + b.toNat - 2) * s.toNat))) gB h7.next:=⟨zB,_,_,_,_,_,_,PB.at_,iB.keep fun b x hb a => PB.oth _ _ (by have:=loB b hb;have:=a.lt;omega) (a),slC_keep sB fun b x hb a => PB.oth _ _ (by have:=lqB b hb;have:=a.lt;omega) (a),eB⟩
  clear PB
  replace A3:=A3.hx Z11;replace A5:=A5.hx Z11;replace C7:=C7.hx Z11
  have z11:=Z11.next
  generalize gB = h11 at *
  -- the errors
  refine WL.sr <| WOL.ld rfl (load_row tp1112 A3 rfl (Nat.le_of_ble_eq_true rfl)) <| WOL.ld rfl (load_row tp1114 A5 rfl (Nat.le_of_ble_eq_true rfl)) ?_
  refine WOL.lk1 rfl rfl fun M => ((k1122 H a b _).mono ?_)
  rintro v h12 ⟨rfl,X12⟩
  replace X12:=X12.relock
  generalize h12.withLock h11.lock = h12 at *
  have Y12:=Y11.trans X12
  refine WOL.cl1 rfl rfl ((k1117 (n:=n) H (r.hx Y12) (by omega) (by omega) (f.on Y12)).mono ?_)
  rintro v h13 ⟨rfl,X13⟩
  refine WOL.bsl rfl u29 tp3 (by decide) (by decide) (by decide) (filled_ints _ _) fun h14 N14 => WOL.cl1 rfl rfl ((k1118 H (l:=[_,_]) N14.at_ (by simp)).mono ?_)
  rintro v h14 ⟨rfl,rfl⟩
  refine WOL.as rfl <| WOL.nil <| keep [(1,_),(3,_),(5,_),(7,_),(8,_),(9,_),(10,_),(11,_)] ⟨rfl,rfl,rfl,rfl,rfl,rfl,rfl,rfl,trivial⟩ ?_
  have Z14:=(X12.trans X13).trans N14.hx
  have Y14:=Y11.trans Z14
  replace A3:=A3.hx Z14;replace A5:=A5.hx Z14;replace C7:=C7.hx Z14;replace C9:=C9.hx Z14
  refine WL.sr <| WOL.ld rfl (load_row tp1112 A3 rfl (Nat.le_of_ble_eq_true rfl)) <| WOL.mv rfl <| WOL.ld rfl (load_row tp1114 A5 rfl (Nat.le_of_ble_eq_true rfl)) ?_
  refine WOL.lk1 rfl rfl fun M => ((k1122 H a b _).mono ?_)
  rintro v h15 ⟨rfl,X15⟩
  replace X15:=X15.relock
  generalize h15.withLock h14.lock = h15 at *
  have Y15:=Y14.trans X15
  refine WOL.lk3 rfl rfl rfl rfl fun M => ((k14 H s 1 32 _).mono ?_)
  rintro v h16 ⟨rfl,rfl⟩
  rw [TH.relock]
  refine WOL.cl1 rfl rfl ((k1117 (n:=n) H (r.hx Y15) (by omega) (by omega) (f.on Y15)).mono ?_)
  rintro v h16 ⟨rfl,X16⟩
  refine WOL.bsl rfl u29 tp3 (by decide) (by decide) (by decide) (filled_ints3 _ _ _) fun h17 N17 => WOL.cl1 rfl rfl ((k1118 H (l:=[_,_,_]) N17.at_ (by simp)).mono ?_)
  rintro v h17 ⟨rfl,rfl⟩
  refine WOL.as rfl <| WOL.nil <| keep [(1,_),(3,_),(5,_),(7,_),(8,_),(9,_),(10,_),(11,_),(12,_)] ⟨rfl,rfl,rfl,rfl,rfl,rfl,rfl,rfl,rfl,trivial⟩ ?_
  have Z17:=(X15.trans X16).trans N17.hx
  have Y17:=Y14.trans Z17
  have y17:=Y17.next
  replace A3:=A3.hx Z17;replace A5:=A5.hx Z17;replace C7:=C7.hx Z17;replace C9:=C9.hx Z17
  refine WL.sr <| WOL.al tp1114 fun h18 N18 => WOL.al tp1114 fun h19 N19 => WOL.nil <| keep [(1,_),(3,_),(5,_),(7,_),(8,_),(9,_),(10,_),(11,_),(12,_),(13,_),(14,_)] ⟨rfl,rfl,rfl,rfl,rfl,rfl,rfl,rfl,rfl,rfl,rfl,trivial⟩ ?_
  have q18:=N18.next
  have q19:=N19.next
  have Z19:=N18.hx.trans N19.hx
  exact kto (k1102a H K (Y17.trans Z19) f Z19 (Nat.le_refl _) (by omega) (by omega) (by omega) (by omega) A3 A5 (r.hx Y17) hL hS rfl rfl C7 C9 (N18.at_.hx N19.hx) N19.at_) ⟨rfl,rfl,rfl,rfl,rfl,rfl,rfl,rfl,rfl,rfl,rfl,trivial⟩
end
set_option maxRecDepth 100000 in
theorem law1102:Law tpE 5 5 [23,3,27]:=by
 intro h us f ha
 obtain ⟨x0,x1,x2,rfl,⟨p0,y0,e0⟩,⟨p1,y1,e1⟩,⟨p2,y2,e2⟩⟩:=args3 ha
 have q0:=tyg_struct Tryz.underlying23 y0
 rw [val_agg (.inl ⟨_,Tryz.underlying23⟩)] at e0
 rw [val_agg (.inl ⟨_,Tryz.underlying27⟩)] at e2
 obtain ⟨s,rfl,_⟩:=ty_int y1
 rw [val_int] at e1
 obtain ⟨c0,d0,rfl,_,t0,c1,d1,rfl,_,t1,rfl⟩:=q0
 obtain ⟨a,rfl,_⟩:=ty_int t0
 obtain ⟨b,rfl,_⟩:=ty_int t1
 obtain ⟨n1,v1,v2,L1,S1,rfl,r1⟩:=ty_trc (n:=1) y2
 subst e0 e1 e2
 exact k1102 hasE awkE r1 f
end Go.Tidy
