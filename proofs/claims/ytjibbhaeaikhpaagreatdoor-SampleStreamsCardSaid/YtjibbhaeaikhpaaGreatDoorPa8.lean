/- A part of the proof. -/
import Derived.Test.YtjibbhaeaikhpaaGreatDoorPa7
set_option linter.all false
namespace Go.Tidy
open Go Go.Proofs Tab
variable {tp:TProg}
section
variable {P:Program} {h:TH} {K:Regs → TH → Prop} {rest:List TOper} {d:Option Tmp} {ty:TypeId} {i:Nat} {x y:Operand} {t u:TypeId} {L:Rg} {s s':ByteArray}
theorem WOL.eqS (hx:getL L x = some (.string s)) (hy:getL L y = some (.string s')) (w:∀ a,Kn (putL L d (.bool (s.toList == s'.toList))) a → WO P tp rest a h K):∀ a,Kn L a → WO P tp (⟨d,.binOp .eql t x y u,ty,none,[],i⟩ :: rest) a h K:=fun a k => WO.eqs (k.o hx) (k.o hy) (w _ (k.put d _))
end
theorem sl_some {h:TH} {v:Value} {m:List Nat} (s:SlL encY 1 h v m) (hm:m ≠ []):∃ a n c,v = .slice (some a) n c:=by
 obtain ⟨bo,cap,e,_,_,h3⟩:=s
 rcases h3 with ⟨_,h3⟩ | ⟨b,off,cc,fix,wr,el,rfl,_⟩
 ·exact absurd (List.eq_nil_of_length_eq_zero h3) hm
 ·exact ⟨_,_,_,e⟩
theorem packB_ne {s:ByteArray} {n:Nat} {F:List Nat} {S:List (Int × Int)}:packB s n F S ≠ []:=by
 intro e
 have:=congrArg List.length e
 unfold packB at this
 rw [List.length_append,bytesN_len] at this
 simp at this
theorem run_zero {l:List Nat} {es L:List Int} (h:unE l es L = 0):runE (rdN l (cu0 l)) (rdF l (cu0 l):Nat) (rdL l (cu0 l)).length (rdS l (cu0 l)) es L = 0:=by
 unfold unE at h
 cases h1:decide ((l.length:Int) > 400000) with
 | true => rw [h1] at h;cases h
 | false =>
  rw [h1] at h
  cases h2:hdE l != 0 with
  | true =>
   rw [h2] at h
   have h:hdE l = 0:=h
   rw [h] at h2;cases h2
  | false =>
   rw [h2] at h
   have h:upE l es L = 0:=h
   exact firstNZ_zero h _ (by simp)
theorem unp_form {l:List Nat} {es L:List Int} {h:TH} {w:Value} (a:UnpA l es L h w):∃ s f w1 w2,w = .tuple #[runV s f w1 w2,zi (unE l es L)] ∧ (runV s f w1 w2).cells.toList.all oneCell = true ∧ ((unE l es L ≠ 0 ∧ s = ⟨#[]⟩ ∧ f = 0 ∧ w1 = .slice none 0 0 ∧ w2 = .slice none 0 0) ∨ (unE l es L = 0 ∧ s = rdN l (cu0 l) ∧ f = (rdF l (cu0 l):Nat) ∧ SlL encF 1 h w1 (rdL l (cu0 l)) ∧ SlL encS 2 h w2 (rdS l (cu0 l)))):=by
 rcases a with ⟨a,rfl⟩ | ⟨a,w1,w2,rfl,s1,s2⟩
 ·exact ⟨_,_,_,_,rfl,rfl,.inl ⟨a,rfl,rfl,rfl,rfl⟩⟩
 ·obtain ⟨_,_,e1⟩:=s1.form
  obtain ⟨_,_,e2⟩:=s2.form
  refine ⟨_,_,w1,w2,by rw [a],?_,.inr ⟨a,rfl,rfl,s1,s2⟩⟩
  rw [e1,e2]
  rfl
section
variable {h:TH} {s:ByteArray} {n:Int} {v1 v2 v:Value} {F:List Nat} {S:List (Int × Int)} {l:List Nat}
set_option maxHeartbeats 4000000 in
set_option maxRecDepth 10000 in
theorem k1008 (H:Has tp) (X:HasX tp) (Y:HasY tp) (A:Awk tp) (r:RunH h v1 v2 F S) (hw:∀ w,w ∈ F → w < 4294967296) (sv:SlL encY 1 h v l) (Fv:Fits h v 5) (hby:Byt l) (f:Free0 h.next h) :
    CallW Tryz.prog tp (.func (.func 9) #[] #[]) #[runV s n v1 v2,v] h fun w _ => w = .bool true:=by
  obtain ⟨es,L,hE,hL⟩:=lev_some F
  obtain ⟨es2,L2,hE2,hL2⟩:=lev_some (rdL l (cu0 l))
  obtain ⟨bv1,kv1,ev1⟩:=r.f.form
  obtain ⟨bv2,kv2,ev2⟩:=r.s.form
  refine CallW.fnL (H.fn 9 f1008 rfl rfl) ?_
  refine WL.sr <| WOL.box rfl fun h1 N1 => WOL.as rfl <| WOL.nil <| keep [(1,_),(2,_)] ⟨rfl,rfl,trivial⟩ ?_
  have A2:At h1 h.next (.cells [.string s,zi n,v1,v2] true true 46):=N1.at_
  refine WL.seq <| WL.sr <| WOL.ld rfl (load_row tp46 A2 rfl (Nat.le_of_ble_eq_true rfl)) ?_
  refine WOL.cl1 rfl rfl ((k23 H (s:=s) (n:=n) (r.hx N1.hx).f (r.hx N1.hx).s).mono ?_)
  rintro w h2 ⟨rfl,X2⟩
  have Y2:=N1.hx.trans X2
  have sv2:=sv.hx Y2
  refine WOL.nt rfl <| WOL.mv rfl ?_
  have exit:∀ {g:TH} {Q:Exit → Regs → TH → Prop},(∀ g',∀ r,Kn [(4,.bool true)] r → Q .ret r g') → ∀ a,Kn [] a → W Tryz.prog tp false (.seq (.reg r1008_2) .ret) a g Q:=by
    intro g Q er
    refine WL.sr <| WOL.cl0 rfl ((k11 A g).mono ?_)
    rintro v h4 ⟨rfl,rfl⟩
    refine WOL.as rfl <| WOL.nil ?_
    exact WL.ret (kto (er _) ⟨rfl,trivial⟩)
  cases hs:shortB s F.length S.length with
  | false =>
    refine WOL.skp (b:=true) rfl rfl <| WOL.skp (b:=true) rfl rfl <| WOL.skp (b:=true) rfl rfl <| WOL.skp (b:=true) rfl rfl <| WOL.gu rfl rfl <| WOL.gu rfl rfl <| WOL.gu rfl rfl <| WOL.skp (b:=true) rfl rfl <| WOL.pkt rfl rfl <| WOL.nil <| keep [(25,_)] ⟨rfl,trivial⟩ ?_
    refine WL.yes rfl <| WL.sr <| WOL.cl0 rfl ((k11 A h2).mono ?_)
    rintro v h4 ⟨rfl,rfl⟩
    refine WOL.as rfl <| WOL.nil ?_
    exact WL.ret (WL.end_ rfl rfl)
  | true =>
    have sm:=short_small hs
    have main:l.length ≤ 400001 → ∀ a,Kn [(1,v),(2,ptr h.next)] a → W Tryz.prog tp false (.seq (.reg r1008_3) (.seq (.reg r1008_4) (.seq (.reg r1008_5) (.seq (.reg r1008_6) (.seq (.seq (.reg r1008_7) (.cond (.tmp 43) (.reg r1008_8) .skip)) (.seq (.reg r1008_9) (.seq (.reg r1008_10) .ret))))))) a h2 (Fin Tryz.prog f1008.results fun w _ => w = .bool true):=by
      intro hl
      have r2:=r.hx Y2
      have f2:=f.on Y2
      -- Pack
      refine WL.sr <| WOL.ld rfl (load_row tp46 (A2.hx X2) rfl (Nat.le_of_ble_eq_true rfl)) ?_
      refine WOL.cl1 rfl rfl ((k25 H (s:=s) (n:=n) r2 (by omega) (by omega) f2).mono ?_)
      rintro w h3 ⟨u1,u2,rfl,X3,r3⟩
      have Y3:=Y2.trans X3
      refine WOL.cl1 rfl rfl ((k69 H X Y (s:=s) (n:=n) r3.r hE hL hw hs (f.on Y3)).mono ?_)
      rintro w h4 ⟨X4,pa⟩
      have Y4:=Y3.trans X4
      obtain ⟨w5,ew,p5⟩:∃ w5,w = .tuple #[w5,zi (runE s n F.length S es L)] ∧ ((runE s n F.length S es L ≠ 0 ∧ w5 = .slice none 0 0) ∨ (runE s n F.length S es L = 0 ∧ SlL encY 1 h4 w5 (packB s n.toNat F S))):=by
        rcases pa with ⟨a,rfl⟩ | ⟨a,w1,rfl,b⟩
        · exact ⟨_,rfl,.inl ⟨a,rfl⟩⟩
        · exact ⟨w1,by rw [a],.inr ⟨a,b⟩⟩
      subst ew
      obtain ⟨e,he⟩:∃ e,runE s n F.length S es L = e:=⟨_,rfl⟩
      rw [he] at p5 ⊢
      refine WOL.mv rfl <| WOL.ex rfl rfl <| WOL.ex rfl rfl <| WOL.as rfl <| WOL.as rfl <| WOL.nil <| keep [(1,_),(2,_),(5,_),(6,_)] ⟨rfl,rfl,rfl,rfl,trivial⟩ ?_
      -- Unpack
      refine WL.sr <| WOL.bs0 u116 tp5 (by decide) (by decide) fun h5 N5 => WOL.mv rfl ?_
      obtain ⟨vv,h6,ap,X6,s6,b',rfl,_,F6⟩:=append_own u116 tp5 N5.at_ ((sv.hx Y4).hx N5.hx) (by omega) (eY.all l)
      refine WOL.ap rfl rfl ap ?_
      have Y6:=(Y4.trans N5.hx).trans X6
      refine WOL.cl1 rfl rfl ((k1021 H X Y s6 F6 hby hE2 hL2 (f.on Y6)).mono ?_)
      rintro w h7 ⟨X7,ua⟩
      obtain ⟨us,uf,a1,a2,rfl,uo,ua⟩:=unp_form ua
      have Y7:=Y6.trans X7
      refine WOL.mv rfl <| WOL.ex rfl rfl <| WOL.ex rfl rfl <| WOL.al tp52 fun h8 N8 => ?_
      refine WOL.sto (vs:=[.string us,zi uf,a1,a2]) rfl rfl tp52 N8.at_ rfl rfl (Nat.le_of_ble_eq_true rfl) uo ((f.on Y7).hx N8.hx) (Nat.le_refl _) fun h9 P9 => WOL.as rfl <| WOL.nil <| keep [(1,_),(2,_),(5,_),(6,_),(7,_),(8,_)] ⟨rfl,rfl,rfl,rfl,rfl,rfl,trivial⟩ ?_
      have X9:HX h7 h9:=P9.hx _ N8.hx (Nat.le_refl _)
      have A9:At h9 h7.next (.cells [.string us,zi uf,a1,a2] true true 52):=P9.at_
      have Y9:=Y7.trans X9
      -- the reference: the error
      have A2':At h9 h.next (.cells [.string s,zi n,v1,v2] true true 46):=A2.hx ((((((X2.trans X3).trans X4).trans N5.hx).trans X6).trans X7).trans X9)
      refine WL.sr <| WOL.ld rfl (load_row tp46 A2' rfl (Nat.le_of_ble_eq_true rfl)) ?_
      refine WOL.cl1 rfl rfl ((k31 H (s:=s) (n:=n) (r.hx Y9) hE hL (by omega) (by omega)).mono ?_)
      rintro w h10 ⟨rfl,X10⟩
      rw [he]
      have Y10:=Y9.trans X10
      refine WOL.as rfl <| WOL.nil <| keep [(1,_),(2,_),(5,_),(6,_),(7,_),(8,_),(9,_)] ⟨rfl,rfl,rfl,rfl,rfl,rfl,rfl,trivial⟩ ?_
      refine WL.sr <| WOL.as rfl <| WOL.nil <| keep [(1,_),(2,_),(5,_),(6,_),(7,_),(8,_),(9,_),(10,_)] ⟨rfl,rfl,rfl,rfl,rfl,rfl,rfl,rfl,trivial⟩ ?_
      -- the reference: the stream
      refine WL.seq <| WL.mono (Q':=fun x a g => x = .normal ∧ HX h10 g ∧ Kn [(1,v),(5,w5),(6,zi e),(7,ptr h7.next),(8,zi (unE l es2 L2)),(9,zi e),(10,.string (strO (cond (e == 0) (packB s n.toNat F S) [])))] a) ?_ ?_
      · refine WL.sr <| WOL.mv rfl ?_
        refine WOL.bi (v:=.bool (e == 0)) rfl rfl rfl <| WOL.nil <| keep [(1,_),(2,_),(5,_),(6,_),(7,_),(8,_),(9,_),(10,_),(43,_)] ⟨rfl,rfl,rfl,rfl,rfl,rfl,rfl,rfl,rfl,trivial⟩ ?_
        by_cases h0:e = 0
        · rw [show (e == 0) = true from by rw [h0];rfl]
          have pr:=pkr_of hL (he.trans h0) hs
          refine WL.yes rfl <| WL.reg <| WOL.ld rfl (load_row tp46 (A2'.hx X10) rfl (Nat.le_of_ble_eq_true rfl)) ?_
          refine WOL.cl1 rfl rfl ((k1022 H Y (s:=s) (n:=n) (r.hx Y10) hw pr (f.on Y10)).mono ?_)
          rintro w h11 ⟨X11,sw⟩
          refine WOL.str sw (.inr (sl_some sw packB_ne)) rfl <| WOL.as rfl <| WOL.nil ?_
          exact fun a k => ⟨rfl,X11,k.sub ⟨rfl,rfl,rfl,rfl,rfl,rfl,rfl,trivial⟩⟩
        · rw [show (e == 0) = false from beq_eq_false_iff_ne.2 h0]
          refine WL.no rfl <| WL.skip ?_
          exact fun a k => ⟨rfl,HX.refl _,k.sub ⟨rfl,rfl,rfl,rfl,rfl,rfl,rfl,trivial⟩⟩
      rintro x a g ⟨rfl,Xg,kn⟩
      refine kn.go ?_
      have Yg:=Y10.trans Xg
      -- the reference: Unpack
      refine WL.sr <| WOL.mv rfl ?_
      refine WOL.cl1 rfl rfl ((k1023 H X Y (sv.hx Yg) (Fv.hx Yg) hby hE2 hL2 (f.on Yg)).mono ?_)
      rintro w g1 ⟨X1g,ub⟩
      obtain ⟨ts,tf,b1,b2,rfl,to,ub⟩:=unp_form ub
      have Yg1:=Yg.trans X1g
      refine WOL.mv rfl <| WOL.ex rfl rfl <| WOL.ex rfl rfl <| WOL.al tp46 fun g2 N2g => ?_
      refine WOL.sto (vs:=[.string ts,zi tf,b1,b2]) rfl rfl tp46 N2g.at_ rfl rfl (Nat.le_of_ble_eq_true rfl) to ((f.on Yg1).hx N2g.hx) (Nat.le_refl _) fun g3 P3g => WOL.as rfl <| WOL.nil <| keep [(5,_),(6,_),(7,_),(8,_),(9,_),(10,_),(11,_),(12,_)] ⟨rfl,rfl,rfl,rfl,rfl,rfl,rfl,rfl,trivial⟩ ?_
      have X3g:HX g1 g3:=P3g.hx _ N2g.hx (Nat.le_refl _)
      have A3g:At g3 g1.next (.cells [.string ts,zi tf,b1,b2] true true 46):=P3g.at_
      have Z3:HX h9 g3:=((X10.trans Xg).trans X1g).trans X3g
      have Yg3:=Yg1.trans X3g
      have Z4:HX h4 g3:=(((N5.hx.trans X6).trans X7).trans X9).trans Z3
      have p5':SlL encY 1 g3 w5 (cond (e == 0) (packB s n.toNat F S) []) ∧ (w5 = .slice none 0 0 ∨ ∃ a n c,w5 = .slice (some a) n c):=by
        rcases p5 with ⟨h0,rfl⟩ | ⟨h0,sw⟩
        · rw [show (e == 0) = false from beq_eq_false_iff_ne.2 h0]
          exact ⟨SlL.nil,.inl rfl⟩
        · rw [show (e == 0) = true from by rw [h0];rfl]
          exact ⟨sw.hx Z4,.inr (sl_some sw packB_ne)⟩
      refine WL.sr <| WOL.mv rfl <| WOL.str p5'.1 p5'.2 rfl <| WOL.mv rfl <| WOL.eqS rfl rfl ?_
      rw [bytes_same]
      refine WOL.mv rfl <| WOL.now (b:=true) rfl rfl <| WOL.mv rfl <| WOL.now (b:=true) rfl rfl <| WOL.mv rfl <| WOL.now (b:=true) rfl rfl ?_
      refine WOL.bi (v:=.bool true) rfl rfl (by show some (Value.bool (e == e)) = _;rw [beq_self_eq_true]) <| WOL.pkt rfl rfl <| WOL.mv rfl ?_
      refine WOL.now (b:=true) rfl rfl <| WOL.ld rfl (load_row tp52 (A9.hx Z3) rfl (Nat.le_of_ble_eq_true rfl)) <| WOL.now (b:=true) rfl rfl <| WOL.mv rfl <| WOL.now (b:=true) rfl rfl <| WOL.mv rfl <| WOL.now (b:=true) rfl rfl <| WOL.ld rfl (load_row tp46 A3g rfl (Nat.le_of_ble_eq_true rfl)) <| WOL.now (b:=true) rfl rfl ?_
      have call:CallW Tryz.prog tp (.func (.func 44) #[] #[]) #[runV us uf a1 a2,zi (unE l es2 L2),zi (unE l es2 L2),runV ts tf b1 b2] g3 fun v' h' => v' = .bool true ∧ HX g3 h':=by
        rcases ua with ⟨u0,rfl,rfl,rfl,rfl⟩ | ⟨u0,rfl,rfl,q1,q2⟩
        · exact k42e H u0 to (f.on Yg3)
        · rcases ub with ⟨t0,_⟩ | ⟨_,rfl,rfl,t1,t2⟩
          · exact absurd u0 t0
          · rw [u0]
            have V:=valid_of hL2 (run_zero u0)
            have m2:=V.m
            have m3:(rdS l (cu0 l)).length ≤ 65535:=by
              have:rdK l (cu0 l) < 65536:=cbs_lt (m:=2) hby (Nat.le_refl _)
              unfold rdS holL
              rw [List.length_map,List.length_range]
              omega
            exact k42 H ((q1.hx X9).hx Z3) (t1.hx X3g) V.lev V.lev ((q2.hx X9).hx Z3) (t2.hx X3g) (by omega) (by omega)
      refine WOL.cl4 rfl rfl rfl rfl rfl (call.mono ?_)
      rintro w g4 ⟨rfl,X4g⟩
      refine WOL.pkt rfl rfl <| WOL.mv rfl <| WOL.now (b:=true) rfl rfl <| WOL.cl0 rfl ((k11 A _).mono ?_)
      rintro w g5 ⟨rfl,e5⟩
      refine WOL.pkt rfl rfl <| WOL.as rfl <| WOL.nil ?_
      exact WL.ret (WL.end_ rfl rfl)
    refine WOL.now (b:=false) rfl rfl <| WOL.mv rfl <| WOL.now (b:=false) rfl rfl <| WOL.len rfl sv2 u116 <| WOL.now (b:=false) rfl rfl ?_
    refine WOL.bi (v:=.bool (decide ((l.length:Int) > 300))) rfl rfl rfl <| WOL.now (b:=false) rfl rfl <| WOL.mv rfl ?_
    by_cases h3:300 < l.length
    · rw [show decide ((l.length:Int) > 300) = true from decide_eq_true (by omega)]
      refine WOL.now (b:=true) rfl rfl <| WOL.mv rfl <| WOL.now (b:=true) rfl rfl <| WOL.len rfl sv2 u116 <| WOL.now (b:=true) rfl rfl ?_
      refine WOL.bi (v:=.bool ((l.length:Int) != 400001)) rfl rfl rfl <| WOL.now (b:=false) rfl rfl <| WOL.pkt rfl rfl <| WOL.pkf rfl rfl <| WOL.nil <| keep [(1,_),(2,_),(25,_)] ⟨rfl,rfl,rfl,trivial⟩ ?_
      by_cases h4:l.length = 400001
      · rw [show ((l.length:Int) != 400001) = false by rw [h4];rfl]
        refine WL.no rfl <| WL.skip ?_
        exact kto (main (by omega)) ⟨rfl,rfl,trivial⟩
      · rw [show ((l.length:Int) != 400001) = true by rw [bne_iff_ne];omega]
        refine WL.yes rfl <| WL.sr <| WOL.cl0 rfl ((k11 A h2).mono ?_)
        rintro v h4 ⟨rfl,rfl⟩
        refine WOL.as rfl <| WOL.nil ?_
        exact WL.ret (WL.end_ rfl rfl)
    · rw [show decide ((l.length:Int) > 300) = false from decide_eq_false (by omega)]
      refine WOL.skp (b:=false) rfl rfl <| WOL.skp (b:=false) rfl rfl <| WOL.skp (b:=false) rfl rfl <| WOL.now (b:=false) rfl rfl <| WOL.pkf rfl rfl <| WOL.pkf rfl rfl <| WOL.nil <| keep [(1,_),(2,_),(25,_)] ⟨rfl,rfl,rfl,trivial⟩ ?_
      refine WL.no rfl <| WL.skip ?_
      exact kto (main (by omega)) ⟨rfl,rfl,trivial⟩
end
abbrev W32:={b:Nat // b < 4294967296}
theorem words_of:∀ l:List W32,(∀ w,w ∈ l.map (·.1) → w < 4294967296) ∧ cat (fun b:W32 => encF b.1) l = cat encF (l.map (·.1))
  | [] => ⟨fun _ h => (by cases h),rfl⟩
  | x :: l => by
    obtain ⟨h1,h2⟩:=words_of l
    refine ⟨fun b hb => ?_,?_⟩
    · rcases List.mem_cons.1 hb with rfl | hb
      · exact x.2
      · exact h1 b hb
    · show encF x.1 ++ cat (fun b:W32 => encF b.1) l = encF x.1 ++ cat encF (l.map (·.1))
      rw [h2]
attribute [local irreducible] Ty valOf
theorem ty_runW {h:TH} {n:Nat} {ps:List Value} (y:Ty Tryz.prog h (n + 4) 46 ps):∃ s z v1 v2 F S,ps = (runV s z v1 v2).cells.toList ∧ RunH h v1 v2 F S ∧ ∀ w,w ∈ F → w < 4294967296:=by
 obtain ⟨p,q,rfl,_,y1,p',q',rfl,_,y2,p2,q2,rfl,_,y3,p3,q3,rfl,_,y4,rfl⟩:=tyg_struct Tryz.underlying46 y
 obtain ⟨s,rfl,_⟩:=ty_str y1
 obtain ⟨z,rfl,_⟩:=ty_int y2
 obtain ⟨v1,F,rfl,r1,g1⟩:=tyg_slice (enc:=fun b:W32 => encF b.1) (k:=1) ⟨fun _ => rfl,fun _ => rfl⟩ u43 (fun p y => by obtain ⟨b,e,hb⟩:=ty_float y;exact ⟨⟨b,f32_in hb⟩,e⟩) y3
 obtain ⟨v2,S,rfl,r2,_⟩:=tyg_slice eS u44 (fun p y => ty_span y) y4
 obtain ⟨h1,h2⟩:=words_of F
 refine ⟨s,z,v1,v2,F.map (·.1),S,rfl,⟨?_,r2,g1 25⟩,h1⟩
 unfold SlL at r1 ⊢
 rw [← h2,List.length_map]
 exact r1
set_option maxRecDepth 100000 in
theorem law1008:Law tpE 9 5 [46,106]:=by
 intro h us f ha
 match us,ha with
 | [x0,x1],⟨⟨p0,y0,e0⟩,⟨p1,y1,e1⟩,_⟩ =>
  obtain ⟨s,z,v1,v2,F,S,rfl,r,hw⟩:=ty_runW y0
  rw [val_agg (.inl ⟨_,Tryz.underlying46⟩)] at e0
  obtain ⟨v,l,rfl,sv,Fv⟩:=tyg_slice (enc:=fun b:B8 => encY b.1) (k:=1) ⟨fun _ => rfl,fun _ => rfl⟩ u116 (fun p y => ty_byte y) y1
  obtain ⟨h1,h2⟩:=bytes_of l
  have s':SlL encY 1 h v (l.map (·.1)):=by
   unfold SlL at sv ⊢
   rw [← h2,List.length_map]
   exact sv
  have ev:valOf Tryz.prog 106 [v] = v:=by unfold valOf;rw [u116];rfl
  rw [ev] at e1
  subst e0 e1
  exact k1008 hasE hasXE hasYE awkE (s:=s) (n:=z) r hw s' (Fv 5) h1 f
end Go.Tidy
