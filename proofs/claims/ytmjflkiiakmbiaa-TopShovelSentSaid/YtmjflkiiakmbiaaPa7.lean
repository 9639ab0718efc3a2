/- A part of the proof. -/
import Derived.Test.YtmjflkiiakmbiaaPa6
import Derived.Test.YtmjflkiiakmbiaaPa4
import Derived.Test.YtmjflkiiakmbiaaPa5
set_option linter.all false
namespace Go.Tidy
open Go Go.Proofs Tab
variable {tp:TProg}
section
variable {h:TH} {src n:Nat} {kp:Nat → Bool} {x:Nat → Int} {bo:Option Addr} {m k:Nat}
set_option maxHeartbeats 4000000 in
set_option maxRecDepth 10000 in
theorem k1099 (H:Has tp) (X:HasX tp) (Y:HasY tp) (hx:∀ p,-128 ≤ x p ∧ x p ≤ 127) (hs:src < 256) (hn:n ≤ 12) (s:SlL encY 1 h (.slice bo m k) (strS (qJ src kp x n))) (f:Free0 h.next h) :
    CallW Try.prog tp (.func (.func 6) #[] #[]) #[.slice bo m k] h fun v h' => HX h h' ∧ ∃ z w1 w2,v = .tuple #[runV rN z w1 w2,.bool true] ∧ JRun kp x n (keptJ kp n).length (z,w1,w2) h':=by
  refine CallW.fnL (H.fn 6 f1099 rfl rfl) ?_
  have hQ:=qJ_ok (kp:=kp) hx hs (show n ≤ 1000 by omega)
  obtain ⟨E,hE,eL,eS⟩:=found_str hQ
  rw [got_q hx] at eL
  have ln:=keptJ_len (kp:=kp) (n:=n)
  have lq:(qJ src kp x n).length = (keptJ kp n).length:=List.length_map ..
  have ls:=strS_len (qJ src kp x n)
  refine WL.sr <| WOL.al tp46 fun h1 N1 => WOL.as rfl <| WOL.nil <| keep [(0,_),(2,_),(3,_)] ⟨rfl,rfl,rfl,trivial⟩ ?_
  have A2:=N1.at_
  have n1:=N1.next
  refine WL.sr <| WOL.bs0 u116 tp5 (by decide) (by decide) fun g1 M1 => WOL.mv rfl ?_
  obtain ⟨v2,g2,ap,X2,s2,b',rfl,_,F2⟩:=append_own u116 tp5 M1.at_ ((s.hx N1.hx).hx M1.hx) (by omega) (eY.all _)
  refine WOL.ap rfl rfl ap ?_
  have Y2:=(N1.hx.trans M1.hx).trans X2
  refine WOL.cl1 rfl rfl ((k67 H X Y (strS_byt _ hQ) hE (by omega) s2 F2 (f.on Y2)).mono ?_)
  rintro w g3 ⟨X3,R3⟩
  rcases R3 with ⟨hbig,_⟩ | ⟨_,w17,w18,rfl,p17,p18⟩
  · omega
  rw [eL] at p17
  have Y3:=Y2.trans X3
  replace A2:=((A2.hx M1.hx).hx X2).hx X3
  have y3:=((M1.hx.trans X2).trans X3).next
  have lp:((keptJ kp n).map (pJ src x)).length = (keptJ kp n).length:=List.length_map ..
  refine WOL.mv rfl <| WOL.ex rfl rfl <| WOL.ex rfl rfl <| WOL.ex rfl rfl <| WOL.as rfl <| WOL.as rfl <| WOL.as rfl <| WOL.nil <| keep [(2,_),(4,_),(6,_)] ⟨rfl,rfl,rfl,trivial⟩ ?_
  refine WL.seq <| WL.sr <| WOL.mv rfl <| WOL.bf rfl rfl rfl rfl <| WOL.mv rfl <| WOL.now (b:=false) rfl rfl <| WOL.mv rfl <| WOL.now (b:=false) rfl rfl <| WOL.len rfl p17 u113 <| WOL.now (b:=false) rfl rfl <| WOL.bf rfl rfl rfl (decide_eq_false (by omega)) <| WOL.pkf rfl rfl <| WOL.nil <| keep [(2,_),(4,_),(27,_)] ⟨rfl,rfl,rfl,trivial⟩ ?_
  refine WL.no rfl <| WL.skip ?_
  refine WL.sr <| WOL.bd rfl bd52r <| WOL.al tp52 fun h4 N4 => ?_
  have n4:=N4.next
  refine WOL.sto (vs:=[.string rN,zi 0,.slice none 0 0,.slice none 0 0]) rfl rfl tp52 N4.at_ rfl rfl (Nat.le_of_ble_eq_true rfl) rfl (f.hx (Y3.trans N4.hx)) (Y3.next) fun h5 P5 => ?_
  have n5:=P5.next
  have X5:HX g3 h5:=P5.hx _ N4.hx (Nat.le_refl _)
  have Y5:=Y3.trans X5
  refine WOL.nil <| keep [(2,_),(4,_),(7,_)] ⟨rfl,rfl,rfl,trivial⟩ ?_
  refine WL.seq <| WL.sr <| WOL.mv rfl <| WOL.len rfl (p17.hx X5) u113 <| WOL.mv rfl <| WOL.nil <| keep [(2,_),(7,_),(30,_),(31,_),(32,_)] ⟨rfl,rfl,rfl,rfl,rfl,trivial⟩ ?_
  refine WL.upto (α:=Int × Value × Value) (keptJ kp n).length (JInv kp x n g3.next g3) (fun _ _ => [(2,ptr h.next),(7,ptr g3.next),(30,w17),(31,zi ((keptJ kp n).length:Nat))]) (0,.slice none 0 0,.slice none 0 0) rfl rfl (by omega) ⟨X5,P5.at_,Above.none,Above.none,.inl ⟨rfl,rfl⟩⟩ (by rw [← lp];exact ⟨rfl,rfl,rfl,rfl,rfl,trivial⟩) (fun _ _ => rfl) (fun _ _ _ => ⟨rfl,rfl,rfl,rfl,rfl,trivial⟩) (fun _ _ _ => ⟨rfl,rfl,rfl,rfl,rfl,trivial⟩) ?_ ?_
  · rintro j ⟨z,v1,v2⟩ g hj ⟨XG,A7,U1,U2,JR⟩
    exact k1099b H X hx hn hj p17 (f.on Y3) XG A7 U1 U2 JR
  · rintro ⟨z,v1,v2⟩ g ⟨XG,A7,U1,U2,JR⟩
    have xg:=XG.next
    have l7:=A7.lt
    refine WL.sr <| WOL.ld rfl (load_row tp52 A7 rfl (Nat.le_of_ble_eq_true rfl)) <| WOL.ld rfl (load_row tp52 A7 rfl (Nat.le_of_ble_eq_true rfl)) ?_
    obtain ⟨D,RD⟩:∃ D,RunC rN z g v1 v2 D:=by
      rcases JR with ⟨_,e⟩ | ⟨k,c0,cl,q1,q2,q3,q4,q5,q6⟩
      · cases e
        exact ⟨_,none_run⟩
      · replace q5:z = _:=q5
        subst q5
        exact ⟨_,q6⟩
    obtain ⟨b1,m1,k1,b2,m2,k2,rfl,rfl⟩:∃ b1 m1 k1 b2 m2 k2,v1 = .slice b1 m1 k1 ∧ v2 = .slice b2 m2 k2:=by
      obtain ⟨F,es,⟨⟨b1,k1,e1,_⟩,⟨b2,k2,e2,_⟩,_⟩,_⟩:=RD
      exact ⟨_,_,_,_,_,_,e1,e2⟩
    refine WOL.lq1 [g3.next] rfl rfl rfl fun M hM => ((c31 H (RD.relock M)).mono ?_)
    rintro v i1 ⟨rfl,X1⟩
    replace X1:=X1.relock
    generalize i1.withLock g.lock = i1 at *
    replace A2:=(A2.hx XG).hx X1
    replace JR:=JR.hx X1
    replace XG:=XG.trans X1
    refine WOL.bt rfl rfl rfl rfl ?_
    refine WOL.sto (vs:=[.string rN,zi z,.slice b1 m1 k1,.slice b2 m2 k2]) rfl rfl tp46 A2 rfl rfl (Nat.le_of_ble_eq_true rfl) rfl (f.hx (Y3.trans XG)) (Nat.le_refl _) fun i2 M2 => ?_
    refine WOL.as rfl <| WOL.nil <| keep [(2,_),(3,_)] ⟨rfl,rfl,trivial⟩ ?_
    refine WL.ret (WL.endC1 rfl rfl (load_row tp46 M2.at_ rfl (Nat.le_of_ble_eq_true rfl)) ⟨M2.hx _ (Y3.trans XG) (Nat.le_refl _),z,_,_,rfl,?_⟩)
    rcases JR with q | ⟨k,c0,cl,q1,q2,q3,q4,q5,q6⟩
    · exact .inl q
    · exact .inr ⟨k,c0,cl,q1,q2,q3,q4,q5,q6.away (n0:=g3.next + 1) U1 U2 M2 (by omega)⟩
end
end Go.Tidy
namespace Go.Tidy
open Go Go.Proofs Tab
attribute [local irreducible] Ty valOf
theorem hasYE:HasY tpE:=⟨by kernel_rfl,by kernel_rfl,by kernel_rfl,by kernel_rfl⟩
section
variable {h:TH} {n:Nat} {ps:List Value}
abbrev B8:={b:Nat // b < 256}
end
end Go.Tidy
namespace Go.Tidy
open Go Go.Proofs Tab
variable {tp:TProg}
section
variable {h:TH} {K:Regs → TH → Prop} {rest:List TOper} {d:Option Tmp} {ty:TypeId} {i:Nat} {x y:Operand} {u t:TypeId} {L:Rg}
end
section
variable {P:Program} {h:TH} {v v2:Value} {e:TypeId} {n n0:Nat} {z:List Value} {row:Bool} {α:Type} {enc:α → List Value} {l m:List α}
theorem own_catB {sT:TypeId} (E:Enc enc n) (hu:P.underlying sT = some (.slice e)) (he:Tp P e n z row) (o:OwnL enc n0 h v e l) (s2:SlL enc n h v2 m) (hm:0 < m.length) (f:Free0 n0 h) (hl:l.length + m.length ≤ 1000000) (hn0:n0 ≤ h.next) :
  ∃ v' h',appendT P #[sT,sT] #[v,v2] h = some (v',h') ∧ OwnL enc n0 h' v' e (l ++ m) ∧ (∀ h0,HX h0 h → h0.next ≤ n0 → HX h0 h') ∧ (∀ c y,bl v ≠ some c → At h c y → At h' c y) ∧ bl v' = some h.next ∧ h.next ≤ h'.next:=by
 have hne:l ++ m ≠ []:=fun e => by
  have this:=congrArg List.length e
  rw [List.length_append,List.length_nil] at this
  omega
 rcases o with ⟨rfl,rfl⟩ | ⟨_,b,rfl,h2,h3⟩
 ·refine ⟨_,_,append_first hu he s2 hm (by simp at hl;omega) (E.all m),.inr ⟨hne,h.next,rfl,hn0,?_⟩,fun h0 hx hb => hx.trans (HX.new _ _),fun c y _ ha => ha.hx (HX.new _ _),rfl,Nat.le_succ _⟩
  rw [List.nil_append]
  exact At.new _ _
 ·refine ⟨_,_,append_more hu he h3 (E.cat_len l) s2 hm (by omega) (E.all m) f h2,.inr ⟨hne,h.next,?_,hn0,?_⟩,fun h0 hx hb => (hx.upd (by omega) _).trans (HX.new _ _),fun c y hc ha => (ha.upd (fun e => hc (by rw [e];rfl))).hx (HX.new _ _),rfl,Nat.le_succ _⟩
  ·rw [List.length_append]
  ·rw [cat_append]
   exact At.new (h.upd b .dead) _
end
end Go.Tidy
namespace Go.Tidy
open Go Go.Proofs Tab
variable {tp:TProg}
section
variable {P:Program} {h:TH} {α:Type} {enc:α → List Value} {n0 n:Nat} {v:Value} {e:TypeId} {l:List α} {z:List Value} {row:Bool}
end
section
variable {h hb:TH} {l:List Nat} {v:Value} {n k n0:Nat}
end
theorem OwnF.lt {α:Type} {enc:α → List Value} {n0:Nat} {h:TH} {v:Value} {e:TypeId} {l:List α} (o:OwnF enc n0 h v e l) {c:Nat} (hc:bl v = some c):n0 ≤ c ∧ c < h.next:=by
 rcases o with o | ⟨b,rfl,h2,h3⟩
 ·exact o.lt hc
 ·cases hc;exact ⟨h2,h3.lt⟩
section
variable {s:ByteArray} {n:Int} {v1 v2:Value} {F:List Nat} {S:List (Int × Int)} {es L:List Int} {h:TH}
end
end Go.Tidy
namespace Go.Tidy
open Go Go.Proofs Tab
variable {tp:TProg}
section
variable {P:Program} {h:TH} {K:Regs → TH → Prop} {rest:List TOper} {d:Option Tmp} {ty:TypeId} {i:Nat} {x:Operand} {L:Rg} {q:Addr} {t e:TypeId} {n:Nat} {z:List Value} {row:Bool}
end
structure Stm (h:TH) (b o cap:Nat) (l:List Nat):Prop where
 ex:∃ cc fix wr el,At h b (.cells cc fix wr el) ∧ (cc.drop o).take l.length = cat encY l ∧ o + l.length ≤ cc.length ∧ (fix = true ∨ el = 5)
 cap:l.length ≤ cap
section
variable {h h':TH} {b o cap:Nat} {l:List Nat}
theorem Stm.hx (s:Stm h b o cap l) (x:HX h h'):Stm h' b o cap l:=⟨by
 obtain ⟨cc,fix,wr,el,a,r⟩:=s.ex
 exact ⟨cc,fix,wr,el,a.hx x,r⟩,s.cap⟩
theorem Stm.oth (s:Stm h b o cap l) {c:Nat} (k:∀ z y,z ≠ c → At h z y → At h' z y) (hb:b ≠ c):Stm h' b o cap l:=⟨by
 obtain ⟨cc,fix,wr,el,a,r⟩:=s.ex
 exact ⟨cc,fix,wr,el,k _ _ hb a,r⟩,s.cap⟩
theorem Stm.part (s:Stm h b o cap l) {p k c:Nat} (hpk:p + k ≤ l.length) (hc:k ≤ c):SlL encY 1 h (.slice (some ⟨b,o + p,none⟩) k c) ((l.drop p).take k):=by
 obtain ⟨cc,fix,wr,el,a,e1,e2,_⟩:=s.ex
 have hl:((l.drop p).take k).length = k:=by rw [List.length_take,List.length_drop];omega
 refine ⟨_,c,by rw [hl],by rw [hl];exact hc,by rw [eY.cat_len],.inr ⟨b,o + p,cc,fix,wr,el,rfl,a,?_,?_⟩⟩
 ·rw [hl,Nat.mul_one]
  have q:=eY.part l p k
  rw [Nat.mul_one,Nat.mul_one] at q
  rw [← q,← e1,List.drop_take,List.take_take,List.drop_drop,Nat.min_eq_left (by omega)]
 ·rw [hl];omega
end
abbrev Cu:=Nat × Bool
section
variable {h:TH} {b o cap c4 n0:Nat} {l:List Nat} {c:Cu}
end
end Go.Tidy
namespace Go.Tidy
open Go Go.Proofs Tab
variable {tp:TProg}
section
variable {h:TH} {l:List Nat} {bo:Option Addr} {n k:Nat}
end
section
variable {h:TH} {K:Regs → TH → Prop} {rest:List TOper} {d:Option Tmp} {ty:TypeId} {i:Nat} {x:Operand} {L:Rg} {v:Value} {m:List Nat}
end
section
variable {hb h g g2 g':TH} {n b o cap c4 c2 c3 nB:Nat} {cur cur':Cu} {s s':ByteArray} {fi fi':Int} {w1 w2 w':Value} {F F':List Nat} {S S':List (Int × Int)}
theorem Put.relock {M:List Nat} {x:TB} {c:Nat} {h1:TH} (p:Put (h.withLock M) h1 c x):Put h (h1.withLock h.lock) c x :=
 ⟨p.at_.relock _,fun z y hz a => (p.oth z y hz (a.relock M)).relock _,p.next,p.floor,rfl,fun h0 y hb => by rw [y.lock];exact (p.hx _ (y.locked M) hb).relock⟩
end
end Go.Tidy
namespace Go.Tidy
open Go Go.Proofs Tab
variable {tp:TProg}
section
variable (l:List Nat) (c:Cu)
end
section
variable {h g:TH} {l:List Nat} {b o cap:Nat}
theorem Stm.relock (s:Stm h b o cap l) (M:List Nat):Stm (h.withLock M) b o cap l:=⟨by
 obtain ⟨cc,fix,wr,el,a,r⟩:=s.ex
 exact ⟨cc,fix,wr,el,a.relock M,r⟩,s.cap⟩
end
section
variable {hb h:TH} {l:List Nat} {b o cap c4:Nat} {c:Cu}
end
end Go.Tidy
namespace Go.Tidy
open Go Go.Proofs Tab
variable {tp:TProg}
section
variable {P:Program} {h:TH} {K:Regs → TH → Prop} {rest:List TOper} {d:Option Tmp} {ty:TypeId} {i:Nat} {x:Operand} {s t:TypeId} {L:Rg} {v vx:Value}
theorem WOL.cvP (hx:getL L x = some vx) (hp:plain vx = true) (hv:pv P (convert s t vx) = some v) (hpv:plain v = true) (w:∀ a,Kn (putL L d v) a → WO P tp rest a h K):∀ a,Kn L a → WO P tp (⟨d,.convert s t x,ty,none,[],i⟩ :: rest) a h K:=fun a k =>
 WO.conv (k.o hx) hp hv hpv (w _ (k.put d _))
end
section
variable {h:TH} {F:List Nat} {v:Value}
end
end Go.Tidy
namespace Go.Tidy
open Go Go.Proofs Tab
variable {tp:TProg}
abbrev Tri:=Int × Int × Int
def encT (t:Tri):List Value:=[.int .i8 t.1,.int .i8 t.2.1,.int .i8 t.2.2]
theorem eT:Enc encT 3:=⟨fun _ => rfl,fun _ => rfl⟩
def triOk (t:Tri):Prop:=(-128 ≤ t.1 ∧ t.1 ≤ 127) ∧ (-128 ≤ t.2.1 ∧ t.2.1 ≤ 127) ∧ (-128 ≤ t.2.2 ∧ t.2.2 ≤ 127)
def xT (d:List Tri) (p:Nat):Int:=cond (p % 3 == 0) (d.getD (p / 3) (0,0,0)).1 (cond (p % 3 == 1) (d.getD (p / 3) (0,0,0)).2.1 (d.getD (p / 3) (0,0,0)).2.2)
theorem xT_at {d:List Tri} {i:Nat} {a b c:Int} (h:d[i]? = some (a,b,c)):xT d (3 * i) = a ∧ xT d (3 * i + 1) = b ∧ xT d (3 * i + 2) = c:=by
 have e:d.getD i (0,0,0) = (a,b,c):=by rw [List.getD_eq_getElem?_getD,h];rfl
 unfold xT
 rw [show 3 * i % 3 = 0 by omega,show (3 * i + 1) % 3 = 1 by omega,show (3 * i + 2) % 3 = 2 by omega,show 3 * i / 3 = i by omega,show (3 * i + 1) / 3 = i by omega,show (3 * i + 2) / 3 = i by omega,e]
 exact ⟨rfl,rfl,rfl⟩
theorem xT_ok {d:List Tri} (h:∀ t,t ∈ d → triOk t) (p:Nat):-128 ≤ xT d p ∧ xT d p ≤ 127:=by
 have k:triOk (d.getD (p / 3) (0,0,0)):=by
  rw [List.getD_eq_getElem?_getD]
  cases e:d[p / 3]? with
  | none => exact ⟨⟨by decide,by decide⟩,⟨by decide,by decide⟩,⟨by decide,by decide⟩⟩
  | some t => exact h t (List.mem_of_getElem? e)
 obtain ⟨k1,k2,k3⟩:=k
 unfold xT
 cases p % 3 == 0
 ·cases p % 3 == 1
  ·exact k3
  ·exact k2
 ·exact k1
def bitJ (L i:Nat):Bool:=decide (L / 2 ^ i % 2 = 0)
def bkJ (kp:Nat → Bool) (x:Nat → Int) (n j:Nat):List Snt:=(keptJ kp j).reverse.map fun i => (4,n - 1 - i,smp (x (3 * i + 2)),smp (x (3 * i + 1)),smp (x (3 * i)))
def rowS (x:Nat → Int) (m:Nat):List Nat:=(List.range m).map fun p => smp (x p)
section
variable {kp:Nat → Bool} {x:Nat → Int} {n j:Nat}
theorem rowS_len {m:Nat}:(rowS x m).length = m:=by unfold rowS;rw [List.length_map,List.length_range]
theorem rowS_succ:rowS x (3 * j) ++ [smp (x (3 * j)),smp (x (3 * j + 1)),smp (x (3 * j + 2))] = rowS x (3 * (j + 1)):=by
 unfold rowS
 rw [show 3 * (j + 1) = 3 * j + 1 + 1 + 1 by omega,List.range_succ,List.range_succ,List.range_succ]
 simp
theorem rowS_one {a b c:Int} (ha:x (3 * j) = a) (hb:x (3 * j + 1) = b) (hc:x (3 * j + 2) = c):rowS x (3 * j) ++ [smp a,smp b,smp c] = rowS x (3 * (j + 1)):=by
 subst ha hb hc
 exact rowS_succ
theorem bkJ_all:bkJ kp x n n = qJ 4 (fun i => kp (n - 1 - i)) (fun p => x (3 * n - 1 - p)) n:=by
 unfold bkJ qJ
 rw [← keptJ_rev,List.map_map]
 refine List.map_congr_left fun i hi => ?_
 have hi:=(keptJ_mem.1 (List.mem_reverse.1 hi)).1
 show _ = (4,n - 1 - i,smp (x (3 * n - 1 - 3 * (n - 1 - i))),smp (x (3 * n - 1 - (3 * (n - 1 - i) + 1))),smp (x (3 * n - 1 - (3 * (n - 1 - i) + 2))))
 rw [show 3 * n - 1 - 3 * (n - 1 - i) = 3 * i + 2 by omega,show 3 * n - 1 - (3 * (n - 1 - i) + 1) = 3 * i + 1 by omega,show 3 * n - 1 - (3 * (n - 1 - i) + 2) = 3 * i by omega]
theorem bkJ_yes (h:kp j = true):bkJ kp x n (j + 1) = (4,n - 1 - j,smp (x (3 * j + 2)),smp (x (3 * j + 1)),smp (x (3 * j))) :: bkJ kp x n j:=by
 unfold bkJ
 rw [keptJ_succ,if_pos h,List.reverse_append]
 rfl
theorem bkJ_no (h:kp j = false):bkJ kp x n (j + 1) = bkJ kp x n j:=by
 unfold bkJ
 rw [keptJ_succ,if_neg (by rw [h];decide)]
theorem qJ_yes {src:Nat} (h:kp j = true):qJ src kp x (j + 1) = qJ src kp x j ++ [(src,j,smp (x (3 * j)),smp (x (3 * j + 1)),smp (x (3 * j + 2)))]:=by
 unfold qJ
 rw [keptJ_succ,if_pos h,List.map_append]
 rfl
theorem qJ_no {src:Nat} (h:kp j = false):qJ src kp x (j + 1) = qJ src kp x j:=by
 unfold qJ
 rw [keptJ_succ,if_neg (by rw [h];decide)]
theorem bkJ_len:(bkJ kp x n j).length ≤ j:=by
 unfold bkJ
 rw [List.length_map,List.length_reverse]
 exact keptJ_len
theorem qJ_len {src:Nat}:(qJ src kp x j).length ≤ j:=by
 unfold qJ
 rw [List.length_map]
 exact keptJ_len
end
theorem enc_ok {s c x y z:Nat} (hs:s < 256) (hc:c < 65536):encV (s:Int) (c:Int) x y z [0,0,0] = .tuple #[.agg (cat encY (frameB s c x y z)).toArray,zi 0]:=by
 have e:pakE (s:Int) (c:Int) [0,0,0] = 0:=by
  unfold pakE
  rw [show outB (s:Int) 0 255 = 0 by unfold outB;rw [show decide ((s:Int) < 0) = false from decide_eq_false (by omega),show decide ((s:Int) > 255) = false from decide_eq_false (by omega)];rfl,show outB (c:Int) 0 65535 = 0 by unfold outB;rw [show decide ((c:Int) < 0) = false from decide_eq_false (by omega),show decide ((c:Int) > 65535) = false from decide_eq_false (by omega)];rfl]
  rfl
 unfold encV
 rw [e,Int.toNat_natCast,Int.toNat_natCast]
 rfl
section
variable {P:Program} {h:TH} {K:Regs → TH → Prop} {rest:List TOper} {d:Option Tmp} {ty t u:TypeId} {i:Nat} {x y:Operand} {L:Rg}
theorem pv_shr16 {n s:Nat} {yk:IntKind} (hs:s ≤ 16):pv P (binOp .shr t (.int .u16 (n:Nat)) (.int yk (s:Nat))) = some (.int .u16 ((n / 2 ^ s:Nat):Int)):=by
 show pv P (Op.shift .shr .u16 n yk s) = _
 unfold Op.shift
 rw [if_neg (by omega)]
 show some (Value.int .u16 ((n:Int).fdiv (2 ^ (min (s:Int).toNat IntKind.u16.bits)))) = _
 have e:min (s:Int).toNat IntKind.u16.bits = s:=by
  have:IntKind.u16.bits = 16:=rfl
  rw [this];omega
 rw [e,Int.fdiv_eq_ediv_of_nonneg _ (Int.le_of_lt (Int.pow_pos (by decide)))]
 rfl
theorem pv_and1 {n:Nat} (hn:n < 65536):pv P (binOp .and t (.int .u16 (n:Nat)) (.int .u16 1)) = some (.int .u16 ((n % 2:Nat):Int)):=by
 have e:(BitVec.ofInt 16 (n:Int) &&& BitVec.ofInt 16 1).toNat = n % 2:=by
  have e1:BitVec.ofInt 16 (n:Int) = BitVec.ofNat 16 n:=BitVec.ofInt_natCast ..
  have e2:BitVec.ofInt 16 1 = BitVec.ofNat 16 1:=rfl
  rw [e1,e2,BitVec.toNat_and,BitVec.toNat_ofNat,BitVec.toNat_ofNat,Nat.mod_eq_of_lt (by omega)]
  exact Nat.and_one_is_mod n
 show pv P (pure (Value.int .u16 (IntKind.u16.wrap ((BitVec.ofInt 16 (n:Int) &&& BitVec.ofInt 16 1).toNat:Nat)))) = _
 rw [e]
 show some (Value.int .u16 (IntKind.u16.wrap ((n % 2:Nat):Int))) = _
 congr 2
 show ((n % 2:Nat):Int) % 65536 = _
 omega
theorem WOL.shr16 {n s:Nat} (hx:getL L x = some (.int .u16 (n:Nat))) (hy:getL L y = some (.int .i64 (s:Nat))) (hs:s ≤ 16) (w:∀ a,Kn (putL L d (.int .u16 ((n / 2 ^ s:Nat):Int))) a → WO P tp rest a h K):∀ a,Kn L a → WO P tp (⟨d,.binOp .shr t x y u,ty,none,[],i⟩ :: rest) a h K :=
 WOL.pbin hx hy rfl rfl rfl ⟨by decide,by decide⟩ (pv_shr16 hs) rfl w
theorem WOL.and1 {n:Nat} (hx:getL L x = some (.int .u16 (n:Nat))) (hn:n < 65536) (w:∀ a,Kn (putL L d (.int .u16 ((n % 2:Nat):Int))) a → WO P tp rest a h K):∀ a,Kn L a → WO P tp (⟨d,.binOp .and t x (.const (.int .u16 1)) u,ty,none,[],i⟩ :: rest) a h K :=
 WOL.pbin hx rfl rfl rfl rfl ⟨by decide,by decide⟩ (pv_and1 hn) rfl w
theorem WOL.fdiv {k:FloatKind} {b c r:Nat} (hx:getL L x = some (.float k b)) (hy:getL L y = some (.float k c)) (hb:nanB k b = false) (hc:nanB k c = false) (hr:k.format.div b c = some r) (hn:nanB k r = false)
  (w:∀ a,Kn (putL L d (.float k r)) a → WO P tp rest a h K):∀ a,Kn L a → WO P tp (⟨d,.binOp .quo t x y u,ty,none,[],i⟩ :: rest) a h K:=fun a k => WO.fdiv (k.o hx) (k.o hy) hb hc hr hn (w _ (k.put d _))
end
theorem bit_lt {L:Nat} (i:Nat) (h:L < 65536):L / 2 ^ i < 65536:=Nat.lt_of_le_of_lt (Nat.div_le_self _ _) h
theorem u1106:Try.prog.underlying 22 = some (.slice 31):=by kernel_rfl
theorem tp92:Tp Try.prog 31 3 [.int .i8 0,.int .i8 0,.int .i8 0] true:=tp_of (by kernel_rfl) (by kernel_rfl) rfl
theorem ix92_0 {c:Nat}:indexAddrT Try.prog 31 (.pointer (some ⟨c,0,none⟩)) (.int .i64 0) = some (.pointer (some ⟨c,0,none⟩)):=by kernel_rfl
theorem ix92_1 {c:Nat}:indexAddrT Try.prog 31 (.pointer (some ⟨c,0,none⟩)) (.int .i64 1) = some (.pointer (some ⟨c,1,none⟩)):=by kernel_rfl
theorem ix92_2 {c:Nat}:indexAddrT Try.prog 31 (.pointer (some ⟨c,0,none⟩)) (.int .i64 2) = some (.pointer (some ⟨c,2,none⟩)):=by kernel_rfl
theorem ix109_0 {c:Nat}:indexAddrT Try.prog 33 (.pointer (some ⟨c,2,none⟩)) (.int .i64 0) = some (.pointer (some ⟨c,2,none⟩)):=by kernel_rfl
theorem ix109_1 {c:Nat}:indexAddrT Try.prog 33 (.pointer (some ⟨c,2,none⟩)) (.int .i64 1) = some (.pointer (some ⟨c,3,none⟩)):=by kernel_rfl
theorem ix109_2 {c:Nat}:indexAddrT Try.prog 33 (.pointer (some ⟨c,2,none⟩)) (.int .i64 2) = some (.pointer (some ⟨c,4,none⟩)):=by kernel_rfl
theorem bd109 {a b c:Nat}:buildT Try.prog 33 [(0,.float .f32 a),(1,.float .f32 b),(2,.float .f32 c)] = some (.agg #[.float .f32 a,.float .f32 b,.float .f32 c]):=by kernel_rfl
theorem bd111a {s j:Int} {a b c:Nat}:buildT Try.prog 35 [(0,zi s),(1,zi j),(2,.agg #[.float .f32 a,.float .f32 b,.float .f32 c])] = some (pak s j a b c):=by kernel_rfl
end Go.Tidy
namespace Go.Tidy
open Go Go.Proofs Tab
variable {tp:TProg}
structure JSnt (kp:Nat → Bool) (x:Nat → Int) (n:Nat) (hB:TH) (j:Nat) (s:Value × Value × Value) (g:TH):Prop where
 X:HX hB g
 A5:At g hB.next (.cells [.string rN,zi 0,s.1,.slice none 0 0] true true 28)
 O5:OwnL encF (hB.next + 1) g s.1 32 (rowS x (3 * j))
 O6:OwnL encY (hB.next + 1) g s.2.1 5 (strS (qJ 3 kp x j))
 s7:SlL encY 1 g s.2.2 (strS (bkJ kp x n j))
 l7:∀ z,bl s.2.2 = some z → hB.next + 1 ≤ z ∧ z < g.next
 n56:∀ z,bl s.1 = some z → bl s.2.1 ≠ some z
 n57:∀ z,bl s.1 = some z → bl s.2.2 ≠ some z
 n67:∀ z,bl s.2.1 = some z → bl s.2.2 ≠ some z
def cd1098p (rest:TCode):TCode:=.seq (.reg r1098_7) (.seq (.reg r1098_8) (.seq (.reg r1098_9) rest))
def cd1098r (rest:TCode):TCode:=.seq (.reg r1098_10) (.seq (.reg r1098_11) (.seq (.reg r1098_12) (.seq (.seq (.reg r1098_13) (.cond (.tmp 105) (.seq (.reg r1098_14) .ret) .skip)) rest)))
def cd1098q:TCode:=.seq (.reg r1098_15) (.cond (.tmp 110) (.seq (.reg r1098_16) (.reg r1098_17)) .skip)
section
variable {h hB g:TH} {d:List Tri} {v:Value} {L j:Nat} {s:Value × Value × Value}
set_option maxHeartbeats 4000000 in
set_option maxRecDepth 10000 in
theorem k1098p (H:Has tp) (X:HasX tp) (Y:HasY tp) (hd:∀ t,t ∈ d → triOk t) (hn:d.length ≤ 12) (hj:j < d.length) (sd:SlL encT 3 hB v d) (f:Free0 hB.next hB) (q:JSnt (bitJ L) (xT d) d.length hB j s g) {rest:TCode} {Q:Exit → Regs → TH → Prop}
  (e:∀ g' w5 c10,HX hB g' → hB.next < c10 → g.next ≤ g'.next → At g' hB.next (.cells [.string rN,zi 0,w5,.slice none 0 0] true true 28) → OwnL encF (hB.next + 1) g' w5 32 (rowS (xT d) (3 * (j + 1))) → OwnL encY (hB.next + 1) g' s.2.1 5 (strS (qJ 3 (bitJ L) (xT d) j)) → SlL encY 1 g' s.2.2 (strS (bkJ (bitJ L) (xT d) d.length j)) →
   (∀ z,bl w5 = some z → g.next ≤ z) → At g' c10 (.cells [zi 3,zi (j:Nat),.float .f32 (smp (xT d (3 * j))),.float .f32 (smp (xT d (3 * j + 1))),.float .f32 (smp (xT d (3 * j + 2)))] true true 35) →
   ∀ a,Kn [(0,v),(1,.int .u16 (L:Nat)),(5,ptr hB.next),(6,s.2.1),(7,s.2.2),(8,zi (j:Nat)),(10,ptr c10),(46,v),(47,zi (d.length:Nat)),(48,zi (j:Nat))] a → W Try.prog tp false rest a g' Q) :
  ∀ a,Kn [(48,zi (j:Nat)),(0,v),(1,.int .u16 (L:Nat)),(5,ptr hB.next),(6,s.2.1),(7,s.2.2),(46,v),(47,zi (d.length:Nat))] a → W Try.prog tp false (cd1098p rest) a g Q:=by
 obtain ⟨XG,A5,O5,O6,s7,l7,n56,n57,n67⟩:=q
 obtain ⟨w5,w6,w7⟩:=s
 have hp:d[j]? = some d[j]:=List.getElem?_eq_getElem hj
 have ht:=hd _ (List.getElem_mem hj)
 generalize d[j] = t at hp ht
 obtain ⟨ta,tb,tc⟩:=t
 obtain ⟨xa,xb,xc⟩:=xT_at hp
 obtain ⟨⟨a1,a2⟩,⟨b1,b2⟩,⟨c1,c2⟩⟩:=ht
 replace a1:-128 ≤ ta:=a1
 replace a2:ta ≤ 127:=a2
 replace b1:-128 ≤ tb:=b1
 replace b2:tb ≤ 127:=b2
 replace c1:-128 ≤ tc:=c1
 replace c2:tc ≤ 127:=c2
 obtain ⟨da,na,sa⟩:=smp_ok (n:=ta) (by omega)
 obtain ⟨db,nb,sb⟩:=smp_ok (n:=tb) (by omega)
 obtain ⟨dc,nc,sc⟩:=smp_ok (n:=tc) (by omega)
 have wa:=(smp_word (n:=ta) (by omega) (by omega)).2
 have wb:=(smp_word (n:=tb) (by omega) (by omega)).2
 have wc:=(smp_word (n:=tc) (by omega) (by omega)).2
 rw [xa,xb,xc] at e
 have xg:=XG.next
 have fg:=f.on XG
 have l5:=A5.lt
 have lw5:=fun z (hz:bl w5 = some z) => O5.lt hz
 have lw6:=fun z (hz:bl w6 = some z) => O6.lt hz
 unfold cd1098p
 obtain ⟨b,o,cc,fix,wr,el,q1,q2,q3,q4,_⟩:=(sd.hx XG).at eT u1106 tp92 hp .i64
 refine WL.sr <| WOL.mv rfl <| WOL.ix rfl rfl q1 <| WOL.ld rfl (load_row tp92 q2 q4 q3) <| WOL.al tp92 fun i1 M1 => WOL.as rfl ?_
 refine WOL.sto (vs:=encT (ta,tb,tc)) rfl rfl tp92 M1.at_ rfl rfl (Nat.le_of_ble_eq_true rfl) rfl (fg.hx M1.hx) (Nat.le_refl _) fun i2 M2 => ?_
 have m2:=M2.next
 have m1:=M1.next
 have XI:HX g i2:=M2.hx _ M1.hx (Nat.le_refl _)
 have B9:At i2 g.next (.cells [.int .i8 ta,.int .i8 tb,.int .i8 tc] true true 31):=M2.at_
 refine WOL.nil <| keep [(0,_),(1,_),(5,_),(6,_),(7,_),(8,_),(9,_),(46,_),(47,_),(48,_)] ⟨rfl,rfl,rfl,rfl,rfl,rfl,rfl,rfl,rfl,rfl,trivial⟩ ?_
 refine WL.sr <| WOL.mv rfl <| WOL.ix rfl rfl ix92_0 <| WOL.ld rfl (load_one tp91 B9 rfl) <| WOL.cvP rfl rfl (conv_i2f u91 u25) (plain_float na) <| WOL.fdiv rfl rfl na (by decide) da sa.nan ?_
 refine WOL.ix rfl rfl ix92_1 <| WOL.ld rfl (load_one tp91 B9 rfl) <| WOL.cvP rfl rfl (conv_i2f u91 u25) (plain_float nb) <| WOL.fdiv rfl rfl nb (by decide) db sb.nan ?_
 refine WOL.ix rfl rfl ix92_2 <| WOL.ld rfl (load_one tp91 B9 rfl) <| WOL.cvP rfl rfl (conv_i2f u91 u25) (plain_float nc) <| WOL.fdiv rfl rfl nc (by decide) dc sc.nan ?_
 refine WOL.bd rfl bd109 <| WOL.bd rfl bd111a <| WOL.al tp111 fun i3 M3 => ?_
 have m3:=M3.next
 replace XI:=XI.trans M3.hx
 refine WOL.sto (vs:=[zi 3,zi (j:Nat),.float .f32 (smp ta),.float .f32 (smp tb),.float .f32 (smp tc)]) rfl rfl tp111 M3.at_ rfl rfl (Nat.le_of_ble_eq_true rfl) rfl (fg.hx XI) (by omega) fun i4 M4 => ?_
 have m4:=M4.next
 have A10:At i4 i2.next (.cells [zi 3,zi (j:Nat),.float .f32 (smp ta),.float .f32 (smp tb),.float .f32 (smp tc)] true true 35):=M4.at_
 replace XI:=M4.hx _ XI (by omega)
 refine WOL.nil <| keep [(0,_),(1,_),(5,_),(6,_),(7,_),(8,_),(10,_),(46,_),(47,_),(48,_)] ⟨rfl,rfl,rfl,rfl,rfl,rfl,rfl,rfl,rfl,rfl,trivial⟩ ?_
 -- the samples
 have xi:=XI.next
 replace A5:=A5.hx XI;replace O5:=O5.hx XI;replace O6:=O6.hx XI;replace s7:=s7.hx XI
 have X1:=XG.trans XI
 refine WL.sr <| WOL.fa rfl (fa_of fo52_2) <| WOL.ld rfl (load_one tp43 A5 rfl) <| WOL.fa rfl (fa_of fo111_2) <| WOL.slG rfl rfl rfl rfl (sliceA u109 tp25 A10 rfl) ?_
 obtain ⟨w5',i5,ap,O5',x5,y5,b5,n5⟩:=own_catB (sT:=25) eF u43 tp25 O5 (slR A10) (by show 0 < 3;decide) ((f.hx X1).up (by omega)) (by rw [rowS_len];show 3 * j + 3 ≤ 1000000;omega) (by omega)
 refine WOL.ap rfl rfl ap <| WOL.fa rfl (fa_of fo52_2) ?_
 have no5:∀ z,z < hB.next + 1 → bl w5 ≠ some z:=fun z hz e => by have:=lw5 z e;omega
 have X2:HX hB i5:=x5 _ X1 (by omega)
 replace A5:=y5 _ _ (no5 _ (by omega)) A5
 replace A10:=y5 _ _ (fun e => by have:=lw5 _ e;omega) A10
 replace O6:=O6.keep fun z y hz a => y5 z y (fun e => n56 z e hz) a
 replace s7:=slC_keep s7 fun z y hz a => y5 z y (fun e => n57 z e hz) a
 obtain ⟨z5,e5⟩:=OwnF.form (Or.inl O5')
 refine WOL.sto (vs:=[w5']) rfl rfl tp43 A5 (by rw [e5];rfl) rfl (Nat.le_of_ble_eq_true rfl) (by rw [e5];rfl) (f.hx X2) (Nat.le_refl _) fun i6 M6 => ?_
 have m6:=M6.next
 replace A5:At i6 hB.next (.cells [.string rN,zi 0,w5',.slice none 0 0] true true 28):=M6.at_
 replace A10:=M6.oth _ _ (by omega) A10
 replace X2:=M6.hx _ X2 (Nat.le_refl _)
 have T6:∀ z y,hB.next + 1 ≤ z → At i5 z y → At i6 z y:=fun z y hz a => M6.oth z y (by omega) a
 replace O5':=O5'.keep fun z y hz a => T6 z y (O5'.lt hz).1 a
 replace O6:=O6.keep fun z y hz a => T6 z y (lw6 z hz).1 a
 replace s7:=slC_keep s7 fun z y hz a => T6 z y (l7 z hz).1 a
 rw [rowS_one xa xb xc] at O5'
 have n6:=M6.next
 refine WOL.nil <| kto (e i6 w5' _ X2 (by omega) (by omega) A5 O5' O6 s7 (fun z hz => ?_) A10) ⟨rfl,rfl,rfl,rfl,rfl,rfl,rfl,rfl,rfl,rfl,trivial⟩
 have:=Option.some.inj (hz.symm.trans b5)
 omega
set_option maxHeartbeats 4000000 in
set_option maxRecDepth 10000 in
theorem k1098r (H:Has tp) (X:HasX tp) (Y:HasY tp) {w6 w7:Value} {x:Nat → Int} {n c10:Nat} (hx:∀ p,-128 ≤ x p ∧ x p ≤ 127) (hn:n ≤ 12) (hj:j < n) (sd:SlL encT 3 hB v d) (dn:d.length = n) (f:Free0 hB.next hB) (X1:HX hB g)
  (A10:At g c10 (.cells [zi 3,zi (j:Nat),.float .f32 (smp (x (3 * j))),.float .f32 (smp (x (3 * j + 1))),.float .f32 (smp (x (3 * j + 2)))] true true 35)) {rest:TCode} {Q:Exit → Regs → TH → Prop}
  (e:∀ g' c12 c14,HX g g' → g.next ≤ c12 → c12 < c14 → c14 < g'.next → At g' c12 (.cells (cat encY (frameB 3 j (smp (x (3 * j))) (smp (x (3 * j + 1))) (smp (x (3 * j + 2))))) true true 36) → At g' c14 (.cells (cat encY (frameB 4 (n - 1 - j) (smp (x (3 * j + 2))) (smp (x (3 * j + 1))) (smp (x (3 * j))))) true true 36) →
   ∀ a,Kn [(0,v),(1,.int .u16 (L:Nat)),(5,ptr hB.next),(6,w6),(7,w7),(8,zi (j:Nat)),(12,ptr c12),(14,ptr c14),(46,v),(47,zi (n:Nat)),(48,zi (j:Nat))] a → W Try.prog tp false rest a g' Q) :
  ∀ a,Kn [(0,v),(1,.int .u16 (L:Nat)),(5,ptr hB.next),(6,w6),(7,w7),(8,zi (j:Nat)),(10,ptr c10),(46,v),(47,zi (n:Nat)),(48,zi (j:Nat))] a → W Try.prog tp false (cd1098r rest) a g Q:=by
 have w:∀ p,smp (x p) < 4294967296:=fun p => (smp_word (hx p).1 (by have:=(hx p).2;omega)).2
 have ee:∀ p,SampleE (smp (x p)) 0:=fun p => smp_e0 (hx p).1 (hx p).2
 have wa:=w (3 * j)
 have wb:=w (3 * j + 1)
 have wc:=w (3 * j + 2)
 have ea:=ee (3 * j)
 have eb:=ee (3 * j + 1)
 have ec:=ee (3 * j + 2)
 clear w ee
 unfold cd1098r
 generalize smp (x (3 * j)) = fa at *
 generalize smp (x (3 * j + 1)) = fb at *
 generalize smp (x (3 * j + 2)) = fc at *
 have fg:=f.on X1
 have l10:=A10.lt
 have sx:=sd.hx X1
 rw [← dn] at hj hn e ⊢
 refine WL.sr <| WOL.mv rfl <| WOL.len rfl sx u1106 <| WOL.sub (m:=((d.length:Nat):Int)) (n:=1) rfl rfl (by omega) (by omega) <| WOL.mv rfl <| WOL.sub (n:=((j:Nat):Int)) rfl rfl (by omega) (by omega) ?_
 rw [show ((d.length:Nat):Int) - 1 - ((j:Nat):Int) = ((d.length - 1 - j:Nat):Int) by omega]
 refine WOL.fa rfl (fa_of fo111_2) <| WOL.ix rfl rfl ix109_2 <| WOL.ld rfl (load_one tp25 A10 rfl) <| WOL.fa rfl (fa_of fo111_2) <| WOL.ix rfl rfl ix109_1 <| WOL.ld rfl (load_one tp25 A10 rfl) <| WOL.fa rfl (fa_of fo111_2) <| WOL.ix rfl rfl ix109_0 <| WOL.ld rfl (load_one tp25 A10 rfl) ?_
 refine WOL.bd rfl bd109 <| WOL.bd rfl bd111a <| WOL.al tp111 fun i1 M1 => ?_
 have m1:=M1.next
 refine WOL.sto (vs:=[zi 4,zi (d.length - 1 - j:Nat),.float .f32 fc,.float .f32 fb,.float .f32 fa]) rfl rfl tp111 M1.at_ rfl rfl (Nat.le_of_ble_eq_true rfl) rfl (fg.hx M1.hx) (Nat.le_refl _) fun i2 M2 => ?_
 have m2:=M2.next
 have A11:At i2 g.next (.cells [zi 4,zi (d.length - 1 - j:Nat),.float .f32 fc,.float .f32 fb,.float .f32 fa] true true 35):=M2.at_
 have XI:HX g i2:=M2.hx _ M1.hx (Nat.le_refl _)
 replace A10:=A10.hx XI
 refine WOL.nil <| keep [(0,_),(1,_),(5,_),(6,_),(7,_),(8,_),(10,_),(11,_),(46,_),(47,_),(48,_)] ⟨rfl,rfl,rfl,rfl,rfl,rfl,rfl,rfl,rfl,rfl,rfl,trivial⟩ ?_
 refine WL.sr <| WOL.ld rfl (load_row tp111 A10 rfl (Nat.le_of_ble_eq_true rfl)) ?_
 refine WOL.cl1 rfl rfl ((k65 (s:=((3:Nat):Int)) (c:=((j:Nat):Int)) H X Y (serr_000 ea eb ec) wa wb wc (fg.on XI)).mono ?_)
 rintro u i3 ⟨rfl,X3⟩
 rw [enc_ok (by decide) (by omega)]
 have cf:(cat encY (frameB 3 j fa fb fc)).length = 20:=by rw [eY.cat_len,frameB_len]
 refine WOL.mv rfl <| WOL.ex rfl rfl <| WOL.ex rfl rfl <| WOL.al tp106 fun i4 M4 => ?_
 have x3:=X3.next
 have m4:=M4.next
 replace XI:=(XI.trans X3).trans M4.hx
 refine WOL.sto (vs:=cat encY (frameB 3 j fa fb fc)) rfl rfl tp106 M4.at_ rfl cf (Nat.le_of_ble_eq_true rfl) (eY.all _) (fg.hx XI) (by omega) fun i5 M5 => ?_
 have m5:=M5.next
 have A12:=M5.at_
 rw [splice_all _ _ (by rw [cf];rfl)] at A12
 replace A11:=M5.oth _ _ (by omega) ((A11.hx X3).hx M4.hx)
 replace XI:=M5.hx _ XI (by omega)
 refine WOL.as rfl <| WOL.nil <| keep [(0,_),(1,_),(5,_),(6,_),(7,_),(8,_),(11,_),(12,_),(13,_),(46,_),(47,_),(48,_)] ⟨rfl,rfl,rfl,rfl,rfl,rfl,rfl,rfl,rfl,rfl,rfl,rfl,trivial⟩ ?_
 refine WL.sr <| WOL.ld rfl (load_row tp111 A11 rfl (Nat.le_of_ble_eq_true rfl)) ?_
 refine WOL.cl1 rfl rfl ((k65 (s:=((4:Nat):Int)) (c:=((d.length - 1 - j:Nat):Int)) H X Y (serr_000 ec eb ea) wc wb wa (fg.on XI)).mono ?_)
 rintro u i6 ⟨rfl,X6⟩
 rw [enc_ok (by decide) (by omega)]
 have cg:(cat encY (frameB 4 (d.length - 1 - j) fc fb fa)).length = 20:=by rw [eY.cat_len,frameB_len]
 refine WOL.mv rfl <| WOL.ex rfl rfl <| WOL.ex rfl rfl <| WOL.al tp106 fun i7 M7 => ?_
 have x6:=X6.next
 have m7:=M7.next
 replace XI:=(XI.trans X6).trans M7.hx
 refine WOL.sto (vs:=cat encY (frameB 4 (d.length - 1 - j) fc fb fa)) rfl rfl tp106 M7.at_ rfl cg (Nat.le_of_ble_eq_true rfl) (eY.all _) (fg.hx XI) (by omega) fun i8 M8 => ?_
 have m8:=M8.next
 have A14:=M8.at_
 rw [splice_all _ _ (by rw [cg];rfl)] at A14
 replace A12:=M8.oth _ _ (by omega) ((A12.hx X6).hx M7.hx)
 replace XI:=M8.hx _ XI (by omega)
 refine WOL.as rfl <| WOL.nil <| keep [(0,_),(1,_),(5,_),(6,_),(7,_),(8,_),(12,_),(13,_),(14,_),(15,_),(46,_),(47,_),(48,_)] ⟨rfl,rfl,rfl,rfl,rfl,rfl,rfl,rfl,rfl,rfl,rfl,rfl,rfl,trivial⟩ ?_
 refine WL.seq <| WL.sr <| WOL.mv rfl <| WOL.bf rfl rfl rfl rfl <| WOL.mv rfl <| WOL.now (b:=false) rfl rfl <| WOL.mv rfl <| WOL.now (b:=false) rfl rfl <| WOL.bf rfl rfl rfl rfl <| WOL.pkf rfl rfl <| WOL.nil <| keep [(0,_),(1,_),(5,_),(6,_),(7,_),(8,_),(12,_),(14,_),(46,_),(47,_),(48,_),(105,_)] ⟨rfl,rfl,rfl,rfl,rfl,rfl,rfl,rfl,rfl,rfl,rfl,rfl,trivial⟩ ?_
 refine WL.no rfl <| WL.skip ?_
 exact kto (e i8 _ _ XI (by omega) (by omega) (by omega) A12 A14) ⟨rfl,rfl,rfl,rfl,rfl,rfl,rfl,rfl,rfl,rfl,rfl,trivial⟩
end
end Go.Tidy
namespace Go.Tidy
open Go Go.Proofs Tab
variable {tp:TProg}
theorem bitJ_yes {L j:Nat} (h:bitJ L j = true):L / 2 ^ j % 2 = 0:=of_decide_eq_true h
theorem bitJ_no {L j:Nat} (h:bitJ L j = false):L / 2 ^ j % 2 = 1:=by have:=of_decide_eq_false h;omega
theorem frS_mk {s c x y z:Nat}:frameB s c x y z = frS (s,c,x,y,z):=rfl
abbrev regJ (v:Value) (L n b:Nat) (s:Value × Value × Value):Rg:=[(0,v),(1,.int .u16 (L:Nat)),(5,ptr b),(6,s.2.1),(7,s.2.2),(46,v),(47,zi (n:Nat))]
section
variable {hB g:TH} {v w5 w6 w7:Value} {L j n c12 c14:Nat} {x:Nat → Int}
set_option maxHeartbeats 4000000 in
set_option maxRecDepth 10000 in
theorem k1098q (hL:L < 65536) (hn:n ≤ 12) (hj:j < n) (f:Free0 hB.next hB) (X1:HX hB g) (A5:At g hB.next (.cells [.string rN,zi 0,w5,.slice none 0 0] true true 28))
  (O5:OwnL encF (hB.next + 1) g w5 32 (rowS x (3 * (j + 1)))) (O6:OwnL encY (hB.next + 1) g w6 5 (strS (qJ 3 (bitJ L) x j))) (s7:SlL encY 1 g w7 (strS (bkJ (bitJ L) x n j)))
  (l7:∀ z,bl w7 = some z → hB.next + 1 ≤ z ∧ z < g.next) (n56:∀ z,bl w5 = some z → bl w6 ≠ some z) (n57:∀ z,bl w5 = some z → bl w7 ≠ some z) (n67:∀ z,bl w6 = some z → bl w7 ≠ some z)
  (b14:hB.next < c14) (h6:∀ z,bl w6 = some z → z < c14) (h7:∀ z,bl w7 = some z → z < c14)
  (A12:At g c12 (.cells (cat encY (frameB 3 j (smp (x (3 * j))) (smp (x (3 * j + 1))) (smp (x (3 * j + 2))))) true true 36)) (A14:At g c14 (.cells (cat encY (frameB 4 (n - 1 - j) (smp (x (3 * j + 2))) (smp (x (3 * j + 1))) (smp (x (3 * j))))) true true 36)) {Q:Exit → Regs → TH → Prop} :
  ∀ a,Kn [(0,v),(1,.int .u16 (L:Nat)),(5,ptr hB.next),(6,w6),(7,w7),(8,zi (j:Nat)),(12,ptr c12),(14,ptr c14),(46,v),(47,zi (n:Nat)),(48,zi (j:Nat))] a → W Try.prog tp false cd1098q a g (Next 1 0 48 (j:Nat) (JSnt (bitJ L) x n hB (j + 1)) (regJ v L n hB.next) Q):=by
 have lw5:=fun z (hz:bl w5 = some z) => O5.lt hz
 have lw6:=fun z (hz:bl w6 = some z) => O6.lt hz
 have l14:=A14.lt
 unfold cd1098q
 refine WL.sr <| WOL.mv rfl <| WOL.mv rfl <| WOL.shr16 rfl rfl (by omega) <| WOL.and1 rfl (bit_lt j hL) ?_
 cases hk:bitJ L j with
 | false =>
  have e1:=bitJ_no hk
  refine WOL.bf rfl rfl rfl (beq_eq_false_iff_ne.2 (by omega)) <| WOL.nil <| keep [(0,_),(1,_),(5,_),(6,_),(7,_),(46,_),(47,_),(48,_),(110,_)] ⟨rfl,rfl,rfl,rfl,rfl,rfl,rfl,rfl,rfl,trivial⟩ ?_
  refine WL.no rfl <| WL.skip ?_
  exact fun a q => ⟨(w5,w6,w7),⟨X1,A5,O5,by rw [qJ_no hk];exact O6,by rw [bkJ_no hk];exact s7,l7,n56,n57,n67⟩,q.sub ⟨rfl,rfl,rfl,rfl,rfl,rfl,rfl,rfl,trivial⟩⟩
 | true =>
  have e1:=bitJ_yes hk
  refine WOL.bt rfl rfl rfl (beq_iff_eq.2 (by omega)) <| WOL.nil <| keep [(0,_),(1,_),(5,_),(6,_),(7,_),(12,_),(14,_),(46,_),(47,_),(48,_),(110,_)] ⟨rfl,rfl,rfl,rfl,rfl,rfl,rfl,rfl,rfl,rfl,rfl,trivial⟩ ?_
  have lq:=strS_len (qJ 3 (bitJ L) x j)
  have lb:=strS_len (bkJ (bitJ L) x n j)
  have q1:=qJ_len (src:=3) (kp:=bitJ L) (x:=x) (j:=j)
  have b1:=bkJ_len (kp:=bitJ L) (x:=x) (n:=n) (j:=j)
  refine WL.yes rfl <| WL.sr <| WOL.mv rfl <| WOL.slG rfl rfl rfl rfl (sliceA u106 tp5 A12 (l:=0) (hh:=20) (m:=20) rfl) ?_
  have sf:=slY (lo:=0) (hi:=20) (m:=20) A12 (by decide) (by rw [frameB_len];exact Nat.le_refl _) (Nat.le_refl _)
  rw [List.drop_zero,List.take_of_length_le (by rw [frameB_len];exact Nat.le_refl _),frS_mk] at sf
  have xb:=X1.next
  obtain ⟨w6',i1,ap,O6',x1,y1,b6,n1⟩:=own_catB (sT:=29) eY u116 tp5 O6 sf (by rw [frS_len];decide) ((f.hx X1).up (by omega)) (by rw [frS_len];omega) (by have:=A5.lt;omega)
  have e6:strS (qJ 3 (bitJ L) x j) ++ frS (3,j,smp (x (3 * j)),smp (x (3 * j + 1)),smp (x (3 * j + 2))) = strS (qJ 3 (bitJ L) x (j + 1)):=by
   rw [qJ_yes hk,strS_app]
   show _ = _ ++ (frS _ ++ [])
   rw [List.append_nil]
  rw [e6] at O6'
  refine WOL.ap rfl rfl ap <| WOL.as rfl <| WOL.nil <| keep [(0,_),(1,_),(5,_),(6,_),(7,_),(14,_),(46,_),(47,_),(48,_)] ⟨rfl,rfl,rfl,rfl,rfl,rfl,rfl,rfl,rfl,trivial⟩ ?_
  have X2:HX hB i1:=x1 _ X1 (by omega)
  replace A5:=y1 _ _ (fun e => by have:=lw6 _ e;omega) A5
  replace A14:=y1 _ _ (fun e => by have:=h6 _ e;omega) A14
  replace O5:=O5.keep fun z y hz a => y1 z y (n56 z hz) a
  replace s7:=slC_keep s7 fun z y hz a => y1 z y (fun e => n67 z e hz) a
  refine WL.reg <| WOL.bs0 u116 tp5 (by decide) (by decide) fun i2 M2 => ?_
  have m2:=M2.next
  have XI:=M2.hx
  refine WOL.slG rfl rfl rfl rfl (sliceA u106 tp5 (A14.hx XI) (l:=0) (hh:=20) (m:=20) rfl) ?_
  have sg:=slY (lo:=0) (hi:=20) (m:=20) (A14.hx XI) (by decide) (by rw [frameB_len];exact Nat.le_refl _) (Nat.le_refl _)
  rw [List.drop_zero,List.take_of_length_le (by rw [frameB_len];exact Nat.le_refl _),frS_mk] at sg
  have lf:=frS_len (p:=(4,n - 1 - j,smp (x (3 * j + 2)),smp (x (3 * j + 1)),smp (x (3 * j))))
  refine WOL.ap rfl rfl (append_fix (j:=0) u116 tp5 M2.at_ rfl sg (by rw [lf];decide) (by rw [lf];decide) (eY.all _)) ?_
  rw [List.nil_append,Nat.zero_add]
  have M3:=New.mk' i2 (.cells (cat encY (frS (4,n - 1 - j,smp (x (3 * j + 2)),smp (x (3 * j + 1)),smp (x (3 * j))))) false true 5)
  generalize i2.new (.cells (cat encY (frS (4,n - 1 - j,smp (x (3 * j + 2)),smp (x (3 * j + 1)),smp (x (3 * j))))) false true 5) = i3 at *
  have m3:=M3.next
  replace XI:=XI.trans M3.hx
  have O7:OwnL encY (hB.next + 1) i3 (.slice (some ⟨i2.next,0,none⟩) (frS (4,n - 1 - j,smp (x (3 * j + 2)),smp (x (3 * j + 1)),smp (x (3 * j)))).length (frS (4,n - 1 - j,smp (x (3 * j + 2)),smp (x (3 * j + 1)),smp (x (3 * j)))).length) 5 _:=.inr ⟨fun e => by rw [e] at lf;simp at lf,i2.next,rfl,by omega,M3.at_⟩
  replace s7:=s7.hx XI
  refine WOL.mv rfl ?_
  obtain ⟨w7',i4,ap4,s7',x4,y4,n4,b7⟩:=own_cat (sT:=29) eY (by decide) u116 tp5 O7 s7 ((f.hx (X2.trans XI)).up (by omega)) (by rw [lf];omega) (by omega)
  have e7:frS (4,n - 1 - j,smp (x (3 * j + 2)),smp (x (3 * j + 1)),smp (x (3 * j))) ++ strS (bkJ (bitJ L) x n j) = strS (bkJ (bitJ L) x n (j + 1)):=by
   rw [bkJ_yes hk];rfl
  rw [e7] at s7'
  refine WOL.ap rfl rfl ap4 <| WOL.as rfl <| WOL.nil ?_
  have xi:=XI.next
  have K:∀ z y,z ≠ i2.next → At i1 z y → At i4 z y:=fun z y hz a => y4 z y (fun e => hz (Option.some.inj e).symm) (a.hx XI)
  have lw6':=fun z (hz:bl w6' = some z) => O6'.lt hz
  have bb:∀ z,bl w7' = some z → z = i2.next ∨ i3.next ≤ z:=fun z hz => by
   rcases b7 z hz with e | e
   ·exact .inl (Option.some.inj e).symm
   ·exact .inr e
  have t7:∀ z,bl w7' = some z → z < i4.next:=fun z hz => by
   obtain ⟨bo,cap,rfl,_,_,hh⟩:=s7'
   rcases hh with ⟨rfl,_⟩ | ⟨b,off,cc,fix,wr,el,rfl,q2,_⟩
   ·cases hz
   ·cases hz;exact q2.lt
  have l1:=A5.lt
  exact fun a q => ⟨(w5,w6',w7'),⟨x4 _ (X2.trans XI) (by omega),K _ _ (by omega) A5,O5.keep fun z y hz a => K _ _ (by have:=lw5 z hz;omega) a,O6'.keep fun z y hz a => K _ _ (by have:=lw6' z hz;omega) a,s7',fun z hz => ⟨by have:=bb z hz;omega,t7 z hz⟩,fun z hz e => by
   have:=lw5 z hz
   have:z = g.next:=Option.some.inj (e.symm.trans b6)
   omega,fun z hz e => by
   have:=lw5 z hz
   have:=bb z e
   omega,fun z hz e => by
   have:=lw6' z hz
   have:=bb z e
   omega⟩,q.sub ⟨rfl,rfl,rfl,rfl,rfl,rfl,rfl,rfl,trivial⟩⟩
end
end Go.Tidy
namespace Go.Tidy
open Go Go.Proofs Tab
variable {tp:TProg}
theorem goneJ_len {kp:Nat → Bool}:∀ n,n < 65536 → (lastJ kp n = none → goneJ kp n = []) ∧ ∀ l,lastJ kp n = some l → (goneJ kp n).length ≤ l
  | 0,_ => ⟨fun _ => rfl,fun l h => by cases h⟩
  | n + 1,hn => by
    obtain ⟨i1,i2⟩:=goneJ_len (kp:=kp) n (by omega)
    cases g:kp n with
    | false =>
      have e1:lastJ kp (n + 1) = lastJ kp n:=by show (if kp n = true then _ else _) = _;rw [g];rfl
      have e2:goneJ kp (n + 1) = goneJ kp n:=by show (if kp n = true then _ else _) = _;rw [g];rfl
      rw [e1,e2]
      exact ⟨i1,i2⟩
    | true =>
      have e1:lastJ kp (n + 1) = some n:=by show (if kp n = true then _ else _) = _;rw [g];rfl
      have e2:goneJ kp (n + 1) = goneJ kp n ++ more (lastJ kp n) n:=by show (if kp n = true then _ else _) = _;rw [g];rfl
      rw [e1,e2]
      refine ⟨fun h => (by cases h),fun l h => ?_⟩
      cases h
      cases hl:lastJ kp n with
      | none =>
        rw [i1 hl]
        exact Nat.zero_le _
      | some a =>
        have a1:=(lastJ_keep hl).1
        have a2:=i2 _ hl
        rw [List.length_append]
        show _ + (gap a n).length ≤ n
        rw [gap_plain a1 (by omega),List.length_map,List.length_range']
        omega
theorem goneJ_le {kp:Nat → Bool} {n:Nat} (hn:n < 65536):(goneJ kp n).length ≤ n:=by
 obtain ⟨i1,i2⟩:=goneJ_len (kp:=kp) n hn
 cases hl:lastJ kp n with
 | none => rw [i1 hl];exact Nat.zero_le _
 | some l =>
  have:=i2 _ hl
  have:=(lastJ_keep hl).1
  omega
section
variable {kp:Nat → Bool} {x:Nat → Int} {n:Nat}
theorem lost_q (hx:∀ p,-128 ≤ x p ∧ x p ≤ 127) (hn:n ≤ 12):PErr ((keptJ kp n).map (pJ 3 x)) ((keptJ kp n).map fun _ => 0) ∧ lostE ((keptJ kp n).map (pJ 3 x)).length ((keptJ kp n).map fun _ => 0) 3 = 0 ∧ (lostS 3 ((keptJ kp n).map (pJ 3 x))).2 = goneJ kp n:=by
 refine ⟨⟨by rw [List.length_map,List.length_map],fun i p e h1 h2 => ?_⟩,?_,?_⟩
 ·rw [List.getElem?_map] at h1 h2
  cases hc:(keptJ kp n)[i]? with
  | none => rw [hc] at h1;cases h1
  | some c =>
   rw [hc] at h1 h2
   cases h1
   cases h2
   have lc:=(keptJ_mem.1 (List.mem_of_getElem? hc)).1
   have ee:∀ p,SampleE (smp (x p)) 0:=fun p => smp_e0 (hx p).1 (hx p).2
   refine ⟨[0,0,0],serr_000 (ee _) (ee _) (ee _),?_⟩
   unfold pakE
   show 0 = firstNZ [outB (3:Nat) 0 255,outB (c:Int) 0 65535,firstNZ [0,0,0]]
   rw [show outB (c:Int) 0 65535 = 0 by unfold outB;rw [show decide ((c:Int) < 0) = false from decide_eq_false (by omega),show decide ((c:Int) > 65535) = false from decide_eq_false (by omega)];rfl]
   rfl
 ·unfold lostE chkE
  have ln:=keptJ_len (kp:=kp) (n:=n)
  rw [show decide ((((keptJ kp n).map (pJ 3 x)).length:Int) > 1024) = false from decide_eq_false (by rw [List.length_map];omega)]
  have:firstNZ ((keptJ kp n).map fun _ => (0:Int)) = 0:=by
   induction keptJ kp n with
   | nil => rfl
   | cons a r ih => exact ih
  rw [this]
  rfl
 ·rw [lostS_kept (keep:=kp) (P:=pJ 3 x) (src:=3) (fun _ => rfl) (fun _ => rfl)]
end
def cd1098s (rest:TCode):TCode:=.seq (.reg r1098_19) (.seq (.reg r1098_20) (.seq (.seq (.reg r1098_21) (.cond (.tmp 135) (.seq (.reg r1098_22) .ret) .skip)) rest))
def cd1098t (rest:TCode):TCode:=.seq (.reg r1098_23) (.seq (.seq (.reg r1098_24) (.cond (.tmp 150) (.seq (.reg r1098_25) .ret) .skip)) (.seq (.reg r1098_26) (.seq (.seq (.reg r1098_27) (.cond (.tmp 157) (.seq (.reg r1098_28) .ret) .skip)) rest)))
section
variable {g:TH} {v w6 w7 p5:Value} {L n:Nat} {x:Nat → Int} {kp:Nat → Bool}
theorem run_form {C:List (Int × Bool)} {s:ByteArray} {z:Int} {g:TH} {v1 v2:Value} (R:RunC s z g v1 v2 C):∃ b1 m1 k1 b2 m2 k2,v1 = .slice b1 m1 k1 ∧ v2 = .slice b2 m2 k2:=by
 obtain ⟨F,es,⟨⟨b1,k1,e1,_⟩,⟨b2,k2,e2,_⟩,_⟩,_⟩:=R
 exact ⟨_,_,_,_,_,_,e1,e2⟩
theorem JRun.run {kp:Nat → Bool} {x:Nat → Int} {n j:Nat} {z:Int} {v1 v2:Value} {g:TH} (JR:JRun kp x n j (z,v1,v2) g):∃ D,RunC rN z g v1 v2 D:=by
 rcases JR with ⟨_,e⟩ | ⟨k,c0,cl,q1,q2,q3,q4,q5,q6⟩
 ·cases e
  exact ⟨_,none_run⟩
 ·replace q5:z = _:=q5
  subst q5
  exact ⟨_,q6⟩
set_option maxHeartbeats 4000000 in
set_option maxRecDepth 10000 in
theorem k1098s (H:Has tp) (X:HasX tp) (Y:HasY tp) {kp':Nat → Bool} {x':Nat → Int} (hx:∀ p,-128 ≤ x p ∧ x p ≤ 127) (hx':∀ p,-128 ≤ x' p ∧ x' p ≤ 127) (hn:n ≤ 12) (s6:SlL encY 1 g w6 (strS (qJ 3 kp x n))) (s7:SlL encY 1 g w7 (strS (qJ 4 kp' x' n))) (f:Free0 g.next g) {rest:TCode} {Q:Exit → Regs → TH → Prop}
  (e:∀ g' c16 c18 z u1 u2 z' u1' u2',HX g g' → At g' c16 (.cells [.string rN,zi z,u1,u2] true true 40) → At g' c18 (.cells [.string rN,zi z',u1',u2'] true true 40) → JRun kp x n (keptJ kp n).length (z,u1,u2) g' → JRun kp' x' n (keptJ kp' n).length (z',u1',u2') g' →
   ∀ a,Kn [(0,v),(1,.int .u16 (L:Nat)),(5,p5),(6,w6),(16,ptr c16),(18,ptr c18)] a → W Try.prog tp false rest a g' Q) :
  ∀ a,Kn [(0,v),(1,.int .u16 (L:Nat)),(5,p5),(6,w6),(7,w7)] a → W Try.prog tp false (cd1098s rest) a g Q:=by
 obtain ⟨b6,k6,rfl,_⟩:=id s6
 obtain ⟨b7,k7,rfl,_⟩:=id s7
 unfold cd1098s
 refine WL.sr <| WOL.mv rfl <| WOL.cl1 rfl rfl ((k1099 H X Y hx (by decide) hn s6 f).mono ?_)
 rintro u g1 ⟨X1,z,u1,u2,rfl,J1⟩
 obtain ⟨D,RD⟩:=J1.run
 obtain ⟨a1,a2,a3,a4,a5,a6,rfl,rfl⟩:=run_form RD
 refine WOL.mv rfl <| WOL.ex rfl rfl <| WOL.ex rfl rfl <| WOL.al tp46 fun g2 N2 => ?_
 have n2:=N2.next
 have x1:=X1.next
 refine WOL.sto (vs:=[.string rN,zi z,.slice a1 a2 a3,.slice a4 a5 a6]) rfl rfl tp46 N2.at_ rfl rfl (Nat.le_of_ble_eq_true rfl) rfl ((f.on X1).hx N2.hx) (Nat.le_refl _) fun g3 P3 => ?_
 have X3:HX g1 g3:=P3.hx _ N2.hx (Nat.le_refl _)
 have n3:=P3.next
 have A16:At g3 g1.next (.cells [.string rN,zi z,.slice a1 a2 a3,.slice a4 a5 a6] true true 40):=P3.at_
 replace J1:=J1.hx X3
 have Z3:=X1.trans X3
 refine WOL.as rfl <| WOL.nil <| keep [(0,_),(1,_),(5,_),(6,_),(7,_),(16,_),(17,_)] ⟨rfl,rfl,rfl,rfl,rfl,rfl,rfl,trivial⟩ ?_
 refine WL.sr <| WOL.mv rfl <| WOL.cl1 rfl rfl ((k1099 H X Y hx' (by decide) hn (s7.hx Z3) (f.on Z3)).mono ?_)
 rintro u g4 ⟨X4,z',u1',u2',rfl,J2⟩
 obtain ⟨D',RD'⟩:=J2.run
 obtain ⟨a1',a2',a3',a4',a5',a6',rfl,rfl⟩:=run_form RD'
 refine WOL.mv rfl <| WOL.ex rfl rfl <| WOL.ex rfl rfl <| WOL.al tp46 fun g5 N5 => ?_
 have n5:=N5.next
 have x4:=X4.next
 refine WOL.sto (vs:=[.string rN,zi z',.slice a1' a2' a3',.slice a4' a5' a6']) rfl rfl tp46 N5.at_ rfl rfl (Nat.le_of_ble_eq_true rfl) rfl ((f.on (Z3.trans X4)).hx N5.hx) (Nat.le_refl _) fun g6 P6 => ?_
 have X6:HX g4 g6:=P6.hx _ N5.hx (Nat.le_refl _)
 have A18:At g6 g4.next (.cells [.string rN,zi z',.slice a1' a2' a3',.slice a4' a5' a6'] true true 40):=P6.at_
 replace A16:=(A16.hx X4).hx X6
 replace J1:=(J1.hx X4).hx X6
 replace J2:=J2.hx X6
 refine WOL.as rfl <| WOL.nil <| keep [(0,_),(1,_),(5,_),(6,_),(16,_),(17,_),(18,_),(19,_)] ⟨rfl,rfl,rfl,rfl,rfl,rfl,rfl,rfl,trivial⟩ ?_
 refine WL.seq <| WL.sr <| WOL.mv rfl <| WOL.nt rfl <| WOL.mv rfl <| WOL.now (b:=false) rfl rfl <| WOL.mv rfl <| WOL.now (b:=false) rfl rfl <| WOL.nt rfl <| WOL.pkf rfl rfl <| WOL.nil <| keep [(0,_),(1,_),(5,_),(6,_),(16,_),(18,_),(135,_)] ⟨rfl,rfl,rfl,rfl,rfl,rfl,rfl,trivial⟩ ?_
 refine WL.no rfl <| WL.skip ?_
 exact kto (e g6 _ _ z _ _ z' _ _ ((Z3.trans X4).trans X6) A16 A18 J1 J2) ⟨rfl,rfl,rfl,rfl,rfl,rfl,trivial⟩
set_option maxHeartbeats 4000000 in
set_option maxRecDepth 10000 in
theorem k1098t (H:Has tp) (X:HasX tp) (Y:HasY tp) {p16 p18:Value} (hx:∀ p,-128 ≤ x p ∧ x p ≤ 127) (hn:n ≤ 12) (s6:SlL encY 1 g w6 (strS (qJ 3 kp x n))) (f:Free0 g.next g) {rest:TCode} {Q:Exit → Regs → TH → Prop}
  (e:∀ g' w20 w23,HX g g' → SlL encP 5 g' w20 ((keptJ kp n).map (pJ 3 x)) → OwnL encI g.next g' w23 3 (goneJ kp n) →
   ∀ a,Kn [(0,v),(1,.int .u16 (L:Nat)),(5,p5),(16,p16),(18,p18),(20,w20),(23,w23)] a → W Try.prog tp false rest a g' Q) :
  ∀ a,Kn [(0,v),(1,.int .u16 (L:Nat)),(5,p5),(6,w6),(16,p16),(18,p18)] a → W Try.prog tp false (cd1098t rest) a g Q:=by
 have hQ:=qJ_ok (src:=3) (kp:=kp) (n:=n) hx (by decide) (by omega)
 obtain ⟨E,hE,eL,eS⟩:=found_str hQ
 rw [got_q hx] at eL
 have ls:=strS_len (qJ 3 kp x n)
 have lq:=qJ_len (src:=3) (kp:=kp) (x:=x) (j:=n)
 obtain ⟨pe,le,lo⟩:=lost_q (kp:=kp) hx hn
 unfold cd1098t
 refine WL.sr <| WOL.bs0 u116 tp5 (by decide) (by decide) fun g1 N1 => WOL.mv rfl ?_
 obtain ⟨v2,g2,ap,X2,s2,b',rfl,_,F2⟩:=append_own u116 tp5 N1.at_ (s6.hx N1.hx) (by omega) (eY.all _)
 refine WOL.ap rfl rfl ap ?_
 have Y2:=N1.hx.trans X2
 refine WOL.cl1 rfl rfl ((k67 H X Y (strS_byt _ hQ) hE (by omega) s2 F2 (f.on Y2)).mono ?_)
 rintro w g3 ⟨X3,R3⟩
 rcases R3 with ⟨hbig,_⟩ | ⟨_,w17,w18,rfl,s17,s18⟩
 ·omega
 rw [eL] at s17
 rw [eS] at s18
 have Y3:=Y2.trans X3
 have lp:((keptJ kp n).map (pJ 3 x)).length = (keptJ kp n).length:=List.length_map ..
 have lk:=keptJ_len (kp:=kp) (n:=n)
 refine WOL.mv rfl <| WOL.ex rfl rfl <| WOL.ex rfl rfl <| WOL.ex rfl rfl <| WOL.as rfl <| WOL.as rfl <| WOL.as rfl <| WOL.nil <| keep [(0,_),(1,_),(5,_),(16,_),(18,_),(20,_),(21,_),(22,_)] ⟨rfl,rfl,rfl,rfl,rfl,rfl,rfl,rfl,trivial⟩ ?_
 refine WL.seq <| WL.sr <| WOL.mv rfl <| WOL.bf rfl rfl rfl rfl <| WOL.mv rfl <| WOL.now (b:=false) rfl rfl <| WOL.mv rfl <| WOL.now (b:=false) rfl rfl <| WOL.len rfl s18 u44 <| WOL.now (b:=false) rfl rfl <| WOL.bf rfl rfl rfl rfl <| WOL.pkf rfl rfl <| WOL.nil <| keep [(0,_),(1,_),(5,_),(16,_),(18,_),(20,_),(150,_)] ⟨rfl,rfl,rfl,rfl,rfl,rfl,rfl,trivial⟩ ?_
 refine WL.no rfl <| WL.skip ?_
 refine WL.sr <| WOL.mv rfl <| WOL.cl2 rfl rfl rfl ((k66 H X s17 pe (by omega) (f.on Y3)).mono ?_)
 rintro w g4 ⟨X4,w23,e23,rfl,QL⟩
 rcases QL with ⟨q,_⟩ | ⟨_,QA⟩
 ·exact absurd le q
 rw [lo] at QA
 obtain ⟨rfl,O⟩:e23 = 0 ∧ OwnL encI g3.next g4 w23 3 (goneJ kp n):=by
  rcases QA with ⟨_,q,O⟩ | ⟨q,_⟩
  ·exact ⟨q,O⟩
  ·have:=goneJ_le (kp:=kp) (n:=n) (by omega)
   omega
 refine WOL.mv rfl <| WOL.ex rfl rfl <| WOL.ex rfl rfl <| WOL.as rfl <| WOL.as rfl <| WOL.nil <| keep [(0,_),(1,_),(5,_),(16,_),(18,_),(20,_),(23,_),(24,_)] ⟨rfl,rfl,rfl,rfl,rfl,rfl,rfl,rfl,trivial⟩ ?_
 refine WL.seq <| WL.sr <| WOL.mv rfl <| WOL.bf rfl rfl rfl rfl <| WOL.nil <| keep [(0,_),(1,_),(5,_),(16,_),(18,_),(20,_),(23,_),(157,_)] ⟨rfl,rfl,rfl,rfl,rfl,rfl,rfl,rfl,trivial⟩ ?_
 refine WL.no rfl <| WL.skip ?_
 have y3:=Y3.next
 refine kto (e g4 w17 w23 (Y3.trans X4) (s17.hx X4) ?_) ⟨rfl,rfl,rfl,rfl,rfl,rfl,rfl,trivial⟩
 rcases O with q | ⟨q1,b,q2,q3,q4⟩
 ·exact .inl q
 ·exact .inr ⟨q1,b,q2,by omega,q4⟩
end
end Go.Tidy
namespace Go.Tidy
open Go Go.Proofs Tab
variable {tp:TProg}
def oI:Option Nat → Int
 | some c => (c:Int)
 | none => -1
def fI (kp:Nat → Bool) (j:Nat):Int:=oI (keptJ kp j)[0]?
def lI (kp:Nat → Bool) (j:Nat):Int:=oI (lastJ kp j)
section
variable {kp:Nat → Bool} {n j:Nat}
theorem fI_yes (h:kp j = true):fI kp (j + 1) = cond (decide (fI kp j < 0)) (j:Int) (fI kp j):=by
 unfold fI
 rw [keptJ_succ,if_pos h]
 cases keptJ kp j with
 | nil => rfl
 | cons a r =>
  show (a:Int) = cond (decide ((a:Int) < 0)) (j:Int) (a:Int)
  rw [show decide ((a:Int) < 0) = false from decide_eq_false (by omega)]
  rfl
theorem fI_no (h:kp j = false):fI kp (j + 1) = fI kp j:=by
 unfold fI
 rw [keptJ_succ,if_neg (by rw [h];decide)]
theorem lI_yes (h:kp j = true):lI kp (j + 1) = (j:Int):=by
 unfold lI
 show oI (if kp j = true then some j else lastJ kp j) = _
 rw [if_pos h];rfl
theorem lI_no (h:kp j = false):lI kp (j + 1) = lI kp j:=by
 unfold lI
 show oI (if kp j = true then some j else lastJ kp j) = _
 rw [if_neg (by rw [h];decide)]
theorem lastJ_get:∀ {n l:Nat},lastJ kp n = some l → (keptJ kp n)[(keptJ kp n).length - 1]? = some l
  | 0,l,h => by cases h
  | n + 1,l,h => by
    replace h:(if kp n then some n else lastJ kp n) = some l:=h
    rw [keptJ_succ]
    by_cases g:kp n = true
    · rw [if_pos g] at h ⊢
      cases h
      rw [List.length_append]
      show (keptJ kp n ++ [n])[(keptJ kp n).length + 1 - 1]? = _
      rw [Nat.add_sub_cancel,List.getElem?_append_right (Nat.le_refl _),Nat.sub_self]
      rfl
    · rw [if_neg g] at h ⊢
      exact lastJ_get h
theorem kept_cases (kp:Nat → Bool) (n:Nat):(keptJ kp n = [] ∧ fI kp n = -1) ∨ ∃ c0 cl:Nat,(keptJ kp n)[0]? = some c0 ∧ lastJ kp n = some cl ∧ fI kp n = (c0:Int) ∧ lI kp n = (cl:Int) ∧ c0 ≤ cl ∧ cl < n ∧ kp c0 = true ∧ (∀ i,i < c0 → kp i = false) ∧ kp cl = true ∧ ∀ i,cl < i → i < n → kp i = false:=by
 cases hk:keptJ kp n with
 | nil => exact .inl ⟨rfl,by unfold fI;rw [hk];rfl⟩
 | cons c0 r =>
  have h0:(keptJ kp n)[0]? = some c0:=by rw [hk];rfl
  cases hl:lastJ kp n with
  | none => rw [lastJ_none hl] at hk;cases hk
  | some cl =>
   obtain ⟨l1,l2,l3⟩:=lastJ_keep hl
   obtain ⟨m1,m2⟩:=keptJ_mem.1 (List.mem_of_getElem? h0)
   have f0:=keptJ_first h0
   refine .inr ⟨c0,cl,by rw [← hk];exact h0,rfl,by unfold fI;rw [h0];rfl,by unfold lI;rw [hl];rfl,?_,l1,m2,f0,l2,l3⟩
   cases Nat.lt_or_ge cl c0 with
   | inl q => rw [f0 cl q] at l2;cases l2
   | inr q => exact q
theorem kept_rev_nil (h:keptJ kp n = []):keptJ (fun i => kp (n - 1 - i)) n = []:=by
 rw [← keptJ_rev,h];rfl
end
def cd1098u (rest:TCode):TCode:=.seq (.reg r1098_29) (.seq (.seq (.reg r1098_30) (.block 2 (.loop (.seq (.reg r1098_31) (.seq (.cond (.tmp 161) .skip (.exit 2)) (.seq (.block 3 (.seq (.reg r1098_32) (.seq (.reg r1098_33) (.cond (.tmp 167) (.seq (.seq (.reg r1098_34) (.cond (.tmp 169) (.reg r1098_35) .skip)) (.reg r1098_36)) .skip)))) (.reg r1098_37))))))) (.seq (.seq (.reg r1098_38) (.cond (.tmp 174) (.seq (.reg r1098_39) .ret) .skip)) rest))
section
variable {g:TH} {v p5 w20 w23:Value} {L:Nat} {d:List Tri} {x x':Nat → Int} {c16 c18:Nat} {z z':Int} {u1 u2 u1' u2':Value}
set_option maxHeartbeats 4000000 in
set_option maxRecDepth 10000 in
theorem k1098u (A:Awk tp) (hL:L < 65536) (hn:d.length ≤ 12) (sd:SlL encT 3 g v d) (p20:SlL encP 5 g w20 ((keptJ (bitJ L) d.length).map (pJ 3 x))) (A16:At g c16 (.cells [.string rN,zi z,u1,u2] true true 40)) (A18:At g c18 (.cells [.string rN,zi z',u1',u2'] true true 40))
    (J1:JRun (bitJ L) x d.length (keptJ (bitJ L) d.length).length (z,u1,u2) g) (J2:JRun (fun i => bitJ L (d.length - 1 - i)) x' d.length (keptJ (fun i => bitJ L (d.length - 1 - i)) d.length).length (z',u1',u2') g) {rest:TCode} {Q:Exit → Regs → TH → Prop}
    (er:∀ r,Kn [(4,.bool true)] r → Q .ret r g)
    (e:∀ c0 cl,(keptJ (bitJ L) d.length)[0]? = some c0 → lastJ (bitJ L) d.length = some cl → c0 ≤ cl → cl < d.length → bitJ L c0 = true → (∀ i,i < c0 → bitJ L i = false) → bitJ L cl = true → (∀ i,cl < i → i < d.length → bitJ L i = false) →
      ∀ a,Kn [(0,v),(1,.int .u16 (L:Nat)),(5,p5),(16,ptr c16),(18,ptr c18),(23,w23),(25,zi (c0:Nat)),(26,zi (cl:Nat))] a → W Try.prog tp false rest a g Q) :
    ∀ a,Kn [(0,v),(1,.int .u16 (L:Nat)),(5,p5),(16,ptr c16),(18,ptr c18),(20,w20),(23,w23)] a → W Try.prog tp false (cd1098u rest) a g Q:=by
  unfold cd1098u
  refine WL.sr <| WOL.as rfl <| WOL.as rfl <| WOL.nil <| keep [(0,_),(1,_),(5,_),(16,_),(18,_),(20,_),(23,_),(25,_),(26,_)] ⟨rfl,rfl,rfl,rfl,rfl,rfl,rfl,rfl,rfl,trivial⟩ ?_
  refine WL.seq <| WL.sr <| WOL.mv rfl <| WOL.len rfl sd u1106 <| WOL.mv rfl <| WOL.nil <| keep [(0,_),(1,_),(5,_),(16,_),(18,_),(20,_),(23,_),(25,_),(26,_),(158,_),(159,_),(160,_)] ⟨rfl,rfl,rfl,rfl,rfl,rfl,rfl,rfl,rfl,rfl,rfl,rfl,trivial⟩ ?_
  refine WL.upto (α:=Unit) d.length (fun _ _ g' => g' = g) (fun j _ => [(0,v),(1,.int .u16 (L:Nat)),(5,p5),(16,ptr c16),(18,ptr c18),(20,w20),(23,w23),(25,zi (fI (bitJ L) j)),(26,zi (lI (bitJ L) j)),(158,v),(159,zi (d.length:Nat))]) () rfl rfl (by omega) rfl ⟨rfl,rfl,rfl,rfl,rfl,rfl,rfl,rfl,rfl,rfl,rfl,rfl,trivial⟩ (fun _ _ => rfl) (fun _ _ _ => ⟨rfl,rfl,rfl,rfl,rfl,rfl,rfl,rfl,rfl,rfl,rfl,rfl,trivial⟩) (fun _ _ _ => ⟨rfl,rfl,rfl,rfl,rfl,rfl,rfl,rfl,rfl,rfl,rfl,rfl,trivial⟩) ?_ ?_
  · rintro j _ g' hj rfl
    refine WL.sr <| WOL.mv rfl <| WOL.as rfl <| WOL.nil <| keep [(0,_),(1,_),(5,_),(16,_),(18,_),(20,_),(23,_),(25,_),(26,_),(27,_),(158,_),(159,_),(160,_)] ⟨rfl,rfl,rfl,rfl,rfl,rfl,rfl,rfl,rfl,rfl,rfl,rfl,rfl,trivial⟩ ?_
    refine WL.sr <| WOL.mv rfl <| WOL.mv rfl <| WOL.shr16 rfl rfl (by omega) <| WOL.and1 rfl (bit_lt j hL) ?_
    cases hk:bitJ L j with
    | false =>
      have e1:=bitJ_no hk
      refine WOL.bf rfl rfl rfl (beq_eq_false_iff_ne.2 (by omega)) <| WOL.nil <| WL.no rfl <| WL.skip ?_
      rw [← fI_no hk,← lI_no hk]
      exact fun a q => ⟨(),rfl,q.sub ⟨rfl,rfl,rfl,rfl,rfl,rfl,rfl,rfl,rfl,rfl,rfl,rfl,trivial⟩⟩
    | true =>
      have e1:=bitJ_yes hk
      refine WOL.bt rfl rfl rfl (beq_iff_eq.2 (by omega)) <| WOL.nil <| keep [(0,_),(1,_),(5,_),(16,_),(18,_),(20,_),(23,_),(25,_),(27,_),(158,_),(159,_),(160,_),(167,_)] ⟨rfl,rfl,rfl,rfl,rfl,rfl,rfl,rfl,rfl,rfl,rfl,rfl,rfl,trivial⟩ ?_
      refine WL.yes rfl <| WL.seq <| WL.sr <| WOL.mv rfl <| WOL.bi (v:=.bool (decide (fI (bitJ L) j < 0))) rfl rfl rfl <| WOL.nil <| keep [(0,_),(1,_),(5,_),(16,_),(18,_),(20,_),(23,_),(25,_),(27,_),(158,_),(159,_),(160,_),(169,_)] ⟨rfl,rfl,rfl,rfl,rfl,rfl,rfl,rfl,rfl,rfl,rfl,rfl,rfl,trivial⟩ ?_
      have e2:=fI_yes hk
      have e3:=lI_yes hk
      cases hf:decide (fI (bitJ L) j < 0) with
      | true =>
        rw [hf] at e2
        replace e2:fI (bitJ L) (j + 1) = (j:Int):=e2
        refine WL.yes rfl <| WL.reg <| WOL.mv rfl <| WOL.as rfl <| WOL.nil ?_
        refine WL.reg <| WOL.mv rfl <| WOL.as rfl <| WOL.nil fun a q => ⟨(),rfl,?_⟩
        rw [e2,e3]
        exact q.sub ⟨rfl,rfl,rfl,rfl,rfl,rfl,rfl,rfl,rfl,rfl,rfl,rfl,trivial⟩
      | false =>
        rw [hf] at e2
        replace e2:fI (bitJ L) (j + 1) = fI (bitJ L) j:=e2
        refine WL.no rfl <| WL.skip ?_
        refine WL.reg <| WOL.mv rfl <| WOL.as rfl <| WOL.nil fun a q => ⟨(),rfl,?_⟩
        rw [e2,e3]
        exact q.sub ⟨rfl,rfl,rfl,rfl,rfl,rfl,rfl,rfl,rfl,rfl,rfl,rfl,trivial⟩
  · rintro _ g' rfl
    rcases kept_cases (bitJ L) d.length with ⟨k1,k2⟩ | ⟨c0,cl,q1,q2,q3,q4,q5,q6,q7,q8,q9,q10⟩
    · rw [k2]
      refine WL.seq <| WL.sr <| WOL.mv rfl <| WOL.bt rfl rfl rfl rfl <| WOL.nil <| keep [(0,_),(1,_),(5,_),(16,_),(18,_),(20,_),(23,_),(25,_),(174,_)] ⟨rfl,rfl,rfl,rfl,rfl,rfl,rfl,rfl,rfl,trivial⟩ ?_
      rw [k1] at J1 p20
      rw [kept_rev_nil k1] at J2
      obtain ⟨rfl,rfl⟩:u1 = .slice none 0 0 ∧ u1' = .slice none 0 0:=by
        constructor
        · rcases J1 with ⟨_,e⟩ | ⟨k,_,_,e,_⟩
          · cases e;rfl
          · cases e
        · rcases J2 with ⟨_,e⟩ | ⟨k,_,_,e,_⟩
          · cases e;rfl
          · cases e
      refine WL.yes rfl <| WL.sr <| WOL.mv rfl <| WOL.len rfl p20 u113 <| WOL.bt rfl rfl rfl rfl <| WOL.mv rfl <| WOL.now (b:=true) rfl rfl <| WOL.fa rfl (fa_of fo46_2) <| WOL.now (b:=true) rfl rfl <| WOL.ld rfl (load_one tp43 A16 rfl) <| WOL.now (b:=true) rfl rfl <| WOL.lenN rfl u43 <| WOL.now (b:=true) rfl rfl <| WOL.bt rfl rfl rfl rfl <| WOL.pkt rfl rfl <| WOL.mv rfl ?_
      refine WOL.now (b:=true) rfl rfl <| WOL.fa rfl (fa_of fo46_2) <| WOL.now (b:=true) rfl rfl <| WOL.ld rfl (load_one tp43 A18 rfl) <| WOL.now (b:=true) rfl rfl <| WOL.lenN rfl u43 <| WOL.now (b:=true) rfl rfl <| WOL.bt rfl rfl rfl rfl <| WOL.pkt rfl rfl <| WOL.mv rfl <| WOL.now (b:=true) rfl rfl ?_
      refine WOL.cl0 rfl ((k11 A _).mono ?_)
      rintro v' h4 ⟨rfl,rfl⟩
      refine WOL.pkt rfl rfl <| WOL.as rfl <| WOL.nil ?_
      exact WL.ret (kto er ⟨rfl,trivial⟩)
    · rw [q3,q4]
      refine WL.seq <| WL.sr <| WOL.mv rfl <| WOL.bf rfl rfl rfl (by first | exact decide_eq_false (by omega) | exact beq_eq_false_iff_ne.2 (by omega) | exact bne_eq_false_iff_eq.2 (by omega)) <| WOL.nil <| keep [(0,_),(1,_),(5,_),(16,_),(18,_),(23,_),(25,_),(26,_),(174,_)] ⟨rfl,rfl,rfl,rfl,rfl,rfl,rfl,rfl,rfl,trivial⟩ ?_
      refine WL.no rfl <| WL.skip ?_
      exact kto (e c0 cl q1 q2 q5 q6 q7 q8 q9 q10) ⟨rfl,rfl,rfl,rfl,rfl,rfl,rfl,rfl,trivial⟩
end
end Go.Tidy
namespace Go.Tidy
open Go Go.Proofs Tab
variable {tp:TProg}
section
variable {kp:Nat → Bool} {c0 i:Nat}
theorem want_no (h1:c0 ≤ i) (h:kp i = true):wantJ kp c0 (i + 1) = wantJ kp c0 i:=by
 rw [← wantJ_app (keep:=kp) (a:=c0) (b:=i) (c:=i + 1) h1 (by omega),wantJ_one h,List.append_nil]
theorem want_yes (h1:c0 ≤ i) (h:kp i = false):wantJ kp c0 (i + 1) = wantJ kp c0 i ++ [(i:Int)]:=by
 rw [← wantJ_app (keep:=kp) (a:=c0) (b:=i) (c:=i + 1) h1 (by omega)]
 congr 1
 unfold wantJ
 rw [show i + 1 - i = 1 by omega]
 show (([i].filter fun i => !kp i).map fun i:Nat => (i:Int)) = _
 rw [List.filter_cons_of_pos (by rw [h];rfl)]
 rfl
theorem want_len:(wantJ kp c0 i).length ≤ i - c0:=by
 unfold wantJ
 rw [List.length_map]
 have:=List.length_filter_le (fun i => !kp i) (List.range' c0 (i - c0))
 rw [List.length_range'] at this
 exact this
theorem rowJ_getD {x:Nat → Int} {lo hi p:Nat} (h1:lo ≤ p) (h2:p < hi):(rowJ kp x lo hi).getD (((p:Nat):Int) - ((lo:Nat):Int)).toNat (0,false) = celJ kp x p:=by
 rw [show (((p:Nat):Int) - ((lo:Nat):Int)).toNat = p - lo by omega,List.getD_eq_getElem?_getD,rowJ_get h1 h2]
 rfl
end
theorem rowS_get {x:Nat → Int} {m p:Nat} (h:p < m):(rowS x m)[p]? = some (smp (x p)):=by
 unfold rowS
 rw [List.getElem?_map,List.getElem?_range h]
 rfl
def cd1098i:TCode:=.block 6 (.loop (.seq (.seq (.reg r1098_48) (.cond (.tmp 230) .skip (.exit 6))) (.seq (.block 7 (.seq (.reg r1098_49) (.seq (.reg r1098_50) (.cond (.tmp 263) (.seq (.reg r1098_51) .ret) .skip)))) (.reg r1098_52))))
def cd1098j (rest:TCode):TCode:=.seq (.seq (.reg r1098_40) (.cond (.tmp 208) (.seq (.reg r1098_41) .ret) .skip)) (.seq (.reg r1098_42) (.seq (.seq (.reg r1098_43) (.block 4 (.loop (.seq (.seq (.reg r1098_44) (.cond (.tmp 212) .skip (.exit 4))) (.seq (.block 5 (.seq (.seq (.reg r1098_45) (.cond (.tmp 219) (.reg r1098_46) .skip)) (.seq (.reg r1098_47) cd1098i))) (.reg r1098_53)))))) rest))
section
variable {g:TH} {v w5 w28 p18 p23:Value} {L n i c0 cl c5 c16:Nat} {x:Nat → Int} {u1 u2:Value}
abbrev regI (v p18 p23 w28:Value) (L c5 c16 c0 cl i:Nat):Rg:=[(0,v),(1,.int .u16 (L:Nat)),(5,ptr c5),(16,ptr c16),(18,p18),(23,p23),(25,zi (c0:Nat)),(26,zi (cl:Nat)),(28,w28),(29,zi (i:Nat))]
set_option maxHeartbeats 4000000 in
set_option maxRecDepth 10000 in
theorem k1098i (H:Has tp) (X:HasX tp) (hL:L < 65536) (hx:∀ p,-128 ≤ x p ∧ x p ≤ 127) (hn:n ≤ 12) (h1:c0 ≤ i) (h2:i ≤ cl) (h3:cl < n) (f:Free0 g.next g) (A5:At g c5 (.cells [.string rN,zi 0,w5,.slice none 0 0] true true 28)) (s5:SlL encF 1 g w5 (rowS x (3 * n)))
  (A16:At g c16 (.cells [.string rN,zi (3 * c0:Nat),u1,u2] true true 40)) (RC:RunC rN ((3 * c0:Nat):Int) g u1 u2 (rowJ (bitJ L) x (3 * c0) (3 * (cl + 1)))) {Q:Exit → Regs → TH → Prop}
  (e:∀ g',HX g g' → ∀ a,Kn (regI v p18 p23 w28 L c5 c16 c0 cl i) a → Q .normal a g') :
  ∀ a,Kn ((30,zi (3 * i:Nat)) :: regI v p18 p23 w28 L c5 c16 c0 cl i) a → W Try.prog tp false cd1098i a g Q:=by
 unfold cd1098i
 refine WL.fori (α:=Unit) 3 (fun _ _ g' => HX g g') (fun j _ => (30,zi (3 * i + j:Nat)) :: regI v p18 p23 w28 L c5 c16 c0 cl i) (fun j _ => (30,zi (3 * i + j:Nat)) :: regI v p18 p23 w28 L c5 c16 c0 cl i) () (HX.refl _) ⟨rfl,rfl,rfl,rfl,rfl,rfl,rfl,rfl,rfl,rfl,rfl,trivial⟩ ?_ ?_ (fun _ _ _ => ⟨rfl,rfl,rfl,rfl,rfl,rfl,rfl,rfl,rfl,rfl,rfl,trivial⟩) ?_ ?_
 ·intro j _ g' hj hX
  refine WOL.mv rfl <| WOL.mv rfl <| WOL.mul (m:=3) (n:=((i:Nat):Int)) rfl rfl (by omega) (by omega) <| WOL.add rfl rfl (by omega) (by omega) ?_
  refine WOL.bi (v:=.bool (decide (j < 3))) rfl rfl ?_ <| WOL.nil fun a q => ⟨rfl,q.sub ⟨rfl,rfl,rfl,rfl,rfl,rfl,rfl,rfl,rfl,rfl,rfl,rfl,trivial⟩⟩
  show some (Value.bool (decide (((3 * i + j:Nat):Int) < 3 * ((i:Nat):Int) + 3))) = _
  rw [show decide (((3 * i + j:Nat):Int) < 3 * ((i:Nat):Int) + 3) = decide (j < 3) from decide_eq_decide.2 (by omega)]
 ·intro j _ g' hj hX
  refine WOL.mv rfl <| WOL.add (m:=((3 * i + j:Nat):Int)) (n:=1) rfl rfl (by omega) (by omega) <| WOL.as rfl <| WOL.nil fun a q => ⟨hX,?_⟩
  rw [show ((3 * i + j:Nat):Int) + 1 = ((3 * i + (j + 1):Nat):Int) by omega] at q
  exact q.sub ⟨rfl,rfl,rfl,rfl,rfl,rfl,rfl,rfl,rfl,rfl,rfl,trivial⟩
 ·rintro j _ g' hj hX
  obtain ⟨b1,m1,k1,b2,m2,k2,rfl,rfl⟩:=run_form RC
  refine WL.sr <| WOL.ld rfl (load_row tp46 (A16.hx hX) rfl (Nat.le_of_ble_eq_true rfl)) ?_
  refine WOL.cl1 rfl rfl ((c87 H (RC.hx hX) (f.on hX)).mono ?_)
  rintro u g1 ⟨w1,w2,rfl,X1,R1,_,_⟩
  have Y1:=hX.trans X1
  have lr:(rowJ (bitJ L) x (3 * c0) (3 * (cl + 1))).length = 3 * (cl + 1) - 3 * c0:=rowJ_len
  refine WOL.mv rfl <| WOL.cl2 rfl rfl rfl ((c24 H X (place:=((3 * i + j:Nat):Int)) R1 (by omega) (by rw [lr];omega) (f.on Y1)).mono ?_)
  rintro u g2 ⟨rfl,X2⟩
  have Y2:=Y1.trans X2
  rw [rowJ_getD (by omega) (by omega)]
  refine WOL.mv rfl <| WOL.ex rfl rfl <| WOL.ex rfl rfl <| WOL.ex rfl rfl <| WOL.as rfl <| WOL.as rfl <| WOL.as rfl <| WOL.nil <| keep [(0,_),(1,_),(5,_),(16,_),(18,_),(23,_),(25,_),(26,_),(28,_),(29,_),(30,_),(31,_),(32,_),(33,_)] ⟨rfl,rfl,rfl,rfl,rfl,rfl,rfl,rfl,rfl,rfl,rfl,rfl,rfl,rfl,trivial⟩ ?_
  have e3:(3 * i + j) / 3 = i:=by omega
  refine WL.sr <| WOL.mv rfl <| WOL.bf rfl rfl rfl rfl <| WOL.mv rfl <| WOL.now (b:=false) rfl rfl <| WOL.mv rfl <| WOL.now (b:=false) rfl rfl <| WOL.mv rfl <| WOL.now (b:=false) rfl rfl <| WOL.mv rfl <| WOL.now (b:=false) rfl rfl <| WOL.shr16 rfl rfl (by omega) <| WOL.now (b:=false) rfl rfl <| WOL.and1 rfl (bit_lt i hL) ?_
  unfold celJ
  rw [e3]
  cases hk:bitJ L i with
  | false =>
   have e1:=bitJ_no hk
   refine WOL.now (b:=false) rfl rfl <| WOL.bf rfl rfl rfl (beq_eq_false_iff_ne.2 (by omega)) <| WOL.now (b:=false) rfl rfl <| WOL.neb (b:=false) (c:=false) u4 rfl rfl <| WOL.pkf rfl rfl <| WOL.mv rfl <| WOL.now (b:=false) rfl rfl <| WOL.mv rfl <| WOL.now (b:=false) rfl rfl <| WOL.mv (v:=.bool false) rfl ?_
   refine WOL.skp (b:=false) rfl rfl <| WOL.skp (b:=false) rfl rfl <| WOL.skp (b:=false) rfl rfl <| WOL.skp (b:=false) rfl rfl <| WOL.skp (b:=false) rfl rfl <| WOL.skp (b:=false) rfl rfl <| WOL.skp (b:=false) rfl rfl <| WOL.now (b:=false) rfl rfl <| WOL.pkf rfl rfl <| WOL.pkf rfl rfl <| WOL.nil <| keep [(0,_),(1,_),(5,_),(16,_),(18,_),(23,_),(25,_),(26,_),(28,_),(29,_),(30,_),(263,_)] ⟨rfl,rfl,rfl,rfl,rfl,rfl,rfl,rfl,rfl,rfl,rfl,rfl,trivial⟩ ?_
   refine WL.no rfl <| WL.skip fun a q => ⟨(),Y2,q.sub ⟨rfl,rfl,rfl,rfl,rfl,rfl,rfl,rfl,rfl,rfl,rfl,trivial⟩⟩
  | true =>
   have e1:=bitJ_yes hk
   have sp:=(smp_ok (n:=x (3 * i + j)) (by have:=hx (3 * i + j);omega)).2.2
   obtain ⟨q,iq,lq⟩:=elemF ((s5.hx Y2)) (rowS_get (x:=x) (m:=3 * n) (p:=3 * i + j) (by omega))
   refine WOL.now (b:=false) rfl rfl <| WOL.bt rfl rfl rfl (beq_iff_eq.2 (by omega)) <| WOL.now (b:=false) rfl rfl <| WOL.neb (b:=true) (c:=true) u4 rfl rfl <| WOL.pkf rfl rfl <| WOL.mv rfl <| WOL.now (b:=false) rfl rfl <| WOL.mv rfl <| WOL.now (b:=false) rfl rfl <| WOL.mv (v:=.bool true) rfl ?_
   refine WOL.now (b:=true) rfl rfl <| WOL.mv (v:=.float .f32 (smp (x (3 * i + j)))) rfl <| WOL.now (b:=true) rfl rfl <| WOL.fa rfl (fa_of fo52_2) <| WOL.now (b:=true) rfl rfl <| WOL.ld rfl (load_one tp43 (A5.hx Y2) rfl) <| WOL.now (b:=true) rfl rfl <| WOL.mv rfl <| WOL.now (b:=true) rfl rfl <| WOL.ix rfl rfl iq <| WOL.now (b:=true) rfl rfl <| WOL.ld rfl lq <| WOL.now (b:=true) rfl rfl <| WOL.fne sp sp rfl rfl ?_
   rw [show (!decide (x (3 * i + j) = x (3 * i + j))) = false by rw [decide_eq_true rfl];rfl]
   refine WOL.now (b:=false) rfl rfl <| WOL.pkt rfl rfl <| WOL.pkf rfl rfl <| WOL.nil <| keep [(0,_),(1,_),(5,_),(16,_),(18,_),(23,_),(25,_),(26,_),(28,_),(29,_),(30,_),(263,_)] ⟨rfl,rfl,rfl,rfl,rfl,rfl,rfl,rfl,rfl,rfl,rfl,rfl,trivial⟩ ?_
   refine WL.no rfl <| WL.skip fun a q => ⟨(),Y2,q.sub ⟨rfl,rfl,rfl,rfl,rfl,rfl,rfl,rfl,rfl,rfl,rfl,trivial⟩⟩
 ·intro _ g' hX
  exact kto (e g' hX) ⟨rfl,rfl,rfl,rfl,rfl,rfl,rfl,rfl,rfl,rfl,trivial⟩
set_option maxHeartbeats 4000000 in
set_option maxRecDepth 10000 in
theorem k1098j (H:Has tp) (X:HasX tp) (hL:L < 65536) (hx:∀ p,-128 ≤ x p ∧ x p ≤ 127) (hn:n ≤ 12) (h2:c0 ≤ cl) (h3:cl < n) (f:Free0 g.next g) (A5:At g c5 (.cells [.string rN,zi 0,w5,.slice none 0 0] true true 28)) (s5:SlL encF 1 g w5 (rowS x (3 * n)))
  (A16:At g c16 (.cells [.string rN,zi (3 * c0:Nat),u1,u2] true true 40)) (RC:RunC rN ((3 * c0:Nat):Int) g u1 u2 (rowJ (bitJ L) x (3 * c0) (3 * (cl + 1)))) {rest:TCode} {Q:Exit → Regs → TH → Prop}
  (e:∀ g' w28,HX g g' → OwnL encI g.next g' w28 3 (wantJ (bitJ L) c0 (cl + 1)) → ∀ a,Kn [(0,v),(16,ptr c16),(18,p18),(23,p23),(26,zi (cl:Nat)),(28,w28)] a → W Try.prog tp false rest a g' Q) :
  ∀ a,Kn [(0,v),(1,.int .u16 (L:Nat)),(5,ptr c5),(16,ptr c16),(18,p18),(23,p23),(25,zi (c0:Nat)),(26,zi (cl:Nat))] a → W Try.prog tp false (cd1098j rest) a g Q:=by
 have lr:(rowJ (bitJ L) x (3 * c0) (3 * (cl + 1))).length = 3 * (cl + 1) - 3 * c0:=rowJ_len
 obtain ⟨F,lF,sF,_⟩:=RC.samp
 rw [lr] at lF
 unfold cd1098j
 refine WL.seq <| WL.sr <| WOL.fa rfl (fa_of fo46_1) <| WOL.ld rfl (load_one tp3 A16 rfl) <| WOL.mv rfl <| WOL.mul (m:=3) (n:=((c0:Nat):Int)) rfl rfl (by omega) (by omega) <| WOL.bf rfl rfl rfl (by first | exact decide_eq_false (by omega) | exact beq_eq_false_iff_ne.2 (by omega) | exact bne_eq_false_iff_eq.2 (by omega)) <| WOL.mv rfl <| WOL.now (b:=false) rfl rfl <| WOL.fa rfl (fa_of fo46_2) <| WOL.now (b:=false) rfl rfl <| WOL.ld rfl (load_one tp43 A16 rfl) <| WOL.now (b:=false) rfl rfl <| WOL.len rfl sF u43 <| WOL.now (b:=false) rfl rfl <| WOL.mv rfl <| WOL.now (b:=false) rfl rfl <| WOL.add (m:=((cl:Nat):Int)) (n:=1) rfl rfl (by omega) (by omega) <| WOL.now (b:=false) rfl rfl <| WOL.mv rfl <| WOL.now (b:=false) rfl rfl <| WOL.sub (n:=((c0:Nat):Int)) rfl rfl (by omega) (by omega) <| WOL.now (b:=false) rfl rfl <| WOL.mul (m:=3) rfl rfl (by omega) (by omega) <| WOL.now (b:=false) rfl rfl <| WOL.bf rfl rfl rfl (by first | exact decide_eq_false (by omega) | exact beq_eq_false_iff_ne.2 (by omega) | exact bne_eq_false_iff_eq.2 (by omega)) <| WOL.pkf rfl rfl <| WOL.nil <| keep [(0,_),(1,_),(5,_),(16,_),(18,_),(23,_),(25,_),(26,_),(208,_)] ⟨rfl,rfl,rfl,rfl,rfl,rfl,rfl,rfl,rfl,trivial⟩ ?_
 refine WL.no rfl <| WL.skip ?_
 refine WL.sr <| WOL.as rfl <| WOL.nil ?_
 refine WL.seq <| WL.sr <| WOL.mv rfl <| WOL.as rfl <| WOL.nil <| keep [(0,_),(1,_),(5,_),(16,_),(18,_),(23,_),(25,_),(26,_),(28,_),(29,_)] ⟨rfl,rfl,rfl,rfl,rfl,rfl,rfl,rfl,rfl,rfl,trivial⟩ ?_
 refine WL.fori (α:=Value) (cl + 1 - c0) (fun j w g' => HX g g' ∧ OwnL encI g.next g' w 3 (wantJ (bitJ L) c0 (c0 + j))) (fun j w => regI v p18 p23 w L c5 c16 c0 cl (c0 + j)) (fun j w => regI v p18 p23 w L c5 c16 c0 cl (c0 + j)) (.slice none 0 0) ⟨HX.refl _,.inl ⟨rfl,by unfold wantJ;rw [Nat.add_zero,Nat.sub_self];rfl⟩⟩ ⟨rfl,rfl,rfl,rfl,rfl,rfl,rfl,rfl,rfl,rfl,trivial⟩ ?_ ?_ (fun _ _ _ => ⟨rfl,rfl,rfl,rfl,rfl,rfl,rfl,rfl,rfl,rfl,trivial⟩) ?_ ?_
 ·rintro j w g' hj ⟨hX,O⟩
  refine WOL.mv rfl <| WOL.mv rfl <| WOL.bi (v:=.bool (decide (j < cl + 1 - c0))) rfl rfl ?_ <| WOL.nil fun a q => ⟨rfl,q.sub ⟨rfl,rfl,rfl,rfl,rfl,rfl,rfl,rfl,rfl,rfl,rfl,trivial⟩⟩
  show some (Value.bool (decide (((c0 + j:Nat):Int) ≤ ((cl:Nat):Int)))) = _
  rw [show decide (((c0 + j:Nat):Int) ≤ ((cl:Nat):Int)) = decide (j < cl + 1 - c0) from decide_eq_decide.2 (by omega)]
 ·rintro j w g' hj ⟨hX,O⟩
  refine WOL.mv rfl <| WOL.add (m:=((c0 + j:Nat):Int)) (n:=1) rfl rfl (by omega) (by omega) <| WOL.as rfl <| WOL.nil fun a q => ⟨⟨hX,O⟩,?_⟩
  rw [show ((c0 + j:Nat):Int) + 1 = ((c0 + (j + 1):Nat):Int) by omega] at q
  exact q.sub ⟨rfl,rfl,rfl,rfl,rfl,rfl,rfl,rfl,rfl,rfl,trivial⟩
 ·rintro j w g' hj ⟨hX,O⟩
  have hXn:=hX.next
  have fin:∀ g1 w1,HX g g1 → OwnL encI g.next g1 w1 3 (wantJ (bitJ L) c0 (c0 + (j + 1))) → ∀ a,Kn (regI v p18 p23 w1 L c5 c16 c0 cl (c0 + j)) a → W Try.prog tp false (.seq (.reg r1098_47) cd1098i) a g1 (leaves 5 (andThen (fun a g_2 => ∃ x,(HX g g_2 ∧ OwnL encI g.next g_2 x 3 (wantJ (bitJ L) c0 (c0 + (j + 1)))) ∧ Kn (regI v p18 p23 x L c5 c16 c0 cl (c0 + j)) a) (leaves 4 (andThen (fun a h => W Try.prog tp false rest a h Q) Q)))):=by
   intro g1 w1 X1 O1
   refine WL.sr <| WOL.mv rfl <| WOL.mul (m:=3) (n:=((c0 + j:Nat):Int)) rfl rfl (by omega) (by omega) ?_
   rw [show (3:Int) * ((c0 + j:Nat):Int) = ((3 * (c0 + j):Nat):Int) by omega]
   refine WOL.as rfl <| WOL.nil <| kto (k1098i H X hL hx hn (by omega) (by omega) h3 (f.on X1) (A5.hx X1) (s5.hx X1) (A16.hx X1) (RC.hx X1) fun g2 X2 a q => ⟨w1,⟨X1.trans X2,O1.hx X2⟩,q⟩) ⟨rfl,rfl,rfl,rfl,rfl,rfl,rfl,rfl,rfl,rfl,rfl,trivial⟩
  refine WL.seq <| WL.sr <| WOL.mv rfl <| WOL.mv rfl <| WOL.shr16 rfl rfl (by omega) <| WOL.and1 rfl (bit_lt (c0 + j) hL) ?_
  cases hk:bitJ L (c0 + j) with
  | true =>
   have e1:=bitJ_yes hk
   refine WOL.bf rfl rfl rfl (beq_eq_false_iff_ne.2 (by omega)) <| WOL.nil <| keep [(0,_),(1,_),(5,_),(16,_),(18,_),(23,_),(25,_),(26,_),(28,_),(29,_),(219,_)] ⟨rfl,rfl,rfl,rfl,rfl,rfl,rfl,rfl,rfl,rfl,rfl,trivial⟩ ?_
   refine WL.no rfl <| WL.skip <| kto (fin g' w hX ?_) ⟨rfl,rfl,rfl,rfl,rfl,rfl,rfl,rfl,rfl,rfl,trivial⟩
   rw [show c0 + (j + 1) = c0 + j + 1 by omega,want_no (by omega) hk]
   exact O
  | false =>
   have e1:=bitJ_no hk
   refine WOL.bt rfl rfl rfl (beq_iff_eq.2 (by omega)) <| WOL.nil <| keep [(0,_),(1,_),(5,_),(16,_),(18,_),(23,_),(25,_),(26,_),(28,_),(29,_),(219,_)] ⟨rfl,rfl,rfl,rfl,rfl,rfl,rfl,rfl,rfl,rfl,rfl,trivial⟩ ?_
   refine WL.yes rfl <| WL.reg <| WOL.mv rfl <| WOL.mv rfl <| WOL.bs1 rfl u29 tp3 rfl fun g1 N1 => ?_
   have wl:=want_len (kp:=bitJ L) (c0:=c0) (i:=c0 + j)
   have n1:=N1.next
   obtain ⟨w',g2,ap,O',x2,y2,b2,n2⟩:=own_push (sT:=46) (x:=((c0 + j:Nat):Int)) eI u29 tp3 (O.hx N1.hx) (SlC.own (sz:=1) (m:=1) rfl N1.at_) (f.hx (hX.trans N1.hx)) (by omega) (by omega)
   refine WOL.ap rfl rfl ap <| WOL.as rfl <| WOL.nil <| kto (fin g2 w' (x2 _ (hX.trans N1.hx) (Nat.le_refl _)) ?_) ⟨rfl,rfl,rfl,rfl,rfl,rfl,rfl,rfl,rfl,rfl,trivial⟩
   rw [show c0 + (j + 1) = c0 + j + 1 by omega,want_yes (by omega) hk]
   exact O'
 ·rintro w g' ⟨hX,O⟩
  rw [show c0 + (cl + 1 - c0) = cl + 1 by omega] at O
  exact kto (e g' w hX O) ⟨rfl,rfl,rfl,rfl,rfl,rfl,trivial⟩
end
end Go.Tidy
namespace Go.Tidy
open Go Go.Proofs Tab
variable {tp:TProg}
section
variable {kp:Nat → Bool} {x:Nat → Int} {n:Nat}
theorem rev_ends {c0 cl:Nat} (h0:(keptJ kp n)[0]? = some c0) (hl:lastJ kp n = some cl):(keptJ (fun i => kp (n - 1 - i)) n)[0]? = some (n - 1 - cl) ∧ lastJ (fun i => kp (n - 1 - i)) n = some (n - 1 - c0):=by
  obtain ⟨m1,m2⟩:=keptJ_mem.1 (List.mem_of_getElem? h0)
  have f0:=keptJ_first h0
  obtain ⟨l1,l2,l3⟩:=lastJ_keep hl
  rcases kept_cases (fun i => kp (n - 1 - i)) n with ⟨q,_⟩ | ⟨a,b,q1,q2,_,_,q5,q6,q7,q8,q9,q10⟩
  · exfalso
    have:n - 1 - c0 ∈ keptJ (fun i => kp (n - 1 - i)) n:=keptJ_mem.2 ⟨by omega,by show kp (n - 1 - (n - 1 - c0)) = true;rw [show n - 1 - (n - 1 - c0) = c0 by omega];exact m2⟩
    rw [q] at this
    cases this
  · have q7:kp (n - 1 - a) = true:=q7
    have q9:kp (n - 1 - b) = true:=q9
    have ea:a = n - 1 - cl:=by
      have u1:n - 1 - a ≤ cl:=by
        cases Nat.lt_or_ge cl (n - 1 - a) with
        | inl q => rw [l3 _ q (by omega)] at q7;cases q7
        | inr q => exact q
      have u2:¬ n - 1 - cl < a:=fun q => by
        have q8:kp (n - 1 - (n - 1 - cl)) = false:=q8 _ q
        rw [show n - 1 - (n - 1 - cl) = cl by omega,l2] at q8
        cases q8
      omega
    have eb:b = n - 1 - c0:=by
      have u1:c0 ≤ n - 1 - b:=by
        cases Nat.lt_or_ge (n - 1 - b) c0 with
        | inl q => rw [f0 _ q] at q9;cases q9
        | inr q => exact q
      have u2:¬ b < n - 1 - c0:=fun q => by
        have q10:kp (n - 1 - (n - 1 - c0)) = false:=q10 _ q (by omega)
        rw [show n - 1 - (n - 1 - c0) = c0 by omega,m2] at q10
        cases q10
      omega
    rw [q1,q2,ea,eb]
    exact ⟨rfl,rfl⟩
theorem JRun.at {c0 cl:Nat} {z:Int} {u1 u2:Value} {g:TH} (JR:JRun kp x n (keptJ kp n).length (z,u1,u2) g) (h0:(keptJ kp n)[0]? = some c0) (hl:lastJ kp n = some cl):z = ((3 * c0:Nat):Int) ∧ RunC rN ((3 * c0:Nat):Int) g u1 u2 (rowJ kp x (3 * c0) (3 * (cl + 1))):=by
 have gl:=lastJ_get hl
 rcases JR with ⟨e,_⟩ | ⟨k,a,b,e1,e2,e3,_,e5,e6⟩
 ·rw [List.length_eq_zero_iff.1 e] at h0
  cases h0
 ·rw [e1,Nat.add_sub_cancel,e3] at gl
  cases gl
  rw [h0] at e2
  cases e2
  exact ⟨e5,e6⟩
end
def cd1098z:TCode:=.seq (.reg r1098_54) (.seq (.reg r1098_55) .ret)
section
variable {g hB:TH} {v w23 w28:Value} {n c0 cl c16 c18:Nat} {x:Nat → Int} {kp:Nat → Bool} {u1 u2 u1' u2':Value} {d:List Tri}
set_option maxHeartbeats 4000000 in
set_option maxRecDepth 10000 in
theorem k1098z (H:Has tp) (X:HasX tp) (A:Awk tp) (hn:d.length ≤ 12) (h1:c0 ≤ cl) (h3:cl < d.length) (h0:(keptJ kp d.length)[0]? = some c0) (hl:lastJ kp d.length = some cl) (sd:SlL encT 3 g v d) (f:Free0 g.next g) (A16:At g c16 (.cells [.string rN,zi (3 * c0:Nat),u1,u2] true true 40)) (A18:At g c18 (.cells [.string rN,zi (3 * (d.length - 1 - cl):Nat),u1',u2'] true true 40))
  (RC:RunC rN ((3 * c0:Nat):Int) g u1 u2 (rowJ kp x (3 * c0) (3 * (cl + 1)))) (RD:RunC rN ((3 * (d.length - 1 - cl):Nat):Int) g u1' u2' (rowJ (fun i => kp (d.length - 1 - i)) (fun p => x (3 * d.length - 1 - p)) (3 * (d.length - 1 - cl)) (3 * (d.length - 1 - c0 + 1)))) (o23:OwnL encI hB.next g w23 3 (goneJ kp d.length)) {n0:Nat} (o28:OwnL encI n0 g w28 3 (wantJ kp c0 (cl + 1))) :
  ∀ a,Kn [(0,v),(16,ptr c16),(18,ptr c18),(23,w23),(26,zi (cl:Nat)),(28,w28)] a → W Try.prog tp false cd1098z a g (Fin Try.prog [.tmp 4] fun v _ => v = .bool true):=by
 obtain ⟨b1,m1,k1,b2,m2,k2,rfl,rfl⟩:=run_form RC
 obtain ⟨b1',m1',k1',b2',m2',k2',rfl,rfl⟩:=run_form RD
 unfold cd1098z
 refine WL.sr <| WOL.ld rfl (load_row tp46 A16 rfl (Nat.le_of_ble_eq_true rfl)) <| WOL.cl1 rfl rfl ((c87 H RC f).mono ?_)
 rintro u g1 ⟨w1,w2,rfl,X1,R1,_,_⟩
 refine WOL.cl1 rfl rfl ((c28 H X R1 (f.on X1)).mono ?_)
 rintro u g2 ⟨bo1,l1,k3,bo2,l2,k4,rfl,X2,R2,_,_⟩
 refine WOL.mv rfl <| WOL.ex rfl rfl <| WOL.ex rfl rfl <| WOL.al tp52 fun g3 N3 => ?_
 have n3:=N3.next
 have Y2:=X1.trans X2
 refine WOL.sto (vs:=[.string rN,zi (3 * c0:Nat),.slice bo1 l1 k3,.slice bo2 l2 k4]) rfl rfl tp52 N3.at_ rfl rfl (Nat.le_of_ble_eq_true rfl) rfl ((f.on Y2).hx N3.hx) (Nat.le_refl _) fun g4 P4 => ?_
 have X4:HX g2 g4:=P4.hx _ N3.hx (Nat.le_refl _)
 have A34:At g4 g2.next (.cells [.string rN,zi (3 * c0:Nat),.slice bo1 l1 k3,.slice bo2 l2 k4] true true 28):=P4.at_
 replace R2:=R2.hx X4
 have Z:=Y2.trans X4
 replace A18:=A18.hx Z;replace RD:=RD.hx Z;replace o23:=o23.hx Z;replace o28:=o28.hx Z;replace sd:=sd.hx Z
 refine WOL.as rfl <| WOL.nil <| keep [(0,_),(18,_),(23,_),(26,_),(28,_),(34,_),(35,_)] ⟨rfl,rfl,rfl,rfl,rfl,rfl,rfl,trivial⟩ ?_
 have eC:(rowJ kp x (3 * c0) (3 * (cl + 1))).reverse = rowJ (fun i => kp (d.length - 1 - i)) (fun p => x (3 * d.length - 1 - p)) (3 * (d.length - 1 - cl)) (3 * (d.length - 1 - c0 + 1)):=by
  rw [rowJ_rev (n:=d.length) (by omega) (by omega),show 3 * d.length - 3 * (cl + 1) = 3 * (d.length - 1 - cl) by omega,show 3 * d.length - 3 * c0 = 3 * (d.length - 1 - c0 + 1) by omega]
 rw [eC] at R2
 have cm:=R2.small.1
 obtain ⟨F,es,rh,ce⟩:=R2
 obtain ⟨F',es',rh',ce'⟩:=RD
 obtain ⟨q1,q2,q3⟩:=rh
 obtain ⟨q1',q2',q3'⟩:=rh'
 have f0:=keptJ_first h0
 have kc:=(keptJ_mem.1 (List.mem_of_getElem? h0)).2
 obtain ⟨lk1,lk2,lk3⟩:=lastJ_keep hl
 have ew:goneJ kp d.length = wantJ kp c0 (cl + 1):=by
  rw [(goneJ_want f0 kc (by omega) hl).2,want_no h1 lk2]
 have gl:=goneJ_le (kp:=kp) (n:=d.length) (by omega)
 refine WL.sr <| WOL.mv rfl <| WOL.mv rfl <| WOL.cl2 rfl rfl rfl ((k18 H (ownI_ints o23) (ownI_ints o28) (by omega)).mono ?_)
 rintro u g5 ⟨rfl,rfl⟩
 rw [decide_eq_true ew]
 refine WOL.mv rfl <| WOL.now (b:=true) rfl rfl <| WOL.mv rfl <| WOL.now (b:=true) rfl rfl <| WOL.bt rfl rfl rfl rfl <| WOL.pkt rfl rfl <| WOL.mv rfl ?_
 refine WOL.now (b:=true) rfl rfl <| WOL.fa rfl (fa_of fo52_2) <| WOL.now (b:=true) rfl rfl <| WOL.ld rfl (load_one tp43 A34 rfl) <| WOL.now (b:=true) rfl rfl <| WOL.fa rfl (fa_of fo46_2) <| WOL.now (b:=true) rfl rfl <| WOL.ld rfl (load_one tp43 A18 rfl) <| WOL.now (b:=true) rfl rfl ?_
 refine WOL.cl2 rfl rfl rfl ((k58 H q1 q1' ce.lev ce'.lev (by have:=ce.len;omega)).mono ?_)
 rintro u g6 ⟨rfl,rfl⟩
 refine WOL.pkt rfl rfl <| WOL.mv rfl ?_
 refine WOL.now (b:=true) rfl rfl <| WOL.fa rfl (fa_of fo52_3) <| WOL.now (b:=true) rfl rfl <| WOL.ld rfl (load_one tp44 A34 rfl) <| WOL.now (b:=true) rfl rfl <| WOL.fa rfl (fa_of fo46_3) <| WOL.now (b:=true) rfl rfl <| WOL.ld rfl (load_one tp44 A18 rfl) <| WOL.now (b:=true) rfl rfl ?_
 refine WOL.cl2 rfl rfl rfl ((k59 H q2 q2' (by have:=ce.holes;omega)).mono ?_)
 rintro u g7 ⟨rfl,rfl⟩
 refine WOL.pkt rfl rfl <| WOL.mv rfl ?_
 refine WOL.now (b:=true) rfl rfl <| WOL.fa rfl (fa_of fo46_1) <| WOL.now (b:=true) rfl rfl <| WOL.ld rfl (load_one tp3 A18 rfl) <| WOL.now (b:=true) rfl rfl <| WOL.mv rfl <| WOL.now (b:=true) rfl rfl <| WOL.len rfl sd u1106 <| WOL.now (b:=true) rfl rfl <| WOL.sub (m:=((d.length:Nat):Int)) (n:=1) rfl rfl (by omega) (by omega) <| WOL.now (b:=true) rfl rfl <| WOL.mv rfl <| WOL.now (b:=true) rfl rfl <| WOL.sub (n:=((cl:Nat):Int)) rfl rfl (by omega) (by omega) <| WOL.now (b:=true) rfl rfl <| WOL.mul (m:=3) rfl rfl (by omega) (by omega) <| WOL.now (b:=true) rfl rfl <| WOL.bt rfl rfl rfl (by first | exact decide_eq_true (by omega) | exact beq_iff_eq.2 (by omega) | exact bne_iff_ne.2 (by omega)) <| WOL.pkt rfl rfl <| WOL.mv rfl <| WOL.now (b:=true) rfl rfl ?_
 refine WOL.cl0 rfl ((k11 A _).mono ?_)
 rintro v' h4 ⟨rfl,rfl⟩
 refine WOL.pkt rfl rfl <| WOL.as rfl <| WOL.nil ?_
 exact WL.ret (WL.end_ rfl rfl)
end
section
variable {h:TH} {v:Value} {L:Nat} {d:List Tri}
set_option maxHeartbeats 4000000 in
set_option maxRecDepth 10000 in
theorem k1098 (H:Has tp) (X:HasX tp) (Y:HasY tp) (A:Awk tp) (hL:L < 65536) (hd:∀ t,t ∈ d → triOk t) (sd:SlL encT 3 h v d) (f:Free0 h.next h) :
  CallW Try.prog tp (.func (.func 3) #[] #[]) #[v,.int .u16 (L:Nat)] h fun v _ => v = .bool true:=by
 refine CallW.fnL (H.fn 3 f1098 rfl rfl) ?_
 refine WL.sr <| WOL.as rfl <| WOL.nil <| keep [(0,_),(1,_)] ⟨rfl,rfl,trivial⟩ ?_
 by_cases c1:d.length < 1
 ·refine WL.seq <| WL.sr <| WOL.mv rfl <| WOL.len rfl sd u1106 <| WOL.bt rfl rfl rfl (by first | exact decide_eq_true (by omega) | exact beq_iff_eq.2 (by omega) | exact bne_iff_ne.2 (by omega)) <| WOL.mv rfl <| WOL.skp (b:=true) rfl rfl <| WOL.skp (b:=true) rfl rfl <| WOL.skp (b:=true) rfl rfl <| WOL.pkt rfl rfl <| WOL.nil <| keep [(43,_)] ⟨rfl,trivial⟩ ?_
  refine WL.yes rfl <| WL.sr <| WOL.cl0 rfl ((k11 A _).mono ?_)
  rintro v h4 ⟨rfl,rfl⟩
  exact WOL.as rfl <| WOL.nil <| WL.ret (WL.end_ rfl rfl)
 by_cases c2:12 < d.length
 ·refine WL.seq <| WL.sr <| WOL.mv rfl <| WOL.len rfl sd u1106 <| WOL.bf rfl rfl rfl (by first | exact decide_eq_false (by omega) | exact beq_eq_false_iff_ne.2 (by omega) | exact bne_eq_false_iff_eq.2 (by omega)) <| WOL.mv rfl <| WOL.now (b:=false) rfl rfl <| WOL.mv rfl <| WOL.now (b:=false) rfl rfl <| WOL.len rfl sd u1106 <| WOL.now (b:=false) rfl rfl <| WOL.bt rfl rfl rfl (by first | exact decide_eq_true (by omega) | exact beq_iff_eq.2 (by omega) | exact bne_iff_ne.2 (by omega)) <| WOL.pkf rfl rfl <| WOL.nil <| keep [(43,_)] ⟨rfl,trivial⟩ ?_
  refine WL.yes rfl <| WL.sr <| WOL.cl0 rfl ((k11 A _).mono ?_)
  rintro v h4 ⟨rfl,rfl⟩
  exact WOL.as rfl <| WOL.nil <| WL.ret (WL.end_ rfl rfl)
 refine WL.seq <| WL.sr <| WOL.mv rfl <| WOL.len rfl sd u1106 <| WOL.bf rfl rfl rfl (by first | exact decide_eq_false (by omega) | exact beq_eq_false_iff_ne.2 (by omega) | exact bne_eq_false_iff_eq.2 (by omega)) <| WOL.mv rfl <| WOL.now (b:=false) rfl rfl <| WOL.mv rfl <| WOL.now (b:=false) rfl rfl <| WOL.len rfl sd u1106 <| WOL.now (b:=false) rfl rfl <| WOL.bf rfl rfl rfl (by first | exact decide_eq_false (by omega) | exact beq_eq_false_iff_ne.2 (by omega) | exact bne_eq_false_iff_eq.2 (by omega)) <| WOL.pkf rfl rfl <| WOL.nil <| keep [(0,_),(1,_),(43,_)] ⟨rfl,rfl,rfl,trivial⟩ ?_
 refine WL.no rfl <| WL.skip ?_
 have hn:d.length ≤ 12:=by omega
 have hx:=xT_ok hd
 refine WL.sr <| WOL.bd rfl bd52r <| WOL.al tp52 fun h1 N1 => ?_
 have n1:=N1.next
 refine WOL.sto (vs:=[.string rN,zi 0,.slice none 0 0,.slice none 0 0]) rfl rfl tp52 N1.at_ rfl rfl (Nat.le_of_ble_eq_true rfl) rfl (f.hx N1.hx) (Nat.le_refl _) fun h2 P2 => ?_
 have X2:HX h h2:=P2.hx _ N1.hx (Nat.le_refl _)
 refine WOL.nil <| keep [(0,_),(1,_),(5,_)] ⟨rfl,rfl,rfl,trivial⟩ ?_
 refine WL.sr <| WOL.as rfl <| WOL.as rfl <| WOL.nil ?_
 refine WL.seq <| WL.sr <| WOL.mv rfl <| WOL.len rfl (sd.hx X2) u1106 <| WOL.mv rfl <| WOL.nil <| keep [(0,_),(1,_),(5,_),(6,_),(7,_),(46,_),(47,_),(48,_)] ⟨rfl,rfl,rfl,rfl,rfl,rfl,rfl,rfl,trivial⟩ ?_
 refine WL.upto (α:=Value × Value × Value) d.length (JSnt (bitJ L) (xT d) d.length h) (fun _ s => regJ v L d.length h.next s) (.slice none 0 0,.slice none 0 0,.slice none 0 0) rfl rfl (by omega) ⟨X2,P2.at_,.inl ⟨rfl,rfl⟩,.inl ⟨rfl,rfl⟩,SlL.nil,fun z e => (by cases e),fun z e => (by cases e),fun z e => (by cases e),fun z e => (by cases e)⟩ ⟨rfl,rfl,rfl,rfl,rfl,rfl,rfl,rfl,trivial⟩ (fun _ _ => rfl) (fun _ _ _ => ⟨rfl,rfl,rfl,rfl,rfl,rfl,rfl,rfl,trivial⟩) (fun _ _ _ => ⟨rfl,rfl,rfl,rfl,rfl,rfl,rfl,rfl,trivial⟩) ?_ ?_
 ·rintro j s g hj q
  have l6:=fun z (hz:bl s.2.1 = some z) => q.O6.lt hz
  refine kto (k1098p H X Y hd hn hj sd f q fun g1 w5 c10 X1 b10 gg A5 O5 O6 s7 lw A10 => ?_) ⟨rfl,rfl,rfl,rfl,rfl,rfl,rfl,rfl,trivial⟩
  refine k1098r H X Y hx hn hj sd rfl f X1 A10 fun g2 c12 c14 Y2 i12 i14 j14 A12 A14 => ?_
  have y2:=Y2.next
  refine k1098q hL hn hj f (X1.trans Y2) (A5.hx Y2) (O5.hx Y2) (O6.hx Y2) (s7.hx Y2) (fun z hz => ?_) (fun z hz e => ?_) (fun z hz e => ?_) q.n67 (by have:=X1.next;omega) (fun z hz => ?_) (fun z hz => ?_) A12 A14
  ·have:=q.l7 z hz;omega
  ·have:=lw z hz;have:=l6 z e;omega
  ·have:=lw z hz;have:=q.l7 z e;omega
  ·have:=l6 z hz;omega
  ·have:=q.l7 z hz;omega
 ·rintro ⟨w5,w6,w7⟩ g ⟨XG,A5,O5,O6,s7,l7,n56,n57,n67⟩
  have O5:OwnL encF (h.next + 1) g w5 32 (rowS (xT d) (3 * d.length)):=O5
  have s5:=O5.sl eF
  have s7:SlL encY 1 g w7 (strS (bkJ (bitJ L) (xT d) d.length d.length)):=s7
  rw [bkJ_all] at s7
  have hx':∀ p,-128 ≤ xT d (3 * d.length - 1 - p) ∧ xT d (3 * d.length - 1 - p) ≤ 127:=fun p => hx _
  refine kto (k1098s H X Y hx hx' hn (O6.sl eY) s7 (f.on XG) fun g1 c16 c18 z u1 u2 z' u1' u2' X1 A16 A18 J1 J2 => ?_) ⟨rfl,rfl,rfl,rfl,rfl,trivial⟩
  have Z1:=XG.trans X1
  refine k1098t H X Y hx hn ((O6.sl eY).hx X1) (f.on Z1) fun g2 w20 w23 X2 p20 o23 => ?_
  replace A16:=A16.hx X2;replace A18:=A18.hx X2;replace J1:=J1.hx X2;replace J2:=J2.hx X2
  have Z2:=Z1.trans X2
  have A5:=(A5.hx X1).hx X2
  replace s5:=(s5.hx X1).hx X2
  refine k1098u A hL hn (sd.hx Z2) p20 A16 A18 J1 J2 (fun r q => WL.end_ rfl rfl r q) fun c0 cl h0 hl h1 h3 _ _ _ _ => ?_
  obtain ⟨rfl,RC⟩:=J1.at h0 hl
  obtain ⟨r0,rl⟩:=rev_ends h0 hl
  obtain ⟨rfl,RD⟩:=J2.at r0 rl
  refine k1098j H X hL hx hn h1 h3 (f.on Z2) A5 s5 A16 RC fun g3 w28 X3 o28 => ?_
  exact k1098z (hB:=g1) H X A hn h1 h3 h0 hl (sd.hx (Z2.trans X3)) (f.on (Z2.trans X3)) (A16.hx X3) (A18.hx X3) (RC.hx X3) (RD.hx X3) (o23.hx X3) o28
end
theorem u16_in {z:Int} (h:(Lit.int .u16 z).wf = true):0 ≤ z ∧ z ≤ 65535:=by
 have h:(decide (IntKind.u16.min ≤ z) && decide (z ≤ IntKind.u16.max)) = true:=h
 have e1:IntKind.u16.min = 0:=by decide
 have e2:IntKind.u16.max = 65535:=by decide
 rw [e1,e2] at h
 simpa using h
theorem u1107:Try.prog.underlying 23 = some (.int .u16):=by kernel_rfl
abbrev TriV:={t:Tri // triOk t}
theorem cat_tri:∀ l:List TriV,cat (fun p:TriV => encT p.1) l = cat encT (l.map (·.1))
 | [] => rfl
 | x :: l => by
  show encT x.1 ++ cat (fun p:TriV => encT p.1) l = encT x.1 ++ cat encT (l.map (·.1))
  rw [cat_tri l]
attribute [local irreducible] Ty valOf
theorem ty_tri {h:TH} {n:Nat} {ps:List Value} (y:Ty Try.prog h (n + 2) 31 ps):∃ t:TriV,ps = encT t.1:=by
 obtain ⟨p,q,rfl,_,y1,p',q',rfl,_,y2,p3,q3,rfl,_,y3,rfl⟩:=tyg_array u92 y
 obtain ⟨a,rfl,ha⟩:=tyg_int u91 y1
 obtain ⟨b,rfl,hb⟩:=tyg_int u91 y2
 obtain ⟨c,rfl,hc⟩:=tyg_int u91 y3
 exact ⟨⟨(a,b,c),i8_in ha,i8_in hb,i8_in hc⟩,rfl⟩
set_option maxRecDepth 100000 in
theorem law1098:Law tpE 3 5 [22,23]:=by
 intro h us f ha
 match us,ha with
 | [x0,x1],⟨⟨p0,y0,e0⟩,⟨p1,y1,e1⟩,_⟩ =>
  obtain ⟨v,l,rfl,s,_⟩:=tyg_slice (enc:=fun p:TriV => encT p.1) (k:=3) ⟨fun _ => rfl,fun _ => rfl⟩ u1106 (fun p y => ty_tri y) y0
  have s':SlL encT 3 h v (l.map (·.1)):=by
   unfold SlL at s ⊢
   rw [← cat_tri,List.length_map]
   exact s
  obtain ⟨z,rfl,hz⟩:=tyg_int u1107 y1
  obtain ⟨z1,z2⟩:=u16_in hz
  obtain ⟨L,rfl⟩:∃ L:Nat,z = (L:Int):=⟨z.toNat,by omega⟩
  have ev:valOf Try.prog 22 [v] = v:=by unfold valOf;rw [u1106];rfl
  have ew:valOf Try.prog 23 [.int .u16 (L:Int)] = .int .u16 (L:Int):=by unfold valOf;rw [u1107];rfl
  rw [ev] at e0
  rw [ew] at e1
  subst e0 e1
  refine k1098 hasE hasXE hasYE awkE (by omega) (fun t ht => ?_) s' f
  obtain ⟨q,_,rfl⟩:=List.mem_map.1 ht
  exact q.2
end Go.Tidy
