/- A part of the proof. -/
import Derived.Test.YtmafhkcdhpkliaaGreatDoorPa5
set_option linter.all false
namespace Go.Tidy
open Go Go.Proofs Tab
variable {tp:TProg}
theorem rt_form {m:Int} {n:Nat} (hn:1≤n) (hn2:n≤1000000000000000) (hm:m.natAbs≤1000000000000000):∃ k:Int,∃ l:Nat,rtN m n=k∧rtD m n=l∧1≤l∧l≤n∧Nat.gcd k.natAbs l=1∧k.natAbs≤m.natAbs∧k*n=m*l:=by
 have hg:0 < Nat.gcd m.natAbs n:=Nat.gcd_pos_of_pos_right _ (by omega)
 have hd:((Nat.gcd m.natAbs n:Nat):Int) ∣ m:=Int.ofNat_dvd_left.2 (Nat.gcd_dvd_left _ _)
 have hd2:Nat.gcd m.natAbs n ∣ n:=Nat.gcd_dvd_right _ _
 have hgg:Nat.gcd m.natAbs n=Nat.gcd m.natAbs n:=rfl
 unfold rtN rtD
 generalize hG:Nat.gcd m.natAbs n=g at *
 obtain ⟨k,rfl⟩:=hd
 obtain ⟨l,rfl⟩:=hd2
 have ha:((g:Int)*k).natAbs=g*k.natAbs:=by rw [Int.natAbs_mul,Int.natAbs_natCast]
 rw [ha] at hm hG
 have hk:k.natAbs≤g*k.natAbs:=Nat.le_mul_of_pos_left _ hg
 have hl:l≤g*l:=Nat.le_mul_of_pos_left _ hg
 have l0:1≤l:=by
  rcases Nat.eq_zero_or_pos l with h | h
  ·subst h;simp at hn
  ·exact h
 refine ⟨k,l,?_,?_,l0,hl,?_,by rw [ha];exact hk,?_⟩
 ·rw [Int.mul_tdiv_cancel_left _ (by omega),fwrap_i64 (by omega) (by omega)]
 ·rw [Int.natCast_mul,Int.mul_tdiv_cancel_left _ (by omega),fwrap_i64 (by omega) (by omega)]
 ·rw [Nat.gcd_mul_left] at hG
  exact Nat.eq_of_mul_eq_mul_left hg (by rw [hG,Nat.mul_one])
 ·rw [Int.natCast_mul];grind
def lgB (m:Int) (n:Nat):Bool:=decide (rtN m n < -999999999) || decide (rtN m n > 999999999)
theorem ratioE_rt {m:Int} {n:Nat} (hn:1≤n) (hn2:n≤999999999) (hm:m.natAbs≤1000000000000000):ratioE (rtN m n) (rtD m n)=cond (lgB m n) 3 0:=by
 obtain ⟨k,l,e1,e2,h1,h2,h3,_⟩:=rt_form hn (by omega) hm
 unfold lgB ratioE outB
 rw [e1,e2,Int.toNat_natCast,h3,decide_eq_false (show ¬ ((l:Nat):Int) < 1 by omega),decide_eq_false (show ¬ ((l:Nat):Int) > 999999999 by omega)]
 cases (decide (k < -999999999) || decide (k > 999999999)) <;> rfl
theorem rtD_lim {m:Int} {n:Nat} (hn:1≤n) (hn2:n≤999999999) (hm:m.natAbs≤1000000000000000):1≤rtD m n∧rtD m n≤999999999:=by
 obtain ⟨k,l,e1,e2,h1,h2,h3,_⟩:=rt_form hn (by omega) hm
 omega
def ft0 (E x:Int):Int:=if E≠0 then 0 else x
def ftE (e a b:Int) (n:Nat):Int:=if e≠0 then e else cond (lgB a n || lgB b n) 4 0
theorem ft0_no {E x:Int} (h:E≠0):ft0 E x=0:=if_pos h
theorem ftE_no {e a b:Int} {n:Nat} (h:e≠0):ftE e a b n=e:=if_pos h
theorem ftE_0 {a b:Int} {n:Nat}:ftE 0 a b n=cond (lgB a n || lgB b n) 4 0:=rfl
theorem WL.endCCt {P:Program} {h:TH} {L:Rg} {V:Value→TH→Prop} {ty ty':TypeId} {t s r:Nat} {p q w v1 v2:Value} (hx:lkR L t=some p) (hy:lkR L s=some q) (hr:lkR L r=some w) (hv:loadT P ty p h=some v1) (hw:loadT P ty' q h=some v2) (k:V (.tuple #[v1,v2,w]) h):∀ a,Kn L a→Fin P [.cell t ty,.cell s ty',.tmp r] V .ret a h:=by
 unfold Fin
 exact fun a kn=>⟨.inr rfl,[v1,v2,w],by
  have e1:a.at_ t=p:=by simp only [Regs.at_,kn _ _ hx]
  have e2:a.at_ s=q:=by simp only [Regs.at_,kn _ _ hy]
  have e3:a.at_ r=w:=by simp only [Regs.at_,kn _ _ hr]
  simp [resultsT,e1,e2,e3,hv,hw],k⟩
theorem bd1302z:buildT Tryz.prog 54 []=some (.agg #[zi 0,zi 0,zi 0,zi 0]):=by kernel_rfl
theorem fo1302_0:fieldOff Tryz.prog 54 0=some 0:=by kernel_rfl
theorem fo1302_1:fieldOff Tryz.prog 54 1=some 2:=by kernel_rfl
section
variable {h:TH} {v:Value} {F:List Nat} {es L:List Int} {m n:Int}
theorem fit_bnd (hl:∀ j,(L.getD j 0).natAbs≤16384) (h2:2≤L.length) (h24:L.length≤24):(fitA L).natAbs≤10000000000∧(fitB L).natAbs≤1000000000∧∃ n:Nat,fitC L=n∧1≤n∧n≤100000:=by
 obtain ⟨b1,b2⟩:=fit_lim hl h24
 refine ⟨?_,?_,(fitC L).toNat,?_⟩
 ·unfold fitA
  have m1:=mulb (w:=4*(L.length:Int) - 2) (x:=L.sum) (a:=94) (b:=393216) (by omega) b1
  have m2:=mulb (w:=(4*(L.length:Int) - 2)*L.sum - 6*wsm L L.length) (x:=(L.length:Int) - 1) (a:=93585408) (b:=24) (by omega) (by omega)
  omega
 ·unfold fitB
  have m3:=mulb (w:=6*((L.length:Int) - 1)) (x:=L.sum) (a:=138) (b:=393216) (by omega) b1
  omega
 ·have q2:0 < fitC L:=by unfold fitC;exact Int.mul_pos (Int.mul_pos (by omega) (by omega)) (by omega)
  have m4:=mulb (w:=(L.length:Int)) (x:=(L.length:Int) - 1) (a:=24) (b:=24) (by omega) (by omega)
  have m5:=mulb (w:=(L.length:Int)*((L.length:Int) - 1)) (x:=(L.length:Int)+1) (a:=576) (b:=25) m4 (by omega)
  have:(fitC L).natAbs≤14400:=m5
  omega
theorem fit_ref:fitB L=6*dsm L (L.length:Nat) L.length∧fitA L=L.sum*((L.length:Int)*(L.length:Int) - 1) - 3*dsm L (L.length:Nat) L.length*((L.length:Int) - 1)∧fitC L=(L.length:Int)*((L.length:Int)*(L.length:Int) - 1):=by
 rw [dsm_eq _ (Nat.le_refl _),List.take_of_length_le (Nat.le_refl _)]
 unfold fitA fitB fitC
 refine ⟨by grind,by grind,by grind⟩
theorem k1340 (H:Has tp):CallW Tryz.prog tp (.func (.func 101) #[] #[]) #[.agg #[zi m,zi n]] h fun u h'=>u=.bool (decide (m > 999999999) || decide (m < -999999999) || decide (n > 999999999))∧HX h h':=by
 refine CallW.fnL (H.fn 101 f1340 rfl rfl) ?_
 refine WL.sr<|WOL.box rfl fun h1 N1=>WOL.as rfl<|WOL.nil<|keep [(1,_),(2,_)] ⟨rfl,rfl,trivial⟩ ?_
 have A1:At h1 h.next (.cells [zi m,zi n] true true 52):=N1.at_
 refine WL.sr<|WOL.fa rfl fa24<|WOL.ld rfl (load_one tp3 A1 rfl)<|WOL.bi rfl rfl rfl<|WOL.mv rfl ?_
 cases c1:decide (m > 999999999) with
 | true =>
  refine WOL.skp (b:=true) rfl rfl<|WOL.skp (b:=true) rfl rfl<|WOL.skp (b:=true) rfl rfl<|WOL.pkt rfl rfl<|WOL.mv rfl<|WOL.skp (b:=true) rfl rfl<|WOL.skp (b:=true) rfl rfl<|WOL.skp (b:=true) rfl rfl<|WOL.pkt rfl rfl<|WOL.as rfl<|WOL.nil ?_
  exact WL.ret (WL.end_ rfl ⟨rfl,N1.hx⟩)
 | false =>
  refine WOL.now (b:=false) rfl rfl<|WOL.fa rfl fa24<|WOL.now (b:=false) rfl rfl<|WOL.ld rfl (load_one tp3 A1 rfl)<|WOL.now (b:=false) rfl rfl<|WOL.bi rfl rfl rfl<|WOL.pkf rfl rfl<|WOL.mv rfl ?_
  show ∀ a,Kn ((11,.bool (decide (m < -999999999)))::_) a→_
  cases c2:decide (m < -999999999) with
  | true =>
   refine WOL.skp (b:=true) rfl rfl<|WOL.skp (b:=true) rfl rfl<|WOL.skp (b:=true) rfl rfl<|WOL.pkt rfl rfl<|WOL.as rfl<|WOL.nil ?_
   exact WL.ret (WL.end_ rfl ⟨rfl,N1.hx⟩)
  | false =>
   refine WOL.now (b:=false) rfl rfl<|WOL.fa rfl fb24<|WOL.now (b:=false) rfl rfl<|WOL.ld rfl (load_one tp3 A1 rfl)<|WOL.now (b:=false) rfl rfl<|WOL.bi rfl rfl rfl<|WOL.pkf rfl rfl<|WOL.as rfl<|WOL.nil ?_
   exact WL.ret (WL.end_ rfl ⟨rfl,N1.hx⟩)
theorem k1340r (H:Has tp) {n:Nat} (hn:1≤n) (hn2:n≤999999999) (hm:m.natAbs≤1000000000000000):CallW Tryz.prog tp (.func (.func 101) #[] #[]) #[.agg #[zi (rtN m n),zi (rtD m n)]] h fun u h'=>u=.bool (lgB m n)∧HX h h':=by
 refine (k1340 H).mono ?_
 rintro u h' ⟨rfl,X⟩
 have q:=rtD_lim hn hn2 hm
 refine ⟨?_,X⟩
 unfold lgB
 rw [decide_eq_false (show ¬ rtD m n > 999999999 by omega),Bool.or_false,Bool.or_comm]
set_option maxHeartbeats 2000000 in
theorem k1285 (H:Has tp) (X:HasX tp) (s:SlL encF 1 h v F) (hE:SErr F es) (hL:firstNZ es=0→Lev F L) (hF:shB F.length=true) {nc:Nat} (hc:fitC L=nc) (f:Free0 h.next h) :
  CallW Tryz.prog tp (.func (.func 28) #[] #[]) #[v] h fun u h'=>HX h h'∧∃ E,E=ftE (lineE F.length es) (fitA L) (fitB L) nc∧u=.tuple #[.agg #[zi (ft0 E (rtN (fitA L) nc)),zi (ft0 E (rtD (fitA L) nc)),zi (ft0 E (rtN (fitB L) nc)),zi (ft0 E (rtD (fitB L) nc))],zi E]:=by
 have lF:=shB_le hF
 refine CallW.fnL (H.fn 28 f1285 rfl rfl) ?_
 refine WL.sr<|WOL.al tp1302 fun h1 N1=>WOL.as rfl<|WOL.nil<|keep [(0,_),(2,_),(3,_)] ⟨rfl,rfl,rfl,trivial⟩ ?_
 have n1:=N1.next
 refine WL.seq<|WL.sr<|WOL.mv rfl<|WOL.cl1 rfl rfl ((k1328 H X (s.hx N1.hx) hE (by omega)).mono ?_)
 rintro u g1 ⟨rfl,X1⟩
 have Y1:=N1.hx.trans X1
 refine WOL.as rfl<|WOL.nil<|keep [(0,_),(2,_),(3,_),(4,_)] ⟨rfl,rfl,rfl,rfl,trivial⟩ ?_
 generalize hp:lineE F.length es=E
 by_cases e0:E≠0
 ·refine WL.sr<|WOL.mv rfl<|WOL.bt rfl rfl rfl (bne_iff_ne.2 e0)<|WOL.nil<|WL.yes rfl<|WL.sr<|WOL.bd rfl bd1302z<|WOL.mv rfl<|WOL.sto (vs:=[zi 0,zi 0,zi 0,zi 0]) rfl rfl tp1302 (N1.at_.hx X1) rfl rfl (Nat.le_of_ble_eq_true rfl) rfl (f.hx Y1) (Nat.le_refl _) fun g P=>WOL.as rfl<|WOL.nil ?_
  exact WL.ret (WL.endC1 rfl rfl (load_row tp1302 P.at_ rfl (Nat.le_of_ble_eq_true rfl)) ⟨P.hx _ Y1 (Nat.le_refl _),E,(ftE_no e0).symm,by rw [ft0_no e0,ft0_no e0,ft0_no e0,ft0_no e0];rfl⟩)
 have e0:E=0:=Classical.not_not.1 e0
 subst e0
 rw [ftE_0]
 obtain ⟨⟨l1,z1⟩,l2⟩:=line_ok hp
 have lv:=hL z1
 have ll:=lv.1
 have hl:=lev_getD lv
 have l24:=sh24 hF l1
 obtain ⟨bA,bB,n,hn,bn,bn2⟩:=fit_bnd hl (by omega) (by omega)
 obtain rfl:nc=n:=by omega
 refine WL.sr<|WOL.mv rfl<|WOL.bf rfl rfl rfl rfl<|WOL.nil<|WL.no rfl<|WL.skip<|keep [(0,_),(2,_)] ⟨rfl,rfl,trivial⟩ ?_
 refine WL.sr<|WOL.mv rfl<|WOL.cl1 rfl rfl ((k1313 H (s.hx Y1) lv (by omega) (f.on Y1)).mono ?_)
 rintro u g2 ⟨X2,c,rfl,hcc,Ac⟩
 have Y2:=Y1.trans X2
 have sI:SlL encI 1 g2 (slA c L.length) L:=SlL.own eI Ac rfl
 refine WOL.cl1 rfl rfl ((k1336 H sI hl (by omega) (f.on Y2)).mono ?_)
 rintro u g3 ⟨X3,rfl⟩
 have Y3:=Y2.trans X3
 unfold fitV
 rw [hc]
 refine WOL.cl1 rfl rfl ((k1337 H (by omega) (by omega) bn (by omega) (f.on Y3)).mono ?_)
 rintro u g4 ⟨rfl,X4⟩
 have Y4:=Y3.trans X4
 have y4:=Y4.next
 have Z4:=((X1.trans X2).trans X3).trans X4
 refine WOL.al tp1302 fun h5 N5=>WOL.sto (vs:=[zi _,zi _,zi _,zi _]) rfl rfl tp1302 N5.at_ rfl rfl (Nat.le_of_ble_eq_true rfl) rfl ((f.on Y4).hx N5.hx) (Nat.le_refl _) fun g5 P5=>WOL.nil<|keep [(2,_),(5,_)] ⟨rfl,rfl,trivial⟩ ?_
 have X5:=P5.hx _ N5.hx (Nat.le_refl _)
 have Y5:=Y4.trans X5
 have A5:At g5 g4.next (.cells [zi (rtN (fitA L) nc),zi (rtD (fitA L) nc),zi (rtN (fitB L) nc),zi (rtD (fitB L) nc)] true true 54):=P5.at_
 refine WL.seq<|WL.sr<|WOL.fa rfl (fa_of fo1302_0)<|WOL.ld rfl (load_row tp24 A5 rfl (Nat.le_of_ble_eq_true rfl))<|WOL.fa rfl (fa_of fo1302_1)<|WOL.ld rfl (load_row tp24 A5 rfl (Nat.le_of_ble_eq_true rfl))<|WOL.lk1 rfl rfl fun ml=>((k19 H _ _ _).mono ?_)
 rintro u g6 ⟨rfl,X6⟩
 replace X6:=X6.relock
 generalize g6.withLock g5.lock=g6 at *
 refine WOL.cl1 rfl rfl ((k19 H _ _ _).mono ?_)
 rintro u g7 ⟨rfl,X7⟩
 rw [ratioE_rt bn (by omega) (by omega),ratioE_rt bn (by omega) (by omega)]
 have Z7:=X6.trans X7
 have Y7:=Y5.trans Z7
 have A7:=A5.hx Z7
 refine WOL.bsl rfl u166 tp30 (by decide) (by decide) (by decide) (filled_ints _ _) fun g8 N8=>WOL.cl1 rfl rfl ((k71 H (l:=[_,_]) N8.at_.get (by simp)).mono ?_)
 rintro u g8 ⟨rfl,rfl⟩
 have Y8:=Y7.trans N8.hx
 have A8:=A7.hx N8.hx
 have A2:At g8 h.next (.cells [zi 0,zi 0,zi 0,zi 0] true true 54):=(N1.at_.hx Z4).hx ((X5.trans Z7).trans N8.hx)
 have eq3:firstNZ [cond (lgB (fitA L) nc) 3 0,cond (lgB (fitB L) nc) 3 0]=cond (lgB (fitA L) nc || lgB (fitB L) nc) 3 0:=by
  cases lgB (fitA L) nc <;> cases lgB (fitB L) nc <;> rfl
 rw [eq3]
 cases (lgB (fitA L) nc || lgB (fitB L) nc) with
 | true =>
  refine WOL.bt rfl rfl rfl rfl<|WOL.nil<|WL.yes rfl<|WL.sr<|WOL.bd rfl bd1302z<|WOL.sto (vs:=[zi 0,zi 0,zi 0,zi 0]) rfl rfl tp1302 A2 rfl rfl (Nat.le_of_ble_eq_true rfl) rfl (f.hx Y8) (Nat.le_refl _) fun g P=>WOL.as rfl<|WOL.nil ?_
  exact WL.ret (WL.endC1 rfl rfl (load_row tp1302 P.at_ rfl (Nat.le_of_ble_eq_true rfl)) ⟨P.hx _ Y8 (Nat.le_refl _),4,rfl,rfl⟩)
 | false =>
  refine WOL.bf rfl rfl rfl rfl<|WOL.nil<|WL.no rfl<|WL.skip<|keep [(2,_),(5,_)] ⟨rfl,rfl,trivial⟩ ?_
  refine WL.sr<|WOL.ld rfl (load_row tp1302 A8 rfl (Nat.le_of_ble_eq_true rfl))<|WOL.sto (vs:=[zi _,zi _,zi _,zi _]) rfl rfl tp1302 A2 rfl rfl (Nat.le_of_ble_eq_true rfl) rfl (f.hx Y8) (Nat.le_refl _) fun g P=>WOL.as rfl<|WOL.nil ?_
  exact WL.ret (WL.endC1 rfl rfl (load_row tp1302 P.at_ rfl (Nat.le_of_ble_eq_true rfl)) ⟨P.hx _ Y8 (Nat.le_refl _),0,rfl,rfl⟩)
end
end Go.Tidy
namespace Go.Tidy
open Go Go.Proofs Tab
variable {tp:TProg}
section
variable {h:TH} {v v5 v7 v15 v16:Value} {F:List Nat} {es L D1 D2:List Int} {a b e1 e2 w0 w1 w2 w3:Int} {n c3 c13 c14:Nat}
set_option maxHeartbeats 2000000 in
theorem k1288 (H:Has tp) (s:SlL encF 1 h v F) (lv:Lev F L) (hF:F.length≤24) {nc:Nat} (hc:fitC L=nc) (f:Free0 h.next h) :
  CallW Tryz.prog tp (.func (.func 33) #[] #[]) #[v] h fun u h'=>HX h h'∧∃ E,E=ftE (cond (decide ((F.length:Int) < 2)) 16 0) (fitA L) (fitB L) nc∧u=.tuple #[.agg #[zi (ft0 E (rtN (fitA L) nc)),zi (ft0 E (rtD (fitA L) nc))],.agg #[zi (ft0 E (rtN (fitB L) nc)),zi (ft0 E (rtD (fitB L) nc))],zi E]:=by
 have ll:=lv.1
 have hl:=lev_getD lv
 refine CallW.fnL (H.fn 33 f1288 rfl rfl) ?_
 refine WL.sr<|WOL.al tp24 fun h1 N1=>WOL.al tp24 fun h2 N2=>WOL.as rfl<|WOL.nil<|keep [(0,_),(2,_),(3,_)] ⟨rfl,rfl,rfl,trivial⟩ ?_
 have n1:=N1.next
 have n2:=N2.next
 have X2:=N1.hx.trans N2.hx
 have A2:=N1.at_.hx N2.hx
 have A3:=N2.at_
 by_cases c:(F.length:Int) < 2
 ·rw [decide_eq_true c,Bool.cond_true]
  refine WL.seq<|WL.sr<|WOL.mv rfl<|WOL.len rfl (s.hx X2) u43<|WOL.bt rfl rfl rfl (decide_eq_true c)<|WOL.nil<|WL.yes rfl<|WL.sr<|WOL.bd rfl bd24z<|WOL.bd rfl bd24z<|WOL.sto (vs:=[zi 0,zi 0]) rfl rfl tp24 A2 rfl rfl (Nat.le_of_ble_eq_true rfl) rfl (f.hx X2) (Nat.le_refl _) fun h3 P3=>WOL.sto (vs:=[zi 0,zi 0]) rfl rfl tp24 (P3.oth _ _ (by omega) A3) rfl rfl (Nat.le_of_ble_eq_true rfl) rfl (f.hx (P3.hx _ X2 (Nat.le_refl _))) (show h.next≤h1.next by omega) fun h4 P4=>WOL.as rfl<|WOL.nil ?_
  exact WL.ret (WL.endCCt rfl rfl rfl (load_row tp24 (P4.oth _ _ (by omega) P3.at_) rfl (Nat.le_of_ble_eq_true rfl)) (load_row tp24 P4.at_ rfl (Nat.le_of_ble_eq_true rfl)) ⟨P4.hx _ (P3.hx _ X2 (Nat.le_refl _)) (by omega),16,rfl,rfl⟩)
 rw [decide_eq_false c,Bool.cond_false,ftE_0]
 obtain ⟨bA,bB,n,hn,bn,bn2⟩:=fit_bnd hl (by omega) (by omega)
 obtain rfl:nc=n:=by omega
 obtain ⟨r1,r2,r3⟩:=fit_ref (L:=L)
 obtain ⟨b1,b2⟩:=fit_lim hl (by omega)
 have b3:=dsm_lim (n:=(L.length:Nat)) hl (by omega) L.length (by omega)
 refine WL.seq<|WL.sr<|WOL.mv rfl<|WOL.len rfl (s.hx X2) u43<|WOL.bf rfl rfl rfl (decide_eq_false c)<|WOL.nil<|WL.no rfl<|WL.skip<|keep [(0,_),(2,_),(3,_)] ⟨rfl,rfl,rfl,trivial⟩ ?_
 refine WL.sr<|WOL.mv rfl<|WOL.len rfl (s.hx X2) u43<|WOL.as rfl<|WOL.nil<|keep [(0,_),(2,_),(3,_),(5,_)] ⟨rfl,rfl,rfl,rfl,trivial⟩ ?_
 rw [ll]
 refine WL.sr<|WOL.mv rfl<|WOL.cl1 rfl rfl ((k1318 H (s.hx X2) lv (by omega) (f.on X2)).mono ?_)
 rintro u4 g1 ⟨X3,O4⟩
 have Y3:=X2.trans X3
 refine WOL.cl1 rfl rfl ((k1339 H (O4.sl eI) hl (by omega)).mono ?_)
 rintro u g2 ⟨rfl,rfl⟩
 refine WOL.mv rfl<|WOL.ex rfl rfl<|WOL.ex rfl rfl<|WOL.as rfl<|WOL.as rfl<|WOL.nil<|keep [(2,_),(3,_),(5,_),(6,_),(7,_)] ⟨rfl,rfl,rfl,rfl,rfl,trivial⟩ ?_
 have m1:=mulb (w:=(L.length:Int)) (x:=(L.length:Int)) (a:=24) (b:=24) (by omega) (by omega)
 have m2:=mulb (w:=(L.length:Int)) (x:=(L.length:Int)*(L.length:Int) - 1) (a:=24) (b:=577) (by omega) (by omega)
 have m3:=mulb (w:=L.sum) (x:=(L.length:Int)*(L.length:Int) - 1) (a:=393216) (b:=577) b1 (by omega)
 have m4:=mulb (w:=3*dsm L (L.length:Nat) L.length) (x:=(L.length:Int) - 1) (a:=57802752) (b:=24) (by omega) (by omega)
 refine WL.sr<|WOL.mv rfl<|WOL.mul (m:=6) (n:=dsm L (L.length:Nat) L.length) rfl rfl (by omega) (by omega)<|WOL.mv rfl<|WOL.mv rfl<|WOL.mv rfl<|WOL.mul (m:=(L.length:Int)) (n:=(L.length:Int)) rfl rfl (by omega) (by omega)<|WOL.sub (m:=(L.length:Int)*(L.length:Int)) (n:=1) rfl rfl (by omega) (by omega)<|WOL.mul (m:=(L.length:Int)) (n:=(L.length:Int)*(L.length:Int) - 1) rfl rfl (by omega) (by omega) ?_
 rw [← r1,← r3,hc]
 refine WOL.cl2 rfl rfl rfl ((k98w H (by omega) (by omega) bn (by omega) (f.on Y3)).mono ?_)
 rintro u g4 ⟨rfl,X4⟩
 have Y4:=Y3.trans X4
 have y4:=Y4.next
 refine WOL.al tp24 fun h5 N5=>WOL.sto (vs:=[zi _,zi _]) rfl rfl tp24 N5.at_ rfl rfl (Nat.le_of_ble_eq_true rfl) rfl ((f.on Y4).hx N5.hx) (Nat.le_refl _) fun g5 P5=>WOL.nil<|keep [(2,_),(3,_),(5,_),(6,_),(7,_),(8,_)] ⟨rfl,rfl,rfl,rfl,rfl,rfl,trivial⟩ ?_
 have X5:=P5.hx _ N5.hx (Nat.le_refl _)
 have Y5:=Y4.trans X5
 have A8:At g5 g4.next (.cells [zi (rtN (fitB L) nc),zi (rtD (fitB L) nc)] true true 52):=P5.at_
 refine WL.sr<|WOL.mv rfl<|WOL.mv rfl<|WOL.mv rfl<|WOL.mul (m:=(L.length:Int)) (n:=(L.length:Int)) rfl rfl (by omega) (by omega)<|WOL.sub (m:=(L.length:Int)*(L.length:Int)) (n:=1) rfl rfl (by omega) (by omega)<|WOL.mul (m:=L.sum) (n:=(L.length:Int)*(L.length:Int) - 1) rfl rfl (by omega) (by omega)<|WOL.mv rfl<|WOL.mul (m:=3) (n:=dsm L (L.length:Nat) L.length) rfl rfl (by omega) (by omega)<|WOL.mv rfl<|WOL.sub (m:=(L.length:Int)) (n:=1) rfl rfl (by omega) (by omega)<|WOL.mul (m:=3*dsm L (L.length:Nat) L.length) (n:=(L.length:Int) - 1) rfl rfl (by omega) (by omega)<|WOL.sub (m:=L.sum*((L.length:Int)*(L.length:Int) - 1)) (n:=3*dsm L (L.length:Nat) L.length*((L.length:Int) - 1)) rfl rfl (by omega) (by omega) ?_
 refine WOL.mv rfl<|WOL.mv rfl<|WOL.mv rfl<|WOL.mul (m:=(L.length:Int)) (n:=(L.length:Int)) rfl rfl (by omega) (by omega)<|WOL.sub (m:=(L.length:Int)*(L.length:Int)) (n:=1) rfl rfl (by omega) (by omega)<|WOL.mul (m:=(L.length:Int)) (n:=(L.length:Int)*(L.length:Int) - 1) rfl rfl (by omega) (by omega) ?_
 rw [← r2,← r3,hc]
 refine WOL.cl2 rfl rfl rfl ((k98w H (by omega) (by omega) bn (by omega) (f.on Y5)).mono ?_)
 rintro u g6 ⟨rfl,X6⟩
 have Y6:=Y5.trans X6
 have y6:=Y6.next
 refine WOL.al tp24 fun h7 N7=>WOL.sto (vs:=[zi _,zi _]) rfl rfl tp24 N7.at_ rfl rfl (Nat.le_of_ble_eq_true rfl) rfl ((f.on Y6).hx N7.hx) (Nat.le_refl _) fun g7 P7=>WOL.nil<|keep [(2,_),(3,_),(8,_),(9,_)] ⟨rfl,rfl,rfl,rfl,trivial⟩ ?_
 have X7:=P7.hx _ N7.hx (Nat.le_refl _)
 have Y7:=Y6.trans X7
 have A9:At g7 g6.next (.cells [zi (rtN (fitA L) nc),zi (rtD (fitA L) nc)] true true 52):=P7.at_
 replace A8:=A8.hx (X6.trans X7)
 refine WL.seq<|WL.sr<|WOL.ld rfl (load_row tp24 A8 rfl (Nat.le_of_ble_eq_true rfl))<|WOL.cl1 rfl rfl ((k1340r H bn (by omega) (by omega)).mono ?_)
 rintro u g8 ⟨rfl,X8⟩
 have Y8:=Y7.trans X8
 replace A8:=A8.hx X8
 replace A9:=A9.hx X8
 replace A2:=A2.hx ((((X3.trans X4).trans X5).trans (X6.trans X7)).trans X8)
 replace A3:=A3.hx ((((X3.trans X4).trans X5).trans (X6.trans X7)).trans X8)
 obtain ⟨BB,hBB⟩:∃ BB,(lgB (fitA L) nc || lgB (fitB L) nc)=BB:=⟨_,rfl⟩
 rw [hBB]
 have big:∀ (K':Regs→TH→Prop) (g:TH) (hg:HX h g) (B2:At g h.next (.cells [zi 0,zi 0] true true 52)) (B3:At g h1.next (.cells [zi 0,zi 0] true true 52)) (hb:BB=true),∀ r,Kn [(2,ptr h.next),(3,ptr h1.next)] r→W Tryz.prog tp false (.seq (.reg r1288_8) .ret) r g (andThen K' (Fin Tryz.prog [.cell 2 52,.cell 3 52,.tmp 4] fun u h'=>HX h h'∧∃ E,E=cond BB 4 0∧u=.tuple #[.agg #[zi (ft0 E (rtN (fitA L) nc)),zi (ft0 E (rtD (fitA L) nc))],.agg #[zi (ft0 E (rtN (fitB L) nc)),zi (ft0 E (rtD (fitB L) nc))],zi E])):=by
  intro K' g hg B2 B3 hb
  subst hb
  refine WL.sr<|WOL.bd rfl bd24z<|WOL.bd rfl bd24z<|WOL.sto (vs:=[zi 0,zi 0]) rfl rfl tp24 B2 rfl rfl (Nat.le_of_ble_eq_true rfl) rfl (f.hx hg) (Nat.le_refl _) fun h3 P3=>WOL.sto (vs:=[zi 0,zi 0]) rfl rfl tp24 (P3.oth _ _ (by omega) B3) rfl rfl (Nat.le_of_ble_eq_true rfl) rfl (f.hx (P3.hx _ hg (Nat.le_refl _))) (show h.next≤h1.next by omega) fun h4 P4=>WOL.as rfl<|WOL.nil ?_
  exact WL.ret (WL.endCCt rfl rfl rfl (load_row tp24 (P4.oth _ _ (by omega) P3.at_) rfl (Nat.le_of_ble_eq_true rfl)) (load_row tp24 P4.at_ rfl (Nat.le_of_ble_eq_true rfl)) ⟨P4.hx _ (P3.hx _ hg (Nat.le_refl _)) (by omega),4,rfl,rfl⟩)
 refine WOL.mv rfl ?_
 cases hb:lgB (fitB L) nc with
 | true =>
  refine WOL.skp (b:=true) rfl rfl<|WOL.skp (b:=true) rfl rfl<|WOL.pkt rfl rfl<|WOL.nil<|WL.yes rfl ?_
  exact kto (big _ g8 Y8 A2 A3 (by rw [← hBB,hb,Bool.or_true])) ⟨rfl,rfl,trivial⟩
 | false =>
  refine WOL.now (b:=false) rfl rfl<|WOL.ld rfl (load_row tp24 A9 rfl (Nat.le_of_ble_eq_true rfl))<|WOL.now (b:=false) rfl rfl<|WOL.cl1 rfl rfl ((k1340r H bn (by omega) (by omega)).mono ?_)
  rintro u g9 ⟨rfl,X9⟩
  have Y9:=Y8.trans X9
  replace A2:=A2.hx X9
  replace A3:=A3.hx X9
  replace A8:=A8.hx X9
  replace A9:=A9.hx X9
  refine WOL.pkf rfl rfl<|WOL.nil ?_
  cases ha:lgB (fitA L) nc with
  | true =>
   refine WL.yes rfl ?_
   exact kto (big _ g9 Y9 A2 A3 (by rw [← hBB,ha,Bool.true_or])) ⟨rfl,rfl,trivial⟩
  | false =>
   have hB0:BB=false:=by rw [← hBB,ha,hb];rfl
   refine WL.no rfl<|WL.skip<|keep [(2,_),(3,_),(8,_),(9,_)] ⟨rfl,rfl,rfl,rfl,trivial⟩ ?_
   have x3:=X3.next
   have x4:=X4.next
   have ne:h.next≠g4.next:=by omega
   have ne2:h.next≠h1.next:=by omega
   refine WL.sr<|WOL.ld rfl (load_row tp24 A9 rfl (Nat.le_of_ble_eq_true rfl))<|WOL.ld rfl (load_row tp24 A8 rfl (Nat.le_of_ble_eq_true rfl))<|WOL.stQ (vs:=[zi _,zi _]) [g4.next] rfl rfl rfl tp24 A2 rfl rfl (Nat.le_of_ble_eq_true rfl) rfl (f.hx Y9) (Nat.le_refl _) (by simp;omega) fun h10 P10=>WOL.sto (vs:=[zi _,zi _]) rfl rfl tp24 (P10.oth _ _ (by omega) A3) rfl rfl (Nat.le_of_ble_eq_true rfl) rfl (f.hx (P10.hx _ Y9 (Nat.le_refl _))) (show h.next≤h1.next by omega) fun h11 P11=>WOL.as rfl<|WOL.nil ?_
   exact WL.ret (WL.endCCt rfl rfl rfl (load_row tp24 (P11.oth _ _ (by omega) P10.at_) rfl (Nat.le_of_ble_eq_true rfl)) (load_row tp24 P11.at_ rfl (Nat.le_of_ble_eq_true rfl)) ⟨P11.hx _ (P10.hx _ Y9 (Nat.le_refl _)) (by omega),0,by rw [hB0];rfl,rfl⟩)
def cd1246d:TCode:=.seq (.reg r1246_14) .ret
set_option maxHeartbeats 2000000 in
theorem k1246d (H:Has tp) (K:Awk tp) (A3:At h c3 (.cells [zi w0,zi w1,zi w2,zi w3] true true 54)) (A13:At h c13 (.cells [zi w0,zi w1] true true 52)) (A14:At h c14 (.cells [zi w2,zi w3] true true 52)) (r5:RF h v5 D1) (r15:RF h v15 D1) (r7:RF h v7 D2) (r16:RF h v16 D2) (l1:D1.length≤1000000) (l2:D2.length≤1000000) :
  ∀ r,Kn [(3,ptr c3),(4,zi a),(5,v5),(6,zi e1),(7,v7),(8,zi e2),(10,zi a),(11,zi e1),(12,zi e2),(13,ptr c13),(14,ptr c14),(15,v15),(16,v16)] r→W Tryz.prog tp false cd1246d r h (Fin Tryz.prog [.tmp 2] fun v _=>v=.bool true):=by
 unfold cd1246d
 refine WL.sr<|WOL.ld rfl (load_row tp1302 A3 rfl (Nat.le_of_ble_eq_true rfl))<|WOL.ld rfl (load_row tp24 A13 rfl (Nat.le_of_ble_eq_true rfl))<|WOL.ld rfl (load_row tp24 A14 rfl (Nat.le_of_ble_eq_true rfl))<|WOL.bd rfl bd1302<|WOL.eq1302 rfl rfl ?_
 rw [show cond (cond (w0 == w0) (w1 == w1) false) (cond (w2 == w2) (w3 == w3) false) false=true by simp]
 refine WOL.mv rfl<|WOL.now (b:=true) rfl rfl<|WOL.mv rfl<|WOL.now (b:=true) rfl rfl<|WOL.mv rfl<|WOL.now (b:=true) rfl rfl<|WOL.bt rfl rfl rfl (beq_self_eq_true _)<|WOL.pkt rfl rfl<|WOL.mv rfl<|WOL.now (b:=true) rfl rfl<|WOL.mv rfl<|WOL.now (b:=true) rfl rfl<|WOL.mv rfl<|WOL.now (b:=true) rfl rfl<|WOL.cl2 rfl rfl rfl ((k58r H r5 r15 l1).mono ?_)
 rintro u g1 ⟨rfl,rfl⟩
 refine WOL.pkt rfl rfl<|WOL.mv rfl<|WOL.now (b:=true) rfl rfl<|WOL.mv rfl<|WOL.now (b:=true) rfl rfl<|WOL.mv rfl<|WOL.now (b:=true) rfl rfl<|WOL.bt rfl rfl rfl (beq_self_eq_true _)<|WOL.pkt rfl rfl<|WOL.mv rfl<|WOL.now (b:=true) rfl rfl<|WOL.mv rfl<|WOL.now (b:=true) rfl rfl<|WOL.mv rfl<|WOL.now (b:=true) rfl rfl<|WOL.cl2 rfl rfl rfl ((k58r H r7 r16 l2).mono ?_)
 rintro u g2 ⟨rfl,rfl⟩
 refine WOL.pkt rfl rfl<|WOL.mv rfl<|WOL.now (b:=true) rfl rfl<|WOL.mv rfl<|WOL.now (b:=true) rfl rfl<|WOL.mv rfl<|WOL.now (b:=true) rfl rfl<|WOL.bt rfl rfl rfl (beq_self_eq_true _)<|WOL.pkt rfl rfl<|WOL.mv rfl<|WOL.now (b:=true) rfl rfl<|WOL.cl0 rfl ((k11t K _).mono ?_)
 rintro u g5 ⟨rfl,rfl⟩
 exact WOL.pkt rfl rfl<|WOL.as rfl<|WOL.nil<|WL.ret (WL.end_ rfl rfl)
theorem cL_lim {E:Int} {D:List Int} {m:Nat} (h:D.length≤m):(cL E D).length≤m:=Nat.le_trans cL_len h
theorem lev_any (L:List Int):∃ nc:Nat,fitC L=nc:=⟨(fitC L).toNat,by
 have:0≤fitC L:=by
  unfold fitC
  rcases Nat.eq_zero_or_pos L.length with e | e
  ·rw [e];decide
  ·exact Int.mul_nonneg (Int.mul_nonneg (by omega) (by omega)) (by omega)
 omega⟩
set_option maxHeartbeats 4000000 in
set_option maxRecDepth 10000 in
theorem k1246 (H:Has tp) (X:HasX tp) (K:Awk tp) (Gl:Glob h) (s:SlL encF 1 h v F) (f:Free0 h.next h):CallW Tryz.prog tp (.func (.func 5) #[] #[]) #[v] h fun v _=>v=.bool true:=by
 obtain ⟨es,L,hE,hL⟩:=lev_some F
 obtain ⟨nc,hc⟩:=lev_any L
 refine CallW.fnL (H.fn 5 f1246 rfl rfl) ?_
 refine WL.sr<|WOL.as rfl<|WOL.nil<|keep [(0,_)] ⟨rfl,trivial⟩ ?_
 refine WL.seq<|WL.sr<|WOL.mv rfl<|WOL.cl1 rfl rfl ((k1254 H s).mono ?_)
 rintro u g ⟨rfl,rfl⟩
 cases hF:shB F.length with
 | false =>
  refine WOL.nt rfl<|WOL.nil<|WL.yes rfl<|WL.sr<|WOL.cl0 rfl ((k11t K _).mono ?_)
  rintro v h4 ⟨rfl,rfl⟩
  exact WOL.as rfl<|WOL.nil<|WL.ret (WL.end_ rfl rfl)
 | true =>
 have lF:=shB_le hF
 refine WOL.nt rfl<|WOL.nil<|WL.no rfl<|WL.skip<|keep [(0,_)] ⟨rfl,trivial⟩ ?_
 -- fitted
 refine WL.sr<|WOL.mv rfl<|WOL.cl1 rfl rfl ((k1258 H s (by omega)).mono ?_)
 rintro u g1 ⟨X1,b1,m1,k1,rfl,s1,_⟩
 refine WOL.cl1 rfl rfl ((k1285 H X s1 hE hL hF hc (f.on X1)).mono ?_)
 rintro u g2 ⟨X2,E1,hE1,rfl⟩
 have Y2:=X1.trans X2
 refine WOL.mv rfl<|WOL.ex rfl rfl<|WOL.ex rfl rfl<|WOL.al tp1302 fun h3 N3=>WOL.sto (vs:=[zi _,zi _,zi _,zi _]) rfl rfl tp1302 N3.at_ rfl rfl (Nat.le_of_ble_eq_true rfl) rfl ((f.on Y2).hx N3.hx) (Nat.le_refl _) fun g3 P3=>WOL.as rfl<|WOL.nil<|keep [(0,_),(3,_),(4,_)] ⟨rfl,rfl,rfl,trivial⟩ ?_
 have X3:=P3.hx _ N3.hx (Nat.le_refl _)
 have Y3:=Y2.trans X3
 have y2:=Y2.next
 have A3:At g3 g2.next (.cells [zi (ft0 E1 (rtN (fitA L) nc)),zi (ft0 E1 (rtD (fitA L) nc)),zi (ft0 E1 (rtN (fitB L) nc)),zi (ft0 E1 (rtD (fitB L) nc))] true true 54):=P3.at_
 -- leveled
 refine WL.sr<|WOL.mv rfl<|WOL.cl1 rfl rfl ((k1258 H (s.hx Y3) (by omega)).mono ?_)
 rintro u g4 ⟨X4,b4,m4,k4,rfl,s4,_⟩
 have Y4:=Y3.trans X4
 refine WOL.cl1 rfl rfl ((k1286 H X (Gl.hx Y4) s4 hE hL hF (f.on Y4)).mono ?_)
 rintro u g5 ⟨X5,R⟩
 obtain ⟨v5,rfl,r5⟩:=R.form
 have Y5:=Y4.trans X5
 refine WOL.mv rfl<|WOL.ex rfl rfl<|WOL.ex rfl rfl<|WOL.as rfl<|WOL.as rfl<|WOL.nil<|keep [(0,_),(3,_),(4,_),(5,_),(6,_)] ⟨rfl,rfl,rfl,rfl,rfl,trivial⟩ ?_
 -- straightened
 refine WL.sr<|WOL.mv rfl<|WOL.cl1 rfl rfl ((k1258 H (s.hx Y5) (by omega)).mono ?_)
 rintro u g6 ⟨X6,b6,m6,k6,rfl,s6,_⟩
 have Y6:=Y5.trans X6
 refine WOL.cl1 rfl rfl ((k1287 H X s6 hE hL (by omega) (f.on Y6)).mono ?_)
 rintro u g7 ⟨X7,R⟩
 obtain ⟨v7,rfl,r7⟩:=R.form
 have Y7:=Y6.trans X7
 refine WOL.mv rfl<|WOL.ex rfl rfl<|WOL.ex rfl rfl<|WOL.as rfl<|WOL.as rfl<|WOL.nil<|keep [(0,_),(3,_),(4,_),(5,_),(6,_),(7,_),(8,_)] ⟨rfl,rfl,rfl,rfl,rfl,rfl,rfl,trivial⟩ ?_
 refine WL.sr<|WOL.mv rfl<|WOL.cl1 rfl rfl ((k1261 H (s.hx Y7) hE (by omega)).mono ?_)
 rintro u g7 ⟨rfl,rfl⟩
 refine WOL.as rfl<|WOL.nil<|keep [(0,_),(3,_),(4,_),(5,_),(6,_),(7,_),(8,_),(9,_)] ⟨rfl,rfl,rfl,rfl,rfl,rfl,rfl,rfl,trivial⟩ ?_
 refine WL.sr<|WOL.mv rfl<|WOL.mv rfl<|WOL.mv rfl<|WOL.as rfl<|WOL.as rfl<|WOL.as rfl<|WOL.nil<|keep [(0,_),(3,_),(4,_),(5,_),(6,_),(7,_),(8,_),(9,_),(10,_),(11,_),(12,_)] ⟨rfl,rfl,rfl,rfl,rfl,rfl,rfl,rfl,rfl,rfl,rfl,trivial⟩ ?_
 refine WL.sr<|WOL.al tp24 fun h8 N8=>WOL.al tp24 fun h9 N9=>WOL.nil ?_
 have n8:=N8.next
 have X9:=N8.hx.trans N9.hx
 have Y9:=Y7.trans X9
 have A13:=N8.at_.hx N9.hx
 have A14:=N9.at_
 replace A3:=A3.hx (((X4.trans X5).trans X6).trans X7)
 replace r5:=r5.hx (X6.trans X7)
 refine WL.sr<|WOL.as rfl<|WOL.as rfl<|WOL.nil<|keep [(0,_),(3,_),(4,_),(5,_),(6,_),(7,_),(8,_),(9,_),(10,_),(11,_),(12,_),(13,_),(14,_),(15,_),(16,_)] ⟨rfl,rfl,rfl,rfl,rfl,rfl,rfl,rfl,rfl,rfl,rfl,rfl,rfl,rfl,rfl,trivial⟩ ?_
 have s9:=s.hx Y9
 have e12:lineE F.length es=if sigE F.length es≠0 then sigE F.length es else cond (decide ((F.length:Int) < 2)) 16 0:=by unfold lineE;rw [fNZ_2]
 by_cases e0:sigE F.length es=0
 ·obtain ⟨q1,z1⟩:=sigE_short e0
  have lv:=hL z1
  have ll:=lv.1
  have l24:=sh24 hF q1
  rw [e0,if_neg (by decide)] at e12
  rw [e12] at r5 r7 hE1 ⊢
  rw [e0]
  refine WL.seq<|WL.sr<|WOL.mv rfl<|WOL.bt rfl rfl rfl rfl<|WOL.nil<|WL.yes rfl<|WL.sr<|WOL.mv rfl<|WOL.cl1 rfl rfl ((k1288 H s9 lv (by omega) hc (f.on Y9)).mono ?_)
  rintro u g10 ⟨X10,E2,hE2,rfl⟩
  obtain rfl:E1=E2:=hE1.trans hE2.symm
  have x10:=X10.next
  have Y10:=Y9.trans X10
  refine WOL.mv rfl<|WOL.ex rfl rfl<|WOL.ex rfl rfl<|WOL.ex rfl rfl<|WOL.sto (vs:=[zi _,zi _]) rfl rfl tp24 (A13.hx X10) rfl rfl (Nat.le_of_ble_eq_true rfl) rfl ((f.on Y7).hx (X9.trans X10)) (Nat.le_refl _) fun g11 P11=>WOL.sto (vs:=[zi _,zi _]) rfl rfl tp24 (P11.oth _ _ (by omega) (A14.hx X10)) rfl rfl (Nat.le_of_ble_eq_true rfl) rfl ((f.on Y7).hx (P11.hx _ (X9.trans X10) (Nat.le_refl _))) (show g7.next≤h8.next by omega) fun g12 P12=>WOL.as rfl<|WOL.nil<|keep [(0,_),(3,_),(4,_),(5,_),(6,_),(7,_),(8,_),(10,_),(13,_),(14,_)] ⟨rfl,rfl,rfl,rfl,rfl,rfl,rfl,rfl,rfl,rfl,trivial⟩ ?_
  have X12:=P12.hx _ (P11.hx _ (X9.trans X10) (Nat.le_refl _)) (show g7.next≤h8.next by omega)
  have Y12:=Y7.trans X12
  have B13:=P12.oth _ _ (by omega) P11.at_
  have B14:=P12.at_
  replace A3:=A3.hx X12
  replace r5:=r5.hx X12
  replace r7:=r7.hx X12
  have s12:=s.hx Y12
  refine WL.sr<|WOL.mv rfl<|WOL.cl1 rfl rfl ((k1289 H s12 lv (by omega) (f.on Y12)).mono ?_)
  rintro u g13 ⟨X13,R⟩
  obtain ⟨v15,rfl,r15⟩:=R.form
  have Y13:=Y12.trans X13
  refine WOL.mv rfl<|WOL.ex rfl rfl<|WOL.ex rfl rfl<|WOL.as rfl<|WOL.as rfl<|WOL.nil<|keep [(0,_),(3,_),(4,_),(5,_),(6,_),(7,_),(8,_),(10,_),(11,_),(13,_),(14,_),(15,_)] ⟨rfl,rfl,rfl,rfl,rfl,rfl,rfl,rfl,rfl,rfl,rfl,rfl,trivial⟩ ?_
  refine WL.reg<|WOL.mv rfl<|WOL.cl1 rfl rfl ((k1290 H (s12.hx X13) lv (by omega) (f.on Y13)).mono ?_)
  rintro u g14 ⟨X14,R⟩
  obtain ⟨v16,rfl,r16⟩:=R.form
  have Z14:=X13.trans X14
  have d1:(cL (cond (decide ((F.length:Int) < 2)) 16 0) (trdL L)).length≤1000000:=cL_lim (by rw [trd_len];omega)
  have d2:(cL (cond (decide ((F.length:Int) < 2)) 16 0) (twsL L)).length≤1000000:=cL_lim (by unfold twsL;rw [lin_len];omega)
  exact WOL.mv rfl<|WOL.ex rfl rfl<|WOL.ex rfl rfl<|WOL.as rfl<|WOL.as rfl<|WOL.nil<|kto (k1246d H K (A3.hx Z14) (B13.hx Z14) (B14.hx Z14) (r5.hx Z14) (r15.hx X14) (r7.hx Z14) r16 d1 d2) ⟨rfl,rfl,rfl,rfl,rfl,rfl,rfl,rfl,rfl,rfl,rfl,rfl,rfl,trivial⟩
 ·rw [if_pos e0] at e12
  rw [e12] at r5 r7 hE1 ⊢
  rw [ftE_no e0] at hE1
  rw [cL_no e0] at r5 r7
  rw [cE_no e0,cE_no e0]
  subst hE1
  rw [ft0_no e0,ft0_no e0,ft0_no e0,ft0_no e0] at A3
  refine WL.seq<|WL.sr<|WOL.mv rfl<|WOL.bf rfl rfl rfl (beq_eq_false_iff_ne.2 e0)<|WOL.nil<|WL.no rfl<|WL.skip ?_
  exact kto (k1246d H K (A3.hx X9) A13 A14 (r5.hx X9) RF.nil (r7.hx X9) RF.nil (by decide) (by decide)) ⟨rfl,rfl,rfl,rfl,rfl,rfl,rfl,rfl,rfl,rfl,rfl,rfl,rfl,trivial⟩
end
theorem args1 {P:Program} {h:TH} {m:Nat} {t0:TypeId} {us:List Value} (ha:Args P h m [t0] us):∃ x0,us=[x0]∧∃ ps,Ty P h m t0 ps∧x0=valOf P t0 ps:=by
 match us,ha with
 | [x0],⟨a0,_⟩=>exact ⟨x0,rfl,a0⟩
set_option maxRecDepth 100000 in
theorem law1246:LawG tpE 5 5 [25]:=by
 intro h us f Gl ha
 obtain ⟨x0,rfl,⟨p0,y0,e0⟩⟩:=args1 ha
 obtain ⟨w0,F,rfl,s,_⟩:=tyg_slice eF u43 (fun p y=>by obtain ⟨b,e,_⟩:=ty_float y;exact ⟨b,e⟩) y0
 rw [val_fls] at e0
 subst e0
 exact k1246 hasE hasXE awkE Gl s f
end Go.Tidy
