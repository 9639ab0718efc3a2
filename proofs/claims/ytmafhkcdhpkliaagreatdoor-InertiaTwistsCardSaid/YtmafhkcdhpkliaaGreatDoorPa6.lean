/- A part of the proof. -/
import Derived.Test.YtmafhkcdhpkliaaGreatDoorPa5
set_option linter.all false
namespace Go.Tidy
open Go Go.Proofs Tab
variable {tp:TProg}
theorem rt_zero {m:Int} {n:Nat} (hn:1≤n) (hm:m.natAbs≤1000000000000000) (h:rtN m n=0):m=0:=by
 have hg:0 < Nat.gcd m.natAbs n:=Nat.gcd_pos_of_pos_right _ (by omega)
 have hd:((Nat.gcd m.natAbs n:Nat):Int) ∣ m:=Int.ofNat_dvd_left.2 (Nat.gcd_dvd_left _ _)
 unfold rtN at h
 generalize Nat.gcd m.natAbs n=g at *
 obtain ⟨k,rfl⟩:=hd
 rw [Int.mul_tdiv_cancel_left _ (by omega)] at h
 have hk:k.natAbs≤1000000000000000:=by
  rw [Int.natAbs_mul,Int.natAbs_natCast] at hm
  exact Nat.le_trans (Nat.le_mul_of_pos_left _ hg) hm
 rw [fwrap_i64 (by omega) (by omega)] at h
 rw [h,Int.mul_zero]
theorem rnd_same {x c:Int} (hc:0 < c):rnd (x*c) c=x:=by
 unfold rnd
 rw [show 2*(x*c)+c=c+x*(2*c) by grind,Int.add_mul_ediv_right _ _ (by omega),Int.ediv_eq_zero_of_lt (by omega) (by omega)]
 omega
theorem trd_flat {L:List Int} (ha:fitA L=0) (hb:fitB L=0) (hc:0 < fitC L):trdL L=L:=by
 refine list_ext trd_len fun i hi=>?_
 rw [trd_len] at hi
 unfold trdL
 rw [lin_get hi,ha,hb]
 unfold linF
 rw [Int.zero_mul,Int.sub_zero,Int.sub_zero,rnd_same hc]
section
variable {h:TH} {v:Value} {F:List Nat} {es L:List Int}
set_option maxHeartbeats 2000000 in
theorem k1286 (H:Has tp) (X:HasX tp) (Gl:Glob h) (s:SlL encF 1 h v F) (hE:SErr F es) (hL:firstNZ es=0→Lev F L) (hF:shB F.length=true) (f:Free0 h.next h) :
  CallW Tryz.prog tp (.func (.func 30) #[] #[]) #[v] h fun u h'=>HX h h'∧AnsF (cE (lineE F.length es) (trdL L)) (cL (lineE F.length es) (trdL L)) h.next h' u:=by
 have lF:=shB_le hF
 refine CallW.fnL (H.fn 30 f1286 rfl rfl) ?_
 refine WL.sr<|WOL.as rfl<|WOL.as rfl<|WOL.nil<|keep [(0,_)] ⟨rfl,trivial⟩ ?_
 refine WL.seq<|WL.sr<|WOL.mv rfl<|WOL.cl1 rfl rfl ((k1328 H X s hE (by omega)).mono ?_)
 rintro u g1 ⟨rfl,X1⟩
 refine WOL.as rfl<|WOL.nil<|keep [(0,_),(4,_)] ⟨rfl,rfl,trivial⟩ ?_
 generalize hp:lineE F.length es=E
 by_cases e0:E≠0
 ·rw [cE_no e0,cL_no e0]
  refine WL.sr<|WOL.mv rfl<|WOL.bt rfl rfl rfl (bne_iff_ne.2 e0)<|WOL.nil<|WL.yes rfl<|WL.sr<|WOL.mv rfl<|WOL.as rfl<|WOL.as rfl<|WOL.nil ?_
  exact WL.ret (WL.end_ rfl ⟨X1,AnsF.err⟩)
 have e0:E=0:=Classical.not_not.1 e0
 subst e0
 rw [cE_0,cL_0]
 obtain ⟨⟨l1,z1⟩,l2⟩:=line_ok hp
 have lv:=hL z1
 have ll:=lv.1
 have hl:=lev_getD lv
 have l24:=sh24 hF l1
 refine WL.sr<|WOL.mv rfl<|WOL.bf rfl rfl rfl rfl<|WOL.nil<|WL.no rfl<|WL.skip<|keep [(0,_)] ⟨rfl,trivial⟩ ?_
 refine WL.sr<|WOL.mv rfl<|WOL.cl1 rfl rfl ((k1313 H (s.hx X1) lv (by omega) (f.on X1)).mono ?_)
 rintro u g2 ⟨X2,c,rfl,hc,Ac⟩
 have Y2:=X1.trans X2
 have sI:SlL encI 1 g2 (slA c L.length) L:=SlL.own eI Ac rfl
 refine WOL.as rfl<|WOL.nil<|keep [(5,_)] ⟨rfl,trivial⟩ ?_
 refine WL.sr<|WOL.mv rfl<|WOL.cl1 rfl rfl ((k1336 H sI hl (by omega) (f.on Y2)).mono ?_)
 rintro u g3 ⟨X3,rfl⟩
 have Y3:=Y2.trans X3
 refine WOL.al tp1359 fun h4 N4=>WOL.sto (vs:=[zi _,zi _,zi _]) rfl rfl tp1359 N4.at_ rfl rfl (Nat.le_of_ble_eq_true rfl) rfl ((f.on Y3).hx N4.hx) (Nat.le_refl _) fun g5 P5=>WOL.nil<|keep [(5,_),(6,_)] ⟨rfl,rfl,trivial⟩ ?_
 have X5:=P5.hx _ N4.hx (Nat.le_refl _)
 have Y5:=Y3.trans X5
 have A6:At g5 g3.next (.cells [zi (fitA L),zi (fitB L),zi (fitC L)] true true 165):=P5.at_
 have sI5:=sI.hx (X3.trans X5)
 obtain ⟨b1,b2⟩:=fit_lim hl (by omega)
 have bA:(fitA L).natAbs≤10000000000:=by
  unfold fitA
  have m1:=mulb (w:=4*(L.length:Int) - 2) (x:=L.sum) (a:=94) (b:=393216) (by omega) b1
  have m2:=mulb (w:=(4*(L.length:Int) - 2)*L.sum - 6*wsm L L.length) (x:=(L.length:Int) - 1) (a:=93585408) (b:=24) (by omega) (by omega)
  omega
 have bB:(fitB L).natAbs≤1000000000:=by
  unfold fitB
  have m3:=mulb (w:=6*((L.length:Int) - 1)) (x:=L.sum) (a:=138) (b:=393216) (by omega) b1
  omega
 obtain ⟨n,hn⟩:∃ n:Nat,fitC L=n:=⟨(fitC L).toNat,by
  have:0≤fitC L:=by unfold fitC;exact Int.mul_nonneg (Int.mul_nonneg (by omega) (by omega)) (by omega)
  omega⟩
 have bC:1≤n∧n≤100000:=by
  have q2:0 < fitC L:=by unfold fitC;exact Int.mul_pos (Int.mul_pos (by omega) (by omega)) (by omega)
  have m4:=mulb (w:=(L.length:Int)) (x:=(L.length:Int) - 1) (a:=24) (b:=24) (by omega) (by omega)
  have m5:=mulb (w:=(L.length:Int)*((L.length:Int) - 1)) (x:=(L.length:Int)+1) (a:=576) (b:=25) m4 (by omega)
  have:(fitC L).natAbs≤14400:=m5
  omega
 rw [hn] at A6
 obtain ⟨ge,Ag⟩:=(Gl.hx Y5).flatL
 refine WL.seq<|WL.sr<|WOL.ld rfl (load_row tp1359 A6 rfl (Nat.le_of_ble_eq_true rfl))<|WOL.ld (v:=.agg #[zi 0,zi 1,zi 0,zi 1]) rfl (load_row tp1302 Ag (l:=[zi 0,zi 1,zi 0,zi 1]) rfl (Nat.le_of_ble_eq_true rfl))<|WOL.lv1 [some 0] rfl rfl rfl fun ml hl'=>((k1337 (h:=TH.withLock _ ml) (n:=n) H (by omega) (by omega) bC.1 (by omega) ((f.on Y5).heldO hl' (fun b hb=>by simp at hb;have:=Ag.lt;omega))).mono ?_)
 rintro u g7 ⟨rfl,X7⟩
 replace X7:=X7.relock
 generalize g7.withLock g5.lock=g7 at *
 have Y7:=Y5.trans X7
 have sI7:=sI5.hx X7
 have A7:=A6.hx X7
 refine WOL.eq1302 rfl rfl<|WOL.nil<|keep [(5,_),(6,_),(19,_)] ⟨rfl,rfl,rfl,trivial⟩ ?_
 by_cases hq:rtN (fitA L) n=0∧rtD (fitA L) n=1∧rtN (fitB L) n=0∧rtD (fitB L) n=1
 ·obtain ⟨p1,p2,p3,p4⟩:=hq
  have eL:trdL L=L:=trd_flat (rt_zero bC.1 (by omega) p1) (rt_zero bC.1 (by omega) p3) (by omega)
  rw [p1,p2,p3,p4,eL]
  refine WL.yes rfl<|WL.sr<|WOL.mv rfl<|WOL.cl1 rfl rfl ((k1311 H sI7 (by omega) (f.on Y7)).mono ?_)
  rintro u g8 ⟨X8,R⟩
  have y7:=Y7.next
  have R:=R.low (n0:=h.next) (by omega)
  obtain ⟨b,m',k,F',rfl,r1,r2,r3⟩:=R
  exact WOL.ex rfl rfl<|WOL.ex rfl rfl<|WOL.as rfl<|WOL.as rfl<|WOL.nil<|WL.ret (WL.end_ rfl ⟨Y7.trans X8,b,m',k,F',rfl,r1,r2,r3⟩)
 ·have ef:cond (cond (rtN (fitA L) n == 0) (rtD (fitA L) n == 1) false) (cond (rtN (fitB L) n == 0) (rtD (fitB L) n == 1) false) false=false:=by
   cases h1:(rtN (fitA L) n == 0) <;> cases h2:(rtD (fitA L) n == 1) <;> cases h3:(rtN (fitB L) n == 0) <;> cases h4:(rtD (fitB L) n == 1) <;> simp_all
  rw [ef]
  refine WL.no rfl<|WL.skip<|keep [(5,_),(6,_)] ⟨rfl,rfl,trivial⟩ ?_
  refine WL.sr<|WOL.ld rfl (load_row tp1359 A7 rfl (Nat.le_of_ble_eq_true rfl))<|WOL.mv rfl<|WOL.cl2 rfl rfl rfl ((k1338 H sI7 hl (by omega) bA bB ⟨by omega,by omega⟩ (f.on Y7)).mono ?_)
  rintro u g8 ⟨X8,e,rfl,he,Ae⟩
  have Y8:=Y7.trans X8
  rw [← hn] at Ae
  refine WOL.cl1 rfl rfl ((k1311 H (SlL.own eI Ae lin_len) (by rw [lin_len];omega) (f.on Y8)).mono ?_)
  rintro u g9 ⟨X9,R⟩
  have y8:=Y8.next
  have R:=R.low (n0:=h.next) (by omega)
  obtain ⟨b,m',k,F',rfl,r1,r2,r3⟩:=R
  exact WOL.ex rfl rfl<|WOL.ex rfl rfl<|WOL.as rfl<|WOL.as rfl<|WOL.nil<|WL.ret (WL.end_ rfl ⟨Y8.trans X9,b,m',k,F',rfl,r1,r2,r3⟩)
end
end Go.Tidy
namespace Go.Tidy
open Go Go.Proofs Tab
theorem rnd_err {x c:Int} (hc:0 < c):-c < 2*c*rnd x c - 2*x∧2*c*rnd x c - 2*x≤c:=by
 unfold rnd
 have h1:=Int.mul_ediv_self_le (x:=2*x+c) (k:=2*c) (by omega)
 have h2:=Int.lt_mul_ediv_self_add (x:=2*x+c) (k:=2*c) (by omega)
 generalize 2*c*((2*x+c) / (2*c))=q at *
 omega
theorem rnd_0 {c:Int} (hc:0 < c):rnd 0 c=0:=by
 have h:=rnd_err (x:=0) hc
 by_cases h1:1≤rnd 0 c
 ·have:=Int.mul_le_mul_of_nonneg_left h1 (show 0≤2*c by omega);omega
 ·by_cases h2:rnd 0 c≤-1
  ·have:=Int.mul_le_mul_of_nonneg_left h2 (show 0≤2*c by omega);omega
  ·omega
theorem lt_of_mul2 {c d k:Int} (hc:0 < c) (h:c*d < c*k):d < k:=Int.lt_of_mul_lt_mul_left h (by omega)
theorem lin_dd {a b c:Int} {L:List Int} {k:Nat} (hc:0 < c) :
  (linF a b c L k - 2*linF a b c L (k+1)+linF a b c L (k+2) - (L.getD k 0 - 2*L.getD (k+1) 0+L.getD (k+2) 0)).natAbs≤2:=by
 unfold linF
 have h0:=rnd_err (x:=L.getD k 0*c - a - b*(k:Int)) hc
 have h1:=rnd_err (x:=L.getD (k+1) 0*c - a - b*((k+1:Nat):Int)) hc
 have h2:=rnd_err (x:=L.getD (k+2) 0*c - a - b*((k+2:Nat):Int)) hc
 generalize rnd (L.getD k 0*c - a - b*(k:Int)) c=r0 at *
 generalize rnd (L.getD (k+1) 0*c - a - b*((k+1:Nat):Int)) c=r1 at *
 generalize rnd (L.getD (k+2) 0*c - a - b*((k+2:Nat):Int)) c=r2 at *
 generalize L.getD k 0=x0 at *
 generalize L.getD (k+1) 0=x1 at *
 generalize L.getD (k+2) 0=x2 at *
 have e:2*c*(r0 - 2*r1+r2 - (x0 - 2*x1+x2))=(2*c*r0 - 2*(x0*c - a - b*(k:Int))) - 2*(2*c*r1 - 2*(x1*c - a - b*((k+1:Nat):Int)))+(2*c*r2 - 2*(x2*c - a - b*((k+2:Nat):Int))):=by
  rw [Int.natCast_add,Int.natCast_add];grind
 generalize r0 - 2*r1+r2 - (x0 - 2*x1+x2)=d at *
 have q1:=lt_of_mul2 (c:=2*c) (d:=d) (k:=3) (by omega) (by omega)
 have q2:=lt_of_mul2 (c:=2*c) (d:=-3) (k:=d) (by omega) (by omega)
 omega
def smF (f:Nat→Int):Nat→Int
 | 0=>0
 | j+1=>smF f j+f j
theorem sm_lim {f g:Nat→Int}:∀ {n:Nat},(∀ i,i < n→-g i≤f i∧f i≤g i)→-smF g n≤smF f n∧smF f n≤smF g n
 | 0,_=>by show -(0:Int)≤0∧(0:Int)≤0;omega
 | n+1,h=>by
  have ih:=sm_lim (n:=n) fun i hi=>h i (by omega)
  have:=h n (by omega)
  show -(smF g n+g n)≤smF f n+f n∧smF f n+f n≤smF g n+g n
  omega
theorem sm_const {c:Int}:∀ n:Nat,smF (fun _=>c) n=c*(n:Int)
 | 0=>by show (0:Int)=c*0;simp
 | n+1=>by
  show smF (fun _=>c) n+c=_
  rw [sm_const n,Int.natCast_add];grind
theorem sm_mul {c:Int} {f:Nat→Int}:∀ n:Nat,smF (fun i=>c*f i) n=c*smF f n
 | 0=>by show (0:Int)=c*0;simp
 | n+1=>by
  show smF (fun i=>c*f i) n+c*f n=c*(smF f n+f n)
  rw [sm_mul n];grind
theorem sm_add {f g:Nat→Int}:∀ n:Nat,smF (fun i=>f i+g i) n=smF f n+smF g n
 | 0=>rfl
 | n+1=>by
  show smF (fun i=>f i+g i) n+(f n+g n)=smF f n+f n+(smF g n+g n)
  rw [sm_add n];omega
theorem sm_left {a b c:Int} {L:List Int}:∀ n:Nat,2*smF (fun i=>L.getD i 0*c - a - b*(i:Int)) n=2*(smF (fun i=>L.getD i 0) n*c) - 2*(a*(n:Int)) - b*((n:Int)*((n:Int) - 1))
 | 0=>by show 2*(0:Int)=2*(0*c) - 2*(a*((0:Nat):Int)) - b*(((0:Nat):Int)*_);simp
 | n+1=>by
  have ih:=sm_left (a:=a) (b:=b) (c:=c) (L:=L) n
  show 2*(smF (fun i=>L.getD i 0*c - a - b*(i:Int)) n+(L.getD n 0*c - a - b*(n:Int)))=2*((smF (fun i=>L.getD i 0) n+L.getD n 0)*c) - _ - _
  rw [Int.mul_add,ih,Int.natCast_add];grind
theorem sm_leftw {a b c:Int} {L:List Int}:∀ n:Nat,6*smF (fun i=>(i:Int)*(L.getD i 0*c - a - b*(i:Int))) n=6*(wsm L n*c) - 3*(a*((n:Int)*((n:Int) - 1))) - b*((n:Int)*((n:Int) - 1)*(2*(n:Int) - 1))
 | 0=>by show 6*(0:Int)=6*(0*c) - 3*(a*(((0:Nat):Int)*_)) - b*(((0:Nat):Int)*_*_);simp
 | n+1=>by
  have ih:=sm_leftw (a:=a) (b:=b) (c:=c) (L:=L) n
  show 6*(smF (fun i=>(i:Int)*(L.getD i 0*c - a - b*(i:Int))) n+(n:Int)*(L.getD n 0*c - a - b*(n:Int)))=6*((wsm L n+(n:Int)*L.getD n 0)*c) - _ - _
  rw [Int.mul_add,ih,Int.natCast_add];grind
theorem sm_fit0 {S M n:Int} {x:Int} (e:2*x=2*(S*(n*(n - 1)*(n+1))) - 2*(((4*n - 2)*S - 6*M)*(n - 1)*n) - (12*M - 6*(n - 1)*S)*(n*(n - 1))):x=0:=by
 have:2*x=0:=by rw [e];grind
 omega
theorem sm_fit1 {S M n:Int} {x:Int} (e:6*x=6*(M*(n*(n - 1)*(n+1))) - 3*(((4*n - 2)*S - 6*M)*(n - 1)*(n*(n - 1))) - (12*M - 6*(n - 1)*S)*(n*(n - 1)*(2*n - 1))):x=0:=by
 have:6*x=0:=by rw [e];grind
 omega
theorem sm_rnd {c:Int} {w x:Nat→Int} {n:Nat} (hc:0 < c) (h0:smF (fun i=>w i*x i) n=0):(2*smF (fun i=>w i*rnd (x i) c) n).natAbs≤(smF (fun i=>max (w i) (-w i)) n).natAbs:=by
 have k:=sm_lim (f:=fun i=>w i*(2*c*rnd (x i) c - 2*x i)) (g:=fun i=>c*max (w i) (-w i)) (n:=n) fun i _=>by
  have e:=rnd_err (x:=x i) hc
  generalize 2*c*rnd (x i) c - 2*x i=d at *
  show -(c*max (w i) (-w i))≤w i*d∧w i*d≤c*max (w i) (-w i)
  rcases Int.le_total 0 (w i) with p | p
  ·rw [Int.max_eq_left (by omega)]
   have h1:=Int.mul_le_mul_of_nonneg_left (show d≤c by omega) p
   have h2:=Int.mul_le_mul_of_nonneg_left (show -c≤d by omega) p
   rw [Int.mul_neg] at h2
   rw [Int.mul_comm c];omega
  ·rw [Int.max_eq_right (by omega)]
   have h1:=Int.mul_le_mul_of_nonneg_left (show d≤c by omega) (show 0≤-w i by omega)
   have h2:=Int.mul_le_mul_of_nonneg_left (show -c≤d by omega) (show 0≤-w i by omega)
   rw [Int.neg_mul,Int.neg_mul] at h1
   rw [Int.neg_mul,Int.mul_neg,Int.neg_neg,Int.neg_mul] at h2
   rw [Int.mul_neg,Int.mul_comm c];omega
 have e1:smF (fun i=>w i*(2*c*rnd (x i) c - 2*x i)) n=2*c*smF (fun i=>w i*rnd (x i) c) n:=by
  have:=sm_add (f:=fun i=>2*c*(w i*rnd (x i) c)) (g:=fun i=>-2*(w i*x i)) n
  rw [sm_mul,sm_mul,h0] at this
  rw [show (fun i=>w i*(2*c*rnd (x i) c - 2*x i))=fun i=>2*c*(w i*rnd (x i) c)+-2*(w i*x i) from funext fun i=>by grind,this];omega
 rw [e1,sm_mul,show 2*c*smF (fun i=>w i*rnd (x i) c) n=c*(2*smF (fun i=>w i*rnd (x i) c) n) by grind] at k
 generalize 2*smF (fun i=>w i*rnd (x i) c) n=y at *
 generalize smF (fun i=>max (w i) (-w i)) n=z at *
 have q1:y≤z:=Int.le_of_mul_le_mul_left k.2 hc
 have q2:-z≤y:=Int.le_of_mul_le_mul_left (by rw [Int.mul_neg];exact k.1) hc
 omega
end Go.Tidy
namespace Go.Tidy
open Go Go.Proofs Tab
variable {tp:TProg}
theorem sm_congr {f g:Nat→Int}:∀ {n:Nat},(∀ i,i < n→f i=g i)→smF f n=smF g n
 | 0,_=>rfl
 | n+1,h=>by
  show smF f n+f n=smF g n+g n
  rw [sm_congr fun i hi=>h i (by omega),h n (by omega)]
theorem sm_take {L:List Int}:∀ n,n≤L.length→smF (fun i=>L.getD i 0) n=(L.take n).sum
 | 0,_=>by rw [List.take_zero];rfl
 | n+1,h=>by
  show smF _ n+L.getD n 0=_
  rw [sm_take n (by omega),sum_take (l:=L) (j:=n) (by omega)]
theorem sm_bd {f:Nat→Int} {B:Nat}:∀ {n:Nat},(∀ i,i < n→(f i).natAbs≤B)→(smF f n).natAbs≤B*n
 | 0,_=>by show (0:Int).natAbs≤_;simp
 | n+1,h=>by
  have ih:=sm_bd (n:=n) fun i hi=>h i (by omega)
  have:=h n (by omega)
  show (smF f n+f n).natAbs≤B*(n+1)
  rw [Nat.mul_succ];omega
theorem trd_sums {L:List Int} (h2:2≤L.length):(2*smF (fun i=>(trdL L).getD i 0) L.length).natAbs≤L.length∧(2*smF (fun i=>(2*(i:Int) - (L.length:Int)+1)*(trdL L).getD i 0) L.length).natAbs≤(smF (fun i=>max (2*(i:Int) - (L.length:Int)+1) (-(2*(i:Int) - (L.length:Int)+1))) L.length).natAbs:=by
 have hc:0 < fitC L:=by unfold fitC;exact Int.mul_pos (Int.mul_pos (by omega) (by omega)) (by omega)
 have g:∀ i,i < L.length→(trdL L).getD i 0=rnd (L.getD i 0*fitC L - fitA L - fitB L*(i:Int)) (fitC L):=fun i hi=>by unfold trdL;rw [lin_get hi];rfl
 have z0:smF (fun i=>L.getD i 0*fitC L - fitA L - fitB L*(i:Int)) L.length=0:=by
  refine sm_fit0 (S:=L.sum) (M:=wsm L L.length) (n:=(L.length:Int)) ?_
  rw [sm_left,sm_take _ (Nat.le_refl _),List.take_of_length_le (Nat.le_refl _)]
  rfl
 have z1:smF (fun i=>(i:Int)*(L.getD i 0*fitC L - fitA L - fitB L*(i:Int))) L.length=0:=by
  refine sm_fit1 (S:=L.sum) (M:=wsm L L.length) (n:=(L.length:Int)) ?_
  rw [sm_leftw]
  rfl
 have zw:smF (fun i=>(2*(i:Int) - (L.length:Int)+1)*(L.getD i 0*fitC L - fitA L - fitB L*(i:Int))) L.length=0:=by
  rw [show (fun i:Nat=>(2*(i:Int) - (L.length:Int)+1)*(L.getD i 0*fitC L - fitA L - fitB L*(i:Int)))=fun i:Nat=>2*((i:Int)*(L.getD i 0*fitC L - fitA L - fitB L*(i:Int)))+(1 - (L.length:Int))*(L.getD i 0*fitC L - fitA L - fitB L*(i:Int)) from funext fun i=>by grind]
  rw [sm_add,sm_mul,sm_mul,z0,z1];simp
 have q0:=sm_rnd (w:=fun _=>1) (x:=fun i=>L.getD i 0*fitC L - fitA L - fitB L*(i:Int)) (n:=L.length) hc ((sm_congr fun i _=>Int.one_mul _).trans z0)
 have q1:=sm_rnd (w:=fun i=>2*(i:Int) - (L.length:Int)+1) (x:=fun i=>L.getD i 0*fitC L - fitA L - fitB L*(i:Int)) (n:=L.length) hc zw
 have c1:smF (fun _=>max (1:Int) (-1)) L.length=(L.length:Int):=by rw [sm_const];show 1*_=_;omega
 rw [c1] at q0
 rw [sm_congr (f:=fun i=>(trdL L).getD i 0) (g:=fun i=>1*rnd (L.getD i 0*fitC L - fitA L - fitB L*(i:Int)) (fitC L)) fun i hi=>by rw [g i hi];exact (Int.one_mul _).symm]
 rw [sm_congr (f:=fun i=>(2*(i:Int) - (L.length:Int)+1)*(trdL L).getD i 0) (g:=fun i=>(2*(i:Int) - (L.length:Int)+1)*rnd (L.getD i 0*fitC L - fitA L - fitB L*(i:Int)) (fitC L)) fun i hi=>by rw [g i hi]]
 exact ⟨by rw [Int.natAbs_natCast] at q0;exact q0,q1⟩
theorem RF.at {h:TH} {v:Value} {L:List Int} (r:RF h v L) {i:Int} (h0:0≤i) (h1:i < L.length):∃ p b,indexAddrT Tryz.prog 25 v (.int .i64 i)=some p∧loadT Tryz.prog 76 p h=some (.float .f32 b)∧Samp b (L.getD i.toNat 0):=by
 obtain ⟨F,s,lv⟩:=r
 have ll:=lv.1
 obtain ⟨j,rfl⟩:∃ j:Nat,i=j:=⟨i.toNat,by omega⟩
 have hj:j < F.length:=by omega
 have e:=List.getElem?_eq_getElem hj
 obtain ⟨_,_,cc,fx,wr,el,c1,c2,c3,c4,c5⟩:=s.at eF u43 tp25 e .i64
 have gx:=c5 0 (by decide)
 rw [Nat.add_zero] at gx
 exact ⟨_,_,c1,load_one tp25 c2 gx,lv.2 j _ _ e (at_getD (by omega))⟩
theorem RF.ln {h:TH} {v:Value} {L:List Int} (r:RF h v L):SlC h v 1 L.length (cat encF r.choose):=by
 have q:=r.choose_spec
 rw [← q.2.1];exact q.1
theorem eighth_x:Sx 1040187392 2:=by
 have h:=(smp_ok (n:=2) (by decide)).2.2.x
 have e:smp 2=1040187392:=by kernel_rfl
 rwa [e] at h
theorem eighthm_x:Sx 3187671040 (-2):=by
 have h:=(smp_ok (n:=-2) (by decide)).2.2.x
 have e:smp (-2)=3187671040:=by kernel_rfl
 rwa [e] at h
section
variable {h:TH} {v w v28 v30 v32:Value} {F G:List Nat} {es L M D B:List Int}
@[irreducible] def cd1252h:TCode:=.seq (.reg r1252_53) .ret
@[irreducible] def cd1252g:TCode:=.seq (.reg r1252_46) (.seq (.seq (.reg r1252_47) (.block 8 (.loop (.seq (.reg r1252_48) (.seq (.cond (.tmp 395) .skip (.exit 8)) (.seq (.block 9 (.seq (.reg r1252_49) (.seq (.reg r1252_50) (.reg r1252_51)))) (.reg r1252_52))))))) cd1252h)
@[irreducible] def cd1252f:TCode:=.seq (.seq (.reg r1252_39) (.block 6 (.loop (.seq (.reg r1252_40) (.seq (.cond (.tmp 361) .skip (.exit 6)) (.seq (.block 7 (.seq (.reg r1252_41) (.seq (.reg r1252_42) (.seq (.reg r1252_43) (.cond (.tmp 390) (.seq (.reg r1252_44) .ret) .skip))))) (.reg r1252_45))))))) cd1252g
@[irreducible] def cd1252e:TCode:=.seq (.reg r1252_34) (.seq (.reg r1252_35) (.seq (.reg r1252_36) (.seq (.seq (.reg r1252_37) (.cond (.tmp 357) (.seq (.reg r1252_38) .ret) .skip)) cd1252f)))
@[irreducible] def cd1252d:TCode:=.seq (.seq (.reg r1252_28) (.block 4 (.loop (.seq (.reg r1252_29) (.seq (.cond (.tmp 246) .skip (.exit 4)) (.seq (.block 5 (.seq (.reg r1252_30) (.seq (.reg r1252_31) (.cond (.tmp 285) (.seq (.reg r1252_32) .ret) .skip)))) (.reg r1252_33))))))) cd1252e
@[irreducible] def cd1252c:TCode:=.seq (.reg r1252_15) (.seq (.reg r1252_16) (.seq (.reg r1252_17) (.seq (.seq (.reg r1252_18) (.block 2 (.loop (.seq (.reg r1252_19) (.seq (.cond (.tmp 174) .skip (.exit 2)) (.seq (.block 3 (.seq (.reg r1252_20) (.seq (.reg r1252_21) (.reg r1252_22)))) (.reg r1252_23))))))) (.seq (.reg r1252_24) (.seq (.reg r1252_25) (.seq (.seq (.reg r1252_26) (.cond (.tmp 242) (.seq (.reg r1252_27) .ret) .skip)) cd1252d))))))
@[irreducible] def cd1252b:TCode:=.seq (.seq (.reg r1252_9) (.block 0 (.loop (.seq (.reg r1252_10) (.seq (.cond (.tmp 132) .skip (.exit 0)) (.seq (.block 1 (.seq (.reg r1252_11) (.seq (.reg r1252_12) (.cond (.tmp 148) (.seq (.reg r1252_13) .ret) .skip)))) (.reg r1252_14))))))) cd1252c
@[irreducible] def cd1252a:TCode:=.seq (.reg r1252_3) (.seq (.reg r1252_4) (.seq (.reg r1252_5) (.seq (.reg r1252_6) (.seq (.seq (.reg r1252_7) (.cond (.tmp 128) (.seq (.reg r1252_8) .ret) .skip)) cd1252b))))
set_option maxHeartbeats 4000000 in
set_option maxRecDepth 100000 in
theorem k1252g (H:Has tp) (K:Awk tp) (r:RF h v32 (trdL L)) (h2:2≤L.length) (h24:L.length≤24) :
  ∀ r,Kn [(32,v32)] r→W Tryz.prog tp false cd1252g r h (Fin Tryz.prog [.tmp 6] fun v _=>v=.bool true):=by
 unfold cd1252g
 obtain ⟨q1,q2⟩:=trd_sums h2
 have ln:=r.ln
 have lD:(trdL L).length=L.length:=trd_len
 have lim:∀ j,((trdL L).getD j 0).natAbs≤16384:=by obtain ⟨_,_,l⟩:=id r;exact lev_getD l
 generalize trdL L=D at *
 rw [← lD] at q1 q2
 refine WL.sr<|WOL.as rfl<|WOL.as rfl<|WOL.as rfl<|WOL.nil ?_
 refine WL.seq<|WL.sr<|WOL.mv rfl<|WOL.len rfl ln u43<|WOL.mv rfl<|WOL.nil<|keep [(32,_),(36,_),(37,_),(38,_),(392,_),(393,_),(394,_)] ⟨rfl,rfl,rfl,rfl,rfl,rfl,rfl,trivial⟩ ?_
 refine WL.upto (α:=Unit) D.length (fun _ _ g=>g=h) (fun j _=>[(32,v32),(36,zi (smF (fun i=>D.getD i 0) j)),(37,zi (smF (fun i=>(2*(i:Int) - (D.length:Int)+1)*D.getD i 0) j)),(38,zi (smF (fun i=>max (2*(i:Int) - (D.length:Int)+1) (-(2*(i:Int) - (D.length:Int)+1))) j)),(392,v32),(393,zi (D.length:Nat))]) () rfl rfl (by omega) rfl ⟨rfl,rfl,rfl,rfl,rfl,rfl,rfl,trivial⟩ (fun _ _=>rfl) (fun _ _ _=>⟨rfl,rfl,rfl,rfl,rfl,rfl,rfl,trivial⟩) (fun _ _ _=>⟨rfl,rfl,rfl,rfl,rfl,rfl,rfl,trivial⟩) ?_ ?_
 ·rintro j _ g hj rfl
  obtain ⟨p,b,a1,a2,sb⟩:=r.at (i:=(j:Nat)) (by omega) (by omega)
  rw [Int.toNat_natCast] at sb
  have b0:=lim j
  have b1:=sm_bd (f:=fun i=>D.getD i 0) (B:=16384) (n:=j) fun i _=>lim i
  have m0:=mulb (w:=2*(j:Int) - (D.length:Int)+1) (x:=D.getD j 0) (a:=49) (b:=16384) (by omega) b0
  have b2:=sm_bd (f:=fun i=>(2*(i:Int) - (D.length:Int)+1)*D.getD i 0) (B:=49*16384) (n:=j) fun i hi=>mulb (by omega) (lim i)
  have b3:=sm_bd (f:=fun i=>max (2*(i:Int) - (D.length:Int)+1) (-(2*(i:Int) - (D.length:Int)+1))) (B:=49) (n:=j) fun i hi=>by omega
  generalize e1:smF (fun i=>D.getD i 0) j=s1 at *
  generalize e2:smF (fun i=>(2*(i:Int) - (D.length:Int)+1)*D.getD i 0) j=s2 at *
  generalize e3:smF (fun i=>max (2*(i:Int) - (D.length:Int)+1) (-(2*(i:Int) - (D.length:Int)+1))) j=s3 at *
  repeat' (first
  | refine WOL.ix rfl rfl a1 ?_
  | refine WOL.ld rfl a2 ?_
  | (refine WOL.cl1 rfl rfl ((k95 H sb _).mono ?_);rintro _ g ⟨rfl,rfl⟩)
  | refine WOL.neg rfl (by omega) (by omega) ?_
  | refine WOL.imax rfl rfl ?_
  | refine WOL.len rfl ln u43 ?_
  | refine WL.sr ?_
  | refine WL.seq ?_
  | refine WL.reg ?_
  | refine WOL.nil ?_
  | refine WL.skip ?_
  | refine WOL.now (b:=true) rfl rfl ?_
  | refine WOL.now (b:=false) rfl rfl ?_
  | refine WOL.skp (b:=true) rfl rfl ?_
  | refine WOL.skp (b:=false) rfl rfl ?_
  | refine WOL.gu rfl rfl ?_
  | refine WOL.mv rfl ?_
  | refine WOL.as rfl ?_
  | refine WOL.ex rfl rfl ?_
  | refine WOL.nt rfl ?_
  | refine WOL.pkt rfl rfl ?_
  | refine WOL.pkf rfl rfl ?_
  | refine WL.yes rfl ?_
  | refine WL.no rfl ?_
  | refine WOL.ld rfl (load_one (by first | exact tp25 | exact tp3) (by first | with_reducible assumption | assumption) (by rfl)) ?_
  | refine WOL.ld rfl (load_row (by first | exact tp25 | exact tp3) (by first | with_reducible assumption | assumption) rfl (Nat.le_of_ble_eq_true rfl)) ?_
  | refine WOL.len rfl (by first | with_reducible assumption | assumption) (by first | exact u43 | exact u29) ?_
  | refine WOL.add rfl rfl (by omega) (by omega) ?_
  | refine WOL.sub rfl rfl (by omega) (by omega) ?_
  | refine WOL.mul rfl rfl (by omega) (by omega) ?_
  | refine WOL.bt rfl rfl rfl (by first | exact decide_eq_true (by omega) | exact beq_iff_eq.2 (by omega) | exact bne_iff_ne.2 (by omega)) ?_
  | refine WOL.bf rfl rfl rfl (by first | exact decide_eq_false (by omega) | exact beq_eq_false_iff_ne.2 (by omega) | exact bne_eq_false_iff_eq.2 (by omega)) ?_)
  subst e1 e2 e3
  exact fun y k=>⟨(),rfl,k.sub ⟨rfl,rfl,rfl,rfl,rfl,rfl,rfl,trivial⟩⟩
 ·rintro _ g rfl
  unfold cd1252h
  have b1:=sm_bd (f:=fun i=>D.getD i 0) (B:=16384) (n:=D.length) fun i _=>lim i
  have b2:=sm_bd (f:=fun i=>(2*(i:Int) - (D.length:Int)+1)*D.getD i 0) (B:=49*16384) (n:=D.length) fun i hi=>mulb (by omega) (lim i)
  have b3:=sm_lim (f:=fun _=>0) (g:=fun i=>max (2*(i:Int) - (D.length:Int)+1) (-(2*(i:Int) - (D.length:Int)+1))) (n:=D.length) fun i hi=>by omega
  have b4:=sm_bd (f:=fun i=>max (2*(i:Int) - (D.length:Int)+1) (-(2*(i:Int) - (D.length:Int)+1))) (B:=49) (n:=D.length) fun i hi=>by omega
  generalize smF (fun i=>D.getD i 0) D.length=s1 at *
  generalize smF (fun i=>(2*(i:Int) - (D.length:Int)+1)*D.getD i 0) D.length=s2 at *
  generalize smF (fun i=>max (2*(i:Int) - (D.length:Int)+1) (-(2*(i:Int) - (D.length:Int)+1))) D.length=s3 at *
  have p1:2*max s1 (-s1)≤(D.length:Int):=by omega
  have p2:2*max s2 (-s2)≤s3:=by omega
  repeat' (first
  | refine WOL.neg rfl (by omega) (by omega) ?_
  | refine WOL.imax rfl rfl ?_
  | refine WOL.len rfl ln u43 ?_
  | refine WOL.bt rfl rfl rfl (decide_eq_true p1) ?_
  | refine WOL.bt rfl rfl rfl (decide_eq_true p2) ?_
  | (refine WOL.cl0 rfl ((k11t K _).mono ?_);rintro u g ⟨rfl,rfl⟩)
  | refine WL.sr ?_
  | refine WL.seq ?_
  | refine WL.reg ?_
  | refine WOL.nil ?_
  | refine WL.skip ?_
  | refine WOL.now (b:=true) rfl rfl ?_
  | refine WOL.now (b:=false) rfl rfl ?_
  | refine WOL.skp (b:=true) rfl rfl ?_
  | refine WOL.skp (b:=false) rfl rfl ?_
  | refine WOL.gu rfl rfl ?_
  | refine WOL.mv rfl ?_
  | refine WOL.as rfl ?_
  | refine WOL.ex rfl rfl ?_
  | refine WOL.nt rfl ?_
  | refine WOL.pkt rfl rfl ?_
  | refine WOL.pkf rfl rfl ?_
  | refine WL.yes rfl ?_
  | refine WL.no rfl ?_
  | refine WOL.ld rfl (load_one (by first | exact tp25 | exact tp3) (by first | with_reducible assumption | assumption) (by rfl)) ?_
  | refine WOL.ld rfl (load_row (by first | exact tp25 | exact tp3) (by first | with_reducible assumption | assumption) rfl (Nat.le_of_ble_eq_true rfl)) ?_
  | refine WOL.len rfl (by first | with_reducible assumption | assumption) (by first | exact u43 | exact u29) ?_
  | refine WOL.add rfl rfl (by omega) (by omega) ?_
  | refine WOL.sub rfl rfl (by omega) (by omega) ?_
  | refine WOL.mul rfl rfl (by omega) (by omega) ?_
  | refine WOL.bt rfl rfl rfl (by first | exact decide_eq_true (by omega) | exact beq_iff_eq.2 (by omega) | exact bne_iff_ne.2 (by omega)) ?_
  | refine WOL.bf rfl rfl rfl (by first | exact decide_eq_false (by omega) | exact beq_eq_false_iff_ne.2 (by omega) | exact bne_eq_false_iff_eq.2 (by omega)) ?_)
  exact WL.ret (WL.end_ rfl rfl)
set_option maxHeartbeats 4000000 in
set_option maxRecDepth 100000 in
theorem k1252f (H:Has tp) (K:Awk tp) (r28:RF h v28 (twsL L)) (r30:RF h v30 (benL L)) (r32:RF h v32 (trdL L)) (h2:2≤L.length) (h24:L.length≤24) :
  ∀ r,Kn [(28,v28),(30,v30),(32,v32)] r→W Tryz.prog tp false cd1252f r h (Fin Tryz.prog [.tmp 6] fun v _=>v=.bool true):=by
 unfold cd1252f
 have ln:=r30.ln
 have lB:(benL L).length=L.length - 2:=ben_len
 have lT:(twsL L).length=L.length:=by unfold twsL;exact lin_len
 have lm1:∀ j,((twsL L).getD j 0).natAbs≤16384:=by obtain ⟨_,_,l⟩:=id r28;exact lev_getD l
 have lm2:∀ j,((benL L).getD j 0).natAbs≤16384:=by obtain ⟨_,_,l⟩:=id r30;exact lev_getD l
 have dd:∀ j,j < L.length - 2→((twsL L).getD j 0 - 2*(twsL L).getD (j+1) 0+(twsL L).getD (j+2) 0 - (benL L).getD j 0).natAbs≤2:=fun j hj=>by
  unfold twsL
  rw [lin_get (by omega),lin_get (by omega),lin_get (by omega),ben_get hj]
  exact lin_dd (by omega)
 generalize benL L=B at *
 generalize twsL L=T at *
 refine WL.seq<|WL.sr<|WOL.mv rfl<|WOL.len rfl ln u43<|WOL.mv rfl<|WOL.nil<|keep [(28,_),(30,_),(32,_),(358,_),(359,_),(360,_)] ⟨rfl,rfl,rfl,rfl,rfl,rfl,trivial⟩ ?_
 refine WL.upto (α:=Unit) B.length (fun _ _ g=>g=h) (fun j _=>[(28,v28),(30,v30),(32,v32),(358,v30),(359,zi (B.length:Nat))]) () rfl rfl (by omega) rfl ⟨rfl,rfl,rfl,rfl,rfl,rfl,trivial⟩ (fun _ _=>rfl) (fun _ _ _=>⟨rfl,rfl,rfl,rfl,rfl,rfl,trivial⟩) (fun _ _ _=>⟨rfl,rfl,rfl,rfl,rfl,rfl,trivial⟩) ?_ ?_
 ·rintro j _ g hj rfl
  obtain ⟨p1,c1,a1,l1,s1⟩:=r28.at (i:=(j:Nat)) (by omega) (by omega)
  obtain ⟨p2,c2,a2,l2,s2⟩:=r28.at (i:=(j:Int)+1) (by omega) (by omega)
  obtain ⟨p3,c3,a3,l3,s3⟩:=r28.at (i:=(j:Int)+2) (by omega) (by omega)
  obtain ⟨p4,c4,a4,l4,s4⟩:=r30.at (i:=(j:Nat)) (by omega) (by omega)
  rw [Int.toNat_natCast] at s1 s4
  rw [show ((j:Int)+1).toNat=j+1 by omega] at s2
  rw [show ((j:Int)+2).toNat=j+2 by omega] at s3
  have q:=dd j (by omega)
  have b1:=lm1 j
  have b2:=lm1 (j+1)
  have b3:=lm1 (j+2)
  have b4:=lm2 j
  repeat' (first
  | refine WOL.ix rfl rfl a1 ?_
  | refine WOL.ix rfl rfl a2 ?_
  | refine WOL.ix rfl rfl a3 ?_
  | refine WOL.ix rfl rfl a4 ?_
  | refine WOL.ld rfl l1 ?_
  | refine WOL.ld rfl l2 ?_
  | refine WOL.ld rfl l3 ?_
  | refine WOL.ld rfl l4 ?_
  | (refine WOL.ftwo s2 rfl rfl ?_;intro q1 t1)
  | (refine WOL.fsub s1.x t1 (by omega) (by omega) rfl rfl ?_;intro q2 t2)
  | (refine WOL.fadd t2 s3.x (by omega) (by omega) rfl rfl ?_;intro q3 t3)
  | (refine WOL.fsub t3 s4.x (by omega) (by omega) rfl rfl ?_;intro q4 t4)
  | (refine WOL.fgx t4 eighth_x rfl rfl ?_;rw [decide_eq_false (by omega)])
  | (refine WOL.flx t4 eighthm_x rfl rfl ?_;rw [decide_eq_false (by omega)])
  | refine WL.sr ?_
  | refine WL.seq ?_
  | refine WL.reg ?_
  | refine WOL.nil ?_
  | refine WL.skip ?_
  | refine WOL.now (b:=true) rfl rfl ?_
  | refine WOL.now (b:=false) rfl rfl ?_
  | refine WOL.skp (b:=true) rfl rfl ?_
  | refine WOL.skp (b:=false) rfl rfl ?_
  | refine WOL.gu rfl rfl ?_
  | refine WOL.mv rfl ?_
  | refine WOL.as rfl ?_
  | refine WOL.ex rfl rfl ?_
  | refine WOL.nt rfl ?_
  | refine WOL.pkt rfl rfl ?_
  | refine WOL.pkf rfl rfl ?_
  | refine WL.yes rfl ?_
  | refine WL.no rfl ?_
  | refine WOL.ld rfl (load_one (by first | exact tp25 | exact tp3) (by first | with_reducible assumption | assumption) (by rfl)) ?_
  | refine WOL.ld rfl (load_row (by first | exact tp25 | exact tp3) (by first | with_reducible assumption | assumption) rfl (Nat.le_of_ble_eq_true rfl)) ?_
  | refine WOL.len rfl (by first | with_reducible assumption | assumption) (by first | exact u43 | exact u29) ?_
  | refine WOL.add rfl rfl (by omega) (by omega) ?_
  | refine WOL.sub rfl rfl (by omega) (by omega) ?_
  | refine WOL.mul rfl rfl (by omega) (by omega) ?_
  | refine WOL.bt rfl rfl rfl (by first | exact decide_eq_true (by omega) | exact beq_iff_eq.2 (by omega) | exact bne_iff_ne.2 (by omega)) ?_
  | refine WOL.bf rfl rfl rfl (by first | exact decide_eq_false (by omega) | exact beq_eq_false_iff_ne.2 (by omega) | exact bne_eq_false_iff_eq.2 (by omega)) ?_)
  exact fun y k=>⟨(),rfl,k.sub ⟨rfl,rfl,rfl,rfl,rfl,rfl,trivial⟩⟩
 ·rintro _ g rfl
  exact kto (k1252g H K r32 h2 h24) ⟨rfl,trivial⟩
end
end Go.Tidy
namespace Go.Tidy
open Go Go.Proofs Tab
variable {tp:TProg}
def wq (n i j:Int):Int:=((4*n - 2) - 6*j)*(n - 1)+(12*j - 6*(n - 1))*i
def wqB:Bool:=(List.range 25).all fun n=>(List.range n).all fun i=>decide (smF (fun j=>max (wq n i j) (-(wq n i j))) n≤2*((n:Int)*((n:Int) - 1)*((n:Int)+1)))
set_option maxRecDepth 100000 in
theorem wqB_ok:wqB=true:=by kernel_rfl
theorem wq_lim {n i:Nat} (hn:n≤24) (hi:i < n):smF (fun j=>max (wq n i j) (-(wq n i j))) n≤2*((n:Int)*((n:Int) - 1)*((n:Int)+1)):=by
 have h:=wqB_ok
 unfold wqB at h
 rw [List.all_eq_true] at h
 have h1:=h n (List.mem_range.2 (by omega))
 rw [List.all_eq_true] at h1
 exact of_decide_eq_true (h1 i (List.mem_range.2 hi))
theorem wq_sum {L:List Int} {n i:Int}:∀ m:Nat,smF (fun j=>L.getD j 0*wq n i j) m=((4*n - 2)*smF (fun j=>L.getD j 0) m - 6*wsm L m)*(n - 1)+(12*wsm L m - 6*(n - 1)*smF (fun j=>L.getD j 0) m)*i
 | 0=>by show (0:Int)=((4*n - 2)*0 - 6*0)*(n - 1)+(12*0 - 6*(n - 1)*0)*i;simp
 | m+1=>by
  show smF (fun j=>L.getD j 0*wq n i j) m+L.getD m 0*wq n i m=((4*n - 2)*(smF (fun j=>L.getD j 0) m+L.getD m 0) - 6*(wsm L m+(m:Int)*L.getD m 0))*(n - 1)+(12*(wsm L m+(m:Int)*L.getD m 0) - 6*(n - 1)*(smF (fun j=>L.getD j 0) m+L.getD m 0))*i
  rw [wq_sum m];unfold wq;grind
theorem fit_in {L:List Int} {B:Nat} (hl:∀ j,j < L.length→(L.getD j 0).natAbs≤B) (h24:L.length≤24) {i:Nat} (hi:i < L.length):(fitA L+fitB L*(i:Int)).natAbs≤(2*(B:Int)*fitC L).natAbs∧0≤fitC L:=by
 have e:fitA L+fitB L*(i:Int)=smF (fun j=>L.getD j 0*wq L.length i j) L.length:=by
  rw [wq_sum,sm_take _ (Nat.le_refl _),List.take_of_length_le (Nat.le_refl _)]
  rfl
 have q:=sm_lim (f:=fun j=>L.getD j 0*wq L.length i j) (g:=fun j=>(B:Int)*max (wq L.length i j) (-(wq L.length i j))) (n:=L.length) fun j hj=>by
  have b:=hl j hj
  generalize L.getD j 0=x at *
  generalize wq L.length i j=w
  have h1:(x*w).natAbs≤B*w.natAbs:=mulb b (Nat.le_refl _)
  have h2:(B:Int)*max w (-w)=((B*w.natAbs:Nat):Int):=by rw [Int.natCast_mul];congr 1;omega
  show -((B:Int)*max w (-w))≤x*w∧x*w≤(B:Int)*max w (-w)
  rw [h2];omega
 rw [sm_mul] at q
 have k:=wq_lim h24 hi
 have k':=Int.mul_le_mul_of_nonneg_left k (show 0≤(B:Int) by omega)
 have e2:(B:Int)*(2*((L.length:Int)*((L.length:Int) - 1)*((L.length:Int)+1)))=2*(B:Int)*fitC L:=by unfold fitC;grind
 rw [e2] at k'
 have c0:0≤fitC L:=by unfold fitC;exact Int.mul_nonneg (Int.mul_nonneg (by omega) (by omega)) (by omega)
 have:0≤2*(B:Int)*fitC L:=Int.mul_nonneg (by omega) c0
 rw [e];exact ⟨by omega,c0⟩
theorem rnd_in {x c K:Int} (hc:0 < c) (h:-(K*c)≤x∧x≤K*c):(rnd x c).natAbs≤K.natAbs+1:=by
 have e:=rnd_err (x:=x) hc
 have a1:2*c*(K+1)=2*(K*c)+2*c:=by grind
 have a2:2*c*(-K - 1)=-(2*(K*c)) - 2*c:=by grind
 have q1:=lt_of_mul2 (c:=2*c) (d:=rnd x c) (k:=K+1) (by omega) (by rw [a1];omega)
 have q2:=lt_of_mul2 (c:=2*c) (d:=-K - 1) (k:=rnd x c) (by omega) (by rw [a2];omega)
 omega
section
variable {h:TH} {v w:Value} {F G:List Nat} {es L M D:List Int} {z:Int}
theorem trd_ok (hl:∀ j,j < L.length→-3200≤L.getD j 0∧L.getD j 0≤3200) (h2:2≤L.length) (h24:L.length≤24):∀ x,x ∈ trdL L→okI x=true:=fun x hx=>by
 obtain ⟨i,hi⟩:=List.mem_iff_getElem?.1 hx
 have hi':i < L.length:=by rw [← trd_len];exact (List.getElem?_eq_some_iff.1 hi).1
 have e:(trdL L).getD i 0=x:=by rw [List.getD_eq_getElem?_getD,hi];rfl
 obtain ⟨q,c0⟩:=fit_in (B:=3200) (fun j hj=>by have:=hl j hj;omega) h24 hi'
 have hc:0 < fitC L:=by unfold fitC;exact Int.mul_pos (Int.mul_pos (by omega) (by omega)) (by omega)
 have b:=hl i hi'
 have m1:=Int.mul_le_mul_of_nonneg_right b.1 c0
 have m2:=Int.mul_le_mul_of_nonneg_right b.2 c0
 unfold trdL at e
 rw [lin_get hi'] at e
 unfold linF at e
 have:=rnd_in (x:=L.getD i 0*fitC L - fitA L - fitB L*(i:Int)) (K:=9600) hc (by omega)
 rw [e] at this
 exact okI_iff.2 (by omega)
theorem tws_ok (hl:∀ j,j < L.length→-3200≤L.getD j 0∧L.getD j 0≤3200) (h2:2≤L.length):∀ x,x ∈ twsL L→okI x=true:=fun x hx=>by
 obtain ⟨i,hi⟩:=List.mem_iff_getElem?.1 hx
 have lT:(twsL L).length=L.length:=by unfold twsL;exact lin_len
 have hi':i < L.length:=by rw [← lT];exact (List.getElem?_eq_some_iff.1 hi).1
 have e:(twsL L).getD i 0=x:=by rw [List.getD_eq_getElem?_getD,hi];rfl
 have b:=hl i hi'
 have b0:=hl 0 (by omega)
 have bm:=hl (L.length - 1) (by omega)
 unfold twsL at e
 rw [lin_get hi'] at e
 unfold linF at e
 obtain ⟨m,hm⟩:∃ m,L.length - 1=m:=⟨_,rfl⟩
 rw [hm] at e bm
 have hm0:(0:Int) < (m:Int):=by omega
 have hmi:(0:Int)≤(m:Int) - (i:Int):=by omega
 have:=rnd_in (x:=L.getD i 0*(m:Int) - L.getD 0 0*(m:Int) - (L.getD m 0 - L.getD 0 0)*(i:Int)) (K:=6400) hm0 (by
  have m1:=Int.mul_le_mul_of_nonneg_right b.1 (show 0≤(m:Int) by omega)
  have m2:=Int.mul_le_mul_of_nonneg_right b.2 (show 0≤(m:Int) by omega)
  have m3:=Int.mul_le_mul_of_nonneg_right b0.1 hmi
  have m4:=Int.mul_le_mul_of_nonneg_right b0.2 hmi
  have m5:=Int.mul_le_mul_of_nonneg_right bm.1 (show 0≤(i:Int) by omega)
  have m6:=Int.mul_le_mul_of_nonneg_right bm.2 (show 0≤(i:Int) by omega)
  rw [Int.mul_sub,Int.mul_sub] at m3 m4
  rw [Int.sub_mul]
  omega)
 rw [e] at this
 exact okI_iff.2 (by omega)
theorem tws_ends (h2:2≤L.length):(twsL L).getD 0 0=0∧(twsL L).getD (L.length - 1) 0=0:=by
 have hm0:(0:Int) < ((L.length - 1:Nat):Int):=by omega
 unfold twsL
 rw [lin_get (by omega),lin_get (by omega)]
 unfold linF
 refine ⟨?_,?_⟩
 ·rw [show L.getD 0 0*((L.length - 1:Nat):Int) - L.getD 0 0*((L.length - 1:Nat):Int) - (L.getD (L.length - 1) 0 - L.getD 0 0)*((0:Nat):Int)=0 by rw [Int.sub_self];simp]
  exact rnd_0 hm0
 ·rw [show L.getD (L.length - 1) 0*((L.length - 1:Nat):Int) - L.getD 0 0*((L.length - 1:Nat):Int) - (L.getD (L.length - 1) 0 - L.getD 0 0)*((L.length - 1:Nat):Int)=0 by rw [Int.sub_mul];omega]
  exact rnd_0 hm0
theorem mem_ok {B:Int} {D:List Int} (hB:B≤16384) (h:∀ j,j < D.length→-B≤D.getD j 0∧D.getD j 0≤B):∀ x,x ∈ D→okI x=true:=fun x hx=>by
 obtain ⟨i,hi⟩:=List.mem_iff_getElem?.1 hx
 have e:D.getD i 0=x:=by rw [List.getD_eq_getElem?_getD,hi];rfl
 have:=h i (List.getElem?_eq_some_iff.1 hi).1
 exact okI_iff.2 (by omega)
theorem k1286o (H:Has tp) (X:HasX tp) (Gl:Glob h) (s:SlL encF 1 h v F) (lv:Lev F L) (h2:2≤F.length) (hF:F.length≤24) (ok:∀ x,x ∈ trdL L→okI x=true) (f:Free0 h.next h) :
  CallW Tryz.prog tp (.func (.func 30) #[] #[]) #[v] h fun u h'=>HX h h'∧∃ u',u=.tuple #[u',zi 0]∧RF h' u' (trdL L):=by
 obtain ⟨es,hE,z⟩:=serr_zero lv
 have:=k1286 H X Gl s hE (fun _=>lv) (by unfold shB;rw [decide_eq_true (by omega)];rfl) f
 rw [show lineE F.length es=0 by unfold lineE;rw [sig0 (by omega) z,decide_eq_false (by omega)];rfl,cE_0,cL_0,(sg_ok ok).1,(sg_ok ok).2] at this
 exact this.mono fun u h' ⟨X',R⟩=>⟨X',R.form⟩
theorem k1287o (H:Has tp) (X:HasX tp) (s:SlL encF 1 h v F) (lv:Lev F L) (h2:2≤F.length) (hF:F.length≤4096) (ok:∀ x,x ∈ twsL L→okI x=true) (f:Free0 h.next h) :
  CallW Tryz.prog tp (.func (.func 31) #[] #[]) #[v] h fun u h'=>HX h h'∧∃ u',u=.tuple #[u',zi 0]∧RF h' u' (twsL L):=by
 obtain ⟨es,hE,z⟩:=serr_zero lv
 have:=k1287 H X s hE (fun _=>lv) (by omega) f
 rw [show lineE F.length es=0 by unfold lineE;rw [sig0 hF z,decide_eq_false (by omega)];rfl,cE_0,cL_0,(sg_ok ok).1,(sg_ok ok).2] at this
 exact this.mono fun u h' ⟨X',R⟩=>⟨X',R.form⟩
theorem k1302o (H:Has tp) (X:HasX tp) (s:SlL encF 1 h v F) (lv:Lev F L) (hF:F.length≤4096) (hz:1≤z∧z≤64) (ok:∀ x,x ∈ twL z.toNat L→okI x=true) (f:Free0 h.next h) :
  CallW Tryz.prog tp (.func (.func 50) #[] #[]) #[v,zi z] h fun u h'=>HX h h'∧∃ u',u=.tuple #[u',zi 0]∧RF h' u' (twL z.toNat L):=by
 obtain ⟨es,hE,z'⟩:=serr_zero lv
 have:=k1302 (z:=z) H X s hE (fun _=>lv) (by omega) f
 rw [show twE F.length es z=0 by unfold twE outB;rw [sig0 hF z',decide_eq_false (by omega),decide_eq_false (by omega)];rfl,cE_0,cL_0,(sg_ok ok).1,(sg_ok ok).2] at this
 exact this.mono fun u h' ⟨X',R⟩=>⟨X',R.form⟩
theorem pair0 (lv:Lev F L) (lw:Lev G M) (hF:F.length≤4096) (e:F.length=G.length):∃ es es',SErr F es∧SErr G es'∧pairE F.length G.length es es'=0∧∀ z:Int,0≤z→z≤16384→gauE F.length G.length es es' z=0:=by
 obtain ⟨es,hE,z1⟩:=serr_zero lv
 obtain ⟨es',hE',z2⟩:=serr_zero lw
 refine ⟨es,es',hE,hE',?_,fun z h1 h2=>?_⟩
 ·unfold pairE
  rw [sig0 hF z1,sig0 (by omega) z2,bne_eq_false_iff_eq.2 (show (F.length:Int)=(G.length:Int) by omega)];rfl
 ·unfold gauE outB
  rw [sig0 hF z1,sig0 (by omega) z2,bne_eq_false_iff_eq.2 (show (F.length:Int)=(G.length:Int) by omega),decide_eq_false (by omega),decide_eq_false (by omega)];rfl
theorem k1301o (H:Has tp) (X:HasX tp) (s:SlL encF 1 h v F) (t:SlL encF 1 h w G) (lv:Lev F L) (lw:Lev G M) (hF:F.length≤4096) (e:F.length=G.length) (ok:∀ x,x ∈ List.zipWith dif L M→okI x=true) (f:Free0 h.next h) :
  CallW Tryz.prog tp (.func (.func 51) #[] #[]) #[v,w] h fun u h'=>HX h h'∧∃ u',u=.tuple #[u',zi 0]∧RF h' u' (List.zipWith dif L M):=by
 obtain ⟨es,es',hE,hE',z,_⟩:=pair0 lv lw hF e
 have:=k1301 H X s t hE hE' (fun _=>lv) (fun _=>lw) (by omega) (by omega) f
 rw [z,cE_0,cL_0,(sg_ok ok).1,(sg_ok ok).2] at this
 exact this.mono fun u h' ⟨X',R⟩=>⟨X',R.form⟩
theorem k1303o (H:Has tp) (X:HasX tp) (s:SlL encF 1 h v F) (t:SlL encF 1 h w G) (lv:Lev F L) (lw:Lev G M) (hF:F.length≤4096) (e:F.length=G.length) (hz:0≤z∧z≤16384) (f:Free0 h.next h) :
  CallW Tryz.prog tp (.func (.func 52) #[] #[]) #[v,w,zi z] h fun u h'=>HX h h'∧∃ u',u=.tuple #[u',zi 0]∧SlL encI 1 h' u' (gauL z L M):=by
 obtain ⟨es,es',hE,hE',_,g⟩:=pair0 lv lw hF e
 have:=k1303 (z:=z) H X s t hE hE' (fun _=>lv) (fun _=>lw) (by omega) (by omega) f
 rw [g z hz.1 hz.2] at this
 exact this.mono fun u h' ⟨X',R⟩=>⟨X',R⟩
end
end Go.Tidy
namespace Go.Tidy
open Go Go.Proofs Tab
variable {tp:TProg}
theorem xor_hi (b:Nat):(b ^^^ 2 ^ 31) % 2 ^ 31=b % 2 ^ 31:=by
 rw [Nat.xor_mod_two_pow,Nat.mod_self,Nat.xor_zero]
theorem xor_sg (b:Nat):((b ^^^ 2 ^ 31) / 2 ^ 31 % 2 == 1)=!(b / 2 ^ 31 % 2 == 1):=by
 have h:=Nat.testBit_xor b (2 ^ 31) 31
 rw [Nat.testBit_two_pow_self,Nat.testBit_eq_decide_div_mod_eq,Nat.testBit_eq_decide_div_mod_eq] at h
 rw [Bool.xor_true] at h
 simpa [BEq.beq,Nat.beq_eq] using h
theorem read_neg (b:Nat):Ieee.single.read (Op.negFloat .f32 b)=(Ieee.single.read b).opposite:=by
 unfold Ieee.Format.read
 rw [show Op.negFloat .f32 b=b ^^^ 2 ^ 31 from rfl,show Ieee.single.signWeight=2 ^ 31 from rfl,xor_hi,xor_sg]
 dsimp only
 split
 ·rfl
 ·split
  ·rfl
  ·split <;> rfl
theorem Sx.neg {b:Nat} {n:Int} (s:Sx b n):Sx (Op.negFloat .f32 b) (-n):=by
 obtain ⟨sg0,q,⟨m,k,r,p,l⟩,h2,h3⟩:=s.ok
 refine ⟨!sg0,q,⟨m,k,by rw [read_neg,r];rfl,p,l⟩,fun D hD=>by rw [Int.natAbs_neg];exact h2 D hD,?_⟩
 rw [Int.natAbs_neg,sg_not,h3]
theorem WOL.fneg {tp:TProg} {h:TH} {K:Regs→TH→Prop} {rest:List TOper} {d:Option Tmp} {ty:TypeId} {i:Nat} {x:Operand} {L:Rg} {t:TypeId} {b:Nat} {n:Int} (s:Sx b n) (hx:getL L x=some (.float .f32 b)) (w:∀ r,Sx r (-n)→∀ a,Kn (putL L d (.float .f32 r)) a→WO Tryz.prog tp rest a h K):∀ a,Kn L a→WO Tryz.prog tp (⟨d,.unOp .neg t x,ty,none,[],i⟩::rest) a h K :=
 WOL.negP hx (plain_float s.nan) rfl (plain_float s.neg.nan) (w _ s.neg)
theorem one_x:Sx 1065353216 16:=by
 have h:=(smp_ok (n:=16) (by decide)).2.2.x
 have e:smp 16=1065353216:=by kernel_rfl
 rwa [e] at h
theorem WOL.fnx {P:Program} {tp:TProg} {h:TH} {K:Regs→TH→Prop} {rest:List TOper} {d:Option Tmp} {ty:TypeId} {i:Nat} {x y:Operand} {L:Rg} {t u:TypeId} {b c:Nat} {m:Int} (s:Sx b m) (s':Sx c m) (hx:getL L x=some (.float .f32 b)) (hy:getL L y=some (.float .f32 c)) (w:∀ a,Kn (putL L d (.bool false)) a→WO P tp rest a h K):∀ a,Kn L a→WO P tp (⟨d,.binOp .neq t x y u,ty,none,[],i⟩::rest) a h K:=fun a k =>
 WO.fcmp (k.o hx) (k.o hy) s.nan s'.nan (by show some (Ieee.single.order b c != some .eq)=some false;rw [s.order s'];simp) (w _ (k.put d _))
section
variable {h:TH} {v w v17 v19 v23 v25:Value} {F G:List Nat} {L M L' M':List Int}
theorem SlL.ati {h:TH} {v:Value} {L:List Int} (s:SlL encI 1 h v L) {j:Nat} (hj:j < L.length):∃ p,indexAddrT Tryz.prog 35 v (.int .i64 j)=some p∧loadT Tryz.prog 3 p h=some (zi (L.getD j 0)):=by
 obtain ⟨_,_,cc,fx,wr,el,c1,c2,c3,c4,c5⟩:=s.at eI u29 tp3 (at_getD hj) .i64
 have gx:=c5 0 (by decide)
 rw [Nat.add_zero] at gx
 exact ⟨_,c1,load_one tp3 c2 gx⟩
set_option maxHeartbeats 4000000 in
set_option maxRecDepth 100000 in
theorem k1252e (H:Has tp) (X:HasX tp) (K:Awk tp) (Gl:Glob h) (f:Free0 h.next h) (s:SlL encF 1 h v F) (lv:Lev F L) (h2:2≤F.length) (hF:F.length≤24) (hl:∀ j,j < L.length→-3200≤L.getD j 0∧L.getD j 0≤3200) :
  ∀ r,Kn [(0,v)] r→W Tryz.prog tp false cd1252e r h (Fin Tryz.prog [.tmp 6] fun v _=>v=.bool true):=by
 unfold cd1252e
 have ll:=lv.1
 obtain ⟨z0,z1⟩:=tws_ends (L:=L) (by omega)
 have lB:(benL L).length=L.length - 2:=ben_len
 have lT:(twsL L).length=L.length:=by unfold twsL;exact lin_len
 have lD:(trdL L).length=L.length:=trd_len
 have okB:∀ x,x ∈ benL L→okI x=true:=mem_ok (B:=12800) (by decide) fun j hj=>by
  rw [lB] at hj
  rw [ben_get hj]
  have b1:=hl j (by omega)
  have b2:=hl (j+1) (by omega)
  have b3:=hl (j+2) (by omega)
  omega
 repeat' (first
  | refine WL.sr ?_
  | refine WL.seq ?_
  | refine WL.reg ?_
  | refine WOL.nil ?_
  | refine WL.skip ?_
  | refine WOL.now (b:=true) rfl rfl ?_
  | refine WOL.now (b:=false) rfl rfl ?_
  | refine WOL.skp (b:=true) rfl rfl ?_
  | refine WOL.skp (b:=false) rfl rfl ?_
  | refine WOL.gu rfl rfl ?_
  | refine WOL.mv rfl ?_
  | refine WOL.as rfl ?_
  | refine WOL.ex rfl rfl ?_
  | refine WOL.nt rfl ?_
  | refine WOL.pkt rfl rfl ?_
  | refine WOL.pkf rfl rfl ?_
  | refine WL.yes rfl ?_
  | refine WL.no rfl ?_
  | refine WOL.ld rfl (load_one (by first | exact tp25 | exact tp3) (by first | with_reducible assumption | assumption) (by rfl)) ?_
  | refine WOL.ld rfl (load_row (by first | exact tp25 | exact tp3) (by first | with_reducible assumption | assumption) rfl (Nat.le_of_ble_eq_true rfl)) ?_
  | refine WOL.len rfl (by first | with_reducible assumption | assumption) (by first | exact u43 | exact u29) ?_
  | refine WOL.add rfl rfl (by omega) (by omega) ?_
  | refine WOL.sub rfl rfl (by omega) (by omega) ?_
  | refine WOL.mul rfl rfl (by omega) (by omega) ?_
  | refine WOL.bt rfl rfl rfl (by first | exact decide_eq_true (by omega) | exact beq_iff_eq.2 (by omega) | exact bne_iff_ne.2 (by omega)) ?_
  | refine WOL.bf rfl rfl rfl (by first | exact decide_eq_false (by omega) | exact beq_eq_false_iff_ne.2 (by omega) | exact bne_eq_false_iff_eq.2 (by omega)) ?_)
 refine WOL.cl1 rfl rfl ((k1258 H s (by omega)).mono ?_)
 rintro u g1 ⟨X1,b1,m1,k1,rfl,s1,_⟩
 refine WOL.cl1 rfl rfl ((k1287o H X s1 lv h2 (by omega) (tws_ok hl (by omega)) (f.on X1)).mono ?_)
 rintro u g2 ⟨X2,v28,rfl,r28⟩
 have Y2:=X1.trans X2
 repeat' (first
  | refine WL.sr ?_
  | refine WL.seq ?_
  | refine WL.reg ?_
  | refine WOL.nil ?_
  | refine WL.skip ?_
  | refine WOL.now (b:=true) rfl rfl ?_
  | refine WOL.now (b:=false) rfl rfl ?_
  | refine WOL.skp (b:=true) rfl rfl ?_
  | refine WOL.skp (b:=false) rfl rfl ?_
  | refine WOL.gu rfl rfl ?_
  | refine WOL.mv rfl ?_
  | refine WOL.as rfl ?_
  | refine WOL.ex rfl rfl ?_
  | refine WOL.nt rfl ?_
  | refine WOL.pkt rfl rfl ?_
  | refine WOL.pkf rfl rfl ?_
  | refine WL.yes rfl ?_
  | refine WL.no rfl ?_
  | refine WOL.ld rfl (load_one (by first | exact tp25 | exact tp3) (by first | with_reducible assumption | assumption) (by rfl)) ?_
  | refine WOL.ld rfl (load_row (by first | exact tp25 | exact tp3) (by first | with_reducible assumption | assumption) rfl (Nat.le_of_ble_eq_true rfl)) ?_
  | refine WOL.len rfl (by first | with_reducible assumption | assumption) (by first | exact u43 | exact u29) ?_
  | refine WOL.add rfl rfl (by omega) (by omega) ?_
  | refine WOL.sub rfl rfl (by omega) (by omega) ?_
  | refine WOL.mul rfl rfl (by omega) (by omega) ?_
  | refine WOL.bt rfl rfl rfl (by first | exact decide_eq_true (by omega) | exact beq_iff_eq.2 (by omega) | exact bne_iff_ne.2 (by omega)) ?_
  | refine WOL.bf rfl rfl rfl (by first | exact decide_eq_false (by omega) | exact beq_eq_false_iff_ne.2 (by omega) | exact bne_eq_false_iff_eq.2 (by omega)) ?_)
 refine WOL.cl1 rfl rfl ((k1258 H (s.hx Y2) (by omega)).mono ?_)
 rintro u g3 ⟨X3,b3,m3,k3,rfl,s3,_⟩
 have Y3:=Y2.trans X3
 refine WOL.cl1 rfl rfl ((k1277o H X (Gl.hx Y3) s3 lv h2 (by omega) okB (f.on Y3)).mono ?_)
 rintro u g4 ⟨X4,v30,rfl,r30⟩
 have Y4:=Y3.trans X4
 repeat' (first
  | refine WL.sr ?_
  | refine WL.seq ?_
  | refine WL.reg ?_
  | refine WOL.nil ?_
  | refine WL.skip ?_
  | refine WOL.now (b:=true) rfl rfl ?_
  | refine WOL.now (b:=false) rfl rfl ?_
  | refine WOL.skp (b:=true) rfl rfl ?_
  | refine WOL.skp (b:=false) rfl rfl ?_
  | refine WOL.gu rfl rfl ?_
  | refine WOL.mv rfl ?_
  | refine WOL.as rfl ?_
  | refine WOL.ex rfl rfl ?_
  | refine WOL.nt rfl ?_
  | refine WOL.pkt rfl rfl ?_
  | refine WOL.pkf rfl rfl ?_
  | refine WL.yes rfl ?_
  | refine WL.no rfl ?_
  | refine WOL.ld rfl (load_one (by first | exact tp25 | exact tp3) (by first | with_reducible assumption | assumption) (by rfl)) ?_
  | refine WOL.ld rfl (load_row (by first | exact tp25 | exact tp3) (by first | with_reducible assumption | assumption) rfl (Nat.le_of_ble_eq_true rfl)) ?_
  | refine WOL.len rfl (by first | with_reducible assumption | assumption) (by first | exact u43 | exact u29) ?_
  | refine WOL.add rfl rfl (by omega) (by omega) ?_
  | refine WOL.sub rfl rfl (by omega) (by omega) ?_
  | refine WOL.mul rfl rfl (by omega) (by omega) ?_
  | refine WOL.bt rfl rfl rfl (by first | exact decide_eq_true (by omega) | exact beq_iff_eq.2 (by omega) | exact bne_iff_ne.2 (by omega)) ?_
  | refine WOL.bf rfl rfl rfl (by first | exact decide_eq_false (by omega) | exact beq_eq_false_iff_ne.2 (by omega) | exact bne_eq_false_iff_eq.2 (by omega)) ?_)
 refine WOL.cl1 rfl rfl ((k1258 H (s.hx Y4) (by omega)).mono ?_)
 rintro u g5 ⟨X5,b5,m5,k5,rfl,s5,_⟩
 have Y5:=Y4.trans X5
 refine WOL.cl1 rfl rfl ((k1286o H X (Gl.hx Y5) s5 lv h2 hF (trd_ok hl (by omega) (by omega)) (f.on Y5)).mono ?_)
 rintro u g6 ⟨X6,v32,rfl,r32⟩
 have Y6:=Y5.trans X6
 replace r28:=r28.hx (((X3.trans X4).trans X5).trans X6)
 replace r30:=r30.hx (X5.trans X6)
 have n28:=r28.ln
 have n30:=r30.ln
 have n32:=r32.ln
 have n0:SlC g6 v 1 F.length (cat encF F):=s.hx Y6
 obtain ⟨F28,s28,l28⟩:=id r28
 obtain ⟨F32,s32,l32⟩:=id r32
 have ll28:=l28.1
 have ll32:=l32.1
 obtain ⟨p1,c1,a1,q1,t1⟩:=r28.at (i:=0) (by omega) (by omega)
 obtain ⟨p2,c2,a2,q2,t2⟩:=r28.at (i:=(L.length:Int) - 1) (by omega) (by omega)
 rw [show ((L.length:Int) - 1).toNat=L.length - 1 by omega,z1] at t2
 rw [show ((0:Int)).toNat=0 from rfl,z0] at t1
 rw [← lT] at a2
 repeat' (first
  | (refine WOL.cl1 rfl rfl ((k1261o H s28 l28 (by omega)).mono ?_);rintro _ g6 ⟨rfl,rfl⟩)
  | (refine WOL.cl1 rfl rfl ((k1261o H s32 l32 (by omega)).mono ?_);rintro _ g6 ⟨rfl,rfl⟩)
  | refine WOL.ix rfl rfl a1 ?_
  | refine WOL.ix rfl rfl a2 ?_
  | refine WOL.ld rfl q1 ?_
  | refine WOL.ld rfl q2 ?_
  | refine WOL.fnx t1.x zero_s.x rfl rfl ?_
  | refine WOL.fnx t2.x zero_s.x rfl rfl ?_
  | refine WOL.len rfl n28 u43 ?_
  | refine WOL.len rfl n30 u43 ?_
  | refine WOL.len rfl n32 u43 ?_
  | refine WOL.len rfl n0 u43 ?_
  | refine WL.sr ?_
  | refine WL.seq ?_
  | refine WL.reg ?_
  | refine WOL.nil ?_
  | refine WL.skip ?_
  | refine WOL.now (b:=true) rfl rfl ?_
  | refine WOL.now (b:=false) rfl rfl ?_
  | refine WOL.skp (b:=true) rfl rfl ?_
  | refine WOL.skp (b:=false) rfl rfl ?_
  | refine WOL.gu rfl rfl ?_
  | refine WOL.mv rfl ?_
  | refine WOL.as rfl ?_
  | refine WOL.ex rfl rfl ?_
  | refine WOL.nt rfl ?_
  | refine WOL.pkt rfl rfl ?_
  | refine WOL.pkf rfl rfl ?_
  | refine WL.yes rfl ?_
  | refine WL.no rfl ?_
  | refine WOL.ld rfl (load_one (by first | exact tp25 | exact tp3) (by first | with_reducible assumption | assumption) (by rfl)) ?_
  | refine WOL.ld rfl (load_row (by first | exact tp25 | exact tp3) (by first | with_reducible assumption | assumption) rfl (Nat.le_of_ble_eq_true rfl)) ?_
  | refine WOL.len rfl (by first | with_reducible assumption | assumption) (by first | exact u43 | exact u29) ?_
  | refine WOL.add rfl rfl (by omega) (by omega) ?_
  | refine WOL.sub rfl rfl (by omega) (by omega) ?_
  | refine WOL.mul rfl rfl (by omega) (by omega) ?_
  | refine WOL.bt rfl rfl rfl (by first | exact decide_eq_true (by omega) | exact beq_iff_eq.2 (by omega) | exact bne_iff_ne.2 (by omega)) ?_
  | refine WOL.bf rfl rfl rfl (by first | exact decide_eq_false (by omega) | exact beq_eq_false_iff_ne.2 (by omega) | exact bne_eq_false_iff_eq.2 (by omega)) ?_)
 exact kto (k1252f H K r28 r30 r32 (by omega) (by omega)) ⟨rfl,rfl,rfl,trivial⟩
end
end Go.Tidy
namespace Go.Tidy
open Go Go.Proofs Tab
variable {tp:TProg}
theorem WOL.cvK {P:Program} {tp:TProg} {h:TH} {K:Regs→TH→Prop} {rest:List TOper} {d:Option Tmp} {ty:TypeId} {i:Nat} {x:Operand} {L:Rg} {s t:TypeId} {ds:TypeDesc} {k:IntKind} {n:Int} (hs:P.underlying s=some ds) (ht:P.underlying t=some (.int .i64)) (hx:getL L x=some (.int k n)) (hw:IntKind.i64.wrap n=n) (w:∀ a,Kn (putL L d (.int .i64 n)) a→WO P tp rest a h K):∀ a,Kn L a→WO P tp (⟨d,.convert s t x,ty,none,[],i⟩::rest) a h K:=fun a q=>by
 refine WO.conv (q.o hx) rfl (conv_i2i hs ht) rfl ?_
 rw [hw]
 exact w _ (q.put d _)
theorem zw_D {φ:Int→Int→Int} {A B:List Int} {j:Nat} (h1:j < A.length) (h2:j < B.length):(List.zipWith φ A B).getD j 0=φ (A.getD j 0) (B.getD j 0):=by
 rw [List.getD_eq_getElem?_getD,zw_get (at_getD h1) (at_getD h2)];rfl
theorem tw_len {n:Nat} {L:List Int}:(twL n L).length=L.length - n:=by unfold twL;rw [List.length_map,List.length_range]
theorem tw_get {n j:Nat} {L:List Int} (h:j < L.length - n):(twL n L).getD j 0=L.getD (j+n) 0 - L.getD j 0:=by
 rw [List.getD_eq_getElem?_getD];unfold twL;rw [tbl_get,if_pos h];rfl
theorem tp1327:Tp Tryz.prog 104 2 [.slice none 0 0,.slice none 0 0] true:=tp_of (by kernel_rfl) (by kernel_rfl) rfl
theorem bd1327 {a b m n:Nat}:buildT Tryz.prog 104 [(0,slA a m),(1,slA b n)]=some (.agg #[slA a m,slA b n]):=by kernel_rfl
theorem ix1327_0 {c:Nat}:indexAddrT Tryz.prog 104 (.pointer (some ⟨c,0,none⟩)) (.int .i64 0)=some (.pointer (some ⟨c,0,none⟩)):=by kernel_rfl
theorem ix1327_1 {c:Nat}:indexAddrT Tryz.prog 104 (.pointer (some ⟨c,0,none⟩)) (.int .i64 1)=some (.pointer (some ⟨c,1,none⟩)):=by kernel_rfl
theorem ix1032_0 {c:Nat}:indexAddrT Tryz.prog 100 (.pointer (some ⟨c,0,none⟩)) (.int .i64 0)=some (.pointer (some ⟨c,0,none⟩)):=by kernel_rfl
theorem ix1032_1 {c:Nat}:indexAddrT Tryz.prog 100 (.pointer (some ⟨c,0,none⟩)) (.int .i64 1)=some (.pointer (some ⟨c,1,none⟩)):=by kernel_rfl
section
variable {h h0:TH} {v w v9 v11 v13 v17 v19 v23 v25:Value} {F G:List Nat} {es es' L M L' M':List Int} {a b c5:Nat} {p q:Int}
set_option maxHeartbeats 4000000 in
set_option maxRecDepth 100000 in
theorem k1252d (H:Has tp) (X:HasX tp) (K:Awk tp) (Gl:Glob h) (f:Free0 h.next h) (s:SlL encF 1 h v F) (lv:Lev F L) (t:SlL encF 1 h w G) (lw:Lev G M) (h2:2≤F.length) (hF:F.length≤24) (e:F.length=G.length) (hl:∀ j,j < L.length→-3200≤L.getD j 0∧L.getD j 0≤3200) (hm:∀ j,j < M.length→-3200≤M.getD j 0∧M.getD j 0≤3200)
  (r17:RF h v17 (List.zipWith dif L M)) (r19:RF h v19 (List.zipWith dif M L)) (s23:SlL encI 1 h v23 (gauL 1435 L M)) (s25:SlL encI 1 h v25 (gauL 1435 (addLI L 16) (addLI M 16))) :
  ∀ r,Kn [(0,v),(1,w),(17,v17),(19,v19),(23,v23),(25,v25)] r→W Tryz.prog tp false cd1252d r h (Fin Tryz.prog [.tmp 6] fun v _=>v=.bool true):=by
 unfold cd1252d
 have ll:=lv.1
 have lm:=lw.1
 refine WL.seq<|WL.sr<|WOL.mv rfl<|WOL.len rfl s u43<|WOL.mv rfl<|WOL.nil<|keep [(0,_),(1,_),(17,_),(19,_),(23,_),(25,_),(243,_),(244,_),(245,_)] ⟨rfl,rfl,rfl,rfl,rfl,rfl,rfl,rfl,rfl,trivial⟩ ?_
 refine WL.upto (α:=Unit) F.length (fun _ _ g=>g=h) (fun j _=>[(0,v),(1,w),(17,v17),(19,v19),(23,v23),(25,v25),(243,v),(244,zi (F.length:Nat))]) () rfl rfl (by omega) rfl ⟨rfl,rfl,rfl,rfl,rfl,rfl,rfl,rfl,rfl,trivial⟩ (fun _ _=>rfl) (fun _ _ _=>⟨rfl,rfl,rfl,rfl,rfl,rfl,rfl,rfl,rfl,trivial⟩) (fun _ _ _=>⟨rfl,rfl,rfl,rfl,rfl,rfl,rfl,rfl,rfl,trivial⟩) ?_ ?_
 ·rintro j _ g hj rfl
  obtain ⟨p1,c1,a1,l1,s1⟩:=r17.at (i:=(j:Nat)) (by omega) (by rw [List.length_zipWith];omega)
  obtain ⟨p2,c2,a2,l2,s2⟩:=r19.at (i:=(j:Nat)) (by omega) (by rw [List.length_zipWith];omega)
  obtain ⟨p3,c3,a3,l3,s3⟩:=RF.at ⟨F,s,lv⟩ (i:=(j:Nat)) (by omega) (by omega)
  obtain ⟨p4,c4,a4,l4,s4⟩:=RF.at ⟨G,t,lw⟩ (i:=(j:Nat)) (by omega) (by omega)
  obtain ⟨p5,a5,l5⟩:=s23.ati (j:=j) (by unfold gauL;rw [List.length_zipWith];omega)
  obtain ⟨p6,a6,l6⟩:=s25.ati (j:=j) (by unfold gauL;rw [List.length_zipWith,add_len,add_len];omega)
  unfold gauL at l5 l6
  rw [zw_D (by omega) (by omega)] at l5
  rw [zw_D (by rw [add_len];omega) (by rw [add_len];omega),add_get (by omega),add_get (by omega)] at l6
  rw [Int.toNat_natCast] at s1 s2 s3 s4
  rw [zw_D (by omega) (by omega)] at s1 s2
  have b1:=hl j (by omega)
  have b2:=hm j (by omega)
  generalize L.getD j 0=x at *
  generalize M.getD j 0=y at *
  have t1:Sx c1 (y - x):=s1.x
  have t2:Sx c2 (x - y):=s2.x
  repeat' (first
  | refine WOL.ix rfl rfl a1 ?_
  | refine WOL.ix rfl rfl a2 ?_
  | refine WOL.ix rfl rfl a3 ?_
  | refine WOL.ix rfl rfl a4 ?_
  | refine WOL.ix rfl rfl a5 ?_
  | refine WOL.ix rfl rfl a6 ?_
  | refine WOL.ld rfl l1 ?_
  | refine WOL.ld rfl l2 ?_
  | refine WOL.ld rfl l3 ?_
  | refine WOL.ld rfl l4 ?_
  | refine WOL.ld rfl l5 ?_
  | refine WOL.ld rfl l6 ?_
  | (refine WOL.fneg t2 rfl ?_;intro q1 n1;rw [show -(x - y)=y - x by omega] at n1)
  | (refine WOL.fsub s4.x s3.x (by omega) (by omega) rfl rfl ?_;intro q2 n2)
  | refine WOL.fnx t1 n1 rfl rfl ?_
  | refine WOL.fnx t1 n2 rfl rfl ?_
  | refine WL.sr ?_
  | refine WL.seq ?_
  | refine WL.reg ?_
  | refine WOL.nil ?_
  | refine WL.skip ?_
  | refine WOL.now (b:=true) rfl rfl ?_
  | refine WOL.now (b:=false) rfl rfl ?_
  | refine WOL.skp (b:=true) rfl rfl ?_
  | refine WOL.skp (b:=false) rfl rfl ?_
  | refine WOL.gu rfl rfl ?_
  | refine WOL.mv rfl ?_
  | refine WOL.as rfl ?_
  | refine WOL.ex rfl rfl ?_
  | refine WOL.nt rfl ?_
  | refine WOL.pkt rfl rfl ?_
  | refine WOL.pkf rfl rfl ?_
  | refine WL.yes rfl ?_
  | refine WL.no rfl ?_
  | refine WOL.ld rfl (load_one (by first | exact tp25 | exact tp3 | exact tp43) (by first | with_reducible assumption | assumption) (by rfl)) ?_
  | refine WOL.ld rfl (load_row (by first | exact tp25 | exact tp3 | exact tp43) (by first | with_reducible assumption | assumption) rfl (Nat.le_of_ble_eq_true rfl)) ?_
  | refine WOL.len rfl (by first | with_reducible assumption | assumption) (by first | exact u43 | exact u29) ?_
  | refine WOL.add rfl rfl (by omega) (by omega) ?_
  | refine WOL.sub rfl rfl (by omega) (by omega) ?_
  | refine WOL.mul rfl rfl (by omega) (by omega) ?_
  | refine WOL.bt rfl rfl rfl (by first | exact decide_eq_true (by omega) | exact beq_iff_eq.2 (by omega) | exact bne_iff_ne.2 (by omega)) ?_
  | refine WOL.bf rfl rfl rfl (by first | exact decide_eq_false (by omega) | exact beq_eq_false_iff_ne.2 (by omega) | exact bne_eq_false_iff_eq.2 (by omega)) ?_)
  exact fun y k=>⟨(),rfl,k.sub ⟨rfl,rfl,rfl,rfl,rfl,rfl,rfl,rfl,rfl,trivial⟩⟩
 ·rintro _ g rfl
  exact kto (k1252e H X K Gl f s lv h2 hF hl) ⟨rfl,trivial⟩
set_option maxHeartbeats 8000000 in
set_option maxRecDepth 100000 in
theorem k1252c (H:Has tp) (X:HasX tp) (K:Awk tp) (Gl:Glob h) (f:Free0 h.next h) (s:SlL encF 1 h v F) (lv:Lev F L) (t:SlL encF 1 h w G) (lw:Lev G M) (h2:2≤F.length) (hF:F.length≤24) (e:F.length=G.length) (hl:∀ j,j < L.length→-3200≤L.getD j 0∧L.getD j 0≤3200) (hm:∀ j,j < M.length→-3200≤M.getD j 0∧M.getD j 0≤3200) :
  ∀ r,Kn [(0,v),(1,w)] r→W Tryz.prog tp false cd1252c r h (Fin Tryz.prog [.tmp 6] fun v _=>v=.bool true):=by
 unfold cd1252c
 have ll:=lv.1
 have lm:=lw.1
 have ok1:∀ x,x ∈ List.zipWith dif L M→okI x=true:=mem_ok (B:=6400) (by decide) fun j hj=>by
  rw [List.length_zipWith] at hj
  rw [zw_D (by omega) (by omega)]
  have b1:=hl j (by omega)
  have b2:=hm j (by omega)
  unfold dif;omega
 have ok2:∀ x,x ∈ List.zipWith dif M L→okI x=true:=mem_ok (B:=6400) (by decide) fun j hj=>by
  rw [List.length_zipWith] at hj
  rw [zw_D (by omega) (by omega)]
  have b1:=hl j (by omega)
  have b2:=hm j (by omega)
  unfold dif;omega
 repeat' (first
  | refine WL.sr ?_
  | refine WL.seq ?_
  | refine WL.reg ?_
  | refine WOL.nil ?_
  | refine WL.skip ?_
  | refine WOL.now (b:=true) rfl rfl ?_
  | refine WOL.now (b:=false) rfl rfl ?_
  | refine WOL.skp (b:=true) rfl rfl ?_
  | refine WOL.skp (b:=false) rfl rfl ?_
  | refine WOL.gu rfl rfl ?_
  | refine WOL.mv rfl ?_
  | refine WOL.as rfl ?_
  | refine WOL.ex rfl rfl ?_
  | refine WOL.nt rfl ?_
  | refine WOL.pkt rfl rfl ?_
  | refine WOL.pkf rfl rfl ?_
  | refine WL.yes rfl ?_
  | refine WL.no rfl ?_
  | refine WOL.ld rfl (load_one (by first | exact tp25 | exact tp3 | exact tp43) (by first | with_reducible assumption | assumption) (by rfl)) ?_
  | refine WOL.ld rfl (load_row (by first | exact tp25 | exact tp3 | exact tp43) (by first | with_reducible assumption | assumption) rfl (Nat.le_of_ble_eq_true rfl)) ?_
  | refine WOL.len rfl (by first | with_reducible assumption | assumption) (by first | exact u43 | exact u29) ?_
  | refine WOL.add rfl rfl (by omega) (by omega) ?_
  | refine WOL.sub rfl rfl (by omega) (by omega) ?_
  | refine WOL.mul rfl rfl (by omega) (by omega) ?_
  | refine WOL.bt rfl rfl rfl (by first | exact decide_eq_true (by omega) | exact beq_iff_eq.2 (by omega) | exact bne_iff_ne.2 (by omega)) ?_
  | refine WOL.bf rfl rfl rfl (by first | exact decide_eq_false (by omega) | exact beq_eq_false_iff_ne.2 (by omega) | exact bne_eq_false_iff_eq.2 (by omega)) ?_)
 refine WOL.cl1 rfl rfl ((k1258 H s (by omega)).mono ?_)
 rintro u g1 ⟨X1,b1,m1,k1,rfl,s1,_⟩
 repeat' (first
  | refine WL.sr ?_
  | refine WL.seq ?_
  | refine WL.reg ?_
  | refine WOL.nil ?_
  | refine WL.skip ?_
  | refine WOL.now (b:=true) rfl rfl ?_
  | refine WOL.now (b:=false) rfl rfl ?_
  | refine WOL.skp (b:=true) rfl rfl ?_
  | refine WOL.skp (b:=false) rfl rfl ?_
  | refine WOL.gu rfl rfl ?_
  | refine WOL.mv rfl ?_
  | refine WOL.as rfl ?_
  | refine WOL.ex rfl rfl ?_
  | refine WOL.nt rfl ?_
  | refine WOL.pkt rfl rfl ?_
  | refine WOL.pkf rfl rfl ?_
  | refine WL.yes rfl ?_
  | refine WL.no rfl ?_
  | refine WOL.ld rfl (load_one (by first | exact tp25 | exact tp3 | exact tp43) (by first | with_reducible assumption | assumption) (by rfl)) ?_
  | refine WOL.ld rfl (load_row (by first | exact tp25 | exact tp3 | exact tp43) (by first | with_reducible assumption | assumption) rfl (Nat.le_of_ble_eq_true rfl)) ?_
  | refine WOL.len rfl (by first | with_reducible assumption | assumption) (by first | exact u43 | exact u29) ?_
  | refine WOL.add rfl rfl (by omega) (by omega) ?_
  | refine WOL.sub rfl rfl (by omega) (by omega) ?_
  | refine WOL.mul rfl rfl (by omega) (by omega) ?_
  | refine WOL.bt rfl rfl rfl (by first | exact decide_eq_true (by omega) | exact beq_iff_eq.2 (by omega) | exact bne_iff_ne.2 (by omega)) ?_
  | refine WOL.bf rfl rfl rfl (by first | exact decide_eq_false (by omega) | exact beq_eq_false_iff_ne.2 (by omega) | exact bne_eq_false_iff_eq.2 (by omega)) ?_)
 refine WOL.cl1 rfl rfl ((k1258 H (t.hx X1) (by omega)).mono ?_)
 rintro u g2 ⟨X2,b2,m2,k2,rfl,t2,_⟩
 have Y2:=X1.trans X2
 refine WOL.cl2 rfl rfl rfl ((k1301o H X (s1.hx X2) t2 lv lw (by omega) e ok1 (f.on Y2)).mono ?_)
 rintro u g3 ⟨X3,v17,rfl,r17⟩
 have Y3:=Y2.trans X3
 repeat' (first
  | refine WL.sr ?_
  | refine WL.seq ?_
  | refine WL.reg ?_
  | refine WOL.nil ?_
  | refine WL.skip ?_
  | refine WOL.now (b:=true) rfl rfl ?_
  | refine WOL.now (b:=false) rfl rfl ?_
  | refine WOL.skp (b:=true) rfl rfl ?_
  | refine WOL.skp (b:=false) rfl rfl ?_
  | refine WOL.gu rfl rfl ?_
  | refine WOL.mv rfl ?_
  | refine WOL.as rfl ?_
  | refine WOL.ex rfl rfl ?_
  | refine WOL.nt rfl ?_
  | refine WOL.pkt rfl rfl ?_
  | refine WOL.pkf rfl rfl ?_
  | refine WL.yes rfl ?_
  | refine WL.no rfl ?_
  | refine WOL.ld rfl (load_one (by first | exact tp25 | exact tp3 | exact tp43) (by first | with_reducible assumption | assumption) (by rfl)) ?_
  | refine WOL.ld rfl (load_row (by first | exact tp25 | exact tp3 | exact tp43) (by first | with_reducible assumption | assumption) rfl (Nat.le_of_ble_eq_true rfl)) ?_
  | refine WOL.len rfl (by first | with_reducible assumption | assumption) (by first | exact u43 | exact u29) ?_
  | refine WOL.add rfl rfl (by omega) (by omega) ?_
  | refine WOL.sub rfl rfl (by omega) (by omega) ?_
  | refine WOL.mul rfl rfl (by omega) (by omega) ?_
  | refine WOL.bt rfl rfl rfl (by first | exact decide_eq_true (by omega) | exact beq_iff_eq.2 (by omega) | exact bne_iff_ne.2 (by omega)) ?_
  | refine WOL.bf rfl rfl rfl (by first | exact decide_eq_false (by omega) | exact beq_eq_false_iff_ne.2 (by omega) | exact bne_eq_false_iff_eq.2 (by omega)) ?_)
 refine WOL.cl1 rfl rfl ((k1258 H (t.hx Y3) (by omega)).mono ?_)
 rintro u g4 ⟨X4,b4,m4,k4,rfl,t4,_⟩
 have Y4:=Y3.trans X4
 repeat' (first
  | refine WL.sr ?_
  | refine WL.seq ?_
  | refine WL.reg ?_
  | refine WOL.nil ?_
  | refine WL.skip ?_
  | refine WOL.now (b:=true) rfl rfl ?_
  | refine WOL.now (b:=false) rfl rfl ?_
  | refine WOL.skp (b:=true) rfl rfl ?_
  | refine WOL.skp (b:=false) rfl rfl ?_
  | refine WOL.gu rfl rfl ?_
  | refine WOL.mv rfl ?_
  | refine WOL.as rfl ?_
  | refine WOL.ex rfl rfl ?_
  | refine WOL.nt rfl ?_
  | refine WOL.pkt rfl rfl ?_
  | refine WOL.pkf rfl rfl ?_
  | refine WL.yes rfl ?_
  | refine WL.no rfl ?_
  | refine WOL.ld rfl (load_one (by first | exact tp25 | exact tp3 | exact tp43) (by first | with_reducible assumption | assumption) (by rfl)) ?_
  | refine WOL.ld rfl (load_row (by first | exact tp25 | exact tp3 | exact tp43) (by first | with_reducible assumption | assumption) rfl (Nat.le_of_ble_eq_true rfl)) ?_
  | refine WOL.len rfl (by first | with_reducible assumption | assumption) (by first | exact u43 | exact u29) ?_
  | refine WOL.add rfl rfl (by omega) (by omega) ?_
  | refine WOL.sub rfl rfl (by omega) (by omega) ?_
  | refine WOL.mul rfl rfl (by omega) (by omega) ?_
  | refine WOL.bt rfl rfl rfl (by first | exact decide_eq_true (by omega) | exact beq_iff_eq.2 (by omega) | exact bne_iff_ne.2 (by omega)) ?_
  | refine WOL.bf rfl rfl rfl (by first | exact decide_eq_false (by omega) | exact beq_eq_false_iff_ne.2 (by omega) | exact bne_eq_false_iff_eq.2 (by omega)) ?_)
 refine WOL.cl1 rfl rfl ((k1258 H (s.hx Y4) (by omega)).mono ?_)
 rintro u g5 ⟨X5,b5,m5,k5,rfl,s5,_⟩
 have Y5:=Y4.trans X5
 refine WOL.cl2 rfl rfl rfl ((k1301o H X (t4.hx X5) s5 lw lv (by omega) e.symm ok2 (f.on Y5)).mono ?_)
 rintro u g6 ⟨X6,v19,rfl,r19⟩
 have Y6:=Y5.trans X6
 replace r17:=r17.hx ((X4.trans X5).trans X6)
 repeat' (first
  | refine WL.sr ?_
  | refine WL.seq ?_
  | refine WL.reg ?_
  | refine WOL.nil ?_
  | refine WL.skip ?_
  | refine WOL.now (b:=true) rfl rfl ?_
  | refine WOL.now (b:=false) rfl rfl ?_
  | refine WOL.skp (b:=true) rfl rfl ?_
  | refine WOL.skp (b:=false) rfl rfl ?_
  | refine WOL.gu rfl rfl ?_
  | refine WOL.mv rfl ?_
  | refine WOL.as rfl ?_
  | refine WOL.ex rfl rfl ?_
  | refine WOL.nt rfl ?_
  | refine WOL.pkt rfl rfl ?_
  | refine WOL.pkf rfl rfl ?_
  | refine WL.yes rfl ?_
  | refine WL.no rfl ?_
  | refine WOL.ld rfl (load_one (by first | exact tp25 | exact tp3 | exact tp43) (by first | with_reducible assumption | assumption) (by rfl)) ?_
  | refine WOL.ld rfl (load_row (by first | exact tp25 | exact tp3 | exact tp43) (by first | with_reducible assumption | assumption) rfl (Nat.le_of_ble_eq_true rfl)) ?_
  | refine WOL.len rfl (by first | with_reducible assumption | assumption) (by first | exact u43 | exact u29) ?_
  | refine WOL.add rfl rfl (by omega) (by omega) ?_
  | refine WOL.sub rfl rfl (by omega) (by omega) ?_
  | refine WOL.mul rfl rfl (by omega) (by omega) ?_
  | refine WOL.bt rfl rfl rfl (by first | exact decide_eq_true (by omega) | exact beq_iff_eq.2 (by omega) | exact bne_iff_ne.2 (by omega)) ?_
  | refine WOL.bf rfl rfl rfl (by first | exact decide_eq_false (by omega) | exact beq_eq_false_iff_ne.2 (by omega) | exact bne_eq_false_iff_eq.2 (by omega)) ?_)
 refine WOL.cl1 rfl rfl ((k1258o H (s.hx Y6) (by omega) (by omega)).mono ?_)
 rintro u g7 ⟨X7,c8,rfl,hc8,A8⟩
 have x7:=X7.next
 have y8:=A8.lt
 repeat' (first
  | refine WL.sr ?_
  | refine WL.seq ?_
  | refine WL.reg ?_
  | refine WOL.nil ?_
  | refine WL.skip ?_
  | refine WOL.now (b:=true) rfl rfl ?_
  | refine WOL.now (b:=false) rfl rfl ?_
  | refine WOL.skp (b:=true) rfl rfl ?_
  | refine WOL.skp (b:=false) rfl rfl ?_
  | refine WOL.gu rfl rfl ?_
  | refine WOL.mv rfl ?_
  | refine WOL.as rfl ?_
  | refine WOL.ex rfl rfl ?_
  | refine WOL.nt rfl ?_
  | refine WOL.pkt rfl rfl ?_
  | refine WOL.pkf rfl rfl ?_
  | refine WL.yes rfl ?_
  | refine WL.no rfl ?_
  | refine WOL.ld rfl (load_one (by first | exact tp25 | exact tp3 | exact tp43) (by first | with_reducible assumption | assumption) (by rfl)) ?_
  | refine WOL.ld rfl (load_row (by first | exact tp25 | exact tp3 | exact tp43) (by first | with_reducible assumption | assumption) rfl (Nat.le_of_ble_eq_true rfl)) ?_
  | refine WOL.len rfl (by first | with_reducible assumption | assumption) (by first | exact u43 | exact u29) ?_
  | refine WOL.add rfl rfl (by omega) (by omega) ?_
  | refine WOL.sub rfl rfl (by omega) (by omega) ?_
  | refine WOL.mul rfl rfl (by omega) (by omega) ?_
  | refine WOL.bt rfl rfl rfl (by first | exact decide_eq_true (by omega) | exact beq_iff_eq.2 (by omega) | exact bne_iff_ne.2 (by omega)) ?_
  | refine WOL.bf rfl rfl rfl (by first | exact decide_eq_false (by omega) | exact beq_eq_false_iff_ne.2 (by omega) | exact bne_eq_false_iff_eq.2 (by omega)) ?_)
 refine WOL.cl1 rfl rfl ((k1258o H ((t.hx Y6).hx X7) (by omega) (by omega)).mono ?_)
 rintro u g8 ⟨X8,c9,rfl,hc9,A9⟩
 have x8:=X8.next
 have y9:=A9.lt
 have Z8:=X7.trans X8
 replace A8:=A8.hx X8
 refine WOL.bd rfl bd1327<|WOL.al tp1327 fun h9 N9=>WOL.sto (vs:=[slA c8 _,slA c9 _]) rfl rfl tp1327 N9.at_ rfl rfl (Nat.le_of_ble_eq_true rfl) rfl (((f.on Y6).hx Z8).hx N9.hx) (show g6.next≤g8.next by omega) fun g9 P9=>?_
 have X9:=P9.hx _ N9.hx (Nat.le_refl _)
 have Z9:=Z8.trans X9
 have A21:At g9 g8.next (.cells [slA c8 F.length,slA c9 G.length] true true 104):=P9.at_
 have y21:=A21.lt
 replace A8:=A8.hx X9
 replace A9:=A9.hx X9
 have sv:=(s.hx Y6).hx Z9
 repeat' (first
  | refine WL.sr ?_
  | refine WL.seq ?_
  | refine WL.reg ?_
  | refine WOL.nil ?_
  | refine WL.skip ?_
  | refine WOL.now (b:=true) rfl rfl ?_
  | refine WOL.now (b:=false) rfl rfl ?_
  | refine WOL.skp (b:=true) rfl rfl ?_
  | refine WOL.skp (b:=false) rfl rfl ?_
  | refine WOL.gu rfl rfl ?_
  | refine WOL.mv rfl ?_
  | refine WOL.as rfl ?_
  | refine WOL.ex rfl rfl ?_
  | refine WOL.nt rfl ?_
  | refine WOL.pkt rfl rfl ?_
  | refine WOL.pkf rfl rfl ?_
  | refine WL.yes rfl ?_
  | refine WL.no rfl ?_
  | refine WOL.ld rfl (load_one (by first | exact tp25 | exact tp3 | exact tp43) (by first | with_reducible assumption | assumption) (by rfl)) ?_
  | refine WOL.ld rfl (load_row (by first | exact tp25 | exact tp3 | exact tp43) (by first | with_reducible assumption | assumption) rfl (Nat.le_of_ble_eq_true rfl)) ?_
  | refine WOL.len rfl (by first | with_reducible assumption | assumption) (by first | exact u43 | exact u29) ?_
  | refine WOL.add rfl rfl (by omega) (by omega) ?_
  | refine WOL.sub rfl rfl (by omega) (by omega) ?_
  | refine WOL.mul rfl rfl (by omega) (by omega) ?_
  | refine WOL.bt rfl rfl rfl (by first | exact decide_eq_true (by omega) | exact beq_iff_eq.2 (by omega) | exact bne_iff_ne.2 (by omega)) ?_
  | refine WOL.bf rfl rfl rfl (by first | exact decide_eq_false (by omega) | exact beq_eq_false_iff_ne.2 (by omega) | exact bne_eq_false_iff_eq.2 (by omega)) ?_)
 refine keep [(0,_),(1,_),(17,_),(18,_),(19,_),(20,_),(21,_),(171,_),(172,_),(173,_)] ⟨rfl,rfl,rfl,rfl,rfl,rfl,rfl,rfl,rfl,rfl,trivial⟩ ?_
 refine WL.upto (α:=List Nat × List Nat) F.length (fun j RQ g=>HX g6 g∧g9.next≤g.next∧At g c8 (.cells (cat encF RQ.1) false true 76)∧At g c9 (.cells (cat encF RQ.2) false true 76)∧At g g8.next (.cells [slA c8 F.length,slA c9 G.length] true true 104)∧MixS j 16 F L RQ.1∧MixS j 16 G M RQ.2) (fun _ _=>[(0,v),(1,w),(17,v17),(18,zi 0),(19,v19),(20,zi 0),(21,ptr g8.next),(171,v),(172,zi (F.length:Nat))]) (F,G) rfl rfl (by omega) ⟨Z9,Nat.le_refl _,A8,A9,A21,⟨rfl,fun i hi=>absurd hi (by omega),fun _ _=>rfl⟩,⟨rfl,fun i hi=>absurd hi (by omega),fun _ _=>rfl⟩⟩ ⟨rfl,rfl,rfl,rfl,rfl,rfl,rfl,rfl,rfl,rfl,trivial⟩ (fun _ _=>rfl) (fun _ _ _=>⟨rfl,rfl,rfl,rfl,rfl,rfl,rfl,rfl,rfl,rfl,trivial⟩) (fun _ _ _=>⟨rfl,rfl,rfl,rfl,rfl,rfl,rfl,rfl,rfl,rfl,trivial⟩) ?_ ?_
 ·rintro j ⟨R,Q⟩ g hj ⟨Xg,nx,W8,W9,W21,mR,mQ⟩
  replace W8:At g c8 (.cells (cat encF R) false true 76):=W8
  replace W9:At g c9 (.cells (cat encF Q) false true 76):=W9
  replace mR:MixS j 16 F L R:=mR
  replace mQ:MixS j 16 G M Q:=mQ
  have hR:R.length=F.length:=mR.1
  have hQ:Q.length=G.length:=mQ.1
  have hq:R[j]?=some F[j]:=(mR.2.2 j (Nat.le_refl _)).trans (List.getElem?_eq_getElem _)
  have hq':Q[j]?=some (G[j]'(by omega)):=(mQ.2.2 j (Nat.le_refl _)).trans (List.getElem?_eq_getElem _)
  have sm:=(lv.2 j _ _ (List.getElem?_eq_getElem hj) (at_getD (by omega))).x
  have sm':=(lw.2 j _ _ (List.getElem?_eq_getElem (by omega)) (at_getD (by omega))).x
  have b1:=hl j (by omega)
  have b2:=hm j (by omega)
  obtain ⟨_,_,cb,fb',wb,elb,c1,c2,c3,c4,c5'⟩:=(SlL.own eF W8 hR:SlL encF 1 g (slA c8 F.length) R).at eF u43 tp25 hq .i64
  have gxb:=c5' 0 (by decide)
  rw [Nat.add_zero] at gxb
  repeat' (first
  | refine WOL.ix rfl rfl ix1327_0 ?_
  | refine WOL.ld rfl (load_one tp43 W21 rfl) ?_
  | refine WOL.ix rfl rfl c1 ?_
  | refine WOL.ld rfl (load_one tp25 c2 gxb) ?_
  | refine WL.sr ?_
  | refine WL.seq ?_
  | refine WL.reg ?_
  | refine WOL.nil ?_
  | refine WL.skip ?_
  | refine WOL.now (b:=true) rfl rfl ?_
  | refine WOL.now (b:=false) rfl rfl ?_
  | refine WOL.skp (b:=true) rfl rfl ?_
  | refine WOL.skp (b:=false) rfl rfl ?_
  | refine WOL.gu rfl rfl ?_
  | refine WOL.mv rfl ?_
  | refine WOL.as rfl ?_
  | refine WOL.ex rfl rfl ?_
  | refine WOL.nt rfl ?_
  | refine WOL.pkt rfl rfl ?_
  | refine WOL.pkf rfl rfl ?_
  | refine WL.yes rfl ?_
  | refine WL.no rfl ?_
  | refine WOL.ld rfl (load_one (by first | exact tp25 | exact tp3 | exact tp43) (by first | with_reducible assumption | assumption) (by rfl)) ?_
  | refine WOL.ld rfl (load_row (by first | exact tp25 | exact tp3 | exact tp43) (by first | with_reducible assumption | assumption) rfl (Nat.le_of_ble_eq_true rfl)) ?_
  | refine WOL.len rfl (by first | with_reducible assumption | assumption) (by first | exact u43 | exact u29) ?_
  | refine WOL.add rfl rfl (by omega) (by omega) ?_
  | refine WOL.sub rfl rfl (by omega) (by omega) ?_
  | refine WOL.mul rfl rfl (by omega) (by omega) ?_
  | refine WOL.bt rfl rfl rfl (by first | exact decide_eq_true (by omega) | exact beq_iff_eq.2 (by omega) | exact bne_iff_ne.2 (by omega)) ?_
  | refine WOL.bf rfl rfl rfl (by first | exact decide_eq_false (by omega) | exact beq_eq_false_iff_ne.2 (by omega) | exact bne_eq_false_iff_eq.2 (by omega)) ?_)
  refine WOL.fadd sm one_x (by omega) (by omega) rfl rfl fun r1 s1=>?_
  refine WOL.ix rfl rfl (indexAddr_tp (j:=j) u43 tp25 hj)<|WOL.sto (vs:=encF r1) rfl rfl tp25 W8 rfl rfl (by rw [eF.cat_len];omega) rfl ((f.on Y6).hx Xg) hc8 fun g5 P5=>?_
  have X5:=P5.hx _ Xg hc8
  have W8':=P5.at_
  rw [Nat.zero_add,eF.set (by omega)] at W8'
  have W9':=P5.oth _ _ (by omega) W9
  have W21':=P5.oth _ _ (by omega) W21
  have n5:=P5.next
  obtain ⟨_,_,cd,fd',wd,eld,d1,d2,d3,d4,d5'⟩:=(SlL.own eF W9' hQ:SlL encF 1 g5 (slA c9 G.length) Q).at eF u43 tp25 hq' .i64
  have gxd:=d5' 0 (by decide)
  rw [Nat.add_zero] at gxd
  repeat' (first
  | refine WOL.ix rfl rfl ix1327_1 ?_
  | refine WOL.ld rfl (load_one tp43 W21' rfl) ?_
  | refine WOL.ix rfl rfl d1 ?_
  | refine WOL.ld rfl (load_one tp25 d2 gxd) ?_
  | refine WL.sr ?_
  | refine WL.seq ?_
  | refine WL.reg ?_
  | refine WOL.nil ?_
  | refine WL.skip ?_
  | refine WOL.now (b:=true) rfl rfl ?_
  | refine WOL.now (b:=false) rfl rfl ?_
  | refine WOL.skp (b:=true) rfl rfl ?_
  | refine WOL.skp (b:=false) rfl rfl ?_
  | refine WOL.gu rfl rfl ?_
  | refine WOL.mv rfl ?_
  | refine WOL.as rfl ?_
  | refine WOL.ex rfl rfl ?_
  | refine WOL.nt rfl ?_
  | refine WOL.pkt rfl rfl ?_
  | refine WOL.pkf rfl rfl ?_
  | refine WL.yes rfl ?_
  | refine WL.no rfl ?_
  | refine WOL.ld rfl (load_one (by first | exact tp25 | exact tp3 | exact tp43) (by first | with_reducible assumption | assumption) (by rfl)) ?_
  | refine WOL.ld rfl (load_row (by first | exact tp25 | exact tp3 | exact tp43) (by first | with_reducible assumption | assumption) rfl (Nat.le_of_ble_eq_true rfl)) ?_
  | refine WOL.len rfl (by first | with_reducible assumption | assumption) (by first | exact u43 | exact u29) ?_
  | refine WOL.add rfl rfl (by omega) (by omega) ?_
  | refine WOL.sub rfl rfl (by omega) (by omega) ?_
  | refine WOL.mul rfl rfl (by omega) (by omega) ?_
  | refine WOL.bt rfl rfl rfl (by first | exact decide_eq_true (by omega) | exact beq_iff_eq.2 (by omega) | exact bne_iff_ne.2 (by omega)) ?_
  | refine WOL.bf rfl rfl rfl (by first | exact decide_eq_false (by omega) | exact beq_eq_false_iff_ne.2 (by omega) | exact bne_eq_false_iff_eq.2 (by omega)) ?_)
  refine WOL.fadd sm' one_x (by omega) (by omega) rfl rfl fun r2 s2=>?_
  refine WOL.ix rfl rfl (indexAddr_tp (j:=j) u43 tp25 (by omega))<|WOL.sto (vs:=encF r2) rfl rfl tp25 W9' rfl rfl (by rw [eF.cat_len];omega) rfl ((f.on Y6).hx X5) (by omega) fun g6' P6=>WOL.nil fun y k=>⟨(R.set j r1,Q.set j r2),⟨P6.hx _ X5 (by omega),by rw [P6.next];omega,P6.oth _ _ (by omega) W8',?_,P6.oth _ _ (by omega) W21',mR.set hj ⟨s1.ok,by omega⟩,mQ.set (by omega) ⟨s2.ok,by omega⟩⟩,k.sub ⟨rfl,rfl,rfl,rfl,rfl,rfl,rfl,rfl,rfl,rfl,trivial⟩⟩
  have:=P6.at_
  rw [Nat.zero_add,eF.set (by omega)] at this
  exact this
 ·rintro ⟨R,Q⟩ g ⟨Xg,nx,W8,W9,W21,mR,mQ⟩
  replace W8:At g c8 (.cells (cat encF R) false true 76):=W8
  replace W9:At g c9 (.cells (cat encF Q) false true 76):=W9
  have hR:R.length=F.length:=mR.1
  have hQ:Q.length=G.length:=mQ.1
  have lR:=mR.lev ll
  have lQ:Lev Q (addLI M 16):=by rw [e] at mQ;exact mQ.lev lm
  have Yg:=Y6.trans Xg
  refine keep [(0,_),(1,_),(17,_),(18,_),(19,_),(20,_),(21,_)] ⟨rfl,rfl,rfl,rfl,rfl,rfl,rfl,trivial⟩ ?_
  repeat' (first
  | refine WL.sr ?_
  | refine WL.seq ?_
  | refine WL.reg ?_
  | refine WOL.nil ?_
  | refine WL.skip ?_
  | refine WOL.now (b:=true) rfl rfl ?_
  | refine WOL.now (b:=false) rfl rfl ?_
  | refine WOL.skp (b:=true) rfl rfl ?_
  | refine WOL.skp (b:=false) rfl rfl ?_
  | refine WOL.gu rfl rfl ?_
  | refine WOL.mv rfl ?_
  | refine WOL.as rfl ?_
  | refine WOL.ex rfl rfl ?_
  | refine WOL.nt rfl ?_
  | refine WOL.pkt rfl rfl ?_
  | refine WOL.pkf rfl rfl ?_
  | refine WL.yes rfl ?_
  | refine WL.no rfl ?_
  | refine WOL.ld rfl (load_one (by first | exact tp25 | exact tp3 | exact tp43) (by first | with_reducible assumption | assumption) (by rfl)) ?_
  | refine WOL.ld rfl (load_row (by first | exact tp25 | exact tp3 | exact tp43) (by first | with_reducible assumption | assumption) rfl (Nat.le_of_ble_eq_true rfl)) ?_
  | refine WOL.len rfl (by first | with_reducible assumption | assumption) (by first | exact u43 | exact u29) ?_
  | refine WOL.add rfl rfl (by omega) (by omega) ?_
  | refine WOL.sub rfl rfl (by omega) (by omega) ?_
  | refine WOL.mul rfl rfl (by omega) (by omega) ?_
  | refine WOL.bt rfl rfl rfl (by first | exact decide_eq_true (by omega) | exact beq_iff_eq.2 (by omega) | exact bne_iff_ne.2 (by omega)) ?_
  | refine WOL.bf rfl rfl rfl (by first | exact decide_eq_false (by omega) | exact beq_eq_false_iff_ne.2 (by omega) | exact bne_eq_false_iff_eq.2 (by omega)) ?_)
  refine WOL.cl1 rfl rfl ((k1258 H (s.hx Yg) (by omega)).mono ?_)
  rintro u g11 ⟨X11,b11,m11,k11,rfl,s11,_⟩
  have Y11:=Yg.trans X11
  repeat' (first
  | refine WL.sr ?_
  | refine WL.seq ?_
  | refine WL.reg ?_
  | refine WOL.nil ?_
  | refine WL.skip ?_
  | refine WOL.now (b:=true) rfl rfl ?_
  | refine WOL.now (b:=false) rfl rfl ?_
  | refine WOL.skp (b:=true) rfl rfl ?_
  | refine WOL.skp (b:=false) rfl rfl ?_
  | refine WOL.gu rfl rfl ?_
  | refine WOL.mv rfl ?_
  | refine WOL.as rfl ?_
  | refine WOL.ex rfl rfl ?_
  | refine WOL.nt rfl ?_
  | refine WOL.pkt rfl rfl ?_
  | refine WOL.pkf rfl rfl ?_
  | refine WL.yes rfl ?_
  | refine WL.no rfl ?_
  | refine WOL.ld rfl (load_one (by first | exact tp25 | exact tp3 | exact tp43) (by first | with_reducible assumption | assumption) (by rfl)) ?_
  | refine WOL.ld rfl (load_row (by first | exact tp25 | exact tp3 | exact tp43) (by first | with_reducible assumption | assumption) rfl (Nat.le_of_ble_eq_true rfl)) ?_
  | refine WOL.len rfl (by first | with_reducible assumption | assumption) (by first | exact u43 | exact u29) ?_
  | refine WOL.add rfl rfl (by omega) (by omega) ?_
  | refine WOL.sub rfl rfl (by omega) (by omega) ?_
  | refine WOL.mul rfl rfl (by omega) (by omega) ?_
  | refine WOL.bt rfl rfl rfl (by first | exact decide_eq_true (by omega) | exact beq_iff_eq.2 (by omega) | exact bne_iff_ne.2 (by omega)) ?_
  | refine WOL.bf rfl rfl rfl (by first | exact decide_eq_false (by omega) | exact beq_eq_false_iff_ne.2 (by omega) | exact bne_eq_false_iff_eq.2 (by omega)) ?_)
  refine WOL.cl1 rfl rfl ((k1258 H (t.hx Y11) (by omega)).mono ?_)
  rintro u g12 ⟨X12,b12,m12,k12,rfl,t12,_⟩
  have Y12:=Y11.trans X12
  refine WOL.cl3 rfl rfl rfl rfl ((k1303o (z:=1435) H X (s11.hx X12) t12 lv lw (by omega) e (by decide) (f.on Y12)).mono ?_)
  rintro u g13 ⟨X13,v23,rfl,s23⟩
  have Y13:=Y12.trans X13
  have Z13:=(X11.trans X12).trans X13
  have U21:=W21.hx Z13
  have U8:=W8.hx Z13
  have U9:=W9.hx Z13
  repeat' (first
  | refine WOL.ix rfl rfl ix1327_0 ?_
  | refine WOL.ix rfl rfl ix1327_1 ?_
  | refine WOL.ld rfl (load_one tp43 U21 rfl) ?_
  | refine WL.sr ?_
  | refine WL.seq ?_
  | refine WL.reg ?_
  | refine WOL.nil ?_
  | refine WL.skip ?_
  | refine WOL.now (b:=true) rfl rfl ?_
  | refine WOL.now (b:=false) rfl rfl ?_
  | refine WOL.skp (b:=true) rfl rfl ?_
  | refine WOL.skp (b:=false) rfl rfl ?_
  | refine WOL.gu rfl rfl ?_
  | refine WOL.mv rfl ?_
  | refine WOL.as rfl ?_
  | refine WOL.ex rfl rfl ?_
  | refine WOL.nt rfl ?_
  | refine WOL.pkt rfl rfl ?_
  | refine WOL.pkf rfl rfl ?_
  | refine WL.yes rfl ?_
  | refine WL.no rfl ?_
  | refine WOL.ld rfl (load_one (by first | exact tp25 | exact tp3 | exact tp43) (by first | with_reducible assumption | assumption) (by rfl)) ?_
  | refine WOL.ld rfl (load_row (by first | exact tp25 | exact tp3 | exact tp43) (by first | with_reducible assumption | assumption) rfl (Nat.le_of_ble_eq_true rfl)) ?_
  | refine WOL.len rfl (by first | with_reducible assumption | assumption) (by first | exact u43 | exact u29) ?_
  | refine WOL.add rfl rfl (by omega) (by omega) ?_
  | refine WOL.sub rfl rfl (by omega) (by omega) ?_
  | refine WOL.mul rfl rfl (by omega) (by omega) ?_
  | refine WOL.bt rfl rfl rfl (by first | exact decide_eq_true (by omega) | exact beq_iff_eq.2 (by omega) | exact bne_iff_ne.2 (by omega)) ?_
  | refine WOL.bf rfl rfl rfl (by first | exact decide_eq_false (by omega) | exact beq_eq_false_iff_ne.2 (by omega) | exact bne_eq_false_iff_eq.2 (by omega)) ?_)
  refine WOL.cl3 rfl rfl rfl rfl ((k1303o (z:=1435) H X (SlL.own eF U8 hR) (SlL.own eF U9 hQ) lR lQ (by omega) (by omega) (by decide) (f.on Y13)).mono ?_)
  rintro u g14 ⟨X14,v25,rfl,s25⟩
  have Y14:=Y13.trans X14
  have Z14:=Xg.trans (Z13.trans X14)
  replace r17:=r17.hx Z14
  replace r19:=r19.hx Z14
  replace s23:=s23.hx X14
  have n17:=r17.ln
  have n19:=r19.ln
  have s14:=s.hx Y14
  have e17:(List.zipWith dif L M).length=F.length:=by rw [List.length_zipWith];omega
  have e19:(List.zipWith dif M L).length=F.length:=by rw [List.length_zipWith];omega
  have e23:(gauL 1435 L M).length=F.length:=by unfold gauL;rw [List.length_zipWith];omega
  have e25:(gauL 1435 (addLI L 16) (addLI M 16)).length=F.length:=by unfold gauL;rw [List.length_zipWith,add_len,add_len];omega
  repeat' (first
  | refine WOL.len rfl n17 u43 ?_
  | refine WOL.len rfl n19 u43 ?_
  | refine WOL.len rfl s14 u43 ?_
  | refine WOL.len rfl s23 u29 ?_
  | refine WOL.len rfl s25 u29 ?_
  | refine WL.sr ?_
  | refine WL.seq ?_
  | refine WL.reg ?_
  | refine WOL.nil ?_
  | refine WL.skip ?_
  | refine WOL.now (b:=true) rfl rfl ?_
  | refine WOL.now (b:=false) rfl rfl ?_
  | refine WOL.skp (b:=true) rfl rfl ?_
  | refine WOL.skp (b:=false) rfl rfl ?_
  | refine WOL.gu rfl rfl ?_
  | refine WOL.mv rfl ?_
  | refine WOL.as rfl ?_
  | refine WOL.ex rfl rfl ?_
  | refine WOL.nt rfl ?_
  | refine WOL.pkt rfl rfl ?_
  | refine WOL.pkf rfl rfl ?_
  | refine WL.yes rfl ?_
  | refine WL.no rfl ?_
  | refine WOL.ld rfl (load_one (by first | exact tp25 | exact tp3 | exact tp43) (by first | with_reducible assumption | assumption) (by rfl)) ?_
  | refine WOL.ld rfl (load_row (by first | exact tp25 | exact tp3 | exact tp43) (by first | with_reducible assumption | assumption) rfl (Nat.le_of_ble_eq_true rfl)) ?_
  | refine WOL.len rfl (by first | with_reducible assumption | assumption) (by first | exact u43 | exact u29) ?_
  | refine WOL.add rfl rfl (by omega) (by omega) ?_
  | refine WOL.sub rfl rfl (by omega) (by omega) ?_
  | refine WOL.mul rfl rfl (by omega) (by omega) ?_
  | refine WOL.bt rfl rfl rfl (by first | exact decide_eq_true (by omega) | exact beq_iff_eq.2 (by omega) | exact bne_iff_ne.2 (by omega)) ?_
  | refine WOL.bf rfl rfl rfl (by first | exact decide_eq_false (by omega) | exact beq_eq_false_iff_ne.2 (by omega) | exact bne_eq_false_iff_eq.2 (by omega)) ?_)
  exact kto (k1252d H X K (Gl.hx Y14) (f.on Y14) s14 lv (t.hx Y14) lw h2 hF e hl hm r17 r19 s23 s25) ⟨rfl,rfl,rfl,rfl,rfl,rfl,trivial⟩
set_option maxHeartbeats 4000000 in
set_option maxRecDepth 100000 in
theorem k1252b (H:Has tp) (X:HasX tp) (K:Awk tp) (Gl:Glob h) (f:Free0 h.next h) (s:SlL encF 1 h v F) (lv:Lev F L) (t:SlL encF 1 h w G) (lw:Lev G M) (h2:2≤F.length) (hF:F.length≤24) (e:F.length=G.length) (hl:∀ j,j < L.length→-3200≤L.getD j 0∧L.getD j 0≤3200) (hm:∀ j,j < M.length→-3200≤M.getD j 0∧M.getD j 0≤3200) (ha:a≤8) (hb:b≤8)
  (r9:RF h v9 (twL (a+b) L)) (r11:RF h v11 (twL a L)) (r13:RF h v13 (twL b L)) :
  ∀ r,Kn [(0,v),(1,w),(7,zi (a:Nat)),(9,v9),(11,v11),(13,v13)] r→W Tryz.prog tp false cd1252b r h (Fin Tryz.prog [.tmp 6] fun v _=>v=.bool true):=by
 unfold cd1252b
 have ll:=lv.1
 have l9:(twL (a+b) L).length=L.length - (a+b):=tw_len
 have l11:(twL a L).length=L.length - a:=tw_len
 have l13:(twL b L).length=L.length - b:=tw_len
 have ln:=r9.ln
 refine WL.seq<|WL.sr<|WOL.mv rfl<|WOL.len rfl ln u43<|WOL.mv rfl<|WOL.nil<|keep [(0,_),(1,_),(7,_),(9,_),(11,_),(13,_),(129,_),(130,_),(131,_)] ⟨rfl,rfl,rfl,rfl,rfl,rfl,rfl,rfl,rfl,trivial⟩ ?_
 refine WL.upto (α:=Unit) (twL (a+b) L).length (fun _ _ g=>g=h) (fun j _=>[(0,v),(1,w),(7,zi (a:Nat)),(9,v9),(11,v11),(13,v13),(129,v9),(130,zi ((twL (a+b) L).length:Nat))]) () rfl rfl (by omega) rfl ⟨rfl,rfl,rfl,rfl,rfl,rfl,rfl,rfl,rfl,trivial⟩ (fun _ _=>rfl) (fun _ _ _=>⟨rfl,rfl,rfl,rfl,rfl,rfl,rfl,rfl,rfl,trivial⟩) (fun _ _ _=>⟨rfl,rfl,rfl,rfl,rfl,rfl,rfl,rfl,rfl,trivial⟩) ?_ ?_
 ·rintro j _ g hj rfl
  obtain ⟨p1,c1,a1,l1,s1⟩:=r9.at (i:=(j:Nat)) (by omega) (by omega)
  obtain ⟨p2,c2,a2,l2,s2⟩:=r11.at (i:=(j:Nat)) (by omega) (by omega)
  obtain ⟨p3,c3,a3,l3,s3⟩:=r13.at (i:=(j:Int)+(a:Int)) (by omega) (by omega)
  rw [Int.toNat_natCast,tw_get (by omega)] at s1 s2
  rw [show ((j:Int)+(a:Int)).toNat=j+a by omega,tw_get (by omega)] at s3
  have b1:=hl j (by omega)
  have b2:=hl (j+a) (by omega)
  have b3:=hl (j+a+b) (by omega)
  rw [← Nat.add_assoc] at s1
  repeat' (first
  | refine WOL.ix rfl rfl a1 ?_
  | refine WOL.ix rfl rfl a2 ?_
  | refine WOL.ix rfl rfl a3 ?_
  | refine WOL.ld rfl l1 ?_
  | refine WOL.ld rfl l2 ?_
  | refine WOL.ld rfl l3 ?_
  | (refine WOL.fadd s2.x s3.x (by omega) (by omega) rfl rfl ?_;intro q1 n1;rw [show L.getD (j+a) 0 - L.getD j 0+(L.getD (j+a+b) 0 - L.getD (j+a) 0)=L.getD (j+a+b) 0 - L.getD j 0 by omega] at n1)
  | refine WOL.fnx s1.x n1 rfl rfl ?_
  | refine WL.sr ?_
  | refine WL.seq ?_
  | refine WL.reg ?_
  | refine WOL.nil ?_
  | refine WL.skip ?_
  | refine WOL.now (b:=true) rfl rfl ?_
  | refine WOL.now (b:=false) rfl rfl ?_
  | refine WOL.skp (b:=true) rfl rfl ?_
  | refine WOL.skp (b:=false) rfl rfl ?_
  | refine WOL.gu rfl rfl ?_
  | refine WOL.mv rfl ?_
  | refine WOL.as rfl ?_
  | refine WOL.ex rfl rfl ?_
  | refine WOL.nt rfl ?_
  | refine WOL.pkt rfl rfl ?_
  | refine WOL.pkf rfl rfl ?_
  | refine WL.yes rfl ?_
  | refine WL.no rfl ?_
  | refine WOL.ld rfl (load_one (by first | exact tp25 | exact tp3 | exact tp43) (by first | with_reducible assumption | assumption) (by rfl)) ?_
  | refine WOL.ld rfl (load_row (by first | exact tp25 | exact tp3 | exact tp43) (by first | with_reducible assumption | assumption) rfl (Nat.le_of_ble_eq_true rfl)) ?_
  | refine WOL.len rfl (by first | with_reducible assumption | assumption) (by first | exact u43 | exact u29) ?_
  | refine WOL.add rfl rfl (by omega) (by omega) ?_
  | refine WOL.sub rfl rfl (by omega) (by omega) ?_
  | refine WOL.mul rfl rfl (by omega) (by omega) ?_
  | refine WOL.bt rfl rfl rfl (by first | exact decide_eq_true (by omega) | exact beq_iff_eq.2 (by omega) | exact bne_iff_ne.2 (by omega)) ?_
  | refine WOL.bf rfl rfl rfl (by first | exact decide_eq_false (by omega) | exact beq_eq_false_iff_ne.2 (by omega) | exact bne_eq_false_iff_eq.2 (by omega)) ?_)
  exact fun y k=>⟨(),rfl,k.sub ⟨rfl,rfl,rfl,rfl,rfl,rfl,rfl,rfl,rfl,trivial⟩⟩
 ·rintro _ g rfl
  exact kto (k1252c H X K Gl f s lv t lw h2 hF e hl hm) ⟨rfl,rfl,trivial⟩
set_option maxHeartbeats 4000000 in
set_option maxRecDepth 100000 in
theorem k1252a (H:Has tp) (X:HasX tp) (K:Awk tp) (Gl:Glob h) (f:Free0 h.next h) (A5:At h c5 (.cells [.int .u8 p,.int .u8 q] true true 100)) (hp:0≤p∧p≤255) (hq:0≤q∧q≤255) (s:SlL encF 1 h v F) (lv:Lev F L) (t:SlL encF 1 h w G) (lw:Lev G M) (h2:2≤F.length) (hF:F.length≤24) (e:F.length=G.length) (hl:∀ j,j < L.length→-3200≤L.getD j 0∧L.getD j 0≤3200) (hm:∀ j,j < M.length→-3200≤M.getD j 0∧M.getD j 0≤3200) :
  ∀ r,Kn [(0,v),(1,w),(5,ptr c5)] r→W Tryz.prog tp false cd1252a r h (Fin Tryz.prog [.tmp 6] fun v _=>v=.bool true):=by
 unfold cd1252a
 have ll:=lv.1
 have e1:IntKind.i64.wrap p=p:=IntWalk.i64_in _ (by omega)
 have e2:IntKind.i64.wrap q=q:=IntWalk.i64_in _ (by omega)
 obtain ⟨a,ha⟩:∃ a:Nat,1+p % 8=a:=⟨(1+p % 8).toNat,by omega⟩
 obtain ⟨b,hb⟩:∃ b:Nat,1+q % 8=b:=⟨(1+q % 8).toNat,by omega⟩
 have okT:∀ n,∀ x,x ∈ twL n L→okI x=true:=fun n=>mem_ok (B:=6400) (by decide) fun j hj=>by
  rw [tw_len] at hj
  rw [tw_get hj]
  have b1:=hl j (by omega)
  have b2:=hl (j+n) (by omega)
  omega
 refine WL.sr<|WOL.ix rfl rfl ix1032_0<|WOL.ld rfl (load_one tp5i A5 rfl)<|WOL.cvK u5i Tryz.underlying3 rfl e1<|WOL.rem rfl rfl (by omega) (by decide)<|WOL.add rfl rfl (by omega) (by omega)<|WOL.ix rfl rfl ix1032_1<|WOL.ld rfl (load_one tp5i A5 rfl)<|WOL.cvK u5i Tryz.underlying3 rfl e2<|WOL.rem rfl rfl (by omega) (by decide)<|WOL.add rfl rfl (by omega) (by omega) ?_
 rw [ha,hb]
 refine WOL.as rfl<|WOL.as rfl<|WOL.nil<|keep [(0,_),(1,_),(7,_),(8,_)] ⟨rfl,rfl,rfl,rfl,trivial⟩ ?_
 repeat' (first
  | refine WL.sr ?_
  | refine WL.seq ?_
  | refine WL.reg ?_
  | refine WOL.nil ?_
  | refine WL.skip ?_
  | refine WOL.now (b:=true) rfl rfl ?_
  | refine WOL.now (b:=false) rfl rfl ?_
  | refine WOL.skp (b:=true) rfl rfl ?_
  | refine WOL.skp (b:=false) rfl rfl ?_
  | refine WOL.gu rfl rfl ?_
  | refine WOL.mv rfl ?_
  | refine WOL.as rfl ?_
  | refine WOL.ex rfl rfl ?_
  | refine WOL.nt rfl ?_
  | refine WOL.pkt rfl rfl ?_
  | refine WOL.pkf rfl rfl ?_
  | refine WL.yes rfl ?_
  | refine WL.no rfl ?_
  | refine WOL.ld rfl (load_one (by first | exact tp25 | exact tp3 | exact tp43) (by first | with_reducible assumption | assumption) (by rfl)) ?_
  | refine WOL.ld rfl (load_row (by first | exact tp25 | exact tp3 | exact tp43) (by first | with_reducible assumption | assumption) rfl (Nat.le_of_ble_eq_true rfl)) ?_
  | refine WOL.len rfl (by first | with_reducible assumption | assumption) (by first | exact u43 | exact u29) ?_
  | refine WOL.add rfl rfl (by omega) (by omega) ?_
  | refine WOL.sub rfl rfl (by omega) (by omega) ?_
  | refine WOL.mul rfl rfl (by omega) (by omega) ?_
  | refine WOL.bt rfl rfl rfl (by first | exact decide_eq_true (by omega) | exact beq_iff_eq.2 (by omega) | exact bne_iff_ne.2 (by omega)) ?_
  | refine WOL.bf rfl rfl rfl (by first | exact decide_eq_false (by omega) | exact beq_eq_false_iff_ne.2 (by omega) | exact bne_eq_false_iff_eq.2 (by omega)) ?_)
 refine WOL.cl1 rfl rfl ((k1258 H s (by omega)).mono ?_)
 rintro u g1 ⟨X1,b1,m1,k1,rfl,s1,_⟩
 repeat' (first
  | refine WL.sr ?_
  | refine WL.seq ?_
  | refine WL.reg ?_
  | refine WOL.nil ?_
  | refine WL.skip ?_
  | refine WOL.now (b:=true) rfl rfl ?_
  | refine WOL.now (b:=false) rfl rfl ?_
  | refine WOL.skp (b:=true) rfl rfl ?_
  | refine WOL.skp (b:=false) rfl rfl ?_
  | refine WOL.gu rfl rfl ?_
  | refine WOL.mv rfl ?_
  | refine WOL.as rfl ?_
  | refine WOL.ex rfl rfl ?_
  | refine WOL.nt rfl ?_
  | refine WOL.pkt rfl rfl ?_
  | refine WOL.pkf rfl rfl ?_
  | refine WL.yes rfl ?_
  | refine WL.no rfl ?_
  | refine WOL.ld rfl (load_one (by first | exact tp25 | exact tp3 | exact tp43) (by first | with_reducible assumption | assumption) (by rfl)) ?_
  | refine WOL.ld rfl (load_row (by first | exact tp25 | exact tp3 | exact tp43) (by first | with_reducible assumption | assumption) rfl (Nat.le_of_ble_eq_true rfl)) ?_
  | refine WOL.len rfl (by first | with_reducible assumption | assumption) (by first | exact u43 | exact u29) ?_
  | refine WOL.add rfl rfl (by omega) (by omega) ?_
  | refine WOL.sub rfl rfl (by omega) (by omega) ?_
  | refine WOL.mul rfl rfl (by omega) (by omega) ?_
  | refine WOL.bt rfl rfl rfl (by first | exact decide_eq_true (by omega) | exact beq_iff_eq.2 (by omega) | exact bne_iff_ne.2 (by omega)) ?_
  | refine WOL.bf rfl rfl rfl (by first | exact decide_eq_false (by omega) | exact beq_eq_false_iff_ne.2 (by omega) | exact bne_eq_false_iff_eq.2 (by omega)) ?_)
 refine WOL.cl2 rfl rfl rfl ((k1302o (z:=(a:Int)+(b:Int)) H X s1 lv (by omega) (by omega) (okT _) (f.on X1)).mono ?_)
 rintro u g2 ⟨X2,v9,rfl,r9⟩
 rw [show ((a:Int)+(b:Int)).toNat=a+b by omega] at r9
 have Y2:=X1.trans X2
 repeat' (first
  | refine WL.sr ?_
  | refine WL.seq ?_
  | refine WL.reg ?_
  | refine WOL.nil ?_
  | refine WL.skip ?_
  | refine WOL.now (b:=true) rfl rfl ?_
  | refine WOL.now (b:=false) rfl rfl ?_
  | refine WOL.skp (b:=true) rfl rfl ?_
  | refine WOL.skp (b:=false) rfl rfl ?_
  | refine WOL.gu rfl rfl ?_
  | refine WOL.mv rfl ?_
  | refine WOL.as rfl ?_
  | refine WOL.ex rfl rfl ?_
  | refine WOL.nt rfl ?_
  | refine WOL.pkt rfl rfl ?_
  | refine WOL.pkf rfl rfl ?_
  | refine WL.yes rfl ?_
  | refine WL.no rfl ?_
  | refine WOL.ld rfl (load_one (by first | exact tp25 | exact tp3 | exact tp43) (by first | with_reducible assumption | assumption) (by rfl)) ?_
  | refine WOL.ld rfl (load_row (by first | exact tp25 | exact tp3 | exact tp43) (by first | with_reducible assumption | assumption) rfl (Nat.le_of_ble_eq_true rfl)) ?_
  | refine WOL.len rfl (by first | with_reducible assumption | assumption) (by first | exact u43 | exact u29) ?_
  | refine WOL.add rfl rfl (by omega) (by omega) ?_
  | refine WOL.sub rfl rfl (by omega) (by omega) ?_
  | refine WOL.mul rfl rfl (by omega) (by omega) ?_
  | refine WOL.bt rfl rfl rfl (by first | exact decide_eq_true (by omega) | exact beq_iff_eq.2 (by omega) | exact bne_iff_ne.2 (by omega)) ?_
  | refine WOL.bf rfl rfl rfl (by first | exact decide_eq_false (by omega) | exact beq_eq_false_iff_ne.2 (by omega) | exact bne_eq_false_iff_eq.2 (by omega)) ?_)
 refine WOL.cl1 rfl rfl ((k1258 H (s.hx Y2) (by omega)).mono ?_)
 rintro u g3 ⟨X3,b3,m3,k3,rfl,s3,_⟩
 have Y3:=Y2.trans X3
 repeat' (first
  | refine WL.sr ?_
  | refine WL.seq ?_
  | refine WL.reg ?_
  | refine WOL.nil ?_
  | refine WL.skip ?_
  | refine WOL.now (b:=true) rfl rfl ?_
  | refine WOL.now (b:=false) rfl rfl ?_
  | refine WOL.skp (b:=true) rfl rfl ?_
  | refine WOL.skp (b:=false) rfl rfl ?_
  | refine WOL.gu rfl rfl ?_
  | refine WOL.mv rfl ?_
  | refine WOL.as rfl ?_
  | refine WOL.ex rfl rfl ?_
  | refine WOL.nt rfl ?_
  | refine WOL.pkt rfl rfl ?_
  | refine WOL.pkf rfl rfl ?_
  | refine WL.yes rfl ?_
  | refine WL.no rfl ?_
  | refine WOL.ld rfl (load_one (by first | exact tp25 | exact tp3 | exact tp43) (by first | with_reducible assumption | assumption) (by rfl)) ?_
  | refine WOL.ld rfl (load_row (by first | exact tp25 | exact tp3 | exact tp43) (by first | with_reducible assumption | assumption) rfl (Nat.le_of_ble_eq_true rfl)) ?_
  | refine WOL.len rfl (by first | with_reducible assumption | assumption) (by first | exact u43 | exact u29) ?_
  | refine WOL.add rfl rfl (by omega) (by omega) ?_
  | refine WOL.sub rfl rfl (by omega) (by omega) ?_
  | refine WOL.mul rfl rfl (by omega) (by omega) ?_
  | refine WOL.bt rfl rfl rfl (by first | exact decide_eq_true (by omega) | exact beq_iff_eq.2 (by omega) | exact bne_iff_ne.2 (by omega)) ?_
  | refine WOL.bf rfl rfl rfl (by first | exact decide_eq_false (by omega) | exact beq_eq_false_iff_ne.2 (by omega) | exact bne_eq_false_iff_eq.2 (by omega)) ?_)
 refine WOL.cl2 rfl rfl rfl ((k1302o (z:=(a:Int)) H X s3 lv (by omega) (by omega) (okT _) (f.on Y3)).mono ?_)
 rintro u g4 ⟨X4,v11,rfl,r11⟩
 rw [Int.toNat_natCast] at r11
 have Y4:=Y3.trans X4
 repeat' (first
  | refine WL.sr ?_
  | refine WL.seq ?_
  | refine WL.reg ?_
  | refine WOL.nil ?_
  | refine WL.skip ?_
  | refine WOL.now (b:=true) rfl rfl ?_
  | refine WOL.now (b:=false) rfl rfl ?_
  | refine WOL.skp (b:=true) rfl rfl ?_
  | refine WOL.skp (b:=false) rfl rfl ?_
  | refine WOL.gu rfl rfl ?_
  | refine WOL.mv rfl ?_
  | refine WOL.as rfl ?_
  | refine WOL.ex rfl rfl ?_
  | refine WOL.nt rfl ?_
  | refine WOL.pkt rfl rfl ?_
  | refine WOL.pkf rfl rfl ?_
  | refine WL.yes rfl ?_
  | refine WL.no rfl ?_
  | refine WOL.ld rfl (load_one (by first | exact tp25 | exact tp3 | exact tp43) (by first | with_reducible assumption | assumption) (by rfl)) ?_
  | refine WOL.ld rfl (load_row (by first | exact tp25 | exact tp3 | exact tp43) (by first | with_reducible assumption | assumption) rfl (Nat.le_of_ble_eq_true rfl)) ?_
  | refine WOL.len rfl (by first | with_reducible assumption | assumption) (by first | exact u43 | exact u29) ?_
  | refine WOL.add rfl rfl (by omega) (by omega) ?_
  | refine WOL.sub rfl rfl (by omega) (by omega) ?_
  | refine WOL.mul rfl rfl (by omega) (by omega) ?_
  | refine WOL.bt rfl rfl rfl (by first | exact decide_eq_true (by omega) | exact beq_iff_eq.2 (by omega) | exact bne_iff_ne.2 (by omega)) ?_
  | refine WOL.bf rfl rfl rfl (by first | exact decide_eq_false (by omega) | exact beq_eq_false_iff_ne.2 (by omega) | exact bne_eq_false_iff_eq.2 (by omega)) ?_)
 refine WOL.cl1 rfl rfl ((k1258 H (s.hx Y4) (by omega)).mono ?_)
 rintro u g5 ⟨X5,b5,m5,k5,rfl,s5,_⟩
 have Y5:=Y4.trans X5
 repeat' (first
  | refine WL.sr ?_
  | refine WL.seq ?_
  | refine WL.reg ?_
  | refine WOL.nil ?_
  | refine WL.skip ?_
  | refine WOL.now (b:=true) rfl rfl ?_
  | refine WOL.now (b:=false) rfl rfl ?_
  | refine WOL.skp (b:=true) rfl rfl ?_
  | refine WOL.skp (b:=false) rfl rfl ?_
  | refine WOL.gu rfl rfl ?_
  | refine WOL.mv rfl ?_
  | refine WOL.as rfl ?_
  | refine WOL.ex rfl rfl ?_
  | refine WOL.nt rfl ?_
  | refine WOL.pkt rfl rfl ?_
  | refine WOL.pkf rfl rfl ?_
  | refine WL.yes rfl ?_
  | refine WL.no rfl ?_
  | refine WOL.ld rfl (load_one (by first | exact tp25 | exact tp3 | exact tp43) (by first | with_reducible assumption | assumption) (by rfl)) ?_
  | refine WOL.ld rfl (load_row (by first | exact tp25 | exact tp3 | exact tp43) (by first | with_reducible assumption | assumption) rfl (Nat.le_of_ble_eq_true rfl)) ?_
  | refine WOL.len rfl (by first | with_reducible assumption | assumption) (by first | exact u43 | exact u29) ?_
  | refine WOL.add rfl rfl (by omega) (by omega) ?_
  | refine WOL.sub rfl rfl (by omega) (by omega) ?_
  | refine WOL.mul rfl rfl (by omega) (by omega) ?_
  | refine WOL.bt rfl rfl rfl (by first | exact decide_eq_true (by omega) | exact beq_iff_eq.2 (by omega) | exact bne_iff_ne.2 (by omega)) ?_
  | refine WOL.bf rfl rfl rfl (by first | exact decide_eq_false (by omega) | exact beq_eq_false_iff_ne.2 (by omega) | exact bne_eq_false_iff_eq.2 (by omega)) ?_)
 refine WOL.cl2 rfl rfl rfl ((k1302o (z:=(b:Int)) H X s5 lv (by omega) (by omega) (okT _) (f.on Y5)).mono ?_)
 rintro u g6 ⟨X6,v13,rfl,r13⟩
 rw [Int.toNat_natCast] at r13
 have Y6:=Y5.trans X6
 replace r9:=r9.hx (((X3.trans X4).trans X5).trans X6)
 replace r11:=r11.hx (X5.trans X6)
 have n9:=r9.ln
 have n11:=r11.ln
 have n13:=r13.ln
 have s6:=s.hx Y6
 have l9:(twL (a+b) L).length=L.length - (a+b):=tw_len
 have l11:(twL a L).length=L.length - a:=tw_len
 have l13:(twL b L).length=L.length - b:=tw_len
 repeat' (first
  | refine WOL.len rfl n9 u43 ?_
  | refine WOL.len rfl n11 u43 ?_
  | refine WOL.len rfl n13 u43 ?_
  | refine WOL.len rfl s6 u43 ?_
  | refine WOL.imax rfl rfl ?_
  | refine WL.sr ?_
  | refine WL.seq ?_
  | refine WL.reg ?_
  | refine WOL.nil ?_
  | refine WL.skip ?_
  | refine WOL.now (b:=true) rfl rfl ?_
  | refine WOL.now (b:=false) rfl rfl ?_
  | refine WOL.skp (b:=true) rfl rfl ?_
  | refine WOL.skp (b:=false) rfl rfl ?_
  | refine WOL.gu rfl rfl ?_
  | refine WOL.mv rfl ?_
  | refine WOL.as rfl ?_
  | refine WOL.ex rfl rfl ?_
  | refine WOL.nt rfl ?_
  | refine WOL.pkt rfl rfl ?_
  | refine WOL.pkf rfl rfl ?_
  | refine WL.yes rfl ?_
  | refine WL.no rfl ?_
  | refine WOL.ld rfl (load_one (by first | exact tp25 | exact tp3 | exact tp43) (by first | with_reducible assumption | assumption) (by rfl)) ?_
  | refine WOL.ld rfl (load_row (by first | exact tp25 | exact tp3 | exact tp43) (by first | with_reducible assumption | assumption) rfl (Nat.le_of_ble_eq_true rfl)) ?_
  | refine WOL.len rfl (by first | with_reducible assumption | assumption) (by first | exact u43 | exact u29) ?_
  | refine WOL.add rfl rfl (by omega) (by omega) ?_
  | refine WOL.sub rfl rfl (by omega) (by omega) ?_
  | refine WOL.mul rfl rfl (by omega) (by omega) ?_
  | refine WOL.bt rfl rfl rfl (by first | exact decide_eq_true (by omega) | exact beq_iff_eq.2 (by omega) | exact bne_iff_ne.2 (by omega)) ?_
  | refine WOL.bf rfl rfl rfl (by first | exact decide_eq_false (by omega) | exact beq_eq_false_iff_ne.2 (by omega) | exact bne_eq_false_iff_eq.2 (by omega)) ?_)
 exact kto (k1252b H X K (Gl.hx Y6) (f.on Y6) s6 lv (t.hx Y6) lw h2 hF e hl hm (by omega) (by omega) r9 r11 r13) ⟨rfl,rfl,rfl,rfl,rfl,rfl,trivial⟩
set_option maxHeartbeats 4000000 in
set_option maxRecDepth 100000 in
theorem k1252 (H:Has tp) (X:HasX tp) (K:Awk tp) (Gl:Glob h) (s:SlL encF 1 h v F) (t:SlL encF 1 h w G) (hp:0≤p∧p≤255) (hq:0≤q∧q≤255) (f:Free0 h.next h):CallW Tryz.prog tp (.func (.func 9) #[] #[]) #[v,w,.agg #[.int .u8 p,.int .u8 q]] h fun v _=>v=.bool true:=by
 obtain ⟨es,L,hE,hL⟩:=lev_some F
 obtain ⟨es',M,hE',hM⟩:=lev_some G
 refine CallW.fnL (H.fn 9 f1252 rfl rfl) ?_
 refine WL.sr<|WOL.box rfl fun h1 N1=>WOL.as rfl<|WOL.nil<|keep [(0,_),(1,_),(5,_)] ⟨rfl,rfl,rfl,trivial⟩ ?_
 have A5:At h1 h.next (.cells [.int .u8 p,.int .u8 q] true true 100):=N1.at_
 have X1:=N1.hx
 have s1:=s.hx X1
 have t1:=t.hx X1
 refine WL.seq<|WL.sr<|WOL.mv rfl<|WOL.cl2 rfl rfl rfl ((k1307 H s1 hE hL big_x bigm_x big_n).mono ?_)
 rintro u h1 ⟨rfl,bb,rfl,hfine⟩
 cases bb with
 | false =>
  repeat' (first
  | (refine WOL.cl0 rfl ((k11t K _).mono ?_);rintro _ h1 ⟨rfl,rfl⟩)
  | refine WL.sr ?_
  | refine WL.seq ?_
  | refine WL.reg ?_
  | refine WOL.nil ?_
  | refine WL.skip ?_
  | refine WOL.now (b:=true) rfl rfl ?_
  | refine WOL.now (b:=false) rfl rfl ?_
  | refine WOL.skp (b:=true) rfl rfl ?_
  | refine WOL.skp (b:=false) rfl rfl ?_
  | refine WOL.gu rfl rfl ?_
  | refine WOL.mv rfl ?_
  | refine WOL.as rfl ?_
  | refine WOL.ex rfl rfl ?_
  | refine WOL.nt rfl ?_
  | refine WOL.pkt rfl rfl ?_
  | refine WOL.pkf rfl rfl ?_
  | refine WL.yes rfl ?_
  | refine WL.no rfl ?_
  | refine WOL.ld rfl (load_one (by first | exact tp25 | exact tp3 | exact tp43) (by first | with_reducible assumption | assumption) (by rfl)) ?_
  | refine WOL.ld rfl (load_row (by first | exact tp25 | exact tp3 | exact tp43) (by first | with_reducible assumption | assumption) rfl (Nat.le_of_ble_eq_true rfl)) ?_
  | refine WOL.len rfl (by first | with_reducible assumption | assumption) (by first | exact u43 | exact u29) ?_
  | refine WOL.add rfl rfl (by omega) (by omega) ?_
  | refine WOL.sub rfl rfl (by omega) (by omega) ?_
  | refine WOL.mul rfl rfl (by omega) (by omega) ?_
  | refine WOL.bt rfl rfl rfl (by first | exact decide_eq_true (by omega) | exact beq_iff_eq.2 (by omega) | exact bne_iff_ne.2 (by omega)) ?_
  | refine WOL.bf rfl rfl rfl (by first | exact decide_eq_false (by omega) | exact beq_eq_false_iff_ne.2 (by omega) | exact bne_eq_false_iff_eq.2 (by omega)) ?_)
  exact WL.ret (WL.end_ rfl rfl)
 | true =>
 obtain ⟨⟨q1,q2⟩,q3,q4⟩:=hfine rfl
 repeat' (first
  | refine WL.sr ?_
  | refine WL.seq ?_
  | refine WL.reg ?_
  | refine WOL.nil ?_
  | refine WL.skip ?_
  | refine WOL.now (b:=true) rfl rfl ?_
  | refine WOL.now (b:=false) rfl rfl ?_
  | refine WOL.skp (b:=true) rfl rfl ?_
  | refine WOL.skp (b:=false) rfl rfl ?_
  | refine WOL.gu rfl rfl ?_
  | refine WOL.mv rfl ?_
  | refine WOL.as rfl ?_
  | refine WOL.ex rfl rfl ?_
  | refine WOL.nt rfl ?_
  | refine WOL.pkt rfl rfl ?_
  | refine WOL.pkf rfl rfl ?_
  | refine WL.yes rfl ?_
  | refine WL.no rfl ?_
  | refine WOL.ld rfl (load_one (by first | exact tp25 | exact tp3 | exact tp43) (by first | with_reducible assumption | assumption) (by rfl)) ?_
  | refine WOL.ld rfl (load_row (by first | exact tp25 | exact tp3 | exact tp43) (by first | with_reducible assumption | assumption) rfl (Nat.le_of_ble_eq_true rfl)) ?_
  | refine WOL.len rfl (by first | with_reducible assumption | assumption) (by first | exact u43 | exact u29) ?_
  | refine WOL.add rfl rfl (by omega) (by omega) ?_
  | refine WOL.sub rfl rfl (by omega) (by omega) ?_
  | refine WOL.mul rfl rfl (by omega) (by omega) ?_
  | refine WOL.bt rfl rfl rfl (by first | exact decide_eq_true (by omega) | exact beq_iff_eq.2 (by omega) | exact bne_iff_ne.2 (by omega)) ?_
  | refine WOL.bf rfl rfl rfl (by first | exact decide_eq_false (by omega) | exact beq_eq_false_iff_ne.2 (by omega) | exact bne_eq_false_iff_eq.2 (by omega)) ?_)
 refine WOL.cl2 rfl rfl rfl ((k1307 H t1 hE' hM big_x bigm_x big_n).mono ?_)
 rintro u h1 ⟨rfl,bb,rfl,hfine'⟩
 cases bb with
 | false =>
  repeat' (first
  | (refine WOL.cl0 rfl ((k11t K _).mono ?_);rintro _ h1 ⟨rfl,rfl⟩)
  | refine WL.sr ?_
  | refine WL.seq ?_
  | refine WL.reg ?_
  | refine WOL.nil ?_
  | refine WL.skip ?_
  | refine WOL.now (b:=true) rfl rfl ?_
  | refine WOL.now (b:=false) rfl rfl ?_
  | refine WOL.skp (b:=true) rfl rfl ?_
  | refine WOL.skp (b:=false) rfl rfl ?_
  | refine WOL.gu rfl rfl ?_
  | refine WOL.mv rfl ?_
  | refine WOL.as rfl ?_
  | refine WOL.ex rfl rfl ?_
  | refine WOL.nt rfl ?_
  | refine WOL.pkt rfl rfl ?_
  | refine WOL.pkf rfl rfl ?_
  | refine WL.yes rfl ?_
  | refine WL.no rfl ?_
  | refine WOL.ld rfl (load_one (by first | exact tp25 | exact tp3 | exact tp43) (by first | with_reducible assumption | assumption) (by rfl)) ?_
  | refine WOL.ld rfl (load_row (by first | exact tp25 | exact tp3 | exact tp43) (by first | with_reducible assumption | assumption) rfl (Nat.le_of_ble_eq_true rfl)) ?_
  | refine WOL.len rfl (by first | with_reducible assumption | assumption) (by first | exact u43 | exact u29) ?_
  | refine WOL.add rfl rfl (by omega) (by omega) ?_
  | refine WOL.sub rfl rfl (by omega) (by omega) ?_
  | refine WOL.mul rfl rfl (by omega) (by omega) ?_
  | refine WOL.bt rfl rfl rfl (by first | exact decide_eq_true (by omega) | exact beq_iff_eq.2 (by omega) | exact bne_iff_ne.2 (by omega)) ?_
  | refine WOL.bf rfl rfl rfl (by first | exact decide_eq_false (by omega) | exact beq_eq_false_iff_ne.2 (by omega) | exact bne_eq_false_iff_eq.2 (by omega)) ?_)
  exact WL.ret (WL.end_ rfl rfl)
 | true =>
 obtain ⟨⟨q5,q6⟩,q7,q8⟩:=hfine' rfl
 by_cases e:F.length=G.length
 ·have lv:=hL (sigE_short q3).2
  have lw:=hM (sigE_short q7).2
  have ll:=lv.1
  have lm:=lw.1
  repeat' (first
  | refine WOL.len rfl s1 u43 ?_
  | refine WOL.len rfl t1 u43 ?_
  | refine WL.sr ?_
  | refine WL.seq ?_
  | refine WL.reg ?_
  | refine WOL.nil ?_
  | refine WOL.now (b:=true) rfl rfl ?_
  | refine WOL.now (b:=false) rfl rfl ?_
  | refine WOL.skp (b:=true) rfl rfl ?_
  | refine WOL.skp (b:=false) rfl rfl ?_
  | refine WOL.gu rfl rfl ?_
  | refine WOL.mv rfl ?_
  | refine WOL.as rfl ?_
  | refine WOL.ex rfl rfl ?_
  | refine WOL.nt rfl ?_
  | refine WOL.pkt rfl rfl ?_
  | refine WOL.pkf rfl rfl ?_
  | refine WOL.ld rfl (load_one (by first | exact tp25 | exact tp3 | exact tp43) (by first | with_reducible assumption | assumption) (by rfl)) ?_
  | refine WOL.ld rfl (load_row (by first | exact tp25 | exact tp3 | exact tp43) (by first | with_reducible assumption | assumption) rfl (Nat.le_of_ble_eq_true rfl)) ?_
  | refine WOL.len rfl (by first | with_reducible assumption | assumption) (by first | exact u43 | exact u29) ?_
  | refine WOL.add rfl rfl (by omega) (by omega) ?_
  | refine WOL.sub rfl rfl (by omega) (by omega) ?_
  | refine WOL.mul rfl rfl (by omega) (by omega) ?_
  | refine WOL.bt rfl rfl rfl (by first | exact decide_eq_true (by omega) | exact beq_iff_eq.2 (by omega) | exact bne_iff_ne.2 (by omega)) ?_
  | refine WOL.bf rfl rfl rfl (by first | exact decide_eq_false (by omega) | exact beq_eq_false_iff_ne.2 (by omega) | exact bne_eq_false_iff_eq.2 (by omega)) ?_)
  have q:=k1252a H X K (Gl.hx X1) (f.on X1) A5 hp hq s1 lv t1 lw q1 q2 e (fun j hj=>q4 j (by omega)) (fun j hj=>q8 j (by omega))
  unfold cd1252a cd1252b cd1252c cd1252d cd1252e cd1252f cd1252g cd1252h at q
  exact WL.no rfl<|WL.skip<|kto q ⟨rfl,rfl,rfl,trivial⟩
 ·repeat' (first
  | refine WOL.len rfl s1 u43 ?_
  | refine WOL.len rfl t1 u43 ?_
  | (refine WOL.cl0 rfl ((k11t K _).mono ?_);rintro _ h1 ⟨rfl,rfl⟩)
  | refine WL.sr ?_
  | refine WL.seq ?_
  | refine WL.reg ?_
  | refine WOL.nil ?_
  | refine WL.skip ?_
  | refine WOL.now (b:=true) rfl rfl ?_
  | refine WOL.now (b:=false) rfl rfl ?_
  | refine WOL.skp (b:=true) rfl rfl ?_
  | refine WOL.skp (b:=false) rfl rfl ?_
  | refine WOL.gu rfl rfl ?_
  | refine WOL.mv rfl ?_
  | refine WOL.as rfl ?_
  | refine WOL.ex rfl rfl ?_
  | refine WOL.nt rfl ?_
  | refine WOL.pkt rfl rfl ?_
  | refine WOL.pkf rfl rfl ?_
  | refine WL.yes rfl ?_
  | refine WL.no rfl ?_
  | refine WOL.ld rfl (load_one (by first | exact tp25 | exact tp3 | exact tp43) (by first | with_reducible assumption | assumption) (by rfl)) ?_
  | refine WOL.ld rfl (load_row (by first | exact tp25 | exact tp3 | exact tp43) (by first | with_reducible assumption | assumption) rfl (Nat.le_of_ble_eq_true rfl)) ?_
  | refine WOL.len rfl (by first | with_reducible assumption | assumption) (by first | exact u43 | exact u29) ?_
  | refine WOL.add rfl rfl (by omega) (by omega) ?_
  | refine WOL.sub rfl rfl (by omega) (by omega) ?_
  | refine WOL.mul rfl rfl (by omega) (by omega) ?_
  | refine WOL.bt rfl rfl rfl (by first | exact decide_eq_true (by omega) | exact beq_iff_eq.2 (by omega) | exact bne_iff_ne.2 (by omega)) ?_
  | refine WOL.bf rfl rfl rfl (by first | exact decide_eq_false (by omega) | exact beq_eq_false_iff_ne.2 (by omega) | exact bne_eq_false_iff_eq.2 (by omega)) ?_)
  exact WL.ret (WL.end_ rfl rfl)
end
set_option maxRecDepth 100000 in
theorem law1252:LawG tpE 9 5 [25,25,100]:=by
 intro h us f Gl ha
 obtain ⟨x0,x1,x2,rfl,⟨p0,y0,e0⟩,⟨p1,y1,e1⟩,⟨p2,y2,e2⟩⟩:=args3 ha
 have q2:=tyg_array Tryz.underlying100 y2
 rw [val_agg (.inr ⟨_,_,Tryz.underlying100⟩)] at e2
 obtain ⟨w0,F,rfl,s,_⟩:=tyg_slice eF u43 (fun p y=>by obtain ⟨b,e,_⟩:=ty_float y;exact ⟨b,e⟩) y0
 obtain ⟨w1,G,rfl,t,_⟩:=tyg_slice eF u43 (fun p y=>by obtain ⟨b,e,_⟩:=ty_float y;exact ⟨b,e⟩) y1
 rw [val_fls] at e0 e1
 obtain ⟨c0,d0,rfl,_,t0,c1,d1,rfl,_,t1,rfl⟩:=q2
 obtain ⟨a,rfl,wa⟩:=tyg_int u5i t0
 obtain ⟨b,rfl,wb⟩:=tyg_int u5i t1
 obtain ⟨fa,rfl⟩:=u8_fin wa
 obtain ⟨fb,rfl⟩:=u8_fin wb
 subst e0 e1 e2
 exact k1252 hasE hasXE awkE Gl s t (by have:=fa.isLt;omega) (by have:=fb.isLt;omega) f
end Go.Tidy
