/- A part of the proof. -/
import Derived.Test.YtjibbhaeaikhpaaGreatDoorPa6
import Derived.Test.YtjibbhaeaikhpaaGreatDoorPa5
import Derived.Test.YtjibbhaeaikhpaaGreatDoorPa2
set_option linter.all false
namespace Go.Tidy
open Go Go.Proofs Tab
variable {tp:TProg}
set_option maxRecDepth 10000 in
theorem k35 (H:Has tp) {s:ByteArray} {n:Int} {v1 v2:Value} {F:List Nat} {S:List (Int × Int)} {h:TH} (r:RunH h v1 v2 F S) (hF:F.length ≤ 900000) (hS:S.length ≤ 900000) :
  CallW Tryz.prog tp (.func (.func 37) #[] #[]) #[runV s n v1 v2] h fun v h' => v = .int .i64 (cnt (knownL S F.length)) ∧ HX h h':=by
 refine CallW.full (H.fn 37 f35 rfl rfl) rfl ?_
 refine W.seq (W.reg (WO.boxA rfl fun h1 N1 => WO.as rfl (WO.nil ?_)))
 refine W.seq (W.reg (WO.as rfl (WO.nil ?_)))
 refine W.seq (W.seq (W.reg (WO.as rfl (WO.nil ?_))))
 refine W.block (W.loop (fun k a h2 => ∃ i:Nat,i ≤ F.length ∧ k = F.length - i ∧ HX h1 h2 ∧ Full 18 a ∧ Tr.get a 1 = some (.pointer (some ⟨h.next,0,none⟩)) ∧ Tr.get a 3 = some (.int .i64 (cnt (knownL S i))) ∧ Tr.get a 4 = some (.int .i64 (i:Nat)))
  ?_ F.length _ _ ⟨0,by omega,by omega,HX.refl _,(by repeat (first | with_reducible refine Full.put ?_ (by decide) _ | with_reducible refine Full.putn ?_ _ | with_reducible exact Full.of _ _ rfl | with_reducible exact Full.start _ _ (Nat.le_of_ble_eq_true rfl) | exact Full.start _ _ (Nat.le_of_ble_eq_true rfl))),rfl,rfl,rfl⟩)
 rintro k a h2 ⟨i,hi,rfl,X2,hf,i1,i3,i4⟩
 (obtain ⟨rl0,hrl0,rfl⟩:=hf; obtain ⟨s0,s1,s2,s3,s4,s5,s6,s7,rl1,rfl,hrl1⟩:=cons8 hrl0; obtain ⟨s8,s9,s10,s11,s12,s13,s14,s15,rl2,rfl,hrl2⟩:=cons8 hrl1; obtain ⟨s16,rl3,rfl,hrl3⟩:=cons_of hrl2; obtain ⟨s17,rl4,rfl,hrl4⟩:=cons_of hrl3; obtain rfl:=nil_of hrl4; clear hrl0 hrl1 hrl2 hrl3 hrl4; obtain rfl:s1 = _:=Option.some.inj (show some s1 = some _ from i1); clear i1; obtain rfl:s3 = _:=Option.some.inj (show some s3 = some _ from i3); clear i3; obtain rfl:s4 = _:=Option.some.inj (show some s4 = some _ from i4); clear i4)
 have A2:=N1.at_.hx X2
 have Y2:=N1.hx.trans X2
 refine W.seq (W.seq (W.reg (WO.mv rfl (WO.fa rfl (fa_of fo46_2) (WO.ld rfl (load_one tp43 A2 rfl) (WO.lenC rfl (r.f.hx Y2) u43 (WO.bi rfl rfl rfl (WO.nil ?_))))))))
 by_cases hlt:i < F.length
 ·rw [show decide ((i:Int) < (F.length:Int)) = true by simpa using hlt]
  refine W.cd rfl (OnB.yes (W.skip ?_))
  have inc:(Value.int .i64 (fwrap .i64 ((i:Int) + 1))) = .int .i64 ((i + 1:Nat)):=by rw [fwrap_i64 (by omega) (by omega)]; rfl
  have hc:=cnt_le (knownL S i)
  rw [knownL_len] at hc
  have hmore:cnt (knownL S (i + 1)) = cnt (knownL S i) + (if knownB S i = true then 1 else 0):=by rw [knownL_succ,cnt_append]; simp [cnt]
  refine W.seq (W.block (W.seq (W.reg (WO.ld rfl (load_row tp46 A2 rfl (Nat.le_of_ble_eq_true rfl)) (WO.mv rfl (WO.cl2 rfl rfl rfl ((k39 H (s:=s) (n:=n) (v1:=v1) (r.s.hx Y2) (by omega)).mono ?_)))))))
  rintro v3 h3 ⟨rfl,X3⟩
  refine WO.nil ?_
  cases hk:knownB S i with
  | true =>
   refine W.cd rfl (OnB.yes (W.reg (WO.mv rfl (WO.addI rfl rfl (by omega) (by omega) (WO.as rfl (WO.nil ?_))))))
   refine W.reg (WO.mv rfl (WO.bi rfl rfl rfl (WO.as rfl (WO.nil ?_))))
   refine ⟨F.length - (i + 1),by omega,i + 1,by omega,rfl,X2.trans X3,(by repeat (first | with_reducible refine Full.put ?_ (by decide) _ | with_reducible refine Full.putn ?_ _ | with_reducible exact Full.of _ _ rfl | with_reducible exact Full.start _ _ (Nat.le_of_ble_eq_true rfl) | exact Full.start _ _ (Nat.le_of_ble_eq_true rfl))),rfl,?_,congrArg some inc⟩
   rw [hmore,hk]; rfl
  | false =>
   refine W.cd rfl (OnB.no (W.skip ?_))
   refine W.reg (WO.mv rfl (WO.bi rfl rfl rfl (WO.as rfl (WO.nil ?_))))
   refine ⟨F.length - (i + 1),by omega,i + 1,by omega,rfl,X2.trans X3,(by repeat (first | with_reducible refine Full.put ?_ (by decide) _ | with_reducible refine Full.putn ?_ _ | with_reducible exact Full.of _ _ rfl | with_reducible exact Full.start _ _ (Nat.le_of_ble_eq_true rfl) | exact Full.start _ _ (Nat.le_of_ble_eq_true rfl))),rfl,?_,congrArg some inc⟩
   rw [hmore,hk]; rfl
 ·rw [show decide ((i:Int) < (F.length:Int)) = false by simpa using hlt]
  refine W.cd rfl (OnB.no (W.exit ?_))
  obtain rfl:i = F.length:=by omega
  refine W.seq (W.reg (WO.mv rfl (WO.as rfl (WO.nil (W.ret ?_)))))
  exact ⟨.inr rfl,_,rfl,rfl,Y2⟩
set_option maxRecDepth 10000 in
theorem k36 (H:Has tp) {s:ByteArray} {n:Int} {v1 v2:Value} {F:List Nat} {L:List Int} {h:TH} (sF:SlL encF 1 h v1 F) (hL:Lev F L) (hF:F.length ≤ 900000) :
  CallW Tryz.prog tp (.func (.func 38) #[] #[]) #[runV s n v1 v2] h fun v h' => v = .int .i64 (sqL L) ∧ HX h h':=by
 refine CallW.full (H.fn 38 f36 rfl rfl) rfl ?_
 refine W.seq (W.reg (WO.boxA rfl fun h1 N1 => WO.as rfl (WO.nil ?_)))
 have A1:=N1.at_
 have s1:=sF.hx N1.hx
 refine W.seq (W.reg (WO.as rfl (WO.nil ?_)))
 refine W.seq (W.seq (W.reg (WO.as rfl (WO.nil ?_))))
 refine W.block (W.loop (fun k a h2 => h2 = h1 ∧ ∃ i:Nat,i ≤ F.length ∧ k = F.length - i ∧ Full 28 a ∧ Tr.get a 1 = some (.pointer (some ⟨h.next,0,none⟩)) ∧ Tr.get a 3 = some (.int .i64 (sqL (L.take i))) ∧ Tr.get a 4 = some (.int .i64 (i:Nat)))
  ?_ F.length _ _ ⟨rfl,0,by omega,by omega,(by repeat (first | with_reducible refine Full.put ?_ (by decide) _ | with_reducible refine Full.putn ?_ _ | with_reducible exact Full.of _ _ rfl | with_reducible exact Full.start _ _ (Nat.le_of_ble_eq_true rfl) | exact Full.start _ _ (Nat.le_of_ble_eq_true rfl))),rfl,rfl,rfl⟩)
 rintro k a h2 ⟨rfl,i,hi,rfl,hf,i1,i3,i4⟩
 (obtain ⟨rl0,hrl0,rfl⟩:=hf; obtain ⟨s0,s1,s2,s3,s4,s5,s6,s7,rl1,rfl,hrl1⟩:=cons8 hrl0; obtain ⟨s8,s9,s10,s11,s12,s13,s14,s15,rl2,rfl,hrl2⟩:=cons8 hrl1; obtain ⟨s16,s17,s18,s19,s20,s21,s22,s23,rl3,rfl,hrl3⟩:=cons8 hrl2; obtain ⟨s24,rl4,rfl,hrl4⟩:=cons_of hrl3; obtain ⟨s25,rl5,rfl,hrl5⟩:=cons_of hrl4; obtain ⟨s26,rl6,rfl,hrl6⟩:=cons_of hrl5; obtain ⟨s27,rl7,rfl,hrl7⟩:=cons_of hrl6; obtain rfl:=nil_of hrl7; clear hrl0 hrl1 hrl2 hrl3 hrl4 hrl5 hrl6 hrl7; obtain rfl:s1 = _:=Option.some.inj (show some s1 = some _ from i1); clear i1; obtain rfl:s3 = _:=Option.some.inj (show some s3 = some _ from i3); clear i3; obtain rfl:s4 = _:=Option.some.inj (show some s4 = some _ from i4); clear i4)
 refine W.seq (W.seq (W.reg (WO.mv rfl (WO.fa rfl (fa_of fo46_2) (WO.ld rfl (load_one tp43 A1 rfl) (WO.lenC rfl s1 u43 (WO.bi rfl rfl rfl (WO.nil ?_))))))))
 by_cases hlt:i < F.length
 ·rw [show decide ((i:Int) < (F.length:Int)) = true by simpa using hlt]
  refine W.cd rfl (OnB.yes (W.skip ?_))
  have hF1:F[i]? = some F[i]:=List.getElem?_eq_getElem hlt
  obtain ⟨x,hx,sx⟩:=hL.get hF1
  have hsq:=sq_lim sx.lim
  have hbd:=sq_bound (l:=L.take i) fun x hx => lev_lim hL x (List.mem_of_mem_take hx)
  have hti:(L.take i).length = i:=by have:=hL.1; simp; omega
  rw [hti] at hbd
  have hstep:=(take_sum hx).1
  obtain ⟨b,o,cc,fix,wr,el,e1,e2,e3,e4,e5⟩:=s1.at eF u43 tp25 hF1 .i64
  refine W.seq (W.block (W.reg (WO.mv rfl (WO.fa rfl (fa_of fo46_2) (WO.ld rfl (load_one tp43 A1 rfl) (WO.mv rfl (WO.ix rfl rfl e1 (WO.ld rfl (load_one tp25 e2 (e5 0 (by decide))) (WO.fa rfl (fa_of fo46_2) (WO.ld rfl (load_one tp43 A1 rfl) (WO.mv rfl (WO.ix rfl rfl e1 (WO.ld rfl (load_one tp25 e2 (e5 0 (by decide))) (WO.lk1 rfl rfl fun LL => (k95 H sx _).mono ?_))))))))))))))
  rintro v3 h3 ⟨rfl,rfl⟩
  rw [TH.relock]
  refine WO.cl1 rfl rfl ((k95 H sx _).mono ?_)
  rintro v3 h3 ⟨rfl,rfl⟩
  refine WO.mulI rfl rfl (by omega) (by omega) (WO.addI rfl rfl (by omega) (by omega) (WO.as rfl (WO.nil ?_)))
  refine W.reg (WO.mv rfl (WO.bi rfl rfl rfl (WO.as rfl (WO.nil ?_))))
  refine ⟨F.length - (i + 1),by omega,rfl,i + 1,by omega,rfl,(by repeat (first | with_reducible refine Full.put ?_ (by decide) _ | with_reducible refine Full.putn ?_ _ | with_reducible exact Full.of _ _ rfl | with_reducible exact Full.start _ _ (Nat.le_of_ble_eq_true rfl) | exact Full.start _ _ (Nat.le_of_ble_eq_true rfl))),rfl,by rw [hstep]; rfl,?_⟩
  show some (Value.int .i64 (fwrap .i64 ((i:Int) + 1))) = _
  rw [fwrap_i64 (by omega) (by omega)]
  rfl
 ·rw [show decide ((i:Int) < (F.length:Int)) = false by simpa using hlt]
  refine W.cd rfl (OnB.no (W.exit ?_))
  obtain rfl:i = F.length:=by omega
  refine W.seq (W.reg (WO.mv rfl (WO.as rfl (WO.nil (W.ret ?_)))))
  refine ⟨.inr rfl,_,rfl,?_,N1.hx⟩
  rw [hL.1,List.take_length]; rfl
end Go.Tidy
namespace Go.Tidy
open Go Go.Proofs Tab
variable {tp:TProg}
theorem tp24:Tp Tryz.prog 24 2 [.int .i64 0,.int .i64 0] true:=tp_of (by kernel_rfl) (by kernel_rfl) rfl
theorem bd24 {n m:Int}:buildT Tryz.prog 24 [(0,.int .i64 n),(1,.int .i64 m)] = some (.agg #[.int .i64 n,.int .i64 m]):=by kernel_rfl
theorem bd24z:buildT Tryz.prog 24 [] = some (.agg #[.int .i64 0,.int .i64 0]):=by kernel_rfl
theorem WO.quoI {P:Program} {a:Regs} {h:TH} {K:Regs → TH → Prop} {rest:List TOper} {d:Option Tmp} {ty:TypeId} {i:Nat} {x y:Operand} {t u:TypeId} {m n:Int} (hx:getO a x = some (.int .i64 m)) (hy:getO a y = some (.int .i64 n)) (hn:n ≠ 0)
  (w:WO P tp rest (a.put d (.int .i64 (fwrap .i64 (m.tdiv n)))) h K):WO P tp (⟨d,.binOp .quo t x y u,ty,none,[],i⟩ :: rest) a h K:=by
 refine WO.bi hx hy ?_ w
 have hk:Nat.beq (kindNo .i64) (kindNo .i64) = true:=Nat.beq_refl _
 have hb:(n == 0) = false:=by simpa using hn
 simp only [fastBin,hk,fastInt,hb,Bool.cond_true,Bool.cond_false]
theorem res_cell1 {P:Program} {a:Regs} {h:TH} {t u:Nat} {ty:TypeId} {p v w:Value} (hx:getO a (.tmp t) = some p) (hv:loadT P ty p h = some v) (hu:getO a (.tmp u) = some w):resultsT P [.cell t ty,.tmp u] a h = some [v,w]:=by
 have e:=getO_eval hx
 have e':a.at_ t = p:=e
 have g:=getO_eval hu
 have g':a.at_ u = w:=g
 simp [resultsT,e',hv,g']
def meanR (sum:Int) (c:Nat):Value:=.agg #[.int .i64 (fwrap .i64 (sum.tdiv (Nat.gcd sum.natAbs (16 * c):Nat))),.int .i64 (fwrap .i64 (((16 * c:Nat):Int).tdiv (Nat.gcd sum.natAbs (16 * c):Nat)))]
def ratio0:Value:=.agg #[.int .i64 0,.int .i64 0]
theorem sum_bound {l:List Int} (h:∀ x,x ∈ l → x.natAbs ≤ 16384):-(16384 * (l.length:Int)) ≤ sumL l ∧ sumL l ≤ 16384 * l.length :=
 sumL_bound fun x hx => by have:=h x hx; omega
theorem k98 (H:Has tp) {sum:Int} {c:Nat} {h:TH} (h1:-999999999 ≤ sum) (h2:sum ≤ 999999999) (h3:1 ≤ c) (h4:c ≤ 4096) (f:Free0 h.next h) :
  CallW Tryz.prog tp (.func (.func 114) #[] #[]) #[.int .i64 sum,.int .i64 ((16 * c:Nat):Int)] h fun v h' => v = meanR sum c ∧ HX h h':=by
 have hg:0 < Nat.gcd sum.natAbs (16 * c):=Nat.gcd_pos_of_pos_right _ (by omega)
 refine CallW.full (H.fn 114 f98 rfl rfl) rfl ?_
 refine W.seq (W.reg (WO.alA tp24 fun h1 N1 => WO.nil ?_))
 refine W.seq (W.reg (WO.mv rfl (WO.mv rfl (WO.cl2 rfl rfl rfl ((k79 H (n:=16 * c) (by omega) (by omega) (by omega) (by omega)).mono ?_)))))
 rintro v3 h3 ⟨rfl,rfl⟩
 refine WO.as rfl (WO.nil ?_)
 refine W.seq (W.seq (W.reg (WO.mv rfl (WO.bi rfl rfl rfl (WO.nil ?_)))))
 rw [show decide (((16 * c:Nat):Int) < 0) = false by simp; omega]
 refine W.cd rfl (OnB.no (W.skip ?_))
 refine W.seq (W.reg (WO.mv rfl (WO.mv rfl (WO.quoI rfl rfl (by omega) (WO.mv rfl (WO.mv rfl (WO.quoI rfl rfl (by omega) (WO.bd rfl bd24 (WO.stA rfl rfl tp24 N1.at_ rfl rfl (Nat.le_of_ble_eq_true rfl) rfl (f.hx N1.hx) (Nat.le_refl _) fun h5 P5 => WO.nil (W.ret ?_))))))))))
 exact ⟨.inr rfl,_,res_cell rfl (load_row tp24 P5.at_ rfl (Nat.le_of_ble_eq_true rfl)),rfl,P5.hx _ N1.hx (Nat.le_refl _)⟩
set_option maxRecDepth 10000 in
theorem k38 (H:Has tp) {s:ByteArray} {n:Int} {v1 v2:Value} {F:List Nat} {S:List (Int × Int)} {L:List Int} {h:TH} (r:RunH h v1 v2 F S) (hL:Lev F L) (hF:F.length ≤ 4096) (hS:S.length ≤ 900000) (f:Free0 h.next h) :
    CallW Tryz.prog tp (.func (.func 40) #[] #[]) #[runV s n v1 v2] h fun v h' => v = cond (cnt (knownL S F.length) == 0) (.tuple #[ratio0,.int .i64 7]) (.tuple #[meanR (sumL L) (cnt (knownL S F.length)),.int .i64 0]) ∧ HX h h':=by
  have hc:=cnt_le (knownL S F.length)
  rw [knownL_len] at hc
  refine CallW.full (H.fn 40 f38 rfl rfl) rfl ?_
  refine W.seq (W.reg (WO.boxA rfl fun h1 N1 => WO.alA tp24 fun h2 N2 => WO.as rfl (WO.nil ?_)))
  have q1:=N1.next
  have q2:=N2.next
  have X2:=N1.hx.trans N2.hx
  have A2:=N1.at_.hx N2.hx
  refine W.seq (W.reg (WO.ld rfl (load_row tp46 A2 rfl (Nat.le_of_ble_eq_true rfl)) (WO.cl1 rfl rfl ((k35 H (s:=s) (n:=n) (r.hx X2) (by omega) hS).mono ?_))))
  rintro v3 h3 ⟨rfl,X3⟩
  have Y3:=X2.trans X3
  have A3:=A2.hx X3
  have B3:=N2.at_.hx X3
  generalize cnt (knownL S F.length) = c at *
  refine WO.as rfl (WO.nil ?_)
  refine W.seq (W.seq (W.reg (WO.mv rfl (WO.bi rfl rfl rfl (WO.nil ?_)))))
  by_cases c0:c = 0
  · subst c0
    refine W.cd rfl (OnB.yes (W.seq (W.reg (WO.bd rfl bd24z (WO.stA rfl rfl tp24 B3 rfl rfl (Nat.le_of_ble_eq_true rfl) rfl (f.hx Y3) (by omega) fun h5 P5 => WO.as rfl (WO.nil (W.ret ?_)))))))
    exact ⟨.inr rfl,_,res_cell1 rfl (load_row tp24 P5.at_ rfl (Nat.le_of_ble_eq_true rfl)) rfl,rfl,P5.hx _ Y3 (by omega)⟩
  · rw [show ((c:Int) == 0) = false by simpa using c0]
    refine W.cd rfl (OnB.no (W.skip ?_))
    refine W.seq (W.reg (WO.as rfl (WO.nil ?_)))
    refine W.seq (W.seq (W.reg (WO.as rfl (WO.nil ?_))))
    refine W.block (W.loop (fun k a h4 => h4 = h3 ∧ ∃ i:Nat,i ≤ F.length ∧ k = F.length - i ∧ Full 31 a ∧ Tr.get a 1 = some (.pointer (some ⟨h.next,0,none⟩)) ∧ Tr.get a 2 = some (.pointer (some ⟨h1.next,0,none⟩)) ∧ Tr.get a 4 = some (.int .i64 (c:Nat)) ∧ Tr.get a 5 = some (.int .i64 (sumL (L.take i))) ∧ Tr.get a 6 = some (.int .i64 (i:Nat)))
      ?_ F.length _ _ ⟨rfl,0,by omega,by omega,(by repeat (first | with_reducible refine Full.put ?_ (by decide) _ | with_reducible refine Full.putn ?_ _ | with_reducible exact Full.of _ _ rfl | with_reducible exact Full.start _ _ (Nat.le_of_ble_eq_true rfl) | exact Full.start _ _ (Nat.le_of_ble_eq_true rfl))),rfl,rfl,rfl,rfl,rfl⟩)
    rintro k a h4 ⟨rfl,i,hi,rfl,hf,i1,i2,i4,i5,i6⟩
    (obtain ⟨rl0,hrl0,rfl⟩:=hf; obtain ⟨s0,s1,s2,s3,s4,s5,s6,s7,rl1,rfl,hrl1⟩:=cons8 hrl0; obtain ⟨s8,s9,s10,s11,s12,s13,s14,s15,rl2,rfl,hrl2⟩:=cons8 hrl1; obtain ⟨s16,s17,s18,s19,s20,s21,s22,s23,rl3,rfl,hrl3⟩:=cons8 hrl2; obtain ⟨s24,rl4,rfl,hrl4⟩:=cons_of hrl3; obtain ⟨s25,rl5,rfl,hrl5⟩:=cons_of hrl4; obtain ⟨s26,rl6,rfl,hrl6⟩:=cons_of hrl5; obtain ⟨s27,rl7,rfl,hrl7⟩:=cons_of hrl6; obtain ⟨s28,rl8,rfl,hrl8⟩:=cons_of hrl7; obtain ⟨s29,rl9,rfl,hrl9⟩:=cons_of hrl8; obtain ⟨s30,rl10,rfl,hrl10⟩:=cons_of hrl9; obtain rfl:=nil_of hrl10; clear hrl0 hrl1 hrl2 hrl3 hrl4 hrl5 hrl6 hrl7 hrl8 hrl9 hrl10; obtain rfl:s1 = _:=Option.some.inj (show some s1 = some _ from i1); clear i1; obtain rfl:s2 = _:=Option.some.inj (show some s2 = some _ from i2); clear i2; obtain rfl:s4 = _:=Option.some.inj (show some s4 = some _ from i4); clear i4; obtain rfl:s5 = _:=Option.some.inj (show some s5 = some _ from i5); clear i5; obtain rfl:s6 = _:=Option.some.inj (show some s6 = some _ from i6); clear i6)
    refine W.seq (W.seq (W.reg (WO.mv rfl (WO.fa rfl (fa_of fo46_2) (WO.ld rfl (load_one tp43 A3 rfl) (WO.lenC rfl (r.f.hx Y3) u43 (WO.bi rfl rfl rfl (WO.nil ?_))))))))
    have hbd:=sum_bound (l:=L.take i) fun x hx => lev_lim hL x (List.mem_of_mem_take hx)
    have hti:(L.take i).length = i:=by have:=hL.1; simp; omega
    rw [hti] at hbd
    by_cases hlt:i < F.length
    · rw [show decide ((i:Int) < (F.length:Int)) = true by simpa using hlt]
      refine W.cd rfl (OnB.yes (W.skip ?_))
      have hF1:F[i]? = some F[i]:=List.getElem?_eq_getElem hlt
      obtain ⟨x,hx,sx⟩:=hL.get hF1
      have hxl:=sx.lim
      have hstep:=(take_sum hx).2
      obtain ⟨b,o,cc,fix,wr,el,e1,e2,e3,e4,e5⟩:=(r.f.hx Y3).at eF u43 tp25 hF1 .i64
      refine W.seq (W.block (W.reg (WO.mv rfl (WO.fa rfl (fa_of fo46_2) (WO.ld rfl (load_one tp43 A3 rfl) (WO.mv rfl (WO.ix rfl rfl e1 (WO.ld rfl (load_one tp25 e2 (e5 0 (by decide))) (WO.cl1 rfl rfl ((k95 H sx _).mono ?_))))))))))
      rintro v5 h5 ⟨rfl,rfl⟩
      refine WO.addI rfl rfl (by omega) (by omega) (WO.as rfl (WO.nil ?_))
      refine W.reg (WO.mv rfl (WO.bi rfl rfl rfl (WO.as rfl (WO.nil ?_))))
      refine ⟨F.length - (i + 1),by omega,rfl,i + 1,by omega,rfl,(by repeat (first | with_reducible refine Full.put ?_ (by decide) _ | with_reducible refine Full.putn ?_ _ | with_reducible exact Full.of _ _ rfl | with_reducible exact Full.start _ _ (Nat.le_of_ble_eq_true rfl) | exact Full.start _ _ (Nat.le_of_ble_eq_true rfl))),rfl,rfl,rfl,by rw [hstep]; rfl,?_⟩
      show some (Value.int .i64 (fwrap .i64 ((i:Int) + 1))) = _
      rw [fwrap_i64 (by omega) (by omega)]
      rfl
    · rw [show decide ((i:Int) < (F.length:Int)) = false by simpa using hlt]
      refine W.cd rfl (OnB.no (W.exit ?_))
      obtain rfl:i = F.length:=by omega
      rw [show L.take F.length = L by rw [hL.1,List.take_length]] at *
      refine W.seq (W.reg (WO.mv rfl (WO.mv rfl (WO.bi (v:=.int .i64 ((16 * c:Nat):Int)) rfl rfl ?_ (WO.cl2 rfl rfl rfl ((k98 H (by omega) (by omega) (by omega) (by omega) (f.next Y3 Y3.next)).mono ?_))))))
      · show some (Value.int .i64 (fwrap .i64 (16 * (c:Int)))) = _
        rw [fwrap_i64 (by omega) (by omega)]
        congr 2
      rintro v5 h5 ⟨rfl,X5⟩
      refine WO.stA rfl rfl tp24 (B3.hx X5) rfl rfl (Nat.le_of_ble_eq_true rfl) rfl (f.hx (Y3.trans X5)) (by omega) fun h6 P6 => WO.as rfl (WO.nil (W.ret ?_))
      refine ⟨.inr rfl,_,res_cell1 rfl (load_row tp24 P6.at_ rfl (Nat.le_of_ble_eq_true rfl)) rfl,?_,P6.hx _ (Y3.trans X5) (by omega)⟩
      rw [show (c == 0) = false by simpa using c0]
      rfl
end Go.Tidy
namespace Go.Tidy
open Go Go.Proofs Tab
variable {tp:TProg}
theorem k91 (H:Has tp) {m:Int} {n:Nat} {h:TH} (hm1:-999999999 ≤ m) (hm2:m ≤ 999999999) (hn1:1 ≤ n) (hn2:n ≤ 999999999) (f:Free0 h.next h) :
  CallW Tryz.prog tp (.func (.func 107) #[] #[]) #[.int .i64 m,.int .i64 n] h fun v h' => v = .agg #[.int .i64 (fwrap .i64 (m.tdiv (Nat.gcd m.natAbs n:Nat))),.int .i64 (fwrap .i64 ((n:Int).tdiv (Nat.gcd m.natAbs n:Nat)))] ∧ HX h h':=by
 have hg:0 < Nat.gcd m.natAbs n:=Nat.gcd_pos_of_pos_right _ (by omega)
 refine CallW.fnL (H.fn 107 f91 rfl rfl) ?_
 refine WL.sr <| WOL.al tp24 fun h1 N1 => ?_
 refine WOL.nil <| keep [(0,_),(1,_),(4,_)] ⟨rfl,rfl,rfl,trivial⟩ ?_
 refine WL.sr <| WOL.mv rfl <| WOL.mv rfl ?_
 refine WOL.cl2 rfl rfl rfl ((k78 H hm1 hm2 hn1 hn2).mono ?_)
 rintro v h2 ⟨rfl,rfl⟩
 refine WOL.as rfl <| WOL.nil <| keep [(0,_),(1,_),(4,_),(5,_)] ⟨rfl,rfl,rfl,rfl,trivial⟩ ?_
 refine WL.sr <| WOL.mv rfl <| WOL.mv rfl ?_
 refine fun a q => WO.quoI (q.o rfl) (q.o rfl) (by omega) (q.nx ?_)
 refine WOL.mv rfl <| WOL.mv rfl ?_
 refine fun a q => WO.quoI (q.o rfl) (q.o rfl) (by omega) (q.nx ?_)
 refine WOL.bd rfl bd24 ?_
 refine WOL.sto rfl rfl tp24 N1.at_ rfl rfl (Nat.le_of_ble_eq_true rfl) rfl (f.hx N1.hx) (Nat.le_refl _) fun h3 P3 => ?_
 refine WOL.nil <| keep [(4,_)] ⟨rfl,trivial⟩ ?_
 exact WL.ret (WL.endC (t:=4) rfl (load_row tp24 P3.at_ rfl (Nat.le_of_ble_eq_true rfl)) ⟨rfl,P3.hx _ N1.hx (Nat.le_refl _)⟩)
set_option maxRecDepth 10000 in
theorem k30 (H:Has tp) (X:HasX tp) {s:ByteArray} {n:Int} {v1 v2:Value} {F:List Nat} {S:List (Int × Int)} {es L:List Int} {h:TH} (r:RunH h v1 v2 F S) (hE:SErr F es) (hL:firstNZ es = 0 → Lev F L) (hF:F.length ≤ 900000) (hS:S.length ≤ 900000) (f:Free0 h.next h) :
    CallW Tryz.prog tp (.func (.func 32) #[] #[]) #[runV s n v1 v2] h fun v h' => v = cond (runE s n F.length S es L != 0) (.tuple #[ratio0,.int .i64 (runE s n F.length S es L)])
      (cond ((knownV (cellsL L S)).length == 0) (.tuple #[ratio0,.int .i64 7]) (.tuple #[meanR (sumL (knownV (cellsL L S))) (knownV (cellsL L S)).length,.int .i64 0])) ∧ HX h h':=by
  refine CallW.full (H.fn 32 f30 rfl rfl) rfl ?_
  refine W.seq (W.reg (WO.boxA rfl fun h1 N1 => WO.alA tp24 fun h2 N2 => WO.as rfl (WO.nil ?_)))
  have q1:=N1.next
  have q2:=N2.next
  have X2:=N1.hx.trans N2.hx
  have A2:=N1.at_.hx N2.hx
  refine W.seq (W.seq (W.reg (WO.ld rfl (load_row tp52 A2 rfl (Nat.le_of_ble_eq_true rfl)) (WO.cl1 rfl rfl ((k41 H X (s:=s) (n:=n) (r.hx X2) hE hL (by omega) (by omega) (f.next X2 X2.next)).mono ?_)))))
  rintro v3 h3 ⟨rfl,X3⟩
  have Y3:=X2.trans X3
  have B3:=N2.at_.hx X3
  refine WO.as rfl (WO.nil ?_)
  refine W.seq (W.reg (WO.mv rfl (WO.bi rfl rfl rfl (WO.nil ?_))))
  show W Tryz.prog tp false _ (Regs.put _ (some 13) (.bool (runE s n F.length S es L != 0))) _ _
  rcases nz_cases (runE s n F.length S es L) with h0 | h0
  · have V:=valid_of hL h0
    have hb:(runE s n F.length S es L != 0) = false:=by rw [h0]; rfl
    rw [hb]
    refine W.cd rfl (OnB.no (W.skip ?_))
    refine W.seq (W.reg (WO.ld rfl (load_row tp52 (A2.hx X3) rfl (Nat.le_of_ble_eq_true rfl)) (WO.cl1 rfl rfl ((k85 H (s:=s) (n:=n) (r.hx Y3) V.lev (by omega) (by omega) V.in_ (f.next Y3 Y3.next)).mono ?_))))
    rintro v4 h4 ⟨b4,rfl,hb4,A4,X4⟩
    have Y4:=Y3.trans X4
    have hcl:(cellsL L S).length = F.length:=cells_len V.lev V.in_
    have hlim:=knownV_lim (cells_lim V.lev S)
    have hkl:=knownV_len (cellsL L S)
    have Vm:=V.m
    refine WO.cl1 rfl rfl ((k88 H (SlL.own eC A4 hcl) (by omega) (f.next Y4 Y4.next)).mono ?_)
    rintro v5 h5 ⟨O5,X5⟩
    have Y5:=Y4.trans X5
    have B5:=(B3.hx X4).hx X5
    have s5:=O5.sl eI
    generalize knownV (cellsL L S) = l at *
    refine WO.as rfl (WO.nil ?_)
    refine W.seq (W.seq (W.reg (WO.mv rfl (WO.lenC rfl s5 u29 (WO.bi rfl rfl rfl (WO.nil ?_))))))
    by_cases c0:l.length = 0
    · rw [show ((l.length:Int) == 0) = true by simp [c0]]
      refine W.cd rfl (OnB.yes (W.seq (W.reg (WO.bd rfl bd24z (WO.stA rfl rfl tp24 B5 rfl rfl (Nat.le_of_ble_eq_true rfl) rfl (f.hx Y5) (by omega) fun h6 P6 => WO.as rfl (WO.nil (W.ret ?_)))))))
      refine ⟨.inr rfl,_,res_cell1 rfl (load_row tp24 P6.at_ rfl (Nat.le_of_ble_eq_true rfl)) rfl,?_,P6.hx _ Y5 (by omega)⟩
      rw [c0]; rfl
    · rw [show ((l.length:Int) == 0) = false by simpa using c0]
      refine W.cd rfl (OnB.no (W.skip ?_))
      refine W.seq (W.reg (WO.mv rfl (WO.lenC rfl s5 u29 (WO.bi (v:=.int .i64 ((16 * l.length:Nat):Int)) rfl rfl ?_ (WO.as rfl (WO.as rfl (WO.nil ?_)))))))
      · show some (Value.int .i64 (fwrap .i64 (16 * (l.length:Int)))) = _
        rw [fwrap_i64 (by omega) (by omega)]
        congr 2
      refine W.seq (W.seq (W.reg (WO.mv rfl (WO.lenC rfl s5 u29 (WO.mv rfl (WO.nil ?_))))))
      refine W.block (W.loop (fun k a h6 => h6 = h5 ∧ ∃ i:Nat,i ≤ l.length ∧ k = l.length - i ∧ Full 39 a ∧ Tr.get a 2 = some (.pointer (some ⟨h1.next,0,none⟩)) ∧ Tr.get a 6 = some (.int .i64 (sumL (l.take i))) ∧ Tr.get a 7 = some (.int .i64 ((16 * l.length:Nat):Int)) ∧ Tr.get a 26 = some v5 ∧ Tr.get a 27 = some (.int .i64 l.length) ∧ Tr.get a 28 = some (.int .i64 (i:Nat)))
        ?_ l.length _ _ ⟨rfl,0,by omega,by omega,(by repeat (first | with_reducible refine Full.put ?_ (by decide) _ | with_reducible refine Full.putn ?_ _ | with_reducible exact Full.of _ _ rfl | with_reducible exact Full.start _ _ (Nat.le_of_ble_eq_true rfl) | exact Full.start _ _ (Nat.le_of_ble_eq_true rfl))),rfl,rfl,rfl,rfl,rfl,rfl⟩)
      rintro k a h6 ⟨rfl,i,hi,rfl,hf,i2,i6,i7,i27,i28,i29⟩
      (obtain ⟨rl0,hrl0,rfl⟩:=hf; obtain ⟨s0,s1,s2,s3,s4,s5,s6,s7,rl1,rfl,hrl1⟩:=cons8 hrl0; obtain ⟨s8,s9,s10,s11,s12,s13,s14,s15,rl2,rfl,hrl2⟩:=cons8 hrl1; obtain ⟨s16,s17,s18,s19,s20,s21,s22,s23,rl3,rfl,hrl3⟩:=cons8 hrl2; obtain ⟨s24,s25,s26,s27,s28,s29,s30,s31,rl4,rfl,hrl4⟩:=cons8 hrl3; obtain ⟨s32,rl5,rfl,hrl5⟩:=cons_of hrl4; obtain ⟨s33,rl6,rfl,hrl6⟩:=cons_of hrl5; obtain ⟨s34,rl7,rfl,hrl7⟩:=cons_of hrl6; obtain ⟨s35,rl8,rfl,hrl8⟩:=cons_of hrl7; obtain ⟨s36,rl9,rfl,hrl9⟩:=cons_of hrl8; obtain ⟨s37,rl10,rfl,hrl10⟩:=cons_of hrl9; obtain ⟨s38,rl11,rfl,hrl11⟩:=cons_of hrl10; obtain rfl:=nil_of hrl11; clear hrl0 hrl1 hrl2 hrl3 hrl4 hrl5 hrl6 hrl7 hrl8 hrl9 hrl10 hrl11; obtain rfl:s2 = _:=Option.some.inj (show some s2 = some _ from i2); clear i2; obtain rfl:s6 = _:=Option.some.inj (show some s6 = some _ from i6); clear i6; obtain rfl:s7 = _:=Option.some.inj (show some s7 = some _ from i7); clear i7; obtain rfl:s26 = _:=Option.some.inj (show some s26 = some _ from i27); clear i27; obtain rfl:s27 = _:=Option.some.inj (show some s27 = some _ from i28); clear i28; obtain rfl:s28 = _:=Option.some.inj (show some s28 = some _ from i29); clear i29)
      have hbd:=sum_bound (l:=l.take i) fun x hx => hlim x (List.mem_of_mem_take hx)
      have hti:(l.take i).length = i:=by simp; omega
      rw [hti] at hbd
      refine W.seq (W.reg (WO.bi rfl rfl rfl (WO.nil ?_)))
      by_cases hlt:i < l.length
      · rw [show decide ((i:Int) < (l.length:Int)) = true by simpa using hlt]
        refine W.seq (W.cd rfl (OnB.yes (W.skip ?_)))
        have hl1:l[i]? = some l[i]:=List.getElem?_eq_getElem hlt
        have hx:=hlim _ (List.getElem_mem hlt)
        have hstep:=(take_sum hl1).2
        obtain ⟨b,o,cc,fix,wr,el,e1,e2,e3,e4,e5⟩:=s5.at eI u29 tp3 hl1 .i64
        refine W.seq (W.block (W.seq (W.reg (WO.ix rfl rfl e1 (WO.ld rfl (load_one tp3 e2 (e5 0 (by decide))) (WO.as rfl (WO.nil ?_)))))))
        generalize l[i] = x at *
        refine W.reg (WO.mv rfl (WO.mv rfl (WO.addI rfl rfl (by omega) (by omega) (WO.as rfl (WO.nil ?_)))))
        refine W.reg (WO.bi rfl rfl rfl (WO.mv rfl (WO.nil ?_)))
        refine ⟨l.length - (i + 1),by omega,rfl,i + 1,by omega,rfl,(by repeat (first | with_reducible refine Full.put ?_ (by decide) _ | with_reducible refine Full.putn ?_ _ | with_reducible exact Full.of _ _ rfl | with_reducible exact Full.start _ _ (Nat.le_of_ble_eq_true rfl) | exact Full.start _ _ (Nat.le_of_ble_eq_true rfl))),rfl,by rw [hstep]; rfl,rfl,rfl,rfl,?_⟩
        show some (Value.int .i64 (fwrap .i64 ((i:Int) + 1))) = _
        rw [fwrap_i64 (by omega) (by omega)]
        rfl
      · rw [show decide ((i:Int) < (l.length:Int)) = false by simpa using hlt]
        refine W.seq (W.cd rfl (OnB.no (W.exit ?_)))
        obtain rfl:i = l.length:=by omega
        rw [List.take_length] at *
        have hg:0 < Nat.gcd (sumL l).natAbs (16 * l.length):=Nat.gcd_pos_of_pos_right _ (by omega)
        refine W.seq (W.reg (WO.mv rfl (WO.mv rfl (WO.cl2 rfl rfl rfl ((k91 H (n:=16 * l.length) (by omega) (by omega) (by omega) (by omega) (f.next Y5 Y5.next)).mono ?_)))))
        rintro v7 h7 ⟨rfl,X7⟩
        have Y7:=Y5.trans X7
        refine WO.stA rfl rfl tp24 (B5.hx X7) rfl rfl (Nat.le_of_ble_eq_true rfl) rfl (f.hx Y7) (by omega) fun h8 P8 => WO.as rfl (WO.nil (W.ret ?_))
        refine ⟨.inr rfl,_,res_cell1 rfl (load_row tp24 P8.at_ rfl (Nat.le_of_ble_eq_true rfl)) rfl,?_,P8.hx _ Y7 (by omega)⟩
        rw [show (l.length == 0) = false by simpa using c0]
        rfl
  · rw [h0]
    refine W.cd rfl (OnB.yes (W.seq (W.reg (WO.bd rfl bd24z (WO.mv rfl (WO.stA rfl rfl tp24 B3 rfl rfl (Nat.le_of_ble_eq_true rfl) rfl (f.hx Y3) (by omega) fun h6 P6 => WO.as rfl (WO.nil (W.ret ?_))))))))
    exact ⟨.inr rfl,_,res_cell1 rfl (load_row tp24 P6.at_ rfl (Nat.le_of_ble_eq_true rfl)) rfl,rfl,P6.hx _ Y3 (by omega)⟩
end Go.Tidy
namespace Go.Tidy
open Go Go.Proofs Tab
variable {tp:TProg}
def Swapped {α:Type} (C D:List α) (i:Nat):Prop:=D.length = C.length ∧ ∀ x,x < C.length → D[x]? = if x < i ∨ C.length ≤ x + i then C[C.length - 1 - x]? else C[x]?
theorem Swapped.zero {α:Type} (C:List α):Swapped C C 0:=⟨rfl,fun x hx => by rw [if_neg (by omega)]⟩
theorem Swapped.step {α:Type} {C D:List α} {i:Nat} (s:Swapped C D i) (hi:i + i + 1 < C.length) {x y:α} (hx:D[i]? = some x) (hy:D[C.length - 1 - i]? = some y):Swapped C ((D.set i y).set (C.length - 1 - i) x) (i + 1):=by
 have e1:=s.2 i (by omega)
 have e2:=s.2 (C.length - 1 - i) (by omega)
 rw [if_neg (by omega),hx] at e1
 rw [if_neg (by omega),hy] at e2
 refine ⟨by rw [List.length_set,List.length_set,s.1],fun z hz => ?_⟩
 by_cases h1:z = C.length - 1 - i
 ·subst h1
  rw [List.getElem?_set_self (by rw [List.length_set,s.1]; exact hz),if_pos (by omega),show C.length - 1 - (C.length - 1 - i) = i by omega]
  exact e1
 ·rw [List.getElem?_set_ne (by omega)]
  by_cases h2:z = i
  ·subst h2
   rw [List.getElem?_set_self (by rw [s.1]; exact hz),if_pos (by omega)]
   exact e2
  ·rw [List.getElem?_set_ne (by omega),s.2 z hz]
   by_cases h3:z < i ∨ C.length ≤ z + i
   ·rw [if_pos h3,if_pos (by omega)]
   ·rw [if_neg h3,if_neg (by omega)]
theorem Swapped.done {α:Type} {C D:List α} {i:Nat} (s:Swapped C D i) (hi:C.length ≤ i + i + 1):D = C.reverse:=by
 apply List.ext_getElem?
 intro x
 by_cases hx:x < C.length
 ·rw [s.2 x hx,List.getElem?_reverse hx]
  by_cases h:x < i ∨ C.length ≤ x + i
  ·rw [if_pos h]
  ·rw [if_neg h]; congr 1; omega
 ·rw [List.getElem?_eq_none (by rw [s.1]; omega),List.getElem?_eq_none (by simp; omega)]
set_option maxRecDepth 10000 in
theorem k90 (H:Has tp) {b n0:Nat} {C:List (Int × Bool)} {h:TH} (A:At h b (.cells (cat encC C) true true 161)) (hC:C.length ≤ 900000) (f:Free0 n0 h) (hb:n0 ≤ b) :
  CallW Tryz.prog tp (.func (.func 106) #[] #[]) #[.slice (some ⟨b,0,none⟩) C.length C.length] h fun v h' => At h' b (.cells (cat encC C.reverse) true true 161) ∧ (∀ h0,HX h0 h → h0.next ≤ b → HX h0 h') ∧ (∀ c y,c ≠ b → At h c y → At h' c y) ∧ Free0 n0 h' ∧ h'.next = h.next:=by
 refine CallW.full (H.fn 106 f90 rfl rfl) rfl ?_
 refine W.seq (W.reg (WO.mv rfl (WO.lenC rfl (SlL.own eC A rfl) u135 (WO.bi (v:=.int .i64 ((C.length:Int) - 1)) rfl rfl ?_ (WO.as rfl (WO.as rfl (WO.nil ?_)))))))
 ·show some (Value.int .i64 (fwrap .i64 ((C.length:Int) - 1))) = _
  rw [fwrap_i64 (by omega) (by omega)]
 refine W.block (W.loop (fun k a h2 => ∃ (i:Nat) (D:List (Int × Bool)),k = C.length - i ∧ i ≤ C.length ∧ Swapped C D i ∧ At h2 b (.cells (cat encC D) true true 161) ∧ (∀ h0,HX h0 h → h0.next ≤ b → HX h0 h2) ∧ (∀ c y,c ≠ b → At h c y → At h2 c y) ∧ Free0 n0 h2 ∧ h2.next = h.next ∧ Full 28 a ∧ Tr.get a 0 = some (.slice (some ⟨b,0,none⟩) C.length C.length) ∧ Tr.get a 2 = some (.int .i64 (i:Nat)) ∧ Tr.get a 3 = some (.int .i64 ((C.length:Int) - 1 - i)))
  ?_ C.length _ _ ⟨0,C,by omega,by omega,Swapped.zero C,A,fun _ hx _ => hx,fun _ _ _ ha => ha,f,rfl,(by repeat (first | with_reducible refine Full.put ?_ (by decide) _ | with_reducible refine Full.putn ?_ _ | with_reducible exact Full.of _ _ rfl | with_reducible exact Full.start _ _ (Nat.le_of_ble_eq_true rfl) | exact Full.start _ _ (Nat.le_of_ble_eq_true rfl))),rfl,rfl,by simp; rfl⟩)
 rintro k a h2 ⟨i,D,rfl,hiC,sw,A2,x2,o2,f2,n2,hf,i0,i2,i3⟩
 (obtain ⟨rl0,hrl0,rfl⟩:=hf; obtain ⟨s0,s1,s2,s3,s4,s5,s6,s7,rl1,rfl,hrl1⟩:=cons8 hrl0; obtain ⟨s8,s9,s10,s11,s12,s13,s14,s15,rl2,rfl,hrl2⟩:=cons8 hrl1; obtain ⟨s16,s17,s18,s19,s20,s21,s22,s23,rl3,rfl,hrl3⟩:=cons8 hrl2; obtain ⟨s24,rl4,rfl,hrl4⟩:=cons_of hrl3; obtain ⟨s25,rl5,rfl,hrl5⟩:=cons_of hrl4; obtain ⟨s26,rl6,rfl,hrl6⟩:=cons_of hrl5; obtain ⟨s27,rl7,rfl,hrl7⟩:=cons_of hrl6; obtain rfl:=nil_of hrl7; clear hrl0 hrl1 hrl2 hrl3 hrl4 hrl5 hrl6 hrl7; obtain rfl:s0 = _:=Option.some.inj (show some s0 = some _ from i0); clear i0; obtain rfl:s2 = _:=Option.some.inj (show some s2 = some _ from i2); clear i2; obtain rfl:s3 = _:=Option.some.inj (show some s3 = some _ from i3); clear i3)
 refine W.seq (W.seq (W.reg (WO.mv rfl (WO.mv rfl (WO.bi rfl rfl rfl (WO.nil ?_))))))
 by_cases hlt:(i:Int) < (C.length:Int) - 1 - i
 ·rw [show decide ((i:Int) < (C.length:Int) - 1 - i) = true by simpa using hlt]
  refine W.cd rfl (OnB.yes (W.skip ?_))
  have hj:(C.length:Int) - 1 - i = ((C.length - 1 - i:Nat):Int):=by omega
  have hDi:D[i]? = some (D[i]'(by rw [sw.1]; omega)):=List.getElem?_eq_getElem _
  have hDj:D[C.length - 1 - i]? = some (D[C.length - 1 - i]'(by rw [sw.1]; omega)):=List.getElem?_eq_getElem _
  have swn:=sw.step (by omega) hDi hDj
  have hDl:=sw.1
  generalize (D[i]'(by rw [sw.1]; omega)) = p at *
  generalize (D[C.length - 1 - i]'(by rw [sw.1]; omega)) = q at *
  rw [hj]
  have sD:SlL encC 2 h2 (.slice (some ⟨b,0,none⟩) C.length C.length) D:=SlL.own eC A2 hDl
  obtain ⟨b4,o4,cc,fix,wr,el,e1,e2,e3,e4,e5⟩:=sD.at eC u135 tp134 hDi .i64
  obtain ⟨b5,o5,cc',fix',wr',el',g1,g2,g3,g4,g5⟩:=sD.at eC u135 tp134 hDj .i64
  refine W.seq (W.block (W.reg (WO.mv rfl (WO.mv rfl (WO.mv rfl (WO.mv rfl (WO.mv rfl (WO.mv rfl (WO.ix rfl rfl g1 (WO.ld rfl (load_row tp134 g2 g4 g3) (WO.mv rfl (WO.mv rfl (WO.ix rfl rfl e1 (WO.ld rfl (load_row tp134 e2 e4 e3) ?_))))))))))))))
  refine WO.ix rfl rfl (indexAddr_tp u135 tp134 (by omega)) (WO.stA rfl rfl tp134 A2 rfl rfl (by rw [eC.cat_len]; omega) rfl f2 hb fun h3 P3 => ?_)
  have A3:=P3.at_
  rw [show (0:Nat) + i * 2 = i * 2 by omega,show (Value.agg (encC q).toArray).cells.toList = encC q from rfl,eC.set (by omega)] at A3
  refine WO.ix rfl rfl (indexAddr_tp u135 tp134 (by omega)) (WO.stA rfl rfl tp134 A3 rfl rfl (by rw [eC.cat_len,List.length_set]; omega) rfl ⟨by rw [P3.floor]; exact f2.floor,by rw [P3.lock]; exact f2.lock⟩ hb fun h4 P4 => WO.nil ?_)
  have A4:=P4.at_
  rw [show (0:Nat) + (C.length - 1 - i) * 2 = (C.length - 1 - i) * 2 by omega,show (Value.agg (encC p).toArray).cells.toList = encC p from rfl,eC.set (by rw [List.length_set]; omega)] at A4
  refine W.reg (WO.mv rfl (WO.addI rfl rfl (by omega) (by omega) (WO.mv rfl (WO.bi (v:=.int .i64 ((C.length:Int) - 1 - ((i + 1:Nat):Int))) rfl rfl ?_ (WO.as rfl (WO.as rfl (WO.nil ?_)))))))
  ·show some (Value.int .i64 (fwrap .i64 (((C.length - 1 - i:Nat):Int) - 1))) = _
   rw [fwrap_i64 (by omega) (by omega)]
   congr 2
   omega
  exact ⟨C.length - (i + 1),by omega,i + 1,_,rfl,by omega,swn,A4,fun h0 hx hb' => P4.hx _ (P3.hx _ (x2 h0 hx hb') hb') hb',fun c y hc ha => P4.oth _ _ hc (P3.oth _ _ hc (o2 c y hc ha)),⟨by rw [P4.floor,P3.floor]; exact f2.floor,by rw [P4.lock,P3.lock]; exact f2.lock⟩,by rw [P4.next,P3.next,n2],(by repeat (first | with_reducible refine Full.put ?_ (by decide) _ | with_reducible refine Full.putn ?_ _ | with_reducible exact Full.of _ _ rfl | with_reducible exact Full.start _ _ (Nat.le_of_ble_eq_true rfl) | exact Full.start _ _ (Nat.le_of_ble_eq_true rfl))),rfl,rfl,rfl⟩
 ·rw [show decide ((i:Int) < (C.length:Int) - 1 - i) = false by simpa using hlt]
  refine W.cd rfl (OnB.no (W.exit ?_))
  have:=sw.done (by omega)
  subst this
  exact ⟨.inl rfl,_,rfl,A2,x2,o2,f2,n2⟩
end Go.Tidy
namespace Go.Tidy
open Go Go.Proofs Tab
variable {tp:TProg}
def run0:Value:=runV ⟨#[]⟩ 0 (.slice none 0 0) (.slice none 0 0)
def RunR (h h':TH) (v:Value) (s:ByteArray) (n:Int) (C:List (Int × Bool)) (e:Int):Prop :=
 HX h h' ∧ ((e ≠ 0 ∧ v = .tuple #[run0,.int .i64 e]) ∨ (e = 0 ∧ ∃ w1 w2,v = .tuple #[runV s n w1 w2,.int .i64 0] ∧ RunO h.next h' w1 w2 (C.map fun c => smp c.1) (holesOf (C.map fun c => c.2))))
set_option maxRecDepth 10000 in
theorem k28 (H:Has tp) (X:HasX tp) {s:ByteArray} {n:Int} {v1 v2:Value} {F:List Nat} {S:List (Int × Int)} {es L:List Int} {h:TH} (r:RunH h v1 v2 F S) (hE:SErr F es) (hL:firstNZ es = 0 → Lev F L) (hF:F.length ≤ 900000) (hS:S.length ≤ 900000) (f:Free0 h.next h) :
  CallW Tryz.prog tp (.func (.func 30) #[] #[]) #[runV s n v1 v2] h fun v h' => RunR h h' v s n (cellsL L S).reverse (runE s n F.length S es L):=by
 refine CallW.full (H.fn 30 f28 rfl rfl) rfl ?_
 refine W.seq (W.reg (WO.boxA rfl fun h1 N1 => WO.alA tp52 fun h2 N2 => WO.as rfl (WO.nil ?_)))
 have q1:=N1.next
 have q2:=N2.next
 have X2:=N1.hx.trans N2.hx
 have A2:=N1.at_.hx N2.hx
 refine W.seq (W.seq (W.reg (WO.ld rfl (load_row tp52 A2 rfl (Nat.le_of_ble_eq_true rfl)) (WO.cl1 rfl rfl ((k41 H X (s:=s) (n:=n) (r.hx X2) hE hL (by omega) (by omega) (f.next X2 X2.next)).mono ?_)))))
 rintro v3 h3 ⟨rfl,X3⟩
 have Y3:=X2.trans X3
 have B3:=N2.at_.hx X3
 refine WO.as rfl (WO.nil ?_)
 refine W.seq (W.reg (WO.mv rfl (WO.bi rfl rfl rfl (WO.nil ?_))))
 show W Tryz.prog tp false _ (Regs.put _ (some 9) (.bool (runE s n F.length S es L != 0))) _ _
 rcases nz_cases (runE s n F.length S es L) with h0 | h0
 ·have V:=valid_of hL h0
  have hb:(runE s n F.length S es L != 0) = false:=by rw [h0]; rfl
  rw [hb]
  refine W.cd rfl (OnB.no (W.skip ?_))
  refine W.seq (W.reg (WO.ld rfl (load_row tp52 (A2.hx X3) rfl (Nat.le_of_ble_eq_true rfl)) (WO.cl1 rfl rfl ((k85 H (s:=s) (n:=n) (r.hx Y3) V.lev (by omega) (by omega) V.in_ (f.next Y3 Y3.next)).mono ?_))))
  rintro v4 h4 ⟨b4,rfl,hb4,A4,X4⟩
  have Y4:=Y3.trans X4
  have hcl:(cellsL L S).length = F.length:=cells_len V.lev V.in_
  have hlim:=cells_lim V.lev S
  have Vm:=V.m
  refine WO.as rfl (WO.nil ?_)
  have lt3:=(A2.hx X3).lt
  have lt3':=B3.lt
  rw [← hcl]
  refine W.seq (W.reg (WO.mv rfl (WO.cl1 rfl rfl ((k90 H A4 (by omega) (f.hx Y4) (by have:=Y3.next; omega)).mono ?_))))
  rintro v5 h5 ⟨A5,x5,o5,f5,n5⟩
  have Y5:=x5 _ Y4 (by have:=Y3.next; omega)
  have B5:=o5 _ _ (by omega) (B3.hx X4)
  have C5:=o5 _ _ (by omega) ((A2.hx X3).hx X4)
  refine WO.nil ?_
  refine W.seq (W.reg (WO.fa rfl (fa_of fo52_0) (WO.ld rfl (load_one tp9 C5 rfl) (WO.fa rfl (fa_of fo52_1) (WO.ld rfl (load_one tp3 C5 rfl) (WO.mv rfl (WO.cl3 rfl rfl rfl rfl ((k89 H (SlL.own eC A5 (by simp)) (fun c hc => hlim c (by simpa using hc)) (by simp; omega) (f.next Y5 Y5.next)).mono ?_))))))))
  rintro v6 h6 ⟨w1,w2,rfl,X6,r6⟩
  have Y6:=Y5.trans X6
  obtain ⟨bo1,c1,rfl⟩:=r6.r.f.form
  obtain ⟨bo2,c2,rfl⟩:=r6.r.s.form
  refine WO.stA rfl rfl tp52 (B5.hx X6) rfl rfl (Nat.le_of_ble_eq_true rfl) rfl (f.hx Y6) (by omega) fun h7 P7 => WO.as rfl (WO.nil (W.ret ?_))
  have lt5:=B5.lt
  refine ⟨.inr rfl,_,res_cell1 rfl (load_row tp52 P7.at_ rfl (Nat.le_of_ble_eq_true rfl)) rfl,P7.hx _ Y6 (by omega),.inr ⟨by rw [hcl]; exact h0,_,_,rfl,(r6.away P7 (by omega)).le (by omega)⟩⟩
 ·rw [h0]
  refine W.cd rfl (OnB.yes (W.seq (W.reg (WO.bd rfl bd52z (WO.mv rfl (WO.stA rfl rfl tp52 B3 rfl rfl (Nat.le_of_ble_eq_true rfl) rfl (f.hx Y3) (by omega) fun h6 P6 => WO.as rfl (WO.nil (W.ret ?_))))))))
  exact ⟨.inr rfl,_,res_cell1 rfl (load_row tp52 P6.at_ rfl (Nat.le_of_ble_eq_true rfl)) rfl,P6.hx _ Y3 (by omega),.inl ⟨by simpa using h0,rfl⟩⟩
theorem SlL.piece {α:Type} {enc:α → List Value} {k:Nat} {h:TH} {b lo hi cap:Nat} {C:List α} {fix wr:Bool} {el:TypeId} (E:Enc enc k) (hb:At h b (.cells (cat enc C) fix wr el)) (h1:lo ≤ hi) (h2:hi ≤ C.length) (hc:hi - lo ≤ cap) :
  SlL enc k h (.slice (some ⟨b,lo * k,none⟩) (hi - lo) cap) ((C.drop lo).take (hi - lo)):=by
 have hl:((C.drop lo).take (hi - lo)).length = hi - lo:=by simp; omega
 have hle:hi * k ≤ C.length * k:=Nat.mul_le_mul_right _ h2
 have hle2:lo * k ≤ hi * k:=Nat.mul_le_mul_right _ h1
 have e1:(hi - lo) * k = hi * k - lo * k:=Nat.sub_mul _ _ _
 unfold SlL
 rw [hl]
 refine ⟨_,cap,rfl,hc,by rw [E.cat_len,hl],.inr ⟨b,lo * k,cat enc C,fix,wr,el,rfl,hb,E.part C lo (hi - lo),by rw [E.cat_len]; omega⟩⟩
end Go.Tidy
namespace Go.Tidy
open Go Go.Proofs Tab
variable {tp:TProg}
set_option maxHeartbeats 1000000 in
set_option maxRecDepth 10000 in
theorem k27 (H:Has tp) (X:HasX tp) {s:ByteArray} {n p1 p2:Int} {v1 v2:Value} {F:List Nat} {S:List (Int × Int)} {es L:List Int} {h:TH} (r:RunH h v1 v2 F S) (hE:SErr F es) (hL:firstNZ es = 0 → Lev F L) (hF:F.length ≤ 900000) (hS:S.length ≤ 900000) (f:Free0 h.next h) :
    CallW Tryz.prog tp (.func (.func 29) #[] #[]) #[runV s n v1 v2,.agg #[.int .i64 p1,.int .i64 p2]] h fun v h' => RunR h h' v s p1 (((cellsL L S).drop (p1 - n).toNat).take ((p2 - n).toNat - (p1 - n).toNat)) (cond (runE s n F.length S es L != 0) (runE s n F.length S es L) (cond (offB n F.length (p1,p2)) 14 0)):=by
  refine CallW.full (H.fn 29 f27 rfl rfl) rfl ?_
  refine W.seq (W.reg (WO.boxA rfl fun h1 N1 => WO.boxA rfl fun h2 N2 => WO.alA tp52 fun h2' N2' => WO.as rfl (WO.nil ?_)))
  have q1:=N1.next
  have q2:=N2.next
  have q3:=N2'.next
  have X2:=(N1.hx.trans N2.hx).trans N2'.hx
  have A2:=(N1.at_.hx N2.hx).hx N2'.hx
  have D2:=N2.at_.hx N2'.hx
  refine W.seq (W.seq (W.reg (WO.ld rfl (load_row tp52 A2 rfl (Nat.le_of_ble_eq_true rfl)) (WO.cl1 rfl rfl ((k41 H X (s:=s) (n:=n) (r.hx X2) hE hL (by omega) (by omega) (f.next X2 X2.next)).mono ?_)))))
  rintro v3 h3 ⟨rfl,X3⟩
  have Y3:=X2.trans X3
  have A3:=A2.hx X3
  have D3:=D2.hx X3
  have B3:=N2'.at_.hx X3
  refine WO.as rfl (WO.nil ?_)
  refine W.seq (W.reg (WO.mv rfl (WO.bi rfl rfl rfl (WO.nil ?_))))
  show W Tryz.prog tp false _ (Regs.put _ (some 11) (.bool (runE s n F.length S es L != 0))) _ _
  rcases nz_cases (runE s n F.length S es L) with h0 | h0
  · have V:=valid_of hL h0
    have hb:(runE s n F.length S es L != 0) = false:=by rw [h0]; rfl
    rw [hb]
    refine W.cd rfl (OnB.no (W.skip ?_))
    have V1:=V.n1
    have V0:=V.n0
    have Vm:=V.m
    refine W.seq (W.seq (W.mono (Q:=fun y a' h' => y = .normal ∧ HX h3 h' ∧ Full 53 a' ∧ Tr.get a' 2 = some (.pointer (some ⟨h.next,0,none⟩)) ∧ Tr.get a' 3 = some (.pointer (some ⟨h1.next,0,none⟩)) ∧ Tr.get a' 4 = some (.pointer (some ⟨h2.next,0,none⟩)) ∧ Tr.get a' 32 = some (.bool (offB n F.length (p1,p2)))) ?_ ?_))
    · refine W.reg (WO.fa rfl (fa_of fo48_0) (WO.ld rfl (load_one tp3 D3 rfl) (WO.fa rfl (fa_of fo48_1) (WO.ld rfl (load_one tp3 D3 rfl) (WO.bi rfl rfl rfl ?_)))))
      by_cases c1:p1 ≥ p2
      · rw [show decide (p1 ≥ p2) = true by simpa using c1]
        refine WO.mv rfl (WO.skp (b:=true) rfl rfl (WO.skp (b:=true) rfl rfl (WO.skp (b:=true) rfl rfl (WO.skp (b:=true) rfl rfl (WO.skp (b:=true) rfl rfl (WO.pk rfl rfl rfl (OnB.yes ?_)))))))
        refine WO.mv rfl (WO.skp (b:=true) rfl rfl (WO.skp (b:=true) rfl rfl (WO.skp (b:=true) rfl rfl (WO.skp (b:=true) rfl rfl (WO.skp (b:=true) rfl rfl (WO.pk rfl rfl rfl (OnB.yes (WO.nil ?_))))))))
        refine ⟨rfl,HX.refl _,(by repeat (first | with_reducible refine Full.put ?_ (by decide) _ | with_reducible refine Full.putn ?_ _ | with_reducible exact Full.of _ _ rfl | with_reducible exact Full.start _ _ (Nat.le_of_ble_eq_true rfl) | exact Full.start _ _ (Nat.le_of_ble_eq_true rfl))),rfl,rfl,rfl,?_⟩
        simp [offB,c1]; rfl
      · rw [show decide (p1 ≥ p2) = false by simpa using c1]
        refine WO.mv rfl (WO.now (b:=false) rfl rfl (WO.fa rfl (fa_of fo48_0) (WO.now (b:=false) rfl rfl (WO.ld rfl (load_one tp3 D3 rfl) (WO.now (b:=false) rfl rfl (WO.fa rfl (fa_of fo52_1) (WO.now (b:=false) rfl rfl (WO.ld rfl (load_one tp3 A3 rfl) (WO.now (b:=false) rfl rfl (WO.bi rfl rfl rfl (WO.pk rfl rfl rfl (OnB.no ?_))))))))))))
        by_cases c2:p1 < n
        · rw [show decide (p1 < n) = true by simpa using c2]
          refine WO.mv rfl (WO.skp (b:=true) rfl rfl (WO.skp (b:=true) rfl rfl (WO.skp (b:=true) rfl rfl (WO.skp (b:=true) rfl rfl (WO.skp (b:=true) rfl rfl (WO.pk rfl rfl rfl (OnB.yes (WO.nil ?_))))))))
          refine ⟨rfl,HX.refl _,(by repeat (first | with_reducible refine Full.put ?_ (by decide) _ | with_reducible refine Full.putn ?_ _ | with_reducible exact Full.of _ _ rfl | with_reducible exact Full.start _ _ (Nat.le_of_ble_eq_true rfl) | exact Full.start _ _ (Nat.le_of_ble_eq_true rfl))),rfl,rfl,rfl,?_⟩
          simp [offB,c2]; rfl
        · rw [show decide (p1 < n) = false by simpa using c2]
          refine WO.mv rfl (WO.now (b:=false) rfl rfl (WO.fa rfl (fa_of fo48_1) (WO.now (b:=false) rfl rfl (WO.ld rfl (load_one tp3 D3 rfl) (WO.now (b:=false) rfl rfl (WO.ld rfl (load_row tp52 A3 rfl (Nat.le_of_ble_eq_true rfl)) (WO.now (b:=false) rfl rfl (WO.lk1 rfl rfl fun LL => (k84 H (s:=s) (v2:=v2) ((r.f.hx Y3).relock LL) V0 (by omega) (by omega)).mono ?_))))))))
          rintro v4 h4 ⟨rfl,X4⟩
          have X4:=X4.relock
          generalize h4.withLock h3.lock = h4 at *
          refine WO.now (b:=false) rfl rfl (WO.bi rfl rfl rfl (WO.pk rfl rfl rfl (OnB.no (WO.nil ?_))))
          refine ⟨rfl,X4,(by repeat (first | with_reducible refine Full.put ?_ (by decide) _ | with_reducible refine Full.putn ?_ _ | with_reducible exact Full.of _ _ rfl | with_reducible exact Full.start _ _ (Nat.le_of_ble_eq_true rfl) | exact Full.start _ _ (Nat.le_of_ble_eq_true rfl))),rfl,rfl,rfl,?_⟩
          show some (Value.bool (decide (p2 > n + F.length))) = _
          simp [offB,c1,c2]
    · rintro y a' h4 ⟨rfl,X4,hf',j2,j3,j4,j32⟩
      (obtain ⟨rl0,hrl0,rfl⟩:=hf'; obtain ⟨s0,s1,s2,s3,s4,s5,s6,s7,rl1,rfl,hrl1⟩:=cons8 hrl0; obtain ⟨s8,s9,s10,s11,s12,s13,s14,s15,rl2,rfl,hrl2⟩:=cons8 hrl1; obtain ⟨s16,s17,s18,s19,s20,s21,s22,s23,rl3,rfl,hrl3⟩:=cons8 hrl2; obtain ⟨s24,s25,s26,s27,s28,s29,s30,s31,rl4,rfl,hrl4⟩:=cons8 hrl3; obtain ⟨s32,s33,s34,s35,s36,s37,s38,s39,rl5,rfl,hrl5⟩:=cons8 hrl4; obtain ⟨s40,s41,s42,s43,s44,s45,s46,s47,rl6,rfl,hrl6⟩:=cons8 hrl5; obtain ⟨s48,rl7,rfl,hrl7⟩:=cons_of hrl6; obtain ⟨s49,rl8,rfl,hrl8⟩:=cons_of hrl7; obtain ⟨s50,rl9,rfl,hrl9⟩:=cons_of hrl8; obtain ⟨s51,rl10,rfl,hrl10⟩:=cons_of hrl9; obtain ⟨s52,rl11,rfl,hrl11⟩:=cons_of hrl10; obtain rfl:=nil_of hrl11; clear hrl0 hrl1 hrl2 hrl3 hrl4 hrl5 hrl6 hrl7 hrl8 hrl9 hrl10 hrl11; obtain rfl:s2 = _:=Option.some.inj (show some s2 = some _ from j2); clear j2; obtain rfl:s3 = _:=Option.some.inj (show some s3 = some _ from j3); clear j3; obtain rfl:s4 = _:=Option.some.inj (show some s4 = some _ from j4); clear j4; obtain rfl:s32 = _:=Option.some.inj (show some s32 = some _ from j32); clear j32)
      have Y4:=Y3.trans X4
      have A4:=A3.hx X4
      have D4:=D3.hx X4
      have B4:=B3.hx X4
      rw [h0]
      cases hq:offB n F.length (p1,p2) with
      | true =>
        refine W.cd rfl (OnB.yes (W.seq (W.reg (WO.bd rfl bd52z (WO.stA rfl rfl tp52 B4 rfl rfl (Nat.le_of_ble_eq_true rfl) rfl (f.hx Y4) (by omega) fun h6 P6 => WO.as rfl (WO.nil (W.ret ?_)))))))
        exact ⟨.inr rfl,_,res_cell1 rfl (load_row tp52 P6.at_ rfl (Nat.le_of_ble_eq_true rfl)) rfl,P6.hx _ Y4 (by omega),.inl ⟨by decide,rfl⟩⟩
      | false =>
        refine W.cd rfl (OnB.no (W.skip ?_))
        unfold offB at hq
        simp only [Bool.or_eq_false_iff,decide_eq_false_iff_not] at hq
        have hcl:=cells_len V.lev V.in_
        have hlim:=cells_lim V.lev S
        have lt4:=A4.lt
        have ltD:=D4.lt
        have ltB:=B4.lt
        have c1:p1 - n = (((p1 - n).toNat:Nat):Int):=by omega
        have c2:p2 - n = (((p2 - n).toNat:Nat):Int):=by omega
        have hle:(p1 - n).toNat ≤ (p2 - n).toNat:=by omega
        have hle2:(p2 - n).toNat ≤ F.length:=by omega
        refine W.seq (W.reg (WO.ld rfl (load_row tp52 A4 rfl (Nat.le_of_ble_eq_true rfl)) (WO.fa rfl (fa_of fo48_0) (WO.ld rfl (load_one tp3 D4 rfl) (WO.fa rfl (fa_of fo52_1) (WO.ld rfl (load_one tp3 A4 rfl) (WO.bi (v:=.int .i64 (((p1 - n).toNat:Nat):Int)) rfl rfl ?_ ?_)))))))
        · show some (Value.int .i64 (fwrap .i64 (p1 - n))) = _
          rw [fwrap_i64 (by omega) (by omega),← c1]
        refine WO.fa rfl (fa_of fo48_1) (WO.ld rfl (load_one tp3 D4 rfl) (WO.fa rfl (fa_of fo52_1) (WO.ld rfl (load_one tp3 A4 rfl) (WO.bi (v:=.int .i64 (((p2 - n).toNat:Nat):Int)) rfl rfl ?_ ?_))))
        · show some (Value.int .i64 (fwrap .i64 (p2 - n))) = _
          rw [fwrap_i64 (by omega) (by omega),← c2]
        refine WO.lq1 [h.next,h1.next,h.next,h1.next] rfl rfl rfl fun LL hLL => (k85 H (s:=s) (n:=n) (h:=h4.withLock LL) ⟨(r.f.hx Y4).relock LL,(r.s.hx Y4).relock LL,(r.g.hx Y4).relock LL⟩ V.lev (by omega) (by omega) V.in_ ((f.next Y4 Y4.next).held hLL (by simp; omega))).mono ?_
        rintro v6 h6 ⟨b6,rfl,hb6,A6,X6⟩
        have X6:=X6.relock
        have A6:=A6.relock h4.lock
        generalize h6.withLock h4.lock = h6 at *
        have Y6:=Y4.trans X6
        refine WO.sl rfl rfl rfl (sliceT_at u135 tp134 (Nat.le_refl _) hle hle2 A6 (.inl rfl)) (WO.as rfl (WO.nil ?_))
        have sp:=SlL.piece (lo:=(p1 - n).toNat) (hi:=(p2 - n).toNat) (cap:=F.length - (p1 - n).toNat) eC A6 hle (by omega) (by omega)
        rw [show (p1 - n).toNat * 2 = 0 + (p1 - n).toNat * 2 by omega] at sp
        have hlen:(((cellsL L S).drop (p1 - n).toNat).take ((p2 - n).toNat - (p1 - n).toNat)).length = (p2 - n).toNat - (p1 - n).toNat:=by simp; omega
        have hlim2:∀ c,c ∈ ((cellsL L S).drop (p1 - n).toNat).take ((p2 - n).toNat - (p1 - n).toNat) → c.1.natAbs ≤ 16384:=fun c hc => hlim c (List.mem_of_mem_drop (List.mem_of_mem_take hc))
        generalize ((cellsL L S).drop (p1 - n).toNat).take ((p2 - n).toNat - (p1 - n).toNat) = C at *
        refine W.seq (W.reg (WO.fa rfl (fa_of fo52_0) (WO.ld rfl (load_one tp9 (A4.hx X6) rfl) (WO.fa rfl (fa_of fo48_0) (WO.ld rfl (load_one tp3 (D4.hx X6) rfl) (WO.mv rfl (WO.cl3 rfl rfl rfl rfl ((k89 H sp hlim2 (by omega) (f.next Y6 Y6.next)).mono ?_))))))))
        rintro v7 h7 ⟨w1,w2,rfl,X7,r7⟩
        have Y7:=Y6.trans X7
        obtain ⟨bo1,cc1,rfl⟩:=r7.r.f.form
        obtain ⟨bo2,cc2,rfl⟩:=r7.r.s.form
        refine WO.stA rfl rfl tp52 ((B4.hx X6).hx X7) rfl rfl (Nat.le_of_ble_eq_true rfl) rfl (f.hx Y7) (by omega) fun h8 P8 => WO.as rfl (WO.nil (W.ret ?_))
        have l6:=(B4.hx X6).lt
        refine ⟨.inr rfl,_,res_cell1 rfl (load_row tp52 P8.at_ rfl (Nat.le_of_ble_eq_true rfl)) rfl,P8.hx _ Y7 (by omega),.inr ⟨rfl,_,_,rfl,(r7.away P8 (by omega)).le (by omega)⟩⟩
  · rw [h0]
    refine W.cd rfl (OnB.yes (W.seq (W.reg (WO.bd rfl bd52z (WO.mv rfl (WO.stA rfl rfl tp52 B3 rfl rfl (Nat.le_of_ble_eq_true rfl) rfl (f.hx Y3) (by omega) fun h6 P6 => WO.as rfl (WO.nil (W.ret ?_))))))))
    exact ⟨.inr rfl,_,res_cell1 rfl (load_row tp52 P6.at_ rfl (Nat.le_of_ble_eq_true rfl)) rfl,P6.hx _ Y3 (by omega),.inl ⟨by simpa using h0,rfl⟩⟩
end Go.Tidy
namespace Go.Tidy
open Go Go.Proofs Tab
variable {tp:TProg}
theorem cellsK_snd:∀ {L:List Int} {K:List Bool},K.length = L.length → (cellsK L K).map (fun c => c.2) = K
 | [],[],_ => rfl
 | [],_ :: _,h => by simp at h
 | _ :: _,[],h => by simp at h
 | l :: L,k :: K,h => by
  rw [cellsK_cons,List.map_cons,cellsK_snd (by simpa using h)]
  cases k <;> rfl
theorem cellsK_part (L:List Int) (K:List Bool) (lo k:Nat):((cellsK L K).drop lo).take k = cellsK ((L.drop lo).take k) ((K.drop lo).take k):=by
 unfold cellsK
 rw [List.drop_zipWith,List.take_zipWith]
theorem cellsK_rev {L:List Int} {K:List Bool} (h:L.length = K.length):(cellsK L K).reverse = cellsK L.reverse K.reverse:=by
 unfold cellsK
 exact (List.reverse_zipWith h)
theorem OwnL.some {α:Type} {enc:α → List Value} {n0:Nat} {h:TH} {v:Value} {e:TypeId} {l:List α} (o:OwnL enc n0 h v e l) (hl:0 < l.length):∃ b,v = .slice (Option.some ⟨b,0,none⟩) l.length l.length ∧ n0 ≤ b ∧ At h b (.cells (cat enc l) false true e):=by
 rcases o with ⟨_,rfl⟩ | ⟨_,h⟩
 ·simp at hl
 ·exact h
set_option maxHeartbeats 1000000 in
set_option maxRecDepth 10000 in
theorem k40 (H:Has tp) {s:ByteArray} {n p1 p2:Int} {v1 v2:Value} {F:List Nat} {S:List (Int × Int)} {L:List Int} {h:TH} (r:RunH h v1 v2 F S) (V:Valid s n F S L) (hp:offB n F.length (p1,p2) = false) (hS:S.length ≤ 900000) (f:Free0 h.next h) :
  CallW Tryz.prog tp (.func (.func 42) #[] #[]) #[runV s n v1 v2,.agg #[.int .i64 p1,.int .i64 p2]] h fun v h' => ∃ w1 w2,v = runV s p1 w1 w2 ∧ HX h h' ∧
   RunO h.next h' w1 w2 (madeF ((L.drop (p1 - n).toNat).take ((p2 - n).toNat - (p1 - n).toNat)) (((knownL S F.length).drop (p1 - n).toNat).take ((p2 - n).toNat - (p1 - n).toNat))) (holesOf (((knownL S F.length).drop (p1 - n).toNat).take ((p2 - n).toNat - (p1 - n).toNat))):=by
 have Vm:=V.m
 have V0:=V.n0
 have V1:=V.n1
 have hLl:=V.lev.1
 unfold offB at hp
 simp only [Bool.or_eq_false_iff,decide_eq_false_iff_not] at hp
 have c1:p1 - n = (((p1 - n).toNat:Nat):Int):=by omega
 have c2:p2 - n = (((p2 - n).toNat:Nat):Int):=by omega
 have hle:(p1 - n).toNat ≤ (p2 - n).toNat:=by omega
 have hlt0:(p1 - n).toNat < (p2 - n).toNat:=by omega
 have hle2:(p2 - n).toNat ≤ F.length:=by omega
 refine CallW.full (H.fn 42 f40 rfl rfl) rfl ?_
 refine W.seq (W.reg (WO.boxA rfl fun h1 N1 => WO.boxA rfl fun h2 N2 => WO.alA tp46 fun h3 N3 => WO.nil ?_))
 have q1:=N1.next
 have q2:=N2.next
 have q3:=N3.next
 have X3:=(N1.hx.trans N2.hx).trans N3.hx
 have A3:=(N1.at_.hx N2.hx).hx N3.hx
 have D3:=N2.at_.hx N3.hx
 refine W.seq (W.reg (WO.ld rfl (load_row tp46 A3 rfl (Nat.le_of_ble_eq_true rfl)) (WO.cl1 rfl rfl ((k96 H (s:=s) (n:=n) (r.hx X3) V.lev (by omega) hS (f.next X3 X3.next)).mono ?_))))
 rintro v4 h4 ⟨w4,w5,rfl,O4,O5,X4⟩
 have Y4:=X3.trans X4
 have A4:=A3.hx X4
 have D4:=D3.hx X4
 have B4:=N3.at_.hx X4
 have ltB:=B4.lt
 have ltA:=A4.lt
 have ltD:=D4.lt
 have hK:=knownL_len S F.length
 generalize knownL S F.length = K at *
 obtain ⟨b4,rfl,hb4,C4⟩:=O4.some (by omega)
 obtain ⟨b5,rfl,hb5,C5⟩:=O5.some (by omega)
 refine WO.mv rfl (WO.ex rfl rfl (WO.ex rfl rfl (WO.as rfl (WO.as rfl (WO.nil ?_)))))
 refine W.seq (W.reg (WO.fa rfl (fa_of fo46_0) (WO.ld rfl (load_one tp9 A4 rfl) (WO.fa rfl (fa_of fo48_0) (WO.ld rfl (load_one tp3 D4 rfl) (WO.mv rfl (WO.fa rfl (fa_of fo48_0) (WO.ld rfl (load_one tp3 D4 rfl) (WO.fa rfl (fa_of fo46_1) (WO.ld rfl (load_one tp3 A4 rfl) (WO.bi (v:=.int .i64 (((p1 - n).toNat:Nat):Int)) rfl rfl ?_ ?_)))))))))))
 ·show some (Value.int .i64 (fwrap .i64 (p1 - n))) = _
  rw [fwrap_i64 (by omega) (by omega),← c1]
 refine WO.fa rfl (fa_of fo48_1) (WO.ld rfl (load_one tp3 D4 rfl) (WO.fa rfl (fa_of fo46_1) (WO.ld rfl (load_one tp3 A4 rfl) (WO.bi (v:=.int .i64 (((p2 - n).toNat:Nat):Int)) rfl rfl ?_ ?_))))
 ·show some (Value.int .i64 (fwrap .i64 (p2 - n))) = _
  rw [fwrap_i64 (by omega) (by omega),← c2]
 refine WO.sl rfl rfl rfl (sliceT_at u29 tp3 (Nat.le_refl _) hle (by omega) C4 (.inr rfl)) ?_
 refine WO.mv rfl (WO.fa rfl (fa_of fo48_0) (WO.ld rfl (load_one tp3 D4 rfl) (WO.fa rfl (fa_of fo46_1) (WO.ld rfl (load_one tp3 A4 rfl) (WO.bi (v:=.int .i64 (((p1 - n).toNat:Nat):Int)) rfl rfl ?_ ?_)))))
 ·show some (Value.int .i64 (fwrap .i64 (p1 - n))) = _
  rw [fwrap_i64 (by omega) (by omega),← c1]
 refine WO.fa rfl (fa_of fo48_1) (WO.ld rfl (load_one tp3 D4 rfl) (WO.fa rfl (fa_of fo46_1) (WO.ld rfl (load_one tp3 A4 rfl) (WO.bi (v:=.int .i64 (((p2 - n).toNat:Nat):Int)) rfl rfl ?_ ?_))))
 ·show some (Value.int .i64 (fwrap .i64 (p2 - n))) = _
  rw [fwrap_i64 (by omega) (by omega),← c2]
 refine WO.sl rfl rfl rfl (sliceT_at u145 tp4 (Nat.le_refl _) hle (by omega) C5 (.inr rfl)) ?_
 have sL:=SlL.piece (lo:=(p1 - n).toNat) (hi:=(p2 - n).toNat) (cap:=L.length - (p1 - n).toNat) eI C4 hle (by omega) (by omega)
 have sK:=SlL.piece (lo:=(p1 - n).toNat) (hi:=(p2 - n).toNat) (cap:=K.length - (p1 - n).toNat) eB C5 hle (by omega) (by omega)
 rw [show (p1 - n).toNat * 1 = 0 + (p1 - n).toNat * 1 by omega] at sL sK
 have lL:((L.drop (p1 - n).toNat).take ((p2 - n).toNat - (p1 - n).toNat)).length = (p2 - n).toNat - (p1 - n).toNat:=by simp; omega
 have lK:((K.drop (p1 - n).toNat).take ((p2 - n).toNat - (p1 - n).toNat)).length = (p2 - n).toNat - (p1 - n).toNat:=by simp; omega
 have hlim:∀ x,x ∈ (L.drop (p1 - n).toNat).take ((p2 - n).toNat - (p1 - n).toNat) → x.natAbs ≤ 16384:=fun x hx => lev_lim V.lev x (List.mem_of_mem_drop (List.mem_of_mem_take hx))
 generalize (L.drop (p1 - n).toNat).take ((p2 - n).toNat - (p1 - n).toNat) = L' at *
 generalize (K.drop (p1 - n).toNat).take ((p2 - n).toNat - (p1 - n).toNat) = K' at *
 refine WO.cl4 rfl rfl rfl rfl rfl ((k97 H (s:=s) (n:=p1) sL sK (by omega) hlim (by omega) (f.next Y4 Y4.next)).mono ?_)
 rintro v6 h6 ⟨w1,w2,rfl,X6,r6⟩
 have Y6:=Y4.trans X6
 obtain ⟨bo1,cc1,rfl⟩:=r6.r.f.form
 obtain ⟨bo2,cc2,rfl⟩:=r6.r.s.form
 refine WO.stA rfl rfl tp46 (B4.hx X6) rfl rfl (Nat.le_of_ble_eq_true rfl) rfl (f.hx Y6) (by omega) fun h8 P8 => WO.nil (W.ret ?_)
 exact ⟨.inr rfl,_,res_cell rfl (load_row tp46 P8.at_ rfl (Nat.le_of_ble_eq_true rfl)),_,_,rfl,P8.hx _ Y6 (by omega),(r6.away P8 (by omega)).le (by omega)⟩
end Go.Tidy
namespace Go.Tidy
open Go Go.Proofs Tab
variable {tp:TProg}
theorem rev_get {α:Type} {l:List α} {j:Nat} {x:α} (hj:j < l.length) (h:l[l.length - 1 - j]? = some x):l.reverse[j]? = some x:=by
 rw [List.getElem?_reverse hj]; exact h
set_option maxHeartbeats 1000000 in
set_option maxRecDepth 10000 in
theorem k37 (H:Has tp) {s:ByteArray} {n:Int} {v1 v2:Value} {F:List Nat} {S:List (Int × Int)} {L:List Int} {h:TH} (r:RunH h v1 v2 F S) (hL:Lev F L) (hF:F.length ≤ 4096) (hS:S.length ≤ 900000) (f:Free0 h.next h) :
  CallW Tryz.prog tp (.func (.func 39) #[] #[]) #[runV s n v1 v2] h fun v h' => ∃ w1 w2,v = runV s n w1 w2 ∧ HX h h' ∧ RunO h.next h' w1 w2 (madeF L.reverse (knownL S F.length).reverse) (holesOf (knownL S F.length).reverse):=by
 have hLl:=hL.1
 refine CallW.full (H.fn 39 f37 rfl rfl) rfl ?_
 refine W.seq (W.reg (WO.boxA rfl fun h1 N1 => WO.alA tp46 fun h3 N3 => WO.nil ?_))
 have q1:=N1.next
 have q3:=N3.next
 have X3:=N1.hx.trans N3.hx
 have A3:=N1.at_.hx N3.hx
 refine W.seq (W.reg (WO.ld rfl (load_row tp46 A3 rfl (Nat.le_of_ble_eq_true rfl)) (WO.cl1 rfl rfl ((k96 H (s:=s) (n:=n) (r.hx X3) hL (by omega) hS (f.next X3 X3.next)).mono ?_))))
 rintro v4 h4 ⟨w4,w5,rfl,O4,O5,X4⟩
 have Y4:=X3.trans X4
 have A4:=A3.hx X4
 have B4:=N3.at_.hx X4
 have ltB:=B4.lt
 have ltA:=A4.lt
 have hK:=knownL_len S F.length
 generalize knownL S F.length = K at *
 have sl4:=O4.sl eI
 have sl5:=O5.sl eB
 have f4:=f.next Y4 Y4.next
 refine WO.mv rfl (WO.ex rfl rfl (WO.ex rfl rfl (WO.as rfl (WO.as rfl (WO.nil ?_)))))
 refine W.seq (W.reg (WO.as rfl (WO.nil ?_)))
 refine W.seq (W.reg (WO.as rfl (WO.nil ?_)))
 refine W.seq (W.seq (W.reg (WO.mv rfl (WO.lenC rfl sl4 u29 (WO.bi (v:=.int .i64 ((L.length:Int) - 1)) rfl rfl ?_ (WO.as rfl (WO.nil ?_)))))))
 ·show some (Value.int .i64 (fwrap .i64 ((L.length:Int) - 1))) = _
  rw [fwrap_i64 (by omega) (by omega)]
 refine W.block (W.loop (fun k a h5 => ∃ (j:Nat) (w6 w7:Value),j ≤ L.length ∧ k = L.length - j ∧ HX h4 h5 ∧ OwnL encI h4.next h5 w6 3 (L.reverse.take j) ∧ OwnL encB h4.next h5 w7 4 (K.reverse.take j) ∧ (∀ c,bl w6 = some c → bl w7 ≠ some c) ∧ Full 41 a ∧ Tr.get a 1 = some (.pointer (some ⟨h.next,0,none⟩)) ∧ Tr.get a 2 = some (.pointer (some ⟨h1.next,0,none⟩)) ∧ Tr.get a 3 = some w4 ∧ Tr.get a 4 = some w5 ∧ Tr.get a 5 = some w6 ∧ Tr.get a 6 = some w7 ∧ Tr.get a 7 = some (.int .i64 ((L.length:Int) - 1 - j)))
  ?_ L.length _ _ ⟨0,.slice none 0 0,.slice none 0 0,by omega,by omega,HX.refl _,OwnL.nil,OwnL.nil,fun c hc => (by cases hc),(by repeat (first | with_reducible refine Full.put ?_ (by decide) _ | with_reducible refine Full.putn ?_ _ | with_reducible exact Full.of _ _ rfl | with_reducible exact Full.start _ _ (Nat.le_of_ble_eq_true rfl) | exact Full.start _ _ (Nat.le_of_ble_eq_true rfl))),rfl,rfl,rfl,rfl,rfl,rfl,by simp; rfl⟩)
 rintro k a h5 ⟨j,w6,w7,hj,rfl,X5,O6,O7,hd,hf,i1,i2,i3,i4,i5,i6,i7⟩
 (obtain ⟨rl0,hrl0,rfl⟩:=hf; obtain ⟨s0,s1,s2,s3,s4,s5,s6,s7,rl1,rfl,hrl1⟩:=cons8 hrl0; obtain ⟨s8,s9,s10,s11,s12,s13,s14,s15,rl2,rfl,hrl2⟩:=cons8 hrl1; obtain ⟨s16,s17,s18,s19,s20,s21,s22,s23,rl3,rfl,hrl3⟩:=cons8 hrl2; obtain ⟨s24,s25,s26,s27,s28,s29,s30,s31,rl4,rfl,hrl4⟩:=cons8 hrl3; obtain ⟨s32,s33,s34,s35,s36,s37,s38,s39,rl5,rfl,hrl5⟩:=cons8 hrl4; obtain ⟨s40,rl6,rfl,hrl6⟩:=cons_of hrl5; obtain rfl:=nil_of hrl6; clear hrl0 hrl1 hrl2 hrl3 hrl4 hrl5 hrl6; obtain rfl:s1 = _:=Option.some.inj (show some s1 = some _ from i1); clear i1; obtain rfl:s2 = _:=Option.some.inj (show some s2 = some _ from i2); clear i2; obtain rfl:s3 = _:=Option.some.inj (show some s3 = some _ from i3); clear i3; obtain rfl:s4 = _:=Option.some.inj (show some s4 = some _ from i4); clear i4; obtain rfl:s5 = _:=Option.some.inj (show some s5 = some _ from i5); clear i5; obtain rfl:s6 = _:=Option.some.inj (show some s6 = some _ from i6); clear i6; obtain rfl:s7 = _:=Option.some.inj (show some s7 = some _ from i7); clear i7)
 refine W.seq (W.seq (W.reg (WO.mv rfl (WO.bi rfl rfl rfl (WO.nil ?_)))))
 by_cases hlt:j < L.length
 ·rw [show decide ((L.length:Int) - 1 - j ≥ 0) = true by simp; omega]
  refine W.cd rfl (OnB.yes (W.skip ?_))
  have hc:(L.length:Int) - 1 - j = ((L.length - 1 - j:Nat):Int):=by omega
  have hdec:((L.length - 1 - j:Nat):Int) - 1 = (L.length:Int) - 1 - ((j + 1:Nat):Int):=by omega
  have hL1:L[L.length - 1 - j]? = some L[L.length - 1 - j]:=List.getElem?_eq_getElem (by omega)
  obtain ⟨x,hK1⟩:∃ x,K[L.length - 1 - j]? = some x:=⟨_,List.getElem?_eq_getElem (by omega)⟩
  have rL:=rev_get hlt hL1
  have rK:K.reverse[j]? = some x:=rev_get (by omega) (by rw [hK,hLl]; exact hK1)
  rw [hc]
  obtain ⟨b,o,cc,fix,wr,el,e1,e2,e3,e4,e5⟩:=sl4.at eI u29 tp3 hL1 .i64
  obtain ⟨b',o',cc',fix',wr',el',g1,g2,g3,g4,g5⟩:=sl5.at eB u145 tp4 hK1 .i64
  have lb':=g2.lt
  refine W.seq (W.block (W.reg (WO.mv rfl (WO.mv rfl (WO.mv rfl (WO.ix rfl rfl e1 (WO.ld rfl (load_one tp3 (e2.hx X5) (e5 0 (by decide))) (WO.bs1A rfl u29 tp3 rfl fun h6 N6 => ?_))))))))
  have X6:=X5.trans N6.hx
  refine WO.mv rfl (WO.mv rfl (WO.mv rfl (WO.ix rfl rfl g1 (WO.ld rfl (load_one tp4 (g2.hx X6) (g5 0 (by decide))) (WO.bs1A rfl u145 tp4 rfl fun h7 N7 => ?_)))))
  have X7:=X6.trans N7.hx
  have O67:=(O6.hx N6.hx).hx N7.hx
  have n6:=N6.next
  have n7:=N7.next
  have x6n:=X6.next
  refine WO.apQ [h6.next,b'] rfl rfl rfl fun LL hLL => ?_
  obtain ⟨w8,h8,ap,O8,x8,keep8,b8,m8⟩:=own_pushL (sT:=29) (x:=L[L.length - 1 - j]) (L:=LL) eI u29 tp3 O67 (SlC.own (sz:=1) (m:=1) rfl (N6.at_.hx N7.hx)) (by rw [X7.floor]; exact f4.floor) (fun c hcb hm => by
   have h1':=O67.lt hcb
   have h2':=O6.lt hcb
   rcases hLL c hm with hm | hm
   ·simp at hm; omega
   ·rw [X7.lock] at hm; have:=f4.lock c hm; omega) (by simp; omega) X7.next
  refine ⟨w8,h8,ap,?_⟩
  generalize h8.withLock h7.lock = h8 at *
  have X8:=x8 _ X7 (Nat.le_refl _)
  have O78:OwnL encB h4.next h8 s6 4 (K.reverse.take j):=((O7.hx N6.hx).hx N7.hx).keep fun c y hcb ha => keep8 c y (fun hc' => hd c hc' hcb) ha
  have N78:At h8 h6.next (.cells [.bool x] true true 4):=keep8 _ _ (fun hcb => by have:=(O6.lt hcb).2; omega) N7.at_
  obtain ⟨w9,h9,ap9,O9,x9,keep9,b9,m9⟩:=own_push (sT:=172) (x:=x) eB u145 tp4 O78 (SlC.own (sz:=1) (m:=1) rfl N78) (f4.hx X8) (by simp; omega) X8.next
  refine WO.ap rfl rfl ap9 (WO.as rfl (WO.as rfl (WO.nil ?_)))
  refine W.reg (WO.mv rfl (WO.bi (v:=.int .i64 ((L.length:Int) - 1 - ((j + 1:Nat):Int))) rfl rfl ?_ (WO.as rfl (WO.nil ?_))))
  ·show some (Value.int .i64 (fwrap .i64 (((L.length - 1 - j:Nat):Int) - 1))) = _
   rw [fwrap_i64 (by omega) (by omega),hdec]
  refine ⟨L.length - (j + 1),by omega,j + 1,w8,w9,by omega,rfl,x9 _ X8 (Nat.le_refl _),?_,?_,fun c hcb hcb' => ?_,(by repeat (first | with_reducible refine Full.put ?_ (by decide) _ | with_reducible refine Full.putn ?_ _ | with_reducible exact Full.of _ _ rfl | with_reducible exact Full.start _ _ (Nat.le_of_ble_eq_true rfl) | exact Full.start _ _ (Nat.le_of_ble_eq_true rfl))),rfl,rfl,rfl,rfl,rfl,rfl,rfl⟩
  ·rw [take_succ_get rL]
   refine O8.keep fun c y hcb ha => keep9 c y (fun hcb' => ?_) ha
   have:=(((O7.hx N6.hx).hx N7.hx).lt hcb').2
   rw [b8] at hcb
   have:=Option.some.inj hcb
   omega
  ·rw [take_succ_get rK]; exact O9
  ·rw [b8] at hcb
   rw [b9] at hcb'
   have:=Option.some.inj hcb
   have:=Option.some.inj hcb'
   have:=O8.lt b8
   omega
 ·rw [show decide ((L.length:Int) - 1 - j ≥ 0) = false by simp; omega]
  refine W.cd rfl (OnB.no (W.exit ?_))
  obtain rfl:j = L.length:=by omega
  have tL:L.reverse.take L.length = L.reverse:=List.take_of_length_le (by simp)
  have tK:K.reverse.take L.length = K.reverse:=List.take_of_length_le (by simp; omega)
  rw [tL] at O6
  rw [tK] at O7
  have Y5:=Y4.trans X5
  refine W.seq (W.reg (WO.fa rfl (fa_of fo46_0) (WO.ld rfl (load_one tp9 (A4.hx X5) rfl) (WO.fa rfl (fa_of fo46_1) (WO.ld rfl (load_one tp3 (A4.hx X5) rfl) (WO.mv rfl (WO.mv rfl (WO.cl4 rfl rfl rfl rfl rfl ((k97 H (s:=s) (n:=n) (O6.sl eI) (O7.sl eB) (by simp; omega) (fun x hx => lev_lim hL x (by simpa using hx)) (by simp; omega) (f.next Y5 Y5.next)).mono ?_)))))))))
  rintro v6 h6 ⟨w1,w2,rfl,X6,r6⟩
  have Y6:=Y5.trans X6
  have x5n:=X5.next
  obtain ⟨bo1,cc1,rfl⟩:=r6.r.f.form
  obtain ⟨bo2,cc2,rfl⟩:=r6.r.s.form
  refine WO.stA rfl rfl tp46 ((B4.hx X5).hx X6) rfl rfl (Nat.le_of_ble_eq_true rfl) rfl (f.hx Y6) (by omega) fun h8 P8 => WO.nil (W.ret ?_)
  exact ⟨.inr rfl,_,res_cell rfl (load_row tp46 P8.at_ rfl (Nat.le_of_ble_eq_true rfl)),_,_,rfl,P8.hx _ Y6 (by omega),(r6.away P8 (by omega)).le (by omega)⟩
end Go.Tidy
namespace Go.Tidy
open Go Go.Proofs Tab
variable {tp:TProg}
set_option maxHeartbeats 1000000 in
theorem k87 (H:Has tp) {s:ByteArray} {n:Int} {v1 v2:Value} {F:List Nat} {S:List (Int × Int)} {h:TH} (r:RunH h v1 v2 F S) (hF:F.length ≤ 1000000) (hS:S.length ≤ 1000000) (f:Free0 h.next h) :
  CallW Tryz.prog tp (.func (.func 103) #[] #[]) #[runV s n v1 v2] h fun v h' => ∃ w1 w2,v = runV s n w1 w2 ∧ HX h h' ∧ RunO h.next h' w1 w2 F S:=by
 refine CallW.full (H.fn 103 f87 rfl rfl) rfl ?_
 refine W.seq (W.reg (WO.boxA rfl fun h1 N1 => WO.alA tp46 fun h2 N2 => WO.nil ?_))
 have A1:=N1.at_.hx N2.hx
 have X2:=N1.hx.trans N2.hx
 refine W.seq (W.reg ?_)
 refine WO.fa rfl (fa_of fo46_0) (WO.ld rfl (load_one tp9 A1 rfl) (WO.fa rfl (fa_of fo46_1) (WO.ld rfl (load_one tp3 A1 rfl) ?_)))
 refine WO.bs0A u43 tp25 (by decide) (by decide) fun h3 N3 => ?_
 have A3:=A1.hx N3.hx
 have X3:=X2.trans N3.hx
 refine WO.fa rfl (fa_of fo46_2) (WO.ld rfl (load_one tp43 A3 rfl) ?_)
 refine WO.bs0A u44 tp48 (by decide) (by decide) fun h4 N4 => ?_
 have A4:=A3.hx N4.hx
 have X4:=X3.trans N4.hx
 refine WO.fa rfl (fa_of fo46_3) (WO.ld rfl (load_one tp44 A4 rfl) ?_)
 refine WO.apO rfl rfl u43 tp25 (N3.at_.hx N4.hx) (r.f.hx X4) (by omega) (eF.all F) fun h5 b5 X5 l5 s5 g5 => ?_
 refine WO.apO rfl rfl u44 tp48 (N4.at_.hx X5) ((r.s.hx X4).hx X5) (by omega) (eS.all S) fun h6 b6 X6 l6 s6 g6 => ?_
 have A6:=(((N2.at_.hx N3.hx).hx N4.hx).hx X5).hx X6
 have X7:=(X4.trans X5).trans X6
 refine WO.bd rfl bd46 ?_
 refine WO.stA rfl rfl tp46 A6 rfl rfl (by decide) rfl (f.hx X7) (by have:=N1.next; omega) fun h7 P7 => WO.nil (W.ret ?_)
 have q1:=N1.next
 have q2:=N2.next
 have q3:=N3.next
 have X8:=P7.hx _ X7 (by omega)
 exact ⟨.inr rfl,_,res_cell rfl (load_row tp46 P7.at_ rfl (Nat.le_of_ble_eq_true rfl)),_,_,rfl,X8,⟨(s5.hx X6).put P7 (by omega),s6.put P7 (by omega),(g5.hx X6).away P7 (Above.slice (Nat.le_refl b5)) (by omega)⟩,Above.slice (by omega),Above.slice (by omega)⟩
theorem k25 (H:Has tp) {s:ByteArray} {n:Int} {v1 v2:Value} {F:List Nat} {S:List (Int × Int)} {h:TH} (r:RunH h v1 v2 F S) (hF:F.length ≤ 1000000) (hS:S.length ≤ 1000000) (f:Free0 h.next h) :
  CallW Tryz.prog tp (.func (.func 27) #[] #[]) #[runV s n v1 v2] h fun v h' => ∃ w1 w2,v = runV s n w1 w2 ∧ HX h h' ∧ RunO h.next h' w1 w2 F S:=by
 refine CallW.full (H.fn 27 f25 rfl rfl) rfl ?_
 refine W.seq (W.reg (WO.boxA rfl fun h1 N1 => WO.alA tp52 fun h2 N2 => WO.nil ?_))
 have A1:=N1.at_.hx N2.hx
 have X2:=N1.hx.trans N2.hx
 have q1:=N1.next
 have q2:=N2.next
 refine W.seq (W.reg (WO.ld rfl (load_row tp46 A1 rfl (Nat.le_of_ble_eq_true rfl)) (WO.cl1 rfl rfl ((k87 H (s:=s) (n:=n) (r.hx X2) hF hS (f.next X2 (by omega))).mono ?_))))
 rintro v h3 ⟨w1,w2,rfl,X3,r3⟩
 obtain ⟨bo1,c1,rfl⟩:=r3.r.f.form
 obtain ⟨bo2,c2,rfl⟩:=r3.r.s.form
 refine WO.stA rfl rfl tp52 (N2.at_.hx X3) rfl rfl (by decide) rfl (f.hx (X2.trans X3)) (by omega) fun h4 P4 => WO.nil (W.ret ?_)
 refine ⟨.inr rfl,_,res_cell rfl (load_row tp52 P4.at_ rfl (Nat.le_of_ble_eq_true rfl)),_,_,rfl,P4.hx _ (X2.trans X3) (by omega),(r3.away P4 (by omega)).le (by omega)⟩
end Go.Tidy
namespace Go.Tidy
open Go Go.Proofs Tab
theorem lev_smp {C:List (Int × Bool)} (h:∀ c,c ∈ C → c.1.natAbs ≤ 16384):Lev (C.map fun c => smp c.1) (C.map fun c => c.1):=by
 refine ⟨by simp,fun i b n hb hn => ?_⟩
 rw [List.getElem?_map] at hb hn
 cases hc:C[i]? with
 | none => rw [hc] at hb; simp at hb
 | some c =>
  rw [hc] at hb hn
  simp only [Option.map_some,Option.some.injEq] at hb hn
  subst hb; subst hn
  exact (smp_ok (h c (List.mem_of_getElem? hc))).2.2
section
variable {s:ByteArray} {n:Int} {F:List Nat} {S:List (Int × Int)} {L:List Int}
theorem Valid.cells (V:Valid s n F S L):cellsL L S = cellsK L (knownL S F.length):=cells_eq V.lev V.in_
theorem Valid.lim (V:Valid s n F S L):∀ c,c ∈ cellsL L S → c.1.natAbs ≤ 16384:=cells_lim V.lev S
theorem Valid.kl (V:Valid s n F S L):(knownL S F.length).length = L.length:=by rw [knownL_len,V.lev.1]
theorem Valid.crop (V:Valid s n F S L) (lo k:Nat):(((cellsL L S).drop lo).take k).map (fun c => smp c.1) = madeF ((L.drop lo).take k) (((knownL S F.length).drop lo).take k) ∧ (((cellsL L S).drop lo).take k).map (fun c => c.2) = ((knownL S F.length).drop lo).take k ∧ Lev ((((cellsL L S).drop lo).take k).map fun c => smp c.1) ((((cellsL L S).drop lo).take k).map fun c => c.1):=by
 have hk:=V.kl
 have hl:((((knownL S F.length).drop lo).take k)).length = ((L.drop lo).take k).length:=by simp [hk]
 refine ⟨?_,?_,lev_smp fun c hc => V.lim c (List.mem_of_mem_drop (List.mem_of_mem_take hc))⟩
 ·rw [V.cells,cellsK_part]; rfl
 ·rw [V.cells,cellsK_part,cellsK_snd hl]
theorem Valid.rev (V:Valid s n F S L):(cellsL L S).reverse.map (fun c => smp c.1) = madeF L.reverse (knownL S F.length).reverse ∧ (cellsL L S).reverse.map (fun c => c.2) = (knownL S F.length).reverse ∧ Lev ((cellsL L S).reverse.map fun c => smp c.1) ((cellsL L S).reverse.map fun c => c.1):=by
 have hk:=V.kl
 refine ⟨?_,?_,lev_smp fun c hc => V.lim c (by simpa using hc)⟩
 ·rw [V.cells,cellsK_rev hk.symm]; rfl
 ·rw [V.cells,cellsK_rev hk.symm,cellsK_snd (by simp [hk])]
theorem Valid.known (V:Valid s n F S L):(knownV (cellsL L S)).length = cnt (knownL S F.length):=by rw [V.cells,known_cnt V.kl.symm]
theorem Valid.energy (V:Valid s n F S L):sqL (knownV (cellsL L S)) = sqL L:=by rw [V.cells,dark_sq V.dark]
theorem Valid.sum (V:Valid s n F S L):sumL (knownV (cellsL L S)) = sumL L:=by rw [V.cells,dark_sum V.dark]
theorem Valid.at_ (V:Valid s n F S L) {i b:Nat} (hb:F[i]? = some b):∃ x,L[i]? = some x ∧ Samp b x ∧ (cellsL L S)[i]? = some (x,knownB S i):=by
 obtain ⟨x,hx,sx⟩:=V.lev.get hb
 have hi:i < F.length:=(List.getElem?_eq_some_iff.1 hb).1
 have hk:(knownL S F.length)[i]? = some (knownB S (i:Int)):=by
  unfold knownL
  rw [List.getElem?_map,List.getElem?_range hi]; rfl
 refine ⟨x,hx,sx,?_⟩
 rw [V.cells]
 unfold cellsK
 rw [List.getElem?_zipWith,hx,hk]
 cases hq:knownB S (i:Int)
 ·have:=V.dark.2 i x hx (by rw [hk,hq])
  subst this
  rfl
 ·rfl
end
end Go.Tidy
namespace Go.Tidy
open Go Go.Proofs Tab
section
variable {P:Program}
theorem pv_isAggI {t:TypeId} {k:IntKind} (hu:P.underlying t = some (.int k)):pv P (isAgg t) = some false:=by
 unfold isAgg
 rw [pv_bind,pv_underlying hu]
 rfl
theorem pv_part0 {t:TypeId} {k:IntKind} {v w:Value} (hu:P.underlying t = some (.int k)):pv P (Go.part t #[v,w] 0) = some v:=by
 unfold Go.part
 rw [pv_bind,pv_isAggI hu]
 rfl
theorem pv_part1 {t:TypeId} {k:IntKind} {v w:Value} (hu:P.underlying t = some (.int k)):pv P (Go.part t #[v,w] 1) = some w:=by
 unfold Go.part
 rw [pv_bind,pv_isAggI hu]
 rfl
theorem pv_eqI {t:TypeId} {d:Nat} {k:IntKind} {a:Int} (hu:P.underlying t = some (.int k)):pv P (Op.equalIn (d + 1) t (.int k a) (.int k a)) = some true:=by
 rw [Op.equalIn,pv_bind,pv_underlying hu]
 simp [pv_pure]
theorem pv_eqr {t : TypeId} {f1 f2 : Field} {a b : Int} (hu : P.underlying t = some (.struct #[f1, f2])) (hs : P.stoodInHeld t = false) (h1 : f1.offset = 0) (h2 : f2.offset = 1) (m1 : f1.name ≠ "_") (m2 : f2.name ≠ "_") (u1 : P.underlying f1.type = some (.int .i64)) (u2 : P.underlying f2.type = some (.int .i64)) :
    pv P (Op.equal t (.agg #[.int .i64 a,.int .i64 b]) (.agg #[.int .i64 a,.int .i64 b])) = some true:=by
  show pv P (Op.equalIn (9998 + 1 + 1) t _ _) = _
  rw [Op.equalIn,pv_bind,pv_underlying hu]
  simp only [Option.bind_some]
  rw [pv_bind,pv_program]
  simp only [Option.bind_some,hs]
  have e1:=pv_eqI (d:=9998) (a:=a) u1
  have e2:=pv_eqI (d:=9998) (a:=b) u2
  have q1:=pv_part0 (v:=Value.int .i64 a) (w:=Value.int .i64 b) u1
  have q2:=pv_part1 (v:=Value.int .i64 a) (w:=Value.int .i64 b) u2
  simp [pv_bind,pv_pure,h1,h2,m1,m2,e1,e2,q1,q2]
end
structure Rat2 (P:Program) (t:TypeId):Prop where
  u : ∃ f1 f2 : Field, P.underlying t = some (.struct #[f1, f2]) ∧ f1.offset = 0 ∧ f2.offset = 1 ∧ f1.name ≠ "_" ∧ f2.name ≠ "_" ∧ P.underlying f1.type = some (.int .i64) ∧ P.underlying f2.type = some (.int .i64)
  s:P.stoodInHeld t = false
  g:P.eqGuardType P.depth t = false
theorem rat2_of {P:Program} {t:TypeId} (h:(P.underlying t).map (fun d => match d with
    | .struct fs => (match fs.toList with
      | [f1, f2] => (f1.offset == 0) && (f2.offset == 1) && (f1.name != "_") && (f2.name != "_") && ((P.underlying f1.type).map (fun d => match d with | .int .i64 => true | _ => false) == some true) && ((P.underlying f2.type).map (fun d => match d with | .int .i64 => true | _ => false) == some true)
      | _ => false)
    | _ => false) = some true) (hs:P.stoodInHeld t = false) (hg:P.eqGuardType P.depth t = false):Rat2 P t:=by
  refine ⟨?_,hs,hg⟩
  cases hu:P.underlying t with
  | none => rw [hu] at h; cases h
  | some d =>
    rw [hu] at h
    cases d with
    | struct fs =>
      obtain ⟨l⟩:=fs
      match l with
      | [] | [_] | _ :: _ :: _ :: _ => simp at h
      | [f1,f2] =>
        simp only [Option.map_some,Option.some.injEq,Bool.and_eq_true,beq_iff_eq,bne_iff_ne] at h
        obtain ⟨⟨⟨⟨⟨h1,h2⟩,h3⟩,h4⟩,h5⟩,h6⟩:=h
        refine ⟨f1,f2,rfl,h1,h2,h3,h4,?_,?_⟩
        · cases hv:P.underlying f1.type with
          | none => rw [hv] at h5; simp at h5
          | some d => rw [hv] at h5; simp at h5; split at h5 <;> simp_all
        · cases hv:P.underlying f2.type with
          | none => rw [hv] at h6; simp at h6
          | some d => rw [hv] at h6; simp at h6; split at h6 <;> simp_all
    | _ => simp at h
section rules
variable {P:Program} {tp:TProg} {a:Regs} {h:TH} {K:Regs → TH → Prop} {rest:List TOper} {d:Option Tmp} {ty:TypeId} {i:Nat} {x y:Operand} {t u:TypeId}
theorem eqT_aggs {b c:Array Value}:eqT P t (.agg b) (.agg c) = none:=by
 unfold eqT ptrEq nilEq
 cases P.underlying t with
 | none => rfl
 | some d => cases d <;> rfl
theorem WO.eqr {p q:Int} (hu:Rat2 P t) (hx:getO a x = some (.agg #[.int .i64 p,.int .i64 q])) (hy:getO a y = some (.agg #[.int .i64 p,.int .i64 q])) (w:WO P tp rest (a.put d (.bool true)) h K):WO P tp (⟨d,.binOp .eql t x y u,ty,none,[],i⟩ :: rest) a h K:=by
  obtain ⟨f1,f2,e1,e2,e3,e4,e5,e6,e7⟩:=hu.u
  have ex:=getO_eval hx
  have ey:=getO_eval hy
  refine WO.plainly rfl rfl rfl (by simp [fastOp,fastBin,ex,ey]) (by simp [valueOp,ex,ey,eqT_aggs]) (plainOp_of (by rfl) (fun q hq => ?_) ?_ rfl) w
  · simp only [Op.operands] at hq
    simp at hq
    rcases hq with rfl | rfl
    · rw [ex]; rfl
    · rw [ey]; rfl
  · show pv P (execOp a.eval ⟨d, .binOp .eql t x y u, ty, "", #[], none⟩) = _
    simp [execOp,pv_bind,pv_map,pv_pure,pv_program,ex,ey,eqGuard,binOp,hu.g,pv_eqr e1 hu.s e2 e3 e4 e5 e6 e7]
end rules
theorem rat24:Rat2 Tryz.prog 24:=rat2_of (by kernel_rfl) (by kernel_rfl) (by kernel_rfl)
end Go.Tidy
namespace Go.Tidy
open Go Go.Proofs Tab
variable {tp:TProg}
theorem fb_eq (z:Int):fastBin .eql (.int .i64 z) (.int .i64 z) = some (.bool true):=by
 show some (Value.bool (z == z)) = _
 rw [beq_self_eq_true]
theorem beq_same (b:Bool):(b == b) = true:=beq_self_eq_true b
abbrev ptr (c:Nat):Value:=.pointer (some ⟨c,0,none⟩)
abbrev zi (z:Int):Value:=.int .i64 z
def finL (c3 c12 c14 c18 c28 c29 c30 x7 y7:Nat) (b8:Bool) (z9 z10 ec z16 z19 E:Int):Rg :=
 [(3,ptr c3),(7,.float .f32 x7),(8,.bool b8),(9,zi z9),(10,zi z10),(11,zi E),(12,ptr c12),(13,zi ec),(14,ptr c14),(15,zi E),(16,zi z16),(17,zi E),(18,ptr c18),(19,zi z19),(20,zi E),(21,zi z9),(22,zi ec),(23,zi z19),(24,.float .f32 y7),(25,.bool b8),(26,zi z10),(27,zi z16),(28,ptr c28),(29,ptr c29),(30,ptr c30)]
set_option maxHeartbeats 4000000 in
set_option maxRecDepth 100000 in
theorem k4z (H:Has tp) (X:HasX tp) (A:Awk tp) {s:ByteArray} {n:Int} {v1 v2:Value} {F:List Nat} {S:List (Int × Int)} {es L:List Int} {h:TH} {c3 c12 c14 c18 c28 c29 c30 x7 y7:Nat} {b8:Bool} {z9 z10 ec z16 z19 E:Int}
  (r:RunH h v1 v2 F S) (hE:SErr F es) (hL:firstNZ es = 0 → Lev F L) (hF:F.length ≤ 900000) (hS:S.length ≤ 900000)
  (A3:At h c3 (.cells (runV s n v1 v2).cells.toList true true 46)) (f:Free0 h.next h) (hEE:runE s n F.length S es L = E)
  (nx7:nanB .f32 x7 = false) (ny7:nanB .f32 y7 = false) (e7:cmpF .eql .f32 x7 y7 = some true)
  {sx:ByteArray} {nx:Int} {x1 x2:Value} {sz:ByteArray} {nz:Int} {w1 w2:Value}
  (B12:At h c12 (.cells [.string sx,.int .i64 nx,x1,x2] true true 52)) (B28:At h c28 (.cells [.string sz,.int .i64 nz,w1,w2] true true 46))
  (K1:∀ h',HX h h' → CallW Tryz.prog tp (.func (.func 44) #[] #[]) #[runV sx nx x1 x2,.int .i64 ec,.int .i64 ec,runV sz nz w1 w2] h' fun v h'' => v = .bool true ∧ HX h' h'')
  {sx':ByteArray} {nx':Int} {x1' x2':Value} {sz':ByteArray} {nz':Int} {w1' w2':Value}
  (B14:At h c14 (.cells [.string sx',.int .i64 nx',x1',x2'] true true 52)) (B29:At h c29 (.cells [.string sz',.int .i64 nz',w1',w2'] true true 46))
  (K2:∀ h',HX h h' → CallW Tryz.prog tp (.func (.func 44) #[] #[]) #[runV sx' nx' x1' x2',.int .i64 E,.int .i64 E,runV sz' nz' w1' w2'] h' fun v h'' => v = .bool true ∧ HX h' h'')
  {ma mb:Int} (B18:At h c18 (.cells [.int .i64 ma,.int .i64 mb] true true 24)) (B30:At h c30 (.cells [.int .i64 ma,.int .i64 mb] true true 24)) :
  ∀ a,Kn (finL c3 c12 c14 c18 c28 c29 c30 x7 y7 b8 z9 z10 ec z16 z19 E) a → W Tryz.prog tp false (.seq (.reg r4_24) .ret) a h (Fin Tryz.prog [.tmp 6] fun v _ => v = .bool true):=by
 obtain ⟨bv1,kv1,rfl⟩:=r.f.form
 obtain ⟨bv2,kv2,rfl⟩:=r.s.form
 refine WL.sr ?_
 refine WOL.ld rfl (load_row tp46 A3 rfl (Nat.le_of_ble_eq_true rfl)) <| WOL.cl1 rfl rfl ((k25 H (s:=s) (n:=n) r (by omega) (by omega) f).mono ?_)
 rintro v g1 ⟨u1,u2,rfl,X1,O1⟩
 refine WOL.cl1 rfl rfl ((k41 H X (s:=s) (n:=n) O1.r hE hL (by omega) (by omega) (f.next X1 X1.next)).mono ?_)
 rintro v g2 ⟨rfl,X2⟩
 have Y2:=X1.trans X2
 rw [hEE]
 refine WOL.mv rfl <| WOL.bi rfl rfl (fb_eq _) <| WOL.mv rfl ?_
 refine WOL.now (b:=true) rfl rfl <| WOL.mv rfl <| WOL.now (b:=true) rfl rfl <| WOL.mv rfl <| WOL.now (b:=true) rfl rfl ?_
 refine fun a q => WO.fcmp (q.o rfl) (q.o rfl) nx7 ny7 e7 (q.nx ?_)
 refine WOL.pkt rfl rfl <| keep [(8,_),(9,_),(10,_),(11,_),(12,_),(13,_),(14,_),(15,_),(16,_),(17,_),(18,_),(19,_),(20,_),(21,_),(22,_),(23,_),(25,_),(26,_),(27,_),(28,_),(29,_),(30,_),(136,_)] ⟨rfl,rfl,rfl,rfl,rfl,rfl,rfl,rfl,rfl,rfl,rfl,rfl,rfl,rfl,rfl,rfl,rfl,rfl,rfl,rfl,rfl,rfl,rfl,trivial⟩ ?_
 refine WOL.mv rfl <| WOL.now (b:=true) rfl rfl <| WOL.mv rfl <| WOL.now (b:=true) rfl rfl <| WOL.mv rfl <| WOL.now (b:=true) rfl rfl ?_
 refine fun a q => WO.eqb u4 (q.o rfl) (q.o rfl) (q.nx ?_)
 rw [beq_same]
 refine WOL.pkt rfl rfl <| WOL.mv rfl <| WOL.now (b:=true) rfl rfl <| WOL.mv rfl <| WOL.now (b:=true) rfl rfl <| WOL.mv rfl <| WOL.now (b:=true) rfl rfl ?_
 refine WOL.bi rfl rfl (fb_eq _) <| WOL.pkt rfl rfl <| keep [(10,_),(11,_),(12,_),(13,_),(14,_),(15,_),(16,_),(17,_),(18,_),(19,_),(20,_),(22,_),(23,_),(26,_),(27,_),(28,_),(29,_),(30,_),(146,_)] ⟨rfl,rfl,rfl,rfl,rfl,rfl,rfl,rfl,rfl,rfl,rfl,rfl,rfl,rfl,rfl,rfl,rfl,rfl,rfl,trivial⟩ ?_
 refine WOL.mv rfl <| WOL.now (b:=true) rfl rfl <| WOL.mv rfl <| WOL.now (b:=true) rfl rfl <| WOL.mv rfl <| WOL.now (b:=true) rfl rfl ?_
 refine WOL.bi rfl rfl (fb_eq _) <| WOL.pkt rfl rfl <| WOL.mv rfl <| WOL.now (b:=true) rfl rfl <| WOL.mv rfl <| WOL.now (b:=true) rfl rfl <| WOL.mv rfl <| WOL.now (b:=true) rfl rfl ?_
 refine WOL.bi rfl rfl (fb_eq _) <| WOL.pkt rfl rfl <| keep [(12,_),(13,_),(14,_),(15,_),(16,_),(17,_),(18,_),(19,_),(20,_),(22,_),(23,_),(27,_),(28,_),(29,_),(30,_),(156,_)] ⟨rfl,rfl,rfl,rfl,rfl,rfl,rfl,rfl,rfl,rfl,rfl,rfl,rfl,rfl,rfl,rfl,trivial⟩ ?_
 refine WOL.mv rfl <| WOL.now (b:=true) rfl rfl <| WOL.ld rfl (load_row tp52 (B12.hx Y2) rfl (Nat.le_of_ble_eq_true rfl)) ?_
 refine WOL.now (b:=true) rfl rfl <| WOL.mv rfl <| WOL.now (b:=true) rfl rfl <| WOL.mv rfl <| WOL.now (b:=true) rfl rfl ?_
 refine WOL.ld rfl (load_row tp46 (B28.hx Y2) rfl (Nat.le_of_ble_eq_true rfl)) <| WOL.now (b:=true) rfl rfl ?_
 refine WOL.cl4 rfl rfl rfl rfl rfl ((K1 g2 Y2).mono ?_)
 rintro v g3 ⟨rfl,X3⟩
 have Y3:=Y2.trans X3
 refine WOL.pkt rfl rfl <| keep [(14,_),(15,_),(16,_),(17,_),(18,_),(19,_),(20,_),(23,_),(27,_),(29,_),(30,_),(163,_)] ⟨rfl,rfl,rfl,rfl,rfl,rfl,rfl,rfl,rfl,rfl,rfl,rfl,trivial⟩ ?_
 refine WOL.mv rfl <| WOL.now (b:=true) rfl rfl <| WOL.ld rfl (load_row tp52 (B14.hx Y3) rfl (Nat.le_of_ble_eq_true rfl)) ?_
 refine WOL.now (b:=true) rfl rfl <| WOL.mv rfl <| WOL.now (b:=true) rfl rfl <| WOL.mv rfl <| WOL.now (b:=true) rfl rfl ?_
 refine WOL.ld rfl (load_row tp46 (B29.hx Y3) rfl (Nat.le_of_ble_eq_true rfl)) <| WOL.now (b:=true) rfl rfl ?_
 refine WOL.cl4 rfl rfl rfl rfl rfl ((K2 g3 Y3).mono ?_)
 rintro v g4 ⟨rfl,X4⟩
 have Y4:=Y3.trans X4
 refine WOL.pkt rfl rfl <| keep [(16,_),(17,_),(18,_),(19,_),(20,_),(23,_),(27,_),(30,_),(170,_)] ⟨rfl,rfl,rfl,rfl,rfl,rfl,rfl,rfl,rfl,trivial⟩ ?_
 refine WOL.mv rfl <| WOL.now (b:=true) rfl rfl <| WOL.mv rfl <| WOL.now (b:=true) rfl rfl <| WOL.mv rfl <| WOL.now (b:=true) rfl rfl ?_
 refine WOL.bi rfl rfl (fb_eq _) <| WOL.pkt rfl rfl <| WOL.mv rfl <| WOL.now (b:=true) rfl rfl <| WOL.mv rfl <| WOL.now (b:=true) rfl rfl <| WOL.mv rfl <| WOL.now (b:=true) rfl rfl ?_
 refine WOL.bi rfl rfl (fb_eq _) <| WOL.pkt rfl rfl <| keep [(18,_),(19,_),(23,_),(30,_),(180,_)] ⟨rfl,rfl,rfl,rfl,rfl,trivial⟩ ?_
 refine WOL.mv rfl <| WOL.now (b:=true) rfl rfl <| WOL.ld rfl (load_row tp24 (B18.hx Y4) rfl (Nat.le_of_ble_eq_true rfl)) ?_
 refine WOL.now (b:=true) rfl rfl <| WOL.ld rfl (load_row tp24 (B30.hx Y4) rfl (Nat.le_of_ble_eq_true rfl)) <| WOL.now (b:=true) rfl rfl ?_
 refine fun a q => WO.eqr rat24 (q.o rfl) (q.o rfl) (q.nx ?_)
 refine WOL.pkt rfl rfl <| WOL.mv rfl <| WOL.now (b:=true) rfl rfl <| WOL.mv rfl <| WOL.now (b:=true) rfl rfl <| WOL.mv rfl <| WOL.now (b:=true) rfl rfl ?_
 refine WOL.bi rfl rfl (fb_eq _) <| WOL.pkt rfl rfl <| WOL.mv rfl <| WOL.now (b:=true) rfl rfl ?_
 refine WOL.cl0 rfl ((k11 A g4).mono ?_)
 rintro v g5 ⟨rfl,rfl⟩
 refine WOL.pkt rfl rfl <| WOL.as rfl <| WOL.nil <| keep [(6,_)] ⟨rfl,trivial⟩ ?_
 exact WL.done rfl rfl
end Go.Tidy
namespace Go.Tidy
open Go Go.Proofs Tab
variable {tp:TProg}
def RX (n0:Nat) (h:TH) (sx:ByteArray) (nx:Int) (x1 x2:Value) (s:ByteArray) (n:Int) (C:List (Int × Bool)) (e:Int):Prop :=
 (e ≠ 0 ∧ sx = ⟨#[]⟩ ∧ nx = 0 ∧ x1 = .slice none 0 0 ∧ x2 = .slice none 0 0) ∨ (e = 0 ∧ sx = s ∧ nx = n ∧ RunO n0 h x1 x2 (C.map fun c => smp c.1) (holesOf (C.map fun c => c.2)))
theorem RunO.relock' {n0:Nat} {h:TH} {v1 v2:Value} {F:List Nat} {S:List (Int × Int)} (r:RunO n0 h v1 v2 F S) (L:List Nat):RunO n0 (h.withLock L) v1 v2 F S:=⟨⟨r.r.f.relock L,r.r.s.relock L,r.r.g.relock L⟩,r.o1,r.o2⟩
theorem RunH.relock' {h:TH} {v1 v2:Value} {F:List Nat} {S:List (Int × Int)} (r:RunH h v1 v2 F S) (L:List Nat):RunH (h.withLock L) v1 v2 F S:=⟨r.f.relock L,r.s.relock L,r.g.relock L⟩
section
variable {n0 c:Nat} {h h':TH} {sx:ByteArray} {nx:Int} {x1 x2:Value} {s:ByteArray} {n:Int} {C:List (Int × Bool)} {e:Int}
theorem RX.hx (r:RX n0 h sx nx x1 x2 s n C e) (x:HX h h'):RX n0 h' sx nx x1 x2 s n C e:=by
 rcases r with r | ⟨a,b,d,r⟩
 ·exact .inl r
 ·exact .inr ⟨a,b,d,r.hx x⟩
theorem RX.away (r:RX n0 h sx nx x1 x2 s n C e) {x:TB} (p:Put h h' c x) (hc:c < n0):RX n0 h' sx nx x1 x2 s n C e:=by
 rcases r with r | ⟨a,b,d,r⟩
 ·exact .inl r
 ·exact .inr ⟨a,b,d,r.away p hc⟩
theorem RX.up {m:Nat} (r:RX n0 h sx nx x1 x2 s n C e) (hm:m ≤ n0):RX m h sx nx x1 x2 s n C e:=by
 rcases r with r | ⟨a,b,d,r⟩
 ·exact .inl r
 ·exact .inr ⟨a,b,d,r.le hm⟩
theorem RX.relock (r:RX n0 h sx nx x1 x2 s n C e) (L:List Nat):RX n0 (h.withLock L) sx nx x1 x2 s n C e:=by
 rcases r with r | ⟨a,b,d,r⟩
 ·exact .inl r
 ·exact .inr ⟨a,b,d,r.relock' L⟩
theorem RunR.out {v:Value} (r:RunR h h' v s n C e):∃ sx nx bo1 l1 k1 bo2 l2 k2,v = .tuple #[runV sx nx (.slice bo1 l1 k1) (.slice bo2 l2 k2),.int .i64 e] ∧ HX h h' ∧ RX h.next h' sx nx (.slice bo1 l1 k1) (.slice bo2 l2 k2) s n C e:=by
 obtain ⟨X,⟨he,rfl⟩ | ⟨rfl,w1,w2,rfl,O⟩⟩:=r
 ·exact ⟨_,_,_,_,_,_,_,_,rfl,X,.inl ⟨he,rfl,rfl,rfl,rfl⟩⟩
 ·obtain ⟨bo1,k1,rfl⟩:=O.r.f.form
  obtain ⟨bo2,k2,rfl⟩:=O.r.s.form
  exact ⟨_,_,_,_,_,_,_,_,rfl,X,.inr ⟨rfl,rfl,rfl,O⟩⟩
end
def AtX (s:ByteArray) (n:Int) (F:List Nat) (S:List (Int × Int)) (es L:List Int) (place:Int) (x:Nat) (y:Bool) (z:Int):Prop :=
  (runE s n F.length S es L ≠ 0 ∧ x = 0 ∧ y = false ∧ z = runE s n F.length S es L) ∨ (runE s n F.length S es L = 0 ∧ (place < n ∨ place ≥ n + F.length) ∧ x = 0 ∧ y = false ∧ z = 10) ∨
    (runE s n F.length S es L = 0 ∧ ¬ (place < n ∨ place ≥ n + F.length) ∧ x = smp ((cellsL L S).getD (place - n).toNat (0,false)).1 ∧ y = ((cellsL L S).getD (place - n).toNat (0,false)).2 ∧ z = 0)
theorem atV_form (s:ByteArray) (n:Int) (F:List Nat) (S:List (Int × Int)) (es L:List Int) (place:Int):∃ x y z,atV s n F S es L place = .tuple #[.float .f32 x,.bool y,.int .i64 z] ∧ AtX s n F S es L place x y z:=by
 unfold atV
 rcases nz_cases (runE s n F.length S es L) with h0 | h0
 ·rw [show (runE s n F.length S es L != 0) = false by rw [h0]; rfl]
  by_cases hp:place < n ∨ place ≥ n + F.length
  ·rw [show (decide (place < n) || decide (place ≥ n + F.length)) = true by simpa using hp]
   exact ⟨_,_,_,rfl,.inr (.inl ⟨h0,hp,rfl,rfl,rfl⟩)⟩
  ·rw [show (decide (place < n) || decide (place ≥ n + F.length)) = false by simpa using hp]
   exact ⟨_,_,_,rfl,.inr (.inr ⟨h0,hp,rfl,rfl,rfl⟩)⟩
 ·rw [show (runE s n F.length S es L != 0) = true by simpa using h0]
  exact ⟨_,_,_,rfl,.inl ⟨by simpa using h0,rfl,rfl,rfl⟩⟩
def MeanX (E:Int) (C:List (Int × Bool)) (x y z:Int):Prop :=
 cond (E != 0) (Value.tuple #[ratio0,.int .i64 E]) (cond ((knownV C).length == 0) (.tuple #[ratio0,.int .i64 7]) (.tuple #[meanR (sumL (knownV C)) (knownV C).length,.int .i64 0])) = .tuple #[.agg #[.int .i64 x,.int .i64 y],.int .i64 z]
theorem mean_form (E:Int) (C:List (Int × Bool)):∃ x y z,MeanX E C x y z:=by
 unfold MeanX
 cases E != 0
 ·cases (knownV C).length == 0
  ·exact ⟨_,_,_,rfl⟩
  ·exact ⟨_,_,_,rfl⟩
 ·exact ⟨_,_,_,rfl⟩
def rest4b:TCode:=(.seq (.seq (.reg r4_15) (.cond (.tmp 80) (.seq (.reg r4_16) (.seq (.reg r4_17) (.seq (.reg r4_18) (.reg r4_19)))) .skip)) (.seq (.seq (.reg r4_20) (.cond (.tmp 107) (.reg r4_21) .skip)) (.seq (.seq (.reg r4_22) (.cond (.tmp 123) (.reg r4_23) .skip)) (.seq (.reg r4_24) .ret))))
def rest4a:TCode:=(.seq (.reg r4_3) (.seq (.reg r4_4) (.seq (.reg r4_5) (.seq (.reg r4_6) (.seq (.reg r4_7) (.seq (.reg r4_8) (.seq (.reg r4_9) (.seq (.reg r4_10) (.seq (.reg r4_11) (.seq (.reg r4_12) (.seq (.reg r4_13) (.seq (.reg r4_14) rest4b))))))))))))
def midL (place:Int) (c3 c5 c12 c14 c18 c28 c29 c30 x7:Nat) (x8:Bool) (z9 kn en E ec me:Int):Rg :=
 [(1,zi place),(3,ptr c3),(5,ptr c5),(7,.float .f32 x7),(8,.bool x8),(9,zi z9),(10,zi kn),(11,zi E),(12,ptr c12),(13,zi ec),(14,ptr c14),(15,zi E),(16,zi en),(17,zi E),(18,ptr c18),(19,zi me),(20,zi E),(21,zi E),(22,zi E),(23,zi E),(24,.float .f32 0),(25,.bool false),(26,zi 0),(27,zi 0),(28,ptr c28),(29,ptr c29),(30,ptr c30)]
structure Mid (s:ByteArray) (n:Int) (F:List Nat) (S:List (Int × Int)) (es L:List Int) (place p1 p2:Int) (h hm h':TH) (c3 c5 c12 c14 c18 c28 c29 c30 x7:Nat) (x8:Bool) (z9 kn en:Int) (sx:ByteArray) (nx:Int) (x1 x2:Value) (sy:ByteArray) (ny:Int) (y1 y2:Value) (ec ma mb me:Int):Prop where
 kn_:kn = cond (runE s n F.length S es L != 0) 0 ((knownV (cellsL L S)).length:Int)
 en_:en = cond (runE s n F.length S es L != 0) 0 (sqL (knownV (cellsL L S)))
 hx0:HX h hm
 hx1:HX hm h'
 at_:AtX s n F S es L place x7 x8 z9
 b12:At hm c12 (.cells (runV sx nx x1 x2).cells.toList true true 52)
 r12:RX h.next hm sx nx x1 x2 s p1 (((cellsL L S).drop (p1 - n).toNat).take ((p2 - n).toNat - (p1 - n).toNat)) ec
 e12:ec = cond (runE s n F.length S es L != 0) (runE s n F.length S es L) (cond (offB n F.length (p1,p2)) 14 0)
 b14:At hm c14 (.cells (runV sy ny y1 y2).cells.toList true true 52)
 r14:RX h.next hm sy ny y1 y2 s n (cellsL L S).reverse (runE s n F.length S es L)
 b18:At hm c18 (.cells [.int .i64 ma,.int .i64 mb] true true 24)
 mean:MeanX (runE s n F.length S es L) (cellsL L S) ma mb me
 b28:At h' c28 (.cells [.string ⟨#[]⟩,.int .i64 0,.slice none 0 0,.slice none 0 0] true true 46)
 b29:At h' c29 (.cells [.string ⟨#[]⟩,.int .i64 0,.slice none 0 0,.slice none 0 0] true true 46)
 b30:At h' c30 (.cells [.int .i64 0,.int .i64 0] true true 24)
 o4:hm.next ≤ c28
 o5:c28 < c29
 o6:c29 < c30
set_option maxHeartbeats 4000000 in
set_option maxRecDepth 100000 in
theorem k4p (H:Has tp) (X:HasX tp) {s:ByteArray} {n place p1 p2:Int} {v1 v2:Value} {F:List Nat} {S:List (Int × Int)} {es L:List Int} {h:TH} {c3 c5:Nat} (r:RunH h v1 v2 F S) (hE:SErr F es) (hL:firstNZ es = 0 → Lev F L) (hF:F.length ≤ 900000) (hS:S.length ≤ 900000)
  (A3:At h c3 (.cells (runV s n v1 v2).cells.toList true true 46)) (A5:At h c5 (.cells (Value.agg #[.int .i64 p1,.int .i64 p2]).cells.toList true true 48)) (f:Free0 h.next h) {Q:Exit → Regs → TH → Prop}
  (K:∀ hm h' c12 c14 c18 c28 c29 c30 x7 x8 z9 kn en sx nx x1 x2 sy ny y1 y2 ec ma mb me,Mid s n F S es L place p1 p2 h hm h' c3 c5 c12 c14 c18 c28 c29 c30 x7 x8 z9 kn en sx nx x1 x2 sy ny y1 y2 ec ma mb me → ∀ a,Kn (midL place c3 c5 c12 c14 c18 c28 c29 c30 x7 x8 z9 kn en (runE s n F.length S es L) ec me) a → W Tryz.prog tp false rest4b a h' Q) :
  ∀ a,Kn [(1,zi place),(3,ptr c3),(5,ptr c5)] a → W Tryz.prog tp false rest4a a h Q:=by
 have lt3:=A3.lt
 have lt5:=A5.lt
 obtain ⟨bv1,kv1,rfl⟩:=r.f.form
 obtain ⟨bv2,kv2,rfl⟩:=r.s.form
 refine WL.sr (WOL.ld rfl (load_row tp46 A3 rfl (Nat.le_of_ble_eq_true rfl)) (WOL.cl1 rfl rfl ((k25 H (s:=s) (n:=n) r (by omega) (by omega) f).mono ?_)))
 rintro v g1 ⟨w1,w2,rfl,X1,O1⟩
 refine WOL.mv rfl (WOL.cl2 rfl rfl rfl ((k24 H X (s:=s) (n:=n) (place:=place) O1.r hE hL hF hS (f.next X1 X1.next)).mono ?_))
 rintro v g2 ⟨hv,X2⟩
 obtain ⟨x7,x8,z9,e9,T⟩:=atV_form s n F S es L place
 rw [e9] at hv
 subst hv
 have Y2:=X1.trans X2
 refine WOL.mv rfl (WOL.ex rfl rfl (WOL.ex rfl rfl (WOL.ex rfl rfl (WOL.as rfl (WOL.as rfl (WOL.as rfl (WOL.nil (keep [(1,_),(3,_),(5,_),(7,_),(8,_),(9,_)] ⟨rfl,rfl,rfl,rfl,rfl,rfl,trivial⟩ ?_))))))))
 clear O1 e9
 refine WL.sr (WOL.ld rfl (load_row tp46 (A3.hx Y2) rfl (Nat.le_of_ble_eq_true rfl)) (WOL.cl1 rfl rfl ((k25 H (s:=s) (n:=n) (r.hx Y2) (by omega) (by omega) (f.next Y2 Y2.next)).mono ?_)))
 rintro v g3 ⟨w1,w2,rfl,X3,O3⟩
 have Y3:=Y2.trans X3
 refine WOL.cl1 rfl rfl ((k26 H X (s:=s) (n:=n) O3.r hE hL hF hS (f.next Y3 Y3.next)).mono ?_)
 rintro v g4 ⟨rfl,X4⟩
 have Y4:=Y3.trans X4
 refine WOL.mv rfl (WOL.ex rfl rfl (WOL.ex rfl rfl (WOL.as rfl (WOL.as rfl (WOL.nil (keep [(1,_),(3,_),(5,_),(7,_),(8,_),(9,_),(10,_),(11,_)] ⟨rfl,rfl,rfl,rfl,rfl,rfl,rfl,rfl,trivial⟩ ?_))))))
 clear O3
 refine WL.sr (WOL.ld rfl (load_row tp46 (A3.hx Y4) rfl (Nat.le_of_ble_eq_true rfl)) (WOL.ld rfl (load_row tp48 (A5.hx Y4) rfl (Nat.le_of_ble_eq_true rfl)) (WOL.al tp52 fun g5 N5 => WOL.lq1 [g4.next,c5] rfl rfl rfl fun LL hLL => ?_)))
 have n5:=N5.next
 have Y5:=Y4.trans N5.hx
 have m4:=Y4.next
 refine (k25 H (s:=s) (n:=n) ((r.hx Y5).relock' LL) (by omega) (by omega) ((f.next Y5 Y5.next).held hLL (fun b hb => by simp at hb; omega))).mono ?_
 rintro v g6 ⟨w1,w2,rfl,X6,O6⟩
 replace O6:=O6.relock' g5.lock
 replace X6:=X6.relock
 generalize g6.withLock g5.lock = g6 at *
 have Y6:=Y5.trans X6
 have m6:=X6.next
 refine WOL.lq2 [g4.next] rfl rfl rfl rfl fun LL' hLL' => ?_
 refine (k27 H X (s:=s) (n:=n) (p1:=p1) (p2:=p2) (O6.r.relock' LL') hE hL hF hS ((f.next Y6 Y6.next).held hLL' (fun b hb => by simp at hb; omega))).mono ?_
 rintro v g7 RR
 obtain ⟨sx,nx,bo1,l1,k1,bo2,l2,k2,rfl,X7,R7⟩:=RR.out
 clear RR
 replace R7:=R7.relock g6.lock
 replace X7:=X7.relock
 generalize g7.withLock g6.lock = g7 at *
 replace R7:RX g6.next g7 sx nx (.slice bo1 l1 k1) (.slice bo2 l2 k2) s p1 _ _:=R7
 have Y7:=Y6.trans X7
 generalize hec:cond (runE s n F.length S es L != 0) (runE s n F.length S es L) (cond (offB n F.length (p1,p2)) 14 0) = ec at R7
 refine WOL.mv rfl (WOL.ex rfl rfl (WOL.ex rfl rfl ?_))
 refine WOL.sto rfl rfl tp52 ((N5.at_.hx X6).hx X7) rfl rfl (Nat.le_of_ble_eq_true rfl) rfl (f.hx Y7) (by omega) fun g8 P8 => WOL.as rfl (WOL.nil (keep [(1,_),(3,_),(5,_),(7,_),(8,_),(9,_),(10,_),(11,_),(12,_),(13,_)] ⟨rfl,rfl,rfl,rfl,rfl,rfl,rfl,rfl,rfl,rfl,trivial⟩ ?_))
 have Y8:HX h g8:=P8.hx _ Y7 (by omega)
 have R8:=R7.away P8 (by omega)
 have B8:=P8.at_
 have q8:=P8.next
 clear R7 O6
 refine WL.sr (WOL.ld rfl (load_row tp46 (A3.hx Y8) rfl (Nat.le_of_ble_eq_true rfl)) (WOL.cl1 rfl rfl ((k25 H (s:=s) (n:=n) (r.hx Y8) (by omega) (by omega) (f.next Y8 Y8.next)).mono ?_)))
 rintro v g9 ⟨w1,w2,rfl,X9,O9⟩
 have Y9:=Y8.trans X9
 refine WOL.cl1 rfl rfl ((k28 H X (s:=s) (n:=n) O9.r hE hL hF hS (f.next Y9 Y9.next)).mono ?_)
 rintro v g10 RR
 obtain ⟨sy,ny,co1,j1,q1,co2,j2,q2,rfl,X10,R10⟩:=RR.out
 clear RR O9
 have Y10:=Y9.trans X10
 refine WOL.mv rfl (WOL.ex rfl rfl (WOL.ex rfl rfl (WOL.al tp52 fun g11 N11 => ?_)))
 have Y11:=Y10.trans N11.hx
 have m7:=X7.next
 have m9:=X9.next
 have m10:=X10.next
 have n11:=N11.next
 have x11:=Y11.next
 refine WOL.sto rfl rfl tp52 N11.at_ rfl rfl (Nat.le_of_ble_eq_true rfl) rfl (f.hx Y11) (by have:=Y10.next; omega) fun g12 P12 => WOL.as rfl (WOL.nil (keep [(1,_),(3,_),(5,_),(7,_),(8,_),(9,_),(10,_),(11,_),(12,_),(13,_),(14,_),(15,_)] ⟨rfl,rfl,rfl,rfl,rfl,rfl,rfl,rfl,rfl,rfl,rfl,rfl,trivial⟩ ?_))
 have m8:=Y8.next
 have Y12:HX h g12:=P12.hx _ Y11 (by omega)
 have q12:=P12.next
 have Z12:HX g10 g12:=P12.hx _ N11.hx (Nat.le_refl _)
 have W12:HX g8 g12:=(X9.trans X10).trans Z12
 have R12:=R10.hx Z12
 have B12:=P12.at_
 clear R10
 refine WL.sr (WOL.ld rfl (load_row tp46 (A3.hx Y12) rfl (Nat.le_of_ble_eq_true rfl)) (WOL.cl1 rfl rfl ((k25 H (s:=s) (n:=n) (r.hx Y12) (by omega) (by omega) (f.next Y12 Y12.next)).mono ?_)))
 rintro v g13 ⟨w1,w2,rfl,X13,O13⟩
 have Y13:=Y12.trans X13
 refine WOL.cl1 rfl rfl ((k29 H X (s:=s) (n:=n) O13.r hE hL hF hS (f.next Y13 Y13.next)).mono ?_)
 rintro v g14 ⟨rfl,X14⟩
 have Y14:=Y13.trans X14
 refine WOL.mv rfl (WOL.ex rfl rfl (WOL.ex rfl rfl (WOL.as rfl (WOL.as rfl (WOL.nil (keep [(1,_),(3,_),(5,_),(7,_),(8,_),(9,_),(10,_),(11,_),(12,_),(13,_),(14,_),(15,_),(16,_),(17,_)] ⟨rfl,rfl,rfl,rfl,rfl,rfl,rfl,rfl,rfl,rfl,rfl,rfl,rfl,rfl,trivial⟩ ?_))))))
 clear O13
 refine WL.sr (WOL.ld rfl (load_row tp46 (A3.hx Y14) rfl (Nat.le_of_ble_eq_true rfl)) (WOL.cl1 rfl rfl ((k25 H (s:=s) (n:=n) (r.hx Y14) (by omega) (by omega) (f.next Y14 Y14.next)).mono ?_)))
 rintro v g15 ⟨w1,w2,rfl,X15,O15⟩
 have Y15:=Y14.trans X15
 refine WOL.cl1 rfl rfl ((k30 H X (s:=s) (n:=n) O15.r hE hL hF hS (f.next Y15 Y15.next)).mono ?_)
 rintro v g16 ⟨hv,X16⟩
 obtain ⟨ma,mb,me,M⟩:=mean_form (runE s n F.length S es L) (cellsL L S)
 rw [hv.trans M]
 clear hv O15
 have Y16:=Y15.trans X16
 refine WOL.mv rfl (WOL.ex rfl rfl (WOL.ex rfl rfl (WOL.al tp24 fun g17 N17 => ?_)))
 have Y17:=Y16.trans N17.hx
 have m16:=Y16.next
 have n17:=N17.next
 refine WOL.sto rfl rfl tp24 N17.at_ rfl rfl (Nat.le_of_ble_eq_true rfl) rfl (f.hx Y17) (by omega) fun g18 P18 => WOL.as rfl (WOL.nil (keep [(1,_),(3,_),(5,_),(7,_),(8,_),(9,_),(10,_),(11,_),(12,_),(13,_),(14,_),(15,_),(16,_),(17,_),(18,_),(19,_)] ⟨rfl,rfl,rfl,rfl,rfl,rfl,rfl,rfl,rfl,rfl,rfl,rfl,rfl,rfl,rfl,rfl,trivial⟩ ?_))
 have Y18:HX h g18:=P18.hx _ Y17 (by omega)
 have q18:=P18.next
 have Z18:HX g16 g18:=P18.hx _ N17.hx (Nat.le_refl _)
 have W18:HX g12 g18:=((X13.trans X14).trans (X15.trans X16)).trans Z18
 have B18:=P18.at_
 have m1:=(X13.trans X14).next
 have m2:=(X15.trans X16).next
 refine WL.sr (WOL.ld rfl (load_row tp46 (A3.hx Y18) rfl (Nat.le_of_ble_eq_true rfl)) (WOL.cl1 rfl rfl ((k31 H (s:=s) (n:=n) (r.hx Y18) hE hL (by omega) (by omega)).mono ?_)))
 rintro v g19 ⟨rfl,X19⟩
 have Y19:=Y18.trans X19
 have m19:=X19.next
 refine WOL.as rfl (WOL.nil (keep [(1,_),(3,_),(5,_),(7,_),(8,_),(9,_),(10,_),(11,_),(12,_),(13,_),(14,_),(15,_),(16,_),(17,_),(18,_),(19,_),(20,_)] ⟨rfl,rfl,rfl,rfl,rfl,rfl,rfl,rfl,rfl,rfl,rfl,rfl,rfl,rfl,rfl,rfl,rfl,trivial⟩ ?_))
 refine WL.sr (WOL.mv rfl (WOL.mv rfl (WOL.mv rfl (WOL.as rfl (WOL.as rfl (WOL.as rfl (WOL.nil (keep [(1,_),(3,_),(5,_),(7,_),(8,_),(9,_),(10,_),(11,_),(12,_),(13,_),(14,_),(15,_),(16,_),(17,_),(18,_),(19,_),(20,_),(21,_),(22,_),(23,_)] ⟨rfl,rfl,rfl,rfl,rfl,rfl,rfl,rfl,rfl,rfl,rfl,rfl,rfl,rfl,rfl,rfl,rfl,rfl,rfl,rfl,trivial⟩ ?_))))))))
 refine WL.sr (WOL.as rfl (WOL.nil (keep [(1,_),(3,_),(5,_),(7,_),(8,_),(9,_),(10,_),(11,_),(12,_),(13,_),(14,_),(15,_),(16,_),(17,_),(18,_),(19,_),(20,_),(21,_),(22,_),(23,_),(24,_)] ⟨rfl,rfl,rfl,rfl,rfl,rfl,rfl,rfl,rfl,rfl,rfl,rfl,rfl,rfl,rfl,rfl,rfl,rfl,rfl,rfl,rfl,trivial⟩ ?_)))
 refine WL.sr (WOL.as rfl (WOL.as rfl (WOL.as rfl (WOL.nil (keep [(1,_),(3,_),(5,_),(7,_),(8,_),(9,_),(10,_),(11,_),(12,_),(13,_),(14,_),(15,_),(16,_),(17,_),(18,_),(19,_),(20,_),(21,_),(22,_),(23,_),(24,_),(25,_),(26,_),(27,_)] ⟨rfl,rfl,rfl,rfl,rfl,rfl,rfl,rfl,rfl,rfl,rfl,rfl,rfl,rfl,rfl,rfl,rfl,rfl,rfl,rfl,rfl,rfl,rfl,rfl,trivial⟩ ?_)))))
 refine WL.sr (WOL.al tp46 fun g20 N20 => WOL.al tp46 fun g21 N21 => WOL.nil (keep [(1,_),(3,_),(5,_),(7,_),(8,_),(9,_),(10,_),(11,_),(12,_),(13,_),(14,_),(15,_),(16,_),(17,_),(18,_),(19,_),(20,_),(21,_),(22,_),(23,_),(24,_),(25,_),(26,_),(27,_),(28,_),(29,_)] ⟨rfl,rfl,rfl,rfl,rfl,rfl,rfl,rfl,rfl,rfl,rfl,rfl,rfl,rfl,rfl,rfl,rfl,rfl,rfl,rfl,rfl,rfl,rfl,rfl,rfl,rfl,trivial⟩ ?_))
 refine WL.sr (WOL.al tp24 fun g22 N22 => WOL.nil (keep [(1,_),(3,_),(5,_),(7,_),(8,_),(9,_),(10,_),(11,_),(12,_),(13,_),(14,_),(15,_),(16,_),(17,_),(18,_),(19,_),(20,_),(21,_),(22,_),(23,_),(24,_),(25,_),(26,_),(27,_),(28,_),(29,_),(30,_)] ⟨rfl,rfl,rfl,rfl,rfl,rfl,rfl,rfl,rfl,rfl,rfl,rfl,rfl,rfl,rfl,rfl,rfl,rfl,rfl,rfl,rfl,rfl,rfl,rfl,rfl,rfl,rfl,trivial⟩ ?_))
 have n20:=N20.next
 have n21:=N21.next
 have n22:=N22.next
 have E22:HX g19 g22:=(N20.hx.trans N21.hx).trans N22.hx
 have E12:=W18.trans X19
 have E8:=W12.trans E12
 refine K g19 g22 g4.next g10.next g16.next g19.next g20.next g21.next x7 x8 z9 _ _ sx nx _ _ sy ny _ _ ec ma mb me ⟨rfl,rfl,Y19,E22,T,B8.hx E8,(R8.hx E8).up (by omega),hec.symm,B12.hx E12,(R12.hx E12).up (by omega),B18.hx X19,M,(N20.at_.hx N21.hx).hx N22.hx,N21.at_.hx N22.hx,N22.at_,by omega,by omega,by omega⟩
end Go.Tidy
namespace Go.Tidy
open Go Go.Proofs Tab
variable {tp:TProg}
theorem Free0.on {h h':TH} (f:Free0 h.next h) (x:HX h h'):Free0 h'.next h':=f.next x x.next
theorem ezero {z:Int}:fastBin .eql (.int .i64 z) (.int .i64 0) = some (.bool (z == 0)):=rfl
theorem same_is (H:Has tp) {n0 n1:Nat} {hm g h':TH} {s sx:ByteArray} {n nx:Int} {x1 x2 w1 w2:Value} {C:List (Int × Bool)} {G:List Nat} {T:List (Int × Int)} {ec:Int} (f:Free0 h'.next h') (r:RX n0 hm sx nx x1 x2 s n C ec) (x:HX hm h') (y:HX g h')
  (hz:ec = 0 → RunO n1 g w1 w2 G T ∧ (C.map fun c => smp c.1) = G ∧ holesOf (C.map fun c => c.2) = T ∧ Lev (C.map fun c => smp c.1) (C.map fun c => c.1) ∧ C.length ≤ 4096)
  (he:ec ≠ 0 → w1 = .slice none 0 0 ∧ w2 = .slice none 0 0) {sz:ByteArray} {nz:Int} (hs:ec = 0 → sz = s ∧ nz = n) :
  CallW Tryz.prog tp (.func (.func 44) #[] #[]) #[runV sx nx x1 x2,.int .i64 ec,.int .i64 ec,runV sz nz w1 w2] h' fun v h'' => v = .bool true ∧ HX h' h'':=by
 rcases r with ⟨e,rfl,rfl,rfl,rfl⟩ | ⟨rfl,rfl,rfl,O⟩
 ·obtain ⟨rfl,rfl⟩:=he e
  exact k42e H e rfl f
 ·obtain ⟨O2,hF,hS,hLv,hC⟩:=hz rfl
  obtain ⟨rfl,rfl⟩:=hs rfl
  subst hF hS
  refine k42 H (O.r.f.hx x) (O2.r.f.hx y) hLv hLv (O.r.s.hx x) (O2.r.s.hx y) (by simp; omega) ?_
  have:=holesN_len (C.map fun c => c.2) (C.map fun c => c.2).length
  simp only [List.length_map] at this
  show (holesN _ _).length ≤ _
  simp only [List.length_map]
  omega
def rest22:TCode:=(.seq (.seq (.reg r4_22) (.cond (.tmp 123) (.reg r4_23) .skip)) (.seq (.reg r4_24) .ret))
def rest20:TCode:=(.seq (.seq (.reg r4_20) (.cond (.tmp 107) (.reg r4_21) .skip)) rest22)
def L22 (c3 c5 c12 c14 c18 c28 c29 c30 x7 y7:Nat) (b8:Bool) (z9 z10 ec z16 z19:Int):Rg :=
 [(3,ptr c3),(5,ptr c5),(7,.float .f32 x7),(8,.bool b8),(9,zi z9),(10,zi z10),(11,zi 0),(12,ptr c12),(13,zi ec),(14,ptr c14),(15,zi 0),(16,zi z16),(17,zi 0),(18,ptr c18),(19,zi z19),(20,zi 0),(21,zi z9),(22,zi ec),(23,zi z19),(24,.float .f32 y7),(25,.bool b8),(26,zi z10),(27,zi z16),(28,ptr c28),(29,ptr c29),(30,ptr c30)]
structure Val (s:ByteArray) (n:Int) (v1 v2:Value) (F:List Nat) (S:List (Int × Int)) (es L:List Int) (p1 p2:Int) (h hm g:TH) (c3 c5 c12 c14 c18 c28 c29 c30:Nat) (sx:ByteArray) (nx:Int) (x1 x2:Value) (sy:ByteArray) (ny:Int) (y1 y2:Value) (ec ma mb:Int) (n1:Nat) (w1 w2:Value):Prop where
 r:RunH h v1 v2 F S
 V:Valid s n F S L
 E0:runE s n F.length S es L = 0
 f:Free0 h.next h
 x0:HX h hm
 x1_:HX hm g
 a3:At h c3 (.cells (runV s n v1 v2).cells.toList true true 46)
 a5:At h c5 (.cells (Value.agg #[.int .i64 p1,.int .i64 p2]).cells.toList true true 48)
 b12:At hm c12 (.cells (runV sx nx x1 x2).cells.toList true true 52)
 r12:RX h.next hm sx nx x1 x2 s p1 (((cellsL L S).drop (p1 - n).toNat).take ((p2 - n).toNat - (p1 - n).toNat)) ec
 e12:ec = cond (offB n F.length (p1,p2)) 14 0
 b14:At hm c14 (.cells (runV sy ny y1 y2).cells.toList true true 52)
 r14:RX h.next hm sy ny y1 y2 s n (cellsL L S).reverse 0
 b18:At hm c18 (.cells [.int .i64 ma,.int .i64 mb] true true 24)
 b28:At g c28 (.cells [.string ⟨#[]⟩,.int .i64 0,.slice none 0 0,.slice none 0 0] true true 46)
 b29:At g c29 (.cells (runV s n w1 w2).cells.toList true true 46)
 ro:RunO n1 g w1 w2 (madeF L.reverse (knownL S F.length).reverse) (holesOf (knownL S F.length).reverse)
 b30:At g c30 (.cells [.int .i64 ma,.int .i64 mb] true true 24)
 o4:hm.next ≤ c28
 o5:c28 < c29
 o6:c29 < c30
 o7:c30 < n1
set_option maxHeartbeats 4000000 in
set_option maxRecDepth 100000 in
theorem k4t (H:Has tp) (X:HasX tp) (A:Awk tp) {s:ByteArray} {n p1 p2:Int} {v1 v2:Value} {F:List Nat} {S:List (Int × Int)} {es L:List Int} {h hm g:TH} {c3 c5 c12 c14 c18 c28 c29 c30 x7 y7:Nat} {b8:Bool} {z9 z10 ec z16 z19:Int} (hE:SErr F es) (hL:firstNZ es = 0 → Lev F L) (hF:F.length ≤ 900000) (hS:S.length ≤ 900000)
  (nx7:nanB .f32 x7 = false) (ny7:nanB .f32 y7 = false) (e7:cmpF .eql .f32 x7 y7 = some true)
  {sx:ByteArray} {nx:Int} {x1 x2:Value} {sy:ByteArray} {ny:Int} {y1 y2:Value} {ma mb:Int} {n1:Nat} {w1 w2:Value}
  (M:Val s n v1 v2 F S es L p1 p2 h hm g c3 c5 c12 c14 c18 c28 c29 c30 sx nx x1 x2 sy ny y1 y2 ec ma mb n1 w1 w2) :
  ∀ a,Kn (L22 c3 c5 c12 c14 c18 c28 c29 c30 x7 y7 b8 z9 z10 ec z16 z19) a → W Tryz.prog tp false rest22 a g (Fin Tryz.prog [.tmp 6] fun v _ => v = .bool true):=by
 have V:=M.V
 have hG:=M.x0.trans M.x1_
 have hcl:(cellsL L S).length = F.length:=cells_len V.lev V.in_
 have Vm:=V.m
 have key:∀ (g':TH) (sz:ByteArray) (nz:Int) (q1 q2:Value),HX hm g' → At g' c28 (.cells [.string sz,.int .i64 nz,q1,q2] true true 46) → At g' c29 (.cells (runV s n w1 w2).cells.toList true true 46) → At g' c30 (.cells [.int .i64 ma,.int .i64 mb] true true 24) →
   RunO n1 g' w1 w2 (madeF L.reverse (knownL S F.length).reverse) (holesOf (knownL S F.length).reverse) →
   (ec = 0 → RunO 0 g' q1 q2 (madeF ((L.drop (p1 - n).toNat).take ((p2 - n).toNat - (p1 - n).toNat)) (((knownL S F.length).drop (p1 - n).toNat).take ((p2 - n).toNat - (p1 - n).toNat))) (holesOf (((knownL S F.length).drop (p1 - n).toNat).take ((p2 - n).toNat - (p1 - n).toNat))) ∧ sz = s ∧ nz = p1) → (ec ≠ 0 → q1 = .slice none 0 0 ∧ q2 = .slice none 0 0) →
   ∀ a,Kn (L22 c3 c5 c12 c14 c18 c28 c29 c30 x7 y7 b8 z9 z10 ec z16 z19) a → W Tryz.prog tp false (.seq (.reg r4_24) .ret) a g' (Fin Tryz.prog [.tmp 6] fun v _ => v = .bool true):=by
  intro g' sz nz q1 q2 x b28 b29 b30 ro hz he
  have Y:=M.x0.trans x
  obtain ⟨cr1,cr2,cr3⟩:=V.crop (p1 - n).toNat ((p2 - n).toNat - (p1 - n).toNat)
  obtain ⟨rv1,rv2,rv3⟩:=V.rev
  refine kto (k4z H X A (s:=s) (n:=n) (M.r.hx Y) hE hL hF hS (M.a3.hx Y) (M.f.on Y) M.E0 nx7 ny7 e7 (M.b12.hx x) b28 (fun h' hx' => same_is H (n:=p1) (M.f.on (Y.trans hx')) M.r12 (x.trans hx') hx' (fun e => ⟨(hz e).1,cr1,by rw [cr2],cr3,by simp; omega⟩) he (fun e => (hz e).2)) (M.b14.hx x) b29 (fun h' hx' => same_is H (n:=n) (M.f.on (Y.trans hx')) M.r14 (x.trans hx') hx' (fun e => ⟨ro,rv1,by rw [rv2],rv3,by simp; omega⟩) (fun e => absurd rfl e) (fun _ => ⟨rfl,rfl⟩)) (M.b18.hx x) b30) ⟨rfl,rfl,rfl,rfl,rfl,rfl,rfl,rfl,rfl,rfl,rfl,rfl,rfl,rfl,rfl,rfl,rfl,rfl,rfl,rfl,rfl,rfl,rfl,rfl,rfl,trivial⟩
 refine WL.seq <| WL.sr <| WOL.mv rfl <| WOL.bi rfl rfl ezero <| WOL.nil ?_
 cases hb:offB n F.length (p1,p2) with
 | true =>
  have e:=M.e12
  rw [hb] at e
  simp only [Bool.cond_true] at e
  have ene:ec ≠ 0:=by omega
  rw [show (ec == 0) = false by simpa using ene]
  refine WL.no rfl <| WL.skip ?_
  exact kto (key g _ _ _ _ M.x1_ M.b28 M.b29 M.b30 M.ro (fun e => absurd e ene) (fun _ => ⟨rfl,rfl⟩)) ⟨rfl,rfl,rfl,rfl,rfl,rfl,rfl,rfl,rfl,rfl,rfl,rfl,rfl,rfl,rfl,rfl,rfl,rfl,rfl,rfl,rfl,rfl,rfl,rfl,rfl,rfl,trivial⟩
 | false =>
  have e:=M.e12
  rw [hb] at e
  simp only [Bool.cond_false] at e
  subst e
  refine WL.yes rfl <| WL.reg <| WOL.ld rfl (load_row tp46 (M.a3.hx hG) rfl (Nat.le_of_ble_eq_true rfl)) ?_
  refine WOL.ld rfl (load_row tp48 (M.a5.hx hG) rfl (Nat.le_of_ble_eq_true rfl)) ?_
  refine WOL.cl2 rfl rfl rfl ((k40 H (s:=s) (n:=n) (p1:=p1) (p2:=p2) (M.r.hx hG) V hb hS (M.f.on hG)).mono ?_)
  rintro v g1 ⟨q1,q2,rfl,X1,O1⟩
  have lt28:=M.b28.lt
  have lt29:=M.b29.lt
  have o4:=M.o4
  have o5:=M.o5
  have o6:=M.o6
  have o7:=M.o7
  have m1:=M.x0.next
  obtain ⟨bo1,k1,rfl⟩:=O1.r.f.form
  obtain ⟨bo2,k2,rfl⟩:=O1.r.s.form
  refine WOL.sto rfl rfl tp46 (M.b28.hx X1) rfl rfl (Nat.le_of_ble_eq_true rfl) rfl (M.f.hx (hG.trans X1)) (by omega) fun g2 P2 => ?_
  refine WOL.nil ?_
  refine kto (key g2 s p1 _ _ (P2.hx _ (M.x1_.trans X1) o4) P2.at_ (P2.oth _ _ (by omega) (M.b29.hx X1)) (P2.oth _ _ (by omega) (M.b30.hx X1)) ((M.ro.hx X1).away P2 (by omega)) (fun _ => ⟨(O1.away P2 (by omega)).le (Nat.zero_le _),rfl,rfl⟩) (fun e => absurd rfl e)) ⟨rfl,rfl,rfl,rfl,rfl,rfl,rfl,rfl,rfl,rfl,rfl,rfl,rfl,rfl,rfl,rfl,rfl,rfl,rfl,rfl,rfl,rfl,rfl,rfl,rfl,rfl,trivial⟩
end Go.Tidy
namespace Go.Tidy
open Go Go.Proofs Tab
variable {tp:TProg}
theorem Val.hx {s:ByteArray} {n:Int} {v1 v2:Value} {F:List Nat} {S:List (Int × Int)} {es L:List Int} {p1 p2:Int} {h hm g g':TH} {c3 c5 c12 c14 c18 c28 c29 c30:Nat} {sx:ByteArray} {nx:Int} {x1 x2:Value} {sy:ByteArray} {ny:Int} {y1 y2:Value} {ec ma mb:Int} {n1:Nat} {w1 w2:Value}
  (M:Val s n v1 v2 F S es L p1 p2 h hm g c3 c5 c12 c14 c18 c28 c29 c30 sx nx x1 x2 sy ny y1 y2 ec ma mb n1 w1 w2) (x:HX g g'):Val s n v1 v2 F S es L p1 p2 h hm g' c3 c5 c12 c14 c18 c28 c29 c30 sx nx x1 x2 sy ny y1 y2 ec ma mb n1 w1 w2 :=
 { M with x1_:=M.x1_.trans x,b28:=M.b28.hx x,b29:=M.b29.hx x,ro:=M.ro.hx x,b30:=M.b30.hx x }
def L20 (place:Int) (c3 c5 c12 c14 c18 c28 c29 c30 x7:Nat) (x8:Bool) (z9 z10 ec z16 z19:Int):Rg :=
 [(1,zi place),(3,ptr c3),(5,ptr c5),(7,.float .f32 x7),(8,.bool x8),(9,zi z9),(10,zi z10),(11,zi 0),(12,ptr c12),(13,zi ec),(14,ptr c14),(15,zi 0),(16,zi z16),(17,zi 0),(18,ptr c18),(19,zi z19),(20,zi 0),(21,zi z9),(22,zi ec),(23,zi z19),(24,.float .f32 0),(25,.bool false),(26,zi z10),(27,zi z16),(28,ptr c28),(29,ptr c29),(30,ptr c30)]
set_option maxHeartbeats 4000000 in
set_option maxRecDepth 100000 in
theorem k4u (H:Has tp) (X:HasX tp) (A:Awk tp) {s:ByteArray} {n place p1 p2:Int} {v1 v2:Value} {F:List Nat} {S:List (Int × Int)} {es L:List Int} {h hm g:TH} {c3 c5 c12 c14 c18 c28 c29 c30 x7:Nat} {x8:Bool} {z9 z10 ec z16 z19:Int} (hE:SErr F es) (hL:firstNZ es = 0 → Lev F L) (hF:F.length ≤ 900000) (hS:S.length ≤ 900000)
  (T:AtX s n F S es L place x7 x8 z9)
  {sx:ByteArray} {nx:Int} {x1 x2:Value} {sy:ByteArray} {ny:Int} {y1 y2:Value} {ma mb:Int} {n1:Nat} {w1 w2:Value}
  (M:Val s n v1 v2 F S es L p1 p2 h hm g c3 c5 c12 c14 c18 c28 c29 c30 sx nx x1 x2 sy ny y1 y2 ec ma mb n1 w1 w2) :
  ∀ a,Kn (L20 place c3 c5 c12 c14 c18 c28 c29 c30 x7 x8 z9 z10 ec z16 z19) a → W Tryz.prog tp false rest20 a g (Fin Tryz.prog [.tmp 6] fun v _ => v = .bool true):=by
 have V:=M.V
 have hG:=M.x0.trans M.x1_
 have Vm:=V.m
 have V0:=V.n0
 have V1:=V.n1
 refine WL.seq <| WL.sr <| WOL.mv rfl <| WOL.bi rfl rfl ezero <| WOL.nil ?_
 rcases T with ⟨h0,_⟩ | ⟨_,_,rfl,rfl,rfl⟩ | ⟨_,hp,rfl,rfl,rfl⟩
 ·exact absurd M.E0 h0
 ·refine WL.no rfl <| WL.skip ?_
  exact kto (k4t H X A hE hL hF hS rfl rfl rfl M) ⟨rfl,rfl,rfl,rfl,rfl,rfl,rfl,rfl,rfl,rfl,rfl,rfl,rfl,rfl,rfl,rfl,rfl,rfl,rfl,rfl,rfl,rfl,rfl,rfl,rfl,rfl,trivial⟩
 ·have hp1:n ≤ place ∧ place < n + F.length:=by omega
  obtain ⟨i,hi⟩:∃ i:Nat,place - n = (i:Int):=⟨(place - n).toNat,by omega⟩
  have hi2:i < F.length:=by omega
  have hb:F[i]? = some F[i]:=List.getElem?_eq_getElem hi2
  generalize F[i] = b at hb
  obtain ⟨x,hx1,hx2,hx3⟩:=V.at_ hb
  have hx4:=V.lim _ (List.mem_of_getElem? hx3)
  have hgd:(cellsL L S).getD (place - n).toNat (0,false) = (x,knownB S (i:Int)):=by
   rw [hi,Int.toNat_natCast,List.getD_eq_getElem?_getD,hx3]; rfl
  rw [hgd]
  have hsub:fwrap .i64 (place - n) = (i:Int):=by rw [fwrap_i64 (by omega) (by omega),hi]
  obtain ⟨bb,o,cc,fix,wr,el,e1,e2,e3,e4,e5⟩:=(M.r.f.hx hG).at eF u43 tp25 hb .i64
  obtain ⟨bv1,kv1,rfl⟩:=M.r.f.form
  obtain ⟨bv2,kv2,rfl⟩:=M.r.s.form
  refine WL.yes rfl <| WL.reg <| WOL.fa rfl (fa_of fo46_2) <| WOL.ld rfl (load_one tp43 (M.a3.hx hG) rfl) ?_
  refine WOL.mv rfl <| WOL.fa rfl (fa_of fo46_1) <| WOL.ld rfl (load_one tp3 (M.a3.hx hG) rfl) ?_
  refine WOL.bi (v:=zi (i:Int)) rfl rfl (by show some (Value.int .i64 (fwrap .i64 (place - n))) = _; rw [hsub]) ?_
  refine WOL.ix rfl rfl e1 <| WOL.ld rfl (load_one tp25 e2 (e5 0 (by decide))) ?_
  refine WOL.ld rfl (load_row tp46 (M.a3.hx hG) rfl (Nat.le_of_ble_eq_true rfl)) ?_
  refine WOL.mv rfl <| WOL.fa rfl (fa_of fo46_1) <| WOL.ld rfl (load_one tp3 (M.a3.hx hG) rfl) ?_
  refine WOL.bi (v:=zi (i:Int)) rfl rfl (by show some (Value.int .i64 (fwrap .i64 (place - n))) = _; rw [hsub]) ?_
  refine WOL.lk2 rfl rfl rfl fun M' => ((k39 H (s:=s) (n:=n) ((M.r.s.hx hG).relock M') (by omega)).mono ?_)
  rintro v g1 ⟨rfl,X1⟩
  replace X1:=X1.relock
  generalize g1.withLock g.lock = g1 at *
  refine WOL.as rfl <| WOL.as rfl <| WOL.nil ?_
  have q:=hx2.nan
  have q2:=(smp_ok hx4).2.2
  refine kto (k4t H X A hE hL hF hS q2.nan q ?_ (M.hx X1)) ⟨rfl,rfl,rfl,rfl,rfl,rfl,rfl,rfl,rfl,rfl,rfl,rfl,rfl,rfl,rfl,rfl,rfl,rfl,rfl,rfl,rfl,rfl,rfl,rfl,rfl,rfl,trivial⟩
  rw [(q2.cmp hx2).1]; simp
set_option maxHeartbeats 4000000 in
set_option maxRecDepth 100000 in
theorem k4v (H:Has tp) (X:HasX tp) (A:Awk tp) {s:ByteArray} {n place p1 p2:Int} {v1 v2:Value} {F:List Nat} {S:List (Int × Int)} {es L:List Int} {h hm g:TH} {c3 c5 c12 c14 c18 c28 c29 c30 x7:Nat} {x8:Bool} {z9 kn en ec me:Int} (r:RunH h v1 v2 F S) (hE:SErr F es) (hL:firstNZ es = 0 → Lev F L) (hF:F.length ≤ 900000) (hS:S.length ≤ 900000)
  (A3:At h c3 (.cells (runV s n v1 v2).cells.toList true true 46)) (A5:At h c5 (.cells (Value.agg #[.int .i64 p1,.int .i64 p2]).cells.toList true true 48)) (f:Free0 h.next h)
  {sx:ByteArray} {nx:Int} {x1 x2:Value} {sy:ByteArray} {ny:Int} {y1 y2:Value} {ma mb:Int}
  (M:Mid s n F S es L place p1 p2 h hm g c3 c5 c12 c14 c18 c28 c29 c30 x7 x8 z9 kn en sx nx x1 x2 sy ny y1 y2 ec ma mb me) (h0:runE s n F.length S es L = 0) :
  ∀ a,Kn (midL place c3 c5 c12 c14 c18 c28 c29 c30 x7 x8 z9 kn en (runE s n F.length S es L) ec me) a → W Tryz.prog tp false rest4b a g (Fin Tryz.prog [.tmp 6] fun v _ => v = .bool true):=by
 have V:=valid_of hL h0
 have Vm:=V.m
 have V0:=V.n0
 have V1:=V.n1
 have hG:=M.hx0.trans M.hx1
 have hkn:kn = cnt (knownL S F.length):=by rw [M.kn_,h0,V.known]; rfl
 have hen:en = sqL L:=by rw [M.en_,h0,V.energy]; rfl
 have hec:ec = cond (offB n F.length (p1,p2)) 14 0:=by rw [M.e12,h0]; rfl
 have hme:cond (cnt (knownL S F.length) == 0) (Value.tuple #[ratio0,.int .i64 7]) (.tuple #[meanR (sumL L) (cnt (knownL S F.length)),.int .i64 0]) = .tuple #[.agg #[.int .i64 ma,.int .i64 mb],.int .i64 me]:=by
  have:=M.mean
  unfold MeanX at this
  rw [h0,V.known,V.sum] at this
  exact this
 have r14:=M.r14
 rw [h0] at r14
 rw [h0]
 obtain ⟨bv1,kv1,rfl⟩:=r.f.form
 obtain ⟨bv2,kv2,rfl⟩:=r.s.form
 refine WL.seq <| WL.sr <| WOL.mv rfl <| WOL.bi rfl rfl ezero <| WOL.nil <| WL.yes rfl ?_
 have K16:∀ g1,HX g g1 → ∀ a,Kn [(1,zi place),(3,ptr c3),(5,ptr c5),(7,.float .f32 x7),(8,.bool x8),(9,zi z9),(10,zi kn),(11,zi 0),(12,ptr c12),(13,zi ec),(14,ptr c14),(15,zi 0),(16,zi en),(17,zi 0),(18,ptr c18),(19,zi me),(20,zi 0),(21,zi z9),(24,.float .f32 0),(25,.bool false),(28,ptr c28),(29,ptr c29),(30,ptr c30)] a →
   W Tryz.prog tp false (.seq (.reg r4_17) (.seq (.reg r4_18) (.reg r4_19))) a g1 (andThen (fun a h => W Tryz.prog tp false rest20 a h (Fin Tryz.prog [.tmp 6] fun v _ => v = .bool true)) (Fin Tryz.prog [.tmp 6] fun v _ => v = .bool true)):=by
  intro g1 X1
  have Y1:=hG.trans X1
  refine WL.sr <| WOL.ld rfl (load_row tp46 (A3.hx Y1) rfl (Nat.le_of_ble_eq_true rfl)) <| WOL.ld rfl (load_row tp48 (A5.hx Y1) rfl (Nat.le_of_ble_eq_true rfl)) ?_
  refine WOL.cl2 rfl rfl rfl ((k34 H (s:=s) (n:=n) (p1:=p1) (p2:=p2) (r.f.hx Y1) V0 (by omega) (by omega)).mono ?_)
  rintro v g2 ⟨rfl,X2⟩
  rw [← hec]
  have Y2:=Y1.trans X2
  refine WOL.as rfl <| WOL.nil <| keep [(1,_),(3,_),(5,_),(7,_),(8,_),(9,_),(10,_),(11,_),(12,_),(13,_),(14,_),(15,_),(16,_),(17,_),(18,_),(19,_),(20,_),(21,_),(22,_),(24,_),(25,_),(28,_),(29,_),(30,_)] ⟨rfl,rfl,rfl,rfl,rfl,rfl,rfl,rfl,rfl,rfl,rfl,rfl,rfl,rfl,rfl,rfl,rfl,rfl,rfl,rfl,rfl,rfl,rfl,rfl,trivial⟩ ?_
  refine WL.sr <| WOL.ld rfl (load_row tp46 (A3.hx Y2) rfl (Nat.le_of_ble_eq_true rfl)) <| WOL.ld rfl (load_row tp46 (A3.hx Y2) rfl (Nat.le_of_ble_eq_true rfl)) <| WOL.ld rfl (load_row tp46 (A3.hx Y2) rfl (Nat.le_of_ble_eq_true rfl)) ?_
  refine WOL.lk1 rfl rfl fun M' => ((k35 H (s:=s) (n:=n) ((r.hx Y2).relock' M') (by omega) (by omega)).mono ?_)
  rintro v g3 ⟨rfl,X3⟩
  replace X3:=X3.relock
  generalize g3.withLock g2.lock = g3 at *
  have Y3:=Y2.trans X3
  refine WOL.lk1 rfl rfl fun M' => ((k36 H (s:=s) (n:=n) ((r.f.hx Y3).relock M') V.lev (by omega)).mono ?_)
  rintro v g4 ⟨rfl,X4⟩
  replace X4:=X4.relock
  generalize g4.withLock g3.lock = g4 at *
  have Y4:=Y3.trans X4
  refine WOL.cl1 rfl rfl ((k37 H (s:=s) (n:=n) (r.hx Y4) V.lev (by omega) (by omega) (f.on Y4)).mono ?_)
  rintro v g5 ⟨w1,w2,rfl,X5,O5⟩
  have Y5:=Y4.trans X5
  have Z5:HX g g5:=(((X1.trans X2).trans X3).trans X4).trans X5
  have Z4:=((X1.trans X2).trans X3).trans X4
  have lt30:=M.b30.lt
  have o4:=M.o4
  have o5:=M.o5
  have o6:=M.o6
  have m0:=M.hx0.next
  have m1:=Z4.next
  obtain ⟨bo1,k1,rfl⟩:=O5.r.f.form
  obtain ⟨bo2,k2,rfl⟩:=O5.r.s.form
  refine WOL.as rfl <| WOL.as rfl ?_
  refine WOL.sto rfl rfl tp46 (M.b29.hx Z5) rfl rfl (Nat.le_of_ble_eq_true rfl) rfl (f.hx Y5) (by omega) fun g6 P6 => ?_
  refine WOL.nil <| keep [(1,_),(3,_),(5,_),(7,_),(8,_),(9,_),(10,_),(11,_),(12,_),(13,_),(14,_),(15,_),(16,_),(17,_),(18,_),(19,_),(20,_),(21,_),(22,_),(24,_),(25,_),(26,_),(27,_),(28,_),(29,_),(30,_)] ⟨rfl,rfl,rfl,rfl,rfl,rfl,rfl,rfl,rfl,rfl,rfl,rfl,rfl,rfl,rfl,rfl,rfl,rfl,rfl,rfl,rfl,rfl,rfl,rfl,rfl,rfl,trivial⟩ ?_
  have Y6:HX h g6:=P6.hx _ Y5 (by omega)
  have W6:HX hm g6:=P6.hx _ (M.hx1.trans Z5) (by omega)
  have O6:=O5.away P6 (by omega)
  refine WL.reg <| WOL.ld rfl (load_row tp46 (A3.hx Y6) rfl (Nat.le_of_ble_eq_true rfl)) ?_
  refine WOL.cl1 rfl rfl ((k38 H (s:=s) (n:=n) (r.hx Y6) V.lev (by omega) (by omega) (f.on Y6)).mono ?_)
  rintro v g7 ⟨rfl,X7⟩
  have Y7:=Y6.trans X7
  rw [hme]
  refine WOL.mv rfl <| WOL.ex rfl rfl <| WOL.ex rfl rfl ?_
  refine WOL.sto rfl rfl tp24 ((P6.oth _ _ (by omega) (M.b30.hx Z5)).hx X7) rfl rfl (Nat.le_of_ble_eq_true rfl) rfl (f.hx Y7) (by omega) fun g8 P8 => ?_
  refine WOL.as rfl <| WOL.nil ?_
  rw [← hkn,← hen]
  refine kto (k4u H X A hE hL hF hS M.at_ (n1:=g4.next) (w1:=.slice bo1 _ k1) (w2:=.slice bo2 _ k2) ⟨r,V,h0,f,M.hx0,P8.hx _ (W6.trans X7) (by omega),A3,A5,M.b12,M.r12,hec,M.b14,r14,M.b18,P8.oth _ _ (by omega) ((P6.oth _ _ (by omega) (M.b28.hx Z5)).hx X7),P8.oth _ _ (by omega) (P6.at_.hx X7),(O6.hx X7).away P8 (by omega),P8.at_,by omega,by omega,by omega,by omega⟩) ⟨rfl,rfl,rfl,rfl,rfl,rfl,rfl,rfl,rfl,rfl,rfl,rfl,rfl,rfl,rfl,rfl,rfl,rfl,rfl,rfl,rfl,rfl,rfl,rfl,rfl,rfl,rfl,trivial⟩
 refine WL.sr <| WOL.mv rfl <| WOL.fa rfl (fa_of fo46_1) <| WOL.ld rfl (load_one tp3 (A3.hx hG) rfl) ?_
 refine WOL.bi rfl rfl rfl ?_
 have T:=M.at_
 by_cases hp:place < n
 ·rw [show decide (place < n) = true by simpa using hp]
  have hz:z9 = 10:=by
   rcases T with ⟨q,_⟩ | ⟨_,_,_,_,q⟩ | ⟨_,q,_⟩
   ·exact absurd h0 q
   ·exact q
   ·exact absurd (.inl hp) q
  refine WOL.mv rfl <| WOL.skp (b:=true) rfl rfl <| WOL.skp (b:=true) rfl rfl <| WOL.skp (b:=true) rfl rfl <| WOL.skp (b:=true) rfl rfl <| WOL.pkt rfl rfl ?_
  refine WOL.cl2 rfl rfl rfl ((k32 H _ _ _).mono ?_)
  rintro v g1 ⟨rfl,rfl⟩
  refine WOL.as rfl <| WOL.nil ?_
  rw [show (cond true (10:Int) 0) = z9 from hz.symm]
  exact kto (K16 _ (HX.refl _)) ⟨rfl,rfl,rfl,rfl,rfl,rfl,rfl,rfl,rfl,rfl,rfl,rfl,rfl,rfl,rfl,rfl,rfl,rfl,rfl,rfl,rfl,rfl,rfl,trivial⟩
 ·rw [show decide (place < n) = false by simpa using hp]
  refine WOL.mv rfl <| WOL.now (b:=false) rfl rfl <| WOL.mv rfl <| WOL.now (b:=false) rfl rfl <| WOL.ld rfl (load_row tp46 (A3.hx hG) rfl (Nat.le_of_ble_eq_true rfl)) <| WOL.now (b:=false) rfl rfl ?_
  refine WOL.cl1 rfl rfl ((k33 H (s:=s) (n:=n) (r.f.hx hG) V0 (by omega) (by omega)).mono ?_)
  rintro v g1 ⟨rfl,X1⟩
  refine WOL.now (b:=false) rfl rfl <| WOL.bi rfl rfl rfl <| WOL.pkf rfl rfl ?_
  refine WOL.cl2 rfl rfl rfl ((k32 H _ _ _).mono ?_)
  rintro v g1 ⟨rfl,rfl⟩
  refine WOL.as rfl <| WOL.nil ?_
  have hz:cond (decide (place ≥ n + F.length)) (10:Int) 0 = z9:=by
   rcases T with ⟨q,_⟩ | ⟨_,p,_,_,q⟩ | ⟨_,p,_,_,q⟩
   ·exact absurd h0 q
   ·rw [q,show decide (place ≥ n + F.length) = true by simp; omega]; rfl
   ·rw [q,show decide (place ≥ n + F.length) = false by simp; omega]; rfl
  rw [hz]
  exact kto (K16 _ X1) ⟨rfl,rfl,rfl,rfl,rfl,rfl,rfl,rfl,rfl,rfl,rfl,rfl,rfl,rfl,rfl,rfl,rfl,rfl,rfl,rfl,rfl,rfl,rfl,trivial⟩
set_option maxHeartbeats 4000000 in
set_option maxRecDepth 100000 in
theorem k4w (H:Has tp) (X:HasX tp) (A:Awk tp) {s:ByteArray} {n place p1 p2:Int} {v1 v2:Value} {F:List Nat} {S:List (Int × Int)} {es L:List Int} {h hm g:TH} {c3 c5 c12 c14 c18 c28 c29 c30 x7:Nat} {x8:Bool} {z9 kn en ec me:Int} (r:RunH h v1 v2 F S) (hE:SErr F es) (hL:firstNZ es = 0 → Lev F L) (hF:F.length ≤ 900000) (hS:S.length ≤ 900000)
  (A3:At h c3 (.cells (runV s n v1 v2).cells.toList true true 46)) (f:Free0 h.next h)
  {sx:ByteArray} {nx:Int} {x1 x2:Value} {sy:ByteArray} {ny:Int} {y1 y2:Value} {ma mb:Int}
  (M:Mid s n F S es L place p1 p2 h hm g c3 c5 c12 c14 c18 c28 c29 c30 x7 x8 z9 kn en sx nx x1 x2 sy ny y1 y2 ec ma mb me) (h0:runE s n F.length S es L ≠ 0) :
  ∀ a,Kn (midL place c3 c5 c12 c14 c18 c28 c29 c30 x7 x8 z9 kn en (runE s n F.length S es L) ec me) a → W Tryz.prog tp false rest4b a g (Fin Tryz.prog [.tmp 6] fun v _ => v = .bool true):=by
 have hG:=M.hx0.trans M.hx1
 have hn:(runE s n F.length S es L != 0) = true:=by simpa using h0
 have hkn:kn = 0:=by rw [M.kn_,hn]; rfl
 have hen:en = 0:=by rw [M.en_,hn]; rfl
 have hec:ec = runE s n F.length S es L:=by rw [M.e12,hn]; rfl
 have hme:Value.tuple #[ratio0,.int .i64 (runE s n F.length S es L)] = .tuple #[.agg #[.int .i64 ma,.int .i64 mb],.int .i64 me]:=by
  have:=M.mean
  unfold MeanX at this
  rw [hn] at this
  exact this
 simp only [ratio0,Value.tuple.injEq,Array.mk.injEq,List.cons.injEq,Value.agg.injEq,Value.int.injEq,true_and,and_true] at hme
 obtain ⟨⟨rfl,rfl⟩,rfl⟩:=hme
 have r12:=M.r12
 have r14:=M.r14
 have T:=M.at_
 generalize hEE:runE s n F.length S es L = E at *
 subst hkn hen hec
 rcases T with ⟨_,rfl,rfl,q⟩ | ⟨q,_⟩ | ⟨q,_⟩
 ·rw [hEE] at q
  subst q
  have e0:∀ z:Int,z ≠ 0 → (z == 0) = false:=fun z hz => by simpa using hz
  refine WL.seq <| WL.sr <| WOL.mv rfl <| WOL.bi rfl rfl ezero <| WOL.nil ?_
  rw [e0 _ h0]
  refine WL.no rfl <| WL.skip ?_
  refine WL.seq <| WL.sr <| WOL.mv rfl <| WOL.bi rfl rfl ezero <| WOL.nil ?_
  rw [e0 _ h0]
  refine WL.no rfl <| WL.skip ?_
  refine WL.seq <| WL.sr <| WOL.mv rfl <| WOL.bi rfl rfl ezero <| WOL.nil ?_
  rw [e0 _ h0]
  refine WL.no rfl <| WL.skip ?_
  refine kto (k4z H X A (s:=s) (n:=n) (r.hx hG) hE hL hF hS (A3.hx hG) (f.on hG) hEE rfl rfl rfl (M.b12.hx M.hx1) M.b28 (fun h' hx' => same_is H (G:=[]) (T:=[]) (n1:=0) (g:=g) (n:=p1) (s:=s) (f.on (hG.trans hx')) r12 (M.hx1.trans hx') hx' (fun e => absurd e h0) (fun _ => ⟨rfl,rfl⟩) (fun e => absurd e h0)) (M.b14.hx M.hx1) M.b29 (fun h' hx' => same_is H (G:=[]) (T:=[]) (n1:=0) (g:=g) (n:=n) (s:=s) (f.on (hG.trans hx')) r14 (M.hx1.trans hx') hx' (fun e => absurd e h0) (fun _ => ⟨rfl,rfl⟩) (fun e => absurd e h0)) (M.b18.hx M.hx1) M.b30) ⟨rfl,rfl,rfl,rfl,rfl,rfl,rfl,rfl,rfl,rfl,rfl,rfl,rfl,rfl,rfl,rfl,rfl,rfl,rfl,rfl,rfl,rfl,rfl,rfl,rfl,trivial⟩
 ·exact absurd (hEE ▸ q) h0
 ·exact absurd (hEE ▸ q) h0
end Go.Tidy
namespace Go.Tidy
open Go Go.Proofs Tab
variable {tp:TProg}
theorem c4_eq:c4 = .seq (.reg r4_0) (.seq (.seq (.reg r4_1) (.cond (.tmp 33) (.seq (.reg r4_2) .ret) .skip)) rest4a):=rfl
theorem short_small {s:ByteArray} {m k:Nat} (h:shortB s m k = true):m ≤ 4097 ∧ k ≤ 12:=by
 simp only [shortB,Bool.and_eq_true,Bool.or_eq_true,decide_eq_true_eq,beq_iff_eq] at h
 omega
set_option maxHeartbeats 4000000 in
set_option maxRecDepth 100000 in
theorem k4all (H:Has tp) (X:HasX tp) (A:Awk tp) {s:ByteArray} {n place p1 p2:Int} {v1 v2:Value} {F:List Nat} {S:List (Int × Int)} {h:TH} (r:RunH h v1 v2 F S) (f:Free0 h.next h) :
    CallW Tryz.prog tp (.func (.func 4) #[] #[]) #[runV s n v1 v2,.int .i64 place,.agg #[.int .i64 p1,.int .i64 p2]] h fun v _ => v = .bool true:=by
  refine CallW.fnL (H.fn 4 f4 rfl rfl) ?_
  show ∀ a,Kn _ a → W Tryz.prog tp false c4 a h _
  rw [c4_eq]
  obtain ⟨bv1,kv1,rfl⟩:=r.f.form
  obtain ⟨bv2,kv2,rfl⟩:=r.s.form
  refine WL.sr <| WOL.box rfl fun h1 N1 => ?_
  refine WOL.box rfl fun h2 N2 => ?_
  refine WOL.as rfl <| WOL.nil <| keep [(1,_),(3,_),(5,_)] ⟨rfl,rfl,rfl,trivial⟩ ?_
  have X2:=N1.hx.trans N2.hx
  have A3:=N1.at_.hx N2.hx
  refine WL.seq <| WL.sr <| WOL.ld rfl (load_row tp46 A3 rfl (Nat.le_of_ble_eq_true rfl)) ?_
  refine WOL.cl1 rfl rfl ((k23 H (s:=s) (n:=n) (r.f.hx X2) (r.s.hx X2)).mono ?_)
  rintro v h3 ⟨rfl,X3⟩
  have Y3:=X2.trans X3
  refine WOL.nt rfl <| WOL.nil ?_
  cases hb:shortB s F.length S.length with
  | false =>
    refine WL.yes rfl <| WL.sr <| WOL.cl0 rfl ((k11 A h3).mono ?_)
    rintro v h4 ⟨rfl,rfl⟩
    refine WOL.as rfl <| WOL.nil ?_
    exact WL.ret (WL.end_ rfl rfl)
  | true =>
    obtain ⟨hF,hS⟩:=short_small hb
    obtain ⟨es,hE⟩:=serr_ex F
    obtain ⟨L,hL⟩:∃ L,firstNZ es = 0 → Lev F L:=by
      by_cases h0:firstNZ es = 0
      · obtain ⟨L,hL⟩:=lev_ex F es hE (firstNZ_zero h0)
        exact ⟨L,fun _ => hL⟩
      · exact ⟨[],fun h => absurd h h0⟩
    refine WL.no rfl <| WL.skip ?_
    refine kto (k4p H X (s:=s) (n:=n) (place:=place) (p1:=p1) (p2:=p2) (r.hx Y3) hE hL (by omega) (by omega) (A3.hx X3) (N2.at_.hx X3) (f.on Y3) ?_) ⟨rfl,rfl,rfl,trivial⟩
    intro hm h' c12 c14 c18 c28 c29 c30 x7 x8 z9 kn en sx nx x1 x2 sy ny y1 y2 ec ma mb me M
    by_cases h0:runE s n F.length S es L = 0
    · exact k4v H X A (r.hx Y3) hE hL (by omega) (by omega) (A3.hx X3) (N2.at_.hx X3) (f.on Y3) M h0
    · exact k4w H X A (r.hx Y3) hE hL (by omega) (by omega) (A3.hx X3) (f.on Y3) M h0
end Go.Tidy
namespace Go.Tidy
open Go Go.Proofs Tab
attribute [local irreducible] Ty valOf
theorem law4:Law tpE 4 5 [46,3,48]:=by
 intro h us f ha
 match us,ha with
 | [a0,a1,a2],⟨⟨p0,y0,e0⟩,⟨p1,y1,e1⟩,⟨p2,y2,e2⟩,_⟩ =>
  obtain ⟨s,z,v1,v2,F,S,rfl,r⟩:=ty_run y0
  obtain ⟨place,rfl,_⟩:=ty_int y1
  obtain ⟨p,rfl⟩:=ty_span y2
  rw [val_agg (.inl ⟨_,Tryz.underlying46⟩)] at e0
  rw [val_int] at e1
  rw [val_agg (.inl ⟨_,Tryz.underlying48⟩)] at e2
  subst e0 e1 e2
  exact k4all hasE hasXE awkE (s:=s) (n:=z) r f
end Go.Tidy
