/- Names, in bytes. -/
import Derived.Test.YtkaiphobleifgaaGreatDoorSb8
set_option linter.all false
namespace Go.Tidy
open Go Go.Proofs Tab
variable {tp : TProg}

set_option maxRecDepth 100000 in
set_option maxHeartbeats 1000000 in
theorem k20 (H : Has tp) (s : ByteArray) (h : TH) : CallW Tryz.prog tp (.func (.func 20) #[] #[]) #[.string s] h fun v h' => v = .bool (nameB s) ∧ h' = h := by
  refine CallW.full (H.fn 20 f20 rfl rfl) rfl ?_
  refine W.seq (W.reg (WO.as rfl (WO.nil ?_)))
  refine W.seq (W.seq (W.reg (WO.mv rfl (WO.lenS rfl u9 (WO.bi rfl rfl rfl ?_)))))
  by_cases hs : s.size = 0
  · have hd : ((s.size : Int) == 0) = true := by simp [hs]
    rw [hd]
    repeat' (first
    | refine WO.mv rfl ?_ | refine WO.as rfl ?_ | refine WO.bi rfl rfl rfl ?_
    | refine WO.nil ?_
    | refine W.seq ?_ | refine W.reg ?_ | refine W.ret ?_ | refine W.skip ?_ | refine W.exit ?_ | refine W.block ?_
    | refine WO.nt rfl ?_
    | with_reducible refine OnB.yes ?_ | with_reducible refine OnB.no ?_ | with_reducible refine OnB.way (fun hb => ?_) (fun hb => ?_)
    | refine WO.gu rfl rfl ?_ | refine WO.gt rfl rfl ?_ | refine WO.gf rfl rfl ?_
    | refine WO.pk rfl rfl rfl ?_
    | refine W.cd rfl ?_)
    refine ⟨.inr rfl, _, rfl, ?_, rfl⟩
    show Value.bool _ = Value.bool _
    simp [nameB, hs]
  have hd : ((s.size : Int) == 0) = false := by simp only [beq_eq_false_iff_ne, ne_eq]; omega
  rw [hd]
  by_cases h24 : s.size ≤ 24
  rotate_left
  · repeat' (first
    | refine WO.mv rfl ?_ | refine WO.as rfl ?_ | refine WO.bi rfl rfl rfl ?_
    | refine WO.nil ?_
    | refine W.seq ?_ | refine W.reg ?_ | refine W.ret ?_ | refine W.skip ?_ | refine W.exit ?_ | refine W.block ?_
    | refine WO.nt rfl ?_
    | (refine WO.lenS rfl u9 ?_)
    | with_reducible refine OnB.yes ?_ | with_reducible refine OnB.no ?_ | with_reducible refine OnB.way (fun hb => ?_) (fun hb => ?_)
    | refine WO.gu rfl rfl ?_ | refine WO.gt rfl rfl ?_ | refine WO.gf rfl rfl ?_
    | refine WO.pk rfl rfl rfl ?_
    | refine W.cd rfl ?_)
    · refine ⟨.inr rfl, _, rfl, ?_, rfl⟩
      show Value.bool _ = Value.bool _
      simp [nameB, h24]
    all_goals (have : (s.size : Int) ≤ 24 := by simpa using hb
               omega)
  have hd2 : decide ((s.size : Int) > 24) = false := by simp; omega
  refine WO.mv rfl (WO.gf rfl rfl (OnB.no (WO.mv rfl (WO.gf rfl rfl (OnB.no (WO.lenS rfl u9 (WO.gf rfl rfl (OnB.no (WO.bi rfl rfl rfl ?_)))))))))
  rw [hd2]
  repeat' (first
    | refine WO.mv rfl ?_ | refine WO.as rfl ?_ | refine WO.bi rfl rfl rfl ?_
    | refine WO.nil ?_
    | refine W.seq ?_ | refine W.reg ?_ | refine W.ret ?_ | refine W.skip ?_ | refine W.exit ?_ | refine W.block ?_
    | refine WO.nt rfl ?_
    | (refine WO.lenS rfl u9 ?_)
    | (refine WO.si (j := 0) rfl rfl u9 (by omega) ?_; rw [byteAt_get])
    | (refine WO.cl1 rfl rfl ?_; refine (k93 H _ _).mono ?_; rintro v h ⟨rfl, rfl⟩)
    | with_reducible refine OnB.yes ?_ | with_reducible refine OnB.no ?_ | with_reducible refine OnB.way (fun hb => ?_) (fun hb => ?_)
    | refine WO.gu rfl rfl ?_ | refine WO.gt rfl rfl ?_ | refine WO.gf rfl rfl ?_
    | refine WO.pk rfl rfl rfl ?_
    | refine W.cd rfl ?_)
  · refine ⟨.inr rfl, _, rfl, ?_, rfl⟩
    show Value.bool _ = Value.bool _
    rw [name_no (j := 0) (by omega) (by unfold okAt; simpa using hb)]
  have h0 : okAt s 0 = true := by unfold okAt; simpa using hb
  refine (W.loop (fun k a h1 => h1 = h ∧ ∃ p : Nat, 1 ≤ p ∧ p ≤ s.size ∧ k = s.size - p ∧ (∀ j, j < p → okAt s j = true) ∧ Full 42 a ∧ Tr.get a 0 = some (.string s) ∧ Tr.get a 3 = some (.int .i64 (p : Nat)))
    ?_ (s.size - 1) _ h ⟨rfl, 1, by omega, by omega, rfl, fun j hj => by obtain rfl : j = 0 := by omega
                                                                         exact h0, (by repeat (first | with_reducible refine Full.put ?_ (by decide) _ | with_reducible refine Full.putn ?_ _ | with_reducible exact Full.of _ _ rfl | with_reducible exact Full.start _ _ (Nat.le_of_ble_eq_true rfl) | exact Full.start _ _ (Nat.le_of_ble_eq_true rfl))), rfl, rfl⟩)
  clear hb
  rintro k a h1 ⟨rfl, p, hp1, hp, rfl, hok, hf, i0, i3⟩
  (obtain ⟨rl0, hrl0, rfl⟩ := hf; obtain ⟨s0, rl1, rfl, hrl1⟩ := cons_of hrl0; obtain ⟨s1, rl2, rfl, hrl2⟩ := cons_of hrl1; obtain ⟨s2, rl3, rfl, hrl3⟩ := cons_of hrl2; obtain ⟨s3, rl4, rfl, hrl4⟩ := cons_of hrl3; obtain ⟨s4, rl5, rfl, hrl5⟩ := cons_of hrl4; obtain ⟨s5, rl6, rfl, hrl6⟩ := cons_of hrl5; obtain ⟨s6, rl7, rfl, hrl7⟩ := cons_of hrl6; obtain ⟨s7, rl8, rfl, hrl8⟩ := cons_of hrl7; obtain ⟨s8, rl9, rfl, hrl9⟩ := cons_of hrl8; obtain ⟨s9, rl10, rfl, hrl10⟩ := cons_of hrl9; obtain ⟨s10, rl11, rfl, hrl11⟩ := cons_of hrl10; obtain ⟨s11, rl12, rfl, hrl12⟩ := cons_of hrl11; obtain ⟨s12, rl13, rfl, hrl13⟩ := cons_of hrl12; obtain ⟨s13, rl14, rfl, hrl14⟩ := cons_of hrl13; obtain ⟨s14, rl15, rfl, hrl15⟩ := cons_of hrl14; obtain ⟨s15, rl16, rfl, hrl16⟩ := cons_of hrl15; obtain ⟨s16, rl17, rfl, hrl17⟩ := cons_of hrl16; obtain ⟨s17, rl18, rfl, hrl18⟩ := cons_of hrl17; obtain ⟨s18, rl19, rfl, hrl19⟩ := cons_of hrl18; obtain ⟨s19, rl20, rfl, hrl20⟩ := cons_of hrl19; obtain ⟨s20, rl21, rfl, hrl21⟩ := cons_of hrl20; obtain ⟨s21, rl22, rfl, hrl22⟩ := cons_of hrl21; obtain ⟨s22, rl23, rfl, hrl23⟩ := cons_of hrl22; obtain ⟨s23, rl24, rfl, hrl24⟩ := cons_of hrl23; obtain ⟨s24, rl25, rfl, hrl25⟩ := cons_of hrl24; obtain ⟨s25, rl26, rfl, hrl26⟩ := cons_of hrl25; obtain ⟨s26, rl27, rfl, hrl27⟩ := cons_of hrl26; obtain ⟨s27, rl28, rfl, hrl28⟩ := cons_of hrl27; obtain ⟨s28, rl29, rfl, hrl29⟩ := cons_of hrl28; obtain ⟨s29, rl30, rfl, hrl30⟩ := cons_of hrl29; obtain ⟨s30, rl31, rfl, hrl31⟩ := cons_of hrl30; obtain ⟨s31, rl32, rfl, hrl32⟩ := cons_of hrl31; obtain ⟨s32, rl33, rfl, hrl33⟩ := cons_of hrl32; obtain ⟨s33, rl34, rfl, hrl34⟩ := cons_of hrl33; obtain ⟨s34, rl35, rfl, hrl35⟩ := cons_of hrl34; obtain ⟨s35, rl36, rfl, hrl36⟩ := cons_of hrl35; obtain ⟨s36, rl37, rfl, hrl37⟩ := cons_of hrl36; obtain ⟨s37, rl38, rfl, hrl38⟩ := cons_of hrl37; obtain ⟨s38, rl39, rfl, hrl39⟩ := cons_of hrl38; obtain ⟨s39, rl40, rfl, hrl40⟩ := cons_of hrl39; obtain ⟨s40, rl41, rfl, hrl41⟩ := cons_of hrl40; obtain ⟨s41, rl42, rfl, hrl42⟩ := cons_of hrl41; obtain rfl := nil_of hrl42; clear hrl0 hrl1 hrl2 hrl3 hrl4 hrl5 hrl6 hrl7 hrl8 hrl9 hrl10 hrl11 hrl12 hrl13 hrl14 hrl15 hrl16 hrl17 hrl18 hrl19 hrl20 hrl21 hrl22 hrl23 hrl24 hrl25 hrl26 hrl27 hrl28 hrl29 hrl30 hrl31 hrl32 hrl33 hrl34 hrl35 hrl36 hrl37 hrl38 hrl39 hrl40 hrl41 hrl42; obtain rfl : s0 = _ := Option.some.inj (show some s0 = some _ from i0); clear i0; obtain rfl : s3 = _ := Option.some.inj (show some s3 = some _ from i3); clear i3)
  refine W.seq (W.seq (W.reg (WO.mv rfl (WO.mv rfl (WO.lenS rfl u9 (WO.bi rfl rfl rfl (WO.nil ?_)))))))
  refine W.cd rfl ?_
  by_cases hlt : p < s.size
  · have hd3 : decide ((p : Int) < (s.size : Int)) = true := by simpa using hlt
    rw [hd3]
    refine OnB.yes (W.skip ?_)
    refine W.seq (W.block (W.seq (W.reg ?_)))
    have hokc : okAt s p = (isL (byteAt s p) || (isD (byteAt s p) || byteAt s p == 95)) := by
      unfold okAt
      have : decide (p ≠ 0) = true := by simp; omega
      rw [this, Bool.true_and]
    repeat' (first
    | refine WO.mv rfl ?_ | refine WO.as rfl ?_ | refine WO.bi rfl rfl rfl ?_
    | refine WO.nil ?_
    | refine W.seq ?_ | refine W.reg ?_ | refine W.ret ?_ | refine W.skip ?_ | refine W.exit ?_ | refine W.block ?_
    | refine WO.nt rfl ?_
    | (refine WO.si (j := p) rfl rfl u9 hlt ?_; rw [byteAt_get])
    | (refine WO.cl1 rfl rfl ?_; refine (k93 H _ _).mono ?_; rintro v h1 ⟨rfl, rfl⟩)
    | (refine WO.cl1 rfl rfl ?_; refine (k94 H _ _).mono ?_; rintro v h1 ⟨rfl, rfl⟩)
    | with_reducible refine OnB.yes ?_ | with_reducible refine OnB.no ?_ | with_reducible refine OnB.way (fun hb => ?_) (fun hb => ?_)
    | refine WO.gu rfl rfl ?_ | refine WO.gt rfl rfl ?_ | refine WO.gf rfl rfl ?_
    | refine WO.pk rfl rfl rfl ?_
    | refine W.cd rfl ?_)
    all_goals first
      | (refine ⟨.inr rfl, _, rfl, ?_, rfl⟩
         show Value.bool _ = Value.bool _
         rw [name_no hlt (by rw [hokc]; clear hok hokc hs hd hd2 h0 h24 hd3; simp_all)])
      | (have hy : okAt s p = true := by rw [hokc]; clear hok hokc hs hd hd2 h0 h24 hd3; simp_all
         exact ⟨s.size - (p + 1), by omega, rfl, p + 1, by omega, by omega, rfl, fun j hj => by
           by_cases e : j = p
           · subst e; exact hy
           · exact hok j (by omega), (by repeat (first | with_reducible refine Full.put ?_ (by decide) _ | with_reducible refine Full.putn ?_ _ | with_reducible exact Full.of _ _ rfl | with_reducible exact Full.start _ _ (Nat.le_of_ble_eq_true rfl) | exact Full.start _ _ (Nat.le_of_ble_eq_true rfl))), rfl, by show some (Value.int .i64 (fwrap .i64 ((p : Int) + 1))) = _; rw [fwrap_i64 (by omega) (by omega)]; rfl⟩)
  · have hd3 : decide ((p : Int) < (s.size : Int)) = false := by simpa using hlt
    rw [hd3]
    refine OnB.no (W.exit ?_)
    refine W.seq (W.reg (WO.as rfl (WO.nil (W.ret ?_))))
    refine ⟨.inr rfl, _, rfl, ?_, rfl⟩
    show Value.bool _ = Value.bool _
    rw [name_yes (by omega) h24 fun j hj => hok j (by omega)]
end Go.Tidy
