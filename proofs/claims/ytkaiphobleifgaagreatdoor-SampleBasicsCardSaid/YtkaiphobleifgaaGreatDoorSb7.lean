/- Lists of integers are compared; names, both ways. -/
import Derived.Test.YtkaiphobleifgaaGreatDoorSb6
set_option linter.all false
namespace Go.Tidy
open Go Go.Proofs Tab
variable {tp : TProg}

theorem IsInts.shape {h : TH} {sl : Value} {L : List Int} (i : IsInts h sl L) : ∃ base c, sl = .slice base L.length c ∧ (0 < L.length → ∃ b fix wr el, base = some ⟨b, 0, none⟩ ∧ h.get b = some (.cells (ints L) fix wr el)) := by
  rcases i with ⟨rfl, rfl⟩ | ⟨b, c, fix, wr, el, rfl, _, i3⟩
  · exact ⟨none, 0, rfl, fun h => by simp at h⟩
  · exact ⟨_, c, rfl, fun _ => ⟨b, fix, wr, el, rfl, i3⟩⟩

set_option maxRecDepth 100000 in
theorem k21 (H : Has tp) {s1 s2 : Value} {L M : List Int} {h : TH} (i1 : IsInts h s1 L) (i2 : IsInts h s2 M) (hl : L.length ≤ 1000000) : CallW Tryz.prog tp (.func (.func 21) #[] #[]) #[s1, s2] h fun v h' => v = .bool (decide (L = M)) ∧ h' = h := by
  obtain ⟨b1, c1, rfl, p1⟩ := i1.shape
  obtain ⟨b2, c2, rfl, p2⟩ := i2.shape
  clear i1 i2
  refine CallW.full (H.fn 21 f21 rfl rfl) rfl ?_
  refine W.seq (W.reg (WO.as rfl (WO.nil ?_)))
  refine W.seq (W.seq (W.reg (WO.mv rfl (WO.len rfl u29 (WO.mv rfl (WO.len rfl u29 (WO.bi rfl rfl rfl (WO.nil ?_))))))))
  refine W.cd rfl (OnB.way (fun hb => ?_) (fun hb => ?_))
  · refine W.seq (W.reg (WO.as rfl (WO.nil (W.ret ?_))))
    refine ⟨.inr rfl, _, rfl, ?_, rfl⟩
    show Value.bool _ = Value.bool _
    congr 1
    have hne : ¬ (L.length : Int) = M.length := by simpa using hb
    have hne : L.length ≠ M.length := by omega
    have : L ≠ M := fun e => hne (by rw [e])
    exact (decide_eq_false this).symm
  have hlen : (L.length : Int) = M.length := by simpa using hb
  have hlen : L.length = M.length := by omega
  refine W.skip ?_
  refine W.seq (W.seq (W.reg (WO.as rfl (WO.nil ?_))))
  refine W.block (W.loop (fun k a h1 => h1 = h ∧ ∃ j : Nat, j ≤ L.length ∧ k = L.length - j ∧ (∀ i, i < j → L.getD i 0 = M.getD i 0) ∧ Full 26 a ∧ Tr.get a 0 = some (.slice b1 L.length c1) ∧ Tr.get a 1 = some (.slice b2 M.length c2) ∧ Tr.get a 5 = some (.int .i64 (j : Nat)))
    ?_ L.length _ h ⟨rfl, 0, by omega, by omega, fun i hi => by omega, (by repeat (first | with_reducible refine Full.put ?_ (by decide) _ | with_reducible refine Full.putn ?_ _ | with_reducible exact Full.of _ _ rfl | with_reducible exact Full.start _ _ (Nat.le_of_ble_eq_true rfl) | exact Full.start _ _ (Nat.le_of_ble_eq_true rfl))), rfl, rfl, rfl⟩)
  rintro k a h1 ⟨rfl, j, hj, rfl, hz, hf, i0, i1, i5⟩
  (obtain ⟨rl0, hrl0, rfl⟩ := hf; obtain ⟨s0, rl1, rfl, hrl1⟩ := cons_of hrl0; obtain ⟨s1, rl2, rfl, hrl2⟩ := cons_of hrl1; obtain ⟨s2, rl3, rfl, hrl3⟩ := cons_of hrl2; obtain ⟨s3, rl4, rfl, hrl4⟩ := cons_of hrl3; obtain ⟨s4, rl5, rfl, hrl5⟩ := cons_of hrl4; obtain ⟨s5, rl6, rfl, hrl6⟩ := cons_of hrl5; obtain ⟨s6, rl7, rfl, hrl7⟩ := cons_of hrl6; obtain ⟨s7, rl8, rfl, hrl8⟩ := cons_of hrl7; obtain ⟨s8, rl9, rfl, hrl9⟩ := cons_of hrl8; obtain ⟨s9, rl10, rfl, hrl10⟩ := cons_of hrl9; obtain ⟨s10, rl11, rfl, hrl11⟩ := cons_of hrl10; obtain ⟨s11, rl12, rfl, hrl12⟩ := cons_of hrl11; obtain ⟨s12, rl13, rfl, hrl13⟩ := cons_of hrl12; obtain ⟨s13, rl14, rfl, hrl14⟩ := cons_of hrl13; obtain ⟨s14, rl15, rfl, hrl15⟩ := cons_of hrl14; obtain ⟨s15, rl16, rfl, hrl16⟩ := cons_of hrl15; obtain ⟨s16, rl17, rfl, hrl17⟩ := cons_of hrl16; obtain ⟨s17, rl18, rfl, hrl18⟩ := cons_of hrl17; obtain ⟨s18, rl19, rfl, hrl19⟩ := cons_of hrl18; obtain ⟨s19, rl20, rfl, hrl20⟩ := cons_of hrl19; obtain ⟨s20, rl21, rfl, hrl21⟩ := cons_of hrl20; obtain ⟨s21, rl22, rfl, hrl22⟩ := cons_of hrl21; obtain ⟨s22, rl23, rfl, hrl23⟩ := cons_of hrl22; obtain ⟨s23, rl24, rfl, hrl24⟩ := cons_of hrl23; obtain ⟨s24, rl25, rfl, hrl25⟩ := cons_of hrl24; obtain ⟨s25, rl26, rfl, hrl26⟩ := cons_of hrl25; obtain rfl := nil_of hrl26; clear hrl0 hrl1 hrl2 hrl3 hrl4 hrl5 hrl6 hrl7 hrl8 hrl9 hrl10 hrl11 hrl12 hrl13 hrl14 hrl15 hrl16 hrl17 hrl18 hrl19 hrl20 hrl21 hrl22 hrl23 hrl24 hrl25 hrl26; obtain rfl : s0 = _ := Option.some.inj (show some s0 = some _ from i0); clear i0; obtain rfl : s1 = _ := Option.some.inj (show some s1 = some _ from i1); clear i1; obtain rfl : s5 = _ := Option.some.inj (show some s5 = some _ from i5); clear i5)
  refine W.seq (W.seq (W.reg (WO.mv rfl (WO.mv rfl (WO.len rfl u29 (WO.bi rfl rfl rfl (WO.nil ?_)))))))
  refine W.cd rfl ?_
  by_cases hlt : j < L.length
  · have hd : decide ((j : Int) < (L.length : Int)) = true := by simpa using hlt
    rw [hd]
    refine OnB.yes (W.skip ?_)
    obtain ⟨b1, x1, x2, x3, rfl, g1⟩ := p1 (by omega)
    obtain ⟨b2, y1, y2, y3, rfl, g2⟩ := p2 (by omega)
    refine W.seq (W.block (W.seq (W.reg ?_)))
    refine WO.mv rfl (WO.mv rfl (WO.ix rfl rfl (indexAddr_sl u29 sc3 (by omega) (by omega)) (WO.ld rfl (load_sc sc3 g1 (ints_get (k := 0 + (j : Int).toNat) (by omega))) ?_)))
    refine WO.mv rfl (WO.mv rfl (WO.ix rfl rfl (indexAddr_sl u29 sc3 (by omega) (by omega)) (WO.ld rfl (load_sc sc3 g2 (ints_get (k := 0 + (j : Int).toNat) (by omega))) ?_)))
    refine WO.bi rfl rfl rfl (WO.nil ?_)
    have ej : 0 + (j : Int).toNat = j := by omega
    refine W.cd rfl (OnB.way (fun hb => ?_) (fun hb => ?_))
    · refine W.seq (W.reg (WO.as rfl (WO.nil (W.ret ?_))))
      refine ⟨.inr rfl, _, rfl, ?_, rfl⟩
      show Value.bool _ = Value.bool _
      congr 1
      rw [ej] at hb
      have hne : L.getD j 0 ≠ M.getD j 0 := by simpa using hb
      have : L ≠ M := fun e => hne (by rw [e])
      exact (decide_eq_false this).symm
    · refine W.skip ?_
      refine W.reg (WO.mv rfl (WO.bi rfl rfl (add_ok j (by omega)) (WO.as rfl (WO.nil ?_))))
      refine ⟨L.length - (j + 1), by omega, rfl, j + 1, by omega, rfl, fun i hi => ?_, (by repeat (first | with_reducible refine Full.put ?_ (by decide) _ | with_reducible refine Full.putn ?_ _ | with_reducible exact Full.of _ _ rfl | with_reducible exact Full.start _ _ (Nat.le_of_ble_eq_true rfl) | exact Full.start _ _ (Nat.le_of_ble_eq_true rfl))), rfl, rfl, rfl⟩
      by_cases e : i = j
      · subst e; rw [ej] at hb; simpa using hb
      · exact hz i (by omega)
  · have hd : decide ((j : Int) < (L.length : Int)) = false := by simpa using hlt
    rw [hd]
    refine OnB.no (W.exit ?_)
    refine W.seq (W.reg (WO.as rfl (WO.nil (W.ret ?_))))
    refine ⟨.inr rfl, _, rfl, ?_, rfl⟩
    show Value.bool _ = Value.bool _
    congr 1
    obtain rfl : j = L.length := by omega
    have : L = M := by
      apply List.ext_getElem hlen
      intro i h1 h2
      have := hz i h1
      simpa [List.getD_eq_getElem?_getD, List.getElem?_eq_getElem h1, List.getElem?_eq_getElem h2] using this
    exact (decide_eq_true this).symm
end Go.Tidy
