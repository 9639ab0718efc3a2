/- The first number of a list that is not 0. -/
import Derived.Test.YtkaiphobleifgaaGreatDoorSb1
import Derived.Test.YtkaiphobleifgaaGreatDoorTd5
set_option linter.all false
namespace Go.Tidy
open Go Go.Proofs Tab
variable {tp : TProg}

theorem sc3 : Sc Tryz.prog 3 (.int .i64 0) := sc_of (by kernel_rfl) (by kernel_rfl) rfl
theorem sc30 : Sc Tryz.prog 30 (.int .i64 0) := sc_of (by kernel_rfl) (by kernel_rfl) rfl
theorem u29 : Tryz.prog.underlying 29 = some (.slice 3) := by kernel_rfl
theorem u195 : Tryz.prog.underlying 195 = some (.slice 30) := by kernel_rfl

def firstNZ : List Int → Int
  | [] => 0
  | x :: r => cond (x != 0) x (firstNZ r)
theorem firstNZ_drop {l : List Int} : ∀ {k : Nat}, (∀ j, j < k → l.getD j 0 = 0) → firstNZ l = firstNZ (l.drop k) := by
  intro k
  induction k generalizing l with
  | zero => intro _; rfl
  | succ k ih =>
    intro h
    cases l with
    | nil => rfl
    | cons x r =>
      have h0 : x = 0 := by simpa using h 0 (by omega)
      subst h0
      simp only [firstNZ, List.drop_succ_cons]
      exact ih fun j hj => by simpa using h (j + 1) (by omega)


theorem k89 (H : Has tp) {l : List Int} {b c : Nat} {fix wr : Bool} {el : TypeId} {h : TH} (hg : h.get b = some (.cells (l.map (.int .i64)) fix wr el)) (hl : l.length ≤ 1000000) :
    CallW Tryz.prog tp (.func (.func 89) #[] #[]) #[.slice (some ⟨b, 0, none⟩) l.length c] h fun v h' => v = .int .i64 (firstNZ l) ∧ h' = h := by
  refine CallW.full (H.fn 89 f89 rfl rfl) rfl ?_
  refine W.seq (W.reg (WO.as rfl (WO.nil ?_)))
  refine W.seq (W.seq (W.reg (WO.mv rfl (WO.len rfl u195 (WO.mv rfl (WO.nil ?_))))))
  refine W.block (W.loop (fun k a h1 => h1 = h ∧ ∃ j : Nat, j ≤ l.length ∧ k = l.length - j ∧ (∀ i, i < j → l.getD i 0 = 0) ∧ Full 15 a ∧ Tr.get a 5 = some (.slice (some ⟨b, 0, none⟩) l.length c) ∧ Tr.get a 6 = some (.int .i64 l.length) ∧ Tr.get a 7 = some (.int .i64 (j : Nat)))
    ?_ l.length _ h ⟨rfl, 0, by omega, by omega, fun i hi => by omega, (by repeat (first | with_reducible refine Full.put ?_ (by decide) _ | with_reducible refine Full.putn ?_ _ | with_reducible exact Full.of _ _ rfl | with_reducible exact Full.start _ _ (Nat.le_of_ble_eq_true rfl) | exact Full.start _ _ (Nat.le_of_ble_eq_true rfl))), rfl, rfl, rfl⟩)
  rintro k a h1 ⟨rfl, j, hj, rfl, hz, hf, h5, h6, h7⟩
  (obtain ⟨rl0, hrl0, rfl⟩ := hf; obtain ⟨s0, rl1, rfl, hrl1⟩ := cons_of hrl0; obtain ⟨s1, rl2, rfl, hrl2⟩ := cons_of hrl1; obtain ⟨s2, rl3, rfl, hrl3⟩ := cons_of hrl2; obtain ⟨s3, rl4, rfl, hrl4⟩ := cons_of hrl3; obtain ⟨s4, rl5, rfl, hrl5⟩ := cons_of hrl4; obtain ⟨s5, rl6, rfl, hrl6⟩ := cons_of hrl5; obtain ⟨s6, rl7, rfl, hrl7⟩ := cons_of hrl6; obtain ⟨s7, rl8, rfl, hrl8⟩ := cons_of hrl7; obtain ⟨s8, rl9, rfl, hrl9⟩ := cons_of hrl8; obtain ⟨s9, rl10, rfl, hrl10⟩ := cons_of hrl9; obtain ⟨s10, rl11, rfl, hrl11⟩ := cons_of hrl10; obtain ⟨s11, rl12, rfl, hrl12⟩ := cons_of hrl11; obtain ⟨s12, rl13, rfl, hrl13⟩ := cons_of hrl12; obtain ⟨s13, rl14, rfl, hrl14⟩ := cons_of hrl13; obtain ⟨s14, rl15, rfl, hrl15⟩ := cons_of hrl14; obtain rfl := nil_of hrl15; clear hrl0 hrl1 hrl2 hrl3 hrl4 hrl5 hrl6 hrl7 hrl8 hrl9 hrl10 hrl11 hrl12 hrl13 hrl14 hrl15; obtain rfl : s5 = _ := Option.some.inj (show some s5 = some _ from h5); clear h5; obtain rfl : s6 = _ := Option.some.inj (show some s6 = some _ from h6); clear h6; obtain rfl : s7 = _ := Option.some.inj (show some s7 = some _ from h7); clear h7)
  refine W.seq (W.reg (WO.bi rfl rfl rfl (WO.nil ?_)))
  refine W.seq (W.cd rfl ?_)
  by_cases hlt : j < l.length
  · have hd : decide ((j : Int) < (l.length : Int)) = true := by simpa using hlt
    rw [hd]
    refine OnB.yes (W.skip ?_)
    have hv : (l.map (Value.int .i64))[0 + (j : Int).toNat]? = some (.int .i64 (l.getD j 0)) := by
      simp [List.getElem?_map, List.getElem?_eq_getElem hlt, List.getD_eq_getElem?_getD]
    refine W.seq (W.block (W.seq (W.reg ?_)))
    refine WO.ix rfl rfl (indexAddr_sl u195 sc30 (by omega) (by omega)) ?_
    refine WO.ld rfl (load_sc sc30 hg hv) ?_
    refine WO.as rfl (WO.nil ?_)
    refine W.seq (W.reg (WO.mv rfl (WO.bi rfl rfl rfl (WO.nil ?_))))
    refine W.cd rfl (OnB.way (fun hb => ?_) (fun hb => ?_))
    · repeat' (first
    | refine WO.mv rfl ?_ | refine WO.as rfl ?_ | refine WO.bi rfl rfl rfl ?_
    | refine WO.nil ?_
    | refine W.seq ?_ | refine W.reg ?_ | refine W.ret ?_ | refine W.skip ?_ | refine W.exit ?_ | refine W.block ?_
    | refine WO.nt rfl ?_
    | with_reducible refine OnB.yes ?_ | with_reducible refine OnB.no ?_ | with_reducible refine OnB.way (fun hb => ?_) (fun hb => ?_)
    | refine WO.gu rfl rfl ?_ | refine WO.gt rfl rfl ?_ | refine WO.gf rfl rfl ?_
    | refine WO.pk rfl rfl rfl ?_
    | refine W.cd rfl ?_)
      refine ⟨.inr rfl, _, rfl, ?_, rfl⟩
      show Value.int _ _ = Value.int _ _
      congr 1
      rw [firstNZ_drop hz, List.drop_eq_getElem_cons hlt]
      have he : l.getD j 0 = l[j] := by simp [List.getD_eq_getElem?_getD, List.getElem?_eq_getElem hlt]
      rw [he] at hb
      simp only [firstNZ, hb, Bool.cond_true]
      exact he
    · refine W.skip ?_
      refine W.reg (WO.bi rfl rfl rfl (WO.mv rfl (WO.nil ?_)))
      refine ⟨l.length - (j + 1), by omega, rfl, j + 1, by omega, rfl, fun i hi => ?_, (by repeat (first | with_reducible refine Full.put ?_ (by decide) _ | with_reducible refine Full.putn ?_ _ | with_reducible exact Full.of _ _ rfl | with_reducible exact Full.start _ _ (Nat.le_of_ble_eq_true rfl) | exact Full.start _ _ (Nat.le_of_ble_eq_true rfl))), rfl, rfl, ?_⟩
      · by_cases e : i = j
        · subst e; simpa using hb
        · exact hz i (by omega)
      · rw [fwrap_i64 (by omega) (by omega)]
        rfl
  · have hd : decide ((j : Int) < (l.length : Int)) = false := by simpa using hlt
    rw [hd]
    refine OnB.no (W.exit ?_)
    repeat' (first
    | refine WO.mv rfl ?_ | refine WO.as rfl ?_ | refine WO.bi rfl rfl rfl ?_
    | refine WO.nil ?_
    | refine W.seq ?_ | refine W.reg ?_ | refine W.ret ?_ | refine W.skip ?_ | refine W.exit ?_ | refine W.block ?_
    | refine WO.nt rfl ?_
    | with_reducible refine OnB.yes ?_ | with_reducible refine OnB.no ?_ | with_reducible refine OnB.way (fun hb => ?_) (fun hb => ?_)
    | refine WO.gu rfl rfl ?_ | refine WO.gt rfl rfl ?_ | refine WO.gf rfl rfl ?_
    | refine WO.pk rfl rfl rfl ?_
    | refine W.cd rfl ?_)
    refine ⟨.inr rfl, _, rfl, ?_, rfl⟩
    show Value.int _ _ = Value.int _ _
    congr 1
    obtain rfl : j = l.length := by omega
    rw [firstNZ_drop hz, List.drop_length]
    rfl

theorem k16 (H : Has tp) {l : List Int} {b c : Nat} {fix wr : Bool} {el : TypeId} {h : TH} (hg : h.get b = some (.cells (l.map (.int .i64)) fix wr el)) (hl : l.length ≤ 1000000) :
    CallW Tryz.prog tp (.func (.func 16) #[] #[]) #[.slice (some ⟨b, 0, none⟩) l.length c] h fun v h' => v = .int .i64 (firstNZ l) ∧ h' = h := by
  refine CallW.full (H.fn 16 f16 rfl rfl) rfl ?_
  refine W.seq (W.reg (WO.as rfl (WO.nil ?_)))
  refine W.seq (W.seq (W.reg (WO.as rfl (WO.nil ?_))))
  refine W.block (W.loop (fun k a h1 => h1 = h ∧ ∃ j : Nat, j ≤ l.length ∧ k = l.length - j ∧ (∀ i, i < j → l.getD i 0 = 0) ∧ Full 19 a ∧ Tr.get a 0 = some (.slice (some ⟨b, 0, none⟩) l.length c) ∧ Tr.get a 3 = some (.int .i64 (j : Nat)))
    ?_ l.length _ h ⟨rfl, 0, by omega, by omega, fun i hi => by omega, (by repeat (first | with_reducible refine Full.put ?_ (by decide) _ | with_reducible refine Full.putn ?_ _ | with_reducible exact Full.of _ _ rfl | with_reducible exact Full.start _ _ (Nat.le_of_ble_eq_true rfl) | exact Full.start _ _ (Nat.le_of_ble_eq_true rfl))), rfl, rfl⟩)
  rintro k a h1 ⟨rfl, j, hj, rfl, hz, hf, h0, h3⟩
  (obtain ⟨rl0, hrl0, rfl⟩ := hf; obtain ⟨s0, rl1, rfl, hrl1⟩ := cons_of hrl0; obtain ⟨s1, rl2, rfl, hrl2⟩ := cons_of hrl1; obtain ⟨s2, rl3, rfl, hrl3⟩ := cons_of hrl2; obtain ⟨s3, rl4, rfl, hrl4⟩ := cons_of hrl3; obtain ⟨s4, rl5, rfl, hrl5⟩ := cons_of hrl4; obtain ⟨s5, rl6, rfl, hrl6⟩ := cons_of hrl5; obtain ⟨s6, rl7, rfl, hrl7⟩ := cons_of hrl6; obtain ⟨s7, rl8, rfl, hrl8⟩ := cons_of hrl7; obtain ⟨s8, rl9, rfl, hrl9⟩ := cons_of hrl8; obtain ⟨s9, rl10, rfl, hrl10⟩ := cons_of hrl9; obtain ⟨s10, rl11, rfl, hrl11⟩ := cons_of hrl10; obtain ⟨s11, rl12, rfl, hrl12⟩ := cons_of hrl11; obtain ⟨s12, rl13, rfl, hrl13⟩ := cons_of hrl12; obtain ⟨s13, rl14, rfl, hrl14⟩ := cons_of hrl13; obtain ⟨s14, rl15, rfl, hrl15⟩ := cons_of hrl14; obtain ⟨s15, rl16, rfl, hrl16⟩ := cons_of hrl15; obtain ⟨s16, rl17, rfl, hrl17⟩ := cons_of hrl16; obtain ⟨s17, rl18, rfl, hrl18⟩ := cons_of hrl17; obtain ⟨s18, rl19, rfl, hrl19⟩ := cons_of hrl18; obtain rfl := nil_of hrl19; clear hrl0 hrl1 hrl2 hrl3 hrl4 hrl5 hrl6 hrl7 hrl8 hrl9 hrl10 hrl11 hrl12 hrl13 hrl14 hrl15 hrl16 hrl17 hrl18 hrl19; obtain rfl : s0 = _ := Option.some.inj (show some s0 = some _ from h0); clear h0; obtain rfl : s3 = _ := Option.some.inj (show some s3 = some _ from h3); clear h3)
  refine W.seq (W.seq (W.reg (WO.mv rfl (WO.mv rfl (WO.len rfl u29 (WO.bi rfl rfl rfl (WO.nil ?_)))))))
  refine W.cd rfl ?_
  by_cases hlt : j < l.length
  · have hd : decide ((j : Int) < (l.length : Int)) = true := by simpa using hlt
    rw [hd]
    refine OnB.yes (W.skip ?_)
    have hv : (l.map (Value.int .i64))[0 + (j : Int).toNat]? = some (.int .i64 (l.getD j 0)) := by
      simp [List.getElem?_map, List.getElem?_eq_getElem hlt, List.getD_eq_getElem?_getD]
    refine W.seq (W.block (W.seq (W.reg ?_)))
    refine WO.mv rfl (WO.mv rfl (WO.ix rfl rfl (indexAddr_sl u29 sc3 (by omega) (by omega)) ?_))
    refine WO.ld rfl (load_sc sc3 hg hv) ?_
    refine WO.bi rfl rfl rfl (WO.nil ?_)
    refine W.cd rfl (OnB.way (fun hb => ?_) (fun hb => ?_))
    · refine W.seq (W.reg ?_)
      refine WO.mv rfl (WO.mv rfl (WO.ix rfl rfl (indexAddr_sl u29 sc3 (by omega) (by omega)) ?_))
      refine WO.ld rfl (load_sc sc3 hg hv) ?_
      refine WO.as rfl (WO.nil (W.ret ?_))
      refine ⟨.inr rfl, _, rfl, ?_, rfl⟩
      show Value.int _ _ = Value.int _ _
      congr 1
      rw [firstNZ_drop hz, List.drop_eq_getElem_cons hlt]
      have he : l.getD j 0 = l[j] := by simp [List.getD_eq_getElem?_getD, List.getElem?_eq_getElem hlt]
      rw [he] at hb
      simp only [firstNZ, hb, Bool.cond_true]
      exact he
    · refine W.skip ?_
      refine W.reg (WO.mv rfl (WO.bi rfl rfl rfl (WO.as rfl (WO.nil ?_))))
      refine ⟨l.length - (j + 1), by omega, rfl, j + 1, by omega, rfl, fun i hi => ?_, (by repeat (first | with_reducible refine Full.put ?_ (by decide) _ | with_reducible refine Full.putn ?_ _ | with_reducible exact Full.of _ _ rfl | with_reducible exact Full.start _ _ (Nat.le_of_ble_eq_true rfl) | exact Full.start _ _ (Nat.le_of_ble_eq_true rfl))), rfl, ?_⟩
      · by_cases e : i = j
        · subst e; simpa using hb
        · exact hz i (by omega)
      · rw [fwrap_i64 (by omega) (by omega)]
        rfl
  · have hd : decide ((j : Int) < (l.length : Int)) = false := by simpa using hlt
    rw [hd]
    refine OnB.no (W.exit ?_)
    repeat' (first
    | refine WO.mv rfl ?_ | refine WO.as rfl ?_ | refine WO.bi rfl rfl rfl ?_
    | refine WO.nil ?_
    | refine W.seq ?_ | refine W.reg ?_ | refine W.ret ?_ | refine W.skip ?_ | refine W.exit ?_ | refine W.block ?_
    | refine WO.nt rfl ?_
    | with_reducible refine OnB.yes ?_ | with_reducible refine OnB.no ?_ | with_reducible refine OnB.way (fun hb => ?_) (fun hb => ?_)
    | refine WO.gu rfl rfl ?_ | refine WO.gt rfl rfl ?_ | refine WO.gf rfl rfl ?_
    | refine WO.pk rfl rfl rfl ?_
    | refine W.cd rfl ?_)
    refine ⟨.inr rfl, _, rfl, ?_, rfl⟩
    show Value.int _ _ = Value.int _ _
    congr 1
    obtain rfl : j = l.length := by omega
    rw [firstNZ_drop hz, List.drop_length]
    rfl
end Go.Tidy
