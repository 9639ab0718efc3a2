/- Names, both ways. -/
import Derived.Test.YtkaiphobleifgaaGreatDoorSb7
import Derived.Laws.Strings
set_option linter.all false
namespace Go.Tidy
open Go Go.Proofs Tab
variable {tp : TProg}

section rules
variable {P : Program} {a : Regs} {h : TH} {K : Regs → TH → Prop} {rest : List TOper} {d : Option Tmp} {ty : TypeId} {i : Nat} {x y : Operand} {v vx vy : Value} {t u : TypeId} {s s' : ByteArray}
theorem eqT_string : eqT P t (.string s) (.string s') = none := by
  unfold eqT ptrEq nilEq
  cases P.underlying t with
  | none => rfl
  | some d => cases d <;> rfl
theorem WO.eqs (hx : getO a x = some (.string s)) (hy : getO a y = some (.string s')) (w : WO P tp rest (a.put d (.bool (s.toList == s'.toList))) h K) : WO P tp (⟨d, .binOp .eql t x y u, ty, none, [], i⟩ :: rest) a h K := by
  have ex := getO_eval hx
  have ey := getO_eval hy
  refine WO.plainly rfl rfl rfl (by simp [fastOp, fastBin, ex, ey]) (by simp [valueOp, ex, ey, eqT_string]) (plainOp_of (by rfl) (fun q hq => ?_) ?_ rfl) w
  · simp only [Op.operands] at hq
    simp at hq
    rcases hq with rfl | rfl
    · rw [ex]; rfl
    · rw [ey]; rfl
  · show pv P (execOp a.eval ⟨d, .binOp .eql t x y u, ty, "", #[], none⟩) = _
    simp [execOp, pv_bind, pv_map, pv_pure, ex, ey, eqGuard, binOp, Op.stringOp]
theorem WO.si {k : IntKind} {j : Nat} (hx : getO a x = some (.string s)) (hy : getO a y = some (.int k (j : Nat))) (hu : P.underlying t = some .string) (hj : j < s.size) (w : WO P tp rest (a.put d (.int .u8 (s[j].toNat : Nat))) h K) : WO P tp (⟨d, .index t x y, ty, none, [], i⟩ :: rest) a h K := by
  have ex := getO_eval hx
  have ey := getO_eval hy
  have hv : indexT P t (.string s) (.int k (j : Nat)) = some (.int .u8 (s[j].toNat : Nat)) := by
    simp [indexT, hu, hj]
  exact WO.op (h1 := h) rfl rfl (fun call => by simp [stepOp, heapFirst, fastOp, valueOp, ex, ey, hv]) w
theorem WO.rng (hx : getO a x = some (.string s)) (hu : P.underlying t = some .string) (w : WO P tp rest (a.put d (.pointer (some ⟨h.next, 0, none⟩))) (h.new (.iter s 0)) K) : WO P tp (⟨d, .range t x, ty, none, [], i⟩ :: rest) a h K := by
  have ex := getO_eval hx
  exact WO.op rfl rfl (fun call => by simp only [stepOp, heapFirst, heapOp, ex, rangeT, hu, Bool.cond_true]) w
theorem WO.nxt {b pos : Nat} {h1 : TH} (hx : getO a x = some (.pointer (some ⟨b, 0, none⟩))) (hg : h.get b = some (.iter s pos)) (hp : pos < s.size) (hput : h.put b (.iter s (pos + (Utf8.decode s pos).2)) = some h1)
    (w : WO P tp rest (a.put d (.tuple #[.bool true, .int .i64 pos, .int .i32 (Utf8.decode s pos).1])) h1 K) : WO P tp (⟨d, .next x true, ty, none, [], i⟩ :: rest) a h K := by
  have ex := getO_eval hx
  have e : Nat.blt pos s.size = true := by rw [Nat.blt_eq]; exact hp
  exact WO.op rfl rfl (fun call => by simp only [stepOp, heapFirst, heapOp, ex, nextT, hg, e, hput, Bool.cond_true, Option.map_some]) w
theorem WO.nxe {b pos : Nat} (hx : getO a x = some (.pointer (some ⟨b, 0, none⟩))) (hg : h.get b = some (.iter s pos)) (hp : ¬ pos < s.size)
    (w : WO P tp rest (a.put d (.tuple #[.bool false])) h K) : WO P tp (⟨d, .next x true, ty, none, [], i⟩ :: rest) a h K := by
  have ex := getO_eval hx
  have e : Nat.blt pos s.size = false := by
    cases hb : Nat.blt pos s.size with
    | false => rfl
    | true => rw [Nat.blt_eq] at hb; exact absurd hb hp
  exact WO.op (h1 := h) rfl rfl (fun call => by simp only [stepOp, heapFirst, heapOp, ex, nextT, hg, e, Bool.cond_true, Bool.cond_false]) w
end rules

/-! ### Names -/
def byteAt (s : ByteArray) (j : Nat) : Int := ((s.get! j).toNat : Nat)
theorem byteAt_get {s : ByteArray} {j : Nat} (h : j < s.size) : ((s[j].toNat : Nat) : Int) = byteAt s j := by
  unfold byteAt
  congr 2
  obtain ⟨bs⟩ := s
  show bs[j] = bs[j]!
  exact (getElem!_pos bs j h).symm
theorem byteAt_pos (s : ByteArray) (j : Nat) : 0 ≤ byteAt s j := by unfold byteAt; omega
/-- May this sign stand there? -/
def okAt (s : ByteArray) (j : Nat) : Bool := isL (byteAt s j) || (decide (j ≠ 0) && (isD (byteAt s j) || byteAt s j == 95))
def nameB (s : ByteArray) : Bool := decide (1 ≤ s.size) && (decide (s.size ≤ 24) && (List.range s.size).all (okAt s))
theorem name_no {s : ByteArray} {j : Nat} (h : j < s.size) (hb : okAt s j = false) : nameB s = false := by
  have : (List.range s.size).all (okAt s) = false := by
    rw [List.all_eq_false]
    exact ⟨j, by simpa using h, by simp [hb]⟩
  simp [nameB, this]
theorem name_yes {s : ByteArray} (h1 : 1 ≤ s.size) (h2 : s.size ≤ 24) (h : ∀ j, j < s.size → okAt s j = true) : nameB s = true := by
  have : (List.range s.size).all (okAt s) = true := by
    rw [List.all_eq_true]
    exact fun j hj => h j (by simpa using hj)
  simp [nameB, this, h1, h2]

theorem decode_low {s : ByteArray} {p : Nat} (h : byteAt s p < 128) : Utf8.decode s p = ((s.get! p).toNat, 1) := by
  have h' : (s.get! p).toNat < 128 := by unfold byteAt at h; omega
  unfold Utf8.decode
  simp only [Nat.add_zero]
  rw [if_pos h']
theorem decode_high {s : ByteArray} {p : Nat} (h : ¬ byteAt s p < 128) : 128 ≤ (Utf8.decode s p).1 := by
  have h' : ¬ (s.get! p).toNat < 128 := by unfold byteAt at h; omega
  unfold Utf8.decode
  simp only [Nat.add_zero]
  rw [if_neg h']
  split
  · split
    · rename_i hc; exact hc
    · show 128 ≤ Utf8.runeError; decide
  · split
    · split
      · rename_i hc; simp only [Bool.and_eq_true, decide_eq_true_eq] at hc; have := hc.1; show 128 ≤ _; omega
      · show 128 ≤ Utf8.runeError; decide
    · split
      · split
        · rename_i hc; simp only [Bool.and_eq_true, decide_eq_true_eq] at hc; have := hc.1; show 128 ≤ _; omega
        · show 128 ≤ Utf8.runeError; decide
      · show 128 ≤ Utf8.runeError; decide

theorem u9 : Tryz.prog.underlying 9 = some .string := by kernel_rfl
theorem str_empty (s : ByteArray) : (s.toList == (⟨#[]⟩ : ByteArray).toList) = decide (s.size = 0) := by
  rw [ByteArray.toList_eq, ByteArray.toList_eq]
  obtain ⟨⟨l⟩⟩ := s
  cases l with
  | nil => rfl
  | cons b l => rfl

/-- What stands at a place, as a rune and as a byte. -/
theorem rune_same (s : ByteArray) (p : Nat) : isL ((Utf8.decode s p).1 : Nat) = isL (byteAt s p) ∧ isD ((Utf8.decode s p).1 : Nat) = isD (byteAt s p) ∧ ((((Utf8.decode s p).1 : Nat) : Int) == 95) = (byteAt s p == 95) ∧ (okAt s p = true → (Utf8.decode s p).2 = 1) := by
  by_cases h : byteAt s p < 128
  · rw [decode_low h]
    exact ⟨rfl, rfl, rfl, fun _ => rfl⟩
  · have h1 := decode_high h
    have e1 : ∀ c : Int, 128 ≤ c → isL c = false := by intro c hc; simp [isL]; omega
    have e2 : ∀ c : Int, 128 ≤ c → isD c = false := by intro c hc; simp [isD]; omega
    have e3 : ∀ c : Int, 128 ≤ c → (c == 95) = false := by intro c hc; simp; omega
    refine ⟨by rw [e1 _ (by omega), e1 _ (by omega)], by rw [e2 _ (by omega), e2 _ (by omega)], by rw [e3 _ (by omega), e3 _ (by omega)], fun ho => ?_⟩
    unfold okAt at ho
    rw [e1 _ (by omega), e2 _ (by omega), e3 _ (by omega)] at ho
    simp at ho

set_option maxRecDepth 100000 in
set_option maxHeartbeats 1000000 in
theorem k19 (H : Has tp) (s : ByteArray) (h : TH) (f : Free0 h.next h) : CallW Tryz.prog tp (.func (.func 19) #[] #[]) #[.string s] h fun v h' => v = .bool (nameB s) ∧ HX h h' := by
  refine CallW.full (H.fn 19 f19 rfl rfl) rfl ?_
  refine W.seq (W.reg (WO.as rfl (WO.nil ?_)))
  refine W.seq (W.seq (W.reg (WO.mv rfl (WO.eqs rfl rfl ?_))))
  rw [str_empty]
  by_cases hs : s.size = 0
  · rw [decide_eq_true hs]
    repeat' (first
    | refine WO.mv rfl ?_ | refine WO.as rfl ?_ | refine WO.bi rfl rfl rfl ?_
    | refine WO.nil ?_
    | refine W.seq ?_ | refine W.reg ?_ | refine W.ret ?_ | refine W.skip ?_ | refine W.exit ?_ | refine W.block ?_
    | refine WO.nt rfl ?_
    | with_reducible refine OnB.yes ?_ | with_reducible refine OnB.no ?_ | with_reducible refine OnB.way (fun hb => ?_) (fun hb => ?_)
    | refine WO.gu rfl rfl ?_ | refine WO.gt rfl rfl ?_ | refine WO.gf rfl rfl ?_
    | refine WO.pk rfl rfl rfl ?_
    | refine W.cd rfl ?_)
    refine ⟨.inr rfl, _, rfl, ?_, HX.refl h⟩
    show Value.bool _ = Value.bool _
    simp [nameB, hs]
  rw [decide_eq_false hs]
  repeat' (first
    | refine WO.mv rfl ?_ | refine WO.as rfl ?_ | refine WO.bi rfl rfl rfl ?_
    | refine WO.nil ?_
    | refine W.seq ?_ | refine W.reg ?_ | refine W.ret ?_ | refine W.skip ?_ | refine W.exit ?_ | refine W.block ?_
    | refine WO.nt rfl ?_
    | (refine WO.lenS rfl u9 ?_)
    | with_reducible refine OnB.yes ?_ | with_reducible refine OnB.no ?_ | with_reducible refine OnB.way (fun hb => ?_) (fun hb => ?_)
    | refine WO.gu rfl rfl ?_ | refine WO.gt rfl rfl ?_ | refine WO.gf rfl rfl ?_
    | refine WO.pk rfl rfl rfl ?_
    | refine W.cd rfl ?_)
  · refine ⟨.inr rfl, _, rfl, ?_, HX.refl h⟩
    show Value.bool _ = Value.bool _
    have : ¬ s.size ≤ 24 := by have : (24 : Int) < s.size := by simpa using hb
                               omega
    simp [nameB, this]
  have h24 : s.size ≤ 24 := by have : (s.size : Int) ≤ 24 := by simpa using hb
                               omega
  refine WO.rng rfl u9 (WO.nil ?_)
  refine W.block (W.loop (fun k a h1 => ∃ p : Nat, p ≤ s.size ∧ k = s.size - p ∧ HX h h1 ∧ h.next < h1.next ∧ h1.get h.next = some (.iter s p) ∧ (∀ j, j < p → okAt s j = true) ∧ Full 34 a ∧ Tr.get a 13 = some (.pointer (some ⟨h.next, 0, none⟩)))
    ?_ s.size _ _ ⟨0, by omega, by omega, HX.new h _, Nat.lt_succ_self _, TH.get_self _ _, fun j hj => by omega, (by repeat (first | with_reducible refine Full.put ?_ (by decide) _ | with_reducible refine Full.putn ?_ _ | with_reducible exact Full.of _ _ rfl | with_reducible exact Full.start _ _ (Nat.le_of_ble_eq_true rfl) | exact Full.start _ _ (Nat.le_of_ble_eq_true rfl))), rfl⟩)
  rintro k a h1 ⟨p, hp, rfl, hx, hnx, hg, hok, hf, i13⟩
  (obtain ⟨rl0, hrl0, rfl⟩ := hf; obtain ⟨s0, rl1, rfl, hrl1⟩ := cons_of hrl0; obtain ⟨s1, rl2, rfl, hrl2⟩ := cons_of hrl1; obtain ⟨s2, rl3, rfl, hrl3⟩ := cons_of hrl2; obtain ⟨s3, rl4, rfl, hrl4⟩ := cons_of hrl3; obtain ⟨s4, rl5, rfl, hrl5⟩ := cons_of hrl4; obtain ⟨s5, rl6, rfl, hrl6⟩ := cons_of hrl5; obtain ⟨s6, rl7, rfl, hrl7⟩ := cons_of hrl6; obtain ⟨s7, rl8, rfl, hrl8⟩ := cons_of hrl7; obtain ⟨s8, rl9, rfl, hrl9⟩ := cons_of hrl8; obtain ⟨s9, rl10, rfl, hrl10⟩ := cons_of hrl9; obtain ⟨s10, rl11, rfl, hrl11⟩ := cons_of hrl10; obtain ⟨s11, rl12, rfl, hrl12⟩ := cons_of hrl11; obtain ⟨s12, rl13, rfl, hrl13⟩ := cons_of hrl12; obtain ⟨s13, rl14, rfl, hrl14⟩ := cons_of hrl13; obtain ⟨s14, rl15, rfl, hrl15⟩ := cons_of hrl14; obtain ⟨s15, rl16, rfl, hrl16⟩ := cons_of hrl15; obtain ⟨s16, rl17, rfl, hrl17⟩ := cons_of hrl16; obtain ⟨s17, rl18, rfl, hrl18⟩ := cons_of hrl17; obtain ⟨s18, rl19, rfl, hrl19⟩ := cons_of hrl18; obtain ⟨s19, rl20, rfl, hrl20⟩ := cons_of hrl19; obtain ⟨s20, rl21, rfl, hrl21⟩ := cons_of hrl20; obtain ⟨s21, rl22, rfl, hrl22⟩ := cons_of hrl21; obtain ⟨s22, rl23, rfl, hrl23⟩ := cons_of hrl22; obtain ⟨s23, rl24, rfl, hrl24⟩ := cons_of hrl23; obtain ⟨s24, rl25, rfl, hrl25⟩ := cons_of hrl24; obtain ⟨s25, rl26, rfl, hrl26⟩ := cons_of hrl25; obtain ⟨s26, rl27, rfl, hrl27⟩ := cons_of hrl26; obtain ⟨s27, rl28, rfl, hrl28⟩ := cons_of hrl27; obtain ⟨s28, rl29, rfl, hrl29⟩ := cons_of hrl28; obtain ⟨s29, rl30, rfl, hrl30⟩ := cons_of hrl29; obtain ⟨s30, rl31, rfl, hrl31⟩ := cons_of hrl30; obtain ⟨s31, rl32, rfl, hrl32⟩ := cons_of hrl31; obtain ⟨s32, rl33, rfl, hrl33⟩ := cons_of hrl32; obtain ⟨s33, rl34, rfl, hrl34⟩ := cons_of hrl33; obtain rfl := nil_of hrl34; clear hrl0 hrl1 hrl2 hrl3 hrl4 hrl5 hrl6 hrl7 hrl8 hrl9 hrl10 hrl11 hrl12 hrl13 hrl14 hrl15 hrl16 hrl17 hrl18 hrl19 hrl20 hrl21 hrl22 hrl23 hrl24 hrl25 hrl26 hrl27 hrl28 hrl29 hrl30 hrl31 hrl32 hrl33 hrl34; obtain rfl : s13 = _ := Option.some.inj (show some s13 = some _ from i13); clear i13)
  by_cases hlt : p < s.size
  · refine W.seq (W.reg (WO.nxt rfl hg hlt ((f.hx hx).put (Nat.le_refl _) hnx) (WO.ex rfl rfl (WO.nil ?_))))
    have hg2 : (h1.upd h.next (.iter s (p + (Utf8.decode s p).2))).get h.next = _ := (TH.get_upd _ _ _ _).trans (if_pos rfl)
    have hx2 := hx.upd (Nat.le_refl _) (.iter s (p + (Utf8.decode s p).2))
    have hnx2 : h.next < (h1.upd h.next (.iter s (p + (Utf8.decode s p).2))).next := hnx
    generalize h1.upd h.next (.iter s (p + (Utf8.decode s p).2)) = h2 at hg2 hx2 hnx2
    obtain ⟨r1, r2, r3, r4⟩ := rune_same s p
    generalize (((Utf8.decode s p).1 : Nat) : Int) = c at r1 r2 r3
    refine W.seq (W.cd rfl (OnB.yes (W.skip ?_)))
    refine W.block (W.seq (W.reg (WO.ex rfl rfl (WO.ex rfl rfl (WO.as rfl (WO.as rfl (WO.nil ?_)))))))
    have hokc : okAt s p = (isL c || (decide (p ≠ 0) && (isD c || c == 95))) := by unfold okAt; rw [r1, r2, r3]
    have no : okAt s p = false → nameB s = false := name_no hlt
    have yes : okAt s p = true → ∃ j, j < s.size - p ∧ ∃ q : Nat, q ≤ s.size ∧ j = s.size - q ∧ HX h h2 ∧ h.next < h2.next ∧ h2.get h.next = some (.iter s q) ∧ (∀ j, j < q → okAt s j = true) := fun ho => by
      rw [r4 ho] at hg2
      exact ⟨s.size - (p + 1), by omega, p + 1, by omega, rfl, hx2, hnx2, hg2, fun j hj => by
        by_cases e : j = p
        · subst e; exact ho
        · exact hok j (by omega)⟩
    repeat' (first
    | refine WO.mv rfl ?_ | refine WO.as rfl ?_ | refine WO.bi rfl rfl rfl ?_
    | refine WO.nil ?_
    | refine W.seq ?_ | refine W.reg ?_ | refine W.ret ?_ | refine W.skip ?_ | refine W.exit ?_ | refine W.block ?_
    | refine WO.nt rfl ?_
    | (refine WO.cl1 rfl rfl ?_; refine (k91 H _ _).mono ?_; rintro v h2 ⟨rfl, rfl⟩)
    | (refine WO.cl1 rfl rfl ?_; refine (k92 H _ _).mono ?_; rintro v h2 ⟨rfl, rfl⟩)
    | with_reducible refine OnB.yes ?_ | with_reducible refine OnB.no ?_ | with_reducible refine OnB.way (fun hb => ?_) (fun hb => ?_)
    | refine WO.gu rfl rfl ?_ | refine WO.gt rfl rfl ?_ | refine WO.gf rfl rfl ?_
    | refine WO.pk rfl rfl rfl ?_
    | refine W.cd rfl ?_)
    all_goals first
      | (refine ⟨.inr rfl, _, rfl, ?_, hx2⟩
         show Value.bool _ = Value.bool _
         rw [no (by rw [hokc]; clear no yes r1 r2 r3 r4 hok hokc hg hg2 hs h24 hx hx2 hnx hnx2; simp_all)])
      | (obtain ⟨j, j1, q, q1, q2, q3, q4, q5, q6⟩ := yes (by rw [hokc]; clear no yes r1 r2 r3 r4 hok hokc hg hg2 hs h24 hx hx2 hnx hnx2; simp_all)
         exact ⟨j, j1, q, q1, q2, q3, q4, q5, q6, (by repeat (first | with_reducible refine Full.put ?_ (by decide) _ | with_reducible refine Full.putn ?_ _ | with_reducible exact Full.of _ _ rfl | with_reducible exact Full.start _ _ (Nat.le_of_ble_eq_true rfl) | exact Full.start _ _ (Nat.le_of_ble_eq_true rfl))), rfl⟩)
  · refine W.seq (W.reg (WO.nxe rfl hg hlt (WO.ex rfl rfl (WO.nil ?_))))
    refine W.seq (W.cd rfl (OnB.no (W.exit ?_)))
    refine W.seq (W.reg (WO.as rfl (WO.nil (W.ret ?_))))
    refine ⟨.inr rfl, _, rfl, ?_, hx⟩
    show Value.bool _ = Value.bool _
    rw [name_yes (by omega) h24 fun j hj => hok j (by omega)]
end Go.Tidy
