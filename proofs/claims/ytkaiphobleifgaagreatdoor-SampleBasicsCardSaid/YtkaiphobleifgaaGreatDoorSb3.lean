/- The greatest common divisor, both ways. -/
import Derived.Test.YtkaiphobleifgaaGreatDoorSb2
set_option linter.all false
namespace Go.Tidy
open Go Go.Proofs Tab
variable {tp : TProg}

theorem u3 : Tryz.prog.underlying 3 = some (.int .i64) := by kernel_rfl

/-- The greater of two integers. -/
theorem WO.max {P : Program} {tp : TProg} {a : Regs} {h : TH} {K : Regs → TH → Prop} {rest : List TOper} {d : Option Tmp} {ty : TypeId} {i : Nat} {x y : Operand} {t u : TypeId} {m n : Int} (hx : getO a x = some (.int .i64 m)) (hy : getO a y = some (.int .i64 n))
    (w : WO P tp rest (a.put d (.int .i64 (max m n))) h K) : WO P tp (⟨d, .call ⟨.builtin .max, #[x, y], #[t, u]⟩, ty, none, [], i⟩ :: rest) a h K := by
  have ex := getO_eval hx
  have ey := getO_eval hy
  refine WO.plainly rfl rfl rfl rfl rfl (plainOp_of rfl (fun q hq => ?_) ?_ rfl) w
  · simp only [Op.operands, Call.operands] at hq
    simp at hq
    rcases hq with rfl | rfl
    · rw [ex]; rfl
    · rw [ey]; rfl
  · simp [toOper, execOp, resolve, invoke, builtin, Builtin.max_, Builtin.max2, pv_bind, pv_map, pv_pure, ex, ey]
    rw [Int.max_def]
    split <;> split <;> omega
theorem WO.neg {P : Program} {tp : TProg} {a : Regs} {h : TH} {K : Regs → TH → Prop} {rest : List TOper} {d : Option Tmp} {ty : TypeId} {i : Nat} {x : Operand} {t : TypeId} {m : Int} (hx : getO a x = some (.int .i64 m))
    (w : WO P tp rest (a.put d (.int .i64 (IntKind.i64.wrap (-m)))) h K) : WO P tp (⟨d, .unOp .neg t x, ty, none, [], i⟩ :: rest) a h K := by
  have ex := getO_eval hx
  refine WO.plainly rfl rfl rfl rfl rfl (plainOp_of rfl (fun q hq => ?_) ?_ rfl) w
  · simp only [Op.operands] at hq
    simp at hq
    rw [hq, ex]; rfl
  · simp [toOper, execOp, pv_map, pv_pure, ex, Op.unary, Op.intArith]
theorem WO.rem {P : Program} {tp : TProg} {a : Regs} {h : TH} {K : Regs → TH → Prop} {rest : List TOper} {d : Option Tmp} {ty : TypeId} {i : Nat} {x y : Operand} {t u : TypeId} {k : IntKind} {m n : Int} (hx : getO a x = some (.int k m)) (hy : getO a y = some (.int k n)) (hn : n ≠ 0)
    (w : WO P tp rest (a.put d (.int k (m.tmod n))) h K) : WO P tp (⟨d, .binOp .rem t x y u, ty, none, [], i⟩ :: rest) a h K := by
  refine WO.bi hx hy ?_ w
  have hk : Nat.beq (kindNo k) (kindNo k) = true := Nat.beq_refl _
  have hb : (n == 0) = false := by simpa using hn
  simp only [fastBin, hk, fastInt, hb, Bool.cond_true, Bool.cond_false]

theorem k96 (H : Has tp) {m : Int} {n : Nat} {h : TH} (hm1 : -999999999 ≤ m) (hm2 : m ≤ 999999999) (hn1 : 1 ≤ n) (hn2 : n ≤ 999999999) :
    CallW Tryz.prog tp (.func (.func 96) #[] #[]) #[.int .i64 m, .int .i64 n] h fun v h' => v = .int .i64 (Nat.gcd m.natAbs n : Nat) ∧ h' = h := by
  refine CallW.full (H.fn 96 f96 rfl rfl) rfl ?_
  refine W.seq (W.reg (WO.as rfl (WO.nil ?_)))
  refine W.seq (W.reg (WO.mv rfl (WO.mv rfl (WO.neg rfl (WO.max rfl rfl (WO.as rfl (WO.nil ?_)))))))
  refine W.seq (W.block (W.loop (fun k a h1 => h1 = h ∧ ∃ x y : Nat, k = x ∧ x ≤ 999999999 ∧ y ≤ 999999999 ∧ Nat.gcd x y = Nat.gcd m.natAbs n ∧ Full 16 a ∧ Tr.get a 0 = some (.int .i64 (x : Nat)) ∧ Tr.get a 1 = some (.int .i64 (y : Nat)))
    ?_ m.natAbs _ h ⟨rfl, m.natAbs, n, rfl, by omega, by omega, rfl, (by repeat (first | with_reducible refine Full.put ?_ (by decide) _ | with_reducible refine Full.putn ?_ _ | with_reducible exact Full.of _ _ rfl | with_reducible exact Full.start _ _ (Nat.le_of_ble_eq_true rfl) | exact Full.start _ _ (Nat.le_of_ble_eq_true rfl))), ?_, rfl⟩))
  rotate_left
  · show some (Value.int .i64 (max m (IntKind.i64.wrap (-m)))) = _
    rw [IntWalk.i64_in _ (by omega)]
    congr 2
    omega
  rintro k a h1 ⟨rfl, x, y, rfl, hx, hy, hg, hf, h0, h1⟩
  (obtain ⟨rl0, hrl0, rfl⟩ := hf; obtain ⟨s0, rl1, rfl, hrl1⟩ := cons_of hrl0; obtain ⟨s1, rl2, rfl, hrl2⟩ := cons_of hrl1; obtain ⟨s2, rl3, rfl, hrl3⟩ := cons_of hrl2; obtain ⟨s3, rl4, rfl, hrl4⟩ := cons_of hrl3; obtain ⟨s4, rl5, rfl, hrl5⟩ := cons_of hrl4; obtain ⟨s5, rl6, rfl, hrl6⟩ := cons_of hrl5; obtain ⟨s6, rl7, rfl, hrl7⟩ := cons_of hrl6; obtain ⟨s7, rl8, rfl, hrl8⟩ := cons_of hrl7; obtain ⟨s8, rl9, rfl, hrl9⟩ := cons_of hrl8; obtain ⟨s9, rl10, rfl, hrl10⟩ := cons_of hrl9; obtain ⟨s10, rl11, rfl, hrl11⟩ := cons_of hrl10; obtain ⟨s11, rl12, rfl, hrl12⟩ := cons_of hrl11; obtain ⟨s12, rl13, rfl, hrl13⟩ := cons_of hrl12; obtain ⟨s13, rl14, rfl, hrl14⟩ := cons_of hrl13; obtain ⟨s14, rl15, rfl, hrl15⟩ := cons_of hrl14; obtain ⟨s15, rl16, rfl, hrl16⟩ := cons_of hrl15; obtain rfl := nil_of hrl16; clear hrl0 hrl1 hrl2 hrl3 hrl4 hrl5 hrl6 hrl7 hrl8 hrl9 hrl10 hrl11 hrl12 hrl13 hrl14 hrl15 hrl16; obtain rfl : s0 = _ := Option.some.inj (show some s0 = some _ from h0); clear h0; obtain rfl : s1 = _ := Option.some.inj (show some s1 = some _ from h1); clear h1)
  refine W.seq (W.seq (W.reg (WO.mv rfl (WO.bi rfl rfl rfl (WO.nil ?_)))))
  refine W.cd rfl ?_
  by_cases hz : k = 0
  · subst hz
    refine OnB.no (W.exit ?_)
    repeat' (first
    | refine WO.mv rfl ?_ | refine WO.as rfl ?_ | refine WO.bi rfl rfl rfl ?_
    | refine WO.nil ?_
    | refine W.seq ?_ | refine W.reg ?_ | refine W.ret ?_ | refine W.skip ?_ | refine W.exit ?_ | refine W.block ?_
    | refine WO.nt rfl ?_
    | with_reducible refine OnB.yes ?_ | with_reducible refine OnB.no ?_ | with_reducible refine OnB.way (fun hb => ?_) (fun hb => ?_)
    | refine WO.gu rfl rfl ?_ | refine WO.gt rfl rfl ?_ | refine WO.gf rfl rfl ?_
    | refine WO.pk rfl rfl rfl ?_
    | refine W.cd rfl ?_)
    refine ⟨.inr rfl, _, rfl, ?_, rfl⟩
    show Value.int _ _ = Value.int _ _
    rw [← hg, Nat.gcd_zero_left]
  · have hd : ((k : Int) != 0) = true := by simpa using hz
    rw [hd]
    refine OnB.yes (W.skip ?_)
    refine W.block (W.reg (WO.mv rfl (WO.mv rfl (WO.rem rfl rfl (by omega) (WO.mv rfl (WO.as rfl (WO.as rfl (WO.nil ?_))))))))
    have hlt : y % k < k := Nat.mod_lt _ (by omega)
    refine ⟨y % k, hlt, rfl, y % k, k, rfl, by omega, by omega, ?_, (by repeat (first | with_reducible refine Full.put ?_ (by decide) _ | with_reducible refine Full.putn ?_ _ | with_reducible exact Full.of _ _ rfl | with_reducible exact Full.start _ _ (Nat.le_of_ble_eq_true rfl) | exact Full.start _ _ (Nat.le_of_ble_eq_true rfl))), ?_, rfl⟩
    · rw [← hg, ← Nat.gcd_rec]
    · show some (Value.int .i64 (Int.tmod (y : Int) (k : Int))) = _
      rw [Int.tmod_eq_emod_of_nonneg (by omega)]
      rfl

theorem k97 (H : Has tp) {m : Int} {n : Nat} {h : TH} (hm1 : -999999999 ≤ m) (hm2 : m ≤ 999999999) (hn1 : 1 ≤ n) (hn2 : n ≤ 999999999) :
    CallW Tryz.prog tp (.func (.func 97) #[] #[]) #[.int .i64 m, .int .i64 n] h fun v h' => v = .int .i64 (Nat.gcd m.natAbs n : Nat) ∧ h' = h := by
  refine CallW.full (H.fn 97 f97 rfl rfl) rfl ?_
  refine W.seq (W.reg (WO.as rfl (WO.nil ?_)))
  refine W.seq (W.reg (WO.mv rfl (WO.mv rfl (WO.bi rfl rfl rfl (WO.max rfl rfl (WO.mv rfl (WO.mv rfl (WO.bi rfl rfl rfl (WO.max rfl rfl (WO.as rfl (WO.as rfl (WO.nil ?_))))))))))))
  refine W.seq (W.block (W.loop (fun k a h1 => h1 = h ∧ ∃ x y : Nat, k = y ∧ x ≤ 999999999 ∧ y ≤ 999999999 ∧ Nat.gcd x y = Nat.gcd m.natAbs n ∧ Full 20 a ∧ Tr.get a 0 = some (.int .i64 (x : Nat)) ∧ Tr.get a 1 = some (.int .i64 (y : Nat)))
    ?_ n _ h ⟨rfl, m.natAbs, n, rfl, by omega, by omega, rfl, (by repeat (first | with_reducible refine Full.put ?_ (by decide) _ | with_reducible refine Full.putn ?_ _ | with_reducible exact Full.of _ _ rfl | with_reducible exact Full.start _ _ (Nat.le_of_ble_eq_true rfl) | exact Full.start _ _ (Nat.le_of_ble_eq_true rfl))), ?_, ?_⟩))
  rotate_left
  · show some (Value.int .i64 (max m (fwrap .i64 (0 - m)))) = _
    rw [fwrap_i64 (by omega) (by omega)]
    congr 2
    omega
  · show some (Value.int .i64 (max (n : Int) (fwrap .i64 (0 - (n : Int))))) = _
    rw [fwrap_i64 (by omega) (by omega)]
    congr 2
    omega
  rintro k a h1 ⟨rfl, x, y, rfl, hx, hy, hg, hf, h0, h1⟩
  (obtain ⟨rl0, hrl0, rfl⟩ := hf; obtain ⟨s0, rl1, rfl, hrl1⟩ := cons_of hrl0; obtain ⟨s1, rl2, rfl, hrl2⟩ := cons_of hrl1; obtain ⟨s2, rl3, rfl, hrl3⟩ := cons_of hrl2; obtain ⟨s3, rl4, rfl, hrl4⟩ := cons_of hrl3; obtain ⟨s4, rl5, rfl, hrl5⟩ := cons_of hrl4; obtain ⟨s5, rl6, rfl, hrl6⟩ := cons_of hrl5; obtain ⟨s6, rl7, rfl, hrl7⟩ := cons_of hrl6; obtain ⟨s7, rl8, rfl, hrl8⟩ := cons_of hrl7; obtain ⟨s8, rl9, rfl, hrl9⟩ := cons_of hrl8; obtain ⟨s9, rl10, rfl, hrl10⟩ := cons_of hrl9; obtain ⟨s10, rl11, rfl, hrl11⟩ := cons_of hrl10; obtain ⟨s11, rl12, rfl, hrl12⟩ := cons_of hrl11; obtain ⟨s12, rl13, rfl, hrl13⟩ := cons_of hrl12; obtain ⟨s13, rl14, rfl, hrl14⟩ := cons_of hrl13; obtain ⟨s14, rl15, rfl, hrl15⟩ := cons_of hrl14; obtain ⟨s15, rl16, rfl, hrl16⟩ := cons_of hrl15; obtain ⟨s16, rl17, rfl, hrl17⟩ := cons_of hrl16; obtain ⟨s17, rl18, rfl, hrl18⟩ := cons_of hrl17; obtain ⟨s18, rl19, rfl, hrl19⟩ := cons_of hrl18; obtain ⟨s19, rl20, rfl, hrl20⟩ := cons_of hrl19; obtain rfl := nil_of hrl20; clear hrl0 hrl1 hrl2 hrl3 hrl4 hrl5 hrl6 hrl7 hrl8 hrl9 hrl10 hrl11 hrl12 hrl13 hrl14 hrl15 hrl16 hrl17 hrl18 hrl19 hrl20; obtain rfl : s0 = _ := Option.some.inj (show some s0 = some _ from h0); clear h0; obtain rfl : s1 = _ := Option.some.inj (show some s1 = some _ from h1); clear h1)
  refine W.seq (W.seq (W.reg (WO.mv rfl (WO.bi rfl rfl rfl (WO.nil ?_)))))
  refine W.cd rfl ?_
  by_cases hz : k = 0
  · subst hz
    refine OnB.no (W.exit ?_)
    repeat' (first
    | refine WO.mv rfl ?_ | refine WO.as rfl ?_ | refine WO.bi rfl rfl rfl ?_
    | refine WO.nil ?_
    | refine W.seq ?_ | refine W.reg ?_ | refine W.ret ?_ | refine W.skip ?_ | refine W.exit ?_ | refine W.block ?_
    | refine WO.nt rfl ?_
    | with_reducible refine OnB.yes ?_ | with_reducible refine OnB.no ?_ | with_reducible refine OnB.way (fun hb => ?_) (fun hb => ?_)
    | refine WO.gu rfl rfl ?_ | refine WO.gt rfl rfl ?_ | refine WO.gf rfl rfl ?_
    | refine WO.pk rfl rfl rfl ?_
    | refine W.cd rfl ?_)
    refine ⟨.inr rfl, _, rfl, ?_, rfl⟩
    show Value.int _ _ = Value.int _ _
    rw [← hg, Nat.gcd_zero_right]
  · have hd : decide ((k : Int) > 0) = true := by simp; omega
    rw [hd]
    refine OnB.yes (W.skip ?_)
    refine W.block (W.reg (WO.mv rfl (WO.mv rfl (WO.mv rfl (WO.rem rfl rfl (by omega) (WO.as rfl (WO.as rfl (WO.nil ?_))))))))
    have hlt : x % k < k := Nat.mod_lt _ (by omega)
    refine ⟨x % k, hlt, rfl, k, x % k, rfl, by omega, by omega, ?_, (by repeat (first | with_reducible refine Full.put ?_ (by decide) _ | with_reducible refine Full.putn ?_ _ | with_reducible exact Full.of _ _ rfl | with_reducible exact Full.start _ _ (Nat.le_of_ble_eq_true rfl) | exact Full.start _ _ (Nat.le_of_ble_eq_true rfl))), rfl, ?_⟩
    · rw [← hg, Nat.gcd_comm k, ← Nat.gcd_rec, Nat.gcd_comm]
    · show some (Value.int .i64 (Int.tmod (x : Int) (k : Int))) = _
      rw [Int.tmod_eq_emod_of_nonneg (by omega)]
      rfl
end Go.Tidy
