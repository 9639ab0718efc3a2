/- Samples are checked: the program's way, whole. -/
import Derived.Test.YtkaiphobleifgaaGreatDoorSb10
set_option linter.all false
namespace Go.Tidy
open Go Go.Proofs Tab
variable {tp : TProg}

/-- The greatest number. -/
theorem max64 : ∃ K : Nat, K = 2045 ∧ N64 9218868437227405311 false (9007199254740991 * 2 ^ K) := by
  have hr : Ieee.double.read 9218868437227405311 = .number false 9007199254740991 (-1074 + (2045 : Nat)) := by decide
  generalize hK : (2045 : Nat) = K at hr
  exact ⟨K, rfl, 9007199254740991, K, hr, rfl, by decide, by omega⟩
theorem cmp_false {a b : Nat} (h : a ≤ b) : (compare (sg false a) (sg false b) == Ordering.gt) = false := by
  simp only [compare, compareOfLessAndEq]
  split
  · rfl
  · split
    · rfl
    · rename_i h1 h2; simp [sg] at h1 h2; omega
theorem cmp_true {a b : Nat} (h : b < a) : (compare (sg false a) (sg false b) == Ordering.gt) = true := by
  simp only [compare, compareOfLessAndEq]
  split
  · rename_i h1; simp [sg] at h1; omega
  · split
    · rename_i h1 h2; simp [sg] at h1 h2; omega
    · rfl
theorem pow_le {x y z : Nat} (h : x + y ≤ z) : (2 : Nat) ^ x * 2 ^ y ≤ 2 ^ z := by rw [← Nat.pow_add]; exact Nat.pow_le_pow_right (by decide) h
theorem big_lt {m k K : Nat} (hm : m < 2 ^ 24) (hk : k ≤ 253) (hK : K = 2045) : m * 2 ^ (925 + k) ≤ 9007199254740991 * 2 ^ K := by
  have h1 : m * 2 ^ (925 + k) ≤ 2 ^ 24 * 2 ^ (925 + k) := Nat.mul_le_mul_right _ (Nat.le_of_lt hm)
  have h3 := pow_le (x := 24) (y := 925 + k) (z := K) (by omega)
  exact Nat.le_trans h1 (Nat.le_trans h3 (Nat.le_mul_of_pos_left _ (by decide)))

theorem conv64 {b m k : Nat} {neg : Bool} (N : N32 b neg m k) : pv Tryz.prog (convert 25 241 (.float .f32 b)) = some (.float .f64 (Ieee.double.nearest neg m (-149 + k))) := by
  refine conv_f2f u25 u241 (by decide) (ng := neg) (m := m) (e := -149 + k) N.read ?_
  obtain ⟨m', k', h1, _⟩ := (to64 N).ok
  show (Ieee.double.read (Ieee.double.nearest neg m (-149 + k))).isInfinity = false
  rw [h1]
  rfl
theorem nan32 {b m k : Nat} {neg : Bool} (N : N32 b neg m k) : nanB .f32 b = false := not_nan (k := .f32) N.read

set_option maxRecDepth 100000 in
theorem k98 (H : Has tp) (X : HasX tp) {b m k : Nat} {neg : Bool} (N : N32 b neg m k) (h : TH) : CallW Tryz.prog tp (.func (.func 98) #[] #[]) #[.float .f32 b] h fun v h' => v = .bool true ∧ h' = h := by
  have hN := to64 N
  have ho : Ieee.double.order (Ieee.double.nearest neg m (-149 + k)) (Ieee.double.nearest neg m (-149 + k)) = some .eq := by rw [hN.order hN, cmp_self]
  have hg : cmpF .gtr .f64 (Ieee.double.nearest neg m (-149 + k) % 2 ^ 63) 9218868437227405311 = some false := by
    obtain ⟨K, hK, hM⟩ := max64
    show some (Ieee.double.order _ _ == some .gt) = _
    rw [(abs64 hN).order hM]
    exact congrArg some (cmp_false (big_lt N.hm N.hk hK))
  refine CallW.full (H.fn 98 f98 rfl rfl) rfl ?_
  refine W.seq (W.reg (WO.as rfl (WO.nil ?_)))
  refine W.seq (W.reg (WO.mv rfl (WO.conv rfl (plain_float (nan32 N)) (conv64 N) (plain_float hN.nan) ?_)))
  refine WO.cl1 rfl rfl ((k169 H hN.nan ho h).mono ?_)
  rintro v h ⟨rfl, rfl⟩
  refine WO.nt rfl (WO.mv rfl (WO.gt rfl rfl (OnB.yes (WO.mv rfl (WO.gt rfl rfl (OnB.yes ?_))))))
  refine WO.conv rfl (plain_float (nan32 N)) (conv64 N) (plain_float hN.nan) ?_
  refine WO.gt rfl rfl (OnB.yes (WO.cl2 rfl rfl rfl ((k170 H X hN.nan hg h).mono ?_)))
  rintro v h ⟨rfl, rfl⟩
  refine WO.gt rfl rfl (OnB.yes (WO.nt rfl ?_))
  refine WO.pk rfl rfl rfl (OnB.yes ?_)
  refine WO.as rfl (WO.nil (W.ret ?_))
  exact ⟨.inr rfl, _, rfl, rfl, rfl⟩

/-- NaN, and infinities. -/
theorem k98n (H : Has tp) {b : Nat} (hb : nanB .f32 b = true) (h : TH) : CallW Tryz.prog tp (.func (.func 98) #[] #[]) #[.float .f32 b] h fun v h' => v = .bool false ∧ h' = h := by
  refine CallW.full (H.fn 98 f98 rfl rfl) rfl ?_
  refine W.seq (W.reg (WO.as rfl (WO.nil ?_)))
  refine W.seq (W.reg (WO.mv rfl (WO.cnan rfl u25 u241 rfl hb ?_)))
  refine WO.cl1 rfl rfl ((k169n H (by decide) h).mono ?_)
  rintro v h ⟨rfl, rfl⟩
  repeat' (first
    | refine WO.mv rfl ?_ | refine WO.as rfl ?_ | refine WO.bi rfl rfl rfl ?_
    | refine WO.nil ?_
    | refine W.seq ?_ | refine W.reg ?_ | refine W.ret ?_ | refine W.skip ?_ | refine W.exit ?_ | refine W.block ?_
    | refine WO.nt rfl ?_
    | with_reducible refine OnB.yes ?_ | with_reducible refine OnB.nyes ?_ | with_reducible refine OnB.nno ?_ | with_reducible refine OnB.no ?_ | with_reducible refine OnB.way (fun hb => ?_) (fun hb => ?_)
    | refine WO.gu rfl rfl ?_ | refine WO.gt rfl rfl ?_ | refine WO.gf rfl rfl ?_
    | refine WO.pk rfl rfl rfl ?_
    | refine W.cd rfl ?_)
  exact ⟨.inr rfl, _, rfl, rfl, rfl⟩
theorem inf_word (s : Bool) : Ieee.double.read (Ieee.double.write (.infinity s)) = .infinity s ∧ Ieee.double.read (Ieee.double.write (.infinity s) % 2 ^ 63) = .infinity false := by
  cases s <;> decide
theorem k98i (H : Has tp) (X : HasX tp) {b : Nat} {s : Bool} (hb : Ieee.single.read b = .infinity s) (h : TH) : CallW Tryz.prog tp (.func (.func 98) #[] #[]) #[.float .f32 b] h fun v h' => v = .bool false ∧ h' = h := by
  have hn : nanB .f32 b = false := not_nan_inf (k := .f32) hb
  have hn2 : nanB .f64 (Ieee.double.write (.infinity s)) = false := not_nan_inf (k := .f64) (inf_word s).1
  have hc : pv Tryz.prog (convert 25 241 (.float .f32 b)) = some (.float .f64 (Ieee.double.write (.infinity s))) := conv_inf u25 u241 (by decide) hb
  have ho : Ieee.double.order (Ieee.double.write (.infinity s)) (Ieee.double.write (.infinity s)) = some .eq := by
    unfold Ieee.Format.order; rw [(inf_word s).1]; cases s <;> rfl
  have hg : cmpF .gtr .f64 (Ieee.double.write (.infinity s) % 2 ^ 63) 9218868437227405311 = some true := by
    show some (Ieee.double.order _ _ == some .gt) = _
    obtain ⟨K, hK, hM⟩ := max64
    obtain ⟨m', k', h1, _⟩ := hM.ok
    unfold Ieee.Format.order
    rw [(inf_word s).2, h1]
    rfl
  refine CallW.full (H.fn 98 f98 rfl rfl) rfl ?_
  refine W.seq (W.reg (WO.as rfl (WO.nil ?_)))
  refine W.seq (W.reg (WO.mv rfl (WO.conv rfl (plain_float hn) hc (plain_float hn2) ?_)))
  refine WO.cl1 rfl rfl ((k169 H hn2 ho h).mono ?_)
  rintro v h ⟨rfl, rfl⟩
  refine WO.nt rfl (WO.mv rfl (WO.gt rfl rfl (OnB.yes (WO.mv rfl (WO.gt rfl rfl (OnB.yes ?_))))))
  refine WO.conv rfl (plain_float hn) hc (plain_float hn2) ?_
  refine WO.gt rfl rfl (OnB.yes (WO.cl2 rfl rfl rfl ((k170 H X hn2 hg h).mono ?_)))
  rintro v h ⟨rfl, rfl⟩
  refine WO.gt rfl rfl (OnB.yes (WO.nt rfl ?_))
  refine WO.pk rfl rfl rfl (OnB.yes ?_)
  refine WO.as rfl (WO.nil (W.ret ?_))
  exact ⟨.inr rfl, _, rfl, rfl, rfl⟩
end Go.Tidy
