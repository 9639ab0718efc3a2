/- Samples are checked: the reference's way. -/
import Derived.Test.YtkaiphobleifgaaGreatDoorSb12
set_option linter.all false
namespace Go.Tidy
open Go Go.Proofs Tab
variable {tp : TProg}

/-- A float32 that is a number: its sign, and its size in the least units. -/
structure V32 (b : Nat) (neg : Bool) (q : Nat) : Prop where
  ok : ∃ m k : Nat, Ieee.single.read b = .number neg m (-149 + k) ∧ m * 2 ^ k = q ∧ k ≤ 253
theorem V32.nan {b : Nat} {neg : Bool} {q : Nat} (h : V32 b neg q) : nanB .f32 b = false := by
  obtain ⟨m, k, h1, _⟩ := h.ok
  exact not_nan (k := .f32) h1
theorem V32.order {b c : Nat} {s t : Bool} {q r : Nat} (h : V32 b s q) (g : V32 c t r) : Ieee.single.order b c = some (compare (sg s q) (sg t r)) := by
  obtain ⟨m, k, h1, h2, _⟩ := h.ok
  obtain ⟨n, j, g1, g2, _⟩ := g.ok
  unfold Ieee.Format.order
  rw [h1, g1, order_num, h2, g2]

theorem near32 {neg : Bool} {m k : Nat} (hm : m < 2 ^ 24) (e : Int) (he : e = -149 + k) (hk : k ≤ 253) : V32 (Ieee.single.nearest neg m e) neg (m * 2 ^ k) := by
  subst he
  have e1 : ((-149 : Int) + (k : Int) - Ieee.single.leastPlace).toNat = k := by rw [lp32]; omega
  obtain ⟨m', k', r1, r2, r3, r4⟩ := read_nearest Ieee.single neg m (-149 + k) hm (by rw [lp32]; omega) (by rw [e1]; show k + 3 ≤ 2 ^ 8; omega)
  rw [e1] at r2 r4
  rw [lp32] at r1
  exact ⟨m', k', r1, r2, by omega⟩
theorem read16' : Ieee.single.read 1098907648 = .number false 8388608 (-19) := by decide
theorem mul16' {b : Nat} {neg : Bool} {m k : Nat} (N : N32 b neg m k) (hk : k ≤ 200) : ∃ c, Ieee.single.mul 1098907648 b = some c ∧ V32 c neg (m * 2 ^ (k + 4)) := by
  have e0 : (-19 : Int) + (-149 + (k : Int)) + (23 : Nat) = -145 + k := by omega
  have hsh := nearest_shift Ieee.single neg m 23 (-19 + (-149 + (k : Int))) N.hm (by rw [lp32, e0]; omega)
  rw [e0] at hsh
  refine ⟨Ieee.single.nearest neg m (-145 + k), ?_, near32 N.hm _ (by omega) (by omega)⟩
  unfold Ieee.Format.mul
  rw [read16', N.read]
  show some (Ieee.single.nearest (false ^^ neg) (8388608 * m) (-19 + (-149 + (k : Int)))) = _
  rw [← hsh, Nat.mul_comm]
  congr 1
  cases neg <;> rfl

theorem one32 {s : Bool} {D : Nat} (hD : 2 ^ 149 = D) (n : Nat) (hn : n < 2 ^ 24) : V32 (Ieee.single.nearest s n 0) s (n * D) := by
  rw [← hD]
  exact near32 hn 0 (by omega) (by omega)
theorem nearest_int (n : Int) : FloatKind.f32.nearest n = Ieee.single.nearest (decide (n < 0)) n.natAbs 0 := rfl

theorem cmp_lt_neg {neg : Bool} {q r : Nat} : (compare (sg neg q) (sg true r) == Ordering.lt) = (neg && decide (r < q)) := by
  simp only [compare, compareOfLessAndEq, sg]
  cases neg
  · by_cases h1 : (q : Int) < -(r : Int)
    · omega
    · by_cases h2 : (q : Int) = -(r : Int) <;> simp [h1, h2]
  · by_cases h1 : r < q
    · have e1 : -(q : Int) < -(r : Int) := by omega
      simp [e1, h1]
    · have e1 : ¬ -(q : Int) < -(r : Int) := by omega
      by_cases h2 : -(q : Int) = -(r : Int)
      · simp [h2, h1]
      · simp [e1, h2, h1]
theorem cmp_gt_pos {neg : Bool} {q r : Nat} : (compare (sg neg q) (sg false r) == Ordering.gt) = (!neg && decide (r < q)) := by
  simp only [compare, compareOfLessAndEq, sg]
  cases neg
  · by_cases h1 : (q : Int) < (r : Int)
    · have e1 : ¬ r < q := by omega
      simp [h1, e1]
    · by_cases h2 : (q : Int) = (r : Int)
      · have e1 : ¬ r < q := by omega
        simp [h2, e1]
      · have e1 : r < q := by omega
        simp [h1, h2, e1]
  · by_cases h1 : -(q : Int) < (r : Int)
    · simp [h1]
    · by_cases h2 : -(q : Int) = (r : Int)
      · simp [h2]
      · omega
theorem cmp_iff (x y : Int) : compare x y = Ordering.eq ↔ x = y := by
  simp only [compare, compareOfLessAndEq]
  by_cases h1 : x < y
  · have : x ≠ y := by omega
    simp [h1, this]
  · by_cases h2 : x = y <;> simp [h1, h2]
theorem sg_iff {s t : Bool} {a b : Nat} (hs : a = 0 ∨ s = t) : sg s a = sg t b ↔ a = b := by
  unfold sg
  rcases hs with rfl | rfl
  · cases s <;> cases t <;> simp <;> omega
  · cases s <;> simp <;> omega
theorem sg_abs (s : Bool) (t : Nat) : (sg s t).natAbs = t := by
  unfold sg; cases s <;> simp
theorem sg_min {s : Bool} {t : Nat} (h : t ≤ 16384) : IntKind.i64.min ≤ sg s t := by
  show (-9223372036854775808 : Int) ≤ _
  unfold sg; split <;> omega
theorem sg_max {s : Bool} {t : Nat} (h : t ≤ 16384) : sg s t ≤ IntKind.i64.max := by
  show _ ≤ (9223372036854775807 : Int)
  unfold sg; split <;> omega
theorem sg_neg {s : Bool} {t : Nat} (h : t ≠ 0) : decide (sg s t < 0) = s := by
  unfold sg
  cases s
  · exact decide_eq_false (by simp <;> omega)
  · exact decide_eq_true (by simp <;> omega)
theorem cmp_ne {s t : Bool} {a b : Nat} (hs : a = 0 ∨ s = t) : (some (compare (sg s a) (sg t b)) != some Ordering.eq) = !decide (a = b) := by
  by_cases h : a = b
  · have e := (cmp_iff _ _).2 ((sg_iff hs).2 h)
    rw [e, decide_eq_true h]
    rfl
  · have e : compare (sg s a) (sg t b) ≠ Ordering.eq := fun e => h ((sg_iff hs).1 ((cmp_iff _ _).1 e))
    rw [decide_eq_false h]
    cases hc : compare (sg s a) (sg t b) with
    | eq => exact absurd hc e
    | lt => rfl
    | gt => rfl

/-- What the reference finds of a number. -/
theorem facts32 {b m k : Nat} {neg : Bool} (N : N32 b neg m k) : cmpF .gtr .f32 b 2139095039 = some false ∧ cmpF .lss .f32 b 4286578687 = some false ∧
    ∃ r1 r2 : Bool, cmpF .lss .f32 b (FloatKind.f32.nearest (-1024)) = some r1 ∧ nanB .f32 (FloatKind.f32.nearest (-1024)) = false ∧ cmpF .gtr .f32 b (FloatKind.f32.nearest 1024) = some r2 ∧ nanB .f32 (FloatKind.f32.nearest 1024) = false ∧
      ((r1 = true ∨ r2 = true) → okU (m * 2 ^ (k + 4)) = false) ∧
      (r1 = false → r2 = false → ∃ (c z : Nat) (n : Int) (r3 : Bool), Ieee.single.mul 1098907648 b = some c ∧ nanB .f32 c = false ∧ (FloatKind.f32.decode c).toInt .zero = some n ∧ IntKind.i64.min ≤ n ∧ n ≤ IntKind.i64.max ∧ FloatKind.f32.nearest n = z ∧ nanB .f32 z = false ∧ cmpF .neq .f32 z c = some r3 ∧ okU (m * 2 ^ (k + 4)) = !r3) := by
  obtain ⟨D, hD⟩ : ∃ D : Nat, 2 ^ 149 = D := ⟨_, rfl⟩
  have hDp : 0 < D := by rw [← hD]; exact two_pow_pos 149
  have hV : V32 b neg (m * 2 ^ k) := ⟨m, k, N.read, rfl, N.hk⟩
  have hmax : ∃ K : Nat, K = 253 ∧ V32 2139095039 false (16777215 * 2 ^ K) ∧ V32 4286578687 true (16777215 * 2 ^ K) := by
    have h1 : Ieee.single.read 2139095039 = .number false 16777215 (-149 + (253 : Nat)) := by decide
    have h2 : Ieee.single.read 4286578687 = .number true 16777215 (-149 + (253 : Nat)) := by decide
    generalize hK : (253 : Nat) = K at h1 h2
    exact ⟨K, rfl, ⟨_, K, h1, rfl, by omega⟩, ⟨_, K, h2, rfl, by omega⟩⟩
  obtain ⟨K, hK, hM1, hM2⟩ := hmax
  have hsmall : m * 2 ^ k ≤ 16777215 * 2 ^ K := Nat.mul_le_mul (by have := N.hm; omega) (Nat.pow_le_pow_right (by decide) (by rw [hK]; exact N.hk))
  have h1024 : V32 (FloatKind.f32.nearest 1024) false (1024 * D) := by
    show V32 (Ieee.single.nearest false 1024 0) false _
    exact one32 hD 1024 (by decide)
  have hm1024 : V32 (FloatKind.f32.nearest (-1024)) true (1024 * D) := by
    show V32 (Ieee.single.nearest true 1024 0) true _
    exact one32 hD 1024 (by decide)
  have hU : m * 2 ^ (k + 4) = m * 2 ^ k * 16 := by rw [Nat.pow_add, ← Nat.mul_assoc]
  refine ⟨?_, ?_, neg && decide (1024 * D < m * 2 ^ k), !neg && decide (1024 * D < m * 2 ^ k), ?_, hm1024.nan, ?_, h1024.nan, fun hr => ?_, fun hr1 hr2 => ?_⟩
  · show some (Ieee.single.order _ _ == some .gt) = _
    rw [hV.order hM1]
    refine congrArg some (cmp_gt_pos.trans ?_)
    rw [decide_eq_false (by omega), Bool.and_false]
  · show some (Ieee.single.order _ _ == some .lt) = _
    rw [hV.order hM2]
    refine congrArg some (cmp_lt_neg.trans ?_)
    rw [decide_eq_false (by omega), Bool.and_false]
  · show some (Ieee.single.order _ _ == some .lt) = _
    rw [hV.order hm1024]
    exact congrArg some cmp_lt_neg
  · show some (Ieee.single.order _ _ == some .gt) = _
    rw [hV.order h1024]
    exact congrArg some cmp_gt_pos
  · have hgt : 1024 * D < m * 2 ^ k := by
      rcases hr with hr | hr
      · exact of_decide_eq_true (Bool.and_eq_true_iff.1 hr).2
      · exact of_decide_eq_true (Bool.and_eq_true_iff.1 hr).2
    rw [okU_eq hD, hU]
    unfold okD
    rw [decide_eq_false (by omega), Bool.false_and]
  · have hle : m * 2 ^ k ≤ 1024 * D := by
      by_cases h : 1024 * D < m * 2 ^ k
      · rw [decide_eq_true h] at hr1 hr2
        cases neg <;> simp at hr1 hr2
      · omega
    have hk : k ≤ 200 := by
      by_cases hm0 : m = 0
      · rw [N.hz hm0]; omega
      · by_cases hk : k ≤ 200
        · exact hk
        · have h1 : 2 ^ k ≤ m * 2 ^ k := Nat.le_mul_of_pos_left _ (by omega)
          have h2 : 2 ^ 201 ≤ 2 ^ k := Nat.pow_le_pow_right (by decide) (by omega)
          have h3 : 1024 * D < 2 ^ 201 := by rw [← hD]; decide
          omega
    obtain ⟨c, c1, c2⟩ := mul16' N hk
    have hok : okU (m * 2 ^ (k + 4)) = okD D (m * 2 ^ (k + 4)) := okU_eq hD _
    have hUle : m * 2 ^ (k + 4) ≤ 16384 * D := by rw [hU]; omega
    generalize m * 2 ^ (k + 4) = u at c2 hok hUle ⊢
    have hT : u / D ≤ 16384 := Nat.div_le_of_le_mul (by rw [Nat.mul_comm]; exact hUle)
    have hint : (FloatKind.f32.decode c).toInt .zero = some (sg neg (u / D)) := by
      obtain ⟨m', k', r1, r2, _⟩ := c2.ok
      have hd : FloatKind.f32.decode c = .number neg m' (-149 + k') := r1
      rw [hd]
      unfold Ieee.Datum.toInt
      have := integral_num 149 neg m' k'
      rw [show ((-149 : Int) + (k' : Int)) = (-((149 : Nat) : Int) + (k' : Int)) from rfl, this, r2, hD]
      show some (Ieee.signed neg (u / D) 0) = _
      rw [signed_sg, Nat.pow_zero, Nat.mul_one]
    have hz : V32 (FloatKind.f32.nearest (sg neg (u / D))) (decide (sg neg (u / D) < 0)) (u / D * D) := by
      rw [nearest_int, sg_abs]
      exact one32 hD _ (by omega)
    refine ⟨c, _, sg neg (u / D), !decide (u / D * D = u), c1, c2.nan, hint, sg_min hT, sg_max hT, rfl, hz.nan, ?_, ?_⟩
    · show some (Ieee.single.order _ _ != some .eq) = _
      rw [hz.order c2]
      refine congrArg some (cmp_ne ?_)
      by_cases h0 : u / D = 0
      · exact .inl (by rw [h0, Nat.zero_mul])
      · exact .inr (sg_neg h0)
    · rw [hok]
      unfold okD
      rw [decide_eq_true hUle, Bool.true_and, Bool.not_not]
end Go.Tidy
