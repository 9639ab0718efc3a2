/- Binary floating point: samples. -/
import Derived.Test.YtkaiphobleifgaaGreatDoorFl1
import Derived.Test.YtkaiphobleifgaaGreatDoorTd5
set_option linter.all false
namespace Go.Tidy
open Ieee Go

theorem log2_shift (m j : Nat) (hm : m ≠ 0) : (m * 2 ^ j).log2 = m.log2 + j := by
  have h1 := Nat.log2_self_le hm
  have h2 := Nat.lt_log2_self (n := m)
  have hne : m * 2 ^ j ≠ 0 := Nat.mul_ne_zero hm (Nat.ne_of_gt (two_pow_pos j))
  have h3 : 2 ^ (m.log2 + j) ≤ m * 2 ^ j := by rw [Nat.pow_add]; exact Nat.mul_le_mul_right _ h1
  have h4 : m * 2 ^ j < 2 ^ (m.log2 + j + 1) := by
    have : m * 2 ^ j < 2 ^ (m.log2 + 1) * 2 ^ j := Nat.mul_lt_mul_of_pos_right h2 (two_pow_pos j)
    rw [← Nat.pow_add] at this
    have e : m.log2 + 1 + j = m.log2 + j + 1 := by omega
    rwa [e] at this
  have a1 := Nat.log2_self_le hne
  have a2 := Nat.lt_log2_self (n := m * 2 ^ j)
  have b1 : m.log2 + j < (m * 2 ^ j).log2 + 1 := (Nat.pow_lt_pow_iff_right (by decide : 1 < 2)).1 (by omega)
  have b2 : (m * 2 ^ j).log2 < m.log2 + j + 1 := (Nat.pow_lt_pow_iff_right (by decide : 1 < 2)).1 (by omega)
  omega

/-- A number is written in one way, however it is told. -/
theorem nearest_shift (f : Format) (neg : Bool) (m j : Nat) (e : Int) (hm : m < 2 ^ (f.fractionBits + 1)) (he : f.leastPlace ≤ e + j) : f.nearest neg (m * 2 ^ j) e = f.nearest neg m (e + j) := by
  by_cases h0 : m = 0
  · subst h0; simp [Format.nearest]
  have hne : m * 2 ^ j ≠ 0 := Nat.mul_ne_zero h0 (Nat.ne_of_gt (two_pow_pos j))
  unfold Format.nearest
  rw [if_neg h0, if_neg hne, log2_shift m j h0]
  have hLf : m.log2 ≤ f.fractionBits := by
    have h1 := Nat.log2_self_le h0
    have : 2 ^ m.log2 < 2 ^ (f.fractionBits + 1) := by omega
    have := (Nat.pow_lt_pow_iff_right (by decide : 1 < 2)).1 this
    omega
  have hl : max (e + ((m.log2 + j : Nat) : Int) - (f.fractionBits : Int)) f.leastPlace = max (e + (j : Int) + (m.log2 : Int) - (f.fractionBits : Int)) f.leastPlace := by congr 1; omega
  rw [hl]
  generalize hlast : max (e + (j : Int) + (m.log2 : Int) - (f.fractionBits : Int)) f.leastPlace = last
  have hle : last ≤ e + j := by omega
  have e2 : (last - (e + (j : Int))).toNat = 0 := by omega
  simp only [e2, cut_zero_drop]
  congr 4
  by_cases hc : last ≤ e
  · have e3 : (last - e).toNat = 0 := by omega
    rw [e3, cut_zero_drop, Nat.shiftLeft_eq, Nat.shiftLeft_eq, Nat.mul_assoc, ← Nat.pow_add]
    congr 2
    omega
  · obtain ⟨t, ht⟩ : ∃ t : Nat, last - e = t := ⟨(last - e).toNat, by omega⟩
    have e3 : (last - e).toNat = t := by omega
    have e4 : (e - last).toNat = 0 := by omega
    have htj : t ≤ j := by omega
    rw [e3, e4, Nat.shiftLeft_zero, Nat.shiftLeft_eq]
    have e5 : (e + (j : Int) - last).toNat = j - t := by omega
    rw [e5]
    unfold Toward.cut
    rw [log2_shift m j h0]
    have hmin : min t (m.log2 + j + 2) = t := by omega
    have hsp : m * 2 ^ j = m * 2 ^ (j - t) * 2 ^ t := by rw [Nat.mul_assoc, ← Nat.pow_add]; congr 2; omega
    simp only [hmin, Nat.shiftLeft_eq, Nat.one_mul]
    have hp := two_pow_pos t
    rw [hsp, Nat.mul_div_cancel _ hp, Nat.mul_mod_left]
    have : (2 ^ t == 2 * 0) = false := by
      have := two_pow_pos t
      simp
    simp

/-- With its sign. -/
def sg (neg : Bool) (q : Nat) : Int := if neg then -(q : Int) else (q : Int)
theorem signed_sg (s : Bool) (m up : Nat) : signed s m up = sg s (m * 2 ^ up) := by
  unfold signed sg
  rw [Nat.shiftLeft_eq]
theorem sg_mul (s : Bool) (q c : Nat) : sg s (q * c) = sg s q * (c : Int) := by
  unfold sg
  cases s <;> simp [Int.neg_mul]
theorem compare_mul (a b : Int) {c : Nat} (hc : 0 < c) : compare (a * (c : Int)) (b * (c : Int)) = compare a b := by
  have hc' : (0 : Int) < c := by omega
  simp only [compare, compareOfLessAndEq]
  have h1 : a * (c : Int) < b * (c : Int) ↔ a < b := Int.mul_lt_mul_right hc'
  have h2 : a * (c : Int) = b * (c : Int) ↔ a = b := Int.mul_eq_mul_right_iff (by omega)
  simp only [h1, h2]
theorem order_num (lp : Int) (s t : Bool) (m n i j : Nat) : Datum.order (.number s m (lp + i)) (.number t n (lp + j)) = some (compare (sg s (m * 2 ^ i)) (sg t (n * 2 ^ j))) := by
  show some (compare _ _) = _
  congr 1
  have h1 : (lp + (i : Int) - min (lp + (i : Int)) (lp + (j : Int))).toNat = i - min i j := by omega
  have h2 : (lp + (j : Int) - min (lp + (i : Int)) (lp + (j : Int))).toNat = j - min i j := by omega
  rw [h1, h2, signed_sg, signed_sg, ← compare_mul _ _ (two_pow_pos (min i j)), ← sg_mul, ← sg_mul, Nat.mul_assoc, Nat.mul_assoc, ← Nat.pow_add, ← Nat.pow_add]
  have h3 : i - min i j + min i j = i := by omega
  have h4 : j - min i j + min i j = j := by omega
  rw [h3, h4]

theorem cut_zero_div (neg : Bool) (n d : Nat) : Toward.zero.cut neg n d = n / 2 ^ d := by
  unfold Toward.cut
  simp only [Bool.toNat_false, Nat.add_zero, Nat.shiftLeft_eq, Nat.one_mul]
  by_cases h : d ≤ n.log2 + 2
  · rw [Nat.min_eq_left h]
  · rw [Nat.min_eq_right (by omega)]
    have h1 : n < 2 ^ (n.log2 + 1) := Nat.lt_log2_self
    have h2 : 2 ^ (n.log2 + 1) ≤ 2 ^ (n.log2 + 2) := Nat.pow_le_pow_right (by decide) (by omega)
    have h3 : 2 ^ (n.log2 + 1) ≤ 2 ^ d := Nat.pow_le_pow_right (by decide) (by omega)
    rw [Nat.div_eq_of_lt (by omega), Nat.div_eq_of_lt (by omega)]
/-- Made whole, towards zero. -/
theorem integral_num (lp : Nat) (s : Bool) (m i : Nat) : Datum.integral .zero (.number s m (-(lp : Int) + i)) = .number s (m * 2 ^ i / 2 ^ lp) 0 := by
  show Datum.number s (Toward.zero.cut s (m <<< (-(lp : Int) + (i : Int)).toNat) (-(-(lp : Int) + (i : Int))).toNat) 0 = _
  rw [cut_zero_div, Nat.shiftLeft_eq]
  congr 1
  by_cases h : i ≤ lp
  · have e1 : (-(lp : Int) + (i : Int)).toNat = 0 := by omega
    have e2 : (-(-(lp : Int) + (i : Int))).toNat = lp - i := by omega
    have e3 : 2 ^ lp = 2 ^ i * 2 ^ (lp - i) := by rw [← Nat.pow_add]; congr 1; omega
    rw [e1, e2, e3, Nat.mul_comm m (2 ^ i), Nat.mul_div_mul_left _ _ (two_pow_pos i)]
    simp
  · have e1 : (-(lp : Int) + (i : Int)).toNat = i - lp := by omega
    have e2 : (-(-(lp : Int) + (i : Int))).toNat = 0 := by omega
    have e3 : m * 2 ^ i = m * 2 ^ (i - lp) * 2 ^ lp := by rw [Nat.mul_assoc, ← Nat.pow_add]; congr 2; omega
    rw [e1, e2, e3, Nat.mul_div_cancel _ (two_pow_pos lp)]
    simp

/-- A float32 that is a number. -/
structure N32 (b : Nat) (neg : Bool) (m k : Nat) : Prop where
  read : single.read b = .number neg m (-149 + k)
  hm : m < 2 ^ 24
  hk : k ≤ 253
  hz : m = 0 → k = 0
theorem single_cases (b : Nat) : nanB .f32 b = true ∨ (∃ s, single.read b = .infinity s) ∨ ∃ neg m k, N32 b neg m k := by
  have hb : single.binade = 8388608 := rfl
  have hi : single.infRung = 2139095040 := rfl
  have hs : single.signWeight = 2147483648 := rfl
  have hl : single.leastPlace = -149 := rfl
  by_cases h1 : b % 2147483648 < 8388608
  · refine .inr (.inr ⟨b / 2147483648 % 2 == 1, b % 2147483648, 0, ?_, by omega, by omega, fun _ => rfl⟩)
    unfold Format.read
    simp only [hb, hs, hl, if_pos h1]
    rfl
  · by_cases h2 : b % 2147483648 < 2139095040
    · refine .inr (.inr ⟨b / 2147483648 % 2 == 1, 8388608 + b % 2147483648 % 8388608, b % 2147483648 / 8388608 - 1, ?_, by omega, by omega, fun h => by omega⟩)
      unfold Format.read
      simp only [hb, hs, hl, hi, if_neg h1, if_pos h2]
    · by_cases h3 : b % 2147483648 = 2139095040
      · refine .inr (.inl ⟨b / 2147483648 % 2 == 1, ?_⟩)
        unfold Format.read
        simp only [hb, hs, hi, if_neg h1, if_neg h2, if_pos h3]
      · refine .inl ?_
        simp only [nanB, Nat.blt_eq]
        omega

end Go.Tidy
