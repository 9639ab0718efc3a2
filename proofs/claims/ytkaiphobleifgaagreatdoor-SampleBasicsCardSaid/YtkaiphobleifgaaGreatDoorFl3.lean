/- Binary floating point: a sample, sixteen times, both ways. -/
import Derived.Test.YtkaiphobleifgaaGreatDoorFl2
set_option linter.all false
namespace Go.Tidy
open Ieee Go

theorem not_nan {k : FloatKind} {b : Nat} {s : Bool} {m : Nat} {e : Int} (h : k.format.read b = .number s m e) : nanB k b = false := by
  cases hb : nanB k b with
  | false => rfl
  | true => obtain ⟨s', t', e'⟩ := nan_read hb; rw [e'] at h; cases h
theorem not_nan_inf {k : FloatKind} {b : Nat} {s : Bool} (h : k.format.read b = .infinity s) : nanB k b = false := by
  cases hb : nanB k b with
  | false => rfl
  | true => obtain ⟨s', t', e'⟩ := nan_read hb; rw [e'] at h; cases h
theorem lp64 : double.leastPlace = -1074 := by decide
theorem lp32 : single.leastPlace = -149 := by decide

/-- A float64 that is a number: its sign, and its size in the least units. -/
structure N64 (b : Nat) (neg : Bool) (q : Nat) : Prop where
  ok : ∃ m k : Nat, double.read b = .number neg m (-1074 + k) ∧ m * 2 ^ k = q ∧ m < 2 ^ 53 ∧ k ≤ 2046
theorem N64.nan {b : Nat} {neg : Bool} {q : Nat} (h : N64 b neg q) : nanB .f64 b = false := by
  obtain ⟨m, k, h1, _⟩ := h.ok
  exact not_nan (k := .f64) h1
theorem N64.order {b c : Nat} {s t : Bool} {q r : Nat} (h : N64 b s q) (g : N64 c t r) : double.order b c = some (compare (sg s q) (sg t r)) := by
  obtain ⟨m, k, h1, h2, _⟩ := h.ok
  obtain ⟨n, j, g1, g2, _⟩ := g.ok
  unfold Format.order
  rw [h1, g1, order_num, h2, g2]

theorem to64 {b : Nat} {neg : Bool} {m k : Nat} (N : N32 b neg m k) : N64 (double.nearest neg m (-149 + k)) neg (m * 2 ^ (925 + k)) := by
  have e : ((-149 : Int) + (k : Int) - double.leastPlace).toNat = 925 + k := by rw [lp64]; omega
  obtain ⟨m', k', r1, r2, r3, r4⟩ := read_nearest double neg m (-149 + k) (by have := N.hm; show m < 2 ^ 53; omega) (by rw [lp64]; omega) (by rw [e]; have := N.hk; show 925 + k + 3 ≤ 2 ^ 11; omega)
  rw [e] at r2 r4
  rw [lp64] at r1
  have := N.hk
  exact ⟨m', k', r1, r2, r3, by omega⟩

theorem read16 : double.read 4625196817309499392 = .number false 4503599627370496 (-48) := by decide
/-- Sixteen times. -/
theorem mul16 {b : Nat} {neg : Bool} {m1 k1 : Nat} (hr : double.read b = .number neg m1 (-1074 + k1)) (hm : m1 < 2 ^ 53) (hk : k1 ≤ 1200) : ∃ c, double.mul 4625196817309499392 b = some c ∧ N64 c neg (m1 * 2 ^ (k1 + 4)) := by
  have e0 : (-48 : Int) + (-1074 + (k1 : Int)) + (52 : Nat) = -1070 + k1 := by omega
  have hsh := nearest_shift double neg m1 52 (-48 + (-1074 + (k1 : Int))) hm (by rw [lp64, e0]; omega)
  rw [e0] at hsh
  refine ⟨double.nearest neg m1 (-1070 + k1), ?_, ?_⟩
  · unfold Format.mul
    rw [read16, hr]
    show some (double.nearest (false ^^ neg) (4503599627370496 * m1) (-48 + (-1074 + (k1 : Int)))) = _
    rw [← hsh, Nat.mul_comm]
    congr 1
    cases neg <;> rfl
  · have e : ((-1070 : Int) + (k1 : Int) - double.leastPlace).toNat = k1 + 4 := by rw [lp64]; omega
    obtain ⟨m', k', r1, r2, r3, r4⟩ := read_nearest double neg m1 (-1070 + k1) hm (by rw [lp64]; omega) (by rw [e]; show k1 + 4 + 3 ≤ 2 ^ 11; omega)
    rw [e] at r2 r4
    rw [lp64] at r1
    exact ⟨m', k', r1, r2, r3, by omega⟩

/-- Made whole. -/
theorem trunc64 {b : Nat} {neg : Bool} {q : Nat} (h : N64 b neg q) (hq : q / 2 ^ 1074 < 2 ^ 53) : N64 (double.write ((double.read b).integral .zero)) neg (q / 2 ^ 1074 * 2 ^ 1074) := by
  obtain ⟨m, k, h1, h2, _⟩ := h.ok
  rw [h1]
  have := integral_num 1074 neg m k
  rw [show ((-1074 : Int) + (k : Int)) = (-((1074 : Nat) : Int) + (k : Int)) from rfl, this, h2]
  have e : ((0 : Int) - double.leastPlace).toNat = 1074 := by rw [lp64]; rfl
  obtain ⟨m', k', r1, r2, r3, r4⟩ := read_nearest double neg (q / 2 ^ 1074) 0 hq (by rw [lp64]; decide) (by rw [e]; decide)
  rw [e] at r2 r4
  rw [lp64] at r1
  exact ⟨m', k', r1, r2, r3, by omega⟩

/-- Without its sign. -/
theorem abs64 {b : Nat} {neg : Bool} {q : Nat} (h : N64 b neg q) : N64 (b % 2 ^ 63) false q := by
  obtain ⟨m, k, h1, h2, h3⟩ := h.ok
  refine ⟨m, k, ?_, h2, h3⟩
  have hs : double.signWeight = 2 ^ 63 := rfl
  unfold Format.read at h1 ⊢
  rw [hs] at h1 ⊢
  have e1 : b % 2 ^ 63 % 2 ^ 63 = b % 2 ^ 63 := Nat.mod_mod _ _
  have e2 : b % 2 ^ 63 / 2 ^ 63 = 0 := Nat.div_eq_of_lt (Nat.mod_lt _ (by decide))
  simp only [e1, e2] at h1 ⊢
  split at h1
  · rename_i hlt; rw [if_pos hlt]; injection h1 with x1 x2 x3; rw [← x2, ← x3]; rfl
  · rename_i hlt
    rw [if_neg hlt]
    split at h1
    · rename_i hi; rw [if_pos hi]; injection h1 with x1 x2 x3; rw [← x2, ← x3]; rfl
    · split at h1 <;> cases h1

theorem read16384 : N64 4670232813583204352 false (16384 * 2 ^ 1074) := by
  refine ⟨4503599627370496, 1036, by decide, ?_, by decide, by decide⟩
  have e1 : (4503599627370496 : Nat) = 2 ^ 52 := rfl
  have e2 : (16384 : Nat) = 2 ^ 14 := rfl
  have key : ∀ x y u v : Nat, x + y = u + v → (2 : Nat) ^ x * 2 ^ y = 2 ^ u * 2 ^ v := fun x y u v h => by rw [← Nat.pow_add, ← Nat.pow_add, h]
  rw [e1, e2]
  exact key 52 1036 14 1074 rfl
theorem near16384 : FloatKind.f64.nearest 16384 = 4670232813583204352 := by decide

end Go.Tidy
