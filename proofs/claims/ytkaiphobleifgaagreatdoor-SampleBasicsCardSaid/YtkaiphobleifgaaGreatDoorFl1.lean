/- Binary floating point: what is exact stays. -/
import Ieee.Arith
set_option linter.all false
namespace Go.Tidy
open Ieee

theorem cut_zero_drop (way : Toward) (neg : Bool) (n : Nat) : way.cut neg n 0 = n := by
  unfold Toward.cut
  simp only [Nat.zero_min, Nat.shiftLeft_zero, Nat.div_one, Nat.mod_one]
  cases way <;> simp

theorem two_pow_pos (k : Nat) : 0 < 2 ^ k := Nat.pow_pos (by decide)

/-- A format in which things are as they should be. -/
structure Fine (f : Format) : Prop where
  eb : 2 ≤ f.exponentBits
theorem fine_single : Fine single := ⟨by decide⟩
theorem fine_double : Fine double := ⟨by decide⟩

theorem sw_eq (f : Format) : f.signWeight = 2 ^ f.exponentBits * f.binade := by unfold Format.signWeight Format.binade; rw [Nat.pow_add]
theorem inf_lt (f : Format) : f.infRung + f.binade = f.signWeight := by
  rw [sw_eq]
  unfold Format.infRung
  have h : 1 ≤ 2 ^ f.exponentBits := two_pow_pos _
  rw [← Nat.succ_mul]
  congr 1
  omega

theorem read_word (f : Format) (neg : Bool) (rung : Nat) (h : rung < f.signWeight) : f.word neg rung / f.signWeight % 2 = neg.toNat ∧ f.word neg rung % f.signWeight = rung := by
  unfold Format.word
  cases neg
  · simp [Nat.div_eq_of_lt h, Nat.mod_eq_of_lt h]
  · have hp : 0 < f.signWeight := Nat.pow_pos (by decide)
    simp [Nat.add_div_left _ hp, Nat.div_eq_of_lt h, Nat.mod_eq_of_lt h]

/-- A number that the format has is written as it is. -/
theorem read_nearest (f : Format) (neg : Bool) (m : Nat) (e : Int) (hm : m < 2 ^ (f.fractionBits + 1)) (he : f.leastPlace ≤ e) (hbig : (e - f.leastPlace).toNat + 3 ≤ 2 ^ f.exponentBits) :
    ∃ (m' : Nat) (k : Nat), f.read (f.nearest neg m e) = .number neg m' (f.leastPlace + k) ∧ m' * 2 ^ k = m * 2 ^ (e - f.leastPlace).toNat ∧ m' < 2 ^ (f.fractionBits + 1) ∧ k ≤ (e - f.leastPlace).toNat := by
  have hbp : 0 < f.binade := two_pow_pos _
  have hb2 : 2 ^ (f.fractionBits + 1) = 2 * f.binade := by unfold Format.binade; rw [Nat.pow_succ]; omega
  have hinf := inf_lt f
  have hir : f.infRung = (2 ^ f.exponentBits - 1) * f.binade := rfl
  have hcmp : ∀ neg', (f.word neg' 0 / f.signWeight % 2 == 1) = neg' := fun neg' => by
    rw [(read_word f neg' 0 (by omega)).1]; cases neg' <;> rfl
  -- reading a rung
  have rd : ∀ rung, rung < f.infRung → ∃ (m' : Nat) (k : Nat), f.read (f.word neg rung) = .number neg m' (f.leastPlace + k) ∧ m' < 2 ^ (f.fractionBits + 1) ∧ (rung < f.binade → m' = rung ∧ k = 0) ∧ (f.binade ≤ rung → m' = f.binade + rung % f.binade ∧ k = rung / f.binade - 1) := by
    intro rung hr
    obtain ⟨w1, w2⟩ := read_word f neg rung (by omega)
    have hs : (neg.toNat == 1) = neg := by cases neg <;> rfl
    by_cases hlt : rung < f.binade
    · refine ⟨rung, 0, ?_, by omega, fun _ => ⟨rfl, rfl⟩, fun h => by omega⟩
      unfold Format.read
      simp only [w1, w2, hs, if_pos hlt]
      simp
    · refine ⟨f.binade + rung % f.binade, rung / f.binade - 1, ?_, by have := Nat.mod_lt rung hbp; omega, fun h => absurd h hlt, fun _ => ⟨rfl, rfl⟩⟩
      unfold Format.read
      simp only [w1, w2, hs, if_neg hlt, if_pos hr]
  by_cases h0 : m = 0
  · subst h0
    obtain ⟨m', k, r1, r2, r3, _⟩ := rd 0 (by
      have : 1 ≤ 2 ^ f.exponentBits - 1 := by have := hbig; omega
      rw [hir]; exact Nat.mul_pos this hbp)
    obtain ⟨rfl, rfl⟩ := r3 hbp
    refine ⟨0, 0, ?_, by simp, r2, by omega⟩
    unfold Format.nearest
    rw [if_pos rfl]
    exact r1
  have hL1 := Nat.log2_self_le h0
  have hL2 := Nat.lt_log2_self (n := m)
  have hLf : m.log2 ≤ f.fractionBits := by
    have : 2 ^ m.log2 < 2 ^ (f.fractionBits + 1) := by omega
    have := (Nat.pow_lt_pow_iff_right (by decide : 1 < 2)).1 this
    omega
  obtain ⟨d, hd⟩ : ∃ d : Nat, e = f.leastPlace + d := ⟨(e - f.leastPlace).toNat, by omega⟩
  subst hd
  have hdd : (f.leastPlace + (d : Int) - f.leastPlace).toNat = d := by omega
  rw [hdd] at hbig ⊢
  unfold Format.nearest
  rw [if_neg h0]
  by_cases hsub : d + m.log2 ≤ f.fractionBits
  · have hlast : max (f.leastPlace + (d : Int) + (m.log2 : Int) - (f.fractionBits : Int)) f.leastPlace = f.leastPlace := by omega
    simp only [hlast]
    have e1 : (f.leastPlace + (d : Int) - f.leastPlace).toNat = d := by omega
    have e2 : (f.leastPlace - (f.leastPlace + (d : Int))).toNat = 0 := by omega
    have e3 : (f.leastPlace - f.leastPlace).toNat = 0 := by omega
    rw [e1, e2, e3, cut_zero_drop, Nat.zero_mul, Nat.zero_add, Nat.shiftLeft_eq]
    have hk : m * 2 ^ d < 2 * f.binade := by
      have h1 : m * 2 ^ d < 2 ^ (m.log2 + 1) * 2 ^ d := Nat.mul_lt_mul_of_pos_right hL2 (two_pow_pos d)
      rw [← Nat.pow_add] at h1
      have h2 : 2 ^ (m.log2 + 1 + d) ≤ 2 ^ (f.fractionBits + 1) := Nat.pow_le_pow_right (by decide) (by omega)
      omega
    have h3 : 2 * f.binade ≤ f.infRung := by
      rw [hir]
      exact Nat.mul_le_mul_right _ (by omega)
    rw [Nat.min_eq_left (by omega)]
    obtain ⟨m', k, r1, r2, r3, r4⟩ := rd (m * 2 ^ d) (by omega)
    by_cases hlt : m * 2 ^ d < f.binade
    · obtain ⟨rfl, rfl⟩ := r3 hlt; exact ⟨_, _, r1, by simp, r2, by omega⟩
    · obtain ⟨rfl, rfl⟩ := r4 (by omega)
      have hq : m * 2 ^ d / f.binade = 1 := by
        apply Nat.div_eq_of_lt_le <;> omega
      have hmod : m * 2 ^ d % f.binade = m * 2 ^ d - f.binade := by
        rw [Nat.mod_eq_sub_mod (by omega), Nat.mod_eq_of_lt (by omega)]
      refine ⟨_, _, r1, ?_, r2, by rw [hq]; omega⟩
      rw [hq, hmod]
      simp
      omega
  · obtain ⟨g, hg⟩ : ∃ g : Nat, d + m.log2 = f.fractionBits + g := ⟨d + m.log2 - f.fractionBits, by omega⟩
    have hlast : max (f.leastPlace + (d : Int) + (m.log2 : Int) - (f.fractionBits : Int)) f.leastPlace = f.leastPlace + g := by omega
    simp only [hlast]
    have e1 : (f.leastPlace + (d : Int) - (f.leastPlace + (g : Int))).toNat = f.fractionBits - m.log2 := by omega
    have e2 : (f.leastPlace + (g : Int) - (f.leastPlace + (d : Int))).toNat = 0 := by omega
    have e3 : (f.leastPlace + (g : Int) - f.leastPlace).toNat = g := by omega
    rw [e1, e2, e3, cut_zero_drop, Nat.shiftLeft_eq]
    have hlo : f.binade ≤ m * 2 ^ (f.fractionBits - m.log2) := by
      have h1 : 2 ^ m.log2 * 2 ^ (f.fractionBits - m.log2) ≤ m * 2 ^ (f.fractionBits - m.log2) := Nat.mul_le_mul_right _ hL1
      rw [← Nat.pow_add] at h1
      have : m.log2 + (f.fractionBits - m.log2) = f.fractionBits := by omega
      rw [this] at h1
      exact h1
    have hhi : m * 2 ^ (f.fractionBits - m.log2) < 2 * f.binade := by
      have h1 : m * 2 ^ (f.fractionBits - m.log2) < 2 ^ (m.log2 + 1) * 2 ^ (f.fractionBits - m.log2) := Nat.mul_lt_mul_of_pos_right hL2 (two_pow_pos _)
      rw [← Nat.pow_add] at h1
      have : m.log2 + 1 + (f.fractionBits - m.log2) = f.fractionBits + 1 := by omega
      rw [this] at h1
      omega
    generalize hkept : m * 2 ^ (f.fractionBits - m.log2) = kept at hlo hhi
    have hgd : g ≤ d := by omega
    have h3 : (g + 2) * f.binade ≤ f.infRung := by
      rw [hir]
      exact Nat.mul_le_mul_right _ (by omega)
    have h4 : (g + 2) * f.binade = g * f.binade + 2 * f.binade := Nat.add_mul _ _ _
    rw [Nat.min_eq_left (by omega)]
    obtain ⟨m', k, r1, r2, r3, r4⟩ := rd (g * f.binade + kept) (by omega)
    have hge : f.binade ≤ g * f.binade + kept := by omega
    obtain ⟨rfl, rfl⟩ := r4 hge
    have hq : (g * f.binade + kept) / f.binade = g + 1 := by
      rw [Nat.add_comm, Nat.add_mul_div_right _ _ hbp]
      have : kept / f.binade = 1 := by apply Nat.div_eq_of_lt_le <;> omega
      omega
    have hmod : (g * f.binade + kept) % f.binade = kept - f.binade := by
      rw [Nat.add_comm, Nat.add_mul_mod_self_right, Nat.mod_eq_sub_mod hlo, Nat.mod_eq_of_lt (by omega)]
    refine ⟨_, _, r1, ?_, r2, by rw [hq]; omega⟩
    rw [hq, hmod, ← hkept]
    have e4 : f.binade + (m * 2 ^ (f.fractionBits - m.log2) - f.binade) = m * 2 ^ (f.fractionBits - m.log2) := by omega
    rw [e4, Nat.mul_assoc, ← Nat.pow_add]
    congr 2
    omega

end Go.Tidy
