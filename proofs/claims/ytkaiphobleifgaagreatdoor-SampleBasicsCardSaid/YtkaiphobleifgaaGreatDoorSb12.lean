/- Samples are checked: the program's way, to the end. -/
import Derived.Test.YtkaiphobleifgaaGreatDoorSb11
set_option linter.all false
namespace Go.Tidy
open Go Go.Proofs Tab
variable {tp : TProg}

theorem pw (a b c : Nat) (h : c = a + b) : (2 : Nat) ^ c = 2 ^ a * 2 ^ b := by rw [h, Nat.pow_add]

theorem shift4 {a m m' k k' E : Nat} (h : m' * 2 ^ k' = m * 2 ^ (a + k)) (hE : 2 ^ a = E) : m' * 2 ^ (k' + 4) = m * 2 ^ (k + 4) * E := by
  rw [Nat.pow_add 2 k' 4, ← Nat.mul_assoc, h, Nat.pow_add 2 a k, hE, Nat.pow_add 2 k 4]
  generalize (2 : Nat) ^ k = K
  generalize (2 : Nat) ^ 4 = F
  rw [Nat.mul_comm E K, ← Nat.mul_assoc, ← Nat.mul_assoc, Nat.mul_right_comm]
theorem w16 {b m k E : Nat} {neg : Bool} (N : N32 b neg m k) (hE : 2 ^ 925 = E) : ∃ c, Ieee.double.mul 4625196817309499392 (Ieee.double.nearest neg m (-149 + k)) = some c ∧ N64 c neg (m * 2 ^ (k + 4) * E) := by
  have e : ((-149 : Int) + (k : Int) - Ieee.double.leastPlace).toNat = 925 + k := by rw [lp64]; omega
  obtain ⟨m', k', r1, r2, r3, r4⟩ := read_nearest Ieee.double neg m (-149 + k) (by have := N.hm; show m < 2 ^ 53; omega) (by rw [lp64]; omega) (by rw [e]; have := N.hk; show 925 + k + 3 ≤ 2 ^ 11; omega)
  rw [e] at r2 r4
  rw [lp64] at r1
  have := N.hk
  obtain ⟨c, c1, c2⟩ := mul16 r1 r3 (by omega)
  refine ⟨c, c1, ?_⟩
  rw [← shift4 r2 hE]
  exact c2
theorem trunc64' {b q S : Nat} {neg : Bool} (hS : 2 ^ 1074 = S) (h : N64 b neg q) (hq : q / S < 9007199254740992) : N64 (Ieee.double.write ((Ieee.double.read b).integral .zero)) neg (q / S * S) := by
  rw [← hS] at hq ⊢
  exact trunc64 h hq
theorem read16384' {S : Nat} (hS : 2 ^ 1074 = S) : N64 4670232813583204352 false (16384 * S) := by
  rw [← hS]
  exact read16384

/-- Is it a sample? Of a number's size in the least units, times sixteen. -/
def okD (D u : Nat) : Bool := decide (u ≤ 16384 * D) && decide (u / D * D = u)
def okU (u : Nat) : Bool := okD (2 ^ 149) u
theorem okU_eq {D : Nat} (hD : 2 ^ 149 = D) (u : Nat) : okU u = okD D u := by rw [← hD]; rfl

theorem cmp_le {a b : Nat} : (compare (sg false a) (sg false b) == Ordering.lt || compare (sg false a) (sg false b) == Ordering.eq) = decide (a ≤ b) := by
  simp only [compare, compareOfLessAndEq, sg]
  by_cases h1 : a < b
  · have e1 : (a : Int) < (b : Int) := by omega
    have e2 : a ≤ b := by omega
    simp [e1, e2]
  · by_cases h2 : a = b
    · subst h2; simp
    · have e1 : ¬ (a : Int) < (b : Int) := by omega
      have e2 : ¬ (a : Int) = (b : Int) := by omega
      have e3 : ¬ a ≤ b := by omega
      simp [e1, e2, e3]
theorem cmp_eq {s : Bool} {a b : Nat} : (some (compare (sg s a) (sg s b)) == some Ordering.eq) = decide (a = b) := by
  simp only [compare, compareOfLessAndEq, sg]
  by_cases h2 : a = b
  · subst h2; simp
  · have e1 : ¬ (a : Int) = (b : Int) := by omega
    cases s <;> simp [h2, e1]
    · split <;> simp
    · split <;> simp

/-- What the program finds of a number: whether it is small enough, and, if so, whether it is whole. -/
theorem facts16 {b m k : Nat} {neg : Bool} (N : N32 b neg m k) : ∃ (w c t : Nat) (r1 r2 : Bool), pv Tryz.prog (convert 25 241 (.float .f32 b)) = some (.float .f64 w) ∧ nanB .f64 w = false ∧ Ieee.double.mul 4625196817309499392 w = some c ∧ nanB .f64 c = false ∧ nanB .f64 (c % 2 ^ 63) = false ∧
    cmpF .leq .f64 (c % 2 ^ 63) 4670232813583204352 = some r1 ∧ (r1 = true → nanB .f64 t = false ∧ Bare.run .trunc [.float .f64 c] = some (.float .f64 t) ∧ cmpF .eql .f64 c t = some r2) ∧ okU (m * 2 ^ (k + 4)) = (r1 && r2) := by
  have hN := to64 N
  obtain ⟨E, hE⟩ : ∃ E : Nat, 2 ^ 925 = E := ⟨_, rfl⟩
  obtain ⟨D, hD⟩ : ∃ D : Nat, 2 ^ 149 = D := ⟨_, rfl⟩
  obtain ⟨S, hS⟩ : ∃ S : Nat, 2 ^ 1074 = S := ⟨_, rfl⟩
  have hs : S = D * E := by rw [← hS, ← hD, ← hE]; exact pw 149 925 1074 rfl
  have hEp : 0 < E := by rw [← hE]; exact two_pow_pos 925
  have hDp : 0 < D := by rw [← hD]; exact two_pow_pos 149
  obtain ⟨c, c1, c2⟩ := w16 N hE
  have h16 := read16384' hS
  have htr := trunc64' hS c2
  rw [okU_eq hD]
  unfold okD
  clear hE hD hS
  subst hs
  generalize m * 2 ^ (k + 4) = u at c2 htr ⊢
  refine ⟨_, c, Ieee.double.write ((Ieee.double.read c).integral .zero), _, _, conv64 N, hN.nan, c1, c2.nan, (abs64 c2).nan, ?_, fun hd => ?_, rfl⟩
  · show some (Ieee.double.order _ _ == some .lt || Ieee.double.order _ _ == some .eq) = _
    rw [(abs64 c2).order h16]
    refine congrArg some ((cmp_le).trans ?_)
    rw [← Nat.mul_assoc]
    apply decide_eq_decide.2
    exact ⟨fun h => Nat.le_of_mul_le_mul_right h hEp, fun h => Nat.mul_le_mul_right _ h⟩
  · have hle : u ≤ 16384 * D := of_decide_eq_true hd
    have hq : u * E / (D * E) = u / D := Nat.mul_div_mul_right _ _ hEp
    have hu : u / D ≤ 16384 := Nat.div_le_of_le_mul (by rw [Nat.mul_comm]; exact hle)
    have hT := htr (by rw [hq]; exact Nat.lt_of_le_of_lt hu (by decide))
    refine ⟨hT.nan, trunc_word c2, ?_⟩
    show some (Ieee.double.order _ _ == some .eq) = _
    rw [c2.order hT, hq]
    refine congrArg some (cmp_eq.trans (decide_eq_decide.2 ?_))
    rw [← Nat.mul_assoc]
    exact ⟨fun h => (Nat.eq_of_mul_eq_mul_right hEp h).symm, fun h => by rw [h]⟩

theorem k99 (H : Has tp) (X : HasX tp) {b m k : Nat} {neg : Bool} (N : N32 b neg m k) (h : TH) : CallW Tryz.prog tp (.func (.func 99) #[] #[]) #[.float .f32 b, .int .i64 1024] h fun v h' => v = .bool (okU (m * 2 ^ (k + 4))) ∧ h' = h := by
  obtain ⟨w, c, t, r1, r2, f1, f2, f3, f4, f5, f6, f7, f8⟩ := facts16 N
  rw [f8]
  have hb := nan32 N
  clear f8 N
  refine CallW.full (H.fn 99 f99 rfl rfl) rfl ?_
  refine W.seq (W.reg (WO.as rfl (WO.nil ?_)))
  refine W.seq (W.reg (WO.mv rfl (WO.conv rfl (plain_float hb) f1 (plain_float f2) (WO.fmul rfl rfl (by decide) f2 f3 f4 (WO.as rfl (WO.nil ?_))))))
  refine W.seq (W.reg (WO.mv rfl (WO.cl1 rfl rfl ((k171 H X f4 h).mono ?_))))
  rintro v h ⟨rfl, rfl⟩
  refine WO.mv rfl (WO.bi (v := .int .i64 16384) rfl rfl rfl ?_)
  refine WO.conv rfl rfl (conv_i2f u3 u241) (by rw [near16384]; rfl) ?_
  rw [near16384]
  refine WO.fcmp rfl rfl f5 (by decide) f6 (WO.mv rfl ?_)
  cases r1 with
  | false =>
    repeat' (first
    | refine WO.mv rfl ?_ | refine WO.as rfl ?_ | refine WO.bi rfl rfl rfl ?_
    | refine WO.nil ?_
    | refine W.seq ?_ | refine W.reg ?_ | refine W.ret ?_ | refine W.skip ?_ | refine W.exit ?_ | refine W.block ?_
    | refine WO.nt rfl ?_
    | with_reducible refine OnB.yes ?_ | with_reducible refine OnB.no ?_ | with_reducible refine OnB.way (fun hb => ?_) (fun hb => ?_)
    | refine WO.gu rfl rfl ?_ | refine WO.gt rfl rfl ?_ | refine WO.gf rfl rfl ?_
    | refine WO.pk rfl rfl rfl ?_
    | refine W.cd rfl ?_)
    exact ⟨.inr rfl, _, rfl, rfl, rfl⟩
  | true =>
    obtain ⟨g1, g2, g3⟩ := f7 rfl
    refine WO.gt rfl rfl (OnB.yes (WO.mv rfl (WO.gt rfl rfl (OnB.yes (WO.mv rfl (WO.gt rfl rfl (OnB.yes (WO.cl1 rfl rfl ((k172 H X f4 g1 g2 h).mono ?_)))))))))
    rintro v h ⟨rfl, rfl⟩
    refine WO.gt rfl rfl (OnB.yes (WO.fcmp rfl rfl f4 g1 g3 ?_))
    refine WO.pk rfl rfl rfl (OnB.yes (WO.as rfl (WO.nil (W.ret ?_))))
    exact ⟨.inr rfl, _, rfl, rfl, rfl⟩

/-- The error of a number that shall be a sample. -/
inductive SampleE (b : Nat) : Int → Prop
  | nan (h : nanB .f32 b = true) : SampleE b 1
  | inf (s : Bool) (h : Ieee.single.read b = .infinity s) : SampleE b 1
  | num (neg : Bool) (m k : Nat) (h : N32 b neg m k) : SampleE b (cond (okU (m * 2 ^ (k + 4))) 0 3)
theorem sampleE_ex (b : Nat) : ∃ e, SampleE b e := by
  rcases single_cases b with h | ⟨s, h⟩ | ⟨neg, m, k, h⟩
  · exact ⟨_, .nan h⟩
  · exact ⟨_, .inf s h⟩
  · exact ⟨_, .num neg m k h⟩

theorem k24 (H : Has tp) (X : HasX tp) {b : Nat} {e : Int} (E : SampleE b e) (h : TH) : CallW Tryz.prog tp (.func (.func 24) #[] #[]) #[.float .f32 b] h fun v h' => v = .int .i64 e ∧ h' = h := by
  refine CallW.full (H.fn 24 f24 rfl rfl) rfl ?_
  refine W.seq (W.reg (WO.as rfl (WO.nil ?_)))
  cases E with
  | nan hn =>
    refine W.seq (W.seq (W.reg (WO.mv rfl (WO.cl1 rfl rfl ((k98n H hn h).mono ?_)))))
    rintro v h ⟨rfl, rfl⟩
    repeat' (first
    | refine WO.mv rfl ?_ | refine WO.as rfl ?_ | refine WO.bi rfl rfl rfl ?_
    | refine WO.nil ?_
    | refine W.seq ?_ | refine W.reg ?_ | refine W.ret ?_ | refine W.skip ?_ | refine W.exit ?_ | refine W.block ?_
    | refine WO.nt rfl ?_
    | with_reducible refine OnB.yes ?_ | with_reducible refine OnB.nyes ?_ | with_reducible refine OnB.nno ?_ | with_reducible refine OnB.no ?_ | with_reducible refine OnB.way (fun hb => ?_) (fun hb => ?_)
    | refine WO.gu rfl rfl ?_ | refine WO.gt rfl rfl ?_ | refine WO.gf rfl rfl ?_
    | refine WO.pk rfl rfl rfl ?_
    | refine W.cd rfl ?_)
    exact ⟨.inr rfl, _, rfl, rfl, rfl⟩
  | inf s hs =>
    refine W.seq (W.seq (W.reg (WO.mv rfl (WO.cl1 rfl rfl ((k98i H X hs h).mono ?_)))))
    rintro v h ⟨rfl, rfl⟩
    repeat' (first
    | refine WO.mv rfl ?_ | refine WO.as rfl ?_ | refine WO.bi rfl rfl rfl ?_
    | refine WO.nil ?_
    | refine W.seq ?_ | refine W.reg ?_ | refine W.ret ?_ | refine W.skip ?_ | refine W.exit ?_ | refine W.block ?_
    | refine WO.nt rfl ?_
    | with_reducible refine OnB.yes ?_ | with_reducible refine OnB.nyes ?_ | with_reducible refine OnB.nno ?_ | with_reducible refine OnB.no ?_ | with_reducible refine OnB.way (fun hb => ?_) (fun hb => ?_)
    | refine WO.gu rfl rfl ?_ | refine WO.gt rfl rfl ?_ | refine WO.gf rfl rfl ?_
    | refine WO.pk rfl rfl rfl ?_
    | refine W.cd rfl ?_)
    exact ⟨.inr rfl, _, rfl, rfl, rfl⟩
  | num neg m k N =>
    refine W.seq (W.seq (W.reg (WO.mv rfl (WO.cl1 rfl rfl ((k98 H X N h).mono ?_)))))
    rintro v h ⟨rfl, rfl⟩
    refine WO.nt rfl (WO.nil (W.cd rfl (OnB.no (W.skip ?_))))
    refine W.seq (W.reg (WO.mv rfl (WO.cl2 rfl rfl rfl ((k99 H X N h).mono ?_))))
    rintro v h ⟨rfl, rfl⟩
    refine WO.nt rfl (WO.cl2 rfl rfl rfl ((k95 H _ _ _).mono ?_))
    rintro v h ⟨rfl, rfl⟩
    refine WO.as rfl (WO.nil (W.ret ?_))
    refine ⟨.inr rfl, _, rfl, ?_, rfl⟩
    show Value.int _ _ = Value.int _ _
    cases okU (m * 2 ^ (k + 4)) <;> rfl
end Go.Tidy
