/- Samples are checked: the program's way. -/
import Derived.Test.YtkaiphobleifgaaGreatDoorSb3
import Derived.Test.YtkaiphobleifgaaGreatDoorFl3
set_option linter.all false
namespace Go.Tidy
open Go Go.Proofs Tab
variable {tp : TProg}

theorem u25 : Tryz.prog.underlying 25 = some (.float .f32) := by kernel_rfl
theorem u241 : Tryz.prog.underlying 241 = some (.float .f64) := by kernel_rfl

theorem OnB.nyes {A B : Prop} (h : A) : OnB (.bool !false) A B := OnB.yes h
theorem OnB.nno {A B : Prop} (h : B) : OnB (.bool !true) A B := OnB.no h

/-- The library's functions without a body, as the table knows them. -/
structure HasX (tp : TProg) : Prop where
  no : ∀ k, Nat.ble 209 k = true → Nat.ble k 211 = true → tp.fn k = none
  bits : tp.ext 210 = some (Bare.run .float64bits)
  back : tp.ext 209 = some (Bare.run .float64frombits)
  trunc : tp.ext 211 = some (Bare.run .trunc)

theorem top_bits (w : Nat) : (BitVec.ofInt 64 (w : Int) &&& ~~~BitVec.ofInt 64 9223372036854775808) = BitVec.ofNat 64 (w % 2 ^ 63) := by
  have e1 : BitVec.ofInt 64 (w : Int) = BitVec.ofNat 64 w := by simp
  have e2 : BitVec.ofInt 64 9223372036854775808 = BitVec.twoPow 64 63 := by decide
  rw [e1, e2]
  apply BitVec.eq_of_getLsbD_eq
  intro i hi
  simp only [BitVec.getLsbD_and, BitVec.getLsbD_not, BitVec.getLsbD_ofNat, BitVec.getLsbD_twoPow, Nat.testBit_mod_two_pow, hi, decide_true, Bool.true_and]
  by_cases h : i = 63
  · subst h; simp
  · have h1 : i < 63 := by omega
    have h2 : ¬ 63 = i := by omega
    simp [h1, h2]
theorem andNot_top {P : Program} {w : Nat} : pv P (binOp .andNot 291 (.int .u64 w) (.int .u64 9223372036854775808)) = some (.int .u64 ((w % 2 ^ 63 : Nat) : Int)) := by
  have h := top_bits w
  have hlt : w % 2 ^ 63 < 2 ^ 63 := Nat.mod_lt _ (by decide)
  have hw : IntKind.u64.wrap ((w % 2 ^ 63 : Nat) : Int) = ((w % 2 ^ 63 : Nat) : Int) := IntWalk.u64_in _ (by omega)
  show pv P (pure (Value.int .u64 (IntKind.u64.wrap ((BitVec.ofInt 64 (w : Int) &&& ~~~BitVec.ofInt 64 9223372036854775808).toNat : Nat)))) = _
  rw [h, BitVec.toNat_ofNat, Nat.mod_eq_of_lt (by omega), hw]
  rfl
theorem WO.andNot {P : Program} {a : Regs} {h : TH} {K : Regs → TH → Prop} {rest : List TOper} {d : Option Tmp} {ty : TypeId} {i : Nat} {x y : Operand} {u : TypeId} {w : Nat} (hx : getO a x = some (.int .u64 (w : Nat))) (hy : getO a y = some (.int .u64 9223372036854775808))
    (k : WO P tp rest (a.put d (.int .u64 ((w % 2 ^ 63 : Nat) : Int))) h K) : WO P tp (⟨d, .binOp .andNot 291 x y u, ty, none, [], i⟩ :: rest) a h K := by
  have ex := getO_eval hx
  have ey := getO_eval hy
  refine WO.plainly rfl rfl rfl (by simp only [fastOp, ex, ey]; rfl) rfl (plainOp_of (by rfl) (fun q hq => ?_) ?_ rfl) k
  · simp only [Op.operands] at hq
    simp at hq
    rcases hq with rfl | rfl
    · rw [ex]; rfl
    · rw [ey]; rfl
  · have := andNot_top (P := P) (w := w)
    simp [toOper, execOp, pv_bind, pv_map, pv_pure, ex, ey, eqGuard, this]

theorem WO.x1 {P : Program} {a : Regs} {h : TH} {K : Regs → TH → Prop} {rest : List TOper} {d : Option Tmp} {ty : TypeId} {i : Nat} {f : Nat} {x : Operand} {v v0 : Value} {ts : Array TypeId} {e : List Value → Option Value} (h0 : getO a x = some v0) (hk : tp.fn f = none) (he : tp.ext f = some e) (hp : plain v0 = true) (hv : e [v0] = some v) (hpv : plain v = true)
    (w : WO P tp rest (a.put d v) h K) : WO P tp (⟨d, .call ⟨.value (.func f), #[x], ts⟩, ty, none, [], i⟩ :: rest) a h K :=
  WO.cl1 rfl h0 (CallW.ext hk he (by simp [hp]) hv hpv w)

theorem nan_abs (b : Nat) : nanB .f64 (b % 2 ^ 63) = nanB .f64 b := by simp only [nanB, Nat.mod_mod]
/-- A float without its sign. -/
theorem k171 (H : Has tp) (X : HasX tp) {b : Nat} (N : nanB .f64 b = false) (h : TH) : CallW Tryz.prog tp (.func (.func 171) #[] #[]) #[.float .f64 b] h fun v h' => v = .float .f64 (b % 2 ^ 63) ∧ h' = h := by
  refine CallW.full (H.fn 171 f171 rfl rfl) rfl ?_
  refine W.seq (W.reg (WO.as rfl (WO.nil ?_)))
  refine W.seq (W.reg (WO.mv rfl ?_))
  refine WO.x1 rfl (X.no 210 rfl rfl) X.bits (plain_float N) rfl rfl ?_
  refine WO.andNot (w := b) rfl rfl ?_
  refine WO.x1 rfl (X.no 209 rfl rfl) X.back rfl rfl (plain_float (by show nanB .f64 (b % 2 ^ 63) = false; rw [nan_abs]; exact N)) ?_
  refine WO.as rfl (WO.nil (W.ret ?_))
  exact ⟨.inr rfl, _, rfl, rfl, rfl⟩

theorem cmp_self (x : Int) : compare x x = .eq := by simp [compare, compareOfLessAndEq]
theorem k169n (H : Has tp) {b : Nat} (hn : nanB .f64 b = true) (h : TH) : CallW Tryz.prog tp (.func (.func 169) #[] #[]) #[.float .f64 b] h fun v h' => v = .bool true ∧ h' = h := by
  refine CallW.full (H.fn 169 f169 rfl rfl) rfl ?_
  refine W.seq (W.reg (WO.as rfl (WO.nil ?_)))
  refine W.seq (W.reg (WO.mv rfl (WO.mv rfl (WO.fnan rfl rfl (by rw [hn]; rfl) rfl (WO.as rfl (WO.nil (W.ret ?_)))))))
  exact ⟨.inr rfl, _, rfl, rfl, rfl⟩
theorem k169 (H : Has tp) {b : Nat} (hn : nanB .f64 b = false) (ho : Ieee.double.order b b = some .eq) (h : TH) : CallW Tryz.prog tp (.func (.func 169) #[] #[]) #[.float .f64 b] h fun v h' => v = .bool false ∧ h' = h := by
  refine CallW.full (H.fn 169 f169 rfl rfl) rfl ?_
  have hc : cmpF .neq .f64 b b = some false := by
    show some (Ieee.double.order b b != some .eq) = _
    rw [ho]; rfl
  refine W.seq (W.reg (WO.as rfl (WO.nil ?_)))
  refine W.seq (W.reg (WO.mv rfl (WO.mv rfl (WO.fcmp rfl rfl hn hn hc (WO.as rfl (WO.nil (W.ret ?_)))))))
  exact ⟨.inr rfl, _, rfl, rfl, rfl⟩

/-- Is it above the greatest number? -/
theorem k170 (H : Has tp) (X : HasX tp) {b : Nat} (hn : nanB .f64 b = false) {r : Bool} (ho : cmpF .gtr .f64 (b % 2 ^ 63) 9218868437227405311 = some r) (h : TH) : CallW Tryz.prog tp (.func (.func 170) #[] #[]) #[.float .f64 b, .int .i64 0] h fun v h' => v = .bool r ∧ h' = h := by
  refine CallW.full (H.fn 170 f170 rfl rfl) rfl ?_
  refine W.seq (W.reg (WO.as rfl (WO.nil ?_)))
  refine W.seq (W.seq (W.reg (WO.mv rfl (WO.bi rfl rfl rfl (WO.nil ?_)))))
  refine W.cd rfl (OnB.yes ?_)
  refine W.reg (WO.mv rfl (WO.cl1 rfl rfl ((k171 H X hn h).mono ?_)))
  rintro v h ⟨rfl, rfl⟩
  refine WO.as rfl (WO.nil ?_)
  refine W.seq (W.reg (WO.mv rfl (WO.fcmp rfl rfl (by rw [nan_abs]; exact hn) (by decide) ho (WO.as rfl (WO.nil (W.ret ?_))))))
  exact ⟨.inr rfl, _, rfl, rfl, rfl⟩
/-- Towards zero. -/
theorem k172 (H : Has tp) (X : HasX tp) {b c : Nat} (hb : nanB .f64 b = false) (hc : nanB .f64 c = false) (hr : Bare.run .trunc [.float .f64 b] = some (.float .f64 c)) (h : TH) : CallW Tryz.prog tp (.func (.func 172) #[] #[]) #[.float .f64 b] h fun v h' => v = .float .f64 c ∧ h' = h := by
  refine CallW.full (H.fn 172 f172 rfl rfl) rfl ?_
  refine W.seq (W.reg (WO.as rfl (WO.nil ?_)))
  refine W.seq (W.cd rfl (OnB.yes ?_))
  refine W.seq (W.reg (WO.mv rfl ?_))
  refine WO.x1 rfl (X.no 211 rfl rfl) X.trunc (plain_float hb) hr (plain_float hc) ?_
  refine WO.as rfl (WO.nil (W.ret ?_))
  exact ⟨.inr rfl, _, rfl, rfl, rfl⟩
theorem trunc_word {b q : Nat} {neg : Bool} (N : N64 b neg q) : Bare.run .trunc [.float .f64 b] = some (.float .f64 (Ieee.double.write ((Ieee.double.read b).integral .zero))) := by
  obtain ⟨m, k, h1, _⟩ := N.ok
  have hd : FloatKind.f64.decode b = .number neg m (-1074 + k) := h1
  simp only [Bare.run, hd, h1]
  rfl
end Go.Tidy
