/- The small functions of chapter 1, in the plain interpreter. -/
import Derived.Test.YtkaiphobleifgaaGreatDoorTpQ
import Derived.KernelRfl
set_option linter.all false
namespace Go.Tidy
open Go Go.Proofs Tab

/-- The functions of the table, but for awake. -/
structure Has (tp : TProg) : Prop where
  fn : ∀ k f, Tab.fns.get k = some f → Nat.beq k 14 = false → tp.fn k = some f

variable {tp : TProg}

theorem k95 (H : Has tp) (b : Bool) (e : Int) (h : TH) : CallW Tryz.prog tp (.func (.func 95) #[] #[]) #[.bool b, .int .i64 e] h fun v h' => v = .int .i64 (cond b e 0) ∧ h' = h := by
  refine CallW.full (H.fn 95 f95 rfl rfl) rfl ?_
  repeat' (first
    | refine WO.mv rfl ?_ | refine WO.as rfl ?_ | refine WO.bi rfl rfl rfl ?_
    | refine WO.nil ?_
    | refine W.seq ?_ | refine W.reg ?_ | refine W.ret ?_ | refine W.skip ?_ | refine W.exit ?_ | refine W.block ?_
    | refine WO.nt rfl ?_
    | with_reducible refine OnB.yes ?_ | with_reducible refine OnB.no ?_ | with_reducible refine OnB.way (fun hb => ?_) (fun hb => ?_)
    | refine WO.gu rfl rfl ?_ | refine WO.gt rfl rfl ?_ | refine WO.gf rfl rfl ?_
    | refine WO.pk rfl rfl rfl ?_
    | refine W.cd rfl ?_)
  all_goals (refine ⟨.inr rfl, _, rfl, ?_, rfl⟩; subst hb; rfl)
theorem k35 (H : Has tp) (b : Bool) (e : Int) (h : TH) : CallW Tryz.prog tp (.func (.func 35) #[] #[]) #[.bool b, .int .i64 e] h fun v h' => v = .int .i64 (cond b e 0) ∧ h' = h := by
  refine CallW.full (H.fn 35 f35 rfl rfl) rfl ?_
  repeat' (first
    | refine WO.mv rfl ?_ | refine WO.as rfl ?_ | refine WO.bi rfl rfl rfl ?_
    | refine WO.nil ?_
    | refine W.seq ?_ | refine W.reg ?_ | refine W.ret ?_ | refine W.skip ?_ | refine W.exit ?_ | refine W.block ?_
    | refine WO.nt rfl ?_
    | with_reducible refine OnB.yes ?_ | with_reducible refine OnB.no ?_ | with_reducible refine OnB.way (fun hb => ?_) (fun hb => ?_)
    | refine WO.gu rfl rfl ?_ | refine WO.gt rfl rfl ?_ | refine WO.gf rfl rfl ?_
    | refine WO.pk rfl rfl rfl ?_
    | refine W.cd rfl ?_)
  all_goals (refine ⟨.inr rfl, _, rfl, ?_, rfl⟩; subst hb; rfl)

/-- Not from low to high. -/
def outB (n l m : Int) : Int := cond (decide (n < l) || decide (n > m)) 3 0
theorem k90 (H : Has tp) (n l m : Int) (h : TH) : CallW Tryz.prog tp (.func (.func 90) #[] #[]) #[.int .i64 n, .int .i64 l, .int .i64 m] h fun v h' => v = .int .i64 (outB n l m) ∧ h' = h := by
  refine CallW.full (H.fn 90 f90 rfl rfl) rfl ?_
  repeat' (first
    | refine WO.mv rfl ?_ | refine WO.as rfl ?_ | refine WO.bi rfl rfl rfl ?_
    | refine WO.nil ?_
    | refine W.seq ?_ | refine W.reg ?_ | refine W.ret ?_ | refine W.skip ?_ | refine W.exit ?_ | refine W.block ?_
    | refine WO.nt rfl ?_
    | (refine WO.cl2 rfl rfl rfl ?_; refine (k95 H _ _ _).mono ?_; rintro v h' ⟨rfl, rfl⟩)
    | with_reducible refine OnB.yes ?_ | with_reducible refine OnB.no ?_ | with_reducible refine OnB.way (fun hb => ?_) (fun hb => ?_)
    | refine WO.gu rfl rfl ?_ | refine WO.gt rfl rfl ?_ | refine WO.gf rfl rfl ?_
    | refine WO.pk rfl rfl rfl ?_
    | refine W.cd rfl ?_)
  all_goals (refine ⟨.inr rfl, _, rfl, ?_, rfl⟩; unfold outB; rw [hb]; rfl)
theorem k17 (H : Has tp) (n l m : Int) (h : TH) : CallW Tryz.prog tp (.func (.func 17) #[] #[]) #[.int .i64 n, .int .i64 l, .int .i64 m] h fun v h' => v = .int .i64 (outB n l m) ∧ h' = h := by
  refine CallW.full (H.fn 17 f17 rfl rfl) rfl ?_
  repeat' (first
    | refine WO.mv rfl ?_ | refine WO.as rfl ?_ | refine WO.bi rfl rfl rfl ?_
    | refine WO.nil ?_
    | refine W.seq ?_ | refine W.reg ?_ | refine W.ret ?_ | refine W.skip ?_ | refine W.exit ?_ | refine W.block ?_
    | refine WO.nt rfl ?_
    | (refine WO.cl2 rfl rfl rfl ?_; refine (k35 H _ _ _).mono ?_; rintro v h' ⟨rfl, rfl⟩)
    | with_reducible refine OnB.yes ?_ | with_reducible refine OnB.no ?_ | with_reducible refine OnB.way (fun hb => ?_) (fun hb => ?_)
    | refine WO.gu rfl rfl ?_ | refine WO.gt rfl rfl ?_ | refine WO.gf rfl rfl ?_
    | refine WO.pk rfl rfl rfl ?_
    | refine W.cd rfl ?_)
  all_goals (refine ⟨.inr rfl, _, rfl, ?_, rfl⟩; unfold outB; rw [hb]; rfl)

/-- A letter; a digit. -/
def isL (c : Int) : Bool := decide (65 ≤ c) && decide (c ≤ 90) || decide (97 ≤ c) && decide (c ≤ 122)
def isD (c : Int) : Bool := decide (48 ≤ c) && decide (c ≤ 57)
theorem k91 (H : Has tp) (c : Int) (h : TH) : CallW Tryz.prog tp (.func (.func 91) #[] #[]) #[.int .i32 c] h fun v h' => v = .bool (isL c) ∧ h' = h := by
  refine CallW.full (H.fn 91 f91 rfl rfl) rfl ?_
  repeat' (first
    | refine WO.mv rfl ?_ | refine WO.as rfl ?_ | refine WO.bi rfl rfl rfl ?_
    | refine WO.nil ?_
    | refine W.seq ?_ | refine W.reg ?_ | refine W.ret ?_ | refine W.skip ?_ | refine W.exit ?_ | refine W.block ?_
    | refine WO.nt rfl ?_
    | with_reducible refine OnB.yes ?_ | with_reducible refine OnB.no ?_ | with_reducible refine OnB.way (fun hb => ?_) (fun hb => ?_)
    | refine WO.gu rfl rfl ?_ | refine WO.gt rfl rfl ?_ | refine WO.gf rfl rfl ?_
    | refine WO.pk rfl rfl rfl ?_
    | refine W.cd rfl ?_)
  all_goals (refine ⟨.inr rfl, _, rfl, ?_, rfl⟩; show Value.bool _ = Value.bool _; congr 1; simp_all [isL] <;> omega)
theorem k92 (H : Has tp) (c : Int) (h : TH) : CallW Tryz.prog tp (.func (.func 92) #[] #[]) #[.int .i32 c] h fun v h' => v = .bool (isD c) ∧ h' = h := by
  refine CallW.full (H.fn 92 f92 rfl rfl) rfl ?_
  repeat' (first
    | refine WO.mv rfl ?_ | refine WO.as rfl ?_ | refine WO.bi rfl rfl rfl ?_
    | refine WO.nil ?_
    | refine W.seq ?_ | refine W.reg ?_ | refine W.ret ?_ | refine W.skip ?_ | refine W.exit ?_ | refine W.block ?_
    | refine WO.nt rfl ?_
    | with_reducible refine OnB.yes ?_ | with_reducible refine OnB.no ?_ | with_reducible refine OnB.way (fun hb => ?_) (fun hb => ?_)
    | refine WO.gu rfl rfl ?_ | refine WO.gt rfl rfl ?_ | refine WO.gf rfl rfl ?_
    | refine WO.pk rfl rfl rfl ?_
    | refine W.cd rfl ?_)
  all_goals (refine ⟨.inr rfl, _, rfl, ?_, rfl⟩; show Value.bool _ = Value.bool _; congr 1; simp_all [isD] <;> omega)
theorem k93 (H : Has tp) (c : Int) (h : TH) : CallW Tryz.prog tp (.func (.func 93) #[] #[]) #[.int .u8 c] h fun v h' => v = .bool (isL c) ∧ h' = h := by
  refine CallW.full (H.fn 93 f93 rfl rfl) rfl ?_
  repeat' (first
    | refine WO.mv rfl ?_ | refine WO.as rfl ?_ | refine WO.bi rfl rfl rfl ?_
    | refine WO.nil ?_
    | refine W.seq ?_ | refine W.reg ?_ | refine W.ret ?_ | refine W.skip ?_ | refine W.exit ?_ | refine W.block ?_
    | refine WO.nt rfl ?_
    | with_reducible refine OnB.yes ?_ | with_reducible refine OnB.no ?_ | with_reducible refine OnB.way (fun hb => ?_) (fun hb => ?_)
    | refine WO.gu rfl rfl ?_ | refine WO.gt rfl rfl ?_ | refine WO.gf rfl rfl ?_
    | refine WO.pk rfl rfl rfl ?_
    | refine W.cd rfl ?_)
  all_goals (refine ⟨.inr rfl, _, rfl, ?_, rfl⟩; show Value.bool _ = Value.bool _; congr 1; simp_all [isL] <;> omega)
theorem k94 (H : Has tp) (c : Int) (h : TH) : CallW Tryz.prog tp (.func (.func 94) #[] #[]) #[.int .u8 c] h fun v h' => v = .bool (isD c) ∧ h' = h := by
  refine CallW.full (H.fn 94 f94 rfl rfl) rfl ?_
  repeat' (first
    | refine WO.mv rfl ?_ | refine WO.as rfl ?_ | refine WO.bi rfl rfl rfl ?_
    | refine WO.nil ?_
    | refine W.seq ?_ | refine W.reg ?_ | refine W.ret ?_ | refine W.skip ?_ | refine W.exit ?_ | refine W.block ?_
    | refine WO.nt rfl ?_
    | with_reducible refine OnB.yes ?_ | with_reducible refine OnB.no ?_ | with_reducible refine OnB.way (fun hb => ?_) (fun hb => ?_)
    | refine WO.gu rfl rfl ?_ | refine WO.gt rfl rfl ?_ | refine WO.gf rfl rfl ?_
    | refine WO.pk rfl rfl rfl ?_
    | refine W.cd rfl ?_)
  all_goals (refine ⟨.inr rfl, _, rfl, ?_, rfl⟩; show Value.bool _ = Value.bool _; congr 1; simp_all [isD] <;> omega)

end Go.Tidy
