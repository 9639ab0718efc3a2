/- Samples are checked: the reference's way, whole. -/
import Derived.Test.YtkaiphobleifgaaGreatDoorSb13
set_option linter.all false
namespace Go.Tidy
open Go Go.Proofs Tab
variable {tp : TProg}

set_option maxRecDepth 100000 in
theorem k100n (H : Has tp) {b : Nat} (hb : nanB .f32 b = true) (h : TH) : CallW Tryz.prog tp (.func (.func 100) #[] #[]) #[.float .f32 b, .int .i64 1024] h fun v h' => v = .int .i64 1 ∧ h' = h := by
  refine CallW.full (H.fn 100 f100 rfl rfl) rfl ?_
  refine W.seq (W.reg (WO.as rfl (WO.nil ?_)))
  refine W.seq (W.seq (W.reg (WO.mv rfl (WO.mv rfl (WO.fnan rfl rfl (by rw [hb]; rfl) rfl (WO.mv rfl ?_))))))
  repeat' (first
    | refine WO.mv rfl ?_ | refine WO.as rfl ?_ | refine WO.bi rfl rfl rfl ?_
    | refine WO.nil ?_
    | refine W.seq ?_ | refine W.reg ?_ | refine W.ret ?_ | refine W.skip ?_ | refine W.exit ?_ | refine W.block ?_
    | refine WO.nt rfl ?_
    | with_reducible refine OnB.yes ?_ | with_reducible refine OnB.nyes ?_ | with_reducible refine OnB.nno ?_ | with_reducible refine OnB.no ?_ | with_reducible refine OnB.way (fun hb => ?_) (fun hb => ?_)
    | refine WO.gu rfl rfl ?_ | refine WO.gt rfl rfl ?_ | refine WO.gf rfl rfl ?_
    | refine WO.pk rfl rfl rfl ?_
    | refine W.cd rfl ?_)
  exact ⟨.inr rfl, _, rfl, rfl, rfl⟩
theorem inf_order {b c : Nat} {s t : Bool} {m : Nat} {e : Int} (hb : Ieee.single.read b = .infinity s) (hc : Ieee.single.read c = .number t m e) : Ieee.single.order b c = some (cond s .lt .gt) := by
  unfold Ieee.Format.order
  rw [hb, hc]
  cases s <;> rfl
set_option maxRecDepth 100000 in
theorem k100i (H : Has tp) {b : Nat} {s : Bool} (hb : Ieee.single.read b = .infinity s) (h : TH) : CallW Tryz.prog tp (.func (.func 100) #[] #[]) #[.float .f32 b, .int .i64 1024] h fun v h' => v = .int .i64 1 ∧ h' = h := by
  have hn : nanB .f32 b = false := not_nan_inf (k := .f32) hb
  have h1 : Ieee.single.read 2139095039 = .number false 16777215 104 := by decide
  have h2 : Ieee.single.read 4286578687 = .number true 16777215 104 := by decide
  have c0 : cmpF .neq .f32 b b = some false := by
    show some (Ieee.single.order b b != some .eq) = _
    unfold Ieee.Format.order; rw [hb]; cases s <;> rfl
  have c1 : cmpF .gtr .f32 b 2139095039 = some (!s) := by
    show some (Ieee.single.order _ _ == some .gt) = _
    rw [inf_order hb h1]; cases s <;> rfl
  have c2 : cmpF .lss .f32 b 4286578687 = some s := by
    show some (Ieee.single.order _ _ == some .lt) = _
    rw [inf_order hb h2]; cases s <;> rfl
  refine CallW.full (H.fn 100 f100 rfl rfl) rfl ?_
  refine W.seq (W.reg (WO.as rfl (WO.nil ?_)))
  refine W.seq (W.seq (W.reg (WO.mv rfl (WO.mv rfl (WO.fcmp rfl rfl hn hn c0 (WO.mv rfl ?_))))))
  refine WO.gf rfl rfl (OnB.no (WO.mv rfl (WO.gf rfl rfl (OnB.no (WO.fcmp rfl rfl hn (by decide) c1 (WO.pk rfl rfl rfl (OnB.no (WO.mv rfl ?_))))))))
  cases s with
  | false =>
    repeat' (first
    | refine WO.mv rfl ?_ | refine WO.as rfl ?_ | refine WO.bi rfl rfl rfl ?_
    | refine WO.nil ?_
    | refine W.seq ?_ | refine W.reg ?_ | refine W.ret ?_ | refine W.skip ?_ | refine W.exit ?_ | refine W.block ?_
    | refine WO.nt rfl ?_
    | with_reducible refine OnB.yes ?_ | with_reducible refine OnB.nyes ?_ | with_reducible refine OnB.nno ?_ | with_reducible refine OnB.no ?_ | with_reducible refine OnB.way (fun hb => ?_) (fun hb => ?_)
    | refine WO.gu rfl rfl ?_ | refine WO.gt rfl rfl ?_ | refine WO.gf rfl rfl ?_
    | refine WO.pk rfl rfl rfl ?_
    | refine W.cd rfl ?_)
    exact ⟨.inr rfl, _, rfl, rfl, rfl⟩
  | true =>
    refine WO.gf rfl rfl (OnB.no (WO.mv rfl (WO.gf rfl rfl (OnB.no (WO.fcmp rfl rfl hn (by decide) c2 ?_)))))
    repeat' (first
    | refine WO.mv rfl ?_ | refine WO.as rfl ?_ | refine WO.bi rfl rfl rfl ?_
    | refine WO.nil ?_
    | refine W.seq ?_ | refine W.reg ?_ | refine W.ret ?_ | refine W.skip ?_ | refine W.exit ?_ | refine W.block ?_
    | refine WO.nt rfl ?_
    | with_reducible refine OnB.yes ?_ | with_reducible refine OnB.nyes ?_ | with_reducible refine OnB.nno ?_ | with_reducible refine OnB.no ?_ | with_reducible refine OnB.way (fun hb => ?_) (fun hb => ?_)
    | refine WO.gu rfl rfl ?_ | refine WO.gt rfl rfl ?_ | refine WO.gf rfl rfl ?_
    | refine WO.pk rfl rfl rfl ?_
    | refine W.cd rfl ?_)
    exact ⟨.inr rfl, _, rfl, rfl, rfl⟩
set_option maxRecDepth 100000 in
theorem k100 (H : Has tp) {b m k : Nat} {neg : Bool} (N : N32 b neg m k) (h : TH) : CallW Tryz.prog tp (.func (.func 100) #[] #[]) #[.float .f32 b, .int .i64 1024] h fun v h' => v = .int .i64 (cond (okU (m * 2 ^ (k + 4))) 0 3) ∧ h' = h := by
  have hn := nan32 N
  have c0 : cmpF .neq .f32 b b = some false := by
    show some (Ieee.single.order b b != some .eq) = _
    have hV : V32 b neg (m * 2 ^ k) := ⟨m, k, N.read, rfl, N.hk⟩
    rw [hV.order hV, cmp_self]; rfl
  obtain ⟨c1, c2, r1, r2, c3, n3, c4, n4, h5, h6⟩ := facts32 N
  generalize okU (m * 2 ^ (k + 4)) = r at h5 h6 ⊢
  refine CallW.full (H.fn 100 f100 rfl rfl) rfl ?_
  refine W.seq (W.reg (WO.as rfl (WO.nil ?_)))
  refine W.seq (W.seq (W.reg (WO.mv rfl (WO.mv rfl (WO.fcmp rfl rfl hn hn c0 (WO.mv rfl ?_))))))
  refine WO.gf rfl rfl (OnB.no (WO.mv rfl (WO.gf rfl rfl (OnB.no (WO.fcmp rfl rfl hn (by decide) c1 (WO.pk rfl rfl rfl (OnB.no (WO.mv rfl ?_))))))))
  refine WO.gf rfl rfl (OnB.no (WO.mv rfl (WO.gf rfl rfl (OnB.no (WO.fcmp rfl rfl hn (by decide) c2 (WO.pk rfl rfl rfl (OnB.no (WO.nil ?_))))))))
  refine W.cd rfl (OnB.no (W.skip ?_))
  refine W.seq (W.seq (W.reg (WO.mv rfl (WO.mv rfl (WO.bi (v := .int .i64 (-1024)) rfl rfl rfl (WO.conv rfl rfl (conv_i2f u3 u25) (plain_float n3) (WO.fcmp rfl rfl hn n3 c3 (WO.mv rfl ?_))))))))
  cases r1 with
  | true =>
    obtain rfl := h5 (.inl rfl)
    repeat' (first
    | refine WO.mv rfl ?_ | refine WO.as rfl ?_ | refine WO.bi rfl rfl rfl ?_
    | refine WO.nil ?_
    | refine W.seq ?_ | refine W.reg ?_ | refine W.ret ?_ | refine W.skip ?_ | refine W.exit ?_ | refine W.block ?_
    | refine WO.nt rfl ?_
    | with_reducible refine OnB.yes ?_ | with_reducible refine OnB.nyes ?_ | with_reducible refine OnB.nno ?_ | with_reducible refine OnB.no ?_ | with_reducible refine OnB.way (fun hb => ?_) (fun hb => ?_)
    | refine WO.gu rfl rfl ?_ | refine WO.gt rfl rfl ?_ | refine WO.gf rfl rfl ?_
    | refine WO.pk rfl rfl rfl ?_
    | refine W.cd rfl ?_)
    exact ⟨.inr rfl, _, rfl, rfl, rfl⟩
  | false =>
    refine WO.gf rfl rfl (OnB.no (WO.mv rfl (WO.gf rfl rfl (OnB.no (WO.mv rfl (WO.gf rfl rfl (OnB.no (WO.conv rfl rfl (conv_i2f u3 u25) (plain_float n4) (WO.gf rfl rfl (OnB.no (WO.fcmp rfl rfl hn n4 c4 (WO.pk rfl rfl rfl (OnB.no (WO.mv rfl ?_)))))))))))))) 
    cases r2 with
    | true =>
      obtain rfl := h5 (.inr rfl)
      repeat' (first
    | refine WO.mv rfl ?_ | refine WO.as rfl ?_ | refine WO.bi rfl rfl rfl ?_
    | refine WO.nil ?_
    | refine W.seq ?_ | refine W.reg ?_ | refine W.ret ?_ | refine W.skip ?_ | refine W.exit ?_ | refine W.block ?_
    | refine WO.nt rfl ?_
    | with_reducible refine OnB.yes ?_ | with_reducible refine OnB.nyes ?_ | with_reducible refine OnB.nno ?_ | with_reducible refine OnB.no ?_ | with_reducible refine OnB.way (fun hb => ?_) (fun hb => ?_)
    | refine WO.gu rfl rfl ?_ | refine WO.gt rfl rfl ?_ | refine WO.gf rfl rfl ?_
    | refine WO.pk rfl rfl rfl ?_
    | refine W.cd rfl ?_)
      exact ⟨.inr rfl, _, rfl, rfl, rfl⟩
    | false =>
      obtain ⟨c, z, n, r3, g1, g2, g3, g4, g5, rfl, g6, g7, g8⟩ := h6 rfl rfl
      subst g8
      refine WO.gf rfl rfl (OnB.no (WO.mv rfl (WO.gf rfl rfl (OnB.no (WO.fmul rfl rfl (by decide) hn g1 g2 ?_)))))
      refine WO.gf rfl rfl (OnB.no (WO.conv rfl (plain_float g2) (conv_f2i u25 u3 g3 g4 g5) rfl ?_))
      refine WO.gf rfl rfl (OnB.no (WO.conv rfl rfl (conv_i2f u3 u25) (plain_float g6) ?_))
      refine WO.gf rfl rfl (OnB.no (WO.mv rfl (WO.gf rfl rfl (OnB.no (WO.fmul rfl rfl (by decide) hn g1 g2 ?_)))))
      refine WO.gf rfl rfl (OnB.no (WO.fcmp rfl rfl g6 g2 g7 ?_))
      cases r3 with
      | true =>
        repeat' (first
    | refine WO.mv rfl ?_ | refine WO.as rfl ?_ | refine WO.bi rfl rfl rfl ?_
    | refine WO.nil ?_
    | refine W.seq ?_ | refine W.reg ?_ | refine W.ret ?_ | refine W.skip ?_ | refine W.exit ?_ | refine W.block ?_
    | refine WO.nt rfl ?_
    | with_reducible refine OnB.yes ?_ | with_reducible refine OnB.nyes ?_ | with_reducible refine OnB.nno ?_ | with_reducible refine OnB.no ?_ | with_reducible refine OnB.way (fun hb => ?_) (fun hb => ?_)
    | refine WO.gu rfl rfl ?_ | refine WO.gt rfl rfl ?_ | refine WO.gf rfl rfl ?_
    | refine WO.pk rfl rfl rfl ?_
    | refine W.cd rfl ?_)
        exact ⟨.inr rfl, _, rfl, rfl, rfl⟩
      | false =>
        repeat' (first
    | refine WO.mv rfl ?_ | refine WO.as rfl ?_ | refine WO.bi rfl rfl rfl ?_
    | refine WO.nil ?_
    | refine W.seq ?_ | refine W.reg ?_ | refine W.ret ?_ | refine W.skip ?_ | refine W.exit ?_ | refine W.block ?_
    | refine WO.nt rfl ?_
    | with_reducible refine OnB.yes ?_ | with_reducible refine OnB.nyes ?_ | with_reducible refine OnB.nno ?_ | with_reducible refine OnB.no ?_ | with_reducible refine OnB.way (fun hb => ?_) (fun hb => ?_)
    | refine WO.gu rfl rfl ?_ | refine WO.gt rfl rfl ?_ | refine WO.gf rfl rfl ?_
    | refine WO.pk rfl rfl rfl ?_
    | refine W.cd rfl ?_)
        exact ⟨.inr rfl, _, rfl, rfl, rfl⟩

theorem k25 (H : Has tp) {b : Nat} {e : Int} (E : SampleE b e) (h : TH) : CallW Tryz.prog tp (.func (.func 25) #[] #[]) #[.float .f32 b] h fun v h' => v = .int .i64 e ∧ h' = h := by
  have key : CallW Tryz.prog tp (.func (.func 100) #[] #[]) #[.float .f32 b, .int .i64 1024] h fun v h' => v = .int .i64 e ∧ h' = h := by
    cases E with
    | nan hn => exact k100n H hn h
    | inf s hs => exact k100i H hs h
    | num neg m k N => exact k100 H N h
  refine CallW.full (H.fn 25 f25 rfl rfl) rfl ?_
  refine W.seq (W.reg (WO.as rfl (WO.nil ?_)))
  refine W.seq (W.reg (WO.mv rfl (WO.cl2 rfl rfl rfl (key.mono ?_))))
  rintro v h ⟨rfl, rfl⟩
  refine WO.as rfl (WO.nil (W.ret ?_))
  exact ⟨.inr rfl, _, rfl, rfl, rfl⟩
end Go.Tidy
