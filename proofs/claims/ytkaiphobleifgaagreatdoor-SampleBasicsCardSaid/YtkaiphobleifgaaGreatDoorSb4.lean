/- Ratios are checked, both ways. -/
import Derived.Test.YtkaiphobleifgaaGreatDoorSb3
set_option linter.all false
namespace Go.Tidy
open Go Go.Proofs Tab
variable {tp : TProg}

theorem u24 : (Tryz.prog.underlying 24).map (fun d => match d with | .struct fs => fs.toList.map (fun f => (f.type, f.offset)) | _ => []) = some [(3, 0), (3, 1)] := by kernel_rfl
theorem fa24 {b off : Nat} : fieldAddrT Tryz.prog 24 (.pointer (some ⟨b, off, none⟩)) 0 = some (.pointer (some ⟨b, off + 0, none⟩)) := by kernel_rfl
theorem fb24 {b off : Nat} : fieldAddrT Tryz.prog 24 (.pointer (some ⟨b, off, none⟩)) 1 = some (.pointer (some ⟨b, off + 1, none⟩)) := by kernel_rfl

/-- The error of a ratio. -/
def ratioE (m n : Int) : Int :=
  cond (firstNZ [outB m (-999999999) 999999999, outB n 1 999999999] != 0) (firstNZ [outB m (-999999999) 999999999, outB n 1 999999999]) (cond ((Nat.gcd m.natAbs n.toNat : Int) != 1) 1 0)

theorem outB_zero {n l m : Int} (h : outB n l m = 0) : l ≤ n ∧ n ≤ m := by
  unfold outB at h
  cases h1 : decide (n < l) <;> cases h2 : decide (n > m) <;> simp_all <;> omega
theorem two_zero {x y : Int} (h : firstNZ [x, y] = 0) : x = 0 ∧ y = 0 := by
  simp only [firstNZ] at h
  cases hx : (x != 0) <;> cases hy : (y != 0) <;> simp_all

theorem fil2 (x y : Int) : filled 1 2 [.int .i64 0] [(0, .int .i64 x), (1, .int .i64 y)] = some ([x, y].map (Value.int .i64)) := filled_two rfl rfl

theorem k22 (H : Has tp) (m n : Int) (h : TH) : CallW Tryz.prog tp (.func (.func 22) #[] #[]) #[.agg #[.int .i64 m, .int .i64 n]] h fun v h' => v = .int .i64 (ratioE m n) ∧ HX h h' := by
  refine CallW.full (H.fn 22 f22 rfl rfl) rfl ?_
  refine W.seq (W.reg (WO.box rfl (WO.as rfl (WO.nil ?_))))
  have hg : (h.new (.cells (Value.agg #[.int .i64 m, .int .i64 n]).cells.toList true true 24)).get h.next = some (.cells [.int .i64 m, .int .i64 n] true true 24) := TH.get_self _ _
  have hx := HX.new h (.cells (Value.agg #[.int .i64 m, .int .i64 n]).cells.toList true true 24)
  have hn : h.next < (h.new (.cells (Value.agg #[.int .i64 m, .int .i64 n]).cells.toList true true 24)).next := Nat.lt_succ_self _
  generalize h.new (.cells (Value.agg #[.int .i64 m, .int .i64 n]).cells.toList true true 24) = h1 at hg hx hn
  refine W.seq (W.seq (W.reg ?_))
  refine WO.fa rfl fa24 (WO.ld rfl (load_sc sc3 hg rfl) (WO.fa rfl fb24 (WO.ld rfl (load_sc sc3 hg rfl) ?_)))
  refine WO.lk3 rfl rfl rfl rfl fun L => ((k90 H _ _ _ _).mono ?_)
  rintro v h' ⟨rfl, rfl⟩
  rw [TH.relock]
  refine WO.cl3 rfl rfl rfl rfl ((k90 H _ _ _ _).mono ?_)
  rintro v h1 ⟨rfl, rfl⟩
  refine WO.bs rfl u195 sc30 (fil2 _ _) (by omega) ?_
  have hg1 := TH.get_self h1 (.cells ([outB m (-999999999) 999999999, outB n 1 999999999].map (Value.int .i64)) true true 30)
  have hg2 : (h1.new (.cells ([outB m (-999999999) 999999999, outB n 1 999999999].map (Value.int .i64)) true true 30)).get h.next = _ := (TH.get_old hn).trans hg
  have hx2 := hx.trans (HX.new h1 (.cells ([outB m (-999999999) 999999999, outB n 1 999999999].map (Value.int .i64)) true true 30))
  generalize h1.new (.cells ([outB m (-999999999) 999999999, outB n 1 999999999].map (Value.int .i64)) true true 30) = h2 at hg1 hg2 hx2
  refine WO.cl1 rfl rfl ((k89 H hg1 (by simp)).mono ?_)
  rintro v h2 ⟨rfl, rfl⟩
  refine WO.as rfl (WO.nil ?_)
  refine W.seq (W.reg (WO.mv rfl (WO.bi rfl rfl rfl (WO.nil ?_))))
  refine W.cd rfl (OnB.way (fun hb => ?_) (fun hb => ?_))
  · refine W.seq (W.reg (WO.mv rfl (WO.as rfl (WO.nil (W.ret ?_)))))
    refine ⟨.inr rfl, _, rfl, ?_, hx2⟩
    show Value.int _ _ = Value.int _ _
    unfold ratioE
    rw [hb]
    rfl
  · refine W.skip ?_
    have hz : firstNZ [outB m (-999999999) 999999999, outB n 1 999999999] = 0 := by simpa using hb
    obtain ⟨z1, z2⟩ := two_zero hz
    obtain ⟨m1, m2⟩ := outB_zero z1
    obtain ⟨n1, n2⟩ := outB_zero z2
    obtain ⟨nn, rfl⟩ : ∃ k : Nat, n = k := ⟨n.toNat, by omega⟩
    refine W.seq (W.reg ?_)
    refine WO.fa rfl fa24 (WO.ld rfl (load_sc sc3 hg2 rfl) (WO.fa rfl fb24 (WO.ld rfl (load_sc sc3 hg2 rfl) ?_)))
    refine WO.cl2 rfl rfl rfl ((k96 H m1 m2 (by omega) (by omega)).mono ?_)
    rintro v h2 ⟨rfl, rfl⟩
    refine WO.bi rfl rfl rfl ?_
    refine WO.cl2 rfl rfl rfl ((k95 H _ _ _).mono ?_)
    rintro v h2 ⟨rfl, rfl⟩
    refine WO.as rfl (WO.nil (W.ret ?_))
    refine ⟨.inr rfl, _, rfl, ?_, hx2⟩
    show Value.int _ _ = Value.int _ _
    unfold ratioE
    rw [hb]
    rfl

theorem k23 (H : Has tp) (m n : Int) (h : TH) : CallW Tryz.prog tp (.func (.func 23) #[] #[]) #[.agg #[.int .i64 m, .int .i64 n]] h fun v h' => v = .int .i64 (ratioE m n) ∧ HX h h' := by
  refine CallW.full (H.fn 23 f23 rfl rfl) rfl ?_
  refine W.seq (W.reg (WO.box rfl (WO.as rfl (WO.nil ?_))))
  have hg : (h.new (.cells (Value.agg #[.int .i64 m, .int .i64 n]).cells.toList true true 24)).get h.next = some (.cells [.int .i64 m, .int .i64 n] true true 24) := TH.get_self _ _
  have hx := HX.new h (.cells (Value.agg #[.int .i64 m, .int .i64 n]).cells.toList true true 24)
  have hn : h.next < (h.new (.cells (Value.agg #[.int .i64 m, .int .i64 n]).cells.toList true true 24)).next := Nat.lt_succ_self _
  generalize h.new (.cells (Value.agg #[.int .i64 m, .int .i64 n]).cells.toList true true 24) = h1 at hg hx hn
  refine W.seq (W.seq (W.reg ?_))
  refine WO.fa rfl fa24 (WO.ld rfl (load_sc sc3 hg rfl) (WO.fa rfl fb24 (WO.ld rfl (load_sc sc3 hg rfl) ?_)))
  refine WO.lk3 rfl rfl rfl rfl fun L => ((k17 H _ _ _ _).mono ?_)
  rintro v h' ⟨rfl, rfl⟩
  rw [TH.relock]
  refine WO.cl3 rfl rfl rfl rfl ((k17 H _ _ _ _).mono ?_)
  rintro v h1 ⟨rfl, rfl⟩
  refine WO.bs rfl u29 sc3 (fil2 _ _) (by omega) ?_
  have hg1 := TH.get_self h1 (.cells ([outB m (-999999999) 999999999, outB n 1 999999999].map (Value.int .i64)) true true 3)
  have hg2 : (h1.new (.cells ([outB m (-999999999) 999999999, outB n 1 999999999].map (Value.int .i64)) true true 3)).get h.next = _ := (TH.get_old hn).trans hg
  have hx2 := hx.trans (HX.new h1 (.cells ([outB m (-999999999) 999999999, outB n 1 999999999].map (Value.int .i64)) true true 3))
  generalize h1.new (.cells ([outB m (-999999999) 999999999, outB n 1 999999999].map (Value.int .i64)) true true 3) = h2 at hg1 hg2 hx2
  refine WO.cl1 rfl rfl ((k16 H hg1 (by simp)).mono ?_)
  rintro v h2 ⟨rfl, rfl⟩
  refine WO.as rfl (WO.nil ?_)
  refine W.seq (W.reg (WO.mv rfl (WO.bi rfl rfl rfl (WO.nil ?_))))
  refine W.cd rfl (OnB.way (fun hb => ?_) (fun hb => ?_))
  · refine W.seq (W.reg (WO.mv rfl (WO.as rfl (WO.nil (W.ret ?_)))))
    refine ⟨.inr rfl, _, rfl, ?_, hx2⟩
    show Value.int _ _ = Value.int _ _
    unfold ratioE
    rw [hb]
    rfl
  · refine W.skip ?_
    have hz : firstNZ [outB m (-999999999) 999999999, outB n 1 999999999] = 0 := by simpa using hb
    obtain ⟨z1, z2⟩ := two_zero hz
    obtain ⟨m1, m2⟩ := outB_zero z1
    obtain ⟨n1, n2⟩ := outB_zero z2
    obtain ⟨nn, rfl⟩ : ∃ k : Nat, n = k := ⟨n.toNat, by omega⟩
    refine W.seq (W.reg ?_)
    refine WO.fa rfl fa24 (WO.ld rfl (load_sc sc3 hg2 rfl) (WO.fa rfl fb24 (WO.ld rfl (load_sc sc3 hg2 rfl) ?_)))
    refine WO.cl2 rfl rfl rfl ((k97 H m1 m2 (by omega) (by omega)).mono ?_)
    rintro v h2 ⟨rfl, rfl⟩
    refine WO.bi rfl rfl rfl ?_
    refine WO.cl2 rfl rfl rfl ((k35 H _ _ _).mono ?_)
    rintro v h2 ⟨rfl, rfl⟩
    refine WO.as rfl (WO.nil (W.ret ?_))
    refine ⟨.inr rfl, _, rfl, ?_, hx2⟩
    show Value.int _ _ = Value.int _ _
    unfold ratioE
    rw [hb]
    rfl
end Go.Tidy
