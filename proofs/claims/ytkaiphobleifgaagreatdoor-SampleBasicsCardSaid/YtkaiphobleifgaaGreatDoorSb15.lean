/- The law's own text. -/
import Derived.Test.YtkaiphobleifgaaGreatDoorSb9
import Derived.Test.YtkaiphobleifgaaGreatDoorSb14
set_option linter.all false
namespace Go.Tidy
open Go Go.Proofs Tab
variable {tp : TProg}

section rules
variable {P : Program} {a : Regs} {h : TH} {K : Regs → TH → Prop} {rest : List TOper} {d : Option Tmp} {ty : TypeId} {i : Nat} {x y : Operand} {t u : TypeId}
theorem eqT_bool {b c : Bool} : eqT P t (.bool b) (.bool c) = none := by
  unfold eqT ptrEq nilEq
  cases P.underlying t with
  | none => rfl
  | some d => cases d <;> rfl
theorem pv_eqb {b c : Bool} (hu : P.underlying t = some .bool) : pv P (Op.equal t (.bool b) (.bool c)) = some (b == c) := by
  show pv P (Op.equalIn (9999 + 1) t (.bool b) (.bool c)) = _
  rw [Op.equalIn, pv_bind, pv_underlying hu]
  rfl
theorem WO.eqb {b c : Bool} (hu : P.underlying t = some .bool) (hx : getO a x = some (.bool b)) (hy : getO a y = some (.bool c)) (w : WO P tp rest (a.put d (.bool (b == c))) h K) : WO P tp (⟨d, .binOp .eql t x y u, ty, none, [], i⟩ :: rest) a h K := by
  have ex := getO_eval hx
  have ey := getO_eval hy
  refine WO.plainly rfl rfl rfl (by simp [fastOp, fastBin, ex, ey]) (by simp [valueOp, ex, ey, eqT_bool]) (plainOp_of (by rfl) (fun q hq => ?_) ?_ rfl) w
  · simp only [Op.operands] at hq
    simp at hq
    rcases hq with rfl | rfl
    · rw [ex]; rfl
    · rw [ey]; rfl
  · show pv P (execOp a.eval ⟨d, .binOp .eql t x y u, ty, "", #[], none⟩) = _
    simp [execOp, pv_bind, pv_map, pv_pure, ex, ey, eqGuard, binOp, pv_eqb hu]
end rules

theorem Free0.up {n m : Nat} {h : TH} (f : Free0 n h) (hm : n ≤ m) : Free0 m h := ⟨Nat.le_trans f.floor hm, fun l hl => Nat.lt_of_lt_of_le (f.lock l hl) hm⟩
theorem u4 : Tryz.prog.underlying 4 = some .bool := by kernel_rfl
theorem eqi (n : Int) : fastBin .eql (.int .i64 n) (.int .i64 n) = some (.bool true) := by
  show some (Value.bool (n == n)) = _
  simp
theorem ix22 {b : Nat} : indexAddrT Tryz.prog 22 (.pointer (some ⟨b, 0, none⟩)) (.int .i64 0) = some (.pointer (some ⟨b, 0, none⟩)) := by kernel_rfl
theorem iy22 {b : Nat} : indexAddrT Tryz.prog 22 (.pointer (some ⟨b, 0, none⟩)) (.int .i64 1) = some (.pointer (some ⟨b, 1, none⟩)) := by kernel_rfl
theorem fa27 {b : Nat} : fieldAddrT Tryz.prog 27 (.pointer (some ⟨b, 0, none⟩)) 0 = some (.pointer (some ⟨b, 0, none⟩)) := by kernel_rfl
theorem fb27 {b : Nat} : fieldAddrT Tryz.prog 27 (.pointer (some ⟨b, 0, none⟩)) 1 = some (.pointer (some ⟨b, 2, none⟩)) := by kernel_rfl
theorem sc25 : Sc Tryz.prog 25 (.float .f32 0) := sc_of (by kernel_rfl) (by kernel_rfl) rfl
theorem row24 : (Tryz.prog.underlying 24).map isRow = some true := by kernel_rfl
theorem size24 : (Tryz.prog.info? 24).map (·.size) = some 2 := by kernel_rfl
theorem load24 {b : Nat} {h : TH} {x y z : Value} {fix wr : Bool} {el : TypeId} (hg : h.get b = some (.cells [x, y, z] fix wr el)) : loadT Tryz.prog 24 (.pointer (some ⟨b, 0, none⟩)) h = some (.agg #[x, y]) := by
  have h1 := row24
  have h2 := size24
  rw [Option.map_eq_some_iff] at h1 h2
  obtain ⟨d, d1, d2⟩ := h1
  obtain ⟨i, i1, i2⟩ := h2
  simp only [loadT, d1, i1, d2, i2, Bool.cond_true, cellsAt, hg]
  rfl

/-- The examples hold; their text is not looked at any more. -/
structure Awk (tp : TProg) : Prop where
  no : tp.fn 14 = none
  e : ∃ e, tp.ext 14 = some e ∧ e [] = some (.bool true)
theorem k14 (A : Awk tp) (h : TH) : CallW Tryz.prog tp (.func (.func 14) #[] #[]) #[] h fun v h' => v = .bool true ∧ h' = h := by
  obtain ⟨e, e1, e2⟩ := A.e
  exact CallW.ext A.no e1 rfl e2 rfl ⟨rfl, rfl⟩

def rest3 : TCode := (.seq (.reg r3_3) (.seq (.reg r3_4) (.seq (.reg r3_5) (.seq (.seq (.reg r3_6) (.cond (.tmp 42) (.reg r3_7) .skip)) (.seq (.reg r3_8) .ret)))))

set_option maxRecDepth 100000 in
set_option maxHeartbeats 4000000 in
theorem k3r (H : Has tp) (X : HasX tp) (A : Awk tp) {s : ByteArray} {key n p q : Int} {b : Nat} {h : TH} {c5 c6 : Nat} (hg4 : h.get c5 = some (.cells [.int .i64 key, .int .i64 n] true true 22)) (hg5 : h.get c6 = some (.cells [.int .i64 p, .int .i64 q, .float .f32 b] true true 27)) (hc5 : c5 < h.next) (hc6 : c6 < h.next)
    (f : Free0 h.next h) {a : Regs} (hf : Full 84 a) (h0 : Tr.get a 0 = some (.string s)) (h4 : Tr.get a 4 = some (.pointer (some ⟨c5, 0, none⟩))) (h5 : Tr.get a 5 = some (.pointer (some ⟨c6, 0, none⟩))) :
    W Tryz.prog tp false rest3 a h fun x a' h' => (x = .normal ∨ x = .ret) ∧ ∃ vs, resultsT Tryz.prog [.tmp 6] a' h' = some vs ∧ one vs = .bool true := by
  (obtain ⟨rl0, hrl0, rfl⟩ := hf; obtain ⟨s0, rl1, rfl, hrl1⟩ := cons_of hrl0; obtain ⟨s1, rl2, rfl, hrl2⟩ := cons_of hrl1; obtain ⟨s2, rl3, rfl, hrl3⟩ := cons_of hrl2; obtain ⟨s3, rl4, rfl, hrl4⟩ := cons_of hrl3; obtain ⟨s4, rl5, rfl, hrl5⟩ := cons_of hrl4; obtain ⟨s5, rl6, rfl, hrl6⟩ := cons_of hrl5; obtain ⟨s6, rl7, rfl, hrl7⟩ := cons_of hrl6; obtain ⟨s7, rl8, rfl, hrl8⟩ := cons_of hrl7; obtain ⟨s8, rl9, rfl, hrl9⟩ := cons_of hrl8; obtain ⟨s9, rl10, rfl, hrl10⟩ := cons_of hrl9; obtain ⟨s10, rl11, rfl, hrl11⟩ := cons_of hrl10; obtain ⟨s11, rl12, rfl, hrl12⟩ := cons_of hrl11; obtain ⟨s12, rl13, rfl, hrl13⟩ := cons_of hrl12; obtain ⟨s13, rl14, rfl, hrl14⟩ := cons_of hrl13; obtain ⟨s14, rl15, rfl, hrl15⟩ := cons_of hrl14; obtain ⟨s15, rl16, rfl, hrl16⟩ := cons_of hrl15; obtain ⟨s16, rl17, rfl, hrl17⟩ := cons_of hrl16; obtain ⟨s17, rl18, rfl, hrl18⟩ := cons_of hrl17; obtain ⟨s18, rl19, rfl, hrl19⟩ := cons_of hrl18; obtain ⟨s19, rl20, rfl, hrl20⟩ := cons_of hrl19; obtain ⟨s20, rl21, rfl, hrl21⟩ := cons_of hrl20; obtain ⟨s21, rl22, rfl, hrl22⟩ := cons_of hrl21; obtain ⟨s22, rl23, rfl, hrl23⟩ := cons_of hrl22; obtain ⟨s23, rl24, rfl, hrl24⟩ := cons_of hrl23; obtain ⟨s24, rl25, rfl, hrl25⟩ := cons_of hrl24; obtain ⟨s25, rl26, rfl, hrl26⟩ := cons_of hrl25; obtain ⟨s26, rl27, rfl, hrl27⟩ := cons_of hrl26; obtain ⟨s27, rl28, rfl, hrl28⟩ := cons_of hrl27; obtain ⟨s28, rl29, rfl, hrl29⟩ := cons_of hrl28; obtain ⟨s29, rl30, rfl, hrl30⟩ := cons_of hrl29; obtain ⟨s30, rl31, rfl, hrl31⟩ := cons_of hrl30; obtain ⟨s31, rl32, rfl, hrl32⟩ := cons_of hrl31; obtain ⟨s32, rl33, rfl, hrl33⟩ := cons_of hrl32; obtain ⟨s33, rl34, rfl, hrl34⟩ := cons_of hrl33; obtain ⟨s34, rl35, rfl, hrl35⟩ := cons_of hrl34; obtain ⟨s35, rl36, rfl, hrl36⟩ := cons_of hrl35; obtain ⟨s36, rl37, rfl, hrl37⟩ := cons_of hrl36; obtain ⟨s37, rl38, rfl, hrl38⟩ := cons_of hrl37; obtain ⟨s38, rl39, rfl, hrl39⟩ := cons_of hrl38; obtain ⟨s39, rl40, rfl, hrl40⟩ := cons_of hrl39; obtain ⟨s40, rl41, rfl, hrl41⟩ := cons_of hrl40; obtain ⟨s41, rl42, rfl, hrl42⟩ := cons_of hrl41; obtain ⟨s42, rl43, rfl, hrl43⟩ := cons_of hrl42; obtain ⟨s43, rl44, rfl, hrl44⟩ := cons_of hrl43; obtain ⟨s44, rl45, rfl, hrl45⟩ := cons_of hrl44; obtain ⟨s45, rl46, rfl, hrl46⟩ := cons_of hrl45; obtain ⟨s46, rl47, rfl, hrl47⟩ := cons_of hrl46; obtain ⟨s47, rl48, rfl, hrl48⟩ := cons_of hrl47; obtain ⟨s48, rl49, rfl, hrl49⟩ := cons_of hrl48; obtain ⟨s49, rl50, rfl, hrl50⟩ := cons_of hrl49; obtain ⟨s50, rl51, rfl, hrl51⟩ := cons_of hrl50; obtain ⟨s51, rl52, rfl, hrl52⟩ := cons_of hrl51; obtain ⟨s52, rl53, rfl, hrl53⟩ := cons_of hrl52; obtain ⟨s53, rl54, rfl, hrl54⟩ := cons_of hrl53; obtain ⟨s54, rl55, rfl, hrl55⟩ := cons_of hrl54; obtain ⟨s55, rl56, rfl, hrl56⟩ := cons_of hrl55; obtain ⟨s56, rl57, rfl, hrl57⟩ := cons_of hrl56; obtain ⟨s57, rl58, rfl, hrl58⟩ := cons_of hrl57; obtain ⟨s58, rl59, rfl, hrl59⟩ := cons_of hrl58; obtain ⟨s59, rl60, rfl, hrl60⟩ := cons_of hrl59; obtain ⟨s60, rl61, rfl, hrl61⟩ := cons_of hrl60; obtain ⟨s61, rl62, rfl, hrl62⟩ := cons_of hrl61; obtain ⟨s62, rl63, rfl, hrl63⟩ := cons_of hrl62; obtain ⟨s63, rl64, rfl, hrl64⟩ := cons_of hrl63; obtain ⟨s64, rl65, rfl, hrl65⟩ := cons_of hrl64; obtain ⟨s65, rl66, rfl, hrl66⟩ := cons_of hrl65; obtain ⟨s66, rl67, rfl, hrl67⟩ := cons_of hrl66; obtain ⟨s67, rl68, rfl, hrl68⟩ := cons_of hrl67; obtain ⟨s68, rl69, rfl, hrl69⟩ := cons_of hrl68; obtain ⟨s69, rl70, rfl, hrl70⟩ := cons_of hrl69; obtain ⟨s70, rl71, rfl, hrl71⟩ := cons_of hrl70; obtain ⟨s71, rl72, rfl, hrl72⟩ := cons_of hrl71; obtain ⟨s72, rl73, rfl, hrl73⟩ := cons_of hrl72; obtain ⟨s73, rl74, rfl, hrl74⟩ := cons_of hrl73; obtain ⟨s74, rl75, rfl, hrl75⟩ := cons_of hrl74; obtain ⟨s75, rl76, rfl, hrl76⟩ := cons_of hrl75; obtain ⟨s76, rl77, rfl, hrl77⟩ := cons_of hrl76; obtain ⟨s77, rl78, rfl, hrl78⟩ := cons_of hrl77; obtain ⟨s78, rl79, rfl, hrl79⟩ := cons_of hrl78; obtain ⟨s79, rl80, rfl, hrl80⟩ := cons_of hrl79; obtain ⟨s80, rl81, rfl, hrl81⟩ := cons_of hrl80; obtain ⟨s81, rl82, rfl, hrl82⟩ := cons_of hrl81; obtain ⟨s82, rl83, rfl, hrl83⟩ := cons_of hrl82; obtain ⟨s83, rl84, rfl, hrl84⟩ := cons_of hrl83; obtain rfl := nil_of hrl84; clear hrl0 hrl1 hrl2 hrl3 hrl4 hrl5 hrl6 hrl7 hrl8 hrl9 hrl10 hrl11 hrl12 hrl13 hrl14 hrl15 hrl16 hrl17 hrl18 hrl19 hrl20 hrl21 hrl22 hrl23 hrl24 hrl25 hrl26 hrl27 hrl28 hrl29 hrl30 hrl31 hrl32 hrl33 hrl34 hrl35 hrl36 hrl37 hrl38 hrl39 hrl40 hrl41 hrl42 hrl43 hrl44 hrl45 hrl46 hrl47 hrl48 hrl49 hrl50 hrl51 hrl52 hrl53 hrl54 hrl55 hrl56 hrl57 hrl58 hrl59 hrl60 hrl61 hrl62 hrl63 hrl64 hrl65 hrl66 hrl67 hrl68 hrl69 hrl70 hrl71 hrl72 hrl73 hrl74 hrl75 hrl76 hrl77 hrl78 hrl79 hrl80 hrl81 hrl82 hrl83 hrl84; obtain rfl : s0 = _ := Option.some.inj (show some s0 = some _ from h0); clear h0; obtain rfl : s4 = _ := Option.some.inj (show some s4 = some _ from h4); clear h4; obtain rfl : s5 = _ := Option.some.inj (show some s5 = some _ from h5); clear h5)
  obtain ⟨e, E⟩ := sampleE_ex b
  refine W.seq (W.reg ?_)
  refine WO.ix rfl rfl ix22 (WO.ld rfl (load_sc sc3 hg4 rfl) (WO.ix rfl rfl iy22 (WO.ld rfl (load_sc sc3 hg4 rfl) ?_)))
  refine WO.cl2 rfl rfl rfl ((k15 H key n h f).mono ?_)
  rintro v h1 ⟨sl, rfl, hx1, is1⟩
  replace hg4 := hx1.get hc5 hg4
  replace hg5 := hx1.get hc6 hg5
  replace hc5 := Nat.lt_of_lt_of_le hc5 hx1.next
  replace hc6 := Nat.lt_of_lt_of_le hc6 hx1.next
  replace f := (f.hx hx1).up hx1.next
  refine WO.mv rfl (WO.ex rfl rfl (WO.ex rfl rfl (WO.as rfl (WO.as rfl (WO.nil ?_)))))
  refine W.seq (W.reg ?_)
  refine WO.ix rfl rfl ix22 (WO.ld rfl (load_sc sc3 hg4 rfl) (WO.ix rfl rfl iy22 (WO.ld rfl (load_sc sc3 hg4 rfl) ?_)))
  refine WO.lk3 rfl rfl rfl rfl fun L => ((k17 H _ _ _ _).mono ?_)
  rintro v h' ⟨rfl, rfl⟩
  rw [TH.relock]
  refine WO.cl3 rfl rfl rfl rfl ((k17 H _ _ _ _).mono ?_)
  rintro v h1 ⟨rfl, rfl⟩
  refine WO.bs rfl u29 sc3 (fil2 _ _) (by omega) ?_
  have gn := TH.get_self h1 (.cells ([outB key 1 2147483646, outB n 0 256].map (Value.int .i64)) true true 3)
  have hx2 := HX.new h1 (.cells ([outB key 1 2147483646, outB n 0 256].map (Value.int .i64)) true true 3)
  generalize h1.new (.cells ([outB key 1 2147483646, outB n 0 256].map (Value.int .i64)) true true 3) = h2 at gn hx2
  replace hg4 := hx2.get hc5 hg4
  replace hg5 := hx2.get hc6 hg5
  replace hc5 := Nat.lt_of_lt_of_le hc5 hx2.next
  replace hc6 := Nat.lt_of_lt_of_le hc6 hx2.next
  replace f := (f.hx hx2).up hx2.next
  replace is1 := is1.hx hx2
  refine WO.cl1 rfl rfl ((k16 H gn (by simp)).mono ?_)
  rintro v h2 ⟨rfl, rfl⟩
  refine WO.as rfl (WO.nil ?_)
  refine W.seq (W.reg (WO.as rfl (WO.nil ?_)))
  have tailp : ∀ (sl2 : Value) (h3 : TH) (a : Regs), Full 84 a → Tr.get a 0 = some (.string s) → Tr.get a 5 = some (.pointer (some ⟨c6, 0, none⟩)) → Tr.get a 7 = some sl → Tr.get a 8 = some (.int .i64 (drawE key n)) → Tr.get a 9 = some (.int .i64 (drawE key n)) → Tr.get a 10 = some sl2 → HX h2 h3 → IsInts h3 sl2 (cond (drawE key n != 0) [] (drawL key.toNat n.toNat)) →
      W Tryz.prog tp false (.seq (.reg r3_8) .ret) a h3 fun x a' h' => (x = .normal ∨ x = .ret) ∧ ∃ vs, resultsT Tryz.prog [.tmp 6] a' h' = some vs ∧ one vs = .bool true := by
    intro sl2 h3 a hf h0 h5 h7 h8 h9 h10 hx3 is3
    have is2 := is1.hx hx3
    replace hg5 := hx3.get hc6 hg5
    replace hc6 := Nat.lt_of_lt_of_le hc6 hx3.next
    replace f := (f.hx hx3).up hx3.next
    clear hg4 hc5 gn hx2 hx3 is1
    have hlen : (cond (drawE key n != 0) [] (drawL key.toNat n.toNat)).length ≤ 1000000 := by
      by_cases hz : drawE key n = 0
      · obtain ⟨z1, z2⟩ := two_zero hz
        obtain ⟨n1, n2⟩ := outB_zero z2
        rw [hz]
        show (drawL key.toNat n.toNat).length ≤ 1000000
        rw [drawL, drawGo_len]
        simp
        omega
      · have hb : (drawE key n != 0) = true := by simpa using hz
        rw [hb]
        exact Nat.zero_le _
    generalize cond (drawE key n != 0) [] (drawL key.toNat n.toNat) = L at is2 is3 hlen
    generalize drawE key n = dE at h8 h9
    (obtain ⟨rl0, hrl0, rfl⟩ := hf; obtain ⟨s0, rl1, rfl, hrl1⟩ := cons_of hrl0; obtain ⟨s1, rl2, rfl, hrl2⟩ := cons_of hrl1; obtain ⟨s2, rl3, rfl, hrl3⟩ := cons_of hrl2; obtain ⟨s3, rl4, rfl, hrl4⟩ := cons_of hrl3; obtain ⟨s4, rl5, rfl, hrl5⟩ := cons_of hrl4; obtain ⟨s5, rl6, rfl, hrl6⟩ := cons_of hrl5; obtain ⟨s6, rl7, rfl, hrl7⟩ := cons_of hrl6; obtain ⟨s7, rl8, rfl, hrl8⟩ := cons_of hrl7; obtain ⟨s8, rl9, rfl, hrl9⟩ := cons_of hrl8; obtain ⟨s9, rl10, rfl, hrl10⟩ := cons_of hrl9; obtain ⟨s10, rl11, rfl, hrl11⟩ := cons_of hrl10; obtain ⟨s11, rl12, rfl, hrl12⟩ := cons_of hrl11; obtain ⟨s12, rl13, rfl, hrl13⟩ := cons_of hrl12; obtain ⟨s13, rl14, rfl, hrl14⟩ := cons_of hrl13; obtain ⟨s14, rl15, rfl, hrl15⟩ := cons_of hrl14; obtain ⟨s15, rl16, rfl, hrl16⟩ := cons_of hrl15; obtain ⟨s16, rl17, rfl, hrl17⟩ := cons_of hrl16; obtain ⟨s17, rl18, rfl, hrl18⟩ := cons_of hrl17; obtain ⟨s18, rl19, rfl, hrl19⟩ := cons_of hrl18; obtain ⟨s19, rl20, rfl, hrl20⟩ := cons_of hrl19; obtain ⟨s20, rl21, rfl, hrl21⟩ := cons_of hrl20; obtain ⟨s21, rl22, rfl, hrl22⟩ := cons_of hrl21; obtain ⟨s22, rl23, rfl, hrl23⟩ := cons_of hrl22; obtain ⟨s23, rl24, rfl, hrl24⟩ := cons_of hrl23; obtain ⟨s24, rl25, rfl, hrl25⟩ := cons_of hrl24; obtain ⟨s25, rl26, rfl, hrl26⟩ := cons_of hrl25; obtain ⟨s26, rl27, rfl, hrl27⟩ := cons_of hrl26; obtain ⟨s27, rl28, rfl, hrl28⟩ := cons_of hrl27; obtain ⟨s28, rl29, rfl, hrl29⟩ := cons_of hrl28; obtain ⟨s29, rl30, rfl, hrl30⟩ := cons_of hrl29; obtain ⟨s30, rl31, rfl, hrl31⟩ := cons_of hrl30; obtain ⟨s31, rl32, rfl, hrl32⟩ := cons_of hrl31; obtain ⟨s32, rl33, rfl, hrl33⟩ := cons_of hrl32; obtain ⟨s33, rl34, rfl, hrl34⟩ := cons_of hrl33; obtain ⟨s34, rl35, rfl, hrl35⟩ := cons_of hrl34; obtain ⟨s35, rl36, rfl, hrl36⟩ := cons_of hrl35; obtain ⟨s36, rl37, rfl, hrl37⟩ := cons_of hrl36; obtain ⟨s37, rl38, rfl, hrl38⟩ := cons_of hrl37; obtain ⟨s38, rl39, rfl, hrl39⟩ := cons_of hrl38; obtain ⟨s39, rl40, rfl, hrl40⟩ := cons_of hrl39; obtain ⟨s40, rl41, rfl, hrl41⟩ := cons_of hrl40; obtain ⟨s41, rl42, rfl, hrl42⟩ := cons_of hrl41; obtain ⟨s42, rl43, rfl, hrl43⟩ := cons_of hrl42; obtain ⟨s43, rl44, rfl, hrl44⟩ := cons_of hrl43; obtain ⟨s44, rl45, rfl, hrl45⟩ := cons_of hrl44; obtain ⟨s45, rl46, rfl, hrl46⟩ := cons_of hrl45; obtain ⟨s46, rl47, rfl, hrl47⟩ := cons_of hrl46; obtain ⟨s47, rl48, rfl, hrl48⟩ := cons_of hrl47; obtain ⟨s48, rl49, rfl, hrl49⟩ := cons_of hrl48; obtain ⟨s49, rl50, rfl, hrl50⟩ := cons_of hrl49; obtain ⟨s50, rl51, rfl, hrl51⟩ := cons_of hrl50; obtain ⟨s51, rl52, rfl, hrl52⟩ := cons_of hrl51; obtain ⟨s52, rl53, rfl, hrl53⟩ := cons_of hrl52; obtain ⟨s53, rl54, rfl, hrl54⟩ := cons_of hrl53; obtain ⟨s54, rl55, rfl, hrl55⟩ := cons_of hrl54; obtain ⟨s55, rl56, rfl, hrl56⟩ := cons_of hrl55; obtain ⟨s56, rl57, rfl, hrl57⟩ := cons_of hrl56; obtain ⟨s57, rl58, rfl, hrl58⟩ := cons_of hrl57; obtain ⟨s58, rl59, rfl, hrl59⟩ := cons_of hrl58; obtain ⟨s59, rl60, rfl, hrl60⟩ := cons_of hrl59; obtain ⟨s60, rl61, rfl, hrl61⟩ := cons_of hrl60; obtain ⟨s61, rl62, rfl, hrl62⟩ := cons_of hrl61; obtain ⟨s62, rl63, rfl, hrl63⟩ := cons_of hrl62; obtain ⟨s63, rl64, rfl, hrl64⟩ := cons_of hrl63; obtain ⟨s64, rl65, rfl, hrl65⟩ := cons_of hrl64; obtain ⟨s65, rl66, rfl, hrl66⟩ := cons_of hrl65; obtain ⟨s66, rl67, rfl, hrl67⟩ := cons_of hrl66; obtain ⟨s67, rl68, rfl, hrl68⟩ := cons_of hrl67; obtain ⟨s68, rl69, rfl, hrl69⟩ := cons_of hrl68; obtain ⟨s69, rl70, rfl, hrl70⟩ := cons_of hrl69; obtain ⟨s70, rl71, rfl, hrl71⟩ := cons_of hrl70; obtain ⟨s71, rl72, rfl, hrl72⟩ := cons_of hrl71; obtain ⟨s72, rl73, rfl, hrl73⟩ := cons_of hrl72; obtain ⟨s73, rl74, rfl, hrl74⟩ := cons_of hrl73; obtain ⟨s74, rl75, rfl, hrl75⟩ := cons_of hrl74; obtain ⟨s75, rl76, rfl, hrl76⟩ := cons_of hrl75; obtain ⟨s76, rl77, rfl, hrl77⟩ := cons_of hrl76; obtain ⟨s77, rl78, rfl, hrl78⟩ := cons_of hrl77; obtain ⟨s78, rl79, rfl, hrl79⟩ := cons_of hrl78; obtain ⟨s79, rl80, rfl, hrl80⟩ := cons_of hrl79; obtain ⟨s80, rl81, rfl, hrl81⟩ := cons_of hrl80; obtain ⟨s81, rl82, rfl, hrl82⟩ := cons_of hrl81; obtain ⟨s82, rl83, rfl, hrl83⟩ := cons_of hrl82; obtain ⟨s83, rl84, rfl, hrl84⟩ := cons_of hrl83; obtain rfl := nil_of hrl84; clear hrl0 hrl1 hrl2 hrl3 hrl4 hrl5 hrl6 hrl7 hrl8 hrl9 hrl10 hrl11 hrl12 hrl13 hrl14 hrl15 hrl16 hrl17 hrl18 hrl19 hrl20 hrl21 hrl22 hrl23 hrl24 hrl25 hrl26 hrl27 hrl28 hrl29 hrl30 hrl31 hrl32 hrl33 hrl34 hrl35 hrl36 hrl37 hrl38 hrl39 hrl40 hrl41 hrl42 hrl43 hrl44 hrl45 hrl46 hrl47 hrl48 hrl49 hrl50 hrl51 hrl52 hrl53 hrl54 hrl55 hrl56 hrl57 hrl58 hrl59 hrl60 hrl61 hrl62 hrl63 hrl64 hrl65 hrl66 hrl67 hrl68 hrl69 hrl70 hrl71 hrl72 hrl73 hrl74 hrl75 hrl76 hrl77 hrl78 hrl79 hrl80 hrl81 hrl82 hrl83 hrl84; obtain rfl : s0 = _ := Option.some.inj (show some s0 = some _ from h0); clear h0; obtain rfl : s5 = _ := Option.some.inj (show some s5 = some _ from h5); clear h5; obtain rfl : s7 = _ := Option.some.inj (show some s7 = some _ from h7); clear h7; obtain rfl : s8 = _ := Option.some.inj (show some s8 = some _ from h8); clear h8; obtain rfl : s9 = _ := Option.some.inj (show some s9 = some _ from h9); clear h9; obtain rfl : s10 = _ := Option.some.inj (show some s10 = some _ from h10); clear h10)
    refine W.seq (W.reg (WO.mv rfl (WO.mv rfl ?_)))
    refine WO.cl1 rfl rfl ((k19 H s h3 f).mono ?_)
    rintro v h4 ⟨rfl, hx4⟩
    replace is2 := is2.hx hx4
    replace is3 := is3.hx hx4
    replace hg5 := hx4.get hc6 hg5
    replace hc6 := Nat.lt_of_lt_of_le hc6 hx4.next
    clear f hx4
    refine WO.cl1 rfl rfl ((k20 H s h4).mono ?_)
    rintro v h4 ⟨rfl, rfl⟩
    refine WO.eqb u4 rfl rfl ?_
    rw [show (nameB s == nameB s) = true from by cases nameB s <;> rfl]
    refine WO.mv rfl (WO.gt rfl rfl (OnB.yes (WO.mv rfl (WO.gt rfl rfl (OnB.yes (WO.mv rfl (WO.gt rfl rfl (OnB.yes ?_))))))))
    refine WO.cl2 rfl rfl rfl ((k21 H is2 is3 hlen).mono ?_)
    rintro v h4 ⟨rfl, rfl⟩
    rw [decide_eq_true rfl]
    refine WO.pk rfl rfl rfl (OnB.yes (WO.mv rfl ?_))
    refine WO.gt rfl rfl (OnB.yes (WO.mv rfl (WO.gt rfl rfl (OnB.yes (WO.mv rfl (WO.gt rfl rfl (OnB.yes (WO.bi rfl rfl (eqi dE) ?_))))))))
    refine WO.pk rfl rfl rfl (OnB.yes (WO.mv rfl ?_))
    refine WO.gt rfl rfl (OnB.yes (WO.fa rfl fa27 (WO.gt rfl rfl (OnB.yes (WO.ld rfl (load24 hg5) ?_)))))
    refine WO.gt rfl rfl (OnB.yes (WO.fa rfl fa27 (WO.gt rfl rfl (OnB.yes (WO.ld rfl (load24 hg5) ?_)))))
    refine WO.gt rfl rfl (OnB.yes (WO.lk1 rfl rfl fun L => ((k22 H p q _).mono ?_)))
    rintro v h5 ⟨rfl, hx5⟩
    replace hx5 := hx5.relock
    generalize h5.withLock h4.lock = h6 at hx5 ⊢
    replace hg5 := hx5.get hc6 hg5
    replace hc6 := Nat.lt_of_lt_of_le hc6 hx5.next
    refine WO.gt rfl rfl (OnB.yes (WO.cl1 rfl rfl ((k23 H p q h6).mono ?_)))
    rintro v h7 ⟨rfl, hx7⟩
    replace hg5 := hx7.get hc6 hg5
    replace hc6 := Nat.lt_of_lt_of_le hc6 hx7.next
    refine WO.gt rfl rfl (OnB.yes (WO.bi rfl rfl (eqi _) ?_))
    refine WO.pk rfl rfl rfl (OnB.yes (WO.mv rfl ?_))
    refine WO.gt rfl rfl (OnB.yes (WO.fa rfl fb27 (WO.gt rfl rfl (OnB.yes (WO.ld rfl (load_sc sc25 hg5 rfl) ?_)))))
    refine WO.gt rfl rfl (OnB.yes (WO.fa rfl fb27 (WO.gt rfl rfl (OnB.yes (WO.ld rfl (load_sc sc25 hg5 rfl) ?_)))))
    refine WO.gt rfl rfl (OnB.yes (WO.lk1 rfl rfl fun L => ((k24 H X E _).mono ?_)))
    rintro v h8 ⟨rfl, rfl⟩
    rw [TH.relock]
    refine WO.gt rfl rfl (OnB.yes (WO.cl1 rfl rfl ((k25 H E h7).mono ?_)))
    rintro v h8 ⟨rfl, rfl⟩
    refine WO.gt rfl rfl (OnB.yes (WO.bi rfl rfl (eqi _) ?_))
    refine WO.pk rfl rfl rfl (OnB.yes (WO.mv rfl ?_))
    refine WO.gt rfl rfl (OnB.yes (WO.cl0 rfl ((k14 A _).mono ?_)))
    rintro v h9 ⟨rfl, rfl⟩
    refine WO.pk rfl rfl rfl (OnB.yes (WO.as rfl (WO.nil (W.ret ?_))))
    exact ⟨.inr rfl, _, rfl, rfl⟩
  refine W.seq (W.seq (W.reg (WO.mv rfl (WO.bi rfl rfl rfl (WO.nil ?_)))))
  refine W.cd rfl (OnB.way (fun hb => ?_) (fun hb => ?_))
  · have hz : drawE key n = 0 := by unfold drawE; simpa using hb
    obtain ⟨z1, z2⟩ := two_zero hz
    obtain ⟨m1, m2⟩ := outB_zero z1
    obtain ⟨n1, n2⟩ := outB_zero z2
    obtain ⟨kk, rfl⟩ : ∃ k : Nat, key = k := ⟨key.toNat, by omega⟩
    obtain ⟨nn, rfl⟩ : ∃ k : Nat, n = k := ⟨n.toNat, by omega⟩
    refine W.reg ?_
    refine WO.ix rfl rfl ix22 (WO.ld rfl (load_sc sc3 hg4 rfl) (WO.ix rfl rfl iy22 (WO.ld rfl (load_sc sc3 hg4 rfl) ?_)))
    refine WO.cl2 rfl rfl rfl ((k18 H kk nn h2 f (by omega) (by omega) (by omega)).mono ?_)
    rintro v h3 ⟨hx3, is3⟩
    refine WO.as rfl (WO.nil ?_)
    refine tailp _ _ _ (by repeat (first | with_reducible refine Full.put ?_ (by decide) _ | with_reducible refine Full.putn ?_ _ | with_reducible exact Full.of _ _ rfl | with_reducible exact Full.start _ _ (Nat.le_of_ble_eq_true rfl) | exact Full.start _ _ (Nat.le_of_ble_eq_true rfl))) rfl rfl rfl rfl rfl rfl hx3 ?_
    rw [hz]
    exact is3
  · refine W.skip ?_
    refine tailp _ _ _ (by repeat (first | with_reducible refine Full.put ?_ (by decide) _ | with_reducible refine Full.putn ?_ _ | with_reducible exact Full.of _ _ rfl | with_reducible exact Full.start _ _ (Nat.le_of_ble_eq_true rfl) | exact Full.start _ _ (Nat.le_of_ble_eq_true rfl))) rfl rfl rfl rfl rfl rfl (HX.refl h2) (.inl ⟨rfl, ?_⟩)
    have hz : (drawE key n != 0) = true := by
      have : (drawE key n == 0) = false := hb
      simp [bne, this]
    rw [hz]; rfl
end Go.Tidy
