/- Permutations are drawn, both ways: the calls. -/
import Derived.Test.YtkaiphobleifgaaGreatDoorSb4
import Derived.Test.YtkaiphobleifgaaGreatDoorSb5
set_option linter.all false
namespace Go.Tidy
open Go Go.Proofs Tab
variable {tp : TProg}

/-- A slice of these integers. -/
def IsInts (h : TH) (sl : Value) (L : List Int) : Prop :=
  (sl = .slice none 0 0 ∧ L = []) ∨ ∃ b c fix wr el, sl = .slice (some ⟨b, 0, none⟩) L.length c ∧ b < h.next ∧ h.get b = some (.cells (ints L) fix wr el)
theorem IsInts.hx {h h' : TH} {sl : Value} {L : List Int} (i : IsInts h sl L) (s : HX h h') : IsInts h' sl L := by
  rcases i with i | ⟨b, c, fix, wr, el, i1, i2, i3⟩
  · exact .inl i
  · exact .inr ⟨b, c, fix, wr, el, i1, by have := s.next; omega, s.get i2 i3⟩

/-- The error of a key and a number. -/
def drawE (key n : Int) : Int := firstNZ [outB key 1 2147483646, outB n 0 256]

set_option maxRecDepth 100000 in
set_option maxHeartbeats 1000000 in
theorem k15 (H : Has tp) (key n : Int) (h : TH) (f : Free0 h.next h) : CallW Tryz.prog tp (.func (.func 15) #[] #[]) #[.int .i64 key, .int .i64 n] h fun v h' => ∃ sl, v = .tuple #[sl, .int .i64 (drawE key n)] ∧ HX h h' ∧ IsInts h' sl (cond (drawE key n != 0) [] (drawL key.toNat n.toNat)) := by
  refine CallW.full (H.fn 15 f15 rfl rfl) rfl ?_
  refine W.seq (W.reg (WO.as rfl (WO.as rfl (WO.nil ?_))))
  refine W.seq (W.seq (W.reg ?_))
  refine WO.mv rfl (WO.cl3 rfl rfl rfl rfl ((k90 H _ _ _ _).mono ?_))
  rintro v h ⟨rfl, rfl⟩
  refine WO.mv rfl (WO.cl3 rfl rfl rfl rfl ((k90 H _ _ _ _).mono ?_))
  rintro v h ⟨rfl, rfl⟩
  refine WO.bs rfl u195 sc30 (fil2 _ _) (by omega) ?_
  have hg1 := TH.get_self h (.cells ([outB key 1 2147483646, outB n 0 256].map (Value.int .i64)) true true 30)
  have hx1 := HX.new h (.cells ([outB key 1 2147483646, outB n 0 256].map (Value.int .i64)) true true 30)
  have hn1 : (h.new (.cells ([outB key 1 2147483646, outB n 0 256].map (Value.int .i64)) true true 30)).next = h.next + 1 := rfl
  generalize h.new (.cells ([outB key 1 2147483646, outB n 0 256].map (Value.int .i64)) true true 30) = h1 at hg1 hx1 hn1
  refine WO.cl1 rfl rfl ((k89 H hg1 (by simp)).mono ?_)
  rintro v h1 ⟨rfl, rfl⟩
  refine WO.as rfl (WO.nil ?_)
  refine W.seq (W.reg (WO.mv rfl (WO.bi rfl rfl rfl (WO.nil ?_))))
  refine W.cd rfl (OnB.way (fun hb => ?_) (fun hb => ?_))
  · refine W.seq (W.reg (WO.mv rfl (WO.as rfl (WO.as rfl (WO.nil (W.ret ?_))))))
    refine ⟨.inr rfl, _, rfl, _, rfl, hx1, .inl ⟨rfl, ?_⟩⟩
    show cond (drawE key n != 0) [] _ = []
    unfold drawE
    rw [hb]
    rfl
  · refine W.skip ?_
    have hz : drawE key n = 0 := by unfold drawE; simpa using hb
    obtain ⟨z1, z2⟩ := two_zero hz
    obtain ⟨m1, m2⟩ := outB_zero z1
    obtain ⟨n1, n2⟩ := outB_zero z2
    obtain ⟨kk, rfl⟩ : ∃ k : Nat, key = k := ⟨key.toNat, by omega⟩
    obtain ⟨nn, rfl⟩ : ∃ k : Nat, n = k := ⟨n.toNat, by omega⟩
    refine k15a H (key := kk) (n := nn) ⟨by have := f.floor; have := hx1.floor; have := hx1.next; omega, fun l hl => by rw [hx1.lock] at hl; have := f.lock l hl; omega⟩ (by omega) (by omega) (by omega) (by repeat (first | with_reducible refine Full.put ?_ (by decide) _ | with_reducible refine Full.putn ?_ _ | with_reducible exact Full.of _ _ rfl | with_reducible exact Full.start _ _ (Nat.le_of_ble_eq_true rfl) | exact Full.start _ _ (Nat.le_of_ble_eq_true rfl))) rfl rfl ?_
    intro a' h' b q1 q2 q3 q4 q5 q6
    refine ⟨.inr rfl, [Regs.at_ a' 4, Regs.at_ a' 5], rfl, .slice (some ⟨b, 0, none⟩) nn nn, ?_, hx1.trans q1, ?_⟩
    · show Value.tuple #[Regs.at_ a' 4, Regs.at_ a' 5] = _
      rw [at_get q5, at_get q6, hz]
    · rw [hz]
      refine .inr ⟨b, nn, true, true, 3, ?_, q3, q4⟩
      show Value.slice _ _ _ = Value.slice _ (drawL kk nn).length _
      rw [drawL, drawGo_len]
      simp

theorem WO.app {P : Program} {tp : TProg} {a : Regs} {h h1 : TH} {K : Regs → TH → Prop} {rest : List TOper} {d : Option Tmp} {ty : TypeId} {i : Nat} {x y : Operand} {v vx vy : Value} {ts : Array TypeId} (hx : getO a x = some vx) (hy : getO a y = some vy) (hm : appendT P ts #[vx, vy] h = some (v, h1))
    (w : WO P tp rest (a.put d v) h1 K) : WO P tp (⟨d, .call ⟨.builtin .append, #[x, y], ts⟩, ty, none, [], i⟩ :: rest) a h K :=
  WO.op rfl rfl (fun call => by
    have e : (#[x, y].map a.eval) = #[vx, vy] := by simp [getO_eval hx, getO_eval hy]
    have hp : plainOp P ⟨d, .call ⟨.builtin .append, #[x, y], ts⟩, ty, none, [], i⟩ a.eval = none := rfl
    simp [stepOp, heapFirst, fastOp, valueOp, hp, heapOp, getO_eval hx, getO_eval hy, hm]) w
theorem fil1 (x : Int) : filled 1 1 [.int .i64 0] [(0, .int .i64 x)] = some ([x].map (Value.int .i64)) := by
  simp [filled, zeros, Instr.fill, Value.cells]

/-- A slice of the call's own. -/
def OwnI (n0 : Nat) (h : TH) (sl : Value) (L : List Int) : Prop :=
  (sl = .slice none 0 0 ∧ L = []) ∨ ∃ b, n0 ≤ b ∧ b < h.next ∧ h.get b = some (.cells (ints L) false true 3) ∧ sl = .slice (some ⟨b, 0, none⟩) L.length L.length
theorem OwnI.is {n0 : Nat} {h : TH} {sl : Value} {L : List Int} (o : OwnI n0 h sl L) : IsInts h sl L := by
  rcases o with o | ⟨b, _, o2, o3, o4⟩
  · exact .inl o
  · exact .inr ⟨b, _, _, _, _, o4, o2, o3⟩
theorem range_succ_ints (j : Nat) : (List.range (j + 1)).map Int.ofNat = (List.range j).map Int.ofNat ++ [(j : Int)] := by simp [List.range_succ]
theorem ints_append (l m : List Int) : ints (l ++ m) = ints l ++ ints m := by simp [ints]

set_option maxRecDepth 100000 in
set_option maxHeartbeats 1000000 in
theorem k18 (H : Has tp) (key n : Nat) (h : TH) (f : Free0 h.next h) (hk1 : 1 ≤ key) (hk2 : key ≤ 2147483646) (hn : n ≤ 256) : CallW Tryz.prog tp (.func (.func 18) #[] #[]) #[.int .i64 key, .int .i64 n] h fun v h' => HX h h' ∧ IsInts h' v (drawL key n) := by
  refine CallW.full (H.fn 18 f18 rfl rfl) rfl ?_
  refine W.seq (W.reg (WO.as rfl (WO.nil ?_)))
  refine W.seq (W.reg (WO.as rfl (WO.nil ?_)))
  refine W.seq (W.seq (W.reg (WO.as rfl (WO.nil ?_))))
  refine W.block (W.loop (fun k a h1 => ∃ (j : Nat) (sl : Value), j ≤ n ∧ k = n - j ∧ HX h h1 ∧ OwnI h.next h1 sl ((List.range j).map Int.ofNat) ∧ Full 52 a ∧ Tr.get a 0 = some (.int .i64 (key : Nat)) ∧ Tr.get a 1 = some (.int .i64 (n : Nat))
      ∧ Tr.get a 5 = some sl ∧ Tr.get a 6 = some (.int .i64 (j : Nat)))
    ?_ n _ h ⟨0, _, by omega, by omega, HX.refl h, .inl ⟨rfl, rfl⟩, (by repeat (first | with_reducible refine Full.put ?_ (by decide) _ | with_reducible refine Full.putn ?_ _ | with_reducible exact Full.of _ _ rfl | with_reducible exact Full.start _ _ (Nat.le_of_ble_eq_true rfl) | exact Full.start _ _ (Nat.le_of_ble_eq_true rfl))), rfl, rfl, rfl, rfl⟩)
  rintro k a h1 ⟨j, sl, hj, rfl, hx, ho, hf, i0, i1, i5, i6⟩
  (obtain ⟨rl0, hrl0, rfl⟩ := hf; obtain ⟨s0, rl1, rfl, hrl1⟩ := cons_of hrl0; obtain ⟨s1, rl2, rfl, hrl2⟩ := cons_of hrl1; obtain ⟨s2, rl3, rfl, hrl3⟩ := cons_of hrl2; obtain ⟨s3, rl4, rfl, hrl4⟩ := cons_of hrl3; obtain ⟨s4, rl5, rfl, hrl5⟩ := cons_of hrl4; obtain ⟨s5, rl6, rfl, hrl6⟩ := cons_of hrl5; obtain ⟨s6, rl7, rfl, hrl7⟩ := cons_of hrl6; obtain ⟨s7, rl8, rfl, hrl8⟩ := cons_of hrl7; obtain ⟨s8, rl9, rfl, hrl9⟩ := cons_of hrl8; obtain ⟨s9, rl10, rfl, hrl10⟩ := cons_of hrl9; obtain ⟨s10, rl11, rfl, hrl11⟩ := cons_of hrl10; obtain ⟨s11, rl12, rfl, hrl12⟩ := cons_of hrl11; obtain ⟨s12, rl13, rfl, hrl13⟩ := cons_of hrl12; obtain ⟨s13, rl14, rfl, hrl14⟩ := cons_of hrl13; obtain ⟨s14, rl15, rfl, hrl15⟩ := cons_of hrl14; obtain ⟨s15, rl16, rfl, hrl16⟩ := cons_of hrl15; obtain ⟨s16, rl17, rfl, hrl17⟩ := cons_of hrl16; obtain ⟨s17, rl18, rfl, hrl18⟩ := cons_of hrl17; obtain ⟨s18, rl19, rfl, hrl19⟩ := cons_of hrl18; obtain ⟨s19, rl20, rfl, hrl20⟩ := cons_of hrl19; obtain ⟨s20, rl21, rfl, hrl21⟩ := cons_of hrl20; obtain ⟨s21, rl22, rfl, hrl22⟩ := cons_of hrl21; obtain ⟨s22, rl23, rfl, hrl23⟩ := cons_of hrl22; obtain ⟨s23, rl24, rfl, hrl24⟩ := cons_of hrl23; obtain ⟨s24, rl25, rfl, hrl25⟩ := cons_of hrl24; obtain ⟨s25, rl26, rfl, hrl26⟩ := cons_of hrl25; obtain ⟨s26, rl27, rfl, hrl27⟩ := cons_of hrl26; obtain ⟨s27, rl28, rfl, hrl28⟩ := cons_of hrl27; obtain ⟨s28, rl29, rfl, hrl29⟩ := cons_of hrl28; obtain ⟨s29, rl30, rfl, hrl30⟩ := cons_of hrl29; obtain ⟨s30, rl31, rfl, hrl31⟩ := cons_of hrl30; obtain ⟨s31, rl32, rfl, hrl32⟩ := cons_of hrl31; obtain ⟨s32, rl33, rfl, hrl33⟩ := cons_of hrl32; obtain ⟨s33, rl34, rfl, hrl34⟩ := cons_of hrl33; obtain ⟨s34, rl35, rfl, hrl35⟩ := cons_of hrl34; obtain ⟨s35, rl36, rfl, hrl36⟩ := cons_of hrl35; obtain ⟨s36, rl37, rfl, hrl37⟩ := cons_of hrl36; obtain ⟨s37, rl38, rfl, hrl38⟩ := cons_of hrl37; obtain ⟨s38, rl39, rfl, hrl39⟩ := cons_of hrl38; obtain ⟨s39, rl40, rfl, hrl40⟩ := cons_of hrl39; obtain ⟨s40, rl41, rfl, hrl41⟩ := cons_of hrl40; obtain ⟨s41, rl42, rfl, hrl42⟩ := cons_of hrl41; obtain ⟨s42, rl43, rfl, hrl43⟩ := cons_of hrl42; obtain ⟨s43, rl44, rfl, hrl44⟩ := cons_of hrl43; obtain ⟨s44, rl45, rfl, hrl45⟩ := cons_of hrl44; obtain ⟨s45, rl46, rfl, hrl46⟩ := cons_of hrl45; obtain ⟨s46, rl47, rfl, hrl47⟩ := cons_of hrl46; obtain ⟨s47, rl48, rfl, hrl48⟩ := cons_of hrl47; obtain ⟨s48, rl49, rfl, hrl49⟩ := cons_of hrl48; obtain ⟨s49, rl50, rfl, hrl50⟩ := cons_of hrl49; obtain ⟨s50, rl51, rfl, hrl51⟩ := cons_of hrl50; obtain ⟨s51, rl52, rfl, hrl52⟩ := cons_of hrl51; obtain rfl := nil_of hrl52; clear hrl0 hrl1 hrl2 hrl3 hrl4 hrl5 hrl6 hrl7 hrl8 hrl9 hrl10 hrl11 hrl12 hrl13 hrl14 hrl15 hrl16 hrl17 hrl18 hrl19 hrl20 hrl21 hrl22 hrl23 hrl24 hrl25 hrl26 hrl27 hrl28 hrl29 hrl30 hrl31 hrl32 hrl33 hrl34 hrl35 hrl36 hrl37 hrl38 hrl39 hrl40 hrl41 hrl42 hrl43 hrl44 hrl45 hrl46 hrl47 hrl48 hrl49 hrl50 hrl51 hrl52; obtain rfl : s0 = _ := Option.some.inj (show some s0 = some _ from i0); clear i0; obtain rfl : s1 = _ := Option.some.inj (show some s1 = some _ from i1); clear i1; obtain rfl : s5 = _ := Option.some.inj (show some s5 = some _ from i5); clear i5; obtain rfl : s6 = _ := Option.some.inj (show some s6 = some _ from i6); clear i6)
  refine W.seq (W.seq (W.reg (WO.mv rfl (WO.mv rfl (WO.bi rfl rfl rfl (WO.nil ?_))))))
  refine W.cd rfl ?_
  by_cases hlt : j < n
  · have hd : decide ((j : Int) < (n : Int)) = true := by simpa using hlt
    rw [hd]
    refine OnB.yes (W.skip ?_)
    refine W.seq (W.block (W.reg (WO.mv rfl (WO.mv rfl (WO.bs rfl u29 sc3 (fil1 _) (by omega) ?_)))))
    have hg2 := TH.get_self h1 (.cells ([(j : Int)].map (Value.int .i64)) true true 3)
    have hx2 := hx.trans (HX.new h1 (.cells ([(j : Int)].map (Value.int .i64)) true true 3))
    have ho2 : OwnI h.next (h1.new (.cells ([(j : Int)].map (Value.int .i64)) true true 3)) s5 ((List.range j).map Int.ofNat) := by
      rcases ho with ho | ⟨b, o1, o2, o3, o4⟩
      · exact .inl ho
      · exact .inr ⟨b, o1, Nat.lt_succ_of_lt o2, (TH.get_old o2).trans o3, o4⟩
    have hnx2 : h1.next < (h1.new (.cells ([(j : Int)].map (Value.int .i64)) true true 3)).next := Nat.lt_succ_self _
    generalize h1.new (.cells ([(j : Int)].map (Value.int .i64)) true true 3) = h2 at hg2 hx2 ho2 hnx2
    rcases ho2 with ⟨rfl, hl⟩ | ⟨b, o1, o2, o3, rfl⟩
    · have hj0 : j = 0 := by
        cases j with
        | zero => rfl
        | succ j => rw [range_succ_ints] at hl; simp at hl
      subst hj0
      refine WO.app rfl rfl (append_nil_one u29 sc3 hg2 rfl) (WO.as rfl (WO.nil ?_))
      refine W.reg (WO.mv rfl (WO.bi rfl rfl (add_ok 0 (by omega)) (WO.as rfl (WO.nil ?_))))
      exact ⟨n - 1, by omega, 1, _, by omega, rfl, hx2.trans (HX.new _ _), .inr ⟨h2.next, hx2.next, Nat.lt_succ_self _, TH.get_self _ _, rfl⟩, (by repeat (first | with_reducible refine Full.put ?_ (by decide) _ | with_reducible refine Full.putn ?_ _ | with_reducible exact Full.of _ _ rfl | with_reducible exact Full.start _ _ (Nat.le_of_ble_eq_true rfl) | exact Full.start _ _ (Nat.le_of_ble_eq_true rfl))), rfl, rfl, rfl, rfl⟩
    · have hll : ((List.range j).map Int.ofNat).length = j := by simp
      rw [hll]
      refine WO.app rfl rfl (append_grow_one u29 sc3 o3 (by rw [ints_len, hll]) hg2 rfl (by omega) (f.hx hx2) o1 o2) (WO.as rfl (WO.nil ?_))
      refine W.reg (WO.mv rfl (WO.bi rfl rfl (add_ok j (by omega)) (WO.as rfl (WO.nil ?_))))
      refine ⟨n - (j + 1), by omega, j + 1, _, by omega, rfl, (hx2.upd o1 _).trans (HX.new _ _), .inr ⟨h2.next, hx2.next, Nat.lt_succ_self _, ?_, ?_⟩, (by repeat (first | with_reducible refine Full.put ?_ (by decide) _ | with_reducible refine Full.putn ?_ _ | with_reducible exact Full.of _ _ rfl | with_reducible exact Full.start _ _ (Nat.le_of_ble_eq_true rfl) | exact Full.start _ _ (Nat.le_of_ble_eq_true rfl))), rfl, rfl, rfl, rfl⟩
      · rw [range_succ_ints, ints_append]
        exact TH.get_self (h2.upd b .dead) _
      · simp
  · have hd : decide ((j : Int) < (n : Int)) = false := by simpa using hlt
    rw [hd]
    obtain rfl : j = n := by omega
    refine OnB.no (W.exit ?_)
    refine W.seq (W.reg (WO.mv rfl (WO.as rfl (WO.nil ?_))))
    refine W.seq (W.seq (W.reg (WO.mv rfl (WO.bi rfl rfl rfl (WO.as rfl (WO.nil ?_))))))
    refine W.block (W.loop (fun k a h1 => ∃ (i : Int) (x : Nat) (L : List Int) (sl : Value), -1 ≤ i ∧ i < j ∧ k = i.toNat ∧ x < 2147483647 ∧ L.length = j ∧ drawGo i.toNat x L = drawL key j ∧ HX h h1 ∧ OwnI h.next h1 sl L ∧ Full 52 a
        ∧ Tr.get a 5 = some sl ∧ Tr.get a 7 = some (.int .i64 (x : Nat)) ∧ Tr.get a 8 = some (.int .i64 i))
      ?_ (j - 1) _ h1 ⟨(j : Int) - 1, key, _, _, by omega, by omega, by omega, by omega, by simp, by rw [show ((j : Int) - 1).toNat = j - 1 by omega]; rfl, hx, ho, (by repeat (first | with_reducible refine Full.put ?_ (by decide) _ | with_reducible refine Full.putn ?_ _ | with_reducible exact Full.of _ _ rfl | with_reducible exact Full.start _ _ (Nat.le_of_ble_eq_true rfl) | exact Full.start _ _ (Nat.le_of_ble_eq_true rfl))), rfl, rfl, by show some (Value.int .i64 (fwrap .i64 ((j : Int) - 1))) = _; rw [fwrap_i64 (by omega) (by omega)]⟩)
    rintro k a h2 ⟨i, x, L, sl, hi1, hi2, rfl, hxx, hL, hdr, hx2, ho2, hf, i5, i7, i8⟩
    (obtain ⟨rl0, hrl0, rfl⟩ := hf; obtain ⟨s0, rl1, rfl, hrl1⟩ := cons_of hrl0; obtain ⟨s1, rl2, rfl, hrl2⟩ := cons_of hrl1; obtain ⟨s2, rl3, rfl, hrl3⟩ := cons_of hrl2; obtain ⟨s3, rl4, rfl, hrl4⟩ := cons_of hrl3; obtain ⟨s4, rl5, rfl, hrl5⟩ := cons_of hrl4; obtain ⟨s5, rl6, rfl, hrl6⟩ := cons_of hrl5; obtain ⟨s6, rl7, rfl, hrl7⟩ := cons_of hrl6; obtain ⟨s7, rl8, rfl, hrl8⟩ := cons_of hrl7; obtain ⟨s8, rl9, rfl, hrl9⟩ := cons_of hrl8; obtain ⟨s9, rl10, rfl, hrl10⟩ := cons_of hrl9; obtain ⟨s10, rl11, rfl, hrl11⟩ := cons_of hrl10; obtain ⟨s11, rl12, rfl, hrl12⟩ := cons_of hrl11; obtain ⟨s12, rl13, rfl, hrl13⟩ := cons_of hrl12; obtain ⟨s13, rl14, rfl, hrl14⟩ := cons_of hrl13; obtain ⟨s14, rl15, rfl, hrl15⟩ := cons_of hrl14; obtain ⟨s15, rl16, rfl, hrl16⟩ := cons_of hrl15; obtain ⟨s16, rl17, rfl, hrl17⟩ := cons_of hrl16; obtain ⟨s17, rl18, rfl, hrl18⟩ := cons_of hrl17; obtain ⟨s18, rl19, rfl, hrl19⟩ := cons_of hrl18; obtain ⟨s19, rl20, rfl, hrl20⟩ := cons_of hrl19; obtain ⟨s20, rl21, rfl, hrl21⟩ := cons_of hrl20; obtain ⟨s21, rl22, rfl, hrl22⟩ := cons_of hrl21; obtain ⟨s22, rl23, rfl, hrl23⟩ := cons_of hrl22; obtain ⟨s23, rl24, rfl, hrl24⟩ := cons_of hrl23; obtain ⟨s24, rl25, rfl, hrl25⟩ := cons_of hrl24; obtain ⟨s25, rl26, rfl, hrl26⟩ := cons_of hrl25; obtain ⟨s26, rl27, rfl, hrl27⟩ := cons_of hrl26; obtain ⟨s27, rl28, rfl, hrl28⟩ := cons_of hrl27; obtain ⟨s28, rl29, rfl, hrl29⟩ := cons_of hrl28; obtain ⟨s29, rl30, rfl, hrl30⟩ := cons_of hrl29; obtain ⟨s30, rl31, rfl, hrl31⟩ := cons_of hrl30; obtain ⟨s31, rl32, rfl, hrl32⟩ := cons_of hrl31; obtain ⟨s32, rl33, rfl, hrl33⟩ := cons_of hrl32; obtain ⟨s33, rl34, rfl, hrl34⟩ := cons_of hrl33; obtain ⟨s34, rl35, rfl, hrl35⟩ := cons_of hrl34; obtain ⟨s35, rl36, rfl, hrl36⟩ := cons_of hrl35; obtain ⟨s36, rl37, rfl, hrl37⟩ := cons_of hrl36; obtain ⟨s37, rl38, rfl, hrl38⟩ := cons_of hrl37; obtain ⟨s38, rl39, rfl, hrl39⟩ := cons_of hrl38; obtain ⟨s39, rl40, rfl, hrl40⟩ := cons_of hrl39; obtain ⟨s40, rl41, rfl, hrl41⟩ := cons_of hrl40; obtain ⟨s41, rl42, rfl, hrl42⟩ := cons_of hrl41; obtain ⟨s42, rl43, rfl, hrl43⟩ := cons_of hrl42; obtain ⟨s43, rl44, rfl, hrl44⟩ := cons_of hrl43; obtain ⟨s44, rl45, rfl, hrl45⟩ := cons_of hrl44; obtain ⟨s45, rl46, rfl, hrl46⟩ := cons_of hrl45; obtain ⟨s46, rl47, rfl, hrl47⟩ := cons_of hrl46; obtain ⟨s47, rl48, rfl, hrl48⟩ := cons_of hrl47; obtain ⟨s48, rl49, rfl, hrl49⟩ := cons_of hrl48; obtain ⟨s49, rl50, rfl, hrl50⟩ := cons_of hrl49; obtain ⟨s50, rl51, rfl, hrl51⟩ := cons_of hrl50; obtain ⟨s51, rl52, rfl, hrl52⟩ := cons_of hrl51; obtain rfl := nil_of hrl52; clear hrl0 hrl1 hrl2 hrl3 hrl4 hrl5 hrl6 hrl7 hrl8 hrl9 hrl10 hrl11 hrl12 hrl13 hrl14 hrl15 hrl16 hrl17 hrl18 hrl19 hrl20 hrl21 hrl22 hrl23 hrl24 hrl25 hrl26 hrl27 hrl28 hrl29 hrl30 hrl31 hrl32 hrl33 hrl34 hrl35 hrl36 hrl37 hrl38 hrl39 hrl40 hrl41 hrl42 hrl43 hrl44 hrl45 hrl46 hrl47 hrl48 hrl49 hrl50 hrl51 hrl52; obtain rfl : s5 = _ := Option.some.inj (show some s5 = some _ from i5); clear i5; obtain rfl : s7 = _ := Option.some.inj (show some s7 = some _ from i7); clear i7; obtain rfl : s8 = _ := Option.some.inj (show some s8 = some _ from i8); clear i8)
    refine W.seq (W.seq (W.reg (WO.mv rfl (WO.bi rfl rfl rfl (WO.nil ?_)))))
    refine W.cd rfl ?_
    by_cases hge : 1 ≤ i
    · obtain ⟨q, rfl⟩ : ∃ q : Nat, i = (q + 1 : Nat) := ⟨(i - 1).toNat, by omega⟩
      have hd : decide (((q + 1 : Nat) : Int) ≥ 1) = true := by simp; omega
      rw [hd]
      refine OnB.yes (W.skip ?_)
      rcases ho2 with ⟨_, hl⟩ | ⟨b, o1, o2, o3, o4⟩
      · rw [hl] at hL; simp at hL; omega
      rw [hL] at o4
      have o4 : s5 = _ := o4
      subst o4
      have hm : 742938285 * x % 2147483647 < 2147483647 := Nat.mod_lt _ (by decide)
      have hk : 742938285 * x % 2147483647 % (q + 1 + 1) < j := by have := Nat.mod_lt (742938285 * x % 2147483647) (show q + 1 + 1 > 0 by omega); omega
      refine W.seq (W.block (W.seq (W.reg (WO.mv rfl (WO.bi rfl rfl (mul_ok x hxx) (WO.remN (n := 2147483647) rfl rfl (by decide) (WO.as rfl (WO.nil ?_))))))))
      refine W.seq (W.reg (WO.mv rfl (WO.mv rfl (WO.bi rfl rfl (add_ok (q + 1) (by omega)) (WO.remN rfl rfl (by omega) (WO.as rfl (WO.nil ?_)))))))
      generalize hkk : 742938285 * x % 2147483647 % (q + 1 + 1) = kk at hk
      refine W.seq (W.reg ?_)
      refine WO.mv rfl (WO.mv rfl ?_)
      refine WO.ix rfl rfl (indexAddr_sl u29 sc3 (by omega) (by omega)) (WO.ld rfl (load_sc sc3 o3 (ints_get (k := 0 + ((q + 1 : Nat) : Int).toNat) (by omega))) ?_)
      refine WO.mv rfl (WO.mv rfl (WO.ix rfl rfl (indexAddr_sl u29 sc3 (by omega) (by omega)) (WO.ld rfl (load_sc sc3 o3 (ints_get (k := 0 + (kk : Int).toNat) (by omega))) ?_)))
      refine WO.as rfl (WO.as rfl (WO.nil ?_))
      refine W.seq (W.reg (WO.mv rfl (WO.mv rfl (WO.mv rfl (WO.ix rfl rfl (indexAddr_sl u29 sc3 (by omega) (by omega)) ?_)))))
      refine WO.st rfl rfl (store_sc sc3 o3 (by rw [ints_len]; omega) rfl rfl (f.hx hx2) o1 o2) (WO.nil ?_)
      have hg3 : (h2.upd b (.cells ((ints L).set (0 + (kk : Int).toNat) (.int .i64 (L.getD (0 + ((q + 1 : Nat) : Int).toNat) 0))) false true 3)).get b = _ := (TH.get_upd _ _ _ _).trans (if_pos rfl)
      have hx3 := hx2.upd o1 (.cells ((ints L).set (0 + (kk : Int).toNat) (.int .i64 (L.getD (0 + ((q + 1 : Nat) : Int).toNat) 0))) false true 3)
      have hnx3 : b < (h2.upd b (.cells ((ints L).set (0 + (kk : Int).toNat) (.int .i64 (L.getD (0 + ((q + 1 : Nat) : Int).toNat) 0))) false true 3)).next := o2
      generalize h2.upd b (.cells ((ints L).set (0 + (kk : Int).toNat) (.int .i64 (L.getD (0 + ((q + 1 : Nat) : Int).toNat) 0))) false true 3) = h3 at hg3 hx3 hnx3
      refine W.reg (WO.mv rfl (WO.mv rfl (WO.mv rfl (WO.ix rfl rfl (indexAddr_sl u29 sc3 (by omega) (by omega)) ?_))))
      refine WO.st rfl rfl (store_sc sc3 hg3 (by rw [List.length_set, ints_len]; omega) rfl rfl (f.hx hx3) o1 hnx3) (WO.nil ?_)
      refine W.reg (WO.mv rfl (WO.bi rfl rfl (sub_ok q (by omega)) (WO.as rfl (WO.nil ?_))))
      refine ⟨q, by omega, (q : Int), 742938285 * x % 2147483647, swapL L (q + 1) kk, _, by omega, by omega, by omega, hm, by rw [swapL_len]; exact hL, ?_, hx3.upd o1 _, .inr ⟨b, o1, hnx3, ?_, ?_⟩, (by repeat (first | with_reducible refine Full.put ?_ (by decide) _ | with_reducible refine Full.putn ?_ _ | with_reducible exact Full.of _ _ rfl | with_reducible exact Full.start _ _ (Nat.le_of_ble_eq_true rfl) | exact Full.start _ _ (Nat.le_of_ble_eq_true rfl))), rfl, rfl, rfl⟩
      · rw [← hdr]
        show drawGo q _ _ = drawGo (q + 1) x L
        simp only [drawGo, ← hkk]
      · rw [TH.get_upd, if_pos rfl]
        have e1 : 0 + (kk : Int).toNat = kk := by omega
        have e2 : 0 + ((q + 1 : Nat) : Int).toNat = q + 1 := by omega
        rw [e1, e2, ints_set, ints_set, swapL_other]
      · rw [swapL_len, hL]
    · have hd : decide (i ≥ 1) = false := by simpa using hge
      rw [hd]
      refine OnB.no (W.exit ?_)
      refine W.seq (W.reg (WO.mv rfl (WO.as rfl (WO.nil (W.ret ?_)))))
      have hi0 : i.toNat = 0 := by omega
      rw [hi0] at hdr
      have : L = drawL key j := hdr
      subst this
      exact ⟨.inr rfl, _, rfl, hx2, ho2.is⟩
end Go.Tidy
