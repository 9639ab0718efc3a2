/- Permutations are drawn, both ways. -/
import Derived.Test.YtkaiphobleifgaaGreatDoorSb3
import Derived.Test.YtkaiphobleifgaaGreatDoorTd5
set_option linter.all false
namespace Go.Tidy
open Go Go.Proofs Tab
variable {tp : TProg}

def ints (l : List Int) : List Value := l.map (Value.int .i64)
theorem ints_get {l : List Int} {k : Nat} (h : k < l.length) : (ints l)[k]? = some (.int .i64 (l.getD k 0)) := by
  simp [ints, List.getElem?_map, List.getElem?_eq_getElem h, List.getD_eq_getElem?_getD]
theorem ints_set (l : List Int) (k : Nat) (x : Int) : (ints l).set k (.int .i64 x) = ints (l.set k x) := by simp [ints, List.map_set]
theorem ints_len (l : List Int) : (ints l).length = l.length := by simp [ints]

def swapL (l : List Int) (i k : Nat) : List Int := (l.set i (l.getD k 0)).set k (l.getD i 0)
theorem swapL_len (l : List Int) (i k : Nat) : (swapL l i k).length = l.length := by simp [swapL]
theorem swapL_other (l : List Int) (i k : Nat) : (l.set k (l.getD i 0)).set i (l.getD k 0) = swapL l i k := by
  unfold swapL
  by_cases h : i = k
  · subst h; rfl
  · rw [List.set_comm _ _ (by omega)]
def drawGo : Nat → Nat → List Int → List Int
  | 0, _, l => l
  | i + 1, x, l => drawGo i (742938285 * x % 2147483647) (swapL l (i + 1) (742938285 * x % 2147483647 % (i + 2)))
theorem drawGo_len : ∀ (i x : Nat) (l : List Int), (drawGo i x l).length = l.length := by
  intro i
  induction i with
  | zero => intro x l; rfl
  | succ i ih => intro x l; simp only [drawGo, ih, swapL_len]
/-- So many numbers, drawn by a key. -/
def drawL (key n : Nat) : List Int := drawGo (n - 1) key ((List.range n).map Int.ofNat)

theorem mul_ok (x : Nat) (h : x < 2147483647) : fastBin .mul (.int .i64 742938285) (.int .i64 (x : Nat)) = some (.int .i64 ((742938285 * x : Nat) : Int)) := by
  show some (Value.int .i64 (fwrap .i64 (742938285 * (x : Int)))) = _
  rw [fwrap_i64 (by omega) (by omega)]
  simp
theorem add_ok (x : Nat) (h : x < 2147483647) : fastBin .add (.int .i64 (x : Nat)) (.int .i64 1) = some (.int .i64 ((x + 1 : Nat) : Int)) := by
  show some (Value.int .i64 (fwrap .i64 ((x : Int) + 1))) = _
  rw [fwrap_i64 (by omega) (by omega)]
  rfl
theorem sub_ok (x : Nat) (h : x < 2147483647) : fastBin .sub (.int .i64 ((x + 1 : Nat) : Int)) (.int .i64 1) = some (.int .i64 (x : Nat)) := by
  show some (Value.int .i64 (fwrap .i64 (((x + 1 : Nat) : Int) - 1))) = _
  rw [fwrap_i64 (by omega) (by omega)]
  congr 2
  omega
theorem tmod_nat (x y : Nat) : Int.tmod (x : Int) (y : Int) = ((x % y : Nat) : Int) := by
  rw [Int.tmod_eq_emod_of_nonneg (by omega)]; rfl
theorem WO.remN {P : Program} {tp : TProg} {a : Regs} {h : TH} {K : Regs → TH → Prop} {rest : List TOper} {d : Option Tmp} {ty : TypeId} {i : Nat} {x y : Operand} {t u : TypeId} {k : IntKind} {m n : Nat} (hx : getO a x = some (.int k (m : Nat))) (hy : getO a y = some (.int k (n : Nat))) (hn : n ≠ 0)
    (w : WO P tp rest (a.put d (.int k ((m % n : Nat) : Int))) h K) : WO P tp (⟨d, .binOp .rem t x y u, ty, none, [], i⟩ :: rest) a h K :=
  WO.rem hx hy (by omega) (by rw [tmod_nat]; exact w)

/-- A slice of so many zeros. -/
theorem make_ints {n : Nat} (hn : n ≤ 1000000) (h : TH) : makeSliceT Tryz.prog 29 (.int .i64 (n : Nat)) (.int .i64 (n : Nat)) h = some (.slice (some ⟨h.next, 0, none⟩) n n, h.new (.cells (ints (List.replicate n 0)) true true 3)) := by
  obtain ⟨inf, q1, q2, q3, q4⟩ := sc3.i
  have hb : Nat.ble (n * inf.bytes) (2 ^ 47) = true := by
    have : n * inf.bytes ≤ n * 16 := Nat.mul_le_mul_left _ q3
    rw [Nat.ble_eq]; omega
  have hb2 : Nat.ble n (2 ^ 47) = true := by rw [Nat.ble_eq]; omega
  simp [makeSliceT, elemInfo, u29, q1, q4, Value.cells, hb, hb2, q2, zeros, newSlice, ints]
  rfl

theorem WO.mk {P : Program} {tp : TProg} {a : Regs} {h h1 : TH} {K : Regs → TH → Prop} {rest : List TOper} {d : Option Tmp} {ty : TypeId} {i : Nat} {x y : Operand} {v v1 v2 : Value} {t : TypeId} (hx : getO a x = some v1) (hy : getO a y = some v2) (hm : makeSliceT P t v1 v2 h = some (v, h1))
    (w : WO P tp rest (a.put d v) h1 K) : WO P tp (⟨d, .makeSlice t x y, ty, none, [], i⟩ :: rest) a h K :=
  WO.op rfl rfl (fun call => by simp only [stepOp, heapFirst, heapOp, getO_eval hx, getO_eval hy, hm, Bool.cond_true]) w
/-- The first numbers, and zeros. -/
def fillL (n j : Nat) : List Int := (List.range j).map Int.ofNat ++ List.replicate (n - j) 0
theorem fillL_len {n j : Nat} (h : j ≤ n) : (fillL n j).length = n := by simp [fillL]; omega
theorem fillL_set {n j : Nat} (h : j < n) : (fillL n j).set j (j : Nat) = fillL n (j + 1) := by
  unfold fillL
  have e : n - j = (n - (j + 1)) + 1 := by omega
  rw [List.set_append_right _ _ (by simp), e]
  simp [List.range_succ, List.replicate_succ]
theorem fillL_all (n : Nat) : fillL n n = (List.range n).map Int.ofNat := by simp [fillL]

set_option maxRecDepth 100000 in
set_option maxHeartbeats 1000000 in
theorem k15a (H : Has tp) {key n : Nat} {h : TH} (f : Free0 h.next h) (hk1 : 1 ≤ key) (hk2 : key ≤ 2147483646) (hn : n ≤ 256) {a : Regs} {Q : Exit → Regs → TH → Prop} (hf : Full 62 a) (h0 : Tr.get a 0 = some (.int .i64 (key : Nat))) (h1 : Tr.get a 1 = some (.int .i64 (n : Nat)))
    (hQ : ∀ a' h' b, HX h h' → h.next ≤ b → b < h'.next → h'.get b = some (.cells (ints (drawL key n)) true true 3) → Tr.get a' 4 = some (.slice (some ⟨b, 0, none⟩) n n) → Tr.get a' 5 = some (.int .i64 0) → Q .ret a' h') :
    W Tryz.prog tp false (.seq (.reg r15_4) (.seq (.seq (.reg r15_5) (.block 0 (.loop (.seq (.reg r15_6) (.seq (.cond (.tmp 26) .skip (.exit 0)) (.seq (.block 1 (.seq (.reg r15_7) (.reg r15_8))) (.reg r15_9))))))) (.seq (.reg r15_10) (.seq (.seq (.reg r15_11) (.block 2 (.loop (.seq (.seq (.reg r15_12) (.cond (.tmp 37) .skip (.exit 2))) (.seq (.block 3 (.seq (.reg r15_13) (.seq (.reg r15_14) (.reg r15_15)))) (.reg r15_16)))))) (.seq (.reg r15_17) .ret))))) a h Q := by
  (obtain ⟨rl0, hrl0, rfl⟩ := hf; obtain ⟨s0, rl1, rfl, hrl1⟩ := cons_of hrl0; obtain ⟨s1, rl2, rfl, hrl2⟩ := cons_of hrl1; obtain ⟨s2, rl3, rfl, hrl3⟩ := cons_of hrl2; obtain ⟨s3, rl4, rfl, hrl4⟩ := cons_of hrl3; obtain ⟨s4, rl5, rfl, hrl5⟩ := cons_of hrl4; obtain ⟨s5, rl6, rfl, hrl6⟩ := cons_of hrl5; obtain ⟨s6, rl7, rfl, hrl7⟩ := cons_of hrl6; obtain ⟨s7, rl8, rfl, hrl8⟩ := cons_of hrl7; obtain ⟨s8, rl9, rfl, hrl9⟩ := cons_of hrl8; obtain ⟨s9, rl10, rfl, hrl10⟩ := cons_of hrl9; obtain ⟨s10, rl11, rfl, hrl11⟩ := cons_of hrl10; obtain ⟨s11, rl12, rfl, hrl12⟩ := cons_of hrl11; obtain ⟨s12, rl13, rfl, hrl13⟩ := cons_of hrl12; obtain ⟨s13, rl14, rfl, hrl14⟩ := cons_of hrl13; obtain ⟨s14, rl15, rfl, hrl15⟩ := cons_of hrl14; obtain ⟨s15, rl16, rfl, hrl16⟩ := cons_of hrl15; obtain ⟨s16, rl17, rfl, hrl17⟩ := cons_of hrl16; obtain ⟨s17, rl18, rfl, hrl18⟩ := cons_of hrl17; obtain ⟨s18, rl19, rfl, hrl19⟩ := cons_of hrl18; obtain ⟨s19, rl20, rfl, hrl20⟩ := cons_of hrl19; obtain ⟨s20, rl21, rfl, hrl21⟩ := cons_of hrl20; obtain ⟨s21, rl22, rfl, hrl22⟩ := cons_of hrl21; obtain ⟨s22, rl23, rfl, hrl23⟩ := cons_of hrl22; obtain ⟨s23, rl24, rfl, hrl24⟩ := cons_of hrl23; obtain ⟨s24, rl25, rfl, hrl25⟩ := cons_of hrl24; obtain ⟨s25, rl26, rfl, hrl26⟩ := cons_of hrl25; obtain ⟨s26, rl27, rfl, hrl27⟩ := cons_of hrl26; obtain ⟨s27, rl28, rfl, hrl28⟩ := cons_of hrl27; obtain ⟨s28, rl29, rfl, hrl29⟩ := cons_of hrl28; obtain ⟨s29, rl30, rfl, hrl30⟩ := cons_of hrl29; obtain ⟨s30, rl31, rfl, hrl31⟩ := cons_of hrl30; obtain ⟨s31, rl32, rfl, hrl32⟩ := cons_of hrl31; obtain ⟨s32, rl33, rfl, hrl33⟩ := cons_of hrl32; obtain ⟨s33, rl34, rfl, hrl34⟩ := cons_of hrl33; obtain ⟨s34, rl35, rfl, hrl35⟩ := cons_of hrl34; obtain ⟨s35, rl36, rfl, hrl36⟩ := cons_of hrl35; obtain ⟨s36, rl37, rfl, hrl37⟩ := cons_of hrl36; obtain ⟨s37, rl38, rfl, hrl38⟩ := cons_of hrl37; obtain ⟨s38, rl39, rfl, hrl39⟩ := cons_of hrl38; obtain ⟨s39, rl40, rfl, hrl40⟩ := cons_of hrl39; obtain ⟨s40, rl41, rfl, hrl41⟩ := cons_of hrl40; obtain ⟨s41, rl42, rfl, hrl42⟩ := cons_of hrl41; obtain ⟨s42, rl43, rfl, hrl43⟩ := cons_of hrl42; obtain ⟨s43, rl44, rfl, hrl44⟩ := cons_of hrl43; obtain ⟨s44, rl45, rfl, hrl45⟩ := cons_of hrl44; obtain ⟨s45, rl46, rfl, hrl46⟩ := cons_of hrl45; obtain ⟨s46, rl47, rfl, hrl47⟩ := cons_of hrl46; obtain ⟨s47, rl48, rfl, hrl48⟩ := cons_of hrl47; obtain ⟨s48, rl49, rfl, hrl49⟩ := cons_of hrl48; obtain ⟨s49, rl50, rfl, hrl50⟩ := cons_of hrl49; obtain ⟨s50, rl51, rfl, hrl51⟩ := cons_of hrl50; obtain ⟨s51, rl52, rfl, hrl52⟩ := cons_of hrl51; obtain ⟨s52, rl53, rfl, hrl53⟩ := cons_of hrl52; obtain ⟨s53, rl54, rfl, hrl54⟩ := cons_of hrl53; obtain ⟨s54, rl55, rfl, hrl55⟩ := cons_of hrl54; obtain ⟨s55, rl56, rfl, hrl56⟩ := cons_of hrl55; obtain ⟨s56, rl57, rfl, hrl57⟩ := cons_of hrl56; obtain ⟨s57, rl58, rfl, hrl58⟩ := cons_of hrl57; obtain ⟨s58, rl59, rfl, hrl59⟩ := cons_of hrl58; obtain ⟨s59, rl60, rfl, hrl60⟩ := cons_of hrl59; obtain ⟨s60, rl61, rfl, hrl61⟩ := cons_of hrl60; obtain ⟨s61, rl62, rfl, hrl62⟩ := cons_of hrl61; obtain rfl := nil_of hrl62; clear hrl0 hrl1 hrl2 hrl3 hrl4 hrl5 hrl6 hrl7 hrl8 hrl9 hrl10 hrl11 hrl12 hrl13 hrl14 hrl15 hrl16 hrl17 hrl18 hrl19 hrl20 hrl21 hrl22 hrl23 hrl24 hrl25 hrl26 hrl27 hrl28 hrl29 hrl30 hrl31 hrl32 hrl33 hrl34 hrl35 hrl36 hrl37 hrl38 hrl39 hrl40 hrl41 hrl42 hrl43 hrl44 hrl45 hrl46 hrl47 hrl48 hrl49 hrl50 hrl51 hrl52 hrl53 hrl54 hrl55 hrl56 hrl57 hrl58 hrl59 hrl60 hrl61 hrl62; obtain rfl : s0 = _ := Option.some.inj (show some s0 = some _ from h0); clear h0; obtain rfl : s1 = _ := Option.some.inj (show some s1 = some _ from h1); clear h1)
  refine W.seq (W.reg (WO.mv rfl (WO.mk rfl rfl (make_ints (by omega) h) (WO.as rfl (WO.nil ?_)))))
  have hx0 := HX.new h (.cells (ints (List.replicate n 0)) true true 3)
  have hb0 := TH.get_self h (.cells (ints (List.replicate n 0)) true true 3)
  have hn0 : h.next < (h.new (.cells (ints (List.replicate n 0)) true true 3)).next := Nat.lt_succ_self _
  generalize h.new (.cells (ints (List.replicate n 0)) true true 3) = g0 at hx0 hb0 hn0
  refine W.seq (W.seq (W.reg (WO.mv rfl (WO.len rfl u29 (WO.mv rfl (WO.nil ?_))))))
  refine W.block (W.loop (fun k a h1 => ∃ j : Nat, j ≤ n ∧ k = n - j ∧ HX h h1 ∧ h.next < h1.next ∧ h1.get h.next = some (.cells (ints (fillL n j)) true true 3) ∧ Full 62 a ∧ Tr.get a 0 = some (.int .i64 (key : Nat)) ∧ Tr.get a 1 = some (.int .i64 (n : Nat))
      ∧ Tr.get a 7 = some (.slice (some ⟨h.next, 0, none⟩) n n) ∧ Tr.get a 24 = some (.int .i64 (n : Nat)) ∧ Tr.get a 25 = some (.int .i64 (j : Nat)))
    ?_ n _ g0 ⟨0, by omega, by omega, hx0, hn0, by simpa [fillL] using hb0, (by repeat (first | with_reducible refine Full.put ?_ (by decide) _ | with_reducible refine Full.putn ?_ _ | with_reducible exact Full.of _ _ rfl | with_reducible exact Full.start _ _ (Nat.le_of_ble_eq_true rfl) | exact Full.start _ _ (Nat.le_of_ble_eq_true rfl))), rfl, rfl, rfl, rfl, rfl⟩)
  rintro k a h1 ⟨j, hj, rfl, hx, hnx, hg, hf, i0, i1, i7, i24, i25⟩
  (obtain ⟨rl0, hrl0, rfl⟩ := hf; obtain ⟨s0, rl1, rfl, hrl1⟩ := cons_of hrl0; obtain ⟨s1, rl2, rfl, hrl2⟩ := cons_of hrl1; obtain ⟨s2, rl3, rfl, hrl3⟩ := cons_of hrl2; obtain ⟨s3, rl4, rfl, hrl4⟩ := cons_of hrl3; obtain ⟨s4, rl5, rfl, hrl5⟩ := cons_of hrl4; obtain ⟨s5, rl6, rfl, hrl6⟩ := cons_of hrl5; obtain ⟨s6, rl7, rfl, hrl7⟩ := cons_of hrl6; obtain ⟨s7, rl8, rfl, hrl8⟩ := cons_of hrl7; obtain ⟨s8, rl9, rfl, hrl9⟩ := cons_of hrl8; obtain ⟨s9, rl10, rfl, hrl10⟩ := cons_of hrl9; obtain ⟨s10, rl11, rfl, hrl11⟩ := cons_of hrl10; obtain ⟨s11, rl12, rfl, hrl12⟩ := cons_of hrl11; obtain ⟨s12, rl13, rfl, hrl13⟩ := cons_of hrl12; obtain ⟨s13, rl14, rfl, hrl14⟩ := cons_of hrl13; obtain ⟨s14, rl15, rfl, hrl15⟩ := cons_of hrl14; obtain ⟨s15, rl16, rfl, hrl16⟩ := cons_of hrl15; obtain ⟨s16, rl17, rfl, hrl17⟩ := cons_of hrl16; obtain ⟨s17, rl18, rfl, hrl18⟩ := cons_of hrl17; obtain ⟨s18, rl19, rfl, hrl19⟩ := cons_of hrl18; obtain ⟨s19, rl20, rfl, hrl20⟩ := cons_of hrl19; obtain ⟨s20, rl21, rfl, hrl21⟩ := cons_of hrl20; obtain ⟨s21, rl22, rfl, hrl22⟩ := cons_of hrl21; obtain ⟨s22, rl23, rfl, hrl23⟩ := cons_of hrl22; obtain ⟨s23, rl24, rfl, hrl24⟩ := cons_of hrl23; obtain ⟨s24, rl25, rfl, hrl25⟩ := cons_of hrl24; obtain ⟨s25, rl26, rfl, hrl26⟩ := cons_of hrl25; obtain ⟨s26, rl27, rfl, hrl27⟩ := cons_of hrl26; obtain ⟨s27, rl28, rfl, hrl28⟩ := cons_of hrl27; obtain ⟨s28, rl29, rfl, hrl29⟩ := cons_of hrl28; obtain ⟨s29, rl30, rfl, hrl30⟩ := cons_of hrl29; obtain ⟨s30, rl31, rfl, hrl31⟩ := cons_of hrl30; obtain ⟨s31, rl32, rfl, hrl32⟩ := cons_of hrl31; obtain ⟨s32, rl33, rfl, hrl33⟩ := cons_of hrl32; obtain ⟨s33, rl34, rfl, hrl34⟩ := cons_of hrl33; obtain ⟨s34, rl35, rfl, hrl35⟩ := cons_of hrl34; obtain ⟨s35, rl36, rfl, hrl36⟩ := cons_of hrl35; obtain ⟨s36, rl37, rfl, hrl37⟩ := cons_of hrl36; obtain ⟨s37, rl38, rfl, hrl38⟩ := cons_of hrl37; obtain ⟨s38, rl39, rfl, hrl39⟩ := cons_of hrl38; obtain ⟨s39, rl40, rfl, hrl40⟩ := cons_of hrl39; obtain ⟨s40, rl41, rfl, hrl41⟩ := cons_of hrl40; obtain ⟨s41, rl42, rfl, hrl42⟩ := cons_of hrl41; obtain ⟨s42, rl43, rfl, hrl43⟩ := cons_of hrl42; obtain ⟨s43, rl44, rfl, hrl44⟩ := cons_of hrl43; obtain ⟨s44, rl45, rfl, hrl45⟩ := cons_of hrl44; obtain ⟨s45, rl46, rfl, hrl46⟩ := cons_of hrl45; obtain ⟨s46, rl47, rfl, hrl47⟩ := cons_of hrl46; obtain ⟨s47, rl48, rfl, hrl48⟩ := cons_of hrl47; obtain ⟨s48, rl49, rfl, hrl49⟩ := cons_of hrl48; obtain ⟨s49, rl50, rfl, hrl50⟩ := cons_of hrl49; obtain ⟨s50, rl51, rfl, hrl51⟩ := cons_of hrl50; obtain ⟨s51, rl52, rfl, hrl52⟩ := cons_of hrl51; obtain ⟨s52, rl53, rfl, hrl53⟩ := cons_of hrl52; obtain ⟨s53, rl54, rfl, hrl54⟩ := cons_of hrl53; obtain ⟨s54, rl55, rfl, hrl55⟩ := cons_of hrl54; obtain ⟨s55, rl56, rfl, hrl56⟩ := cons_of hrl55; obtain ⟨s56, rl57, rfl, hrl57⟩ := cons_of hrl56; obtain ⟨s57, rl58, rfl, hrl58⟩ := cons_of hrl57; obtain ⟨s58, rl59, rfl, hrl59⟩ := cons_of hrl58; obtain ⟨s59, rl60, rfl, hrl60⟩ := cons_of hrl59; obtain ⟨s60, rl61, rfl, hrl61⟩ := cons_of hrl60; obtain ⟨s61, rl62, rfl, hrl62⟩ := cons_of hrl61; obtain rfl := nil_of hrl62; clear hrl0 hrl1 hrl2 hrl3 hrl4 hrl5 hrl6 hrl7 hrl8 hrl9 hrl10 hrl11 hrl12 hrl13 hrl14 hrl15 hrl16 hrl17 hrl18 hrl19 hrl20 hrl21 hrl22 hrl23 hrl24 hrl25 hrl26 hrl27 hrl28 hrl29 hrl30 hrl31 hrl32 hrl33 hrl34 hrl35 hrl36 hrl37 hrl38 hrl39 hrl40 hrl41 hrl42 hrl43 hrl44 hrl45 hrl46 hrl47 hrl48 hrl49 hrl50 hrl51 hrl52 hrl53 hrl54 hrl55 hrl56 hrl57 hrl58 hrl59 hrl60 hrl61 hrl62; obtain rfl : s0 = _ := Option.some.inj (show some s0 = some _ from i0); clear i0; obtain rfl : s1 = _ := Option.some.inj (show some s1 = some _ from i1); clear i1; obtain rfl : s7 = _ := Option.some.inj (show some s7 = some _ from i7); clear i7; obtain rfl : s24 = _ := Option.some.inj (show some s24 = some _ from i24); clear i24; obtain rfl : s25 = _ := Option.some.inj (show some s25 = some _ from i25); clear i25)
  refine W.seq (W.reg (WO.bi rfl rfl rfl (WO.nil ?_)))
  refine W.seq (W.cd rfl ?_)
  by_cases hlt : j < n
  · have hd : decide ((j : Int) < (n : Int)) = true := by simpa using hlt
    rw [hd]
    refine OnB.yes (W.skip ?_)
    refine W.seq (W.block (W.seq (W.reg (WO.mv rfl (WO.as rfl (WO.nil ?_))))))
    refine W.reg (WO.mv rfl (WO.mv rfl (WO.mv rfl (WO.ix rfl rfl (indexAddr_sl u29 sc3 (by omega) (by omega)) ?_))))
    refine WO.st rfl rfl (store_sc sc3 hg (by rw [ints_len, fillL_len hj]; omega) rfl rfl (f.hx hx) (Nat.le_refl _) hnx) (WO.nil ?_)
    refine W.reg (WO.bi rfl rfl (add_ok j (by omega)) (WO.mv rfl (WO.nil ?_)))
    refine ⟨n - (j + 1), by omega, j + 1, by omega, rfl, hx.upd (Nat.le_refl _) _, hnx, ?_, (by repeat (first | with_reducible refine Full.put ?_ (by decide) _ | with_reducible refine Full.putn ?_ _ | with_reducible exact Full.of _ _ rfl | with_reducible exact Full.start _ _ (Nat.le_of_ble_eq_true rfl) | exact Full.start _ _ (Nat.le_of_ble_eq_true rfl))), rfl, rfl, rfl, rfl, rfl⟩
    rw [TH.get_upd, if_pos rfl]
    have e : 0 + (j : Int).toNat = j := by omega
    rw [e, ints_set, fillL_set hlt]
  · have hd : decide ((j : Int) < (n : Int)) = false := by simpa using hlt
    rw [hd]
    obtain rfl : j = n := by omega
    refine OnB.no (W.exit ?_)
    refine W.seq (W.reg (WO.mv rfl (WO.as rfl (WO.nil ?_))))
    refine W.seq (W.seq (W.reg (WO.mv rfl (WO.bi rfl rfl rfl (WO.as rfl (WO.nil ?_))))))
    rw [fillL_all] at hg
    refine W.block (W.loop (fun k a h1 => ∃ (i : Int) (x : Nat) (L : List Int), -1 ≤ i ∧ i < j ∧ k = i.toNat ∧ x < 2147483647 ∧ L.length = j ∧ drawGo i.toNat x L = drawL key j ∧ HX h h1 ∧ h.next < h1.next ∧ h1.get h.next = some (.cells (ints L) true true 3) ∧ Full 62 a
        ∧ Tr.get a 7 = some (.slice (some ⟨h.next, 0, none⟩) j j) ∧ Tr.get a 9 = some (.int .i64 (x : Nat)) ∧ Tr.get a 10 = some (.int .i64 i))
      ?_ (j - 1) _ h1 ⟨(j : Int) - 1, key, _, by omega, by omega, by omega, by omega, by simp, by rw [show ((j : Int) - 1).toNat = j - 1 by omega]; rfl, hx, hnx, hg, (by repeat (first | with_reducible refine Full.put ?_ (by decide) _ | with_reducible refine Full.putn ?_ _ | with_reducible exact Full.of _ _ rfl | with_reducible exact Full.start _ _ (Nat.le_of_ble_eq_true rfl) | exact Full.start _ _ (Nat.le_of_ble_eq_true rfl))), rfl, rfl, by show some (Value.int .i64 (fwrap .i64 ((j : Int) - 1))) = _; rw [fwrap_i64 (by omega) (by omega)]⟩)
    rintro k a h2 ⟨i, x, L, hi1, hi2, rfl, hxx, hL, hdr, hx2, hnx2, hg2, hf, i7, i9, i10⟩
    (obtain ⟨rl0, hrl0, rfl⟩ := hf; obtain ⟨s0, rl1, rfl, hrl1⟩ := cons_of hrl0; obtain ⟨s1, rl2, rfl, hrl2⟩ := cons_of hrl1; obtain ⟨s2, rl3, rfl, hrl3⟩ := cons_of hrl2; obtain ⟨s3, rl4, rfl, hrl4⟩ := cons_of hrl3; obtain ⟨s4, rl5, rfl, hrl5⟩ := cons_of hrl4; obtain ⟨s5, rl6, rfl, hrl6⟩ := cons_of hrl5; obtain ⟨s6, rl7, rfl, hrl7⟩ := cons_of hrl6; obtain ⟨s7, rl8, rfl, hrl8⟩ := cons_of hrl7; obtain ⟨s8, rl9, rfl, hrl9⟩ := cons_of hrl8; obtain ⟨s9, rl10, rfl, hrl10⟩ := cons_of hrl9; obtain ⟨s10, rl11, rfl, hrl11⟩ := cons_of hrl10; obtain ⟨s11, rl12, rfl, hrl12⟩ := cons_of hrl11; obtain ⟨s12, rl13, rfl, hrl13⟩ := cons_of hrl12; obtain ⟨s13, rl14, rfl, hrl14⟩ := cons_of hrl13; obtain ⟨s14, rl15, rfl, hrl15⟩ := cons_of hrl14; obtain ⟨s15, rl16, rfl, hrl16⟩ := cons_of hrl15; obtain ⟨s16, rl17, rfl, hrl17⟩ := cons_of hrl16; obtain ⟨s17, rl18, rfl, hrl18⟩ := cons_of hrl17; obtain ⟨s18, rl19, rfl, hrl19⟩ := cons_of hrl18; obtain ⟨s19, rl20, rfl, hrl20⟩ := cons_of hrl19; obtain ⟨s20, rl21, rfl, hrl21⟩ := cons_of hrl20; obtain ⟨s21, rl22, rfl, hrl22⟩ := cons_of hrl21; obtain ⟨s22, rl23, rfl, hrl23⟩ := cons_of hrl22; obtain ⟨s23, rl24, rfl, hrl24⟩ := cons_of hrl23; obtain ⟨s24, rl25, rfl, hrl25⟩ := cons_of hrl24; obtain ⟨s25, rl26, rfl, hrl26⟩ := cons_of hrl25; obtain ⟨s26, rl27, rfl, hrl27⟩ := cons_of hrl26; obtain ⟨s27, rl28, rfl, hrl28⟩ := cons_of hrl27; obtain ⟨s28, rl29, rfl, hrl29⟩ := cons_of hrl28; obtain ⟨s29, rl30, rfl, hrl30⟩ := cons_of hrl29; obtain ⟨s30, rl31, rfl, hrl31⟩ := cons_of hrl30; obtain ⟨s31, rl32, rfl, hrl32⟩ := cons_of hrl31; obtain ⟨s32, rl33, rfl, hrl33⟩ := cons_of hrl32; obtain ⟨s33, rl34, rfl, hrl34⟩ := cons_of hrl33; obtain ⟨s34, rl35, rfl, hrl35⟩ := cons_of hrl34; obtain ⟨s35, rl36, rfl, hrl36⟩ := cons_of hrl35; obtain ⟨s36, rl37, rfl, hrl37⟩ := cons_of hrl36; obtain ⟨s37, rl38, rfl, hrl38⟩ := cons_of hrl37; obtain ⟨s38, rl39, rfl, hrl39⟩ := cons_of hrl38; obtain ⟨s39, rl40, rfl, hrl40⟩ := cons_of hrl39; obtain ⟨s40, rl41, rfl, hrl41⟩ := cons_of hrl40; obtain ⟨s41, rl42, rfl, hrl42⟩ := cons_of hrl41; obtain ⟨s42, rl43, rfl, hrl43⟩ := cons_of hrl42; obtain ⟨s43, rl44, rfl, hrl44⟩ := cons_of hrl43; obtain ⟨s44, rl45, rfl, hrl45⟩ := cons_of hrl44; obtain ⟨s45, rl46, rfl, hrl46⟩ := cons_of hrl45; obtain ⟨s46, rl47, rfl, hrl47⟩ := cons_of hrl46; obtain ⟨s47, rl48, rfl, hrl48⟩ := cons_of hrl47; obtain ⟨s48, rl49, rfl, hrl49⟩ := cons_of hrl48; obtain ⟨s49, rl50, rfl, hrl50⟩ := cons_of hrl49; obtain ⟨s50, rl51, rfl, hrl51⟩ := cons_of hrl50; obtain ⟨s51, rl52, rfl, hrl52⟩ := cons_of hrl51; obtain ⟨s52, rl53, rfl, hrl53⟩ := cons_of hrl52; obtain ⟨s53, rl54, rfl, hrl54⟩ := cons_of hrl53; obtain ⟨s54, rl55, rfl, hrl55⟩ := cons_of hrl54; obtain ⟨s55, rl56, rfl, hrl56⟩ := cons_of hrl55; obtain ⟨s56, rl57, rfl, hrl57⟩ := cons_of hrl56; obtain ⟨s57, rl58, rfl, hrl58⟩ := cons_of hrl57; obtain ⟨s58, rl59, rfl, hrl59⟩ := cons_of hrl58; obtain ⟨s59, rl60, rfl, hrl60⟩ := cons_of hrl59; obtain ⟨s60, rl61, rfl, hrl61⟩ := cons_of hrl60; obtain ⟨s61, rl62, rfl, hrl62⟩ := cons_of hrl61; obtain rfl := nil_of hrl62; clear hrl0 hrl1 hrl2 hrl3 hrl4 hrl5 hrl6 hrl7 hrl8 hrl9 hrl10 hrl11 hrl12 hrl13 hrl14 hrl15 hrl16 hrl17 hrl18 hrl19 hrl20 hrl21 hrl22 hrl23 hrl24 hrl25 hrl26 hrl27 hrl28 hrl29 hrl30 hrl31 hrl32 hrl33 hrl34 hrl35 hrl36 hrl37 hrl38 hrl39 hrl40 hrl41 hrl42 hrl43 hrl44 hrl45 hrl46 hrl47 hrl48 hrl49 hrl50 hrl51 hrl52 hrl53 hrl54 hrl55 hrl56 hrl57 hrl58 hrl59 hrl60 hrl61 hrl62; obtain rfl : s7 = _ := Option.some.inj (show some s7 = some _ from i7); clear i7; obtain rfl : s9 = _ := Option.some.inj (show some s9 = some _ from i9); clear i9; obtain rfl : s10 = _ := Option.some.inj (show some s10 = some _ from i10); clear i10)
    refine W.seq (W.seq (W.reg (WO.mv rfl (WO.bi rfl rfl rfl (WO.nil ?_)))))
    refine W.cd rfl ?_
    by_cases hge : 1 ≤ i
    · obtain ⟨q, rfl⟩ : ∃ q : Nat, i = (q + 1 : Nat) := ⟨(i - 1).toNat, by omega⟩
      have hd : decide (((q + 1 : Nat) : Int) ≥ 1) = true := by simp; omega
      rw [hd]
      refine OnB.yes (W.skip ?_)
      have hm : 742938285 * x % 2147483647 < 2147483647 := Nat.mod_lt _ (by decide)
      have hk : 742938285 * x % 2147483647 % (q + 1 + 1) < j := by have := Nat.mod_lt (742938285 * x % 2147483647) (show q + 1 + 1 > 0 by omega); omega
      refine W.seq (W.block (W.seq (W.reg (WO.mv rfl (WO.bi rfl rfl (mul_ok x hxx) (WO.remN (n := 2147483647) rfl rfl (by decide) (WO.as rfl (WO.nil ?_))))))))
      refine W.seq (W.reg (WO.mv rfl (WO.mv rfl (WO.bi rfl rfl (add_ok (q + 1) (by omega)) (WO.remN rfl rfl (by omega) (WO.as rfl (WO.nil ?_)))))))
      generalize hkk : 742938285 * x % 2147483647 % (q + 1 + 1) = kk at hk
      refine W.reg ?_
      refine WO.mv rfl (WO.mv rfl (WO.mv rfl (WO.mv rfl (WO.mv rfl (WO.mv rfl ?_)))))
      refine WO.ix rfl rfl (indexAddr_sl u29 sc3 (by omega) (by omega)) (WO.ld rfl (load_sc sc3 hg2 (ints_get (k := 0 + (kk : Int).toNat) (by omega))) ?_)
      refine WO.mv rfl (WO.mv rfl (WO.ix rfl rfl (indexAddr_sl u29 sc3 (by omega) (by omega)) (WO.ld rfl (load_sc sc3 hg2 (ints_get (k := 0 + ((q + 1 : Nat) : Int).toNat) (by omega))) ?_)))
      refine WO.ix rfl rfl (indexAddr_sl u29 sc3 (by omega) (by omega)) ?_
      refine WO.st rfl rfl (store_sc sc3 hg2 (by rw [ints_len]; omega) rfl rfl (f.hx hx2) (Nat.le_refl _) hnx2) ?_
      have hg3 : (h2.upd h.next (.cells ((ints L).set (0 + ((q + 1 : Nat) : Int).toNat) (.int .i64 (L.getD (0 + (kk : Int).toNat) 0))) true true 3)).get h.next = _ := (TH.get_upd _ _ _ _).trans (if_pos rfl)
      have hx3 := hx2.upd (Nat.le_refl _) (.cells ((ints L).set (0 + ((q + 1 : Nat) : Int).toNat) (.int .i64 (L.getD (0 + (kk : Int).toNat) 0))) true true 3)
      have hnx3 : h.next < (h2.upd h.next (.cells ((ints L).set (0 + ((q + 1 : Nat) : Int).toNat) (.int .i64 (L.getD (0 + (kk : Int).toNat) 0))) true true 3)).next := hnx2
      generalize h2.upd h.next (.cells ((ints L).set (0 + ((q + 1 : Nat) : Int).toNat) (.int .i64 (L.getD (0 + (kk : Int).toNat) 0))) true true 3) = h3 at hg3 hx3 hnx3
      refine WO.ix rfl rfl (indexAddr_sl u29 sc3 (by omega) (by omega)) ?_
      refine WO.st rfl rfl (store_sc sc3 hg3 (by rw [List.length_set, ints_len]; omega) rfl rfl (f.hx hx3) (Nat.le_refl _) hnx3) (WO.nil ?_)
      refine W.reg (WO.mv rfl (WO.bi rfl rfl (sub_ok q (by omega)) (WO.as rfl (WO.nil ?_))))
      refine ⟨q, by omega, (q : Int), 742938285 * x % 2147483647, swapL L (q + 1) kk, by omega, by omega, by omega, hm, by rw [swapL_len]; exact hL, ?_, hx3.upd (Nat.le_refl _) _, hnx3, ?_, (by repeat (first | with_reducible refine Full.put ?_ (by decide) _ | with_reducible refine Full.putn ?_ _ | with_reducible exact Full.of _ _ rfl | with_reducible exact Full.start _ _ (Nat.le_of_ble_eq_true rfl) | exact Full.start _ _ (Nat.le_of_ble_eq_true rfl))), rfl, rfl, rfl⟩
      · rw [← hdr]
        show drawGo q _ _ = drawGo (q + 1) x L
        simp only [drawGo, ← hkk]
      · rw [TH.get_upd, if_pos rfl]
        have e1 : 0 + (kk : Int).toNat = kk := by omega
        have e2 : 0 + ((q + 1 : Nat) : Int).toNat = q + 1 := by omega
        rw [e1, e2, ints_set, ints_set]
        rfl
    · have hd : decide (i ≥ 1) = false := by simpa using hge
      rw [hd]
      refine OnB.no (W.exit ?_)
      refine W.seq (W.reg (WO.mv rfl (WO.as rfl (WO.as rfl (WO.nil (W.ret ?_))))))
      have hi0 : i.toNat = 0 := by omega
      rw [hi0] at hdr
      have : L = drawL key j := hdr
      subst this
      exact hQ _ _ _ hx2 (Nat.le_refl _) hnx2 hg2 rfl rfl
end Go.Tidy
