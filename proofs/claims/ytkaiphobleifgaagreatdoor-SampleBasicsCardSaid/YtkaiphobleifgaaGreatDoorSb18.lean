/- The arguments and the variables, read. -/
import Derived.Test.YtkaiphobleifgaaGreatDoorSb17
import Derived.Test.YtkaiphobleifgaaGreatDoorRows
import Derived.Lib.LaidTab
import Derived.OpenShut
import Derived.ChangeSame
import Derived.ChangeMaps5
set_option linter.all false
namespace Go.Tidy
open Go Go.Proofs Go.Proofs.YtkaiphobleifgaaGreatDoor Go.ChangeShapes Go.WideShapes Go.RowKit
open Go.ChangeMaps (open_string shut_string)

theorem cells3 : Tryz.prog.cellsOf 3 = 1 := by kernel_rfl
theorem g1 : Tryz.prog.globalNamed "versine/sample.turns" = some 1 := by kernel_rfl
theorem g2 : Tryz.prog.globalNamed "internal/strconv.uint64pow10" = some 2 := by kernel_rfl
theorem gt1 : (Tryz.prog.globals[1]?).map (·.type) = some 289 := by kernel_rfl
theorem gt2 : (Tryz.prog.globals[2]?).map (·.type) = some 330 := by kernel_rfl
theorem cg1 : Tryz.prog.cellsOf 289 = 8 := by kernel_rfl
theorem cg2 : Tryz.prog.cellsOf 330 = 20 := by kernel_rfl
theorem cells291 : Tryz.prog.cellsOf 291 = 1 := by kernel_rfl

section
variable {H : Type} {enc : TypeId × Value → H} {w : World} {base : Nat} {sp : Nat → Bool} {hd : Bool}
theorem cells288 : Tryz.prog.cellsOf 288 = 2 := by kernel_rfl
theorem open288 {fuel : Nat} {c0 c1 : Value} {x : DataW H × List MemPlace} (h : DataW.trod enc Tryz.prog w base sp hd fuel 288 [c0, c1] = some x) : ∃ a b : Int, c0 = .int .i64 a ∧ c1 = .int .i64 b ∧ x = (.agg [.lit (.int .i64 a), .lit (.int .i64 b)], []) ∧ (Lit.int .i64 a).wf = true ∧ (Lit.int .i64 b).wf = true := by
  obtain ⟨y0, y1, n, rfl, _, h0, h1⟩ := trod_struct2 Tryz.underlying288 h
  rw [cells3] at h0 h1
  obtain ⟨a, e0, rfl, wa⟩ := DataW.trod_int Tryz.underlying3 (show DataW.trod enc Tryz.prog w base sp hd n 3 [c0] = some y0 from h0)
  obtain ⟨b, e1, rfl, wb⟩ := DataW.trod_int Tryz.underlying3 (show DataW.trod enc Tryz.prog w base sp hd n 3 [c1] = some y1 from h1)
  cases e0
  cases e1
  exact ⟨a, b, rfl, rfl, rfl, wa, wb⟩
theorem cells24 : Tryz.prog.cellsOf 24 = 2 := by kernel_rfl
theorem open24 {fuel : Nat} {c0 c1 : Value} {x : DataW H × List MemPlace} (h : DataW.trod enc Tryz.prog w base sp hd fuel 24 [c0, c1] = some x) : ∃ a b : Int, c0 = .int .i64 a ∧ c1 = .int .i64 b ∧ x = (.agg [.lit (.int .i64 a), .lit (.int .i64 b)], []) ∧ (Lit.int .i64 a).wf = true ∧ (Lit.int .i64 b).wf = true := by
  obtain ⟨y0, y1, n, rfl, _, h0, h1⟩ := trod_struct2 Tryz.underlying24 h
  rw [cells3] at h0 h1
  obtain ⟨a, e0, rfl, wa⟩ := DataW.trod_int Tryz.underlying3 (show DataW.trod enc Tryz.prog w base sp hd n 3 [c0] = some y0 from h0)
  obtain ⟨b, e1, rfl, wb⟩ := DataW.trod_int Tryz.underlying3 (show DataW.trod enc Tryz.prog w base sp hd n 3 [c1] = some y1 from h1)
  cases e0
  cases e1
  exact ⟨a, b, rfl, rfl, rfl, wa, wb⟩

theorem list8 {l : List Value} (h : l.length = 8) : ∃ a b c d e f g i, l = [a, b, c, d, e, f, g, i] := by
  match l, h with
  | [a, b, c, d, e, f, g, i], _ => exact ⟨a, b, c, d, e, f, g, i, rfl⟩
theorem row_turns {fuel : Nat} {cs : List Value} {p : List MemPlace} (h : DataW.trod enc Tryz.prog w base sp hd fuel 289 cs = some (Rows.laid_versine_sample_turns, p)) : cs = turnsL := by
  obtain ⟨xs, m, _, hx, hl, hn, hf⟩ := DataW.trod_array Tryz.underlying289 h
  rw [cg1] at hl
  obtain ⟨a, b, c, d, e, f, g, i, rfl⟩ := list8 hl
  obtain ⟨x0, x1, x2, x3, rfl⟩ : ∃ x0 x1 x2 x3, xs = [x0, x1, x2, x3] := by
    match xs, hn with
    | [x0, x1, x2, x3], _ => exact ⟨x0, x1, x2, x3, rfl⟩
  rw [cells288] at hf
  obtain ⟨_, _, rfl, rfl, rfl, _⟩ := open288 (show DataW.trod enc Tryz.prog w base sp hd m 288 [a, b] = some x0 from hf 0 (by decide))
  obtain ⟨_, _, rfl, rfl, rfl, _⟩ := open288 (show DataW.trod enc Tryz.prog w base sp hd m 288 [c, d] = some x1 from hf 1 (by decide))
  obtain ⟨_, _, rfl, rfl, rfl, _⟩ := open288 (show DataW.trod enc Tryz.prog w base sp hd m 288 [e, f] = some x2 from hf 2 (by decide))
  obtain ⟨_, _, rfl, rfl, rfl, _⟩ := open288 (show DataW.trod enc Tryz.prog w base sp hd m 288 [g, i] = some x3 from hf 3 (by decide))
  have hd := congrArg Prod.fst hx
  simp [Rows.laid_versine_sample_turns] at hd
  obtain ⟨⟨rfl, rfl⟩, ⟨rfl, rfl⟩, ⟨rfl, rfl⟩, rfl, rfl⟩ := hd
  rfl
def powsI : List Int := [1, 10, 100, 1000, 10000, 100000, 1000000, 10000000, 100000000, 1000000000, 10000000000, 100000000000, 1000000000000, 10000000000000, 100000000000000, 1000000000000000, 10000000000000000, 100000000000000000, 1000000000000000000, 10000000000000000000]
theorem row_pows {fuel : Nat} {cs : List Value} {p : List MemPlace} (h : DataW.trod enc Tryz.prog w base sp hd fuel 330 cs = some (Rows.laid_internal_strconv_uint64pow10, p)) : cs = powsL := by
  have := Lib.cells_of_tab (zs := powsI) Tryz.underlying330 Tryz.underlying291 cells291 cg2 h
  exact this

theorem var_heap {g : Nat} {name : String} {cs : Array Value} (hg : Tryz.prog.globalNamed name = some g) (h : w.var? Tryz.prog name = some cs) : ∃ e z, w.heap[g]? = some (.cells cs e z) := by
  unfold World.var? at h
  rw [hg] at h
  simp only [Option.bind_some] at h
  split at h
  · rename_i c e z hh
    cases h
    exact ⟨e, z, hh⟩
  · cases h

/-- What the row's list gives: the two variables. -/
theorem tables {W : World} (h : laidMetH Tryz.prog Rows.sampleBasicsRow.laid W) : (∃ e z, W.heap[1]? = some (.cells turnsL.toArray e z)) ∧ ∃ e z, W.heap[2]? = some (.cells powsL.toArray e z) := by
  replace h : laidMet Tryz.prog Rows.sampleBasicsRow.laid W := h
  obtain ⟨ps, ⟨_, _, _, _, _, _, _, _, _, _, ⟨_, _, _, _, _, _, _, _, _, _, ⟨gp, tp, cp, fp, _, _, hp1, hp2, hp3, hp4, ⟨gt, tt, ct, ft, _, _, ht1, ht2, ht3, ht4, _⟩, _⟩, _⟩, _⟩, _⟩ := h
  obtain rfl := Option.some.inj (g2.symm.trans hp1)
  obtain rfl := Option.some.inj (g1.symm.trans ht1)
  obtain rfl := Option.some.inj (gt2.symm.trans hp2)
  obtain rfl := Option.some.inj (gt1.symm.trans ht2)
  have e1 := row_turns ht4
  have e2 := row_pows hp4
  rw [show ct = turnsL.toArray by rw [← e1]] at ht3
  rw [show cp = powsL.toArray by rw [← e2]] at hp3
  exact ⟨var_heap g1 ht3, var_heap g2 hp3⟩

theorem list2 {α : Type} {l : List α} (h : l.length = 2) : ∃ a b, l = [a, b] := by
  match l, h with
  | [a, b], _ => exact ⟨a, b, rfl⟩
theorem list3 {α : Type} {l : List α} (h : l.length = 3) : ∃ a b c, l = [a, b, c] := by
  match l, h with
  | [a, b, c], _ => exact ⟨a, b, c, rfl⟩
theorem float_open {P : Program} {t : TypeId} {k : FloatKind} (ht : P.underlying t = some (.float k)) {fuel : Nat} {cs : List Value} {x : DataW H × List MemPlace} (h : DataW.trod enc P w base sp hd fuel t cs = some x) : ∃ b : Nat, cs = [.float k b] ∧ x = (.lit (.float k b), []) ∧ (Lit.float k b).wf = true := by
  cases fuel with
  | zero => simp [DataW.trod] at h
  | succ n =>
    unfold DataW.trod at h
    rw [ht] at h
    split at h <;> simp_all
theorem float_shut {P : Program} {t : TypeId} {k : FloatKind} (ht : P.underlying t = some (.float k)) {b : Nat} (m : Nat) (wb : (Lit.float k b).wf = true) : DataW.trod enc P w base sp hd (m + 1) t [.float k b] = some (.lit (.float k b), []) := by
  simp [DataW.trod, ht, wb]
theorem array2_mk {P : Program} {t e : TypeId} (ht : P.underlying t = some (.array 2 e)) {n : Nat} {cs : List Value} (hl : cs.length = P.cellsOf t) {y0 y1 : DataW H × List MemPlace}
    (h0 : DataW.trod enc P w base sp hd n e ((cs.drop (0 * P.cellsOf e)).take (P.cellsOf e)) = some y0) (h1 : DataW.trod enc P w base sp hd n e ((cs.drop (1 * P.cellsOf e)).take (P.cellsOf e)) = some y1) :
    DataW.trod enc P w base sp hd (n + 1) t cs = some (.agg [y0.1, y1.1], y0.2 ++ y1.2) := by
  have hm : (List.range 2).mapM (fun i => DataW.trod enc P w base sp hd n e ((cs.drop (i * P.cellsOf e)).take (P.cellsOf e))) = some [y0, y1] := by
    rw [show List.range 2 = [0, 1] from rfl]
    simp only [List.mapM_cons, List.mapM_nil, h0, h1]
    rfl
  unfold DataW.trod
  rw [ht]
  split <;> simp_all
theorem cells22 : Tryz.prog.cellsOf 22 = 2 := by kernel_rfl
theorem cells27 : Tryz.prog.cellsOf 27 = 3 := by kernel_rfl
theorem cells25 : Tryz.prog.cellsOf 25 = 1 := by kernel_rfl
theorem open22 {fuel : Nat} {cs : List Value} {x : DataW H × List MemPlace} (h : DataW.trod enc Tryz.prog w base sp hd fuel 22 cs = some x) : ∃ a b : Int, cs = [.int .i64 a, .int .i64 b] ∧ x = (.agg [.lit (.int .i64 a), .lit (.int .i64 b)], []) ∧ (Lit.int .i64 a).wf = true ∧ (Lit.int .i64 b).wf = true := by
  obtain ⟨xs, m, _, rfl, hl, hn, hf⟩ := DataW.trod_array Tryz.underlying22 h
  rw [cells22] at hl
  obtain ⟨c0, c1, rfl⟩ := list2 hl
  obtain ⟨y0, y1, rfl⟩ := list2 hn
  rw [cells3] at hf
  obtain ⟨a, e0, rfl, wa⟩ := DataW.trod_int Tryz.underlying3 (show DataW.trod enc Tryz.prog w base sp hd m 3 [c0] = some y0 from hf 0 (by decide))
  obtain ⟨b, e1, rfl, wb⟩ := DataW.trod_int Tryz.underlying3 (show DataW.trod enc Tryz.prog w base sp hd m 3 [c1] = some y1 from hf 1 (by decide))
  cases e0
  cases e1
  exact ⟨a, b, rfl, rfl, wa, wb⟩
theorem shut22 {a b : Int} (wa : (Lit.int .i64 a).wf = true) (wb : (Lit.int .i64 b).wf = true) : DataW.Trod enc Tryz.prog w base sp hd 22 (.agg #[.int .i64 a, .int .i64 b]) (.agg [.lit (.int .i64 a), .lit (.int .i64 b)]) [] := by
  refine ⟨2, ?_⟩
  have h0 := trod_int_mk (enc := enc) (w := w) (base := base) (spare := sp) (held := hd) 0 Tryz.underlying3 wa
  have h1 := trod_int_mk (enc := enc) (w := w) (base := base) (spare := sp) (held := hd) 0 Tryz.underlying3 wb
  exact array2_mk (cs := [.int .i64 a, .int .i64 b]) (n := 1) (y0 := (.lit (.int .i64 a), [])) (y1 := (.lit (.int .i64 b), [])) Tryz.underlying22 (by rw [cells22]; rfl) (by rw [cells3]; exact h0) (by rw [cells3]; exact h1)
theorem open27 {fuel : Nat} {cs : List Value} {x : DataW H × List MemPlace} (h : DataW.trod enc Tryz.prog w base sp hd fuel 27 cs = some x) : ∃ (a b : Int) (f : Nat), cs = [.int .i64 a, .int .i64 b, .float .f32 f] ∧ x = (.agg [.agg [.lit (.int .i64 a), .lit (.int .i64 b)], .lit (.float .f32 f)], []) ∧ (Lit.int .i64 a).wf = true ∧ (Lit.int .i64 b).wf = true ∧ (Lit.float .f32 f).wf = true := by
  obtain ⟨y0, y1, n, rfl, hl, h0, h1⟩ := trod_struct2 Tryz.underlying27 h
  rw [cells27] at hl
  obtain ⟨c0, c1, c2, rfl⟩ := list3 hl
  rw [cells24] at h0
  rw [cells25] at h1
  obtain ⟨a, b, rfl, rfl, rfl, wa, wb⟩ := open24 (show DataW.trod enc Tryz.prog w base sp hd n 24 [c0, c1] = some y0 from h0)
  obtain ⟨f, e2, rfl, wf⟩ := float_open Tryz.underlying25 (show DataW.trod enc Tryz.prog w base sp hd n 25 [c2] = some y1 from h1)
  cases e2
  exact ⟨a, b, f, rfl, rfl, wa, wb, wf⟩
theorem shut27 {a b : Int} {f : Nat} (wa : (Lit.int .i64 a).wf = true) (wb : (Lit.int .i64 b).wf = true) (wf : (Lit.float .f32 f).wf = true) : DataW.Trod enc Tryz.prog w base sp hd 27 (.agg #[.int .i64 a, .int .i64 b, .float .f32 f]) (.agg [.agg [.lit (.int .i64 a), .lit (.int .i64 b)], .lit (.float .f32 f)]) [] := by
  refine ⟨3, ?_⟩
  have h0 := trod_int_mk (enc := enc) (w := w) (base := base) (spare := sp) (held := hd) 0 Tryz.underlying3 wa
  have h1 := trod_int_mk (enc := enc) (w := w) (base := base) (spare := sp) (held := hd) 0 Tryz.underlying3 wb
  have h2 : DataW.trod enc Tryz.prog w base sp hd 2 24 [.int .i64 a, .int .i64 b] = some (.agg [.lit (.int .i64 a), .lit (.int .i64 b)], []) := trod_struct2_mk (cs := [.int .i64 a, .int .i64 b]) (n := 1) (y0 := (.lit (.int .i64 a), [])) (y1 := (.lit (.int .i64 b), [])) Tryz.underlying24 (by rw [cells24]; rfl) (by rw [cells3]; exact h0) (by rw [cells3]; exact h1)
  have h3 : DataW.trod enc Tryz.prog w base sp hd 2 25 [.float .f32 f] = some (.lit (.float .f32 f), []) := float_shut Tryz.underlying25 1 wf
  exact trod_struct2_mk (cs := [.int .i64 a, .int .i64 b, .float .f32 f]) (n := 2) (y0 := (.agg [.lit (.int .i64 a), .lit (.int .i64 b)], [])) (y1 := (.lit (.float .f32 f), [])) Tryz.underlying27 (by rw [cells27]; rfl) (by rw [cells24]; exact h2) (by rw [cells25]; exact h3)

/-- Nothing but what was read is there afterwards: arguments without places. -/
theorem post_flat {P : Program} {f : Func} {s : ChangeSpec} {fresh handsOn again : Bool} {W W' : World} {args : Array Value} {v : Value} {ds : List (DataW H)} (hv : s.vars = [])
    (hW : ∀ (W : World) (b : Nat) (sp : Nat → Bool), DataW.TrodAll enc P W b sp true f.params.toList args.toList ds [])
    (hs : (s.fn H (ds ++ [])).args = ds) (hsv : (s.fn H (ds ++ [])).vars = [])
    (hres : ∀ (W : World) (b : Nat) (sp : Nat → Bool) (hd : Bool), DataW.TrodAll enc P W b sp hd f.resultTypes.toList (v.resultList f.resultTypes.size) (s.fn H (ds ++ [])).results [])
    (hk : W.keptBut W' (fun _ => False))
    (hok : ∀ (j : Nat) (t : TypeId) (r : Value), f.resultTypes[j]? = some t → (v.resultList f.resultTypes.size)[j]? = some r → Value.okWide P W' .any 0 t r) :
    s.post enc P f false fresh handsOn again W args v W' := by
  refine ⟨ds, [], [], [], [], [], ⟨[], [], hW _ _ _, by rw [hv]; rfl, rfl, fun b off hp => by simp at hp, fun h => by cases h⟩, hres _ _ _ _, by rw [hs]; exact hW _ _ _, by rw [hv, hsv]; rfl, World.keptBut_mono (fun p hp => hp.elim) hk, fun _ => ?_⟩
  exact ⟨hok, _, [], [], ⟨[], [], trodAll_append (hW _ _ _) (hres _ _ _ _), by rw [hv]; rfl, rfl, fun b off hp => by simp at hp, fun h => by cases h⟩, fun p hp => by simp at hp⟩

set_option maxRecDepth 100000 in
theorem contract (W : World) (base : Nat) (args : Array Value) (ds gs : List (DataW H)) (before : List MemPlace)
    (hval : ∀ (j : Nat) t v, Tryz.f3.params[j]? = some t → args[j]? = some v → Value.okWide Tryz.prog W .any base t v)
    (hW : DataW.Whole enc Tryz.prog Tryz.f3.params.toList Rows.sampleBasicsSpec.vars false W args.toList ds gs before) (hL : laidMetH Tryz.prog Rows.sampleBasicsRow.laid W) :
    Calls Tryz.prog 3 args W fun e W' => ∃ v, e = .returned v ∧ Rows.sampleBasicsSpec.post enc Tryz.prog Tryz.f3 false true false false W args v W' := by
  obtain ⟨p, q, hA, hV, rfl, hfz, hnd⟩ := hW
  rw [Tryz.params3] at hA hval
  obtain ⟨v0, vs0, d0, ds0, p0, q0, hargs, rfl, rfl, h0, r0⟩ := trodAll_cons hA
  obtain ⟨v1, vs1, d1, ds1, p1, q1, rfl, rfl, rfl, h1, r1⟩ := trodAll_cons r0
  obtain ⟨v2, vs2, d2, ds2, p2, q2, rfl, rfl, rfl, h2, r2⟩ := trodAll_cons r1
  obtain ⟨rfl, rfl, rfl⟩ := trodAll_nil r2
  obtain rfl : args = #[v0, v1, v2] := Array.ext' hargs
  obtain ⟨s, rfl, rfl, rfl, hs⟩ := open_string Tryz.underlying9 (hval 0 9 v0 rfl rfl) h0
  obtain ⟨a1, rfl, _⟩ : ∃ cs, v1 = .agg cs ∧ cs.size = Tryz.prog.cellsOf 22 := by
    have := hval 1 22 v1 rfl rfl
    simp only [Value.okWide, Tryz.underlying22] at this
    obtain ⟨cs, e1, e2, _⟩ := this
    exact ⟨cs, e1, e2⟩
  obtain ⟨a2, rfl, _⟩ := okWide_struct Tryz.underlying27 (hval 2 27 v2 rfl rfl)
  obtain ⟨n1, h1⟩ := h1
  obtain ⟨n2, h2⟩ := h2
  obtain ⟨key, n, e1, x1, wk, wn⟩ := open22 h1
  obtain ⟨pp, qq, f, e2, x2, wp, wq, wf⟩ := open27 h2
  obtain rfl : a1 = #[.int .i64 key, .int .i64 n] := Array.ext' e1
  obtain rfl : a2 = #[.int .i64 pp, .int .i64 qq, .float .f32 f] := Array.ext' e2
  cases x1
  cases x2
  obtain ⟨⟨t1, z1, b1⟩, ⟨t2, z2, b2⟩⟩ := tables hL
  refine (walk3 b1 b2 s key n pp qq f).mono fun e W' ⟨he, hk⟩ => ?_
  subst he
  refine ⟨_, rfl, post_flat (ds := [.lit (.string s.data.toList), .agg [.lit (.int .i64 key), .lit (.int .i64 n)], .agg [.agg [.lit (.int .i64 pp), .lit (.int .i64 qq)], .lit (.float .f32 f)]]) rfl (fun W b sp => ?_) rfl rfl (fun W b sp hd => ?_) hk (ok_one (by kernel_rfl) rfl (okWide_bool_mk Tryz.underlying4 _))⟩
  · rw [Tryz.params3]
    exact trodAll_cons_mk (shut_string Tryz.underlying9 hs) (trodAll_cons_mk (shut22 wk wn) (trodAll_cons_mk (shut27 wp wq wf) trodAll_mk0))
  · exact trodAll_cons_mk (shut_bool Tryz.underlying4 _) trodAll_mk0
end
end Go.Tidy
