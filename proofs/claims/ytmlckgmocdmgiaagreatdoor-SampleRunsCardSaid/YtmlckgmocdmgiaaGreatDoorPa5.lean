/- A part of the proof. -/
import Derived.Test.YtmlckgmocdmgiaaGreatDoorPa4
import Derived.Test.YtmlckgmocdmgiaaGreatDoorRows
import Derived.Lib.LaidTab
import Derived.OpenShut
import Derived.ChangeSame
import Derived.ChangeMaps5
set_option linter.all false
namespace Go.Tidy
open Go Go.Proofs Go.Proofs.YtmlckgmocdmgiaaGreatDoor Go.ChangeShapes Go.WideShapes Go.RowKit
open Go.ChangeMaps (open_string shut_string)
theorem cells3 : Tryz.prog.cellsOf 3 = 1 := by kernel_rfl
theorem g1 : Tryz.prog.globalNamed "versine/sample.turns" = some 0 := by kernel_rfl
theorem g2 : Tryz.prog.globalNamed "internal/strconv.uint64pow10" = some 2 := by kernel_rfl
theorem gt1 : (Tryz.prog.globals[0]?).map (·.type) = some 206 := by kernel_rfl
theorem gt2 : (Tryz.prog.globals[2]?).map (·.type) = some 257 := by kernel_rfl
theorem cg1 : Tryz.prog.cellsOf 206 = 8 := by kernel_rfl
theorem cg2 : Tryz.prog.cellsOf 257 = 20 := by kernel_rfl
theorem cells222 : Tryz.prog.cellsOf 222 = 1 := by kernel_rfl
section
variable {H : Type} {enc : TypeId × Value → H} {w : World} {base : Nat} {sp : Nat → Bool} {hd : Bool}
theorem cells205 : Tryz.prog.cellsOf 205 = 2 := by kernel_rfl
theorem open205 {fuel : Nat} {c0 c1 : Value} {x : DataW H × List MemPlace} (h : DataW.trod enc Tryz.prog w base sp hd fuel 205 [c0, c1] = some x) : ∃ a b : Int, c0 = .int .i64 a ∧ c1 = .int .i64 b ∧ x = (.agg [.lit (.int .i64 a), .lit (.int .i64 b)], []) ∧ (Lit.int .i64 a).wf = true ∧ (Lit.int .i64 b).wf = true := by
  obtain ⟨y0, y1, n, rfl, _, h0, h1⟩ := trod_struct2 Tryz.underlying205 h
  rw [cells3] at h0 h1
  obtain ⟨a, e0, rfl, wa⟩ := DataW.trod_int Tryz.underlying3 (show DataW.trod enc Tryz.prog w base sp hd n 3 [c0] = some y0 from h0)
  obtain ⟨b, e1, rfl, wb⟩ := DataW.trod_int Tryz.underlying3 (show DataW.trod enc Tryz.prog w base sp hd n 3 [c1] = some y1 from h1)
  cases e0
  cases e1
  exact ⟨a, b, rfl, rfl, rfl, wa, wb⟩
theorem list8 {l : List Value} (h : l.length = 8) : ∃ a b c d e f g i, l = [a, b, c, d, e, f, g, i] := by
  match l, h with
  | [a, b, c, d, e, f, g, i], _ => exact ⟨a, b, c, d, e, f, g, i, rfl⟩
theorem row_turns {fuel : Nat} {cs : List Value} {p : List MemPlace} (h : DataW.trod enc Tryz.prog w base sp hd fuel 206 cs = some (Rows.laid_versine_sample_turns, p)) : cs = turnsL := by
  obtain ⟨xs, m, _, hx, hl, hn, hf⟩ := DataW.trod_array Tryz.underlying206 h
  rw [cg1] at hl
  obtain ⟨a, b, c, d, e, f, g, i, rfl⟩ := list8 hl
  obtain ⟨x0, x1, x2, x3, rfl⟩ : ∃ x0 x1 x2 x3, xs = [x0, x1, x2, x3] := by
    match xs, hn with
    | [x0, x1, x2, x3], _ => exact ⟨x0, x1, x2, x3, rfl⟩
  rw [cells205] at hf
  obtain ⟨_, _, rfl, rfl, rfl, _⟩ := open205 (show DataW.trod enc Tryz.prog w base sp hd m 205 [a, b] = some x0 from hf 0 (by decide))
  obtain ⟨_, _, rfl, rfl, rfl, _⟩ := open205 (show DataW.trod enc Tryz.prog w base sp hd m 205 [c, d] = some x1 from hf 1 (by decide))
  obtain ⟨_, _, rfl, rfl, rfl, _⟩ := open205 (show DataW.trod enc Tryz.prog w base sp hd m 205 [e, f] = some x2 from hf 2 (by decide))
  obtain ⟨_, _, rfl, rfl, rfl, _⟩ := open205 (show DataW.trod enc Tryz.prog w base sp hd m 205 [g, i] = some x3 from hf 3 (by decide))
  have hd := congrArg Prod.fst hx
  simp [Rows.laid_versine_sample_turns] at hd
  obtain ⟨⟨rfl, rfl⟩, ⟨rfl, rfl⟩, ⟨rfl, rfl⟩, rfl, rfl⟩ := hd
  rfl
def powsI : List Int := [1, 10, 100, 1000, 10000, 100000, 1000000, 10000000, 100000000, 1000000000, 10000000000, 100000000000, 1000000000000, 10000000000000, 100000000000000, 1000000000000000, 10000000000000000, 100000000000000000, 1000000000000000000, 10000000000000000000]
theorem row_pows {fuel : Nat} {cs : List Value} {p : List MemPlace} (h : DataW.trod enc Tryz.prog w base sp hd fuel 257 cs = some (Rows.laid_internal_strconv_uint64pow10, p)) : cs = powsL := by
  have := Lib.cells_of_tab (zs := powsI) Tryz.underlying257 Tryz.underlying222 cells222 cg2 h
  exact this
theorem var_heap {g : Nat} {name : String} {cs : Array Value} (hg : Tryz.prog.globalNamed name = some g) (h : w.var? Tryz.prog name = some cs) : ∃ e z, w.heap[g]? = some (.cells cs e z) := by
  unfold World.var? at h
  rw [hg] at h
  simp only [Option.bind_some] at h
  split at h
  · rename_i c e z hh
    cases h
    exact ⟨e, z, hh⟩
  · cases h
def laidL := Rows.sampleRunsRow.laid
theorem tables {W : World} (h : laidMetH Tryz.prog laidL W) : (∃ e z, W.heap[0]? = some (.cells turnsL.toArray e z)) ∧ ∃ e z, W.heap[2]? = some (.cells powsL.toArray e z) := by
  replace h : laidMet Tryz.prog Rows.sampleRunsRow.laid W := h
  obtain ⟨ps, ⟨_, _, _, _, _, _, _, _, _, _, ⟨_, _, _, _, _, _, _, _, _, _, ⟨gp, tp, cp, fp, _, _, hp1, hp2, hp3, hp4, ⟨gt, tt, ct, ft, _, _, ht1, ht2, ht3, ht4, _⟩, _⟩, _⟩, _⟩, _⟩ := h
  obtain rfl := Option.some.inj (g2.symm.trans hp1)
  obtain rfl := Option.some.inj (g1.symm.trans ht1)
  obtain rfl := Option.some.inj (gt2.symm.trans hp2)
  obtain rfl := Option.some.inj (gt1.symm.trans ht2)
  have e1 := row_turns ht4
  have e2 := row_pows hp4
  rw [show ct = turnsL.toArray by rw [← e1]] at ht3
  rw [show cp = powsL.toArray by rw [← e2]] at hp3
  exact ⟨var_heap g1 ht3, var_heap g2 hp3⟩
theorem trodAll_len : ∀ {ts : List TypeId} {vs : List Value} {ds : List (DataW H)} {pl : List MemPlace} {P : Program}, DataW.TrodAll enc P w base sp hd ts vs ds pl → ds.length = ts.length
  | [], [], [], _, _, _ => rfl
  | t :: ts, v :: vs, d :: ds, _, _, ⟨_, _, _, h, _⟩ => by simp [trodAll_len h]
set_option maxRecDepth 100000 in
theorem contractG {k m : Nat} {f : TFun} {fn : Func} {ts : List TypeId} {spec : ChangeSpec} (hf : tpE.fn k = some f) (hts : fn.params.toList = ts) (hrt : fn.resultTypes = #[4]) (hs : ts.all (simple Tryz.prog m) = true) (L : Law tpE k m ts)
    (hv : spec.vars = []) (hsp : ∀ ds : List (DataW H), ds.length = ts.length → (spec.fn H ds).results = [.lit (.bool true)] ∧ (spec.fn H ds).args = ds ∧ (spec.fn H ds).vars = [])
    (W : World) (base : Nat) (args : Array Value) (ds gs : List (DataW H)) (before : List MemPlace)
    (hval : ∀ (j : Nat) t v, fn.params[j]? = some t → args[j]? = some v → Value.okWide Tryz.prog W .any base t v)
    (hW : DataW.Whole enc Tryz.prog fn.params.toList spec.vars false W args.toList ds gs before) (hL : laidMetH Tryz.prog laidL W) :
    Calls Tryz.prog k args W fun e W' => ∃ v, e = .returned v ∧ spec.post enc Tryz.prog fn false true false false W args v W' := by
  obtain ⟨p, q, hA, hV, rfl, hfz, hnd⟩ := hW
  rw [hv] at hV
  have hg : gs = [] ∧ q = [] := by
    cases gs with
    | nil => exact ⟨rfl, hV⟩
    | cons x r => exact hV.elim
  obtain ⟨rfl, rfl⟩ := hg
  rw [hts] at hA
  obtain ⟨s1, s2, s3⟩ := hsp ds (trodAll_len hA)
  obtain ⟨⟨t1, z1, b1⟩, ⟨t2, z2, b2⟩⟩ := tables hL
  refine (law_run hf hs L b1 b2 (fun j t v h1 h2 => hval j t v (by rw [← hts] at h1; simpa using h1) h2) hA).mono fun e W' ⟨he, hk, hA'⟩ => ?_
  subst he
  refine ⟨_, rfl, ds, [], p ++ [], [], p, [], ⟨p, [], by rw [hts]; exact hA, by rw [hv]; rfl, rfl, hfz, hnd⟩, ?_, ?_, ?_, World.keptBut_mono (fun p hp => hp.elim) hk, fun h => by cases h⟩
  · rw [List.append_nil, s1, hrt]
    exact trodAll_cons_mk (shut_bool Tryz.underlying4 _) trodAll_mk0
  · rw [List.append_nil, s2, hts]; exact hA'
  · rw [List.append_nil, s3, hv]; rfl
end
end Go.Tidy
namespace Go.Tidy
open Go
variable {P : Program} {tp : TProg} {a : Regs} {h : TH} {K : Regs → TH → Prop} {rest : List TOper} {d : Option Tmp} {ty : TypeId} {i : Nat} {x y lo hi : Operand} {v vx vy vz : Value} {t u e : TypeId} {n : Nat} {z : List Value} {row : Bool}
theorem WO.sl {q : Addr} {m cap : Nat} {vlo vhi : Value} (hx : getO a x = some (.slice (some q) m cap)) (hl : getO a lo = some vlo) (hh : getO a hi = some vhi) (hv : sliceT P t (.slice (some q) m cap) (some vlo) (some vhi) none h = some v)
    (w : WO P tp rest (a.put d v) h K) : WO P tp (⟨d, .slice t x (some lo) (some hi) none, ty, none, [], i⟩ :: rest) a h K :=
  WO.op (h1 := h) rfl rfl (fun call => by
    have hp : plainOp P ⟨d, .slice t x (some lo) (some hi) none, ty, none, [], i⟩ a.eval = none := by
      unfold plainOp
      simp [plainly, Op.operands, getO_eval hx, plain, plain1, plain0]
    simp [stepOp, heapFirst, fastOp, valueOp, hp, heapOp, getO_eval hx, getO_eval hl, getO_eval hh, hv]) w
theorem WO.clr {h1 : TH} {ts : Array TypeId} (hx : getO a x = some vx) (hv : clearT P ts #[vx] h = some (v, h1))
    (w : WO P tp rest (a.put d v) h1 K) : WO P tp (⟨d, .call ⟨.builtin .clear, #[x], ts⟩, ty, none, [], i⟩ :: rest) a h K :=
  WO.op rfl rfl (fun call => by
    have hp : plainOp P ⟨d, .call ⟨.builtin .clear, #[x], ts⟩, ty, none, [], i⟩ a.eval = none := rfl
    simp [stepOp, heapFirst, fastOp, valueOp, hp, heapOp, getO_eval hx, hv]) w
theorem sliceT_at {b off m cap lo hi : Nat} {k k' : IntKind} {cc : List Value} {fix wr : Bool} {el : TypeId} (hu : P.underlying t = some (.slice e)) (he : Tp P e n z row) (hc : m ≤ cap) (h1 : lo ≤ hi) (h2 : hi ≤ m) (hb : At h b (.cells cc fix wr el)) (hf : fix = true ∨ el = e) :
    sliceT P t (.slice (some ⟨b, off, none⟩) m cap) (some (.int k (lo : Nat))) (some (.int k' (hi : Nat))) none h = some (.slice (some ⟨b, off + lo * n, none⟩) (hi - lo) (cap - lo)) := by
  obtain ⟨inf, q1, q2, q3, _⟩ := he.i
  have bd : ∀ (q : IntKind) (r dflt upper : Nat), r ≤ upper → boundT (some (.int q (r : Nat))) dflt upper = some r := fun q r dflt upper hr => by
    have d1 : decide (0 ≤ (r : Int)) = true := decide_eq_true (Int.natCast_nonneg _)
    have d2 : decide ((r : Int) ≤ (upper : Int)) = true := decide_eq_true (Int.ofNat_le.2 hr)
    simp only [boundT, d1, d2, Bool.and_self, Bool.cond_true, Int.toNat_natCast]
  have hcut : cut3 m cap (some (.int k (lo : Nat))) (some (.int k' (hi : Nat))) none = some (lo, hi, cap) := by
    simp only [cut3, show boundT none cap cap = some cap from rfl, Option.bind_some, Option.isNone_some, Option.isSome_none, Bool.and_self, Bool.cond_false, bd k' hi m cap (by omega), bd k lo 0 hi h1, Option.map_some]
  have hef : elemFits h b e = true := by
    unfold elemFits
    rw [hb.get]
    rcases hf with rfl | rfl
    · rfl
    · simp
  simp only [sliceT, hu, ble_yes hc, Bool.cond_true, hcut, Option.bind_some, q1, hef, q2]
theorem clear_part {α : Type} {enc : α → List Value} {sT : TypeId} {z0 : α} {b m k off cap : Nat} {l : List α} {fix : Bool} {el : TypeId} (E : Enc enc n) (hn : 0 < n) (hu : P.underlying sT = some (.slice e)) (he : Tp P e n (enc z0) row) (hb : At h b (.cells (cat enc l) fix true el)) (hk : off + k ≤ l.length)
    (f : Free0 m h) (hm : m ≤ b) :
    ∃ h', clearT P #[sT] #[.slice (some ⟨b, off * n, none⟩) k cap] h = some (.tuple #[], h') ∧ (∀ h0, HX h0 h → h0.next ≤ b → HX h0 h') ∧ (∀ c y, c ≠ b → At h c y → At h' c y) ∧ h'.next = h.next ∧ At h' b (.cells (cat enc (l.take off ++ (List.replicate k z0 ++ l.drop (off + k)))) fix true el) := by
  obtain ⟨inf, q1, q2, q3, zv, q4, q5⟩ := he.i
  have hs : zv.cells.size = n := by rw [← he.n, ← q5]; simp
  by_cases h0 : k = 0
  · subst h0
    refine ⟨h, ?_, fun _ hx _ => hx, fun _ _ _ ha => ha, rfl, ?_⟩
    · simp only [clearT, List.getElem?_toArray, List.getElem?_cons_zero, elemInfo, hu, q1, Option.map_some, q4, show Nat.beq 0 0 = true from rfl, Bool.cond_true]
    · simpa using hb
  · have hz : zeros (enc z0) (k * n) = cat enc (List.replicate k z0) := by
      have := zeros_flat (enc z0) (by rw [E.len]; exact hn) k
      rw [E.len] at this
      rw [this, Enc.rep]
    have hlen := E.cat_len (List.replicate k z0)
    have hfull := E.cat_len l
    have hle : (off + k) * n ≤ l.length * n := Nat.mul_le_mul_right _ hk
    rw [Nat.add_mul] at hle
    simp only [List.length_replicate] at hlen
    have e1 : Nat.ble (off * n + (cat enc (List.replicate k z0)).length) (cat enc l).length = true := by rw [Nat.ble_eq]; omega
    have e2 : Nat.blt 0 n = true := by rw [Nat.blt_eq]; exact hn
    have hp := f.put (x := .cells (splice (cat enc l) (off * n) (cat enc (List.replicate k z0))) fix true el) hm hb.lt
    refine ⟨h.upd b (.cells (splice (cat enc l) (off * n) (cat enc (List.replicate k z0))) fix true el), ?_, fun h0 hx hb' => hx.upd hb' _, fun c y hc ha => ha.upd hc, rfl, ?_⟩
    · simp only [clearT, List.getElem?_toArray, List.getElem?_cons_zero, elemInfo, hu, q1, Option.map_some, q4, beq_no h0, Bool.cond_false, hs, e2, Bool.cond_true, q5, hz, putCells, hb.get, e1, E.all, Bool.and_self, hp]
    · have : splice (cat enc l) (off * n) (cat enc (List.replicate k z0)) = cat enc (l.take off ++ (List.replicate k z0 ++ l.drop (off + k))) := by
        unfold splice
        have e3 := E.take l off
        have e4 := E.drop l (off + k)
        rw [hlen, show off * n + k * n = (off + k) * n by rw [Nat.add_mul], e3, e4, cat_append, cat_append]
      rw [← this]
      exact hb.self
end Go.Tidy
namespace Go.Tidy
open Go
variable {P : Program} {tp : TProg} {a : Regs} {h : TH} {K : Regs → TH → Prop} {rest : List TOper} {d : Option Tmp} {ty : TypeId} {i : Nat} {x y : Operand} {v vx vy vz : Value} {t u e : TypeId} {n : Nat} {z : List Value} {row : Bool}
def bl : Value → Option Nat
  | .slice (some a) _ _ => some a.block
  | _ => none
def OwnL {α : Type} (enc : α → List Value) (n0 : Nat) (h : TH) (v : Value) (e : TypeId) (l : List α) : Prop :=
  (v = .slice none 0 0 ∧ l = []) ∨ (l ≠ [] ∧ ∃ b, v = .slice (some ⟨b, 0, none⟩) l.length l.length ∧ n0 ≤ b ∧ At h b (.cells (cat enc l) false true e))
section
variable {α : Type} {enc : α → List Value} {n0 : Nat} {h' : TH} {l : List α}
theorem OwnL.nil : OwnL enc n0 h (.slice none 0 0) e [] := .inl ⟨rfl, rfl⟩
theorem OwnL.keep (o : OwnL enc n0 h v e l) (k : ∀ c y, bl v = some c → At h c y → At h' c y) : OwnL enc n0 h' v e l :=
  o.imp id fun ⟨h0, b, h1, h2, h3⟩ => ⟨h0, b, h1, h2, k b _ (by rw [h1]; rfl) h3⟩
theorem OwnL.hx (o : OwnL enc n0 h v e l) (x : HX h h') : OwnL enc n0 h' v e l := o.keep fun _ _ _ a => a.hx x
theorem OwnL.sl (E : Enc enc n) (o : OwnL enc n0 h v e l) : SlL enc n h v l := by
  rcases o with ⟨rfl, rfl⟩ | ⟨_, b, rfl, _, h3⟩
  · exact SlL.nil
  · exact SlL.own E h3 rfl
theorem OwnL.above (o : OwnL enc n0 h v e l) : Above n0 v := by
  rcases o with ⟨rfl, rfl⟩ | ⟨_, b, rfl, h2, _⟩
  · exact Above.nil
  · exact Above.slice h2
theorem OwnL.lt (o : OwnL enc n0 h v e l) {c : Nat} (hc : bl v = some c) : n0 ≤ c ∧ c < h.next := by
  rcases o with ⟨rfl, rfl⟩ | ⟨_, b, rfl, h2, h3⟩
  · cases hc
  · cases hc; exact ⟨h2, h3.lt⟩
theorem own_push {sT : TypeId} {v2 : Value} {x : α} (E : Enc enc n) (hu : P.underlying sT = some (.slice e)) (he : Tp P e n z row) (o : OwnL enc n0 h v e l) (s2 : SlC h v2 n 1 (enc x)) (f : Free0 n0 h) (hl : l.length < 1000000) (hn0 : n0 ≤ h.next) :
    ∃ v' h', appendT P #[sT, sT] #[v, v2] h = some (v', h') ∧ OwnL enc n0 h' v' e (l ++ [x]) ∧ (∀ h0, HX h0 h → h0.next ≤ n0 → HX h0 h') ∧ (∀ c y, bl v ≠ some c → At h c y → At h' c y) ∧ bl v' = some h.next ∧ h.next ≤ h'.next := by
  rcases o with ⟨rfl, rfl⟩ | ⟨hne, b, rfl, h2, h3⟩
  · refine ⟨_, _, append_first hu he s2 (by decide) (by decide) (E.one x), .inr ⟨by simp, h.next, rfl, hn0, ?_⟩, fun h0 hx hb => hx.trans (HX.new _ _), fun c y _ ha => ha.hx (HX.new _ _), rfl, Nat.le_succ _⟩
    rw [List.nil_append, cat_one]
    exact At.new _ _
  · refine ⟨_, _, append_more hu he h3 (E.cat_len l) s2 (by decide) (by omega) (E.one x) f h2, .inr ⟨by simp, h.next, ?_, hn0, ?_⟩, fun h0 hx hb => (hx.upd (by omega) _).trans (HX.new _ _), fun c y hc ha => (ha.upd (fun e => hc (by rw [e]; rfl))).hx (HX.new _ _), rfl, Nat.le_succ _⟩
    · rw [List.length_append]; rfl
    · rw [cat_append, cat_one]
      exact At.new (h.upd b .dead) _
end
theorem set_one : ∀ (l : List (Int × Int)) (j : Nat) (p : Int × Int) (y : Int), l[j]? = some p → (cat encS l).set (j * 2 + 1) (.int .i64 y) = cat encS (l.set j (p.1, y))
  | [], j, p, y, h => by simp at h
  | q :: l, 0, p, y, h => by simp at h; subst h; rfl
  | q :: l, j + 1, p, y, h => by
    have := set_one l j p y (by simpa using h)
    rw [List.set_cons_succ, cat_cons, cat_cons, ← this, show (j + 1) * 2 + 1 = (j * 2 + 1) + 2 by omega]
    rfl
end Go.Tidy
namespace Go.Tidy
open Go
variable {P : Program} {tp : TProg} {a : Regs} {h : TH} {K : Regs → TH → Prop} {rest : List TOper} {d : Option Tmp} {ty : TypeId} {i : Nat}
theorem lockOf_bs : ∀ (ls : List Operand) (a : Regs) (bs lk : List Nat), ls.map (fun x => (getO a x).bind blockOf) = bs.map some → ∀ l, l ∈ lockOf ls a.eval lk → l ∈ bs ∨ l ∈ lk
  | [], _, _, _, _, l, h => .inr h
  | x :: r, a, [], lk, hm, l, h => by simp at hm
  | x :: r, a, b :: bs, lk, hm, l, h => by
    simp only [List.map_cons, List.cons.injEq] at hm
    obtain ⟨h1, h2⟩ := hm
    rw [Option.bind_eq_some_iff] at h1
    obtain ⟨v, hv, hb⟩ := h1
    have ev := getO_eval hv
    unfold lockOf at h
    rw [ev, hb] at h
    rcases List.mem_cons.1 h with rfl | h
    · exact .inl (by simp)
    · rcases lockOf_bs r a bs lk h2 l h with q | q
      · exact .inl (by simp [q])
      · exact .inr q
theorem Free0.held {n : Nat} {L bs : List Nat} (f : Free0 n h) (hL : ∀ l, l ∈ L → l ∈ bs ∨ l ∈ h.lock) (hb : ∀ b, b ∈ bs → b < n) : Free0 n (h.withLock L) :=
  ⟨f.floor, fun l hl => by
    rcases hL l hl with q | q
    · exact hb l q
    · exact f.lock l q⟩
variable {f x0 x1 l0 : Operand} {ls : List Operand} {fv v0 v1 v2 : Value} {ts : Array TypeId}
theorem WO.lq1 (bs : List Nat) (hb : (l0 :: ls).map (fun x => (getO a x).bind blockOf) = bs.map some) (hf : getO a f = some fv) (h0 : getO a x0 = some v0) (w : ∀ L, (∀ l, l ∈ L → l ∈ bs ∨ l ∈ h.lock) → CallW P tp fv #[v0] (h.withLock L) fun v h1 => WO P tp rest (a.put d v) (h1.withLock h.lock) K) : WO P tp (⟨d, .call ⟨.value f, #[x0], ts⟩, ty, none, l0 :: ls, i⟩ :: rest) a h K :=
  WO.cons_lock rfl rfl (StepW.call (by rw [getO_eval hf]; simpa [getO_eval h0] using w _ (lockOf_bs _ a bs h.lock hb)))
theorem WO.lq2 (bs : List Nat) (hb : (l0 :: ls).map (fun x => (getO a x).bind blockOf) = bs.map some) (hf : getO a f = some fv) (h0 : getO a x0 = some v0) (h1 : getO a x1 = some v1) (w : ∀ L, (∀ l, l ∈ L → l ∈ bs ∨ l ∈ h.lock) → CallW P tp fv #[v0, v1] (h.withLock L) fun v h1 => WO P tp rest (a.put d v) (h1.withLock h.lock) K) : WO P tp (⟨d, .call ⟨.value f, #[x0, x1], ts⟩, ty, none, l0 :: ls, i⟩ :: rest) a h K :=
  WO.cons_lock rfl rfl (StepW.call (by rw [getO_eval hf]; simpa [getO_eval h0, getO_eval h1] using w _ (lockOf_bs _ a bs h.lock hb)))
end Go.Tidy
namespace Go.Tidy
open Go
variable {P : Program} {tp : TProg} {a : Regs} {h : TH} {K : Regs → TH → Prop} {rest : List TOper} {d : Option Tmp} {ty : TypeId} {i : Nat} {x y : Operand} {v vx vy vz : Value} {t u e : TypeId} {n : Nat} {z : List Value} {row : Bool}
theorem append_put {sT : TypeId} {b j k : Nat} {c new : List Value} (hu : P.underlying sT = some (.slice e)) (he : Tp P e n z row) (hg : At h b (.cells c false true e)) (hc : c.length = j * n) (s : SlC h v n k new) (hk : 0 < k) (hk2 : j + k ≤ 1000000000) (h1 : new.all oneCell = true)
    (hp : h.put b .dead = some (h.upd b .dead)) :
    appendT P #[sT, sT] #[.slice (some ⟨b, 0, none⟩) j j, v] h = some (.slice (some ⟨h.next, 0, none⟩) (j + k) (j + k), (h.upd b .dead).new (.cells (c ++ new) false true e)) := by
  obtain ⟨inf, q1, q2, q3, _⟩ := he.i
  have hf := firstT_C s
  obtain ⟨bo, cap, rfl, _⟩ := s
  have e1 : Nat.beq k 0 = false := beq_no (by omega)
  have e2 : Nat.ble (j + k) j = false := ble_no (by omega)
  have e3 : room (j + k) inf.bytes = true := room_of q3 (by omega)
  have e4 : zeroFits inf = true := zeroFits_of he q1
  have e5 : cellsAt h b 0 (j * n) = some c := by
    simp only [cellsAt, hg.get, ble_yes (show 0 + j * n ≤ c.length by omega), Bool.cond_true, List.drop_zero]
    rw [← hc, List.take_length]
  have e6 : Nat.beq e e = true := Nat.beq_refl e
  simp only [appendT, elemInfo, List.getElem?_toArray, List.getElem?_cons_zero, List.getElem?_cons_succ, hu, Option.bind_some, q1, Option.map_some, newOf, lenT, q2, hf, e1, Bool.cond_false, e2, e3, e4, h1, Bool.and_self, Bool.cond_true, hg.get, e5, Bool.true_and, e6, hp]
  rfl
theorem own_pushL {α : Type} {enc : α → List Value} {n0 : Nat} {l : List α} {sT : TypeId} {v2 : Value} {x : α} {L : List Nat} (E : Enc enc n) (hu : P.underlying sT = some (.slice e)) (he : Tp P e n z row) (o : OwnL enc n0 h v e l) (s2 : SlC h v2 n 1 (enc x)) (hfl : h.floor ≤ n0) (hL : ∀ c, bl v = some c → c ∉ L) (hl : l.length < 1000000) (hn0 : n0 ≤ h.next) :
    ∃ v' h1, appendT P #[sT, sT] #[v, v2] (h.withLock L) = some (v', h1) ∧ OwnL enc n0 (h1.withLock h.lock) v' e (l ++ [x]) ∧ (∀ h0, HX h0 h → h0.next ≤ n0 → HX h0 (h1.withLock h.lock)) ∧ (∀ c y, bl v ≠ some c → At h c y → At (h1.withLock h.lock) c y) ∧ bl v' = some h.next ∧ h.next ≤ (h1.withLock h.lock).next := by
  rcases o with ⟨rfl, rfl⟩ | ⟨hne, b, rfl, h2, h3⟩
  · refine ⟨_, _, append_first hu he (s2.relock L) (by decide) (by decide) (E.one x), .inr ⟨by simp, h.next, rfl, hn0, ?_⟩, fun h0 hx hb => hx.trans (HX.new _ _), fun c y _ ha => ha.hx (HX.new _ _), rfl, Nat.le_succ _⟩
    rw [List.nil_append, cat_one]
    exact At.new h _
  · have hp : (h.withLock L).put b .dead = some ((h.withLock L).upd b .dead) := TH.put_upd (Nat.le_trans hfl h2) h3.lt (hL b rfl)
    refine ⟨_, _, append_put hu he (h3.relock L) (E.cat_len l) (s2.relock L) (by decide) (by omega) (E.one x) hp, .inr ⟨by simp, h.next, ?_, hn0, ?_⟩, fun h0 hx hb => (hx.upd (by omega) _).trans (HX.new _ _), fun c y hc ha => (ha.upd (fun e => hc (by rw [e]; rfl))).hx (HX.new _ _), rfl, Nat.le_succ _⟩
    · rw [List.length_append]; rfl
    · rw [cat_append, cat_one]
      exact At.new (h.upd b .dead) _
theorem WO.apQ {l0 : Operand} {ls : List Operand} {ts : Array TypeId} (bs : List Nat) (hb : (l0 :: ls).map (fun x => (getO a x).bind blockOf) = bs.map some) (hx : getO a x = some vx) (hy : getO a y = some vy) (hm : ∀ L, (∀ l, l ∈ L → l ∈ bs ∨ l ∈ h.lock) → ∃ v h1, appendT P ts #[vx, vy] (h.withLock L) = some (v, h1) ∧ WO P tp rest (a.put d v) (h1.withLock h.lock) K) :
    WO P tp (⟨d, .call ⟨.builtin .append, #[x, y], ts⟩, ty, none, l0 :: ls, i⟩ :: rest) a h K := by
  refine WO.cons_lock rfl rfl ?_
  obtain ⟨v, h1, h2, w⟩ := hm (lockOf (l0 :: ls) a.eval h.lock) (lockOf_bs _ a bs h.lock hb)
  refine StepW.of (v := v) (h1 := h1) (fun call => ?_) w
  have hp : plainOp P ⟨d, .call ⟨.builtin .append, #[x, y], ts⟩, ty, none, l0 :: ls, i⟩ a.eval = none := rfl
  simp [stepOp, heapFirst, fastOp, valueOp, hp, heapOp, getO_eval hx, getO_eval hy, h2]
end Go.Tidy
namespace Go.Tidy
open Go
section
variable {P : Program} {h : TH} {t e : TypeId} {n : Nat} {ps : List Value}
theorem tyg_int {k : IntKind} (hu : P.underlying t = some (.int k)) (y : Ty P h (n + 1) t ps) : ∃ z, ps = [.int k z] ∧ (Lit.int k z).wf = true := by
  unfold Ty at y; rw [hu] at y; exact y
theorem tyg_float {k : FloatKind} (hu : P.underlying t = some (.float k)) (y : Ty P h (n + 1) t ps) : ∃ b, ps = [.float k b] ∧ (Lit.float k b).wf = true := by
  unfold Ty at y; rw [hu] at y; exact y
theorem tyg_str (hu : P.underlying t = some .string) (y : Ty P h (n + 1) t ps) : ∃ s, ps = [.string s] ∧ s.size ≤ maxLen := by
  unfold Ty at y; rw [hu] at y; exact y
theorem tyg_struct {fs : Array Field} (hu : P.underlying t = some (.struct fs)) (y : Ty P h (n + 1) t ps) : Row P (Ty P h n) (fs.toList.map (·.type)) ps := by
  unfold Ty at y; rw [hu] at y; exact y
theorem row_cat {α : Type} {enc : α → List Value} {T : TypeId → List Value → Prop} (hT : ∀ p, T e p → ∃ x, p = enc x) : ∀ (m : Nat) (c : List Value), Row P T (List.replicate m e) c → ∃ l : List α, l.length = m ∧ c = cat enc l
  | 0, c, h => ⟨[], rfl, h⟩
  | m + 1, c, ⟨p, q, h1, _, h3, h4⟩ => by
    obtain ⟨x, rfl⟩ := hT p h3
    obtain ⟨l, e1, rfl⟩ := row_cat hT m q h4
    exact ⟨x :: l, by simp [e1], h1⟩
theorem tyg_slice {α : Type} {enc : α → List Value} {k : Nat} (E : Enc enc k) (hu : P.underlying t = some (.slice e)) (hT : ∀ p, Ty P h n e p → ∃ x, p = enc x) (y : Ty P h (n + 1) t ps) : ∃ v l, ps = [v] ∧ SlL enc k h v l ∧ ∀ e', Fits h v e' := by
  unfold Ty at y; rw [hu] at y
  obtain ⟨a, m, cap, rfl, h1, _, ⟨rfl, rfl⟩ | ⟨b, c, el, rfl, h2, h3, h4⟩⟩ := y
  · obtain rfl : m = 0 := by omega
    exact ⟨_, [], rfl, SlC.nil _ _ _, fun e' b off m cap hv => by cases hv⟩
  · obtain ⟨l, rfl, rfl⟩ := row_cat hT m c h4
    refine ⟨_, l, rfl, ⟨_, cap, rfl, h1, E.cat_len l, .inr ⟨b, 0, _, true, false, el, rfl, ⟨h3, h2⟩, ?_, ?_⟩⟩, fun e' => Fits.of ⟨h3, h2⟩ (.inl rfl)⟩
    · rw [List.drop_zero, ← E.cat_len l, List.take_length]
    · rw [E.cat_len]; omega
end
end Go.Tidy
namespace Go.Tidy
open Go Go.Proofs
attribute [local irreducible] Ty valOf
variable {h : TH} {n : Nat} {ps : List Value}
theorem ty_int (y : Ty Tryz.prog h (n + 1) 3 ps) : ∃ z, ps = [.int .i64 z] ∧ (Lit.int .i64 z).wf = true := tyg_int Tryz.underlying3 y
theorem ty_float (y : Ty Tryz.prog h (n + 1) 25 ps) : ∃ b, ps = [.float .f32 b] ∧ (Lit.float .f32 b).wf = true := tyg_float Tryz.underlying25 y
theorem ty_str (y : Ty Tryz.prog h (n + 1) 9 ps) : ∃ s, ps = [.string s] ∧ s.size ≤ maxLen := tyg_str Tryz.underlying9 y
theorem ty_span (y : Ty Tryz.prog h (n + 2) 48 ps) : ∃ p : Int × Int, ps = encS p := by
  obtain ⟨p, q, rfl, _, y1, p', q', rfl, _, y2, rfl⟩ := tyg_struct Tryz.underlying48 y
  obtain ⟨a, rfl, _⟩ := ty_int y1
  obtain ⟨b, rfl, _⟩ := ty_int y2
  exact ⟨(a, b), rfl⟩
theorem ty_run (y : Ty Tryz.prog h (n + 4) 46 ps) : ∃ s z v1 v2 F S, ps = (runV s z v1 v2).cells.toList ∧ RunH h v1 v2 F S := by
  obtain ⟨p, q, rfl, _, y1, p', q', rfl, _, y2, p2, q2, rfl, _, y3, p3, q3, rfl, _, y4, rfl⟩ := tyg_struct Tryz.underlying46 y
  obtain ⟨s, rfl, _⟩ := ty_str y1
  obtain ⟨z, rfl, _⟩ := ty_int y2
  obtain ⟨v1, F, rfl, r1, g1⟩ := tyg_slice eF u43 (fun p y => by obtain ⟨b, e, _⟩ := ty_float y; exact ⟨b, e⟩) y3
  obtain ⟨v2, S, rfl, r2, _⟩ := tyg_slice eS u44 (fun p y => ty_span y) y4
  exact ⟨s, z, v1, v2, F, S, rfl, r1, r2, g1 25⟩
theorem val_agg {t : TypeId} {ps : List Value} (hu : (∃ fs, Tryz.prog.underlying t = some (.struct fs)) ∨ ∃ m e, Tryz.prog.underlying t = some (.array m e)) : valOf Tryz.prog t ps = .agg ps.toArray := by
  unfold valOf
  rcases hu with ⟨fs, hu⟩ | ⟨m, e, hu⟩ <;> rw [hu]
theorem val_int {v : Value} : valOf Tryz.prog 3 [v] = v := by unfold valOf; rw [Tryz.underlying3]; rfl
end Go.Tidy
