/- A part of the proof. -/
import Derived.Test.YtmlckgmocdmgiaaGreatDoorPa1
import GoSem.Extern.Table
import Derived.Lib.MakeNoZero
import Derived.Test.YtmlckgmocdmgiaaGreatDoorAzP0
import Derived.Test.YtmlckgmocdmgiaaGreatDoorAzP1
set_option linter.all false
namespace Go.Tidy
open Go
structure ExtOk (P : Program) (k : Nat) (e : Array Value → Sem Value) : Prop where
  ok : ∃ fn, P.funcs[k]? = some fn ∧ (fn.name == "runtime.NumGoroutine") = false ∧ fn.body.isNone = true ∧ Extern.findNext fn = none ∧ Extern.find fn = some e
theorem extOk_of {P : Program} {k : Nat} {e : Array Value → Sem Value} (h : (P.funcs[k]?).map (fun fn => (fn.name == "runtime.NumGoroutine", fn.body.isNone, (Extern.findNext fn).isNone, Extern.find fn)) = some (false, true, true, some e)) : ExtOk P k e := by
  rw [Option.map_eq_some_iff] at h
  obtain ⟨fn, h1, h2⟩ := h
  simp only [Prod.mk.injEq] at h2
  obtain ⟨h3, h4, h5, h6⟩ := h2
  exact ⟨fn, h1, h3, h4, by simpa using h5, h6⟩
theorem callFunc_ext {P : Program} {k : Nat} {e : Array Value → Sem Value} (h : ExtOk P k e) (aas : Array Value) (w w' : World) (v : Value) (hr : (e aas).run P w = .ok v w') : (callFunc k aas).run P w = .ok (.value v) w' := by
  obtain ⟨fn, h1, h2, h3, h4, h5⟩ := h.ok
  have h2' : fn.name ≠ "runtime.NumGoroutine" := by simpa using h2
  have h3' : fn.body = none := by simpa using h3
  simp [callFunc, h1, h2', h3', h4, h5, hr]
def Bare.fn : Bare → Array Value → Sem Value
  | .float64bits => Extern.MathFloatBits.float64bits
  | .float64frombits => Extern.MathFloatBits.float64frombits
  | .float32bits => Extern.MathFloatBits.float32bits
  | .float32frombits => Extern.MathFloatBits.float32frombits
  | .trunc => Extern.MathFloor.toIntegral "math.archTrunc" .zero
theorem trunc_run {x : Nat} (hd : ∀ s t, FloatKind.f64.decode x ≠ .nan s t) (P : Program) (w : World) : (Extern.MathFloor.toIntegral "math.archTrunc" .zero #[.float .f64 x]).run P w = .ok (.float .f64 (FloatKind.f64.encode ((FloatKind.f64.decode x).integral .zero))) w := by
  conv => lhs; arg 2; whnf
  cases h : FloatKind.f64.decode x with
  | nan s t => exact absurd h (hd s t)
  | number s m e => rfl
  | infinity s => rfl
theorem Bare.ok {b : Bare} {aas : Array Value} {v : Value} (h : b.run aas.toList = some v) (P : Program) (w : World) : (b.fn aas).run P w = .ok v w := by
  obtain ⟨l⟩ := aas
  unfold Bare.run at h
  split at h
  all_goals first
    | (rename_i h1
       simp only at h1
       subst h1
       cases h
       rfl)
    | skip
  · rename_i x h1
    simp only at h1
    subst h1
    have hn : ∀ s t, FloatKind.f64.decode x ≠ .nan s t := by
      intro s t hd
      rw [hd] at h
      cases h
    have hv : some (Value.float .f64 (FloatKind.f64.encode ((FloatKind.f64.decode x).integral .zero))) = some v := by
      rw [← h]
      cases hd : FloatKind.f64.decode x with
      | nan s t => exact absurd hd (hn s t)
      | number s m e => rfl
      | infinity s => rfl
    cases hv
    exact trunc_run hn P w
  · cases h
structure NoZeroOk (P : Program) (k : Nat) (e : TypeId) : Prop where
  ok : ∃ fn t ps, P.funcs[k]? = some fn ∧ (fn.name == "runtime.NumGoroutine") = false ∧ fn.body.isNone = true ∧ Extern.findNext fn = none ∧ Extern.find fn = some (Extern.BytealgMakeNoZero.makeNoZero ps #[t]) ∧ P.underlying t = some (.slice e) ∧ P.cellsOf e = 1
theorem noZeroOk_of {P : Program} {k : Nat} {e t : TypeId} {ps : Array TypeId} (h : (P.funcs[k]?).map (fun fn => (fn.name == "runtime.NumGoroutine", fn.body.isNone, (Extern.findNext fn).isNone, Extern.find fn)) = some (false, true, true, some (Extern.BytealgMakeNoZero.makeNoZero ps #[t])))
    (hu : P.underlying t = some (.slice e)) (hc : P.cellsOf e = 1) : NoZeroOk P k e := by
  obtain ⟨fn, h1, h2, h3, h4, h5⟩ := (extOk_of h).ok
  exact ⟨fn, t, ps, h1, h2, h3, h4, h5, hu, hc⟩
theorem noZero_run {P : Program} {k : Nat} {e : TypeId} (h : NoZeroOk P k e) (n : Int) (h0 : 0 ≤ n) (h1 : n ≤ 2 ^ 47) (w : World) : ∃ (cr : Array Value), n.toNat ≤ cr.size ∧
    (callFunc k #[.int .i64 n]).run P w = .ok (.value (.slice (some ⟨w.heap.size, 0, none⟩) n.toNat cr.size)) (w.drew.drew.alloc (.cells cr e)) := by
  obtain ⟨fn, t, ps, q1, q2, q3, q4, q5, q6, q7⟩ := h.ok
  obtain ⟨m, rfl⟩ : ∃ m : Nat, n = m := ⟨n.toNat, by omega⟩
  obtain ⟨cs, r1, r2, _⟩ := Lib.run_makeNoZero (P := P) w ps t e q6 m (by omega)
  exact ⟨cs, by simpa using r2, callFunc_ext ⟨fn, q1, q2, q3, q4, q5⟩ _ _ _ _ (by simpa using r1)⟩
variable {C : Env}
theorem noZero_ok {k : Nat} {e : TypeId} (h : NoZeroOk C.P k e) (n : Int) (h0 : 0 ≤ n) (h1 : n ≤ 2 ^ 47) (β : Emb) (hp : TH) (w : World) (gd : Good C β hp w) : ∃ v' w' β', (callFunc k #[.int .i64 n]).run C.P w = .ok (.value v') w' ∧
    VRel β' (newSlice hp [] n.toNat n.toNat false e).1 v' ∧ Step C hp.floor β hp.get w β' (newSlice hp [] n.toNat n.toNat false e).2.get w' := by
  obtain ⟨cr, r1, r2⟩ := noZero_run h n h0 h1 w
  obtain ⟨fn, t, ps, q1, q2, q3, q4, q5, q6, q7⟩ := h.ok
  obtain ⟨β', s1, s2⟩ := newSlice_sim (C := C) (f := hp.floor) gd.rel gd.inj gd.free.1 gd.free.2 (el := e) (cs := []) (len := n.toNat) (cap := n.toNat) (fix := false) (cr := cr) (cap' := cr.size) (w' := w.drew.drew.alloc (.cells cr e)) (fz := (0, 0))
    rfl rfl rfl rfl (fun h => by cases h) (fun _ => ⟨r1, by rw [q7]; omega⟩) (by simp) (fun i v hv => by simp at hv) (.inl rfl)
  refine ⟨_, _, β', r2, s2, ?_⟩
  rw [newSlice, TH.get_new]
  exact s1
theorem tpOk_of {t : Tr TFun} {xs : List (Nat × Bare)} {z : Nat × TypeId} {sm : Nat} (hf : Tr.All (FnOk C.P C.G) id t) (hx : ∀ k b, xs.lookup k = some b → ExtOk C.P k b.fn) (hz : NoZeroOk C.P z.1 z.2) (hs : ExtOk C.P sm Extern.AbiNoEscape.same) :
    TpOk C ⟨fun k => t.get k, fun k => (xs.lookup k).map Bare.run, fun k => cond (Nat.beq k z.1) (some z.2) none, Nat.beq sm⟩ where
  fn := fun k f h => Tr.All.get t id hf k f h
  ext := fun k e _ he aas v hp hv hpv ro β h w gd => by
    rw [Option.map_eq_some_iff] at he
    obtain ⟨b, hb, rfl⟩ := he
    exact UDoes.value (callFunc_ext (hx k b hb) aas w w v (Bare.ok hv _ _)) (plain_refl hpv) (Step.refl gd.rel gd.inj)
  noZero := fun k e _ _ hk n h0 h1 β h w gd => by
    have hk2 : k = z.1 ∧ e = z.2 := by
      cases hb : Nat.beq k z.1 with
      | true => simp only [hb, Bool.cond_true, Option.some.injEq] at hk; exact ⟨Nat.eq_of_beq_eq_true hb, hk.symm⟩
      | false => simp only [hb, Bool.cond_false] at hk; cases hk
    obtain ⟨rfl, rfl⟩ := hk2
    exact noZero_ok hz n h0 h1 β h w gd
  same := fun k _ _ _ hk v w => by
    have : sm = k := Nat.eq_of_beq_eq_true hk
    subst this
    exact callFunc_ext hs _ _ _ _ rfl
end Go.Tidy
namespace Go.Tidy
open Go
variable {C : Env} {β : Emb} {w : World}
structure BaseOk (C : Env) (h0 : TH) : Prop where
  B : C.B = h0.get
  wf : WF h0
  floor : h0.floor = h0.next
  G : ∀ g, g ∈ C.G → ∃ x, h0.get g = some x
  plain : ∀ b x, h0.get b = some x → ∃ c el, x = .cells c true false el ∧ c.all plain0 = true
noncomputable def baseEmb (h0 : TH) (β : Emb) : Emb := fun b => match h0.get b with | some _ => β b | none => none
theorem baseEmb_some {h0 : TH} {β : Emb} {b : Nat} {e : Ent} (h : baseEmb h0 β b = some e) : (∃ x, h0.get b = some x) ∧ β b = some e := by
  unfold baseEmb at h
  split at h
  · rename_i x hx; exact ⟨⟨x, hx⟩, h⟩
  · cases h
theorem baseEmb_of {h0 : TH} {β : Emb} {b : Nat} {x : TB} (h : h0.get b = some x) : baseEmb h0 β b = β b := by
  unfold baseEmb; rw [h]
theorem BaseOk.good {h0 h : TH} (hb : BaseOk C h0) (gd : Good C β h w) : Good C (baseEmb h0 β) h0 w := by
  have hin : ∀ b x, h0.get b = some x → h.get b = some x ∧ b < h.floor := fun b x hx => gd.base b x (by rw [hb.B]; exact hx)
  refine ⟨fun b x e hx he => ?_, fun b b' e e' ha ha' he he' hq => ?_, hb.wf, fun b hbn => ?_, fun g hg => ?_, fun g x hx => ?_⟩
  · obtain ⟨_, hbe⟩ := baseEmb_some he
    obtain ⟨c, el, rfl, hp⟩ := hb.plain b x hx
    obtain ⟨cr, fz, q1, q2, q3, q4, q5⟩ := gd.rel b _ e (hin b _ hx).1 hbe
    refine ⟨cr, fz, q1, q2, q3, fun i v hv => ?_, q5⟩
    obtain ⟨v', r1, r2⟩ := q4 i v hv
    have hpv : plain0 v = true := List.all_eq_true.1 hp v (List.mem_of_getElem? hv)
    obtain rfl := plain0_eq hpv r2
    exact ⟨_, r1, plain0_refl hpv⟩
  · obtain ⟨⟨x, hx⟩, hbe⟩ := baseEmb_some he
    obtain ⟨⟨x', hx'⟩, hbe'⟩ := baseEmb_some he'
    have al : ∀ b x, h0.get b = some x → alive h.get b := fun b x hx => by
      obtain ⟨c, el, rfl, _⟩ := hb.plain b x hx
      exact ⟨_, (hin b _ hx).1, by simp⟩
    refine (gd.inj b b' e e' (al b x hx) (al b' x' hx') hbe hbe' hq).imp id fun ⟨⟨y, s1, s2⟩, ⟨y', s3, s4⟩⟩ => ?_
    rw [(hin b x hx).1] at s1
    rw [(hin b' x' hx').1] at s3
    exact ⟨⟨y, by rw [hx]; exact s1, s2⟩, ⟨y', by rw [hx']; exact s3, s4⟩⟩
  · unfold baseEmb
    rw [hb.wf.none hbn]
  · obtain ⟨x, hx⟩ := hb.G g hg
    obtain ⟨e, h1, h2⟩ := gd.glob g hg
    exact ⟨e, by rw [baseEmb_of hx]; exact h1, h2⟩
  · rw [hb.B] at hx
    exact ⟨hx, by rw [hb.floor]; exact hb.wf g x hx⟩
theorem Step.forget {f : Nat} {h0 h : TH} {β0 β' : Emb} {g' : HG} {w' : World} (hb : BaseOk C h0) (gd : Good C β h w) (s : Step C h0.floor β0 h0.get w β' g' w') : Step C f β h.get w β h.get w' := by
  have hk : ∀ r, r < w.heap.size → w'.heap[r]? = w.heap[r]? := fun r hr => s.keep r hr fun b e hf ⟨x, hx, _⟩ _ _ => by
    have := hb.wf b x hx
    rw [hb.floor] at hf
    omega
  refine ⟨Ext.refl β, fun _ _ h => .inl h, fun _ x h => ⟨x, h⟩, fun _ _ _ h => h, fun b x e hx he => ?_, gd.inj, s.os, s.tape, s.output, s.size, fun r hr _ => hk r hr, fun b e hg ⟨x, hx, _⟩ _ => ?_⟩
  · exact (gd.rel b x e hx he).world fun hy => hk _ ((gd.rel b x e hx he).lt hy)
  · rw [hg] at hx; cases hx
theorem ext_of {h0 : TH} (hb : BaseOk C h0) (hmix : C.P.follows .mixedOrders = true) (hC : ∀ m c tc, C.C m c tc ↔ compile c = some tc ∧ ready C.G m tc = true) {tp : TProg} (htp : TpOk C tp)
    {n k : Nat} {fn : TFun} (hk : tp.fn k = some fn) {aas : Array Value} {v : Value} {h' : TH} (hp : aas.toList.all plain = true)
    (hs : callT C.P tp (ev C.P tp n) (.func (.func k) #[] #[]) aas h0 = some (v, h')) (hv : plain v = true) :
    ∀ (ro : Option Nat) (β : Emb) (h : TH) (w : World), Good C β h w → UDoes C (fw ro) 0 h.floor β h.get w ((callFunc k aas).run C.P w) v h.get := by
  intro ro β h w gd
  have hF : fw ro = fw none ∨ ∃ l, fw ro = fw (some l) := by
    cases ro with
    | none => exact .inl rfl
    | some l => exact .inr ⟨l, rfl⟩
  rw [callFunc_enter htp hk]
  have hev := (ev_ok (C := C) trivial hmix htp hC n).1
  have het := ev_tstep (P := C.P) (tp := tp) n
  have gd0 := hb.good gd
  have has : LRel (baseEmb h0 β) aas.toList aas.toList := ⟨rfl, all_refl hp fun _ => plain_refl⟩
  unfold callT at hs
  simp only [hk, Array.empty_append, Array.append_empty] at hs
  have fin : ∀ {a1 : Regs} {x : Exit} {l : List Value} (_ : ev C.P tp n false fn.body (Regs.ofList aas.toList 0 .nil) h0 = some (x, a1, h')) (_ : x = .normal ∨ x = .ret) (_ : resultsT C.P fn.results a1 h' = some l) (_ : one l = v),
      UDoes C (fw ro) 0 h.floor β h.get w (.ok (.enter k aas) w) v h.get := by
    intro a1 x l he hx hl hq
    refine CallsIn.next (h' := h) hF ?_ default default
    refine CallsIn.mono (enter_sim htp hev het hk has he hx hl gd0) fun en w' ⟨v', β', q1, q2, q3⟩ => ?_
    rw [hq] at q2
    obtain rfl := plain_eq hv q2
    exact ⟨_, β, q1, plain_refl hv, Step.forget hb gd q3⟩
  split at hs
  · rename_i a1 h1 he
    rw [Option.map_eq_some_iff] at hs
    obtain ⟨l, hl, heq⟩ := hs
    simp only [Prod.mk.injEq] at heq
    obtain ⟨h1', rfl⟩ := heq
    exact fin he (.inl rfl) hl h1'
  · rename_i a1 h1 he
    rw [Option.map_eq_some_iff] at hs
    obtain ⟨l, hl, heq⟩ := hs
    simp only [Prod.mk.injEq] at heq
    obtain ⟨h1', rfl⟩ := heq
    exact fin he (.inr rfl) hl h1'
  · cases hs
theorem callT_of {P : Program} {tp : TProg} {k n : Nat} {fn : TFun} {args : Array Value} {h h' : TH} {a : Regs} {vs : List Value} (hk : tp.fn k = some fn) (he : ev P tp n false fn.body (Regs.ofList args.toList 0 .nil) h = some (.ret, a, h')) (hr : resultsT P fn.results a h' = some vs) :
    callT P tp (ev P tp n) (.func (.func k) #[] #[]) args h = some (one vs, h') := by
  simp only [callT, hk, Array.empty_append, Array.append_empty, he, hr, Option.map_some]
def TProg.know (tp : TProg) (k : Nat) (e : List Value → Option Value) : TProg :=
  ⟨fun j => cond (Nat.beq j k) none (tp.fn j), fun j => cond (Nat.beq j k) (some e) (tp.ext j), fun j => cond (Nat.beq j k) none (tp.noZero j), fun j => !Nat.beq j k && tp.same j⟩
theorem TpOk.know {h0 : TH} (hb : BaseOk C h0) (hmix : C.P.follows .mixedOrders = true) (hC : ∀ m c tc, C.C m c tc ↔ compile c = some tc ∧ ready C.G m tc = true) {tp : TProg} (htp : TpOk C tp)
    {k : Nat} {fn : TFun} (hk : tp.fn k = some fn) {e : List Value → Option Value} (he : ∀ (aas : Array Value) (v : Value), aas.toList.all plain = true → e aas.toList = some v → plain v = true → ∃ n h', callT C.P tp (ev C.P tp n) (.func (.func k) #[] #[]) aas h0 = some (v, h')) : TpOk C (tp.know k e) where
  fn := fun j f hj => by
    simp only [TProg.know] at hj
    cases hb : Nat.beq j k with
    | true => rw [hb] at hj; cases hj
    | false => rw [hb] at hj; exact htp.fn j f hj
  ext := fun j e' hj hx aas v hp hv hpv ro β h w gd => by
    simp only [TProg.know] at hj hx
    cases hbj : Nat.beq j k with
    | true =>
      rw [hbj] at hx
      obtain rfl := Nat.eq_of_beq_eq_true hbj
      simp only [Bool.cond_true, Option.some.injEq] at hx
      subst hx
      obtain ⟨n, h', hr⟩ := he aas v hp hv hpv
      exact ext_of hb hmix hC htp hk hp hr hpv ro β h w gd
    | false =>
      rw [hbj] at hj hx
      exact htp.ext j e' hj hx aas v hp hv hpv ro β h w gd
  noZero := fun j e' hj hx hn n h0 h1 β h w gd => by
    simp only [TProg.know] at hj hx hn
    cases hbj : Nat.beq j k with
    | true => rw [hbj] at hn; cases hn
    | false => rw [hbj] at hj hx hn; exact htp.noZero j e' hj hx hn n h0 h1 β h w gd
  same := fun j hj hx hn hs v w => by
    simp only [TProg.know] at hj hx hn hs
    cases hbj : Nat.beq j k with
    | true => rw [hbj] at hs; cases hs
    | false => rw [hbj] at hj hx hn hs; exact htp.same j hj hx hn (by simpa using hs) v w
end Go.Tidy
namespace Go.Tidy
open Go Go.Proofs
namespace A11
theorem q0 : Tab.c11 = seqs (part Tab.c11 0 14) (tailC Tab.c11 14) := by kernel_rfl
theorem q2 : tailC Tab.c11 14 = chain (part Tab.c11 14 27) := by kernel_rfl
theorem fn11 : tpQ.fn 11 = some Tab.f11 := by kernel_rfl
theorem run (e1 e2 : TypeId) : ∃ g, callT Tryz.prog tpQ (ev Tryz.prog tpQ 100000) (.func (.func 11) #[] #[]) #[] (h0 e1 e2) = some (.bool true, g) := by
  obtain ⟨a, g, h1, h2⟩ := outOf_some (p1 e1 e2)
  have body : ev Tryz.prog tpQ 100000 false Tab.c11 a0 (h0 e1 e2) = some (.ret, a, g) := by
    rw [q0]
    refine ev_seqs _ _ _ _ _ _ _ _ (p0 e1 e2) ?_
    rw [q2, show 100000 - (part Tab.c11 0 14).length = 99986 by kernel_rfl]
    exact ev_evF _ _ _ _ _ h1
  exact ⟨g, callT_of (vs := [.bool true]) fn11 body h2⟩
end A11
end Go.Tidy
