/- A plain interpreter of the code and what it has to do with the model: part 4. -/
import Derived.Test.YtkaiphobleifgaaGreatDoorTd2
import Derived.Test.YtkaiphobleifgaaGreatDoorTd1
import Derived.Test.YtkaiphobleifgaaGreatDoorTd0
set_option linter.all false
/- unsafe.SliceData, unsafe.String; bytes that a string may share. -/
namespace Go.Tidy
open Go

variable {C : Env} {β : Emb} {g : HG} {w : World}

theorem sd_nil {P : Program} {w : World} (ts : Array TypeId) (ty : TypeId) (n c : Nat) : (Builtin.unsafeSliceData_ ts ty #[.slice none n c]).run P w = .ok (.pointer none) w := rfl
theorem sd_row {P : Program} {w : World} (ts : Array TypeId) (ty : TypeId) (a : Addr) (n c : Nat) (hc : c ≠ 0) : (Builtin.unsafeSliceData_ ts ty #[.slice (some a) n c]).run P w = .ok (.pointer (some a)) w := by
  obtain ⟨k, rfl⟩ : ∃ k, c = k + 1 := ⟨c - 1, by omega⟩
  rfl

theorem sliceData_sim {as as' : Array Value} {ts : Array TypeId} {ty : TypeId} {v : Value} (hs : sliceDataT as = some v) (ha : LRel β as.toList as'.toList) :
    ∃ v', VRel β v v' ∧ ∀ w, (Builtin.unsafeSliceData_ ts ty as').run C.P w = .ok v' w := by
  unfold sliceDataT at hs
  split at hs
  · rename_i l c he
    rw [he] at ha
    obtain ⟨v', r, e1, h1, h2⟩ := ha.uncons
    obtain rfl := nilSlice_inv h1
    have := LRel.of_nil h2
    subst this
    cases hs
    have : as' = #[.slice none l c] := by apply Array.toList_inj.1; simp [e1]
    subst this
    exact ⟨_, .nilPtr, fun w => sd_nil _ _ _ _⟩
  · rename_i b off len cp he
    rw [he] at ha
    obtain ⟨v', r, e1, h1, h2⟩ := ha.uncons
    obtain ⟨hb, hs2⟩ := cond_some hs
    cases hs2
    simp only [Bool.and_eq_true, Nat.blt_eq] at hb
    have := LRel.of_nil h2
    subst this
    rcases slice_inv h1 with ⟨e, c', hen, hcap, rfl⟩ | ⟨h0, _, _⟩
    · have hc : c' ≠ 0 := by
        unfold CapRel at hcap
        split at hcap <;> omega
      have : as' = #[.slice (some ⟨e.blk, e.d + off, none⟩) len c'] := by apply Array.toList_inj.1; simp [e1]
      subst this
      exact ⟨_, .ptr b off e hen, fun w => sd_row _ _ _ _ _ hc⟩
    · omega
  · cases hs

theorem freeze_at {b off n : Nat} {cr : Array Value} {el : TypeId} {lo hi : Nat} (hn : n ≠ 0) (h : w.heap[b]? = some (.cells cr el (lo, hi))) :
    (w.freeze ⟨b, off, none⟩ n).heap[b]? = some (.cells cr el (if lo == hi then (off, off + n) else (min lo off, max hi (off + n)))) := by
  unfold World.freeze
  simp only [hn, if_false]
  rw [Array.getElem?_modify]
  simp [h]
theorem freeze_other {a : Addr} {n r : Nat} (h : r ≠ a.block) : (w.freeze a n).heap[r]? = w.heap[r]? := by
  unfold World.freeze
  split
  · rfl
  · simp only
    rw [Array.getElem?_modify]
    simp [Ne.symm h]
theorem freeze_rest (a : Addr) (n : Nat) : (w.freeze a n).heap.size = w.heap.size ∧ (w.freeze a n).os = w.os ∧ (w.freeze a n).tape = w.tape ∧ (w.freeze a n).output = w.output := by
  unfold World.freeze
  split <;> simp

/-- A row is frozen in part: what is known of it, written or not. -/
theorem freeze_step {f b off n : Nat} {c : List Value} {fix wr wr' : Bool} {el : TypeId} {e : Ent} (rel : HRel C β g w) (inj : Inj β g) (hfb : f ≤ b) (hb : g b = some (.cells c fix wr el)) (he : β b = some e) (hn : n ≠ 0)
    (hwr : wr' = true → wr = true ∧ ∀ cr fz, w.heap[e.blk]? = some (.cells cr el fz) → cr.size ≤ off) : Step C f β g w β (g.set b (.cells c fix wr' el)) (w.freeze ⟨e.blk, off, none⟩ n) := by
  obtain ⟨cr, fz, k1, k2, k3, k4, k5⟩ := rel b _ e hb he
  obtain ⟨lo, hi⟩ := fz
  obtain ⟨r1, r2, r3, r4⟩ := freeze_rest (w := w) ⟨e.blk, off, none⟩ n
  refine Step.put rel inj hfb hb (by simp) he r1 (fun r hr => freeze_other hr) r2 r3 r4 ⟨cr, _, freeze_at hn k1, k2, k3, k4, fun h => ?_⟩
  obtain ⟨h1, h2⟩ := hwr h
  have h3 := h2 cr _ k1
  have h4 := k5 h1
  right
  split
  · exact h3
  · rename_i hne
    simp only [beq_iff_eq] at hne
    simp only at h4 ⊢
    omega

theorem mark_sim {src : TypeId} {b off len cp : Nat} {d : TypeDesc} {e0 : TypeId} {x' : Value} {h h' : TH} {c : List Value} {fix wr : Bool} {el : TypeId} (he0 : elemDesc C.P src = some (e0, d)) (hd : isU8 d = true)
    (hb : h.get b = some (.cells c fix wr el)) (hp : h.put b (.cells c fix wr el) = some h') (hcp : 0 < cp) (hx : VRel β (.slice (some ⟨b, off, none⟩) len cp) x') (rel : HRel C β h.get w) (inj : Inj β h.get) :
    MDoes C β w (convert src src x') (.slice (some ⟨b, off, none⟩) len cp) h h' := by
  obtain ⟨hu, hdd⟩ := elemDesc_some he0
  obtain rfl := isU8_eq hd
  obtain ⟨p1, p2, p3, p4, p5, p6, p7⟩ := TH.put_some hp
  rcases slice_inv hx with ⟨e, c', hen, hcap, rfl⟩ | ⟨_, h0, _⟩
  · obtain ⟨cr, fz, k1, k2, k3, k4, k5⟩ := rel b _ e hb hen
    have hsh := shape_cells k1
    refine ⟨_, w.freeze ⟨e.blk, cr.size, none⟩ 1, β, ?_, hx, ?_⟩
    · simp [convert, rUnder hu, rUnder hdd, markStringish, hsh]
    · rw [p7]
      refine freeze_step rel inj p1 hb hen (by simp) fun hw => ⟨hw, fun cr2 fz2 h2 => ?_⟩
      rw [k1] at h2
      cases h2
      exact Nat.le_refl _
  · omega

theorem loadBytes_run {P : Program} {w : World} (b : Nat) : ∀ (ns : List Int) (off : Nat) (acc : ByteArray), (∀ j v, (ns.map (Value.int .u8))[j]? = some v → w.cell? ⟨b, off + j, none⟩ = some v) →
    (loadBytes ⟨b, off, none⟩ acc ns.length).run P w = .ok (ns.foldl (fun r n => r.push (UInt8.ofNat n.toNat)) acc) w := by
  intro ns
  induction ns with
  | nil => intro off acc _; simp [loadBytes]
  | cons n ns ih =>
    intro off acc h
    have h0 := h 0 (.int .u8 n) rfl
    simp only [Nat.add_zero] at h0
    have := ih (off + 1) (acc.push (UInt8.ofNat n.toNat)) (fun j v hv => by
      have := h (j + 1) v (by simpa using hv)
      rw [show off + 1 + j = off + (j + 1) by omega]; exact this)
    simp [loadBytes, h0, add_mk, this]

theorem unsafeString_none (ts : Array TypeId) (ty : TypeId) (k : IntKind) (n : Int) : Builtin.unsafeString_ ts ty #[.pointer none, .int k n] =
    (do
      let n ← asInt (.int k n)
      let some _ := ts[0]? | stuck "unsafe.String: no argument types"
      if n < 0 then runtimePanic (.error "unsafe.String: len out of range")
      if n > IntKind.i64.max then unsupported (.unsafePointer "String: a length above the largest int")
      if n = 0 then pure (.string .empty)
      else runtimePanic (.error "unsafe.String: ptr is nil and len is not zero")) := rfl
theorem unsafeString_at (ts : Array TypeId) (ty : TypeId) (a : Addr) (k : IntKind) (n : Int) : Builtin.unsafeString_ ts ty #[.pointer (some a), .int k n] =
    (do
      let n ← asInt (.int k n)
      let some pt := ts[0]? | stuck "unsafe.String: no argument types"
      if n < 0 then runtimePanic (.error "unsafe.String: len out of range")
      if n > IntKind.i64.max then unsupported (.unsafePointer "String: a length above the largest int")
      if n = 0 then pure (.string .empty)
      else if ← variablesAt a (← elemOf pt) n.toNat then do
        let s ← loadBytes a .empty n.toNat
        freeze a n.toNat
        pure (.string s)
      else unsupported (.unsafePointer "String: not so many bytes at ptr")) := rfl

theorem unsafeString_sim {as as' : Array Value} {ts : Array TypeId} {ty : TypeId} {v : Value} {h h' : TH} (hs : unsafeStringT C.P ts as h = some (v, h')) (ha : LRel β as.toList as'.toList)
    (rel : HRel C β h.get w) (inj : Inj β h.get) : MDoes C β w (Builtin.unsafeString_ ts ty as') v h h' := by
  unfold unsafeStringT at hs
  split at hs
  · rename_i pt base k n hpt he
    rw [he] at ha
    obtain ⟨x', r, e1, h1, h2⟩ := ha.uncons
    obtain ⟨y', r2, e2, h3, h4⟩ := h2.uncons
    have := LRel.of_nil h4
    subst this
    subst e2
    obtain rfl := int_inv h3
    obtain ⟨hn, hs2⟩ := cond_some hs
    clear hs
    simp only [Bool.and_eq_true, decide_eq_true_eq] at hn
    have hmax : ¬ IntKind.i64.max < n := by have : IntKind.i64.max = 2 ^ 63 - 1 := rfl; omega
    have hneg : ¬ n < 0 := by omega
    rcases cond_cases hs2 with ⟨h0, hs⟩ | ⟨h0, hs⟩
    · have h0 := Nat.eq_of_beq_eq_true h0
      simp only [Option.some.injEq, Prod.mk.injEq] at hs
      obtain ⟨rfl, rfl⟩ := hs
      have hn0 : n = 0 := by omega
      subst hn0
      refine ⟨_, w, β, ?_, .string _, Step.refl rel inj⟩
      have hp : ∃ p, x' = .pointer p := by cases h1 <;> exact ⟨_, rfl⟩
      obtain ⟨p, rfl⟩ := hp
      have : as' = #[.pointer p, .int k 0] := by apply Array.toList_inj.1; simp [e1]
      subst this
      have hz : ¬ (0 : Int) > IntKind.i64.max := hmax
      cases p
      · rw [unsafeString_none]; simp [hpt, hz, asInt, asIntOf]
      · rw [unsafeString_at]; simp [hpt, hz, asInt, asIntOf]
    · have h0 := Nat.ne_of_beq_eq_false h0
      have hn0 : n ≠ 0 := by omega
      clear hs2
      split at hs
      · rename_i b off
        obtain ⟨e, hen, rfl⟩ := ptr_inv h1
        have : as' = #[.pointer (some ⟨e.blk, e.d + off, none⟩), .int k n] := by apply Array.toList_inj.1; simp [e1]
        subst this
        split at hs
        · rename_i t c fix wr el hup hgb
          split at hs
          · rename_i i d hi hd
            obtain ⟨hc, hs2⟩ := cond_some hs
            clear hs
            simp only [Bool.and_eq_true] at hc
            have hel := Nat.eq_of_beq_eq_true hc.1
            subst hel
            have hsz := Nat.eq_of_beq_eq_true hc.2.1
            obtain rfl := isU8_eq hc.2.2
            rw [Option.bind_eq_some_iff] at hs2
            obtain ⟨cs, hcs, hs3⟩ := hs2
            rw [Option.bind_eq_some_iff] at hs3
            obtain ⟨l, hl, hs4⟩ := hs3
            rw [Option.map_eq_some_iff] at hs4
            obtain ⟨h2', hput, heq⟩ := hs4
            simp only [Prod.mk.injEq] at heq
            obtain ⟨rfl, rfl⟩ := heq
            obtain ⟨ns, rfl, rfl⟩ := bytesOf_some hl
            obtain ⟨l', j1, j2, j3⟩ := cellsAt_sim rel rfl hcs hen
            obtain rfl := ints_eq j1
            obtain ⟨cr, fz, k1, k2, k3, k4, k5⟩ := rel b _ e hgb hen
            obtain ⟨p1, p2, p3, p4, p5, p6, p7⟩ := TH.put_some hput
            have hsh := shape_cells k1
            have hlen : ns.length = n.toNat := by simpa using j2
            have hle : off + n.toNat ≤ c.length := by
              unfold cellsAt at hcs
              rw [hgb] at hcs
              have := (cond_some hcs).1
              exact Nat.le_of_ble_eq_true this
            have hcell : C.P.cellsOf el = 1 := by simp [Program.cellsOf, hi, hsz]
            have hv : liesAt C.P C.P.depth el (cr.size / C.P.cellsOf el) (e.d + off) el n.toNat = true := by
              have hd' : C.P.depth = (2 * (C.P.types.size + Made.depth) + 1) + 1 := rfl
              rw [hd']
              simp only [liesAt, rowAt, sameLayout, hd', hcell]
              have : e.d + off + n.toNat ≤ cr.size := by omega
              simp [Nat.mod_one, this]
            have hrun := loadBytes_run (P := C.P) (w := w) e.blk ns (e.d + off) .empty (fun j v hv => j3 j v hv)
            rw [hlen] at hrun
            have hu : C.P.underlying pt = some (.pointer el) := hup
            refine ⟨_, w.freeze ⟨e.blk, e.d + off, none⟩ n.toNat, β, ?_, .string _, ?_⟩
            · have h63 : n ≤ 9223372036854775807 := by omega
              rw [unsafeString_at]; simp [h63, hpt, hmax, hneg, hn0, elemOf, rUnder hu, variablesAt, hsh, hv, hrun, push_all, asInt, asIntOf]
            · rw [p7]
              exact freeze_step rel inj p1 hgb hen (by omega) fun hw => by cases hw
          · cases hs
        · cases hs
      · cases hs
  · cases hs

theorem unsafeString_tstep {P : Program} {as : Array Value} {ts : Array TypeId} {v : Value} {h h' : TH} (hs : unsafeStringT P ts as h = some (v, h')) : TStep h h' := by
  unfold unsafeStringT at hs
  split at hs
  · obtain ⟨hn, hs2⟩ := cond_some hs
    clear hs
    rcases cond_cases hs2 with ⟨h0, hs⟩ | ⟨h0, hs⟩
    · simp only [Option.some.injEq, Prod.mk.injEq] at hs
      obtain ⟨_, rfl⟩ := hs
      exact TStep.refl _
    · clear hs2
      split at hs
      · split at hs
        · rename_i t c fix wr el hup hgb
          split at hs
          · obtain ⟨hc, hs2⟩ := cond_some hs
            rw [Option.bind_eq_some_iff] at hs2
            obtain ⟨cs, hcs, hs3⟩ := hs2
            rw [Option.bind_eq_some_iff] at hs3
            obtain ⟨l, hl, hs4⟩ := hs3
            rw [Option.map_eq_some_iff] at hs4
            obtain ⟨h2', hput, heq⟩ := hs4
            simp only [Prod.mk.injEq] at heq
            obtain ⟨_, rfl⟩ := heq
            exact TStep.put hput hgb
          · cases hs
        · cases hs
      · cases hs
  · cases hs

end Go.Tidy

/- One operation of the plain interpreter, in the model. -/
namespace Go.Tidy
open Go

variable {C : Env} {β : Emb} {g : HG} {w : World} {F : Fence} {n : Nat}

/-- A plain heap that stands for a world. -/
structure Good (C : Env) (β : Emb) (h : TH) (w : World) : Prop where
  rel : HRel C β h.get w
  inj : Inj β h.get
  wf : WF h
  fr : ∀ b, h.next ≤ b → β b = none
  glob : GRel C.G β
  base : Base C h

theorem Good.free {h : TH} (gd : Good C β h w) : h.get h.next = none ∧ β h.next = none := ⟨gd.wf.none (Nat.le_refl _), gd.fr _ (Nat.le_refl _)⟩

theorem Good.step {f : Nat} {β' : Emb} {h h' : TH} {w' : World} (gd : Good C β h w) (s : Step C f β h.get w β' h'.get w') (t : TStep h h') : Good C β' h' w' := by
  refine ⟨s.rel, s.inj, t.wf gd.wf, fun b hb => ?_, gd.glob.mono s.ext, t.base gd.wf gd.base⟩
  cases hbe : β' b with
  | none => rfl
  | some e =>
    rcases s.born b e hbe with h1 | ⟨_, _, x, hx⟩
    · have := gd.fr b (by have := t.next; omega)
      rw [this] at h1
      cases h1
    · have := t.wf gd.wf b x hx
      omega

theorem Good.lock {h : TH} {l : List Nat} (gd : Good C β h w) : Good C β (h.withLock l) w := ⟨gd.rel, gd.inj, gd.wf, gd.fr, gd.glob, gd.base⟩

/-- What an operation of the model comes to, calls and all. -/
def UDoes (C : Env) (F : Fence) (n f : Nat) (β : Emb) (g : HG) (w : World) (r : Result Next) (v : Value) (g' : HG) : Prop :=
  ∀ (o : Oper) (a : Act) (K : Act → World → Prop) (Q : Exit → Act → World → Prop),
    (∀ v' w' β', VRel β' v v' → Step C f β g w β' g' w' → K (a.put o.dst v') w') → o.uponIn F n C.P a K Q r

theorem UDoes.value {f : Nat} {r : Result Next} {v v' : Value} {g' : HG} {w' : World} {β' : Emb} (hr : r = .ok (.value v') w') (hv : VRel β' v v') (s : Step C f β g w β' g' w') : UDoes C F n f β g w r v g' := by
  intro o a K Q hk
  subst hr
  exact hk v' w' β' hv s
theorem UDoes.skip {f : Nat} {r : Result Next} {g' : HG} {w' : World} {β' : Emb} (hr : r = .ok .skip w') (s : Step C f β g w β' g' w') : UDoes C F n f β g w r undef g' := by
  intro o a K Q hk
  subst hr
  exact hk undef w' β' .undef s

theorem MDoes.udoes {s : Sem Value} {v : Value} {h h' : TH} (m : MDoes C β w s v h h') : UDoes C F n h.floor β h.get w ((do pure (Next.value (← s)) : Sem Next).run C.P w) v h'.get := by
  obtain ⟨v', w', β', h1, h2, h3⟩ := m
  exact UDoes.value (by simp [h1]) h2 h3

def CallOk (C : Env) (F : Fence) (n : Nat) (call : Value → Array Value → TH → Option (Value × TH)) : Prop :=
  ∀ fv args h v h', call fv args h = some (v, h') → TStep h h' ∧ ∀ β w fv' args', VRel β fv fv' → LRel β args.toList args'.toList → Good C β h w →
    UDoes C F n h.floor β h.get w ((do let d ← Deferred.ofValue fv' args'; invoke d.target d.args : Sem Next).run C.P w) v h'.get

theorem RDoes.same_get {f : Nat} {s : Sem Value} {v : Value} {h h' : TH} (r : RDoes C f β h.get w s v h h') : ∃ v' w' β', s.run C.P w = .ok v' w' ∧ VRel β' v v' ∧ Step C f β h.get w β' h'.get w' := by
  obtain ⟨v', w', β', g', h1, h2, h3, h4⟩ := r
  refine ⟨v', w', β', h1, h2, ?_⟩
  rcases h4 with ⟨rfl, rfl⟩ | ⟨x, rfl, rfl⟩
  · exact h3
  · rw [TH.get_new]; exact h3

/-- Values alone. -/
theorem early_sim (hz : zerosPlain C.P) {o : TOper} {o' : Oper} (ho : o'.op = o.op) (hty : o'.type = o.type) {ρ ρ' : Operand → Value} {v : Value}
    (hs : fastOp o.op ρ = some v ∨ valueOp C.P o ρ = some v ∨ plainOp C.P o ρ = some v) (hρ : ∀ x, x ∈ o.op.operands → VRel β (ρ x) (ρ' x)) : ∃ v', VRel β v v' ∧ Yield C.P (execOp ρ' o') v' := by
  rcases hs with h | h | h
  · exact fastOp_sim ho h hρ
  · exact valueOp_sim hz ho h hρ
  · exact ⟨v, plainOp_sim ho hty h hρ⟩

theorem stepOp_cases {P : Program} {call : Value → Array Value → TH → Option (Value × TH)} {o : TOper} {ρ : Operand → Value} {v : Value} {h h' : TH} (hs : stepOp P call o ρ h = some (v, h')) :
    heapOp P call o ρ h = some (v, h') ∨ (h' = h ∧ (fastOp o.op ρ = some v ∨ valueOp P o ρ = some v ∨ plainOp P o ρ = some v)) := by
  unfold stepOp at hs
  rcases cond_cases hs with ⟨_, h1⟩ | ⟨_, h1⟩
  · exact .inl h1
  · split at h1
    · rename_i u hu
      simp only [Option.some.injEq, Prod.mk.injEq] at h1
      obtain ⟨rfl, rfl⟩ := h1
      exact .inr ⟨rfl, .inl hu⟩
    · split at h1
      · rename_i u hu
        simp only [Option.some.injEq, Prod.mk.injEq] at h1
        obtain ⟨rfl, rfl⟩ := h1
        exact .inr ⟨rfl, .inr (.inl hu)⟩
      · split at h1
        · rename_i u hu
          simp only [Option.some.injEq, Prod.mk.injEq] at h1
          obtain ⟨rfl, rfl⟩ := h1
          exact .inr ⟨rfl, .inr (.inr hu)⟩
        · exact .inl h1

/-- A conversion of any kind. -/
theorem conv_sim {s d : TypeId} {x x' v : Value} {h h' : TH} (hs : convertT C.P s d x h = some (v, h')) (hx : VRel β x x') (gd : Good C β h w) : TStep h h' ∧ MDoes C β w (convert s d x') v h h' := by
  by_cases hsd : s = d
  · subst hsd
    unfold convertT at hs
    split at hs
    · rename_i k b
      split at hs
      · rename_i d1 k' h1 h2
        obtain ⟨hb, hs2⟩ := cond_some hs
        simp only [Bool.and_eq_true, Bool.not_eq_true'] at hb
        simp only [Option.some.injEq, Prod.mk.injEq] at hs2
        obtain ⟨rfl, rfl⟩ := hs2
        obtain ⟨b', rfl, hb'⟩ := float_inv hx
        have r := nan_conv (f := h.floor) (h := h) h1 h2 (by intro e; subst e; cases k <;> simp [fKindEq] at hb) (nan_rel hb' hb.1) gd.rel gd.inj
        exact ⟨r.tstep, RDoes.toM r⟩
      · cases hs
    · split at hs
      · rename_i e d he hsrc
        obtain ⟨hu, hd⟩ := elemDesc_some he
        rw [hu] at hsrc
        cases hsrc
      · cases hs
    · rename_i base len cp
      rcases cond_cases hs with ⟨hb, hs⟩ | ⟨hb, hs⟩
      · split at hs
        · rename_i e d b off he0 _
          obtain ⟨hc, hs⟩ := cond_some hs
          simp only [Bool.and_eq_true, Nat.blt_eq] at hc
          split at hs
          · rename_i c fix wr el hgb
            rw [Option.map_eq_some_iff] at hs
            obtain ⟨h2, hput, heq⟩ := hs
            simp only [Prod.mk.injEq] at heq
            obtain ⟨rfl, rfl⟩ := heq
            exact ⟨TStep.put hput hgb, mark_sim he0 hc.1 hgb hput hc.2 hx gd.rel gd.inj⟩
          · cases hs
        · cases hs
      · simp at hb
    · obtain ⟨h1, h2⟩ := cond_some hs
      simp only [Option.some.injEq, Prod.mk.injEq] at h2
      obtain ⟨rfl, rfl⟩ := h2
      have r := unsafe_RDoes (f := h.floor) (w := w) h1 hx (fun e he => rfl) gd.rel gd.inj
      exact ⟨r.tstep, RDoes.toM r⟩
    · cases hs
  · have r := convert_all (f := h.floor) (w := w) hsd hs hx (fun _ _ _ _ => rfl) gd.rel gd.inj (.inr gd.free)
    exact ⟨r.tstep, RDoes.toM r⟩

/-- **Operations that touch memory.** -/
theorem heap_sim (hz : zerosPlain C.P) {call : Value → Array Value → TH → Option (Value × TH)} (hcall : CallOk C F n call) {o : TOper} {o' : Oper} (ho : o'.op = o.op) {ρ ρ' : Operand → Value} {v : Value} {h h' : TH}
    (hs : heapOp C.P call o ρ h = some (v, h')) (hρ : ∀ x, x ∈ o.op.operands → VRel β (ρ x) (ρ' x)) (gd : Good C β h w) :
    TStep h h' ∧ UDoes C F n h.floor β h.get w ((execOp ρ' o').run C.P w) v h'.get := by
  obtain ⟨dst, op, ty, gt, locks, idx⟩ := o
  obtain ⟨dst', op', ty', pos, after, guard⟩ := o'
  simp only at ho
  subst ho
  cases hk : kindOf op' with
  | reads xs nw =>
    obtain ⟨s, e1, r⟩ := reads_sim (o' := ⟨dst', op', ty', pos, after, guard⟩) (f := h.floor) (w := w) hz rfl hk hs hρ (fun _ _ _ _ _ _ => rfl) gd.rel gd.inj (.inr gd.free)
    rw [e1]
    exact ⟨r.tstep, (RDoes.toM r).udoes⟩
  | pure =>
    exfalso
    unfold heapOp at hs
    cases op' <;> simp [kindOf] at hk hs
    case convert s d x => cases hb : Nat.beq s d <;> simp [hb] at hk
    case call c =>
      obtain ⟨callee, args, ts⟩ := c
      cases callee with
      | builtin b => cases b <;> simp at hk hs
      | _ => simp at hk
  | any =>
    unfold heapOp at hs
    simp only at hs hk hρ
    cases op' <;> simp only [kindOf, reduceCtorEq] at hk
    case convert s d x =>
      obtain ⟨t, m⟩ := conv_sim hs (hρ x (by simp [Op.operands])) gd
      exact ⟨t, m.udoes⟩
    case store t x y =>
      simp only at hs
      rw [Option.map_eq_some_iff] at hs
      obtain ⟨h2, hp, heq⟩ := hs
      simp only [Prod.mk.injEq] at heq
      obtain ⟨rfl, rfl⟩ := heq
      obtain ⟨w', q1, q2⟩ := storeT_sim gd.rel gd.inj hp (hρ x (by simp [Op.operands])) (hρ y (by simp [Op.operands]))
      exact ⟨storeT_tstep hp, UDoes.skip (by simp [execOp, q1]) q2⟩
    case range t x =>
      have r := range_RDoes (f := h.floor) hs (hρ x (by simp [Op.operands])) gd.rel gd.inj gd.free.1 gd.free.2
      exact ⟨r.tstep, (RDoes.toM r).udoes⟩
    case next x b =>
      exact ⟨next_tstep hs, (next_sim hs (hρ x (by simp [Op.operands])) gd.rel gd.inj).udoes⟩
    case call c =>
      obtain ⟨callee, args, ts⟩ := c
      have hargs : LRel β (args.map ρ).toList (args.map ρ').toList := map_rel fun x hx => hρ x (by simp [Op.operands, Call.operands, hx])
      cases callee with
      | invoke recv name => simp at hs
      | value fv =>
        simp only at hs
        obtain ⟨t, u⟩ := hcall _ _ _ _ _ hs
        exact ⟨t, u β w _ _ (hρ fv (by simp [Op.operands, Call.operands])) hargs gd⟩
      | builtin b =>
        cases b <;> simp only at hs hk
        case append => exact ⟨append_tstep hs, (append_sim hz hs hargs gd.rel gd.inj gd.wf gd.free.2).udoes⟩
        case copy => exact ⟨copy_tstep hs, (copy_sim hs hargs gd.rel gd.inj).udoes⟩
        case cap =>
          rw [Option.map_eq_some_iff] at hs
          obtain ⟨u, hc, heq⟩ := hs
          simp only [Prod.mk.injEq] at heq
          obtain ⟨rfl, rfl⟩ := heq
          obtain ⟨q1, q2⟩ := cap_sim (ty := ty') hc hargs gd.rel
          exact ⟨TStep.refl h, UDoes.value (v' := u) (by simp [execOp, resolve, invoke, builtin, q2]) q1 (Step.refl gd.rel gd.inj)⟩
        case clear => exact ⟨clear_tstep hs, (clear_sim hz hs hargs gd.rel gd.inj).udoes⟩
        case unsafeSliceData =>
          rw [Option.map_eq_some_iff] at hs
          obtain ⟨u, hc, heq⟩ := hs
          simp only [Prod.mk.injEq] at heq
          obtain ⟨rfl, rfl⟩ := heq
          obtain ⟨v', q1, q2⟩ := sliceData_sim (C := C) (ts := ts) (ty := ty') hc hargs
          exact ⟨TStep.refl h, UDoes.value (v' := v') (by simp [execOp, resolve, invoke, builtin, q2]) q1 (Step.refl gd.rel gd.inj)⟩
        case unsafeString => exact ⟨unsafeString_tstep hs, (unsafeString_sim hs hargs gd.rel gd.inj).udoes⟩
        all_goals cases hs
    all_goals cases hs

theorem step_sim (hz : zerosPlain C.P) {call : Value → Array Value → TH → Option (Value × TH)} (hcall : CallOk C F n call) {o : TOper} {o' : Oper} (ho : o'.op = o.op) (hty : o'.type = o.type) {ρ ρ' : Operand → Value} {v : Value} {h h' : TH}
    (hs : stepOp C.P call o ρ h = some (v, h')) (hρ : ∀ x, x ∈ o.op.operands → VRel β (ρ x) (ρ' x)) (gd : Good C β h w) :
    TStep h h' ∧ UDoes C F n h.floor β h.get w ((execOp ρ' o').run C.P w) v h'.get := by
  rcases stepOp_cases hs with h1 | ⟨rfl, h1⟩
  · exact heap_sim hz hcall ho h1 hρ gd
  · obtain ⟨v', q1, q2⟩ := early_sim hz ho hty h1 hρ
    exact ⟨TStep.refl _, UDoes.value (q2 w) q1 (Step.refl gd.rel gd.inj)⟩

end Go.Tidy

/- Regions that keep to the order of their text. -/
namespace Go.Tidy
open Go

/-! ### Code that is ready -/
def opndOk (G : List Nat) : Operand → Bool
  | .tmp _ => true
  | .const v => plain v
  | .global g => G.contains g
  | .func _ => true
def dstOk (m : Nat) : Option Tmp → Bool
  | some d => Nat.blt d m
  | none => true
def opReady (G : List Nat) (m : Nat) (o : TOper) : Bool := dstOk m o.dst && o.op.operands.toList.all (opndOk G)
def ready (G : List Nat) (m : Nat) : TCode → Bool
  | .skip | .exit _ | .ret | .bad => true
  | .reg ops => ops.all (opReady G m)
  | .seq a b => ready G m a && ready G m b
  | .cond c a b => opndOk G c && (ready G m a && ready G m b)
  | .block _ a | .loop a => ready G m a
  | .rangeFunc f ps ta tb => opndOk G f && (ps.toList.all (fun d => Nat.blt d m) && (ready G m ta && ready G m tb))

variable {C : Env} {β : Emb} {g : HG} {w : World} {F : Fence} {n : Nat} {G : List Nat}

theorem eval_rel (hG : GRel G β) {x : Operand} (ok : opndOk G x = true) {a : Regs} {l : Array Value} {D : List Deferred} (ha : ∀ t, x = .tmp t → VRel β (a.at_ t) (l.getD t undef)) : VRel β (a.eval x) ((⟨l, D⟩ : Act).eval x) := by
  cases x with
  | tmp t => exact ha t rfl
  | const v => exact plain_refl ok
  | global g =>
    obtain ⟨e, h1, h2, h3⟩ := hG g (by simpa [opndOk] using ok)
    have := VRel.ptr (β := β) g 0 e h1
    rw [h2, h3] at this
    exact this
  | func f => exact .func _ _ _ _ _ rfl (fun i v v' h => by simp at h) rfl (fun i v v' h => by simp at h)

theorem Regs.at_set (a : Regs) (d : Tmp) (v : Value) (t : Tmp) : Regs.at_ (Tr.set a d v) t = if t = d then v else a.at_ t := by
  unfold Regs.at_
  rw [Tr.get_set]
  by_cases h : t = d <;> simp [h]

theorem ARel.put {m : Nat} {a : Regs} {l : Array Value} (ha : ARel β m a l) {d : Option Tmp} (hd : dstOk m d = true) {v v' : Value} (hv : VRel β v v') {D : List Deferred} :
    ∃ l', (⟨l, D⟩ : Act).put d v' = ⟨l', D⟩ ∧ ARel β m (a.put d v) l' := by
  cases d with
  | none => exact ⟨l, rfl, ha⟩
  | some d =>
    refine ⟨l.setIfInBounds d v', rfl, by simpa using ha.1, fun t => ?_⟩
    simp only [Regs.put, Regs.at_set]
    have hlt : d < l.size := Nat.lt_of_lt_of_le (by simpa [dstOk] using hd) ha.1
    by_cases h : t = d
    · subst h
      simp [hlt, hv]
    · have := ha.2 t
      simp only [h, if_false]
      rw [Array.getD_eq_getD_getElem?, Array.getElem?_setIfInBounds] at *
      simpa [Ne.symm h] using this

theorem bool_rel {v v' : Value} (h : VRel β v v') : (∀ b, v = .bool b ↔ v' = .bool b) := by
  intro b
  constructor
  · intro e; subst e; exact bool_inv h
  · intro e; subst e; cases h; rfl

/-- A guard is met in both. -/
theorem wanted_rel {opa : Array Oper} {o : Oper} {gt : Option (Tmp × Bool)} (hgt : gtOf opa o = some gt) {a : Regs} {l : Array Value} (ha : ∀ t q, gt = some (t, q) → VRel β (a.at_ t) (l.getD t undef)) :
    Region.wanted o (yielded opa l) = wantT gt a := by
  unfold gtOf at hgt
  split at hgt
  · rename_i hg
    cases hgt
    simp [Region.wanted, hg, wantT]
  · rename_i gg want hg
    rw [Option.map_eq_some_iff] at hgt
    obtain ⟨t, ht, rfl⟩ := hgt
    have hr := ha t want rfl
    have hy : yielded opa l gg = (match l[t]? with | some (.bool b) => some b | _ => none) := by
      simp only [yielded, ht, Option.bind_some]
      cases l[t]? with
      | none => rfl
      | some v => cases v <;> rfl
    simp only [Region.wanted, hg, wantT, hy]
    rw [Array.getD_eq_getD_getElem?] at hr
    cases hl : l[t]? with
    | none =>
      rw [hl] at hr
      simp only [Option.getD_none] at hr
      have : ∀ b, a.at_ t ≠ .bool b := fun b e => by rw [e] at hr; cases hr
      cases hav : a.at_ t <;> simp_all
    | some v' =>
      rw [hl] at hr
      simp only [Option.getD_some] at hr
      cases hav : a.at_ t with
      | bool b =>
        rw [hav] at hr
        have := bool_inv hr
        subst this
        cases b <;> cases want <;> rfl
      | _ =>
        rw [hav] at hr
        cases v' with
        | bool b => cases hr
        | _ => rfl

/-- The operations of a list, by their numbers in the region. -/
inductive OpsFor (opa : Array Oper) : List Nat → List TOper → Prop
  | nil : OpsFor opa [] []
  | cons (i : Nat) (o : Oper) (t : TOper) (is : List Nat) (ts : List TOper) (h1 : opa[i]? = some o) (h2 : t.op = o.op) (h3 : t.type = o.type) (h4 : t.dst = o.dst) (h5 : gtOf opa o = some t.gt) (h6 : opOk o.op = true)
      (hr : OpsFor opa is ts) : OpsFor opa (i :: is) (t :: ts)

structure Wide (F : Fence) : Prop where
  fn : ∀ f, F.fn f
  depth : F.depth = none

theorem semAt_ok {o : Oper} (h : opOk o.op = true) (ro : Option Nat) (ρ : Operand → Value) : Oper.semAt ro ρ o = execOp ρ o :=
  Oper.semAt_eq ro ρ o fun c e => by rw [e] at h; cases h

theorem TStep.unlock {h h' : TH} {l : List Nat} (t : TStep (h.withLock (l ++ h.lock)) h') : TStep h (h'.withLock h.lock) :=
  ⟨t.next, t.floor, rfl, t.dom, t.stay, fun b hb hn => t.locked b (List.mem_append_right _ hb) hn, t.low⟩

theorem lockOf_app (ls : List Operand) (ρ : Operand → Value) : ∀ l, lockOf ls ρ l = lockOf ls ρ [] ++ l := by
  induction ls with
  | nil => intro l; rfl
  | cons x r ih =>
    intro l
    simp only [lockOf]
    split
    · rw [ih l]; rfl
    · exact ih l

/-- One step of the plain interpreter. -/
def stepL (stp : TOper → (Operand → Value) → TH → Option (Value × TH)) (o : TOper) (a : Regs) (h : TH) : Option (Value × TH) :=
  match o.locks with
  | [] => stp o a.eval h
  | _ :: _ => (stp o a.eval (h.withLock (lockOf o.locks a.eval h.lock))).map fun (v, h') => (v, h'.withLock h.lock)

theorem evOps_cons (stp : TOper → (Operand → Value) → TH → Option (Value × TH)) (o : TOper) (rest : List TOper) (a : Regs) (h : TH) :
    evOps stp (o :: rest) a h = cond (wantT o.gt a) ((stepL stp o a h).bind fun (v, h') => evOps stp rest (a.put o.dst v) h') (evOps stp rest (a.put o.dst undef) h) := by
  rw [evOps, stepL]
  cases hl : o.locks with
  | nil => cases stp o a.eval h <;> rfl
  | cons x r => cases stp o a.eval (h.withLock (lockOf (x :: r) a.eval h.lock)) <;> rfl

theorem stepL_sim (hz : zerosPlain C.P) {call : Value → Array Value → TH → Option (Value × TH)} (hcall : CallOk C F n call) {o : TOper} {o' : Oper} (ho : o'.op = o.op) (hty : o'.type = o.type) {a : Regs} {ρ' : Operand → Value} {v : Value} {h h' : TH}
    (hs : stepL (stepOp C.P call) o a h = some (v, h')) (hρ : ∀ x, x ∈ o.op.operands → VRel β (a.eval x) (ρ' x)) (gd : Good C β h w) :
    TStep h h' ∧ UDoes C F n h.floor β h.get w ((execOp ρ' o').run C.P w) v h'.get := by
  unfold stepL at hs
  split at hs
  · exact step_sim hz hcall ho hty hs hρ gd
  · rw [Option.map_eq_some_iff] at hs
    obtain ⟨⟨u, h2⟩, hs, heq⟩ := hs
    simp only [Prod.mk.injEq] at heq
    obtain ⟨rfl, rfl⟩ := heq
    obtain ⟨t, u⟩ := step_sim hz hcall ho hty hs hρ gd.lock
    rw [lockOf_app] at t
    exact ⟨t.unlock, u⟩

theorem stepL_tstep {P : Program} {call : Value → Array Value → TH → Option (Value × TH)} {o : TOper} {a : Regs} {v : Value} {h h' : TH}
    (hstep : ∀ ρ h v h', stepOp P call o ρ h = some (v, h') → TStep h h') (hs : stepL (stepOp P call) o a h = some (v, h')) : TStep h h' ∧ ∀ b, b ∈ lockOf o.locks a.eval [] → b < h.next → h'.get b = h.get b := by
  unfold stepL at hs
  split at hs
  · rename_i hl; exact ⟨hstep _ _ _ _ hs, fun b hb => by rw [hl] at hb; simp [lockOf] at hb⟩
  · rw [Option.map_eq_some_iff] at hs
    obtain ⟨⟨u, h2⟩, hs, heq⟩ := hs
    simp only [Prod.mk.injEq] at heq
    obtain ⟨rfl, rfl⟩ := heq
    have t := hstep _ _ _ _ hs
    rw [lockOf_app] at t
    exact ⟨t.unlock, fun b hb hn => t.locked b (List.mem_append_left _ hb) hn⟩

theorem evOps_sim (hz : zerosPlain C.P) (hF : Wide F) {call : Value → Array Value → TH → Option (Value × TH)} (hcall : CallOk C F n call) {opa : Array Oper} {m : Nat} {D : List Deferred} {Q : Exit → Act → World → Prop} :
    ∀ {is : List Nat} {ops : List TOper}, OpsFor opa is ops → ops.all (opReady C.G m) = true → ∀ {a a' : Regs} {h h' : TH}, evOps (stepOp C.P call) ops a h = some (a', h') →
      ∀ {β : Emb} {w : World} {l : Array Value}, ARel β m a l → Good C β h w →
      (∀ l' w' β', ARel β' m a' l' → Step C h.floor β h.get w β' h'.get w' → Good C β' h' w' → Q .normal ⟨l', D⟩ w') → wpOpsIn F n C.P opa Q is ⟨l, D⟩ w := by
  intro is ops hops
  induction hops with
  | nil =>
    intro _ a a' h h' hs β w l ha gd hQ
    simp only [evOps, Option.some.injEq, Prod.mk.injEq] at hs
    obtain ⟨rfl, rfl⟩ := hs
    exact hQ l w β ha (Step.refl gd.rel gd.inj) gd
  | cons i o t is ts h1 h2 h3 h4 h5 h6 hr ih =>
    intro hrdy a a' h h' hs β w l ha gd hQ
    simp only [List.all_cons, Bool.and_eq_true] at hrdy
    obtain ⟨hr1, hr2⟩ := hrdy
    simp only [opReady, Bool.and_eq_true] at hr1
    rw [evOps_cons] at hs
    simp only [wpOpsIn, h1]
    rw [wanted_rel h5 (fun t q _ => ha.2 t)]
    rcases cond_cases hs with ⟨hw, hs⟩ | ⟨hw, hs⟩
    · simp only [hw, if_true]
      rw [Option.bind_eq_some_iff] at hs
      obtain ⟨⟨v, h1'⟩, hst, hs⟩ := hs
      have hρ : ∀ x, x ∈ t.op.operands → VRel β (a.eval x) ((⟨l, D⟩ : Act).eval x) := fun x hx =>
        eval_rel gd.glob (List.all_eq_true.1 hr1.2 x (by simpa using hx)) (fun t _ => ha.2 t)
      obtain ⟨ts1, u⟩ := stepL_sim hz hcall h2.symm h3.symm hst hρ gd
      refine ⟨fun f _ => hF.fn f, ?_⟩
      rw [semAt_ok h6]
      refine u o ⟨l, D⟩ _ Q fun v' w' β' hv s => ?_
      obtain ⟨l', e1, ha'⟩ := (ha.mono s.ext).put (d := o.dst) (h4 ▸ hr1.1) hv (D := D)
      rw [e1]
      rw [← h4] at ha'
      refine ih hr2 hs ha' (gd.step s ts1) fun l2 w2 β2 q1 q2 q3 => ?_
      exact hQ l2 w2 β2 q1 (s.trans (by rw [← ts1.floor]; exact q2)) q3
    · simp only [hw, Bool.false_eq_true, if_false]
      refine ⟨fun f _ => hF.fn f, ?_⟩
      obtain ⟨l', e1, ha'⟩ := ha.put (d := o.dst) (h4 ▸ hr1.1) VRel.undef (D := D)
      rw [e1]
      rw [← h4] at ha'
      exact ih hr2 hs ha' gd hQ

end Go.Tidy

/- What an operation leaves of the plain heap, by its kind. -/
namespace Go.Tidy
open Go

theorem heapOp_pure {P : Program} {call : Value → Array Value → TH → Option (Value × TH)} {o : TOper} {ρ : Operand → Value} {v : Value} {h h' : TH} (hk : kindOf o.op = .pure) (hs : heapOp P call o ρ h = some (v, h')) : False := by
  obtain ⟨dst, op, ty, gt, locks, idx⟩ := o
  simp only at hk
  unfold heapOp at hs
  cases op <;> simp [kindOf] at hk hs
  case convert s d x => cases hb : Nat.beq s d <;> simp [hb] at hk
  case call c =>
    obtain ⟨callee, args, ts⟩ := c
    cases callee with
    | builtin b => cases b <;> simp at hk hs
    | _ => simp at hk

theorem cellsAt_get {h : TH} {b off n : Nat} {l : List Value} (hc : cellsAt h b off n = some l) : ∃ y, h.get b = some y := by
  unfold cellsAt at hc
  split at hc
  · rename_i hg; exact ⟨_, hg⟩
  · cases hc

theorem loadT_get {P : Program} {t : TypeId} {x v : Value} {h : TH} (hs : loadT P t x h = some v) : ∀ b, blockOf x = some b → ∃ y, h.get b = some y := by
  intro b hb
  unfold loadT at hs
  split at hs
  · simp only [blockOf, Option.some.injEq] at hb
    subst hb
    rcases cond_cases hs with ⟨_, h1⟩ | ⟨_, h1⟩
    · rw [Option.map_eq_some_iff] at h1; obtain ⟨l, h1, _⟩ := h1; exact cellsAt_get h1
    · rw [Option.bind_eq_some_iff] at h1; obtain ⟨l, h1, _⟩ := h1; exact cellsAt_get h1
  · cases hs

theorem sliceT_get {P : Program} {t : TypeId} {x v : Value} {lo hi mx : Option Value} {h : TH} (hs : sliceT P t x lo hi mx h = some v) : ∀ b, blockOf x = some b → ∃ y, h.get b = some y := by
  intro b hb
  unfold sliceT at hs
  split at hs
  · obtain ⟨_, h1⟩ := cond_some hs
    rw [Option.bind_eq_some_iff] at h1
    obtain ⟨⟨l, hh, m⟩, _, h1⟩ := h1
    rw [Option.bind_eq_some_iff] at h1
    obtain ⟨i, _, h1⟩ := h1
    split at h1
    · simp [blockOf] at hb
    · simp only [blockOf, Option.some.injEq] at hb
      subst hb
      obtain ⟨h2, _⟩ := cond_some h1
      unfold elemFits at h2
      split at h2
      · rename_i hg; exact ⟨_, hg⟩
      · cases h2
    · cases h1
  · rw [Option.bind_eq_some_iff] at hs
    obtain ⟨⟨l, hh, m⟩, _, h1⟩ := hs
    rw [Option.bind_eq_some_iff] at h1
    obtain ⟨i, _, h1⟩ := h1
    simp only [blockOf, Option.some.injEq] at hb
    subst hb
    split at h1
    · rename_i hg; exact ⟨_, hg⟩
    · cases h1
  · cases hs

theorem pointsAt_get {P : Program} {t : TypeId} {h : TH} {b off : Nat} (hp : pointsAt P t h b off = true) : ∃ y, h.get b = some y := by
  obtain ⟨c, wr, i, h1, _⟩ := pointsAt_some hp
  exact ⟨_, h1⟩

/-- A conversion between types that are not the same. -/
theorem convert_shape {P : Program} {s d : TypeId} (hne : s ≠ d) {x v : Value} {h h' : TH} (hs : convertT P s d x h = some (v, h')) :
    (h' = h ∨ ((∃ y, h' = h.new y) ∧ blockOf v = some h.next)) ∧ ∀ b, blockOf x = some b → ∃ y, h.get b = some y := by
  unfold convertT at hs
  split at hs
  · split at hs
    · obtain ⟨_, h1⟩ := cond_some hs
      simp only [Option.some.injEq, Prod.mk.injEq] at h1
      obtain ⟨rfl, rfl⟩ := h1
      exact ⟨.inl rfl, fun b hb => by simp [blockOf] at hb⟩
    · cases hs
  · split at hs
    · obtain ⟨_, h1⟩ := cond_some hs
      simp only [newSlice, Option.some.injEq, Prod.mk.injEq] at h1
      obtain ⟨rfl, rfl⟩ := h1
      exact ⟨.inr ⟨⟨_, rfl⟩, rfl⟩, fun b hb => by simp [blockOf] at hb⟩
    · cases hs
  · rename_i base len cp
    rcases cond_cases hs with ⟨hb, _⟩ | ⟨_, h1⟩
    · exact absurd (Nat.eq_of_beq_eq_true hb) hne
    · split at h1
      · obtain ⟨_, h2⟩ := cond_some h1
        split at h2
        · simp only [Option.some.injEq, Prod.mk.injEq] at h2
          obtain ⟨rfl, rfl⟩ := h2
          exact ⟨.inl rfl, fun b hb => by simp [blockOf] at hb⟩
        · rw [Option.bind_eq_some_iff] at h2
          obtain ⟨cs, hcs, h2⟩ := h2
          rw [Option.map_eq_some_iff] at h2
          obtain ⟨l, _, heq⟩ := h2
          simp only [Prod.mk.injEq] at heq
          obtain ⟨rfl, rfl⟩ := heq
          refine ⟨.inl rfl, fun b hb => ?_⟩
          simp only [blockOf, Option.some.injEq] at hb
          subst hb
          exact cellsAt_get hcs
        · cases h2
      · cases h1
  · obtain ⟨h1, h2⟩ := cond_some hs
    simp only [Option.some.injEq, Prod.mk.injEq] at h2
    obtain ⟨rfl, rfl⟩ := h2
    refine ⟨.inl rfl, fun b hb => ?_⟩
    simp only [blockOf, Option.some.injEq] at hb
    subst hb
    unfold unsafeConv at h1
    split at h1
    · exact pointsAt_get h1
    · exact pointsAt_get h1
    · cases h1
  · cases hs

theorem buildSlice_shape {P : Program} {t : TypeId} {len : Nat} {ps : List (Nat × Value)} {h h' : TH} {v : Value} (hs : buildSliceT P t len ps h = some (v, h')) : (∃ y, h' = h.new y) ∧ blockOf v = some h.next := by
  unfold buildSliceT at hs
  split at hs
  · split at hs
    · obtain ⟨_, h1⟩ := cond_some hs
      rw [Option.map_eq_some_iff] at h1
      obtain ⟨cs, _, heq⟩ := h1
      simp only [newSlice, Prod.mk.injEq] at heq
      obtain ⟨rfl, rfl⟩ := heq
      exact ⟨⟨_, rfl⟩, rfl⟩
    · cases hs
  · cases hs
theorem makeSlice_shape {P : Program} {t : TypeId} {l c : Value} {h h' : TH} {v : Value} (hs : makeSliceT P t l c h = some (v, h')) : (∃ y, h' = h.new y) ∧ blockOf v = some h.next := by
  unfold makeSliceT at hs
  split at hs
  · split at hs
    · obtain ⟨_, h1⟩ := cond_some hs
      simp only [newSlice, Option.some.injEq, Prod.mk.injEq] at h1
      obtain ⟨rfl, rfl⟩ := h1
      exact ⟨⟨_, rfl⟩, rfl⟩
    · cases hs
  · cases hs

theorem heapOp_reads {P : Program} {call : Value → Array Value → TH → Option (Value × TH)} {o : TOper} {xs : List Operand} {nw : Bool} {ρ : Operand → Value} {v : Value} {h h' : TH} (hk : kindOf o.op = .reads xs nw) (hs : heapOp P call o ρ h = some (v, h')) :
    (h' = h ∨ ((∃ y, h' = h.new y) ∧ blockOf v = some h.next ∧ nw = true)) ∧ ∀ x b, x ∈ xs → blockOf (ρ x) = some b → ∃ y, h.get b = some y := by
  obtain ⟨dst, op, ty, gt, locks, idx⟩ := o
  simp only at hk
  unfold heapOp at hs
  cases op <;> simp only [kindOf, reduceCtorEq, Kind.reads.injEq] at hk
  case alloc t =>
    simp only at hs
    rw [Option.map_eq_some_iff] at hs
    obtain ⟨cs, _, heq⟩ := hs
    simp only [allocV, Prod.mk.injEq] at heq
    obtain ⟨rfl, rfl⟩ := heq
    obtain ⟨rfl, rfl⟩ := hk
    exact ⟨.inr ⟨⟨_, rfl⟩, rfl, rfl⟩, fun x b hx => by cases hx⟩
  case box t x =>
    simp only [allocV, Option.some.injEq, Prod.mk.injEq] at hs
    obtain ⟨rfl, rfl⟩ := hs
    obtain ⟨rfl, rfl⟩ := hk
    exact ⟨.inr ⟨⟨_, rfl⟩, rfl, rfl⟩, fun x b hx => by cases hx⟩
  case buildSlice t n ps =>
    obtain ⟨rfl, rfl⟩ := hk
    obtain ⟨h1, h2⟩ := buildSlice_shape hs
    exact ⟨.inr ⟨h1, h2, rfl⟩, fun x b hx => by cases hx⟩
  case makeSlice t l c =>
    obtain ⟨rfl, rfl⟩ := hk
    obtain ⟨h1, h2⟩ := makeSlice_shape hs
    exact ⟨.inr ⟨h1, h2, rfl⟩, fun x b hx => by cases hx⟩
  case load t x =>
    obtain ⟨rfl, rfl⟩ := hk
    simp only at hs
    rw [Option.map_eq_some_iff] at hs
    obtain ⟨u, hl, heq⟩ := hs
    simp only [Prod.mk.injEq] at heq
    obtain ⟨rfl, rfl⟩ := heq
    refine ⟨.inl rfl, fun y b hy hb => ?_⟩
    simp only [List.mem_singleton] at hy
    subst hy
    exact loadT_get hl b hb
  case slice t x lo hi mx =>
    obtain ⟨rfl, rfl⟩ := hk
    simp only at hs
    rw [Option.map_eq_some_iff] at hs
    obtain ⟨u, hl, heq⟩ := hs
    simp only [Prod.mk.injEq] at heq
    obtain ⟨rfl, rfl⟩ := heq
    refine ⟨.inl rfl, fun y b hy hb => ?_⟩
    simp only [List.mem_singleton] at hy
    subst hy
    exact sliceT_get hl b hb
  case convert s d x =>
    rcases cond_cases hk with ⟨_, hk⟩ | ⟨hne, hk⟩
    · cases hk
    · simp only [Kind.reads.injEq] at hk
      obtain ⟨rfl, rfl⟩ := hk
      obtain ⟨h1, h2⟩ := convert_shape (Nat.ne_of_beq_eq_false hne) hs
      refine ⟨h1.imp id fun ⟨p, q⟩ => ⟨p, q, rfl⟩, fun y b hy hb => ?_⟩
      simp only [List.mem_singleton] at hy
      subst hy
      exact h2 b hb
  case call c =>
    obtain ⟨callee, args, ts⟩ := c
    cases callee with
    | builtin b => cases b <;> simp at hk
    | _ => simp at hk

theorem convert_tstep {P : Program} {s d : TypeId} {x v : Value} {h h' : TH} (hs : convertT P s d x h = some (v, h')) : TStep h h' := by
  unfold convertT at hs
  split at hs
  · split at hs
    · obtain ⟨_, h1⟩ := cond_some hs
      simp only [Option.some.injEq, Prod.mk.injEq] at h1
      obtain ⟨rfl, rfl⟩ := h1
      exact TStep.refl _
    · cases hs
  · split at hs
    · obtain ⟨_, h1⟩ := cond_some hs
      simp only [newSlice, Option.some.injEq, Prod.mk.injEq] at h1
      obtain ⟨_, rfl⟩ := h1
      exact TStep.new _ _
    · cases hs
  · rcases cond_cases hs with ⟨hb, hs⟩ | ⟨hb, hs⟩
    · split at hs
      · obtain ⟨_, hs⟩ := cond_some hs
        split at hs
        · rename_i hgb
          rw [Option.map_eq_some_iff] at hs
          obtain ⟨h2, hput, heq⟩ := hs
          simp only [Prod.mk.injEq] at heq
          obtain ⟨_, rfl⟩ := heq
          exact TStep.put hput hgb
        · cases hs
      · cases hs
    · split at hs
      · obtain ⟨_, hs⟩ := cond_some hs
        split at hs
        · simp only [Option.some.injEq, Prod.mk.injEq] at hs
          obtain ⟨_, rfl⟩ := hs
          exact TStep.refl _
        · rw [Option.bind_eq_some_iff] at hs
          obtain ⟨_, _, hs⟩ := hs
          rw [Option.map_eq_some_iff] at hs
          obtain ⟨_, _, heq⟩ := hs
          simp only [Prod.mk.injEq] at heq
          obtain ⟨_, rfl⟩ := heq
          exact TStep.refl _
        · cases hs
      · cases hs
  · obtain ⟨_, h2⟩ := cond_some hs
    simp only [Option.some.injEq, Prod.mk.injEq] at h2
    obtain ⟨_, rfl⟩ := h2
    exact TStep.refl _
  · cases hs

theorem heapOp_tstep {P : Program} {call : Value → Array Value → TH → Option (Value × TH)} (hcall : ∀ fv args h v h', call fv args h = some (v, h') → TStep h h') {o : TOper} {ρ : Operand → Value} {v : Value} {h h' : TH}
    (hs : heapOp P call o ρ h = some (v, h')) : TStep h h' := by
  cases hk : kindOf o.op with
  | pure => exact (heapOp_pure hk hs).elim
  | reads xs nw =>
    rcases (heapOp_reads hk hs).1 with rfl | ⟨⟨y, rfl⟩, _⟩
    · exact TStep.refl _
    · exact TStep.new _ _
  | any =>
    obtain ⟨dst, op, ty, gt, locks, idx⟩ := o
    unfold heapOp at hs
    simp only at hs hk
    cases op <;> simp only [kindOf, reduceCtorEq] at hk
    case convert s d x =>
      exact convert_tstep hs
    case store t x y =>
      simp only at hs
      rw [Option.map_eq_some_iff] at hs
      obtain ⟨h2, hp, heq⟩ := hs
      simp only [Prod.mk.injEq] at heq
      obtain ⟨_, rfl⟩ := heq
      exact storeT_tstep hp
    case range t x =>
      unfold rangeT at hs
      simp only at hs
      split at hs
      · simp only [Option.some.injEq, Prod.mk.injEq] at hs
        obtain ⟨_, rfl⟩ := hs
        exact TStep.new _ _
      · cases hs
    case next x b => exact next_tstep hs
    case call c =>
      obtain ⟨callee, args, ts⟩ := c
      cases callee with
      | invoke recv name => simp at hs
      | value fv => exact hcall _ _ _ _ _ hs
      | builtin b =>
        cases b <;> simp only at hs hk
        case append => exact append_tstep hs
        case copy => exact copy_tstep hs
        case cap =>
          rw [Option.map_eq_some_iff] at hs
          obtain ⟨u, hc, heq⟩ := hs
          simp only [Prod.mk.injEq] at heq
          obtain ⟨_, rfl⟩ := heq
          exact TStep.refl h
        case clear => exact clear_tstep hs
        case unsafeSliceData =>
          rw [Option.map_eq_some_iff] at hs
          obtain ⟨u, hc, heq⟩ := hs
          simp only [Prod.mk.injEq] at heq
          obtain ⟨_, rfl⟩ := heq
          exact TStep.refl h
        case unsafeString => exact unsafeString_tstep hs
        all_goals cases hs
    all_goals cases hs

theorem stepOp_tstep {P : Program} {call : Value → Array Value → TH → Option (Value × TH)} (hcall : ∀ fv args h v h', call fv args h = some (v, h') → TStep h h') {o : TOper} {ρ : Operand → Value} {v : Value} {h h' : TH}
    (hs : stepOp P call o ρ h = some (v, h')) : TStep h h' := by
  rcases stepOp_cases hs with h1 | ⟨rfl, _⟩
  · exact heapOp_tstep hcall h1
  · exact TStep.refl _

end Go.Tidy

/- Regions that draw their order: one operation, whichever comes next. -/
namespace Go.Tidy
open Go

variable {C : Env} {F : Fence} {n : Nat}

def readsT (o : TOper) : List Tmp := (o.op.operands.toList.filterMap fun | .tmp t => some t | _ => none) ++ (match o.gt with | some (t, _) => [t] | none => [])

/-- What the plain interpreter does, step by step. -/
structure Ref (P : Program) (call : Value → Array Value → TH → Option (Value × TH)) (ops : List TOper) (A : Nat → Regs) (H : Nat → TH) (V : Nat → Value) : Prop where
  step : ∀ k o, ops[k]? = some o →
    ((wantT o.gt (A k) = true ∧ stepL (stepOp P call) o (A k) (H k) = some (V k, H (k + 1))) ∨ (wantT o.gt (A k) = false ∧ V k = undef ∧ H (k + 1) = H k)) ∧ A (k + 1) = (A k).put o.dst (V k)

theorem ref_of {P : Program} {call : Value → Array Value → TH → Option (Value × TH)} : ∀ {ops : List TOper} {a a' : Regs} {h h' : TH}, evOps (stepOp P call) ops a h = some (a', h') →
    ∃ A H V, Ref P call ops A H V ∧ A 0 = a ∧ H 0 = h ∧ A ops.length = a' ∧ H ops.length = h' := by
  intro ops
  induction ops with
  | nil =>
    intro a a' h h' hs
    simp only [evOps, Option.some.injEq, Prod.mk.injEq] at hs
    obtain ⟨rfl, rfl⟩ := hs
    exact ⟨fun _ => a, fun _ => h, fun _ => undef, ⟨fun k o hk => by simp at hk⟩, rfl, rfl, rfl, rfl⟩
  | cons o rest ih =>
    intro a a' h h' hs
    rw [evOps_cons] at hs
    have key : ∀ v h1, ((wantT o.gt a = true ∧ stepL (stepOp P call) o a h = some (v, h1)) ∨ (wantT o.gt a = false ∧ v = undef ∧ h1 = h)) → evOps (stepOp P call) rest (a.put o.dst v) h1 = some (a', h') →
        ∃ A H V, Ref P call (o :: rest) A H V ∧ A 0 = a ∧ H 0 = h ∧ A (o :: rest).length = a' ∧ H (o :: rest).length = h' := by
      intro v h1 hst hs
      obtain ⟨A, H, V, r, e1, e2, e3, e4⟩ := ih hs
      refine ⟨fun | 0 => a | k + 1 => A k, fun | 0 => h | k + 1 => H k, fun | 0 => v | k + 1 => V k, ⟨fun k o' hk => ?_⟩, rfl, rfl, e3, e4⟩
      cases k with
      | zero =>
        simp only [List.getElem?_cons_zero, Option.some.injEq] at hk
        subst hk
        simp only [e1, e2]
        exact ⟨hst, trivial⟩
      | succ k => exact r.step k o' (by simpa using hk)
    rcases cond_cases hs with ⟨hw, h1⟩ | ⟨hw, h1⟩
    · rw [Option.bind_eq_some_iff] at h1
      obtain ⟨⟨v, h2⟩, hst, h1⟩ := h1
      exact key v h2 (.inl ⟨hw, hst⟩) h1
    · exact key undef h (.inr ⟨hw, rfl, rfl⟩) h1

/-- What is known of an order of the operations: 'pre k' k': the k'th comes before the kth under every order. -/
structure Pre (ops : List TOper) (pre : Nat → Nat → Prop) : Prop where
  below : ∀ k k', pre k' k → k' < k
  anyb : ∀ (k k' : Nat) (o o' : TOper), ops[k]? = some o → ops[k']? = some o' → k' < k → kindOf o'.op = .any → kindOf o.op ≠ .pure → pre k' k
  rd : ∀ (k : Nat) (o : TOper) (xs : List Operand) (nw : Bool) (k' : Nat) (o' : TOper) (t : Tmp), ops[k]? = some o → kindOf o.op = .reads xs nw → .tmp t ∈ xs → ops[k']? = some o' → o'.dst = some t → pre k' k
  two : ∀ (k : Nat) (o : TOper) (k' : Nat) (o' : TOper) (t : Tmp), ops[k]? = some o → ops[k']? = some o' → t ∈ readsT o → o'.dst = some t → k' = k ∨ pre k' k ∨ pre k k'
  one : ∀ (k : Nat) (o : TOper) (k' : Nat) (o' : TOper) (t : Tmp), ops[k]? = some o → ops[k']? = some o' → o.dst = some t → o'.dst = some t → k = k'
  lk : ∀ (k : Nat) (o : TOper) (k' : Nat) (o' : TOper) (xs : List Operand) (nw : Bool), ops[k]? = some o → ops[k']? = some o' → kindOf o.op = .any → kindOf o'.op = .reads xs nw → k' < k → ¬ pre k' k →
    (∀ x, x ∈ xs → x ∈ o.locks) ∧ (nw = true → ∀ d, o'.dst = some d → .tmp d ∈ o.locks)
  nd : ∀ (k : Nat) (o : TOper) (xs : List Operand), ops[k]? = some o → kindOf o.op = .reads xs true → ∃ d, o.dst = some d
  nl : ∀ (k : Nat) (o : TOper), ops[k]? = some o → kindOf o.op ≠ .any → o.locks = []

section ref
variable {P : Program} {call : Value → Array Value → TH → Option (Value × TH)} {ops : List TOper} {A : Nat → Regs} {H : Nat → TH} {V : Nat → Value} {pre : Nat → Nat → Prop}

def CallT (call : Value → Array Value → TH → Option (Value × TH)) : Prop := ∀ fv args h v h', call fv args h = some (v, h') → TStep h h'

theorem Ref.ts (r : Ref P call ops A H V) (hc : CallT call) {k : Nat} {o : TOper} (hk : ops[k]? = some o) : TStep (H k) (H (k + 1)) ∧ ∀ b, b ∈ lockOf o.locks (A k).eval [] → b < (H k).next → wantT o.gt (A k) = true → (H (k + 1)).get b = (H k).get b := by
  rcases (r.step k o hk).1 with ⟨_, hs⟩ | ⟨hw, _, he⟩
  · obtain ⟨t, l⟩ := stepL_tstep (fun ρ h v h' => stepOp_tstep hc) hs
    exact ⟨t, fun b hb hn _ => l b hb hn⟩
  · rw [he]; exact ⟨TStep.refl _, fun b _ _ _ => rfl⟩

theorem Ref.locked (r : Ref P call ops A H V) (hc : CallT call) {k : Nat} {o : TOper} (hk : ops[k]? = some o) {b : Nat} (hb : b ∈ lockOf o.locks (A k).eval []) (hn : b < (H k).next) : (H (k + 1)).get b = (H k).get b := by
  rcases (r.step k o hk).1 with ⟨hw, _⟩ | ⟨hw, _, he⟩
  · exact (r.ts hc hk).2 b hb hn hw
  · rw [he]

theorem getElem?_of_lt {α : Type} {l : List α} {k : Nat} (h : k < l.length) : ∃ o, l[k]? = some o := ⟨l[k], List.getElem?_eq_getElem h⟩

theorem Ref.tss (r : Ref P call ops A H V) (hc : CallT call) {k q : Nat} (hkq : k ≤ q) (hq : q ≤ ops.length) : TStep (H k) (H q) := by
  induction q with
  | zero => have : k = 0 := by omega
            subst this; exact TStep.refl _
  | succ q ih =>
    by_cases h : k = q + 1
    · subst h; exact TStep.refl _
    · obtain ⟨o, ho⟩ := getElem?_of_lt (l := ops) (k := q) (by omega)
      exact (ih (by omega) (by omega)).trans (r.ts hc ho).1

theorem Ref.wf (r : Ref P call ops A H V) (hc : CallT call) (h0 : WF (H 0)) {k : Nat} (hk : k ≤ ops.length) : WF (H k) := (r.tss hc (Nat.zero_le k) hk).wf h0

/-- What a temporary holds: what was there, if none has written it. -/
theorem Ref.at_old (r : Ref P call ops A H V) {t : Tmp} {k : Nat} (hk : k ≤ ops.length) (hw : ∀ k' o', k' < k → ops[k']? = some o' → o'.dst ≠ some t) : (A k).at_ t = (A 0).at_ t := by
  induction k with
  | zero => rfl
  | succ k ih =>
    obtain ⟨o, ho⟩ := getElem?_of_lt (l := ops) (k := k) (by omega)
    rw [(r.step k o ho).2]
    have hd := hw k o (by omega) ho
    have ih' := ih (by omega) (fun k' o' h => hw k' o' (by omega))
    cases hdd : o.dst with
    | none => exact ih'
    | some d =>
      simp only [Regs.put, Regs.at_set]
      rw [if_neg (by intro e; subst e; exact hd hdd)]
      exact ih'

/-- What its one writer wrote. -/
theorem Ref.at_new (r : Ref P call ops A H V) (hp : Pre ops pre) {t : Tmp} {k' : Nat} {o' : TOper} (ho : ops[k']? = some o') (hd : o'.dst = some t) : ∀ {k : Nat}, k' < k → k ≤ ops.length → (A k).at_ t = V k' := by
  intro k
  induction k with
  | zero => intro h; omega
  | succ k ih =>
    intro h1 h2
    obtain ⟨o, hk⟩ := getElem?_of_lt (l := ops) (k := k) (by omega)
    rw [(r.step k o hk).2]
    by_cases e : k' = k
    · subst e
      rw [ho] at hk; cases hk
      simp [hd, Regs.put, Regs.at_set]
    · have := ih (by omega) (by omega)
      cases hdd : o.dst with
      | none => exact this
      | some d =>
        simp only [Regs.put, Regs.at_set]
        rw [if_neg (by intro e'; subst e'; exact e (hp.one _ _ _ _ _ ho hk hd hdd))]
        exact this

/-- An operation of the kinds that don't write lays at most one block. -/
theorem Ref.calm (r : Ref P call ops A H V) (hp : Pre ops pre) {k : Nat} {o : TOper} (hk : ops[k]? = some o) (ha : kindOf o.op ≠ .any) :
    H (k + 1) = H k ∨ ((∃ y, H (k + 1) = (H k).new y) ∧ blockOf (V k) = some (H k).next ∧ ∃ xs, kindOf o.op = .reads xs true) := by
  rcases (r.step k o hk).1 with ⟨_, hs⟩ | ⟨_, _, he⟩
  · unfold stepL at hs
    rw [hp.nl k o hk ha] at hs
    simp only at hs
    rcases stepOp_cases hs with h1 | ⟨h1, _⟩
    · cases hkd : kindOf o.op with
      | pure => exact (heapOp_pure hkd h1).elim
      | any => exact absurd hkd ha
      | reads xs nw =>
        rcases (heapOp_reads hkd h1).1 with h2 | ⟨h2, h3, h4⟩
        · exact .inl h2
        · subst h4; exact .inr ⟨h2, h3, xs, rfl⟩
    · exact .inl h1
  · exact .inl he

theorem Ref.calm_get (r : Ref P call ops A H V) (hp : Pre ops pre) {k : Nat} {o : TOper} (hk : ops[k]? = some o) (ha : kindOf o.op ≠ .any) {b : Nat} (hb : b < (H k).next) : (H (k + 1)).get b = (H k).get b := by
  rcases r.calm hp hk ha with h | ⟨⟨y, h⟩, _⟩
  · rw [h]
  · rw [h, TH.get_new, HG.set_other _ _ (by omega)]

/-- A block that each writer on the way may not turn. -/
theorem Ref.stable (r : Ref P call ops A H V) (hc : CallT call) (hp : Pre ops pre) {b k : Nat} : ∀ {p : Nat}, k ≤ p → p ≤ ops.length → b < (H k).next →
    (∀ q o, k ≤ q → q < p → ops[q]? = some o → kindOf o.op = .any → b ∈ lockOf o.locks (A q).eval []) → (H p).get b = (H k).get b := by
  intro p
  induction p with
  | zero => intro h1 _ _ _; have : k = 0 := by omega
            subst this; rfl
  | succ p ih =>
    intro h1 h2 hb hl
    by_cases e : k = p + 1
    · subst e; rfl
    · obtain ⟨o, ho⟩ := getElem?_of_lt (l := ops) (k := p) (by omega)
      have ih' := ih (by omega) (by omega) hb (fun q o hq1 hq2 => hl q o hq1 (by omega))
      have hbp : b < (H p).next := Nat.lt_of_lt_of_le hb (r.tss hc (by omega : k ≤ p) (by omega)).next
      rw [← ih']
      by_cases ha : kindOf o.op = .any
      · exact r.locked hc ho (hl p o (by omega) (by omega) ho ha) hbp
      · exact r.calm_get hp ho ha hbp

theorem lockOf_mem {ls : List Operand} {ρ : Operand → Value} {x : Operand} {b : Nat} (hx : x ∈ ls) (hb : blockOf (ρ x) = some b) : b ∈ lockOf ls ρ [] := by
  induction ls with
  | nil => cases hx
  | cons y r ih =>
    simp only [lockOf]
    rcases List.mem_cons.1 hx with rfl | h
    · rw [hb]; simp
    · split
      · exact List.mem_cons_of_mem _ (ih h)
      · exact ih h
end ref

/-! ### The state of the model, with some of the operations done -/
section drawn
open Classical

/-- Blocks that the reference has laid, and the model not yet. -/
def Unb (ops : List TOper) (H : Nat → TH) (D : Nat → Prop) (p b : Nat) : Prop :=
  ∃ k o, k < p ∧ ops[k]? = some o ∧ ¬ D k ∧ kindOf o.op ≠ .any ∧ (H k).get b = none ∧ ∃ y, (H (k + 1)).get b = some y

noncomputable def hid (U : Nat → Prop) (g : HG) : HG := fun b => if U b then none else g b

theorem hid_some {U : Nat → Prop} {g : HG} {b : Nat} {x : TB} (h : hid U g b = some x) : ¬ U b ∧ g b = some x := by
  unfold hid at h
  by_cases hu : U b
  · simp [hu] at h
  · simp only [hu, if_false] at h; exact ⟨hu, h⟩
theorem hid_of {U : Nat → Prop} {g : HG} {b : Nat} (h : ¬ U b) : hid U g b = g b := by simp [hid, h]
theorem hid_in {U : Nat → Prop} {g : HG} {b : Nat} (h : U b) : hid U g b = none := by simp [hid, h]
theorem hid_alive {U : Nat → Prop} {g : HG} {b : Nat} (h : alive (hid U g) b) : ¬ U b ∧ alive g b := by
  obtain ⟨x, hx, hd⟩ := h
  obtain ⟨h1, h2⟩ := hid_some hx
  exact ⟨h1, x, h2, hd⟩
theorem hid_alive_of {U : Nat → Prop} {g : HG} {b : Nat} (hu : ¬ U b) (h : alive g b) : alive (hid U g) b := by
  obtain ⟨x, hx, hd⟩ := h
  exact ⟨x, by rw [hid_of hu]; exact hx, hd⟩

theorem HRel.unhide {β : Emb} {g : HG} {w : World} {U : Nat → Prop} (h : HRel C β (hid U g) w) (hu : ∀ b, U b → β b = none) : HRel C β g w := fun b x e hg he => by
  by_cases hub : U b
  · rw [hu b hub] at he; cases he
  · exact h b x e (by rw [hid_of hub]; exact hg) he
theorem Inj.unhide {β : Emb} {g : HG} {U : Nat → Prop} (h : Inj β (hid U g)) (hu : ∀ b, U b → β b = none) : Inj β g := fun b b' e e' ha ha' he he' heq => by
  have hub : ¬ U b := fun q => by rw [hu b q] at he; cases he
  have hub' : ¬ U b' := fun q => by rw [hu b' q] at he'; cases he'
  exact h b b' e e' (hid_alive_of hub ha) (hid_alive_of hub' ha') he he' heq

/-- A step, seen without blocks that it doesn't know. -/
theorem Step.hide {f : Nat} {β β' : Emb} {g g' : HG} {w w' : World} {U : Nat → Prop} (s : Step C f β g w β' g' w') (hu : ∀ b, U b → β b = none ∧ ∃ x, g b = some x) : Step C f β (hid U g) w β' (hid U g') w' where
  ext := s.ext
  born := fun b e h => by
    rcases s.born b e h with h1 | ⟨h1, h2, x, hx⟩
    · exact .inl h1
    · have hub : ¬ U b := fun q => by obtain ⟨_, y, hy⟩ := hu b q; rw [h2] at hy; cases hy
      exact .inr ⟨h1, by rw [hid_of hub]; exact h2, x, by rw [hid_of hub]; exact hx⟩
  stay := fun b x h => by
    obtain ⟨h1, h2⟩ := hid_some h
    obtain ⟨x', hx'⟩ := s.stay b x h2
    exact ⟨x', by rw [hid_of h1]; exact hx'⟩
  dead := fun b x h ha => by
    obtain ⟨h1, h2⟩ := hid_some h
    exact hid_alive_of h1 (s.dead b x h2 (hid_alive ha).2)
  rel := fun b x e h he => s.rel b x e (hid_some h).2 he
  inj := fun b b' e e' ha ha' => s.inj b b' e e' (hid_alive ha).2 (hid_alive ha').2
  os := s.os
  tape := s.tape
  output := s.output
  size := s.size
  keep := fun r hr hb => s.keep r hr fun b e hf ha he => hb b e hf (hid_alive_of (fun q => by rw [(hu b q).1] at he; cases he) ha) he
  fresh := fun b e hg ha he => by
    obtain ⟨h1, h2⟩ := hid_alive ha
    rw [hid_of h1] at hg
    rcases s.fresh b e hg h2 he with h3 | ⟨b0, e0, k1, k2, k3, k4⟩
    · exact .inl h3
    · exact .inr ⟨b0, e0, k1, hid_alive_of (fun q => by rw [(hu b0 q).1] at k3; cases k3) k2, k3, k4⟩

variable {call : Value → Array Value → TH → Option (Value × TH)} {ops : List TOper} {A : Nat → Regs} {H : Nat → TH} {V : Nat → Value} {pre : Nat → Nat → Prop}

structure DInv (C : Env) (ops : List TOper) (A : Nat → Regs) (H : Nat → TH) (V : Nat → Value) (m : Nat) (β0 : Emb) (w0 : World) (D : Nat → Prop) (p : Nat) (l : Array Value) (w : World) (β : Emb) : Prop where
  le : p ≤ ops.length
  lo : ∀ k o, k < p → ops[k]? = some o → kindOf o.op = .any → D k
  hi : ∀ k o, p ≤ k → ops[k]? = some o → kindOf o.op ≠ .pure → ¬ D k
  sz : m ≤ l.size
  r1 : ∀ k o t, D k → ops[k]? = some o → o.dst = some t → VRel β (V k) (l.getD t undef)
  r2 : ∀ t, (∀ k o, ops[k]? = some o → o.dst = some t → ¬ D k) → VRel β ((A 0).at_ t) (l.getD t undef)
  step : Step C (H 0).floor β0 (H 0).get w0 β (hid (Unb ops H D p) (H p).get) w
  unb : ∀ b, Unb ops H D p b → β b = none
  fr : ∀ b, (H p).next ≤ b → β b = none

variable {m : Nat} {β0 : Emb} {w0 : World} {D : Nat → Prop} {p : Nat} {l : Array Value} {w : World} {β : Emb}

/-- The reference goes on by an operation that doesn't write, and that the model has not done, or that is none of memory's. -/
theorem DInv.advance (inv : DInv C ops A H V m β0 w0 D p l w β) (r : Ref C.P call ops A H V) (hc : CallT call) (hp : Pre ops pre) (h0 : WF (H 0)) {o : TOper} (ho : ops[p]? = some o) (ha : kindOf o.op ≠ .any) : DInv C ops A H V m β0 w0 D (p + 1) l w β := by
  have hlt : p < ops.length := (List.getElem?_eq_some_iff.1 ho).1
  have hwf := r.wf hc h0 (Nat.le_of_lt hlt)
  have hcalm := r.calm hp ho ha
  have hunb : ∀ b, Unb ops H D (p + 1) b → Unb ops H D p b ∨ (H p).next ≤ b := by
    rintro b ⟨k, o', hk, hko, hD, hka, hn, y, hy⟩
    by_cases e : k = p
    · subst e
      right
      rcases hcalm with h1 | ⟨⟨z, h1⟩, _⟩
      · rw [h1, hn] at hy; cases hy
      · rw [h1, TH.get_new] at hy
        by_cases hb : b = (H k).next
        · omega
        · rw [HG.set_other _ _ hb, hn] at hy; cases hy
    · exact .inl ⟨k, o', by omega, hko, hD, hka, hn, y, hy⟩
  have hmono : ∀ b, Unb ops H D p b → Unb ops H D (p + 1) b := by
    rintro b ⟨k, o', hk, rest⟩
    exact ⟨k, o', by omega, rest⟩
  have hg : hid (Unb ops H D (p + 1)) (H (p + 1)).get = hid (Unb ops H D p) (H p).get := by
    funext b
    by_cases hu : Unb ops H D p b
    · rw [hid_in hu, hid_in (hmono b hu)]
    · rcases hcalm with h1 | ⟨⟨z, h1⟩, h2, xs, h3⟩
      · have : ¬ Unb ops H D (p + 1) b := by
          rintro ⟨k, o', hk, hko, hD, hka, hn, y, hy⟩
          by_cases e : k = p
          · subst e; rw [h1, hn] at hy; cases hy
          · exact hu ⟨k, o', by omega, hko, hD, hka, hn, y, hy⟩
        rw [hid_of hu, hid_of this, h1]
      · have hDp : ¬ D p := inv.hi p o (Nat.le_refl _) ho (by rw [h3]; intro h; cases h)
        by_cases hb : b = (H p).next
        · have hnone : (H p).get b = none := hwf.none (by omega)
          have : Unb ops H D (p + 1) b := ⟨p, o, by omega, ho, hDp, ha, hnone, z, by rw [h1, TH.get_new, hb, HG.set_same]⟩
          rw [hid_of hu, hid_in this, hnone]
        · have : ¬ Unb ops H D (p + 1) b := by
            rintro ⟨k, o', hk, hko, hD, hka, hn, y, hy⟩
            by_cases e : k = p
            · subst e
              rw [h1, TH.get_new, HG.set_other _ _ hb, hn] at hy; cases hy
            · exact hu ⟨k, o', by omega, hko, hD, hka, hn, y, hy⟩
          rw [hid_of hu, hid_of this, h1, TH.get_new, HG.set_other _ _ hb]
  refine ⟨hlt, ?_, fun k o' hk => inv.hi k o' (by omega), inv.sz, inv.r1, inv.r2, by rw [hg]; exact inv.step, fun b hb => ?_, fun b hb => ?_⟩
  · intro k o' hk hko hka
    by_cases e : k = p
    · subst e; rw [ho] at hko; cases hko; exact absurd hka ha
    · exact inv.lo k o' (by omega) hko hka
  · rcases hunb b hb with h | h
    · exact inv.unb b h
    · exact inv.fr b h
  · exact inv.fr b (Nat.le_trans (r.ts hc ho).1.next hb)

theorem DInv.advances (inv : DInv C ops A H V m β0 w0 D p l w β) (r : Ref C.P call ops A H V) (hc : CallT call) (hp : Pre ops pre) (h0 : WF (H 0)) : ∀ {q : Nat}, p ≤ q → q ≤ ops.length →
    (∀ k o, p ≤ k → k < q → ops[k]? = some o → kindOf o.op ≠ .any) → DInv C ops A H V m β0 w0 D q l w β := by
  intro q
  induction q with
  | zero => intro h _ _; have : p = 0 := by omega
            subst this; exact inv
  | succ q ih =>
    intro h1 h2 h3
    by_cases e : p = q + 1
    · subst e; exact inv
    · obtain ⟨o, ho⟩ := getElem?_of_lt (l := ops) (k := q) (by omega)
      exact (ih (by omega) (by omega) (fun k o hk hk2 => h3 k o hk (by omega))).advance r hc hp h0 ho (h3 q o (by omega) (by omega) ho)

/-- Before an operation that is next, what it reads is there. -/
theorem DInv.reads (inv : DInv C ops A H V m β0 w0 D p l w β) (r : Ref C.P call ops A H V) (hp : Pre ops pre) (hcl : ∀ k k', D k → pre k' k → D k') {k : Nat} {o : TOper} (ho : ops[k]? = some o) (hD : ¬ D k) (hpre : ∀ k', pre k' k → D k') {t : Tmp} (ht : t ∈ readsT o) :
    VRel β ((A k).at_ t) (l.getD t undef) := by
  have hlt : k < ops.length := (List.getElem?_eq_some_iff.1 ho).1
  by_cases hw : ∃ (k' : Nat) (o' : TOper), ops[k']? = some o' ∧ o'.dst = some t
  · obtain ⟨k', o', ho', hd⟩ := hw
    rcases hp.two k o k' o' t ho ho' ht hd with rfl | h1 | h1
    · rw [r.at_old (Nat.le_of_lt hlt) (fun k2 o2 h2 h3 h4 => by have := hp.one _ _ _ _ _ ho' h3 hd h4; omega)]
      refine inv.r2 t fun k2 o2 h3 h4 hD2 => ?_
      have := hp.one _ _ _ _ _ ho' h3 hd h4
      subst this
      exact hD hD2
    · rw [r.at_new hp ho' hd (hp.below _ _ h1) (Nat.le_of_lt hlt)]
      exact inv.r1 k' o' t (hpre k' h1) ho' hd
    · rw [r.at_old (Nat.le_of_lt hlt) (fun k2 o2 h2 h3 h4 => by have := hp.one _ _ _ _ _ ho' h3 hd h4; have := hp.below _ _ h1; omega)]
      refine inv.r2 t fun k2 o2 h3 h4 hD2 => ?_
      have := hp.one _ _ _ _ _ ho' h3 hd h4
      subst this
      exact hD (hcl _ _ hD2 h1)
  · rw [r.at_old (Nat.le_of_lt hlt) (fun k2 o2 h2 h3 h4 => hw ⟨k2, o2, h3, h4⟩)]
    exact inv.r2 t fun k2 o2 h3 h4 _ => hw ⟨k2, o2, h3, h4⟩

end drawn
end Go.Tidy

/- Regions that draw their order: each of their operations, in the model. -/
namespace Go.Tidy
open Go
open Classical

variable {C : Env} {F : Fence} {n : Nat}
variable {call : Value → Array Value → TH → Option (Value × TH)} {ops : List TOper} {A : Nat → Regs} {H : Nat → TH} {V : Nat → Value} {pre : Nat → Nat → Prop}
variable {m : Nat} {β0 : Emb} {w0 : World} {D : Nat → Prop} {p k : Nat} {l : Array Value} {w : World} {β : Emb}

theorem put_getD {d : Option Tmp} (hd : dstOk m d = true) (hm : m ≤ l.size) (v' : Value) (Dd : List Deferred) :
    ∃ l', (⟨l, Dd⟩ : Act).put d v' = ⟨l', Dd⟩ ∧ l'.size = l.size ∧ ∀ t, l'.getD t undef = if d = some t then v' else l.getD t undef := by
  cases d with
  | none => exact ⟨l, rfl, rfl, fun t => by simp⟩
  | some d =>
    refine ⟨l.setIfInBounds d v', rfl, by simp, fun t => ?_⟩
    have hlt : d < l.size := Nat.lt_of_lt_of_le (by simpa [dstOk] using hd) hm
    by_cases h : d = t
    · subst h; simp [hlt]
    · simp only [Option.some.injEq, h, if_false]
      rw [Array.getD_eq_getD_getElem?, Array.getD_eq_getD_getElem?, Array.getElem?_setIfInBounds]
      simp [h]

/-- The temporaries, when one more is done. -/
theorem DInv.regs (inv : DInv C ops A H V m β0 w0 D p l w β) (hp : Pre ops pre) {o : TOper} (ho : ops[k]? = some o) {β' : Emb} (hx : Ext β β') {v' : Value} (hv : VRel β' (V k) v') {l' : Array Value}
    (hl : ∀ t, l'.getD t undef = if o.dst = some t then v' else l.getD t undef) :
    (∀ q o t, (D q ∨ q = k) → ops[q]? = some o → o.dst = some t → VRel β' (V q) (l'.getD t undef)) ∧
    (∀ t, (∀ (q : Nat) (o : TOper), ops[q]? = some o → o.dst = some t → ¬ (D q ∨ q = k)) → VRel β' ((A 0).at_ t) (l'.getD t undef)) := by
  constructor
  · intro q oq t hq hoq hd
    rw [hl]
    by_cases e : o.dst = some t
    · have := hp.one _ _ _ _ _ ho hoq e hd
      subst this
      rw [if_pos e]; exact hv
    · rw [if_neg e]
      rcases hq with hq | rfl
      · exact (inv.r1 q oq t hq hoq hd).mono hx
      · rw [ho] at hoq; cases hoq; exact absurd hd e
  · intro t ht
    have e : o.dst ≠ some t := fun e => ht k o ho e (.inr rfl)
    rw [hl, if_neg e]
    exact (inv.r2 t fun q oq hoq hd hq => ht q oq hoq hd (.inl hq)).mono hx

theorem Unb.more (hk : H (k + 1) = H k) {b : Nat} : Unb ops H (fun q => D q ∨ q = k) p b ↔ Unb ops H D p b := by
  constructor
  · rintro ⟨q, o, h1, h2, h3, h4⟩
    exact ⟨q, o, h1, h2, fun h => h3 (.inl h), h4⟩
  · rintro ⟨q, o, h1, h2, h3, h4, h5, y, h6⟩
    refine ⟨q, o, h1, h2, ?_, h4, h5, y, h6⟩
    rintro (h | rfl)
    · exact h3 h
    · rw [hk, h5] at h6; cases h6

/-- An operation that leaves the heap alone. -/
theorem DInv.still (inv : DInv C ops A H V m β0 w0 D p l w β) (hp : Pre ops pre) {o : TOper} (ho : ops[k]? = some o) (hk : H (k + 1) = H k) (hkp : k < p ∨ kindOf o.op = .pure) {v' : Value} (hv : VRel β (V k) v') {l' : Array Value}
    (hl : ∀ t, l'.getD t undef = if o.dst = some t then v' else l.getD t undef) (hsz : l'.size = l.size) : DInv C ops A H V m β0 w0 (fun q => D q ∨ q = k) p l' w β := by
  obtain ⟨r1, r2⟩ := inv.regs hp ho (Ext.refl β) hv hl
  have hU : Unb ops H (fun q => D q ∨ q = k) p = Unb ops H D p := funext fun b => propext (Unb.more hk)
  refine ⟨inv.le, fun q oq h1 h2 h3 => .inl (inv.lo q oq h1 h2 h3), ?_, by rw [hsz]; exact inv.sz, r1, r2, by rw [hU]; exact inv.step, by rw [hU]; exact inv.unb, inv.fr⟩
  rintro q oq h1 h2 h3 (h | rfl)
  · exact inv.hi q oq h1 h2 h3 h
  · rw [ho] at h2; cases h2
    rcases hkp with h | h
    · omega
    · exact h3 h

/-- An operation that is passed over, and might have done anything. -/
theorem DInv.over (inv : DInv C ops A H V m β0 w0 D p l w β) (hp : Pre ops pre) {o : TOper} (ho : ops[p]? = some o) (hk : H (p + 1) = H p) (ha : kindOf o.op = .any) {v' : Value} (hv : VRel β (V p) v') {l' : Array Value}
    (hl : ∀ t, l'.getD t undef = if o.dst = some t then v' else l.getD t undef) (hsz : l'.size = l.size) : DInv C ops A H V m β0 w0 (fun q => D q ∨ q = p) (p + 1) l' w β := by
  obtain ⟨r1, r2⟩ := inv.regs hp ho (Ext.refl β) hv hl
  have hU : Unb ops H (fun q => D q ∨ q = p) (p + 1) = Unb ops H D p := by
    funext b
    apply propext
    constructor
    · rintro ⟨q, oq, h1, h2, h3, h4, h5⟩
      have : q ≠ p := fun e => h3 (.inr e)
      exact ⟨q, oq, by omega, h2, fun h => h3 (.inl h), h4, h5⟩
    · rintro ⟨q, oq, h1, h2, h3, h4, h5⟩
      exact ⟨q, oq, by omega, h2, fun h => h.elim h3 (by omega), h4, h5⟩
  refine ⟨(List.getElem?_eq_some_iff.1 ho).1, ?_, ?_, by rw [hsz]; exact inv.sz, r1, r2, by rw [hU, hk]; exact inv.step, by rw [hU]; exact inv.unb, by rw [hk]; exact inv.fr⟩
  · intro q oq h1 h2 h3
    by_cases e : q = p
    · exact .inr e
    · exact .inl (inv.lo q oq (by omega) h2 h3)
  · rintro q oq h1 h2 h3 (h | rfl)
    · exact inv.hi q oq (by omega) h2 h3 h
    · omega

theorem DInv.good (inv : DInv C ops A H V m β0 w0 D p l w β) (hwf : WF (H p)) (hG : GRel C.G β0) (hB : Base C (H p)) : Good C β (H p) w :=
  ⟨inv.step.rel.unhide inv.unb, inv.step.inj.unhide inv.unb, hwf, inv.fr, hG.mono inv.step.ext, hB⟩

theorem Unb.old (r : Ref C.P call ops A H V) (hc : CallT call) (hle : p ≤ ops.length) {b : Nat} (h : Unb ops H D p b) : ∃ x, (H p).get b = some x := by
  obtain ⟨q, o, h1, h2, h3, h4, h5, y, h6⟩ := h
  exact (r.tss hc (by omega : q + 1 ≤ p) hle).stay b y h6

/-- An operation that may do anything, done. -/
theorem DInv.anyStep (inv : DInv C ops A H V m β0 w0 D p l w β) (hG : GRel C.G β0) (hB : Base C (H 0)) (r : Ref C.P call ops A H V) (hc : CallT call) (hp : Pre ops pre) (h0 : WF (H 0)) {o : TOper} (ho : ops[p]? = some o) {β' : Emb} {w' : World} {v' : Value} (hv : VRel β' (V p) v')
    (ha : kindOf o.op = .any) (s : Step C (H 0).floor β (H p).get w β' (H (p + 1)).get w') {l' : Array Value} (hl : ∀ t, l'.getD t undef = if o.dst = some t then v' else l.getD t undef) (hsz : l'.size = l.size) :
    DInv C ops A H V m β0 w0 (fun q => D q ∨ q = p) (p + 1) l' w' β' := by
  obtain ⟨r1, r2⟩ := inv.regs hp ho s.ext hv hl
  have hlt : p < ops.length := (List.getElem?_eq_some_iff.1 ho).1
  have hold : ∀ b, Unb ops H D p b → ∃ x, (H p).get b = some x := fun b hb => Unb.old r hc (Nat.le_of_lt hlt) hb
  have hU : Unb ops H (fun q => D q ∨ q = p) (p + 1) = Unb ops H D p := by
    funext b
    apply propext
    constructor
    · rintro ⟨q, oq, h1, h2, h3, h4, h5⟩
      have : q ≠ p := fun e => h3 (.inr e)
      exact ⟨q, oq, by omega, h2, fun h => h3 (.inl h), h4, h5⟩
    · rintro ⟨q, oq, h1, h2, h3, h4, h5⟩
      exact ⟨q, oq, by omega, h2, fun h => h.elim h3 (by omega), h4, h5⟩
  have gd := (inv.good (r.wf hc h0 (Nat.le_of_lt hlt)) hG ((r.tss hc (Nat.zero_le _) (Nat.le_of_lt hlt)).base h0 hB)).step s (r.ts hc ho).1
  refine ⟨hlt, ?_, ?_, by rw [hsz]; exact inv.sz, r1, r2, ?_, ?_, gd.fr⟩
  · intro q oq h1 h2 h3
    by_cases e : q = p
    · exact .inr e
    · exact .inl (inv.lo q oq (by omega) h2 h3)
  · rintro q oq h1 h2 h3 (h | rfl)
    · exact inv.hi q oq (by omega) h2 h3 h
    · omega
  · rw [hU]
    exact inv.step.trans (s.hide fun b hb => ⟨inv.unb b hb, hold b hb⟩)
  · rw [hU]
    intro b hb
    cases hbe : β' b with
    | none => rfl
    | some e =>
      rcases s.born b e hbe with h1 | ⟨_, h2, _⟩
      · rw [inv.unb b hb] at h1; cases h1
      · obtain ⟨x, hx⟩ := hold b hb; rw [h2] at hx; cases hx

/-- An operation that reads, and may lay a block, done. -/
theorem DInv.readStep (inv : DInv C ops A H V m β0 w0 D p l w β) (r : Ref C.P call ops A H V) (hc : CallT call) (hp : Pre ops pre) (h0 : WF (H 0)) (hcl : ∀ k k', D k → pre k' k → D k') {o : TOper} (ho : ops[k]? = some o) (hkp : k < p) (hD : ¬ D k) {xs : List Operand} {nw : Bool}
    (hk : kindOf o.op = .reads xs nw) {sn : Sem Next} (hdoes : (∀ x b e, x ∈ xs → blockOf ((A k).eval x) = some b → β b = some e → hid (Unb ops H D p) (H p).get b = (H k).get b) →
      (H (k + 1) = H k ∨ (hid (Unb ops H D p) (H p).get (H k).next = none ∧ β (H k).next = none)) →
      ∃ s : Sem Value, sn = (do pure (.value (← s))) ∧ RDoes C (H 0).floor β (hid (Unb ops H D p) (H p).get) w s (V k) (H k) (H (k + 1)))
    (hgets : ∀ x b, x ∈ xs → blockOf ((A k).eval x) = some b → ∃ y, (H k).get b = some y) :
    ∃ v' w' β', sn.run C.P w = .ok (.value v') w' ∧ VRel β' (V k) v' ∧ ∀ l', (∀ t, l'.getD t undef = if o.dst = some t then v' else l.getD t undef) → l'.size = l.size → DInv C ops A H V m β0 w0 (fun q => D q ∨ q = k) p l' w' β' := by
  have hlt : k < ops.length := (List.getElem?_eq_some_iff.1 ho).1
  have hwfk := r.wf hc h0 (Nat.le_of_lt hlt)
  have hwfp := r.wf hc h0 inv.le
  have hna : kindOf o.op ≠ .any := by rw [hk]; intro h; cases h
  -- writers on the way leave alone what is read here
  have hlk : ∀ q oq, k ≤ q → q < p → ops[q]? = some oq → kindOf oq.op = .any → (∀ x, x ∈ xs → x ∈ oq.locks) ∧ (nw = true → ∀ d, o.dst = some d → .tmp d ∈ oq.locks) := by
    intro q oq h1 h2 h3 h4
    have hne : q ≠ k := by intro e; subst e; rw [ho] at h3; cases h3; exact hna h4
    refine hp.lk q oq k o xs nw h3 ho h4 hk (by omega) fun hpre => hD ?_
    exact hcl _ _ (inv.lo q oq h2 h3 h4) hpre
  have hsame : ∀ x, x ∈ xs → ∀ q, k ≤ q → q ≤ ops.length → (A q).eval x = (A k).eval x := by
    intro x hx q h1 h2
    cases x with
    | tmp t =>
      show (A q).at_ t = (A k).at_ t
      by_cases hw : ∃ (k' : Nat) (o' : TOper), ops[k']? = some o' ∧ o'.dst = some t
      · obtain ⟨k', o', ho', hd⟩ := hw
        have hlt' := hp.below _ _ (hp.rd k o xs nw k' o' t ho hk hx ho' hd)
        rw [r.at_new hp ho' hd (by omega) h2, r.at_new hp ho' hd hlt' (Nat.le_of_lt hlt)]
      · rw [r.at_old h2 (fun k2 o2 _ h3 h4 => hw ⟨k2, o2, h3, h4⟩), r.at_old (Nat.le_of_lt hlt) (fun k2 o2 _ h3 h4 => hw ⟨k2, o2, h3, h4⟩)]
    | _ => rfl
  have hread : ∀ x b e, x ∈ xs → blockOf ((A k).eval x) = some b → β b = some e → hid (Unb ops H D p) (H p).get b = (H k).get b := by
    intro x b e hx hb he
    obtain ⟨y, hy⟩ := hgets x b hx hb
    have hnu : ¬ Unb ops H D p b := fun hu => by rw [inv.unb b hu] at he; cases he
    rw [hid_of hnu]
    refine r.stable hc hp (Nat.le_of_lt hkp) inv.le (hwfk b y hy) fun q oq h1 h2 h3 h4 => ?_
    refine lockOf_mem ((hlk q oq h1 h2 h3 h4).1 x hx) ?_
    rw [hsame x hx q h1 (by have := inv.le; omega)]
    exact hb
  have hunbk : ∀ y, H (k + 1) = (H k).new y → Unb ops H D p (H k).next := fun y hy =>
    ⟨k, o, hkp, ho, hD, hna, hwfk.none (Nat.le_refl _), y, by rw [hy, TH.get_new, HG.set_same]⟩
  have hfree : H (k + 1) = H k ∨ (hid (Unb ops H D p) (H p).get (H k).next = none ∧ β (H k).next = none) := by
    rcases r.calm hp ho hna with h | ⟨⟨y, hy⟩, _⟩
    · exact .inl h
    · exact .inr ⟨hid_in (hunbk y hy), inv.unb _ (hunbk y hy)⟩
  obtain ⟨s, rfl, v', w', β', g', q1, q2, q3, q4⟩ := hdoes hread hfree
  refine ⟨v', w', β', by simp [q1], q2, fun l' hl hsz => ?_⟩
  obtain ⟨r1, r2⟩ := inv.regs hp ho q3.ext q2 hl
  have hlo : ∀ q oq, q < p → ops[q]? = some oq → kindOf oq.op = .any → (D q ∨ q = k) := fun q oq h1 h2 h3 => .inl (inv.lo q oq h1 h2 h3)
  have hhi : ∀ q oq, p ≤ q → ops[q]? = some oq → kindOf oq.op ≠ .pure → ¬ (D q ∨ q = k) := by
    rintro q oq h1 h2 h3 (h | rfl)
    · exact inv.hi q oq h1 h2 h3 h
    · omega
  rcases q4 with ⟨e1, rfl⟩ | ⟨x, e1, rfl⟩
  · have hU : Unb ops H (fun q => D q ∨ q = k) p = Unb ops H D p := funext fun b => propext (Unb.more e1)
    have hold : ∀ b e, β' b = some e → β b = some e := fun b e hb => by
      rcases q3.born b e hb with h1 | ⟨_, h2, y, h3⟩
      · exact h1
      · rw [h2] at h3; cases h3
    have hnone : ∀ b, β b = none → β' b = none := fun b hb => by
      cases hbe : β' b with
      | none => rfl
      | some e => rw [hold b e hbe] at hb; cases hb
    refine ⟨inv.le, hlo, hhi, by rw [hsz]; exact inv.sz, r1, r2, by rw [hU]; exact inv.step.trans q3, ?_, fun b hb => hnone b (inv.fr b hb)⟩
    rw [hU]; exact fun b hb => hnone b (inv.unb b hb)
  · -- the new block
    have hb0 := hunbk x e1
    obtain ⟨hbv, hnw⟩ : blockOf (V k) = some (H k).next ∧ nw = true := by
      rcases r.calm hp ho hna with h | ⟨_, h, ys, h2⟩
      · rw [e1] at h
        have := congrArg TH.next h
        simp [TH.new] at this
      · rw [hk] at h2; cases h2; exact ⟨h, rfl⟩
    obtain ⟨d, hd⟩ := hp.nd k o xs ho (by rw [hk, hnw])
    have hkeep : (H p).get (H k).next = some x := by
      have hst : (H p).get (H k).next = (H (k + 1)).get (H k).next := by
        refine r.stable hc hp (by omega : k + 1 ≤ p) inv.le (by rw [e1]; exact Nat.lt_succ_self _) fun q oq h1 h2 h3 h4 => ?_
        refine lockOf_mem ((hlk q oq (by omega) h2 h3 h4).2 hnw d hd) ?_
        show blockOf ((A q).at_ d) = _
        rw [r.at_new hp ho hd (by omega) (by have := inv.le; omega)]
        exact hbv
      rw [hst, e1, TH.get_new, HG.set_same]
    have hU : ∀ b, Unb ops H (fun q => D q ∨ q = k) p b ↔ (Unb ops H D p b ∧ b ≠ (H k).next) := by
      intro b
      constructor
      · rintro ⟨q, oq, h1, h2, h3, h4, h5, y, h6⟩
        refine ⟨⟨q, oq, h1, h2, fun h => h3 (.inl h), h4, h5, y, h6⟩, ?_⟩
        intro e
        subst e
        have hqk : q ≠ k := fun e => h3 (.inr e)
        rcases Nat.lt_or_ge q k with h | h
        · obtain ⟨z, hz⟩ := (r.tss hc (by omega : q + 1 ≤ k) (by omega)).stay _ y h6
          rw [hwfk.none (Nat.le_refl _)] at hz; cases hz
        · obtain ⟨z, hz⟩ := (r.tss hc (by omega : k + 1 ≤ q) (by have := inv.le; omega)).stay (H k).next x (by rw [e1, TH.get_new, HG.set_same])
          rw [h5] at hz; cases hz
      · rintro ⟨⟨q, oq, h1, h2, h3, h4, h5, y, h6⟩, hne⟩
        refine ⟨q, oq, h1, h2, ?_, h4, h5, y, h6⟩
        rintro (h | rfl)
        · exact h3 h
        · rw [e1, TH.get_new, HG.set_other _ _ hne, h5] at h6; cases h6
    have hg : hid (Unb ops H (fun q => D q ∨ q = k) p) (H p).get = HG.set (hid (Unb ops H D p) (H p).get) (H k).next x := by
      funext b
      by_cases hb : b = (H k).next
      · subst hb
        rw [HG.set_same, hid_of (fun h => ((hU _).1 h).2 rfl), hkeep]
      · rw [HG.set_other _ _ hb]
        by_cases hu : Unb ops H D p b
        · rw [hid_in hu, hid_in ((hU b).2 ⟨hu, hb⟩)]
        · rw [hid_of hu, hid_of (fun h => hu ((hU b).1 h).1)]
    have hnone : ∀ b, β b = none → b ≠ (H k).next → β' b = none := fun b hb hne => by
      cases hbe : β' b with
      | none => rfl
      | some e =>
        rcases q3.born b e hbe with h1 | ⟨_, h2, y, h3⟩
        · rw [hb] at h1; cases h1
        · rw [HG.set_other _ _ hne, h2] at h3; cases h3
    have hnext : (H k).next < (H p).next := by
      have := (r.tss hc (by omega : k + 1 ≤ p) inv.le).next
      rw [e1] at this
      exact Nat.lt_of_lt_of_le (Nat.lt_succ_self _) this
    refine ⟨inv.le, hlo, hhi, by rw [hsz]; exact inv.sz, r1, r2, by rw [hg]; exact inv.step.trans q3, fun b hb => ?_, fun b hb => hnone b (inv.fr b hb) (by omega)⟩
    obtain ⟨h1, h2⟩ := (hU b).1 hb
    exact hnone b (inv.unb b h1) h2

theorem mem_readsT {o : TOper} {t : Tmp} (h : Operand.tmp t ∈ o.op.operands) : t ∈ readsT o :=
  List.mem_append_left _ (List.mem_filterMap.2 ⟨.tmp t, by simpa using h, rfl⟩)

/-- **One operation of a region, whichever comes next.** -/
theorem drawn_step (hz : zerosPlain C.P) (hF : Wide F) (hcall : CallOk C F n call) (r : Ref C.P call ops A H V) (hp : Pre ops pre) (h0 : WF (H 0)) (hG : GRel C.G β0) (hB : Base C (H 0)) {opa : Array Oper} {i : Nat} {o : TOper} {o' : Oper}
    (q1 : opa[i]? = some o') (q2 : o.op = o'.op) (q3 : o.type = o'.type) (q4 : o.dst = o'.dst) (q5 : gtOf opa o' = some o.gt) (q6 : opOk o'.op = true) (rdy : opReady C.G m o = true)
    (inv : DInv C ops A H V m β0 w0 D p l w β) (hcl : ∀ k k', D k → pre k' k → D k') (ho : ops[k]? = some o) (hD : ¬ D k) (hpre : ∀ k', pre k' k → D k') {K : Act → World → Prop} {Q : Exit → Act → World → Prop} {Dd : List Deferred}
    (hK : ∀ l' w' β' p', DInv C ops A H V m β0 w0 (fun q => D q ∨ q = k) p' l' w' β' → K ⟨l', Dd⟩ w') : wpOpIn F n C.P opa Q i K ⟨l, Dd⟩ w := by
  have hc : CallT call := fun fv args h v h' hs => (hcall fv args h v h' hs).1
  have hlt : k < ops.length := (List.getElem?_eq_some_iff.1 ho).1
  simp only [opReady, Bool.and_eq_true] at rdy
  have hread : ∀ t, t ∈ readsT o → VRel β ((A k).at_ t) (l.getD t undef) := fun t ht => inv.reads r hp hcl ho hD hpre ht
  have hGβ : GRel C.G β := hG.mono inv.step.ext
  have hρ : ∀ x, x ∈ o.op.operands → VRel β ((A k).eval x) ((⟨l, Dd⟩ : Act).eval x) := fun x hx =>
    eval_rel hGβ (List.all_eq_true.1 rdy.2 x (by simpa using hx)) fun t e => hread t (mem_readsT (e ▸ hx))
  have hwant : Region.wanted o' (yielded opa l) = wantT o.gt (A k) := wanted_rel q5 fun t q e => hread t (List.mem_append_right _ (by rw [e]; simp))
  -- the reference is brought to this operation
  obtain ⟨p1, inv1, hp1⟩ : ∃ p1, DInv C ops A H V m β0 w0 D p1 l w β ∧ ((kindOf o.op = .pure) ∨ (kindOf o.op = .any ∧ p1 = k) ∨ (kindOf o.op ≠ .any ∧ k < p1)) := by
    have hcalm : kindOf o.op ≠ .pure → ∀ q oq, p ≤ q → q < k → ops[q]? = some oq → kindOf oq.op ≠ .any := fun hnp q oq h1 h2 h3 h4 =>
      inv.hi q oq h1 h3 (by rw [h4]; intro h; cases h) (hpre q (hp.anyb k q o oq ho h3 h2 h4 hnp))
    cases hk : kindOf o.op with
    | pure => exact ⟨p, inv, .inl rfl⟩
    | any =>
      have hnp : kindOf o.op ≠ .pure := by rw [hk]; intro h; cases h
      have hpk : p ≤ k := by
        rcases Nat.lt_or_ge k p with h | h
        · exact absurd (inv.lo k o h ho hk) hD
        · exact h
      exact ⟨k, inv.advances r hc hp h0 hpk (Nat.le_of_lt hlt) (hcalm hnp), .inr (.inl ⟨rfl, rfl⟩)⟩
    | reads xs nw =>
      have hnp : kindOf o.op ≠ .pure := by rw [hk]; intro h; cases h
      have hna : kindOf o.op ≠ .any := by rw [hk]; intro h; cases h
      rcases Nat.lt_or_ge k p with h | h
      · exact ⟨p, inv, .inr (.inr ⟨(by intro h; cases h), h⟩)⟩
      · refine ⟨k + 1, inv.advances r hc hp h0 (by omega) hlt fun q oq h1 h2 h3 => ?_, .inr (.inr ⟨(by intro h; cases h), Nat.lt_succ_self k⟩)⟩
        by_cases e : q = k
        · subst e; rw [ho] at h3; cases h3; exact hna
        · exact hcalm hnp q oq h1 (by omega) h3
  unfold wpOpIn
  simp only [q1, hwant]
  rcases (r.step k o ho).1 with ⟨hw, hs⟩ | ⟨hw, hv, hh⟩
  · simp only [hw, if_true]
    refine ⟨fun f _ => hF.fn f, ?_⟩
    rw [semAt_ok q6]
    -- values alone
    have early : H (k + 1) = H k → (fastOp o.op (A k).eval = some (V k) ∨ valueOp C.P o (A k).eval = some (V k) ∨ plainOp C.P o (A k).eval = some (V k)) → (kindOf o.op = .pure ∨ (kindOf o.op ≠ .any ∧ k < p1)) →
        o'.uponIn F n C.P ⟨l, Dd⟩ K Q ((execOp (⟨l, Dd⟩ : Act).eval o').run C.P w) := by
      intro hh he hkk
      obtain ⟨v', e1, e2⟩ := early_sim hz q2.symm q3.symm he hρ
      rw [e2 w]
      obtain ⟨l', f1, f2, f3⟩ := put_getD (d := o.dst) rdy.1 inv1.sz v' Dd
      show K ((⟨l, Dd⟩ : Act).put o'.dst v') w
      rw [← q4, f1]
      exact hK _ _ _ _ (inv1.still hp ho hh (hkk.elim .inr fun h => .inl h.2) e1 f3 f2)
    rcases hp1 with hk | ⟨hk, rfl⟩ | ⟨hk, hkp⟩
    · have hna : kindOf o.op ≠ .any := by rw [hk]; intro h; cases h
      unfold stepL at hs
      rw [hp.nl k o ho hna] at hs
      rcases stepOp_cases hs with h1 | ⟨h1, h2⟩
      · exact (heapOp_pure hk h1).elim
      · exact early h1 h2 (.inl hk)
    · obtain ⟨t, u⟩ := stepL_sim hz hcall q2.symm q3.symm hs hρ (inv1.good (r.wf hc h0 (Nat.le_of_lt hlt)) hG ((r.tss hc (Nat.zero_le _) (Nat.le_of_lt hlt)).base h0 hB))
      refine u o' ⟨l, Dd⟩ K Q fun v' w' β' g1 g2 => ?_
      obtain ⟨l', f1, f2, f3⟩ := put_getD (d := o.dst) rdy.1 inv1.sz v' Dd
      rw [← q4, f1]
      rw [(r.tss hc (Nat.zero_le _) (Nat.le_of_lt hlt)).floor] at g2
      exact hK _ _ _ _ (inv1.anyStep hG hB r hc hp h0 ho g1 hk g2 f3 f2)
    · cases hkd : kindOf o.op with
      | any => exact absurd hkd hk
      | pure =>
        unfold stepL at hs
        rw [hp.nl k o ho hk] at hs
        rcases stepOp_cases hs with h1 | ⟨h1, h2⟩
        · exact (heapOp_pure hkd h1).elim
        · exact early h1 h2 (.inl hkd)
      | reads xs nw =>
        unfold stepL at hs
        rw [hp.nl k o ho hk] at hs
        rcases stepOp_cases hs with h1 | ⟨h1, h2⟩
        · obtain ⟨v', w', β', e2, e3, e4⟩ := inv1.readStep (sn := execOp (⟨l, Dd⟩ : Act).eval o') r hc hp h0 hcl ho hkp hD hkd
            (fun a b => reads_sim (f := (H 0).floor) (w := w) hz q2.symm hkd h1 hρ a inv1.step.rel inv1.step.inj b) (heapOp_reads hkd h1).2
          obtain ⟨l', f1, f2, f3⟩ := put_getD (d := o.dst) rdy.1 inv1.sz v' Dd
          rw [e2]
          show K ((⟨l, Dd⟩ : Act).put o'.dst v') w'
          rw [← q4, f1]
          exact hK _ _ _ _ (e4 l' f3 f2)
        · exact early h1 h2 (.inr ⟨hk, hkp⟩)
  · simp only [hw, Bool.false_eq_true, if_false]
    refine ⟨fun f _ => hF.fn f, ?_⟩
    obtain ⟨l', f1, f2, f3⟩ := put_getD (d := o.dst) rdy.1 inv1.sz undef Dd
    rw [← q4, f1]
    have hvr : VRel β (V k) undef := by rw [hv]; exact .undef
    rcases hp1 with hk | ⟨hk, rfl⟩ | ⟨hk, hkp⟩
    · exact hK _ _ _ _ (inv1.still hp ho hh (.inr hk) hvr f3 f2)
    · exact hK _ _ _ _ (inv1.over hp ho hh hk hvr f3 f2)
    · exact hK _ _ _ _ (inv1.still hp ho hh (.inl hkp) hvr f3 f2)

end Go.Tidy

/- Regions that draw their order, whole. -/
namespace Go.Tidy
open Go

theorem mem_take_rev {l : List Nat} {k j : Nat} {bef : List Nat} : j ∈ (l.take k).reverse ++ bef ↔ (∃ k', k' < k ∧ l[k']? = some j) ∨ j ∈ bef := by
  rw [List.mem_append, List.mem_reverse]
  refine or_congr_left ?_
  constructor
  · intro h
    obtain ⟨k', h1⟩ := List.mem_iff_getElem?.1 h
    rw [List.getElem?_take] at h1
    split at h1
    · exact ⟨k', by assumption, h1⟩
    · cases h1
  · rintro ⟨k', h1, h2⟩
    exact List.mem_iff_getElem?.2 ⟨k', by rw [List.getElem?_take, if_pos h1]; exact h2⟩

theorem take_succ_rev {x : Nat} {r : List Nat} {k : Nat} (bef : List Nat) : ((x :: r).take (k + 1)).reverse ++ bef = (r.take k).reverse ++ (x :: bef) := by simp

theorem mkOps_spec {opa : Array Oper} {ops : List Oper} {S : List (List Nat)} {draw : Bool} : ∀ {l bef : List Nat} {ts : List TOper}, mkOps opa ops S draw bef l = some ts →
    ts.length = l.length ∧ ∀ (k i : Nat), l[k]? = some i → ∃ gt, gtOf opa (ops.getD i default) = some gt ∧ opOk (ops.getD i default).op = true ∧
      ts[k]? = some (TOper.mk (ops.getD i default).dst (ops.getD i default).op (ops.getD i default).type gt (cond (draw && isAny (ops.getD i default)) (locksOf ops S i ((l.take k).reverse ++ bef)) []) i) := by
  intro l
  induction l with
  | nil =>
    intro bef ts h
    simp only [mkOps, Option.some.injEq] at h
    subst h
    exact ⟨rfl, fun k i hk => by simp at hk⟩
  | cons x r ih =>
    intro bef ts h
    simp only [mkOps] at h
    rw [Option.bind_eq_some_iff] at h
    obtain ⟨gt, hgt, h⟩ := h
    obtain ⟨ho, h1⟩ := cond_some h
    clear h
    have h := h1
    clear h1
    rw [Option.map_eq_some_iff] at h
    obtain ⟨l', hl', rfl⟩ := h
    obtain ⟨h1, h2⟩ := ih hl'
    refine ⟨by simp [h1], fun k i hk => ?_⟩
    cases k with
    | zero =>
      simp only [List.getElem?_cons_zero, Option.some.injEq] at hk
      subst hk
      exact ⟨gt, hgt, ho, by simp⟩
    | succ k =>
      obtain ⟨gt', q1, q2, q3⟩ := h2 k i (by simpa using hk)
      refine ⟨gt', q1, q2, ?_⟩
      rw [take_succ_rev]
      simpa using q3

theorem orderOk_spec {ops : List Oper} {S : List (List Nat)} {dsts : List (Option Tmp)} : ∀ {l bef : List Nat}, orderOk ops S dsts bef l = true → ∀ k i, l[k]? = some i →
    (∀ j, j ∈ S.getD i [] → j ∈ (l.take k).reverse ++ bef) ∧ i ∉ (l.take k).reverse ++ bef ∧ i < ops.length ∧
    (match kindOf (ops.getD i default).op with
     | .pure => True
     | .reads xs _ => (∀ j, j ∈ (l.take k).reverse ++ bef → isAny (ops.getD j default) = true → j ∈ S.getD i []) ∧ ∀ x, x ∈ xs → readBefore S dsts i x = true
     | .any => ∀ j, j ∈ (l.take k).reverse ++ bef → isAny (ops.getD j default) = true → j ∈ S.getD i []) := by
  intro l
  induction l with
  | nil => intro bef _ k i hk; simp at hk
  | cons x r ih =>
    intro bef h k i hk
    simp only [orderOk, Bool.and_eq_true] at h
    obtain ⟨⟨⟨h1, h2⟩, h3⟩, h4⟩ := h
    cases k with
    | zero =>
      simp only [List.getElem?_cons_zero, Option.some.injEq] at hk
      subst hk
      simp only [List.take_zero, List.reverse_nil, List.nil_append]
      refine ⟨fun j hj => ?_, ?_, by simpa using h2.2, ?_⟩
      · simpa using List.all_eq_true.1 h1 j hj
      · have := h2.1; simpa using this
      · cases hkd : kindOf (ops.getD x default).op with
        | pure => trivial
        | reads xs nw =>
          simp only [hkd, Bool.and_eq_true] at h3
          refine ⟨fun j hj ha => ?_, fun y hy => List.all_eq_true.1 h3.2 y hy⟩
          have := List.all_eq_true.1 h3.1 j hj
          rw [ha] at this
          simpa using this
        | any =>
          simp only [hkd] at h3
          intro j hj ha
          have := List.all_eq_true.1 h3 j hj
          rw [ha] at this
          simpa using this
    | succ k =>
      rw [take_succ_rev]
      exact ih h4 k i (by simpa using hk)

theorem dstsOk_spec : ∀ {l : List (Option Tmp)}, dstsOk l = true → ∀ (j j' : Nat) (t : Tmp), l[j]? = some (some t) → l[j']? = some (some t) → j = j' := by
  intro l
  induction l with
  | nil => intro _ j j' t h; simp at h
  | cons x r ih =>
    intro h j j' t hj hj'
    cases x with
    | none =>
      simp only [dstsOk] at h
      cases j with
      | zero => simp at hj
      | succ j => cases j' with
        | zero => simp at hj'
        | succ j' => rw [ih h j j' t (by simpa using hj) (by simpa using hj')]
    | some u =>
      simp only [dstsOk, Bool.and_eq_true] at h
      have hnot : some u ∉ r := by simpa using h.1
      cases j with
      | zero =>
        cases j' with
        | zero => rfl
        | succ j' =>
          simp only [List.getElem?_cons_zero, Option.some.injEq] at hj
          subst hj
          exact absurd (List.mem_of_getElem? (by simpa using hj')) hnot
      | succ j =>
        cases j' with
        | zero =>
          simp only [List.getElem?_cons_zero, Option.some.injEq] at hj'
          subst hj'
          exact absurd (List.mem_of_getElem? (by simpa using hj)) hnot
        | succ j' => rw [ih h.2 j j' t (by simpa using hj) (by simpa using hj')]

theorem edgesOk_spec : ∀ {l : List Oper} {b : Nat}, edgesOk b l = true → ∀ k o, l[k]? = some o → ∀ j, j ∈ direct o → j < b + k := by
  intro l
  induction l with
  | nil => intro b _ k o h; simp at h
  | cons x r ih =>
    intro b h k o hk j hj
    simp only [edgesOk, Bool.and_eq_true] at h
    cases k with
    | zero =>
      simp only [List.getElem?_cons_zero, Option.some.injEq] at hk
      subst hk
      have := List.all_eq_true.1 h.1 j hj
      simpa using this
    | succ k =>
      have := ih h.2 k o (by simpa using hk) j hj
      omega

theorem covered_spec {S : List (List Nat)} : ∀ {l : List Oper} {b : Nat}, covered S b l = true → ∀ k o, l[k]? = some o → ∀ j, j ∈ S.getD (b + k) [] → ∃ d, d ∈ direct o ∧ (d = j ∨ j ∈ S.getD d []) := by
  intro l
  induction l with
  | nil => intro b _ k o h; simp at h
  | cons x r ih =>
    intro b h k o hk j hj
    simp only [covered, Bool.and_eq_true] at h
    cases k with
    | zero =>
      simp only [List.getElem?_cons_zero, Option.some.injEq] at hk
      subst hk
      have h1 := List.all_eq_true.1 h.1 j (by simpa using hj)
      obtain ⟨d, hd, h2⟩ := List.any_eq_true.1 h1
      simp only [Bool.and_eq_true, Bool.or_eq_true] at h2
      refine ⟨d, hd, ?_⟩
      rcases h2.2 with h3 | h3
      · exact .inl (Nat.eq_of_beq_eq_true h3)
      · exact .inr (by simpa using h3)
    | succ k =>
      exact ih h.2 k o (by simpa using hk) j (by rwa [show b + 1 + k = b + (k + 1) by omega])

theorem isAny_iff {o : Oper} : isAny o = true ↔ kindOf o.op = .any := by
  unfold isAny
  cases kindOf o.op <;> simp

theorem locksOf_mem {ops : List Oper} {S : List (List Nat)} {q : Nat} : ∀ {bef : List Nat} {i : Nat} {xs : List Operand} {nw : Bool}, i ∈ bef → i ∉ S.getD q [] → kindOf (ops.getD i default).op = .reads xs nw →
    (∀ x, x ∈ xs → x ∈ locksOf ops S q bef) ∧ (nw = true → ∀ d, (ops.getD i default).dst = some d → .tmp d ∈ locksOf ops S q bef) := by
  intro bef
  induction bef with
  | nil => intro i xs nw h; cases h
  | cons y r ih =>
    intro i xs nw hi hn hk
    simp only [locksOf]
    by_cases e : i = y
    · subst e
      have : (S.getD q []).contains i = false := by simpa using hn
      rw [this]
      simp only [cond, hk]
      refine ⟨fun x hx => List.mem_append_right _ (List.mem_append_left _ hx), fun hnw d hd => ?_⟩
      subst hnw
      rw [hd]
      simp
    · obtain ⟨h1, h2⟩ := ih (by rcases List.mem_cons.1 hi with h | h; exact absurd h e; exact h) hn hk
      have key : ∀ z, z ∈ locksOf ops S q r → z ∈ (cond ((S.getD q []).contains y) (locksOf ops S q r)
          (match kindOf (ops.getD y default).op with
           | .reads xs new => (cond new (match (ops.getD y default).dst with | some d => [.tmp d] | none => []) []) ++ (xs ++ locksOf ops S q r)
           | _ => locksOf ops S q r)) := by
        intro z hz
        cases (S.getD q []).contains y with
        | true => exact hz
        | false =>
          simp only [cond]
          cases kindOf (ops.getD y default).op with
          | reads xs nw => exact List.mem_append_right _ (List.mem_append_right _ hz)
          | pure => exact hz
          | any => exact hz
      exact ⟨fun x hx => key _ (h1 x hx), fun hnw d hd => key _ (h2 hnw d hd)⟩

/-- The order that was found. -/
def preOf (S : List (List Nat)) (ord : List Nat) (k' k : Nat) : Prop := ∃ i i', ord[k]? = some i ∧ ord[k']? = some i' ∧ i' ∈ S.getD i []

structure Found (opa : Array Oper) (S : List (List Nat)) (ord : List Nat) (ts : List TOper) : Prop where
  len : ts.length = ord.length
  at_ : ∀ (k i : Nat), ord[k]? = some i → ∃ o t, opa[i]? = some o ∧ ts[k]? = some t ∧ t.op = o.op ∧ t.type = o.type ∧ t.dst = o.dst ∧ gtOf opa o = some t.gt ∧ opOk o.op = true
  inj : ∀ (k k' i : Nat), ord[k]? = some i → ord[k']? = some i → k = k'
  all : ∀ i, i < opa.size → ∃ k : Nat, ord[k]? = some i
  cov : ∀ i o, opa[i]? = some o → ∀ j, j ∈ S.getD i [] → ∃ d, d ∈ direct o ∧ (d = j ∨ j ∈ S.getD d [])
  edges : ∀ i o, opa[i]? = some o → ∀ j, j ∈ direct o → j < i
  pre : Pre ts (preOf S ord)

theorem found_of {opa : Array Oper} {ts : List TOper} (h : regOps opa true = some ts) : ∃ S ord, Found opa S ord ts := by
  have h' : cond (regOk opa opa.toList (reach opa.toList []) (opa.toList.map (·.dst)) (order opa.toList (reach opa.toList []) opa.toList.length []))
      (mkOps opa opa.toList (reach opa.toList []) true [] (order opa.toList (reach opa.toList []) opa.toList.length [])) none = some ts := h
  generalize reach opa.toList [] = S at h'
  generalize order opa.toList S opa.toList.length [] = ord at h'
  obtain ⟨hok, hmk⟩ := cond_some h'
  clear h h'
  refine ⟨S, ord, ?_⟩
  simp only [regOk, Bool.and_eq_true] at hok
  obtain ⟨hall, hcov, hdst, hord, hrd, hedge, hnm⟩ := hok
  obtain ⟨hlen, hat⟩ := mkOps_spec hmk
  have hO := orderOk_spec hord
  have hinj : ∀ (k k' i : Nat), ord[k]? = some i → ord[k']? = some i → k = k' := by
    intro k k' i h1 h2
    rcases Nat.lt_trichotomy k k' with h | h | h
    · exact absurd (mem_take_rev.2 (.inl ⟨k, h, h1⟩)) (hO k' i h2).2.1
    · exact h
    · exact absurd (mem_take_rev.2 (.inl ⟨k', h, h2⟩)) (hO k i h1).2.1
  have hget : ∀ i o, opa[i]? = some o → opa.toList.getD i default = o := fun i o ho => by
    rw [List.getD_eq_getElem?_getD, Array.getElem?_toList, ho]; rfl
  have hA : ∀ (k i : Nat), ord[k]? = some i → ∃ o t, opa[i]? = some o ∧ ts[k]? = some t ∧ t.op = o.op ∧ t.type = o.type ∧ t.dst = o.dst ∧ gtOf opa o = some t.gt ∧ opOk o.op = true ∧
      t.locks = cond (isAny o) (locksOf opa.toList S i ((ord.take k).reverse ++ [])) [] := by
    intro k i hk
    have hlt : i < opa.size := by simpa using (hO k i hk).2.2.1
    obtain ⟨gt, q1, q2, q3⟩ := hat k i hk
    have ho : opa[i]? = some opa[i] := Array.getElem?_eq_getElem hlt
    rw [hget i _ ho] at q1 q2 q3
    exact ⟨opa[i], _, ho, q3, rfl, rfl, rfl, q1, q2, by simp⟩
  have hback : ∀ (k : Nat) (t : TOper), ts[k]? = some t → ∃ i o, ord[k]? = some i ∧ opa[i]? = some o ∧ t.op = o.op ∧ t.dst = o.dst ∧ gtOf opa o = some t.gt ∧ t.locks = cond (isAny o) (locksOf opa.toList S i ((ord.take k).reverse ++ [])) [] := by
    intro k t hk
    have hlt : k < ord.length := by rw [← hlen]; exact (List.getElem?_eq_some_iff.1 hk).1
    have hi : ord[k]? = some ord[k] := List.getElem?_eq_getElem hlt
    obtain ⟨o, t', q1, q2, q3, q4, q5, q6, q7, q8⟩ := hA k _ hi
    rw [hk] at q2; cases q2
    exact ⟨_, o, hi, q1, q3, q5, q6, q8⟩
  have hbef : ∀ k j, j ∈ (ord.take k).reverse ++ [] ↔ ∃ k', k' < k ∧ ord[k']? = some j := fun k j => by
    rw [mem_take_rev]; simp
  have hdd : ∀ i o, opa[i]? = some o → (opa.toList.map (·.dst)).getD i none = o.dst := fun i o ho => by
    rw [List.getD_eq_getElem?_getD, List.getElem?_map, Array.getElem?_toList, ho]; rfl
  have hdl : ∀ i o, opa[i]? = some o → i ∈ List.range (opa.toList.map (·.dst)).length := fun i o ho => by
    have := (Array.getElem?_eq_some_iff.1 ho).1
    simpa using this
  refine ⟨hlen, ?_, hinj, ?_, ?_, ?_, ?_⟩
  · intro k i hk
    obtain ⟨o, t, q1, q2, q3, q4, q5, q6, q7, _⟩ := hA k i hk
    exact ⟨o, t, q1, q2, q3, q4, q5, q6, q7⟩
  · intro i hi
    have := List.all_eq_true.1 hall i (by simpa using hi)
    exact List.mem_iff_getElem?.1 (by simpa using this)
  · intro i o ho j hj
    exact covered_spec hcov i o (by rw [Array.getElem?_toList]; exact ho) j (by simpa using hj)
  · intro i o ho j hj
    have := edgesOk_spec hedge i o (by rw [Array.getElem?_toList]; exact ho) j hj
    omega
  · refine ⟨?_, ?_, ?_, ?_, ?_, ?_, ?_, ?_⟩
    · rintro k k' ⟨i, i', h1, h2, h3⟩
      obtain ⟨k'', h4, h5⟩ := (hbef k i').1 ((hO k i h1).1 i' h3)
      rw [hinj k' k'' i' h2 h5]; exact h4
    · intro k k' o o' ho ho' hlt ha hnp
      obtain ⟨i, u, q1, q2, q3, _⟩ := hback k o ho
      obtain ⟨i', u', p1, p2, p3, _⟩ := hback k' o' ho'
      refine ⟨i, i', q1, p1, ?_⟩
      have hm := (hO k i q1).2.2.2
      have hb : i' ∈ (ord.take k).reverse ++ [] := (hbef k i').2 ⟨k', hlt, p1⟩
      have hany : isAny (opa.toList.getD i' default) = true := by rw [hget i' u' p2, isAny_iff, ← p3]; exact ha
      rw [hget i u q2, ← q3] at hm
      cases hk : kindOf o.op with
      | pure => exact absurd hk hnp
      | reads xs nw => rw [hk] at hm; exact hm.1 i' hb hany
      | any => rw [hk] at hm; exact hm i' hb hany
    · intro k o xs nw k' o' t ho hk hx ho' hd
      obtain ⟨i, u, q1, q2, q3, _⟩ := hback k o ho
      obtain ⟨i', u', p1, p2, p3, p4, _⟩ := hback k' o' ho'
      refine ⟨i, i', q1, p1, ?_⟩
      have hm := (hO k i q1).2.2.2
      rw [hget i u q2, ← q3, hk] at hm
      have h1 := hm.2 _ hx
      simp only [readBefore] at h1
      have h2 := List.all_eq_true.1 h1 i' (hdl i' u' p2)
      rw [hdd i' u' p2, ← p4, hd] at h2
      simpa using h2
    · intro k o k' o' t ho ho' ht hd
      obtain ⟨i, u, q1, q2, q3, q4, q5, _⟩ := hback k o ho
      obtain ⟨i', u', p1, p2, p3, p4, _⟩ := hback k' o' ho'
      have hz : (u, i) ∈ opa.toList.zipIdx := by
        rw [List.mem_zipIdx_iff_getElem?]
        simpa using q2
      have h1 := List.all_eq_true.1 hrd (u, i) hz
      simp only [q5] at h1
      have h2 := List.all_eq_true.1 h1 t (by
        unfold readsT at ht
        unfold readsOf
        rw [← q3]
        exact ht)
      have h3 := List.all_eq_true.1 h2 i' (hdl i' u' p2)
      rw [hdd i' u' p2, ← p4, hd] at h3
      simp only [bne_self_eq_false, Bool.or_false, Bool.or_eq_true] at h3
      rcases h3 with (h3 | h3) | h3
      · have := Nat.eq_of_beq_eq_true h3
        subst this
        exact .inl (hinj _ _ _ p1 q1)
      · exact .inr (.inl ⟨i, i', q1, p1, by simpa using h3⟩)
      · exact .inr (.inr ⟨i', i, p1, q1, by simpa using h3⟩)
    · intro k o k' o' t ho ho' hd hd'
      obtain ⟨i, u, q1, q2, q3, q4, _⟩ := hback k o ho
      obtain ⟨i', u', p1, p2, p3, p4, _⟩ := hback k' o' ho'
      have : i = i' := dstsOk_spec hdst i i' t (by rw [List.getElem?_map, Array.getElem?_toList, q2, ← hd, q4]; rfl) (by rw [List.getElem?_map, Array.getElem?_toList, p2, ← hd', p4]; rfl)
      subst this
      exact hinj _ _ _ q1 p1
    · intro k o k' o' xs nw ho ho' ha hk hlt hnp
      obtain ⟨i, u, q1, q2, q3, q4, q5, q6⟩ := hback k o ho
      obtain ⟨i', u', p1, p2, p3, p4, p5, p6⟩ := hback k' o' ho'
      have hany : isAny u = true := by rw [isAny_iff, ← q3]; exact ha
      rw [q6, hany]
      have := locksOf_mem (ops := opa.toList) (S := S) (q := i) (i := i') (xs := xs) (nw := nw) ((hbef k i').2 ⟨k', hlt, p1⟩) (fun hc => hnp ⟨i, i', q1, p1, hc⟩) (by rw [hget i' u' p2, ← p3]; exact hk)
      rw [hget i' u' p2, ← p4] at this
      exact this
    · intro k o xs ho hk
      obtain ⟨i, u, q1, q2, q3, q4, _⟩ := hback k o ho
      have := List.all_eq_true.1 hnm u (by simpa using Array.mem_of_getElem? q2)
      simp only [namedOk, ← q3, hk, ← q4] at this
      exact Option.isSome_iff_exists.1 this
    · intro k o ho hk
      obtain ⟨i, u, q1, q2, q3, q4, q5, q6⟩ := hback k o ho
      have : isAny u = false := by
        cases h : isAny u with
        | false => rfl
        | true => rw [isAny_iff, ← q3] at h; exact absurd h hk
      rw [q6, this]
      rfl

end Go.Tidy

/- Regions. -/
namespace Go.Tidy
open Go

variable {C : Env} {F : Fence} {n : Nat} {call : Value → Array Value → TH → Option (Value × TH)}

theorem ready_mem {opa : Array Oper} {lst : Array Bool} {i : Nat} (h : i ∈ Region.ready .any opa lst) : i < opa.size ∧ lst.getD i true = false ∧ ∀ o, opa[i]? = some o → ∀ j, j ∈ direct o → lst.getD j false = true := by
  unfold Region.ready at h
  rw [List.mem_filter] at h
  obtain ⟨h1, h2⟩ := h
  simp only [Bool.and_eq_true] at h2
  refine ⟨by simpa using h1, by simpa using h2.1, fun o ho j hj => ?_⟩
  have h3 := h2.2
  rw [ho] at h3
  simp only [Option.map_some, Option.getD_some] at h3
  unfold direct at hj
  rw [List.mem_map] at hj
  obtain ⟨e, he, rfl⟩ := hj
  rw [List.mem_filter] at he
  have h4 := Array.all_eq_true_iff_forall_mem.1 h3 e (by simpa using he.1)
  rw [he.2] at h4
  simpa using h4

theorem mem_ready {opa : Array Oper} {lst : Array Bool} {i : Nat} {o : Oper} (ho : opa[i]? = some o) (h1 : lst.getD i true = false) (h2 : ∀ j, j ∈ direct o → lst.getD j false = true) : i ∈ Region.ready .any opa lst := by
  unfold Region.ready
  rw [List.mem_filter]
  have hlt := (Array.getElem?_eq_some_iff.1 ho).1
  refine ⟨by simpa using hlt, ?_⟩
  rw [ho, h1]
  simp only [Bool.not_false, Bool.true_and, Option.map_some, Option.getD_some]
  refine Array.all_eq_true_iff_forall_mem.2 fun e he => ?_
  cases hb : Region.binds .any e with
  | false => rfl
  | true =>
    have := h2 e.on (by
      unfold direct
      exact List.mem_map.2 ⟨e, List.mem_filter.2 ⟨by simpa using he, hb⟩, rfl⟩)
    simp [this]

theorem Step.drawn {f : Nat} {β : Emb} {g : HG} {w : World} (rel : HRel C β g w) (inj : Inj β g) (k : Nat) : Step C f β g w β g { w with drawn := k } :=
  ⟨Ext.refl β, fun _ _ h => .inl h, fun _ x h => ⟨x, h⟩, fun _ _ _ h => h, fun b x e h1 h2 => (rel b x e h1 h2).world fun _ => rfl, inj, rfl, rfl, rfl, Nat.le_refl _, fun _ _ _ => rfl, fun b e h ⟨x, hx, _⟩ _ => by rw [h] at hx; cases hx⟩

theorem drawn_all (hz : zerosPlain C.P) (hF : Wide F) (hcall : CallOk C F n call) {opa : Array Oper} {S : List (List Nat)} {ord : List Nat} {ops : List TOper} (fd : Found opa S ord ops) {m : Nat} (rdy : ops.all (opReady C.G m) = true)
    {A : Nat → Regs} {H : Nat → TH} {V : Nat → Value} (r : Ref C.P call ops A H V) (h0 : WF (H 0)) {β0 : Emb} {w0 : World} (hG : GRel C.G β0) (hB : Base C (H 0)) {Dd : List Deferred} {Q : Exit → Act → World → Prop}
    (hQ : ∀ l w β, (∀ t, VRel β ((A ops.length).at_ t) (l.getD t undef)) → m ≤ l.size → Step C (H 0).floor β0 (H 0).get w0 β (H ops.length).get w → Good C β (H ops.length) w → Q .normal ⟨l, Dd⟩ w) :
    ∀ (fuel : Nat) (lst : Array Bool) (p : Nat) (l : Array Value) (w : World) (β : Emb), lst.size = opa.size → lst.toList.count false ≤ fuel →
      (∀ i j, lst.getD i false = true → j ∈ S.getD i [] → lst.getD j false = true) →
      DInv C ops A H V m β0 w0 (fun k => ∃ i, ord[k]? = some i ∧ lst.getD i false = true) p l w β → wpAnyIn F n C.P .any opa Q fuel lst ⟨l, Dd⟩ w := by
  have hc : CallT call := fun fv args h v h' hs => (hcall fv args h v h' hs).1
  intro fuel
  have hend : ∀ (lst : Array Bool) (p : Nat) (l : Array Value) (w : World) (β : Emb), lst.size = opa.size → Region.ready .any opa lst = [] →
      DInv C ops A H V m β0 w0 (fun k => ∃ i, ord[k]? = some i ∧ lst.getD i false = true) p l w β → Q .normal ⟨l, Dd⟩ w := by
    intro lst p l w β hsz hr inv
    have hall : ∀ i, i < opa.size → lst.getD i false = true := by
      intro i
      induction i using Nat.strongRecOn with
      | _ i ih =>
        intro hi
        have ho : opa[i]? = some opa[i] := Array.getElem?_eq_getElem hi
        cases hb : lst.getD i true with
        | true =>
          rw [Array.getD_eq_getD_getElem?, Array.getElem?_eq_getElem (by omega)] at hb ⊢
          exact hb
        | false =>
          have := mem_ready ho hb (fun j hj => ih j (fd.edges i _ ho j hj) (by have := fd.edges i _ ho j hj; omega))
          rw [hr] at this
          cases this
    have hD : ∀ (k : Nat) (o : TOper), ops[k]? = some o → ∃ i, ord[k]? = some i ∧ lst.getD i false = true := by
      intro k o hk
      have hlt : k < ord.length := by rw [← fd.len]; exact (List.getElem?_eq_some_iff.1 hk).1
      have hi : ord[k]? = some ord[k] := List.getElem?_eq_getElem hlt
      obtain ⟨o', t, q1, _⟩ := fd.at_ k _ hi
      exact ⟨_, hi, hall _ (Array.getElem?_eq_some_iff.1 q1).1⟩
    have inv1 := inv.advances r hc fd.pre h0 inv.le (Nat.le_refl _) (fun k o h1 _ h2 h3 => inv.hi k o h1 h2 (by rw [h3]; intro h; cases h) (hD k o h2))
    have hU : ∀ b, ¬ Unb ops H (fun k => ∃ i, ord[k]? = some i ∧ lst.getD i false = true) ops.length b := by
      rintro b ⟨k, o, _, h2, h3, _⟩
      exact h3 (hD k o h2)
    have hg : hid (Unb ops H (fun k => ∃ i, ord[k]? = some i ∧ lst.getD i false = true) ops.length) (H ops.length).get = (H ops.length).get := funext fun b => hid_of (hU b)
    have hst := inv1.step
    rw [hg] at hst
    refine hQ l w β (fun t => ?_) inv.sz hst (inv1.good (r.wf hc h0 (Nat.le_refl _)) hG ((r.tss hc (Nat.zero_le _) (Nat.le_refl _)).base h0 hB))
    by_cases hw : ∃ (k : Nat) (o : TOper), ops[k]? = some o ∧ o.dst = some t
    · obtain ⟨k, o, h1, h2⟩ := hw
      rw [r.at_new fd.pre h1 h2 (List.getElem?_eq_some_iff.1 h1).1 (Nat.le_refl _)]
      exact inv.r1 k o t (hD k o h1) h1 h2
    · rw [r.at_old (Nat.le_refl _) (fun k o _ h1 h2 => hw ⟨k, o, h1, h2⟩)]
      exact inv.r2 t fun k o h1 h2 _ => hw ⟨k, o, h1, h2⟩
  induction fuel with
  | zero =>
    intro lst p l w β hsz hcnt hcl inv
    have hr : Region.ready .any opa lst = [] := by
      apply List.eq_nil_iff_forall_not_mem.2
      intro i hi
      obtain ⟨h1, h2, _⟩ := ready_mem hi
      have h3 : lst.toList.count false = 0 := by omega
      rw [List.count_eq_zero] at h3
      apply h3
      rw [Array.getD_eq_getD_getElem?, Array.getElem?_eq_getElem (by omega)] at h2
      simp only [Option.getD_some] at h2
      rw [← h2]
      simp
    exact ⟨hr, hend lst p l w β hsz hr inv⟩
  | succ fuel ih =>
    intro lst p l w β hsz hcnt hcl inv
    refine ⟨fun hr => hend lst p l w β hsz hr inv, fun i hi => ?_⟩
    obtain ⟨h1, h2, h3⟩ := ready_mem hi
    obtain ⟨k, hk⟩ := fd.all i h1
    obtain ⟨o', t, q1, q2, q3, q4, q5, q6, q7⟩ := fd.at_ k i hk
    have hi2 : lst[i]? = some false := by
      rw [Array.getD_eq_getD_getElem?, Array.getElem?_eq_getElem (by omega)] at h2
      simp only [Option.getD_some] at h2
      rw [Array.getElem?_eq_getElem (by omega), h2]
    have hnot : lst.getD i false = false := by rw [Array.getD_eq_getD_getElem?, hi2]; rfl
    have hSi : ∀ j, j ∈ S.getD i [] → lst.getD j false = true := by
      intro j hj
      obtain ⟨d, hd, h4⟩ := fd.cov i o' q1 j hj
      have h5 := h3 o' q1 d hd
      rcases h4 with rfl | h4
      · exact h5
      · exact hcl d j h5 h4
    have hset : ∀ j, (lst.setIfInBounds i true).getD j false = true ↔ lst.getD j false = true ∨ j = i := by
      intro j
      rw [Array.getD_eq_getD_getElem?, Array.getElem?_setIfInBounds]
      by_cases e : i = j
      · subst e; simp [hsz, h1]
      · simp only [e, if_false, Ne.symm e, or_false]
        rw [Array.getD_eq_getD_getElem?]
    refine drawn_step (k := k) hz hF hcall r fd.pre h0 hG hB q1 q3 q4 q5 q6 q7 (List.all_eq_true.1 rdy t (List.mem_of_getElem? q2)) inv ?_ q2 ?_ ?_ ?_
    · rintro a b ⟨x, hx, hxl⟩ ⟨y, z, hy, hz', hzy⟩
      rw [hx] at hy; cases hy
      exact ⟨z, hz', hcl _ _ hxl hzy⟩
    · rintro ⟨x, hx, hxl⟩
      rw [hk] at hx; cases hx
      rw [hnot] at hxl; cases hxl
    · rintro b ⟨y, z, hy, hz', hzy⟩
      rw [hk] at hy; cases hy
      exact ⟨z, hz', hSi z hzy⟩
    · intro l' w' β' p' inv'
      have hD : (fun q => (∃ i, ord[q]? = some i ∧ lst.getD i false = true) ∨ q = k) = (fun q => ∃ j, ord[q]? = some j ∧ (lst.setIfInBounds i true).getD j false = true) := by
        funext q
        apply propext
        constructor
        · rintro (⟨j, hj, hl⟩ | rfl)
          · exact ⟨j, hj, (hset j).2 (.inl hl)⟩
          · exact ⟨i, hk, (hset i).2 (.inr rfl)⟩
        · rintro ⟨j, hj, hl⟩
          rcases (hset j).1 hl with h | rfl
          · exact .inl ⟨j, hj, h⟩
          · exact .inr (fd.inj _ _ _ hj hk)
      rw [hD] at inv'
      refine ih _ p' l' w' β' (by simpa using hsz) ?_ ?_ inv'
      · have hlt : i < lst.toList.length := by simp; omega
        have hc2 := List.count_set (a := true) (b := false) (l := lst.toList) (i := i) hlt
        have hv : lst.toList[i] = false := by
          have := hi2
          rw [Array.getElem?_eq_getElem (by omega)] at this
          simpa using this
        rw [hv] at hc2
        have hpos : 0 < lst.toList.count false := List.count_pos_iff.2 (by rw [← hv]; exact List.getElem_mem hlt)
        simp only [Array.toList_setIfInBounds]
        simp at hc2
        rw [hc2]
        simp at hpos hcnt
        omega
      · intro a b ha hb
        rw [hset] at ha ⊢
        rcases ha with ha | rfl
        · exact .inl (hcl a b ha hb)
        · exact .inl (hSi b hb)

theorem opsFor_of {opa : Array Oper} {ts : List TOper} (h : regOps opa false = some ts) : OpsFor opa (List.range opa.size) ts := by
  have h' : mkOps opa opa.toList [] false [] (List.range opa.toList.length) = some ts := h
  obtain ⟨h1, h2⟩ := mkOps_spec h'
  have hlen : opa.toList.length = opa.size := by simp
  rw [hlen] at h1 h2
  have key : ∀ (is : List Nat) (ts' : List TOper), is.length = ts'.length → (∀ (k i : Nat) (t : TOper), is[k]? = some i → ts'[k]? = some t → ∃ o, opa[i]? = some o ∧ t.op = o.op ∧ t.type = o.type ∧ t.dst = o.dst ∧ gtOf opa o = some t.gt ∧ opOk o.op = true) → OpsFor opa is ts' := by
    intro is
    induction is with
    | nil => intro ts' hl _; have : ts' = [] := List.eq_nil_of_length_eq_zero hl.symm
             subst this; exact .nil
    | cons i is ih =>
      intro ts' hl hk
      cases ts' with
      | nil => simp at hl
      | cons t ts' =>
        obtain ⟨o, q1, q2, q3, q4, q5, q6⟩ := hk 0 i t rfl rfl
        exact .cons i o t is ts' q1 q2 q3 q4 q5 q6 (ih ts' (by simpa using hl) fun k i t a b => hk (k + 1) i t (by simpa using a) (by simpa using b))
  refine key _ _ h1.symm fun k i t hi ht => ?_
  obtain ⟨gt, q1, q2, q3⟩ := h2 k i hi
  rw [ht] at q3
  simp only [Option.some.injEq] at q3
  have hlt : i < opa.size := by
    have := List.mem_of_getElem? hi
    simpa using this
  have ho : opa[i]? = some opa[i] := Array.getElem?_eq_getElem hlt
  have hd : opa.toList.getD i default = opa[i] := by
    rw [List.getD_eq_getElem?_getD, Array.getElem?_toList, ho]; rfl
  rw [hd] at q1 q2 q3
  subst q3
  exact ⟨_, ho, rfl, rfl, rfl, q1, q2⟩

/-- **A region.** -/
theorem reg_sim (hz : zerosPlain C.P) (hF : Wide F) (hm : C.P.follows .mixedOrders = true) (hcall : CallOk C F n call) {opa : Array Oper} {draw : Bool} {ops : List TOper} (hr : regOps opa draw = some ops) {m : Nat} (rdy : ops.all (opReady C.G m) = true)
    {a a' : Regs} {h h' : TH} (hs : evOps (stepOp C.P call) ops a h = some (a', h')) {β : Emb} {w : World} {l : Array Value} {D : List Deferred} {id : Nat} {Q : Exit → Act → World → Prop} (ha : ARel β m a l) (gd : Good C β h w)
    (hQ : ∀ l' w' β', ARel β' m a' l' → Step C h.floor β h.get w β' h'.get w' → Good C β' h' w' → Q .normal ⟨l', D⟩ w') : (Code.region id opa draw).wpIn F n C.P Q ⟨l, D⟩ w := by
  cases draw with
  | false => exact wpIn_region (evOps_sim hz hF hcall (opsFor_of hr) rdy hs ha gd hQ)
  | true =>
    obtain ⟨S, ord, fd⟩ := found_of hr
    obtain ⟨A, H, V, r, e1, e2, e3, e4⟩ := ref_of hs
    subst e1 e2 e3 e4
    refine wpIn_region_any hm ?_
    refine drawn_all (w0 := w) hz hF hcall fd rdy r gd.wf gd.glob gd.base (fun l' w' β' q1 q2 q3 q4 => hQ l' w' β' ⟨q2, q1⟩ q3 q4) opa.size _ 0 l _ β (by simp) (by simp) ?_ ?_
    · intro i j hi
      rw [Array.getD_eq_getD_getElem?, Array.getElem?_replicate] at hi
      split at hi <;> simp at hi
    · have hnone : ∀ (k : Nat), ¬ ∃ i : Nat, ord[k]? = some i ∧ (Array.replicate opa.size false).getD i false = true := by
        rintro k ⟨i, _, hi⟩
        rw [Array.getD_eq_getD_getElem?, Array.getElem?_replicate] at hi
        split at hi <;> simp at hi
      have hU : ∀ b, ¬ Unb ops H (fun k => ∃ i, ord[k]? = some i ∧ (Array.replicate opa.size false).getD i false = true) 0 b := by
        rintro b ⟨k, o, h1, _⟩
        omega
      have hg : hid (Unb ops H (fun k => ∃ i, ord[k]? = some i ∧ (Array.replicate opa.size false).getD i false = true) 0) (H 0).get = (H 0).get := funext fun b => hid_of (hU b)
      refine ⟨Nat.zero_le _, fun k o h => by omega, fun k o _ _ _ => hnone k, ha.1, fun k o t h => (hnone k h).elim, fun t _ => ha.2 t, ?_, fun b hb => (hU b hb).elim, gd.fr⟩
      rw [hg]
      exact Step.drawn gd.rel gd.inj _

end Go.Tidy

