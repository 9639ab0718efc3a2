/- A plain interpreter of the code and what it has to do with the model: part 3. -/
import Derived.Test.YtkaiphobleifgaaGreatDoorTd1
import Derived.Laws.BytesString
set_option linter.all false
/- append, copy, and what else writes. -/
namespace Go.Tidy
open Go

variable {C : Env} {β : Emb} {w : World}

/-- An operation that does whatever. -/
def MDoes (C : Env) (β : Emb) (w : World) (s : Sem Value) (v : Value) (h h' : TH) : Prop :=
  ∃ v' w' β', s.run C.P w = .ok v' w' ∧ VRel β' v v' ∧ Step C h.floor β h.get w β' h'.get w'

theorem first_sim {h : TH} {size n : Nat} {x x' : Value} {l : List Value} (hl : firstT h size n x = some l) (hx : VRel β x x') (rel : HRel C β h.get w) :
    ∃ l', LRel β l l' ∧ l.length = n * size ∧ ∀ w1, w1.heap = w.heap → (Builtin.firstCells size n x').run C.P w1 = .ok l'.toArray w1 := by
  unfold firstT at hl
  split at hl
  · rename_i b off len c
    obtain ⟨hb, hl⟩ := cond_some hl
    have hle := Nat.le_of_ble_eq_true hb
    rcases slice_inv hx with ⟨e, c', he, _, rfl⟩ | ⟨rfl, rfl, a', rfl⟩
    · obtain ⟨l', h1, h2, h3⟩ := cellsAt_sim rel rfl hl he
      refine ⟨l', h1, h2, fun w1 hw1 => ?_⟩
      have hlen : l'.length = n * size := by rw [← h1.1, h2]
      have hrun := run_loadCells_list (P := C.P) w1 ⟨e.blk, e.d + off, none⟩ l' (fun j v hv => by
        rw [add_mk]
        have := h3 j v hv
        unfold World.cell? at this ⊢
        rw [hw1]
        exact this)
      rw [hlen] at hrun
      exact hrun
    · have hn : n = 0 := by omega
      subst hn
      have h0 : l = [] := by
        unfold cellsAt at hl
        split at hl
        · rename_i c fx wr el hgc
          have hq : l.length = 0 := by
            have := (cond_some (show cond (Nat.ble (off + 0 * size) c.length) (some ((c.drop off).take (0 * size))) none = some l from hl)).2
            rw [← Option.some.inj this]
            simp
          exact List.eq_nil_of_length_eq_zero hq
        · cases hl
      subst h0
      exact ⟨[], LRel.nil, by simp, fun w1 _ => by simp [Builtin.firstCells, loadCells, loadCellsFrom]⟩
  · obtain ⟨hb, hl⟩ := cond_some hl
    have hn := Nat.eq_of_beq_eq_true hb
    obtain rfl := nilSlice_inv hx
    cases hl
    exact ⟨[], LRel.nil, by simp [hn], fun w1 _ => by simp [Builtin.firstCells]⟩
  · rename_i s
    obtain ⟨hb, hl⟩ := cond_some hl
    simp only [Bool.and_eq_true, Nat.ble_eq] at hb
    have hs := Nat.eq_of_beq_eq_true hb.2
    obtain rfl := string_inv hx
    cases hl
    refine ⟨_, LRel.of_get rfl fun i v hv => ⟨v, hv, ?_⟩, ?_, fun w1 _ => ?_⟩
    · simp only [List.getElem?_map, Option.map_eq_some_iff] at hv
      obtain ⟨b, _, rfl⟩ := hv
      exact .int _ _
    · simp [hs]; exact Nat.min_eq_left hb.1
    · simp only [Builtin.firstCells, Sem.run_pure]
      congr 1
      apply Array.toList_inj.1
      simp [ByteArray.data_extract]
  · cases hl


theorem len_sim {x x' : Value} {n : Nat} (h : lenT x = some n) (hx : VRel β x x') (w : World) : (Builtin.lenOf x').run C.P w = .ok n w := by
  unfold lenT at h
  split at h
  · cases h
    obtain ⟨a', c', rfl, _, _⟩ := slice_shape hx
    simp [Builtin.lenOf]
  · cases h
    obtain rfl := string_inv hx
    simp [Builtin.lenOf]
  · cases h

theorem copy_sim {ts : Array TypeId} {as as' : Array Value} {ty : TypeId} {v : Value} {h h' : TH} (hc : copyT C.P ts as h = some (v, h')) (ha : LRel β as.toList as'.toList)
    (rel : HRel C β h.get w) (inj : Inj β h.get) : MDoes C β w (Builtin.copy_ ts ty as') v h h' := by
  unfold copyT at hc
  split at hc
  · rename_i dT base dLen dCap x h1 h2 h3
    obtain ⟨d', hd', hdr⟩ := getD_rel ha h2
    obtain ⟨x', hx', hxr⟩ := getD_rel ha h3
    split at hc
    · rename_i e i n he hn
      obtain ⟨hu, hi⟩ := elemInfo_some he
      rw [Option.bind_eq_some_iff] at hc
      obtain ⟨new, hnew, hc⟩ := hc
      obtain ⟨new', n1, n2, n3⟩ := first_sim hnew hxr rel
      have hlen := fun w => len_sim (C := C) hn hxr w
      obtain ⟨b', c', rfl, _, hbn⟩ := slice_shape hdr
      have front : ∀ (k : Sem Unit) (w' : World), ((match b' with | some a => storeCells a new'.toArray.toList | none => pure ()) : Sem Unit).run C.P w = .ok () w' →
          (Builtin.copy_ ts ty as').run C.P w = .ok (goInt (Nat.min n dLen : Nat)) w' := by
        intro _ w' hk
        cases b' with
        | none =>
          simp at hk
          subst hk
          simp [Builtin.copy_, h1, hd', hx', rUnder hu, hlen, rSize hi, n3 w rfl]
        | some a =>
          simp at hk
          simp [Builtin.copy_, h1, hd', hx', rUnder hu, hlen, rSize hi, n3 w rfl, hk]
      split at hc
      · simp only [Option.some.injEq, Prod.mk.injEq] at hc
        obtain ⟨rfl, rfl⟩ := hc
        have hb0 : b' = none := by cases b' with | none => rfl | some a => simp at hbn
        subst hb0
        exact ⟨_, w, β, front (pure ()) w (by simp), .int _ _, Step.refl rel inj⟩
      · rename_i b off
        cases hz : Nat.beq (Nat.min n dLen) 0 with
        | true =>
          simp only [hz, cond, Option.some.injEq, Prod.mk.injEq] at hc
          obtain ⟨rfl, rfl⟩ := hc
          have hz' := Nat.eq_of_beq_eq_true hz
          have hnil : new' = [] := by
            apply List.eq_nil_of_length_eq_zero
            rw [← n1.1, n2, hz']
            simp
          refine ⟨_, w, β, front (pure ()) w (by cases b' <;> simp [hnil, storeCells]), ?_, Step.refl rel inj⟩
          rw [hz']
          exact .int _ _
        | false =>
          simp only [hz, cond, Option.map_eq_some_iff, Prod.mk.injEq] at hc
          obtain ⟨h2', hput, rfl, rfl⟩ := hc
          rcases slice_inv hdr with ⟨en, c2, hen, _, heq⟩ | ⟨rfl, _, _⟩
          · simp only [Value.slice.injEq, true_and] at heq
            obtain ⟨rfl, rfl⟩ := heq
            obtain ⟨p1, p2⟩ := putCells_sim rel inj hput hen n1
            exact ⟨_, _, β, front (pure ()) _ (by simpa using p1), .int _ _, p2⟩
          · simp at hz
      · cases hc
    · cases hc
  · cases hc

theorem copy_tstep {P : Program} {ts : Array TypeId} {as : Array Value} {v : Value} {h h' : TH} (hc : copyT P ts as h = some (v, h')) : TStep h h' := by
  unfold copyT at hc
  split at hc
  · split at hc
    · rw [Option.bind_eq_some_iff] at hc
      obtain ⟨new, hnew, hc⟩ := hc
      split at hc
      · simp only [Option.some.injEq, Prod.mk.injEq] at hc; obtain ⟨_, rfl⟩ := hc; exact TStep.refl h
      · rcases cond_cases hc with ⟨_, hc⟩ | ⟨_, hc⟩
        · simp only [Option.some.injEq, Prod.mk.injEq] at hc; obtain ⟨_, rfl⟩ := hc; exact TStep.refl h
        · simp only [Option.map_eq_some_iff, Prod.mk.injEq] at hc
          obtain ⟨h2', hput, _, rfl⟩ := hc
          exact putCells_tstep hput
      · cases hc
    · cases hc
  · cases hc

end Go.Tidy

/- What reads, or lays an iterator; strings and bytes. -/
namespace Go.Tidy
open Go

variable {C : Env} {β : Emb} {g : HG} {w : World}

theorem slice_RDoes {f : Nat} {t : TypeId} {x x' v : Value} {lo hi mx lo' hi' mx' : Option Value} {h h' : TH} (hs : (sliceT C.P t x lo hi mx h).map (fun v => (v, h)) = some (v, h')) (hx : VRel β x x') (hgb : ∀ b e, blockOf x = some b → β b = some e → g b = h.get b)
    (h1 : ∀ v, lo = some v → ∃ v', lo' = some v' ∧ VRel β v v') (h1n : lo = none → lo' = none)
    (h2 : ∀ v, hi = some v → ∃ v', hi' = some v' ∧ VRel β v v') (h2n : hi = none → hi' = none)
    (h3 : ∀ v, mx = some v → ∃ v', mx' = some v' ∧ VRel β v v') (h3n : mx = none → mx' = none)
    (rel : HRel C β g w) (inj : Inj β g) : RDoes C f β g w (Instr.sliceAt t x' lo' hi' mx') v h h' := by
  rw [Option.map_eq_some_iff] at hs
  obtain ⟨v0, hs, heq⟩ := hs
  simp only [Prod.mk.injEq] at heq
  obtain ⟨rfl, rfl⟩ := heq
  obtain ⟨v', q1, q2⟩ := slice_sim rfl rel hs hx hgb h1 h1n h2 h2n h3 h3n
  exact RDoes.same rel inj (q2 w) q1

theorem load_RDoes {f : Nat} {t : TypeId} {x x' v : Value} {h h' : TH} (hs : (loadT C.P t x h).map (fun v => (v, h)) = some (v, h')) (hx : VRel β x x') (hgb : ∀ b e, blockOf x = some b → β b = some e → g b = h.get b)
    (rel : HRel C β g w) (inj : Inj β g) : RDoes C f β g w (Instr.loadAt t x') v h h' := by
  rw [Option.map_eq_some_iff] at hs
  obtain ⟨v0, hs, heq⟩ := hs
  simp only [Prod.mk.injEq] at heq
  obtain ⟨rfl, rfl⟩ := heq
  obtain ⟨v', q1, q2⟩ := loadT_sim rel hgb hs hx
  exact RDoes.same rel inj q2 q1

theorem elemDesc_some {P : Program} {t e : TypeId} {d : TypeDesc} (h : elemDesc P t = some (e, d)) : P.underlying t = some (.slice e) ∧ P.underlying e = some d := by
  unfold elemDesc at h
  split at h
  · rename_i e' hu
    rw [Option.map_eq_some_iff] at h
    obtain ⟨i', hi, heq⟩ := h
    simp only [Prod.mk.injEq] at heq
    obtain ⟨rfl, rfl⟩ := heq
    exact ⟨hu, hi⟩
  · cases h
theorem isU8_eq {d : TypeDesc} (h : isU8 d = true) : d = .int .u8 := by
  cases d with
  | int k => cases k <;> first | rfl | (simp [isU8] at h)
  | _ => simp [isU8] at h

/-- A string's bytes, laid. -/
theorem bytes_laid {f : Nat} {s : ByteArray} {e : TypeId} {h : TH} (hsz : C.P.cellsOf e = 1) (rel : HRel C β g w) (inj : Inj β g) (hg : g h.next = none) (hf : β h.next = none) :
    RDoes C f β g w (Conv.stringToBytes e s) (newSlice h (s.data.toList.map fun b => .int .u8 b.toNat) s.size s.size false e).1 h (newSlice h (s.data.toList.map fun b => .int .u8 b.toNat) s.size s.size false e).2 := by
  let cap := Question.cut (.appendCap s.size 0 e) (w.tape w.drawn (.appendCap s.size 0 e))
  have hcap : s.size ≤ cap := by simp [cap, Question.cut]
  let cr : Array Value := (s.data.map fun b => .int .u8 b.toNat) ++ Array.replicate (cap - s.size) (.int .u8 0)
  have hcr : cr.size = cap := by
    simp only [cr, Array.size_append, Array.size_map, Array.size_replicate]
    have : s.data.size = s.size := rfl
    omega
  obtain ⟨β', s1, s2⟩ := newSlice_sim (f := f) (el := e) (cs := s.data.toList.map fun b => .int .u8 b.toNat) (len := s.size) (cap := s.size) (fix := false) (cr := cr) (cap' := cap) (fz := (cap, cap + 1)) (w' := (w.drew.alloc (.cells cr e)).freeze ⟨w.heap.size, cap, none⟩ 1)
    rel inj hg hf (by
      unfold World.freeze
      simp only [Nat.one_ne_zero, if_false]
      apply Array.ext_getElem?
      intro k
      simp only [Array.getElem?_modify]
      by_cases hk : w.heap.size = k
      · subst hk
        simp [- World.alloc_eq, - World.drew_eq, World.alloc, World.drew]
      · have hk' : ¬ k = w.heap.size := fun e => hk e.symm
        simp [- World.alloc_eq, - World.drew_eq, hk, hk', World.alloc, World.drew, Array.getElem?_push]) rfl rfl rfl (fun h => by cases h) (fun _ => ⟨hcap, by rw [hsz, hcr]; omega⟩) (by simp [hcr]; exact hcap) (fun i v hv => by
      refine ⟨v, ?_, ?_⟩
      · simp only [cr, Array.toList_append, Array.toList_map]
        rw [List.getElem?_append_left]
        · exact hv
        · have := (List.getElem?_eq_some_iff.1 hv).1; exact this
      · simp only [List.getElem?_map, Option.map_eq_some_iff] at hv
        obtain ⟨b, _, rfl⟩ := hv
        exact .int _ _) (.inr (by omega))
  refine ⟨_, _, β', _, ?_, s2, s1, .inr ⟨_, rfl, rfl⟩⟩
  have hsh : (w.drew.alloc (.cells cr e)).shape? w.heap.size = some (e, cap) := by
    simp [- World.alloc_eq, - World.drew_eq, World.shape?, World.alloc, World.drew, hcr]
  simp [Conv.stringToBytes, Question.forced, newRow, markStringish, cr, cap] at hsh ⊢
  simp [hsh]


theorem bytesOf_run {cs : List Value} {l : List UInt8} (h : bytesOf cs = some l) : ∀ (acc : ByteArray) (w : World),
    (cs.foldlM (fun (s : ByteArray) c => do
      let .int .u8 n := c | stuck "bytesToString: byte expected"
      pure (s.push (UInt8.ofNat n.toNat))) acc : Sem ByteArray).run C.P w = .ok ⟨acc.data ++ l.toArray⟩ w := by
  induction cs generalizing l with
  | nil => intro acc w; simp [bytesOf] at h; subst h; simp
  | cons c cs ih =>
    intro acc w
    unfold bytesOf at h
    split at h
    · rename_i heq; cases heq
    · rename_i n r heq
      simp only [List.cons.injEq] at heq
      obtain ⟨rfl, rfl⟩ := heq
      rw [Option.map_eq_some_iff] at h
      obtain ⟨l', hl, rfl⟩ := h
      rw [List.foldlM_cons]
      simp only [Sem.run_bind, Sem.run_pure, Result.andThen_ok]
      rw [ih hl]
      congr 1
      apply congrArg ByteArray.mk
      apply Array.toList_inj.1
      simp
    · cases h

theorem range_RDoes {f : Nat} {t : TypeId} {x x' v : Value} {h h' : TH} (hs : rangeT C.P t x h = some (v, h')) (hx : VRel β x x')
    (rel : HRel C β g w) (inj : Inj β g) (hg : g h.next = none) (hf : β h.next = none) : RDoes C f β g w (Instr.range t x') v h h' := by
  unfold rangeT at hs
  split at hs
  · rename_i s hu
    simp only [Option.some.injEq, Prod.mk.injEq] at hs
    obtain ⟨rfl, rfl⟩ := hs
    obtain rfl := string_inv hx
    refine ⟨_, w.alloc (.stringIter s 0), upd β h.next ⟨w.heap.size, 0, none⟩, _, ?_, .ptr h.next 0 ⟨w.heap.size, 0, none⟩ (upd_same _ _ _),
      Step.new (x := .iter s 0) rel inj hg hf rfl (by simp) (fun k hk => Go.RowKit.Below.heap_alloc _ _ _ hk) rfl rfl rfl ⟨World.alloc_heap_new w _, rfl⟩, .inr ⟨_, rfl, rfl⟩⟩
    simp [Instr.range, rUnder hu]
  · cases hs

theorem next_sim {x x' v : Value} {b : Bool} {ty : TypeId} {h h' : TH} (hs : nextT x b h = some (v, h')) (hx : VRel β x x')
    (rel : HRel C β h.get w) (inj : Inj β h.get) : MDoes C β w (Instr.next x' b ty) v h h' := by
  unfold nextT at hs
  split at hs
  · rename_i blk
    obtain ⟨e, he, rfl⟩ := ptr_inv hx
    split at hs
    · rename_i s pos hg
      obtain ⟨q1, q2⟩ := rel blk _ e hg he
      rcases cond_cases hs with ⟨hb, hs⟩ | ⟨hb, hs⟩
      · rw [Option.map_eq_some_iff] at hs
        obtain ⟨h2, hp, heq⟩ := hs
        simp only [Prod.mk.injEq] at heq
        obtain ⟨rfl, rfl⟩ := heq
        have hlt : pos < s.size := by simpa using hb
        obtain ⟨p1, p2, p3, p4, p5, p6, p7⟩ := TH.put_some hp
        have hblk : e.blk < w.heap.size := (Array.getElem?_eq_some_iff.1 q1).1
        refine ⟨_, w.putObj e.blk (.stringIter s (pos + (Utf8.decode s pos).2)), β, ?_, plain_refl (by simp [plain, plain1, plain0]), ?_⟩
        · simp [Instr.next, q2, getObj, setObj, Sem.run, q1, hlt, goInt, World.putObj]
        · rw [p7]
          exact Step.put (x' := .iter s (pos + (Utf8.decode s pos).2)) rel inj p1 hg (by simp) he (by simp) (fun r hr => World.putObj_heap_other hr) rfl rfl rfl ⟨World.putObj_heap_same hblk, q2⟩
      · simp only [Option.some.injEq, Prod.mk.injEq] at hs
        obtain ⟨rfl, rfl⟩ := hs
        have hlt : ¬ pos < s.size := by
          intro hlt
          have : Nat.blt pos s.size = true := by simpa using hlt
          rw [hb] at this; cases this
        refine ⟨_, w, β, ?_, plain_refl rfl, Step.refl rel inj⟩
        simp [Instr.next, q2, getObj, Sem.run, q1, hlt]
    · cases hs
  · cases hs
theorem next_tstep {x v : Value} {b : Bool} {h h' : TH} (hs : nextT x b h = some (v, h')) : TStep h h' := by
  unfold nextT at hs
  split at hs
  · split at hs
    · rename_i s pos hg
      rcases cond_cases hs with ⟨hb, hs⟩ | ⟨hb, hs⟩
      · rw [Option.map_eq_some_iff] at hs
        obtain ⟨h2, hp, heq⟩ := hs
        simp only [Prod.mk.injEq] at heq
        obtain ⟨_, rfl⟩ := heq
        exact TStep.put hp hg
      · simp only [Option.some.injEq, Prod.mk.injEq] at hs
        obtain ⟨_, rfl⟩ := hs
        exact TStep.refl h
    · cases hs
  · cases hs

theorem cap_sim {ts : Array TypeId} {as as' : Array Value} {ty : TypeId} {v : Value} {h : TH} (hc : capT C.P ts as h = some v) (ha : LRel β as.toList as'.toList) (rel : HRel C β h.get w) :
    VRel β v v ∧ (Builtin.cap_ ts ty as').run C.P w = .ok v w := by
  unfold capT at hc
  split at hc
  · rename_i t base l c h1 h2
    obtain ⟨x', hx', hxr⟩ := getD_rel ha h2
    split at hc
    · rename_i el hu
      split at hc
      · cases hc
        obtain rfl := nilSlice_inv hxr
        exact ⟨.int _ _, by simp [Builtin.cap_, h1, hx', rUnder hu, goInt]⟩
      · rename_i b off
        split at hc
        · rename_i cc wr el' hg
          cases hc
          refine ⟨.int _ _, ?_⟩
          rcases slice_inv hxr with ⟨e, c', he, hcap, rfl⟩ | ⟨rfl, rfl, a', rfl⟩
          · obtain ⟨cr, fz, _, hgr, _⟩ := rel b _ e hg he
            simp only [if_true] at hgr
            unfold CapRel at hcap
            rw [hgr.1] at hcap
            simp only at hcap
            subst hcap
            simp [Builtin.cap_, h1, hx', rUnder hu, goInt]
          · simp [Builtin.cap_, h1, hx', rUnder hu, goInt]
        · cases hc
      · cases hc
    · cases hc
  · cases hc

end Go.Tidy

/- Conversions of strings and bytes; clear; package unsafe's small change. -/
namespace Go.Tidy
open Go

variable {C : Env} {β : Emb} {g : HG} {w : World}

theorem bytesOf_some {cs : List Value} {l : List UInt8} (h : bytesOf cs = some l) : ∃ ns : List Int, cs = ns.map (Value.int .u8) ∧ l = ns.map fun n => UInt8.ofNat n.toNat := by
  induction cs generalizing l with
  | nil => simp [bytesOf] at h; subst h; exact ⟨[], rfl, rfl⟩
  | cons c cs ih =>
    unfold bytesOf at h
    split at h
    · rename_i heq; cases heq
    · rename_i n r heq
      simp only [List.cons.injEq] at heq
      obtain ⟨rfl, rfl⟩ := heq
      rw [Option.map_eq_some_iff] at h
      obtain ⟨l', hl, rfl⟩ := h
      obtain ⟨ns, h1, h2⟩ := ih hl
      exact ⟨n :: ns, by rw [h1]; rfl, by rw [h2]; rfl⟩
    · cases h
theorem push_all : ∀ (ns : List Int) (acc : ByteArray), ns.foldl (fun r n => r.push (UInt8.ofNat n.toNat)) acc = ⟨acc.data ++ (ns.map fun n => UInt8.ofNat n.toNat).toArray⟩ := by
  intro ns
  induction ns with
  | nil => intro acc; simp
  | cons n ns ih =>
    intro acc
    rw [List.foldl_cons, ih]
    apply congrArg ByteArray.mk
    apply Array.toList_inj.1
    simp
theorem ints_eq {β : Emb} {ns : List Int} {k : IntKind} {l' : List Value} (h : LRel β (ns.map (Value.int k)) l') : l' = ns.map (Value.int k) := by
  apply List.ext_getElem (by rw [← h.1])
  intro i h1 h2
  have := h.2 i _ _ (List.getElem?_eq_getElem h2) (List.getElem?_eq_getElem h1)
  simp only [List.getElem_map] at this ⊢
  exact int_inv this

theorem bytes_read {h : TH} {b off len c : Nat} {cs : List Value} {l : List UInt8} {e : Ent} (rel : HRel C β g w) (hgb : g b = h.get b) (hc : cellsAt h b off len = some cs) (hl : bytesOf cs = some l) (he : β b = some e) :
    (Conv.bytesToString (.slice (some ⟨e.blk, e.d + off, none⟩) len c)).run C.P w = .ok (.string ⟨l.toArray⟩) w := by
  obtain ⟨ns, rfl, rfl⟩ := bytesOf_some hl
  obtain ⟨l', h1, h2, h3⟩ := cellsAt_sim rel hgb hc he
  obtain rfl := ints_eq h1
  have hrun := run_loadCells_list (P := C.P) w ⟨e.blk, e.d + off, none⟩ _ (fun j v hv => by rw [add_mk]; exact h3 j v hv)
  rw [h2] at hrun
  rw [run_bytesToString w _ len c ns hrun, push_all]
  simp

/-- A NaN of the other kind is some NaN. -/
theorem nan_conv {f : Nat} {src dst : TypeId} {d1 : TypeDesc} {k k' : FloatKind} {b : Nat} {h : TH} (h1 : C.P.underlying src = some d1) (h2 : C.P.underlying dst = some (.float k')) (hne : k ≠ k') (hn : nanB k b = true)
    (rel : HRel C β g w) (inj : Inj β g) : RDoes C f β g w (convert src dst (.float k b)) (.float k' (someNaN k')) h h := by
  obtain ⟨s, t, e⟩ := nan_read hn
  have hd : k.decode b = .nan s t := e
  refine ⟨.float k' (Question.cut (.nanConv k' b) (w.tape w.drawn (.nanConv k' b))), w.drew, β, g, ?_, .float _ _ _ (.inr ⟨by cases k' <;> rfl, ?_⟩), ?_, .inl ⟨rfl, rfl⟩⟩
  · have hf : Question.forced (.nanConv k' b) = false := by cases k' <;> rfl
    simp [convert, rUnder h1, rUnder h2, Conv.floatToFloat, hne, hd, hf]
  · generalize ht : w.tape w.drawn (.nanConv k' b) = t
    cases k'
    · simp only [Question.cut, nanB, Nat.blt_eq]
      have h1 : t % 2 < 2 := Nat.mod_lt _ (by decide)
      have h2 : t / 2 % (2 ^ 23 - 1) < 2 ^ 23 - 1 := Nat.mod_lt _ (by decide)
      generalize t % 2 = p at h1
      generalize t / 2 % (2 ^ 23 - 1) = q at h2
      omega
    · simp only [Question.cut, nanB, Nat.blt_eq]
      have h1 : t % 2 < 2 := Nat.mod_lt _ (by decide)
      have h2 : t / 2 % (2 ^ 52 - 1) < 2 ^ 52 - 1 := Nat.mod_lt _ (by decide)
      generalize t % 2 = p at h1
      generalize t / 2 % (2 ^ 52 - 1) = q at h2
      omega
  · have s := Step.refl (f := f) rel inj
    exact ⟨s.ext, s.born, s.stay, s.dead, fun b x e h1 h2 => (rel b x e h1 h2).world fun _ => rfl, inj, rfl, rfl, rfl, Nat.le_refl _, fun _ _ _ => rfl, s.fresh⟩

theorem convert_RDoes {f : Nat} {src dst : TypeId} (hne : src ≠ dst) {x x' v : Value} {h h' : TH} (hs : convertT C.P src dst x h = some (v, h')) (hx : VRel β x x') (hgb : ∀ b e, blockOf x = some b → β b = some e → g b = h.get b)
    (rel : HRel C β g w) (inj : Inj β g) (hgf : ∀ s, x = .string s → g h.next = none ∧ β h.next = none) (hptr : ∀ a, x ≠ .pointer a) : RDoes C f β g w (convert src dst x') v h h' := by
  unfold convertT at hs
  split at hs
  · rename_i k b
    split at hs
    · rename_i d1 k' h1 h2
      obtain ⟨hb, hs2⟩ := cond_some hs
      simp only [Bool.and_eq_true, Bool.not_eq_true'] at hb
      simp only [Option.some.injEq, Prod.mk.injEq] at hs2
      obtain ⟨rfl, rfl⟩ := hs2
      obtain ⟨b', rfl, hb'⟩ := float_inv hx
      exact nan_conv h1 h2 (by intro e; subst e; cases k <;> simp [fKindEq] at hb) (nan_rel hb' hb.1) rel inj
    · cases hs
  · rename_i s
    obtain rfl := string_inv hx
    obtain ⟨hg, hf⟩ := hgf s rfl
    split at hs
    · rename_i e d he hsrc
      obtain ⟨hu, hd⟩ := elemDesc_some he
      obtain ⟨hb, hs2⟩ := cond_some hs
      clear hs
      have hs := hs2
      clear hs2
      simp only [Bool.and_eq_true] at hb
      obtain rfl := isU8_eq hb.1
      have hsz := Nat.eq_of_beq_eq_true hb.2
      simp only [Option.some.injEq] at hs
      have := bytes_laid (f := f) (s := s) (e := e) (h := h) hsz rel inj hg hf
      rw [hs] at this
      obtain ⟨v', w', β', g', r1, r2⟩ := this
      exact ⟨v', w', β', g', by simp [convert, rUnder hsrc, rUnder hu, rUnder hd, r1], r2⟩
    · cases hs
  · rename_i base len cp
    rcases cond_cases hs with ⟨hb, hs⟩ | ⟨_, hs⟩
    · exact absurd (Nat.eq_of_beq_eq_true hb) hne
    · split at hs
      · rename_i e d he hdst
        obtain ⟨hu, hd⟩ := elemDesc_some he
        obtain ⟨hb, hs2⟩ := cond_some hs
        clear hs
        have hs := hs2
        clear hs2
        obtain rfl := isU8_eq hb
        split at hs
        · simp only [Option.some.injEq, Prod.mk.injEq] at hs
          obtain ⟨rfl, rfl⟩ := hs
          obtain rfl := nilSlice_inv hx
          exact RDoes.same rel inj (by simp [convert, rUnder hu, rUnder hdst, rUnder hd, Conv.bytesToString]) (.string _)
        · rename_i b off hb0
          rw [Option.bind_eq_some_iff] at hs
          obtain ⟨cs, hcs, hs⟩ := hs
          rw [Option.map_eq_some_iff] at hs
          obtain ⟨l, hl, heq⟩ := hs
          simp only [Prod.mk.injEq] at heq
          obtain ⟨rfl, rfl⟩ := heq
          rcases slice_inv hx with ⟨en, c', hen, _, rfl⟩ | ⟨rfl, rfl, a', rfl⟩
          · have := bytes_read (c := c') rel (hgb b en rfl hen) hcs hl hen
            exact RDoes.same rel inj (by simp [convert, rUnder hu, rUnder hdst, rUnder hd, this]) (.string _)
          · have hcs0 : cs = [] := by
              unfold cellsAt at hcs
              split at hcs
              · rename_i c fx wr el hgc
                have := (cond_some (show cond (Nat.ble (off + 0) c.length) (some ((c.drop off).take 0)) none = some cs from hcs)).2
                rw [← Option.some.inj this]
                simp
              · cases hcs
            subst hcs0
            simp only [bytesOf, Option.some.injEq] at hl
            subst hl
            exact RDoes.same rel inj (by simp [convert, rUnder hu, rUnder hdst, rUnder hd, Conv.bytesToString, loadCells, loadCellsFrom]; rfl) (.string _)
        · cases hs
      · cases hs
  · exact absurd rfl (hptr _)
  · cases hs

end Go.Tidy

/- Pointers seen as unsafe ones, and back; bytes seen as a string. -/
namespace Go.Tidy
open Go

variable {C : Env} {β : Emb} {g : HG} {w : World}

theorem shape_cells {b : Nat} {cr : Array Value} {el : TypeId} {fz : Nat × Nat} {w : World} (h : w.heap[b]? = some (.cells cr el fz)) : w.shape? b = some (el, cr.size) := by
  simp [World.shape?, h]

theorem pointsAt_some {P : Program} {t : TypeId} {h : TH} {b off : Nat} (hp : pointsAt P t h b off = true) :
    ∃ c wr i, h.get b = some (.cells c true wr t) ∧ P.info? t = some i ∧ 0 < i.size ∧ off % i.size = 0 ∧ off + i.size ≤ c.length := by
  unfold pointsAt at hp
  split at hp
  · rename_i c wr el i hg hi
    simp only [Bool.and_eq_true] at hp
    obtain ⟨h1, h2, h3, h4⟩ := hp
    have h1 := Nat.eq_of_beq_eq_true h1
    subst h1
    exact ⟨c, wr, i, hg, hi, by simpa using h2, Nat.eq_of_beq_eq_true h3, Nat.le_of_ble_eq_true h4⟩
  · cases hp

theorem unsafe_RDoes {f : Nat} {src dst : TypeId} {b off : Nat} {x' : Value} {h : TH} (hs : unsafeConv C.P src dst b off h = true) (hx : VRel β (.pointer (some ⟨b, off, none⟩)) x') (hgb : ∀ e, β b = some e → g b = h.get b)
    (rel : HRel C β g w) (inj : Inj β g) : RDoes C f β g w (convert src dst x') (.pointer (some ⟨b, off, none⟩)) h h := by
  obtain ⟨e, he, rfl⟩ := ptr_inv hx
  unfold unsafeConv at hs
  split at hs
  · rename_i t hsrc hdst
    obtain ⟨c, wr, i, h1, h2, h3, h4, h5⟩ := pointsAt_some hs
    obtain ⟨cr, fz, k1, k2, k3, k4, k5⟩ := rel b _ e ((hgb e he).trans h1) he
    simp only [if_true] at k2
    refine RDoes.same rel inj ?_ hx
    have hsh := shape_cells k1
    have hlt : ¬ cr.size ≤ e.d + off := by omega
    simp [convert, rUnder hsrc, rUnder hdst, Conv.unsafePointer, Conv.seenAt, viewAt, hsh, cellsIn, rSize h2, hlt, Nat.ne_of_gt h3]
  · rename_i u hsrc hdst
    obtain ⟨c, wr, i, h1, h2, h3, h4, h5⟩ := pointsAt_some hs
    obtain ⟨cr, fz, k1, k2, k3, k4, k5⟩ := rel b _ e ((hgb e he).trans h1) he
    simp only [if_true] at k2
    refine RDoes.same rel inj ?_ hx
    have hsh := shape_cells k1
    have hsz : C.P.cellsOf u = i.size := by simp [Program.cellsOf, h2]
    have hl : liesAt C.P C.P.depth u (cr.size / C.P.cellsOf u) (e.d + off) u 1 = true := by
      have hd : C.P.depth = (2 * (C.P.types.size + Made.depth) + 1) + 1 := rfl
      rw [hd]
      simp only [liesAt, rowAt, sameLayout, hd, hsz, k2.2, Nat.zero_add, h4]
      have h6 : off / i.size + 1 ≤ cr.size / i.size := by
        have : (off + i.size) / i.size ≤ cr.size / i.size := Nat.div_le_div_right (by omega)
        rwa [Nat.add_div_right _ h3] at this
      simp [h6, Nat.ne_of_gt h3]
    simp [convert, rUnder hsrc, rUnder hdst, Conv.unsafePointer, Conv.seenAt, viewAt, hsh, variablesAt, rSize h2, hl]
  · cases hs

end Go.Tidy

/- append. -/
namespace Go.Tidy
open Go

variable {C : Env} {β : Emb} {w : World}

theorem zeroCells_eq {z : Array Value} {n : Nat} (hz : 0 < z.size) : (Builtin.zeroCells z n).toList = zeros z.toList (n * z.size) := zeros_eq z (n * z.size) hz
theorem zeroCells_size (z : Array Value) (n : Nat) : (Builtin.zeroCells z n).size = n * z.size := by simp [Builtin.zeroCells]

def isIntD : TypeDesc → Bool
  | .int _ => true
  | _ => false

theorem newOf_sim (hzp : zerosPlain C.P) {e : TypeId} {xd : TypeDesc} {i : TypeInfo} {x x' : Value} {h : TH} {n : Nat} {new : List Value} (hn : newOf xd i x h = some (n, new)) (hi : C.P.info? e = some i)
    (hx : VRel β x x') (rel : HRel C β h.get w) :
    ∃ new', LRel β new new' ∧ new.length = n * i.size ∧ ((isIntD xd) = true → n * i.bytes ≤ 140737488355328 ∧ n ≤ 140737488355328) ∧
      (∀ w1, (if (isIntD xd) = true then (do
          let l := IntKind.i64.wrap (← asInt x')
          if l < 0 then runtimePanic (.error "makeslice: len out of range")
          if l * (← typeInfo e).bytes > 2 ^ 48 then
            let made ← choose (.extern "append.ofMake.carriedOut" 2)
            runtimePanic (.error (if made == 1 then "makeslice: len out of range" else "growslice: len out of range"))
          pure l.toNat : Sem Nat) else Builtin.lenOf x').run C.P w1 = .ok n w1) ∧
      (∀ w1, w1.heap = w.heap → (if (!(isIntD xd)) = true then Builtin.firstCells i.size n x' else if n * i.size = 0 then pure #[] else do pure (Builtin.zeroCells (← zeroValue e).cells n)).run C.P w1 = .ok new'.toArray w1) := by
  unfold newOf at hn
  split at hn
  · rename_i k
    split at hn
    · rename_i k2 l z hzv
      obtain ⟨hzv, hp⟩ := zeroP_some hzv
      obtain ⟨hb, hn⟩ := cond_some hn
      simp only [Bool.and_eq_true, decide_eq_true_eq, Nat.ble_eq, Nat.blt_eq] at hb
      obtain ⟨b1, b2, b3, b4, b5⟩ := hb
      have b5 := Nat.eq_of_beq_eq_true b5
      simp only [Option.some.injEq, Prod.mk.injEq] at hn
      obtain ⟨rfl, rfl⟩ := hn
      obtain rfl := int_inv hx
      have hz' : 0 < z.cells.toList.length := by simpa using b4
      have b2' : l.toNat * i.bytes ≤ 140737488355328 := b2
      have b3' : l.toNat ≤ 140737488355328 := b3
      have wl : IntKind.i64.wrap l = l := IntWalk.i64_in l (by omega)
      have hl0 : ¬ l < 0 := by omega
      have hbig : ¬ (281474976710656 : Int) < l * i.bytes := by
        have : ((l.toNat * i.bytes : Nat) : Int) ≤ 140737488355328 := Int.ofNat_le.2 b2'
        rw [Int.natCast_mul, Int.toNat_of_nonneg b1] at this
        omega
      refine ⟨_, zeros_rel1 hz' (plain1_cells hp), by rw [zeros_len, b5], fun _ => ⟨b2', b3'⟩, fun w1 => ?_, fun w1 _ => ?_⟩
      · simp [isIntD, asInt, asIntOf, wl, hl0, rInfo hi, hbig]
      · by_cases h0 : l.toNat * i.size = 0
        · rw [b5, h0]
          have : zeros z.cells.toList 0 = [] := List.eq_nil_of_length_eq_zero (zeros_len _ _)
          simp [isIntD, this]
        · simp only [isIntD, Bool.not_true, Bool.false_eq_true, if_false, h0]
          simp only [Sem.run_bind, rZero hi hzv, Result.andThen_ok, Sem.run_pure]
          congr 1
          apply Array.toList_inj.1
          rw [zeroCells_eq b4]
    · cases hn
  · rename_i hni
    rw [Option.bind_eq_some_iff] at hn
    obtain ⟨n', hlen, hn⟩ := hn
    rw [Option.map_eq_some_iff] at hn
    obtain ⟨l, hl, heq⟩ := hn
    simp only [Prod.mk.injEq] at heq
    obtain ⟨rfl, rfl⟩ := heq
    obtain ⟨l', a1, a2, a3⟩ := first_sim hl hx rel
    have hf : (isIntD xd) = false := by
      cases xd <;> first | rfl | exact absurd rfl (hni _)
    refine ⟨l', a1, a2, (fun h => by rw [hf] at h; cases h), fun w1 => ?_, fun w1 hw1 => ?_⟩
    · simp only [hf, Bool.false_eq_true, if_false]
      exact len_sim hlen hx w1
    · simp only [hf, Bool.not_false, if_true]
      exact a3 w1 hw1



theorem newOf_int {xd : TypeDesc} {i : TypeInfo} {x : Value} {h : TH} {n : Nat} {new : List Value} (hn : newOf xd i x h = some (n, new)) (hz : isIntD xd = true) :
    ∃ k k2 l, xd = .int k ∧ x = .int k2 l ∧ n = l.toNat ∧ IntKind.i64.wrap l = l ∧ ¬ l < 0 ∧ ¬ (281474976710656 : Int) < l * i.bytes := by
  cases xd <;> simp only [isIntD, Bool.false_eq_true] at hz
  rename_i k
  unfold newOf at hn
  simp only at hn
  split at hn
  · rename_i k2 l z hzv
    obtain ⟨hb, hn⟩ := cond_some hn
    simp only [Bool.and_eq_true, decide_eq_true_eq, Nat.ble_eq, Nat.blt_eq] at hb
    obtain ⟨b1, b2, b3, b4, b5⟩ := hb
    simp only [Option.some.injEq, Prod.mk.injEq] at hn
    have b2' : l.toNat * i.bytes ≤ 140737488355328 := b2
    have b3' : l.toNat ≤ 140737488355328 := b3
    refine ⟨k, k2, l, rfl, rfl, hn.1.symm, IntWalk.i64_in l (by omega), by omega, ?_⟩
    have : ((l.toNat * i.bytes : Nat) : Int) ≤ 140737488355328 := Int.ofNat_le.2 b2'
    rw [Int.natCast_mul, Int.toNat_of_nonneg b1] at this
    omega
  · cases hn

theorem notInt {xd : TypeDesc} (hz : isIntD xd = false) : (match xd with | .int _ => true | _ => false) = false := by
  cases xd <;> first | rfl | (simp [isIntD] at hz)

section
variable {sT xT e : TypeId} {i : TypeInfo} {xd : TypeDesc} {ts : Array TypeId} {as' : Array Value} {ty : TypeId} {b' : Option Addr} {sLen c' n : Nat} {x x' : Value} {new' : List Value} {h : TH} {new : List Value}

set_option maxHeartbeats 4000000 in
theorem append_inPlace (h1 : ts[0]? = some sT) (h2 : ts[1]? = some xT) (hs' : as'[0]? = some (.slice b' sLen c')) (hx' : as'[1]? = some x') (hu : C.P.underlying sT = some (.slice e)) (hi : C.P.info? e = some i) (hxd : C.P.underlying xT = some xd)
    (hnew : newOf xd i x h = some (n, new)) (hxr : VRel β x x') (hlen : isIntD xd = false → ∀ w1, (Builtin.lenOf x').run C.P w1 = .ok n w1)
    (n5 : ∀ w1, w1.heap = w.heap → (if (!(isIntD xd)) = true then Builtin.firstCells i.size n x' else if n * i.size = 0 then pure #[] else do pure (Builtin.zeroCells (← zeroValue e).cells n)).run C.P w1 = .ok new'.toArray w1)
    {w' : World} (hle : sLen + n ≤ c') (hk : ((match b' with | some a => storeCells (a.add (sLen * i.size)) new' | none => pure ()) : Sem Unit).run C.P w = .ok () w') :
    (Builtin.append_ ts ty as').run C.P w = .ok (.slice b' (sLen + n) c') w' := by
  have n5 := n5 w rfl
  cases hz : isIntD xd with
  | true =>
    obtain ⟨k, k2, l, rfl, rfl, rfl, wl, hl0, hbig⟩ := newOf_int hnew hz
    obtain rfl := int_inv hxr
    simp only [hz, Bool.not_true, Bool.false_eq_true, if_false] at n5
    by_cases h0 : l.toNat * i.size = 0
    · simp [h0] at n5
      have n5' : new' = [] := by simpa using n5.symm
      subst n5'
      cases b' with
      | none => simp at hk; subst hk; simp [Builtin.append_, h1, h2, hs', hx', rUnder hu, rUnder hxd, rSize hi, rInfo hi, asInt, asIntOf, wl, hl0, hbig, hle, h0]
      | some a => simp at hk; simp [Builtin.append_, h1, h2, hs', hx', rUnder hu, rUnder hxd, rSize hi, rInfo hi, asInt, asIntOf, wl, hl0, hbig, hle, h0, hk]
    · simp [h0] at n5
      cases b' with
      | none => simp at hk; subst hk; simp [Builtin.append_, h1, h2, hs', hx', rUnder hu, rUnder hxd, rSize hi, rInfo hi, asInt, asIntOf, wl, hl0, hbig, hle, h0, n5]
      | some a => simp at hk; simp [Builtin.append_, h1, h2, hs', hx', rUnder hu, rUnder hxd, rSize hi, rInfo hi, asInt, asIntOf, wl, hl0, hbig, hle, h0, n5, hk]
  | false =>
    have hl := hlen hz w
    have n5' : (Builtin.firstCells i.size n x').run C.P w = .ok new'.toArray w := by
      rw [hz] at n5
      exact n5
    cases xd <;> simp only [isIntD, Bool.true_eq_false] at hz
    all_goals
      cases b' with
      | none => simp at hk; subst hk; simp [Builtin.append_, h1, h2, hs', hx', rUnder hu, rUnder hxd, rSize hi, hl, hle, n5']
      | some a => simp at hk; simp [Builtin.append_, h1, h2, hs', hx', rUnder hu, rUnder hxd, rSize hi, hl, hle, n5', hk]

set_option maxHeartbeats 4000000 in
theorem append_grow (h1 : ts[0]? = some sT) (h2 : ts[1]? = some xT) (hs' : as'[0]? = some (.slice b' sLen c')) (hx' : as'[1]? = some x') (hu : C.P.underlying sT = some (.slice e)) (hi : C.P.info? e = some i) (hxd : C.P.underlying xT = some xd)
    (hnew : newOf xd i x h = some (n, new)) (hxr : VRel β x x') (hlen : isIntD xd = false → ∀ w1, (Builtin.lenOf x').run C.P w1 = .ok n w1)
    (n5 : ∀ w1, w1.heap = w.heap → (if (!(isIntD xd)) = true then Builtin.firstCells i.size n x' else if n * i.size = 0 then pure #[] else do pure (Builtin.zeroCells (← zeroValue e).cells n)).run C.P w1 = .ok new'.toArray w1)
    {old' : List Value} (hold : ∀ w1, w1.heap = w.heap → (Builtin.firstCells i.size sLen (.slice b' sLen c')).run C.P w1 = .ok old'.toArray w1) {z : Value} (hzv : i.zero = some z)
    (hle : ¬ sLen + n ≤ c') (hroom : (sLen + n) * i.bytes ≤ 140737488355328) (hroom2 : sLen + n ≤ 140737488355328) :
    ∃ cap, sLen + n ≤ cap ∧ (Builtin.append_ ts ty as').run C.P w = .ok (.slice (some ⟨w.heap.size, 0, none⟩) (sLen + n) cap)
      (w.drew.alloc (.cells (old'.toArray ++ new'.toArray ++ Builtin.zeroCells z.cells (cap - (sLen + n))) e)) := by
  have n5 := n5 w.drew rfl
  have hold := hold w.drew rfl
  have hfit : ¬ (281474976710656 < Builtin.nextslicecap (sLen + n) c' * i.bytes) := by
    have := growslice_fits (need := sLen + n) (old := c') (bytes := i.bytes) (by omega) hroom
    omega
  have hbig2 : ¬ ((9223372036854775807 : Int) < ↑sLen + ↑n) := by omega
  refine ⟨Question.cut (.appendCap (sLen + n) c' e) (w.tape w.drawn (.appendCap (sLen + n) c' e)), by simp [Question.cut], ?_⟩
  cases hz : isIntD xd with
  | true =>
    obtain ⟨k, k2, l, rfl, rfl, rfl, wl, hl0, hbig⟩ := newOf_int hnew hz
    obtain rfl := int_inv hxr
    simp only [hz, Bool.not_true, Bool.false_eq_true, if_false] at n5
    have hbig3 : ¬ ((9223372036854775807 : Int) < ↑sLen + max l 0) := by omega
    by_cases h0 : l.toNat * i.size = 0
    · simp [h0] at n5
      have n5' : new' = [] := by simpa using n5.symm
      subst n5'
      simp [Builtin.append_, h1, h2, hs', hx', rUnder hu, rUnder hxd, rSize hi, rInfo hi, rZero hi hzv, asInt, asIntOf, wl, hl0, hbig, hle, h0, hold, hfit, hbig2, hbig3, Question.forced, newRow]
    · simp [h0, rZero hi hzv] at n5
      rw [← n5]
      simp [Builtin.append_, h1, h2, hs', hx', rUnder hu, rUnder hxd, rSize hi, rInfo hi, rZero hi hzv, asInt, asIntOf, wl, hl0, hbig, hle, h0, hold, hfit, hbig2, hbig3, Question.forced, newRow]
  | false =>
    have hl := hlen hz w
    have n5' : (Builtin.firstCells i.size n x').run C.P w.drew = .ok new'.toArray w.drew := by
      rw [hz] at n5
      exact n5
    cases xd <;> simp only [isIntD, Bool.true_eq_false] at hz
    all_goals
      (simp [Builtin.append_, h1, h2, hs', hx', rUnder hu, rUnder hxd, rSize hi, rInfo hi, rZero hi hzv, hl, hle, n5', hold, hfit, hbig2, Question.forced, newRow]
       congr 2
       apply Array.toList_inj.1
       simp)
end



end Go.Tidy

/- append, all of it. -/
namespace Go.Tidy
open Go

variable {C : Env} {β : Emb} {w : World}

theorem zeroFits_some {i : TypeInfo} (h : zeroFits i = true) : ∃ z, i.zero = some z ∧ z.cells.size = i.size := by
  unfold zeroFits at h
  split at h
  · rename_i z hz; exact ⟨z, hz, Nat.eq_of_beq_eq_true h⟩
  · cases h

/-- The old elements and the new ones in a row of their own. -/
theorem grown_sim {f n : Nat} {g : HG} {b : Nat} {e : TypeId} {old old' new new' : List Value} {cap need : Nat} {z : Value} (rel : HRel C β g w) (inj : Inj β g) (hg : g b = none) (hf : β b = none)
    (ho : LRel β old old') (hn : LRel β new new') (hl : old.length + new.length = need * n) (hsz : C.P.cellsOf e = n) (hz : z.cells.size = n) (hcap : need ≤ cap) :
    ∃ β', Step C f β g w β' (g.set b (.cells (old ++ new) false true e)) (w.drew.alloc (.cells (old'.toArray ++ new'.toArray ++ Builtin.zeroCells z.cells (cap - need)) e)) ∧
      VRel β' (.slice (some ⟨b, 0, none⟩) need need) (.slice (some ⟨w.heap.size, 0, none⟩) need cap) := by
  have l1 := ho.1
  have l2 := hn.1
  have hsize : (old'.toArray ++ new'.toArray ++ Builtin.zeroCells z.cells (cap - need)).size = cap * n := by
    simp only [Array.size_append, List.size_toArray, zeroCells_size, hz]
    rw [← l1, ← l2, hl, ← Nat.add_mul]
    congr 1
    omega
  refine newSlice_sim (f := f) (el := e) (cs := old ++ new) (len := need) (cap := need) (fix := false) (cap' := cap) (fz := (0, 0)) rel inj hg hf rfl rfl rfl rfl (fun h => by cases h) (fun _ => ⟨hcap, by rw [hsz, hsize]; exact Nat.le_refl _⟩) ?_ (fun i v hv => ?_) (.inl rfl)
  · rw [hsize, List.length_append, hl]; exact Nat.mul_le_mul_right _ hcap
  · obtain ⟨v', h1, h2⟩ := (ho.append hn).get hv
    refine ⟨v', ?_, h2⟩
    simp only [Array.toList_append]
    rw [List.getElem?_append_left]
    · exact h1
    · exact (List.getElem?_eq_some_iff.1 h1).1


/-- **A block goes on under a new number**, where the model has written behind its elements. -/
theorem Step.takeOver {f : Nat} {g : HG} {w' : World} {b nb : Nat} {x x' : TB} {e e' : Ent} (rel : HRel C β g w) (inj : Inj β g) (hfb : f ≤ b) (hb : g b = some x) (hnd : x ≠ .dead) (he : β b = some e)
    (hg : g nb = none) (hf : β nb = none) (hblk : e'.blk = e.blk) (hsz : w'.heap.size = w.heap.size) (hoth : ∀ r, r ≠ e.blk → w'.heap[r]? = w.heap[r]?)
    (h1 : w'.os = w.os) (h2 : w'.tape = w.tape) (h3 : w'.output = w.output) (hx : HBlk C (upd β nb e') w' e' x') :
    Step C f β g w (upd β nb e') (HG.set (HG.set g b .dead) nb x') w' := by
  have hne : b ≠ nb := by intro h; subst h; rw [hb] at hg; cases hg
  have hext : Ext β (upd β nb e') := Ext.upd e' hf
  have get : ∀ c, (HG.set (HG.set g b .dead) nb x') c = if c = nb then some x' else if c = b then some .dead else g c := fun c => rfl
  have hal : ∀ c, c ≠ nb → alive (HG.set (HG.set g b .dead) nb x') c → alive g c ∧ c ≠ b := fun c hc ⟨y, hy, hyd⟩ => by
    rw [get, if_neg hc] at hy
    by_cases hcb : c = b
    · rw [if_pos hcb] at hy; cases hy; exact absurd rfl hyd
    · rw [if_neg hcb] at hy; exact ⟨⟨y, hy, hyd⟩, hcb⟩
  refine ⟨hext, ?_, ?_, ?_, ?_, ?_, h1, h2, h3, by omega, ?_, ?_⟩
  · intro c k hk
    by_cases hc : c = nb
    · subst hc; exact .inr ⟨hf, hg, x', by rw [get, if_pos rfl]⟩
    · rw [upd_other _ _ hc] at hk; exact .inl hk
  · intro c y hy
    rw [get]
    by_cases hc : c = nb
    · exact ⟨x', by rw [if_pos hc]⟩
    · rw [if_neg hc]
      by_cases hcb : c = b
      · exact ⟨.dead, by rw [if_pos hcb]⟩
      · exact ⟨y, by rw [if_neg hcb]; exact hy⟩
  · intro c y hy ha
    exact (hal c (by intro h; subst h; rw [hg] at hy; cases hy) ha).1
  · intro c y k hc hk
    rw [get] at hc
    by_cases hcn : c = nb
    · subst hcn
      rw [if_pos rfl] at hc; cases hc
      rw [upd_same] at hk; cases hk
      exact hx
    · rw [if_neg hcn] at hc
      rw [upd_other _ _ hcn] at hk
      by_cases hcb : c = b
      · rw [if_pos hcb] at hc; cases hc; trivial
      · rw [if_neg hcb] at hc
        refine ((rel c y k hc hk).mono hext).world fun hy => hoth _ fun heq => hcb ?_
        exact inj c b k e ⟨y, hc, hy⟩ ⟨x, hb, hnd⟩ hk he heq
  · intro c c' k k' ha ha' hk hk' heq
    by_cases hc : c = nb
    · by_cases hc' : c' = nb
      · rw [hc, hc']
      · obtain ⟨q1, q2⟩ := hal c' hc' ha'
        subst hc
        rw [upd_same] at hk; cases hk
        rw [upd_other _ _ hc'] at hk'
        exact absurd (inj c' b k' e q1 ⟨x, hb, hnd⟩ hk' he (by rw [← heq, hblk])) q2
    · obtain ⟨q1, q2⟩ := hal c hc ha
      rw [upd_other _ _ hc] at hk
      by_cases hc' : c' = nb
      · subst hc'
        rw [upd_same] at hk'; cases hk'
        exact absurd (inj c b k e q1 ⟨x, hb, hnd⟩ hk he (by rw [heq, hblk])) q2
      · obtain ⟨q3, q4⟩ := hal c' hc' ha'
        rw [upd_other _ _ hc'] at hk'
        exact inj c c' k k' q1 q3 hk hk' heq
  · intro r _ hr
    exact hoth r fun heq => hr b e hfb ⟨x, hb, hnd⟩ he heq.symm
  · intro c k hc ha hk
    by_cases hcn : c = nb
    · subst hcn
      rw [upd_same] at hk; cases hk
      exact .inr ⟨b, e, hfb, ⟨x, hb, hnd⟩, he, hblk.symm⟩
    · obtain ⟨⟨y, hy, _⟩, _⟩ := hal c hcn ha
      rw [hc] at hy; cases hy

theorem append_sim (hzp : zerosPlain C.P) {ts : Array TypeId} {as as' : Array Value} {ty : TypeId} {v : Value} {h h' : TH} (hc : appendT C.P ts as h = some (v, h')) (ha : LRel β as.toList as'.toList)
    (rel : HRel C β h.get w) (inj : Inj β h.get) (wf : WF h) (hf : β h.next = none) : MDoes C β w (Builtin.append_ ts ty as') v h h' := by
  unfold appendT at hc
  split at hc
  · rename_i sT xT base sLen sCap x h1 h2 h3 h4
    obtain ⟨s', hs', hsr⟩ := getD_rel ha h3
    obtain ⟨x', hx', hxr⟩ := getD_rel ha h4
    split at hc
    · rename_i e i xd he hxd
      obtain ⟨hu, hi⟩ := elemInfo_some he
      rw [Option.bind_eq_some_iff] at hc
      obtain ⟨⟨n, new⟩, hnew, hc⟩ := hc
      obtain ⟨new', n1, n2, n3, n4, n5⟩ := newOf_sim hzp hnew hi hxr rel
      have hlen : isIntD xd = false → ∀ w1, (Builtin.lenOf x').run C.P w1 = .ok n w1 := fun hz w1 => by
        have := n4 w1
        rw [hz] at this
        exact this
      have hsize : C.P.cellsOf e = i.size := by simp [Program.cellsOf, hi]
      have hg : h.get h.next = none := wf.none (Nat.le_refl _)
      have hnl : new'.length = n * i.size := by rw [← n1.1, n2]
      obtain ⟨b', c', rfl, hcc, hbn⟩ := slice_shape hsr
      simp only at hc
      have hc0 := cond_cases hc
      clear hc
      rcases hc0 with ⟨hb0, hc⟩ | ⟨hb0, hc⟩
      · -- nothing is appended
        have hn0 := Nat.eq_of_beq_eq_true hb0
        subst hn0
        obtain ⟨hle, hc2⟩ := cond_some hc
        clear hc
        have hc := hc2
        clear hc2
        have hle := Nat.le_of_ble_eq_true hle
        simp only [Option.some.injEq, Prod.mk.injEq] at hc
        obtain ⟨rfl, rfl⟩ := hc
        have hnil : new' = [] := List.eq_nil_of_length_eq_zero (by omega)
        have := append_inPlace (C := C) (w := w) (ty := ty) (w' := w) h1 h2 hs' hx' hu hi hxd hnew hxr hlen n5 (by omega) (by cases b' <;> simp [hnil, storeCells])
        exact ⟨_, w, β, this, hsr, Step.refl rel inj⟩
      · have hn0 : n ≠ 0 := Nat.ne_of_beq_eq_false hb0
        have hc0 := cond_cases hc
        clear hc
        rcases hc0 with ⟨hle, hc⟩ | ⟨hle, hc⟩
        · -- there is room, and known to be
          have hle := Nat.le_of_ble_eq_true hle
          split at hc
          · rename_i b off
            rw [Option.map_eq_some_iff] at hc
            obtain ⟨h2', hext, heq⟩ := hc
            simp only [Prod.mk.injEq] at heq
            obtain ⟨rfl, rfl⟩ := heq
            rcases slice_inv hsr with ⟨en, c2, hen, hcap, heq⟩ | ⟨hl0, hc0, _⟩
            · simp only [Value.slice.injEq, true_and] at heq
              obtain ⟨rfl, rfl⟩ := heq
              obtain ⟨p1, p2⟩ := extend_sim (vs' := new') rel inj hext hen n1 (fun c el hgb hel cr fz hcr => by
                obtain ⟨cr', fz', a1, a2, _⟩ := rel b _ en hgb hen
                rw [hcr] at a1
                cases a1
                simp only [Bool.false_eq_true, if_false] at a2
                unfold CapRel at hcap
                rw [a2, hel, hsize] at hcap
                simp only at hcap
                have : (sLen + n) * i.size ≤ c' * i.size := Nat.mul_le_mul_right _ (by omega)
                rw [Nat.add_mul] at this
                rw [n2]
                omega)
              have := append_inPlace (C := C) (w := w) (ty := ty) h1 h2 hs' hx' hu hi hxd hnew hxr hlen n5 (w' := w.setCells en.blk (en.d + (off + sLen * i.size)) new') (by omega) (by
                simp only [add_mk]
                rw [Nat.add_assoc]
                exact p1)
              exact ⟨_, _, β, this, .slice b off en _ _ _ hen hcap, p2⟩
            · omega
          · cases hc
        · -- more room than is known to be there is wanted
          have hle : ¬ sLen + n ≤ sCap := by
            intro hh
            have : Nat.ble (sLen + n) sCap = true := by rw [Nat.ble_eq]; exact hh
            rw [hle] at this
            cases this
          obtain ⟨hroom, hc2⟩ := cond_some hc
          clear hc
          have hc := hc2
          clear hc2
          simp only [Bool.and_eq_true, room, Nat.ble_eq] at hroom
          obtain ⟨⟨r1, r2⟩, r3, r4⟩ := hroom
          have r1 : (sLen + n) * i.bytes ≤ 140737488355328 := r1
          have r2 : sLen + n ≤ 140737488355328 := r2
          obtain ⟨z, hzv, hzs⟩ := zeroFits_some r3
          split at hc
          · obtain ⟨hs0, hc2⟩ := cond_some hc
            clear hc
            have hc := hc2
            clear hc2
            have hs0 := Nat.eq_of_beq_eq_true hs0
            subst hs0
            have heq := nilSlice_inv hsr
            simp only [Value.slice.injEq, true_and] at heq
            obtain ⟨rfl, rfl⟩ := heq
            simp only [newSlice, Option.some.injEq, Prod.mk.injEq] at hc
            obtain ⟨rfl, rfl⟩ := hc
            obtain ⟨cap, hcap, hrun⟩ := append_grow (C := C) (w := w) (ty := ty) (old' := []) h1 h2 hs' hx' hu hi hxd hnew hxr hlen n5 (fun w1 _ => by simp [Builtin.firstCells]) hzv hle r1 r2
            obtain ⟨β', s1, s2⟩ := grown_sim (f := h.floor) (n := i.size) (old := []) (old' := []) (cap := cap) (need := n) rel inj hg hf LRel.nil n1 (by simp [n2]) hsize hzs (by omega)
            refine ⟨_, _, β', hrun, by simpa using s2, ?_⟩
            rw [TH.get_new]
            simpa using s1
          · rename_i b off
            split at hc
            · rename_i cc fix wr el hgb
              rw [Option.bind_eq_some_iff] at hc
              obtain ⟨old, hold, hc⟩ := hc
              have hfirst : firstT h i.size sLen (.slice (some ⟨b, off, none⟩) sLen sCap) = some old := by
                have hr : Nat.ble sLen sLen = true := by rw [Nat.ble_eq]; exact Nat.le_refl _
                simp only [firstT, hr, cond]
                exact hold
              obtain ⟨old', o1, o2, o3⟩ := first_sim hfirst hsr rel
              have hol : old.length + new.length = (sLen + n) * i.size := by rw [o2, n2, Nat.add_mul]
              have hc0 := cond_cases hc
              clear hc
              rcases hc0 with ⟨hfx, hc⟩ | ⟨hfx, hc⟩
              · -- the room is known: a new row
                subst hfx
                simp only [newSlice, Option.some.injEq, Prod.mk.injEq] at hc
                obtain ⟨rfl, rfl⟩ := hc
                have hle' : ¬ sLen + n ≤ c' := by
                  rcases slice_inv hsr with ⟨en, c2, hen, hcap, heq⟩ | ⟨hl0, hc0, a', heq⟩
                  · simp only [Value.slice.injEq, true_and] at heq
                    obtain ⟨_, rfl⟩ := heq
                    obtain ⟨cr, fz, _, a2, _⟩ := rel b _ en hgb hen
                    simp only [if_true] at a2
                    unfold CapRel at hcap
                    rw [a2.1] at hcap
                    simp only at hcap
                    omega
                  · simp only [Value.slice.injEq, true_and] at heq
                    omega
                obtain ⟨cap, hcap, hrun⟩ := append_grow (C := C) (w := w) (ty := ty) (old' := old') h1 h2 hs' hx' hu hi hxd hnew hxr hlen n5 o3 hzv hle' r1 r2
                obtain ⟨β', s1, s2⟩ := grown_sim (f := h.floor) (n := i.size) (cap := cap) rel inj hg hf o1 n1 hol hsize hzs hcap
                refine ⟨_, _, β', hrun, s2, ?_⟩
                rw [TH.get_new]
                exact s1
              · -- it is not: the block goes on in place, or a new row is laid
                obtain ⟨hwr, hc2⟩ := cond_some hc
                clear hc
                have hc := hc2
                clear hc2
                simp only [Bool.and_eq_true] at hwr
                obtain ⟨hw1, hw2⟩ := hwr
                subst hfx hw1
                have hel := Nat.eq_of_beq_eq_true hw2
                subst hel
                rw [Option.map_eq_some_iff] at hc
                obtain ⟨hd, hput, hc⟩ := hc
                simp only [newSlice, Prod.mk.injEq] at hc
                obtain ⟨rfl, rfl⟩ := hc
                obtain ⟨q1, q2, q3, q4, q5, q6, q7⟩ := TH.put_some hput
                rw [q4]
                have hnb : hd.get h.next = none := by rw [q7, HG.set_other _ _ (by omega)]; exact hg
                have grow : ¬ sLen + n ≤ c' → ∀ en, β b = some en → MDoes C β w (Builtin.append_ ts ty as') (.slice (some ⟨h.next, 0, none⟩) (sLen + n) (sLen + n)) h (hd.new (.cells (old ++ new) false true el)) := by
                  intro hle' en hen
                  have st1 : Step C h.floor β h.get w β hd.get w := by
                    rw [q7]
                    exact Step.put (x' := .dead) rel inj q1 hgb (by simp) hen rfl (fun _ _ => rfl) rfl rfl rfl trivial
                  obtain ⟨cap, hcap, hrun⟩ := append_grow (C := C) (w := w) (ty := ty) (old' := old') h1 h2 hs' hx' hu hi hxd hnew hxr hlen n5 o3 hzv hle' r1 r2
                  obtain ⟨β', s1, s2⟩ := grown_sim (f := h.floor) (n := i.size) (cap := cap) st1.rel st1.inj hnb hf o1 n1 hol hsize hzs hcap
                  refine ⟨_, _, β', hrun, s2, st1.trans ?_⟩
                  rw [TH.get_new, q4]
                  exact s1
                have hnew' : (hd.new (.cells (old ++ new) false true el)).get = HG.set (HG.set h.get b .dead) h.next (.cells (old ++ new) false true el) := by rw [TH.get_new, q7, q4]
                rcases slice_inv hsr with ⟨en, c2, hen, hcap, heq⟩ | ⟨hl0, hc0, a', heq⟩
                · simp only [Value.slice.injEq, true_and] at heq
                  obtain ⟨rfl, rfl⟩ := heq
                  by_cases hle' : sLen + n ≤ c'
                  · -- in place
                    obtain ⟨cr, fz, a1, a2, a3, a4, a5⟩ := rel b _ en hgb hen
                    simp only [Bool.false_eq_true, if_false] at a2
                    unfold CapRel at hcap
                    rw [a2, hsize] at hcap
                    simp only at hcap
                    have hmul : (sLen + n) * i.size ≤ c' * i.size := Nat.mul_le_mul_right _ hle'
                    rw [Nat.add_mul] at hmul
                    have hfz := a5 rfl
                    have hvl := n1.1
                    have hstore : (storeCells ⟨en.blk, en.d + (off + sLen * i.size), none⟩ new').run C.P w = .ok () (w.setCells en.blk (en.d + (off + sLen * i.size)) new') := by
                      have := run_storeCells_cells (P := C.P) en.blk (en.d + (off + sLen * i.size)) new' 0 w (fun j hj => by
                        simp [World.cell?, a1]
                        omega) (fun j hj => by
                        simp [World.frozen?, a1]
                        omega) (fun v hm => by
                        obtain ⟨k, hk⟩ := List.mem_iff_getElem?.1 hm
                        have hlt : k < new.length := by rw [hvl]; exact (List.getElem?_eq_some_iff.1 hk).1
                        have hr := n1.2 k new[k] v (List.getElem?_eq_getElem hlt) hk
                        rw [oneCell_eq, oneCell_rel hr]
                        exact List.all_eq_true.1 r4 _ (List.getElem_mem hlt))
                      simpa using this
                    have hrun := append_inPlace (C := C) (w := w) (ty := ty) h1 h2 hs' hx' hu hi hxd hnew hxr hlen n5 (w' := w.setCells en.blk (en.d + (off + sLen * i.size)) new') hle' (by
                      simp only [add_mk]
                      rw [Nat.add_assoc]
                      exact hstore)
                    obtain ⟨cr', b1, b2, b3⟩ := setCells_heap en.blk new' (en.d + (off + sLen * i.size)) w cr el fz a1
                    have b3 := b3 (by omega)
                    obtain ⟨t1, t2, t3, t4⟩ := setCells_rest en.blk new' (en.d + (off + sLen * i.size)) w
                    have st := Step.takeOver (x' := .cells (old ++ new) false true el) (e' := ⟨en.blk, en.d + off, some (C.P.cellsOf el, cr'.size)⟩) (w' := w.setCells en.blk (en.d + (off + sLen * i.size)) new') rel inj q1 hgb (by simp) hen hg hf rfl t1
                      (fun r hr => setCells_other _ _ _ _ _ hr) t2 t3 t4 (by
                        refine ⟨cr', fz, b1, by simp, by simp; omega, fun k u hu' => ?_, fun _ => by rw [b2]; exact hfz⟩
                        simp only
                        rw [b3]
                        by_cases hk : k < old.length
                        · rw [List.getElem?_append_left hk] at hu'
                          rw [if_pos (by omega)]
                          unfold cellsAt at hold
                          rw [hgb] at hold
                          obtain ⟨_, hold2⟩ := cond_some hold
                          have hold3 := Option.some.inj hold2
                          rw [← hold3, List.getElem?_take, List.getElem?_drop] at hu'
                          split at hu'
                          · obtain ⟨u', e1, e2⟩ := a4 _ _ hu'
                            exact ⟨u', by rw [show en.d + off + k = en.d + (off + k) by omega]; exact e1, e2.mono (Ext.upd _ hf)⟩
                          · cases hu'
                        · rw [List.getElem?_append_right (by omega)] at hu'
                          have hk2 := (List.getElem?_eq_some_iff.1 hu').1
                          rw [if_neg (by omega), if_pos (by omega)]
                          obtain ⟨u', e1, e2⟩ := n1.get hu'
                          exact ⟨u', by rw [show en.d + off + k - (en.d + (off + sLen * i.size)) = k - old.length by omega]; exact e1, e2.mono (Ext.upd _ hf)⟩)
                    refine ⟨_, _, _, hrun, ?_, by rw [hnew']; exact st⟩
                    have := VRel.slice (β := upd β h.next ⟨en.blk, en.d + off, some (C.P.cellsOf el, cr'.size)⟩) h.next 0 ⟨en.blk, en.d + off, some (C.P.cellsOf el, cr'.size)⟩ (sLen + n) (sLen + n) c' (upd_same _ _ _) (by
                      simp only [CapRel, hsize]
                      refine ⟨hle', ?_⟩
                      omega)
                    simpa using this
                  · exact grow hle' en hen
                · simp only [Value.slice.injEq] at heq
                  obtain ⟨rfl, _, rfl⟩ := heq
                  have hle' : ¬ sLen + n ≤ 0 := by omega
                  -- the old slice is empty and has no room: its block is let go of
                  cases hen : β b with
                  | some en => exact grow (by omega) en hen
                  | none =>
                    have st1 : Step C h.floor β h.get w β hd.get w := by
                      rw [q7]
                      refine ⟨Ext.refl β, fun _ _ h => .inl h, fun c y hy => ?_, fun c y hy ⟨u, hu1, hu2⟩ => ⟨y, hy, fun hyd => ?_⟩, fun c y k hc hk => ?_, fun c c' k k' ha ha' hk hk' heq => ?_, rfl, rfl, rfl, Nat.le_refl _, fun _ _ _ => rfl, fun c k hc ha _ => ?_⟩
                      · by_cases hcb : c = b
                        · subst hcb; exact ⟨.dead, HG.set_same _ _ _⟩
                        · exact ⟨y, by rw [HG.set_other _ _ hcb]; exact hy⟩
                      · subst hyd
                        by_cases hcb : c = b
                        · subst hcb; rw [HG.set_same] at hu1; cases hu1; exact hu2 rfl
                        · rw [HG.set_other _ _ hcb, hy] at hu1; cases hu1; exact hu2 rfl
                      · by_cases hcb : c = b
                        · subst hcb; rw [hen] at hk; cases hk
                        · rw [HG.set_other _ _ hcb] at hc; exact rel c y k hc hk
                      · have al : ∀ d, alive (HG.set h.get b .dead) d → alive h.get d := fun d ⟨u, hu1, hu2⟩ => by
                          by_cases hdb : d = b
                          · subst hdb; rw [HG.set_same] at hu1; cases hu1; exact absurd rfl hu2
                          · rw [HG.set_other _ _ hdb] at hu1; exact ⟨u, hu1, hu2⟩
                        exact inj c c' k k' (al c ha) (al c' ha') hk hk' heq
                      · obtain ⟨u, hu1, hu2⟩ := ha
                        by_cases hcb : c = b
                        · subst hcb; rw [HG.set_same] at hu1; cases hu1; exact absurd rfl hu2
                        · rw [HG.set_other _ _ hcb, hc] at hu1; cases hu1
                    obtain ⟨cap, hcap, hrun⟩ := append_grow (C := C) (w := w) (ty := ty) (old' := old') h1 h2 hs' hx' hu hi hxd hnew hxr hlen n5 o3 hzv (by omega) r1 r2
                    obtain ⟨β', s1, s2⟩ := grown_sim (f := h.floor) (n := i.size) (cap := cap) st1.rel st1.inj hnb hf o1 n1 hol hsize hzs hcap
                    refine ⟨_, _, β', hrun, s2, st1.trans ?_⟩
                    rw [TH.get_new, q4]
                    exact s1
            · cases hc
          · cases hc
    · cases hc
  · cases hc

end Go.Tidy

/- One operation that touches memory, whichever. -/
namespace Go.Tidy
open Go

variable {C : Env} {β : Emb} {g : HG} {w : World}

theorem RDoes.toM {s : Sem Value} {v : Value} {h h' : TH} (r : RDoes C h.floor β h.get w s v h h') : MDoes C β w s v h h' := by
  obtain ⟨v', w', β', g', h1, h2, h3, h4⟩ := r
  refine ⟨v', w', β', h1, h2, ?_⟩
  rcases h4 with ⟨rfl, rfl⟩ | ⟨x, rfl, rfl⟩
  · exact h3
  · rw [TH.get_new]; exact h3

theorem RDoes.tstep {f : Nat} {s : Sem Value} {v : Value} {h h' : TH} (r : RDoes C f β g w s v h h') : TStep h h' := by
  obtain ⟨v', w', β', g', h1, h2, h3, h4⟩ := r
  rcases h4 with ⟨rfl, _⟩ | ⟨x, rfl, _⟩
  · exact TStep.refl _
  · exact TStep.new _ _

theorem clear_sim (hz : zerosPlain C.P) {ts : Array TypeId} {as as' : Array Value} {ty : TypeId} {v : Value} {h h' : TH} (hc : clearT C.P ts as h = some (v, h')) (ha : LRel β as.toList as'.toList)
    (rel : HRel C β h.get w) (inj : Inj β h.get) : MDoes C β w (Builtin.clear_ ts ty as') v h h' := by
  unfold clearT at hc
  split at hc
  · rename_i t base n cp h1 h2
    obtain ⟨x', hx', hxr⟩ := getD_rel ha h2
    split at hc
    · rename_i e i he
      obtain ⟨hu, hi⟩ := elemInfo_some he
      split at hc
      · simp only [Option.some.injEq, Prod.mk.injEq] at hc
        obtain ⟨rfl, rfl⟩ := hc
        obtain rfl := nilSlice_inv hxr
        exact ⟨_, w, β, by simp [Builtin.clear_, h1, hx', rUnder hu], plain_refl rfl, Step.refl rel inj⟩
      · rename_i b off z hzv
        have hc0 := cond_cases hc
        clear hc
        rcases hc0 with ⟨hn, hc⟩ | ⟨hn, hc⟩
        · have hn := Nat.eq_of_beq_eq_true hn
          subst hn
          simp only [Option.some.injEq, Prod.mk.injEq] at hc
          obtain ⟨rfl, rfl⟩ := hc
          obtain ⟨a', c', rfl, _, _⟩ := slice_shape hxr
          refine ⟨_, w, β, ?_, plain_refl rfl, Step.refl rel inj⟩
          cases a' <;> simp [Builtin.clear_, h1, hx', rUnder hu]
        · have hn := Nat.ne_of_beq_eq_false hn
          obtain ⟨hz0, hc2⟩ := cond_some hc
          clear hc
          rw [Option.map_eq_some_iff] at hc2
          obtain ⟨h2', hput, heq⟩ := hc2
          simp only [Prod.mk.injEq] at heq
          obtain ⟨rfl, rfl⟩ := heq
          obtain ⟨hzv, hpz⟩ := zeroP_some hzv
          have hz0 : 0 < z.cells.size := by simpa using hz0
          have hz0' : 0 < z.cells.toList.length := by simpa using hz0
          rcases slice_inv hxr with ⟨en, c2, hen, _, rfl⟩ | ⟨rfl, _, _⟩
          · obtain ⟨p1, p2⟩ := putCells_sim (vs' := zeros z.cells.toList (n * z.cells.size)) rel inj hput hen (zeros_rel1 hz0' (plain1_cells hpz))
            refine ⟨_, _, β, ?_, plain_refl rfl, p2⟩
            obtain ⟨m, rfl⟩ : ∃ m, n = m + 1 := ⟨n - 1, by omega⟩
            have hzc : (Builtin.zeroCells z.cells (m + 1)).toList = zeros z.cells.toList ((m + 1) * z.cells.size) := zeroCells_eq hz0
            simp [Builtin.clear_, h1, hx', rUnder hu, rZero hi hzv, hzc, p1]
          · exact absurd rfl hn
      · cases hc
    · cases hc
  · cases hc
theorem clear_tstep {P : Program} {ts : Array TypeId} {as : Array Value} {v : Value} {h h' : TH} (hc : clearT P ts as h = some (v, h')) : TStep h h' := by
  unfold clearT at hc
  split at hc
  · split at hc
    · split at hc
      · simp only [Option.some.injEq, Prod.mk.injEq] at hc; obtain ⟨_, rfl⟩ := hc; exact TStep.refl h
      · have hc0 := cond_cases hc
        rcases hc0 with ⟨hn, hc⟩ | ⟨hn, hc⟩
        · simp only [Option.some.injEq, Prod.mk.injEq] at hc; obtain ⟨_, rfl⟩ := hc; exact TStep.refl h
        · obtain ⟨hz0, hc2⟩ := cond_some hc
          rw [Option.map_eq_some_iff] at hc2
          obtain ⟨h2', hput, heq⟩ := hc2
          simp only [Prod.mk.injEq] at heq
          obtain ⟨_, rfl⟩ := heq
          exact putCells_tstep hput
      · cases hc
    · cases hc
  · cases hc

theorem append_tstep {P : Program} {ts : Array TypeId} {as : Array Value} {v : Value} {h h' : TH} (hc : appendT P ts as h = some (v, h')) : TStep h h' := by
  unfold appendT at hc
  split at hc
  · split at hc
    · rw [Option.bind_eq_some_iff] at hc
      obtain ⟨⟨n, new⟩, hnew, hc⟩ := hc
      simp only at hc
      rcases cond_cases hc with ⟨_, hc1⟩ | ⟨_, hc1⟩
      · obtain ⟨_, hc2⟩ := cond_some hc1
        simp only [Option.some.injEq, Prod.mk.injEq] at hc2
        obtain ⟨_, rfl⟩ := hc2
        exact TStep.refl h
      · clear hc
        rcases cond_cases hc1 with ⟨_, hc2⟩ | ⟨_, hc2⟩
        · clear hc1
          split at hc2
          · rw [Option.map_eq_some_iff] at hc2
            obtain ⟨h2', hext, heq⟩ := hc2
            simp only [Prod.mk.injEq] at heq
            obtain ⟨_, rfl⟩ := heq
            exact extend_tstep hext
          · cases hc2
        · clear hc1
          obtain ⟨_, hc3⟩ := cond_some hc2
          clear hc2
          split at hc3
          · obtain ⟨_, hc4⟩ := cond_some hc3
            simp only [newSlice, Option.some.injEq, Prod.mk.injEq] at hc4
            obtain ⟨_, rfl⟩ := hc4
            exact TStep.new _ _
          · split at hc3
            · rename_i cc fix wr el hgb
              rw [Option.bind_eq_some_iff] at hc3
              obtain ⟨old, hold, hc4⟩ := hc3
              rcases cond_cases hc4 with ⟨_, hc5⟩ | ⟨_, hc5⟩
              · simp only [newSlice, Option.some.injEq, Prod.mk.injEq] at hc5
                obtain ⟨_, rfl⟩ := hc5
                exact TStep.new _ _
              · obtain ⟨_, hc6⟩ := cond_some hc5
                rw [Option.map_eq_some_iff] at hc6
                obtain ⟨hd, hput, heq⟩ := hc6
                simp only [newSlice, Prod.mk.injEq] at heq
                obtain ⟨_, rfl⟩ := heq
                exact (TStep.put hput hgb).trans (TStep.new _ _)
            · cases hc3
          · cases hc3
    · cases hc
  · cases hc

end Go.Tidy

/- One operation, by what it has to do with memory. -/
namespace Go.Tidy
open Go

variable {C : Env} {β : Emb} {g : HG} {w : World}

/-- An operation of the model: what it comes to. -/
def NDoes (C : Env) (f : Nat) (β : Emb) (g : HG) (w : World) (s : Sem Next) (v : Value) (g' : HG) : Prop :=
  ∃ n v' w' β', s.run C.P w = .ok n w' ∧ (n = .value v' ∨ (n = .skip ∧ v' = undef)) ∧ VRel β' v v' ∧ Step C f β g w β' g' w'

theorem MDoes.next {s : Sem Value} {v : Value} {h h' : TH} (r : MDoes C β w s v h h') : NDoes C h.floor β h.get w (do pure (.value (← s))) v h'.get := by
  obtain ⟨v', w', β', h1, h2, h3⟩ := r
  exact ⟨_, v', w', β', by simp [h1], .inl rfl, h2, h3⟩

theorem opt_some {ρ ρ' : Operand → Value} {o : Option Operand} (h : ∀ x, o = some x → VRel β (ρ x) (ρ' x)) : ∀ v, o.map ρ = some v → ∃ v', o.map ρ' = some v' ∧ VRel β v v' := (opt_rel h).1
theorem opt_none {ρ ρ' : Operand → Value} {o : Option Operand} (h : ∀ x, o = some x → VRel β (ρ x) (ρ' x)) : o.map ρ = none → o.map ρ' = none := (opt_rel h).2

theorem new_free {h h' : TH} (hn : h'.next = h.next + 1) (hgf : h' = h ∨ (g h.next = none ∧ β h.next = none)) : g h.next = none ∧ β h.next = none := by
  rcases hgf with rfl | h1
  · omega
  · exact h1

theorem buildSlice_next {P : Program} {t : TypeId} {len : Nat} {ps : List (Nat × Value)} {h h' : TH} {v : Value} (hs : buildSliceT P t len ps h = some (v, h')) : h'.next = h.next + 1 := by
  unfold buildSliceT at hs
  split at hs
  · split at hs
    · obtain ⟨_, h1⟩ := cond_some hs
      rw [Option.map_eq_some_iff] at h1
      obtain ⟨cs, _, heq⟩ := h1
      simp only [newSlice, Prod.mk.injEq] at heq
      rw [← heq.2]; rfl
    · cases hs
  · cases hs

theorem makeSlice_next {P : Program} {t : TypeId} {l c : Value} {h h' : TH} {v : Value} (hs : makeSliceT P t l c h = some (v, h')) : h'.next = h.next + 1 := by
  unfold makeSliceT at hs
  split at hs
  · split at hs
    · obtain ⟨_, h1⟩ := cond_some hs
      simp only [newSlice, Option.some.injEq, Prod.mk.injEq] at h1
      rw [← h1.2]; rfl
    · cases hs
  · cases hs

theorem convert_all {f : Nat} {src dst : TypeId} (hne : src ≠ dst) {x x' v : Value} {h h' : TH} (hs : convertT C.P src dst x h = some (v, h')) (hx : VRel β x x') (hgb : ∀ b e, blockOf x = some b → β b = some e → g b = h.get b)
    (rel : HRel C β g w) (inj : Inj β g) (hgf : h' = h ∨ (g h.next = none ∧ β h.next = none)) : RDoes C f β g w (convert src dst x') v h h' := by
  cases hxp : x with
  | pointer a =>
    subst hxp
    unfold convertT at hs
    split at hs
    · rename_i heq; cases heq
    · rename_i heq; cases heq
    · rename_i heq; cases heq
    · rename_i b off heq
      cases heq
      obtain ⟨h1, h2⟩ := cond_some hs
      simp only [Option.some.injEq, Prod.mk.injEq] at h2
      obtain ⟨rfl, rfl⟩ := h2
      exact unsafe_RDoes h1 hx (fun e he => hgb b e rfl he) rel inj
    · cases hs
  | string s =>
    have hn : h'.next = h.next + 1 := by
      subst hxp
      unfold convertT at hs
      simp only at hs
      split at hs
      · obtain ⟨_, h1⟩ := cond_some hs
        simp only [newSlice, Option.some.injEq, Prod.mk.injEq] at h1
        rw [← h1.2]; rfl
      · cases hs
    exact convert_RDoes hne hs hx hgb rel inj (fun _ _ => new_free hn hgf) (by intro a ha; rw [hxp] at ha; cases ha)
  | slice a l c => exact convert_RDoes hne hs hx hgb rel inj (by intro s e; rw [hxp] at e; cases e) (by intro a ha; rw [hxp] at ha; cases ha)
  | float k b => exact convert_RDoes hne hs hx hgb rel inj (by intro s e; rw [hxp] at e; cases e) (by intro a ha; rw [hxp] at ha; cases ha)
  | _ => subst hxp; unfold convertT at hs; simp at hs

/-- **Operations that read, and may lay a block.** -/
theorem reads_sim (hz : zerosPlain C.P) {call : Value → Array Value → TH → Option (Value × TH)} {f : Nat} {o : TOper} {o' : Oper} (ho : o'.op = o.op) {xs : List Operand} {nw : Bool} (hk : kindOf o.op = .reads xs nw) {ρ ρ' : Operand → Value} {v : Value} {h h' : TH}
    (hs : heapOp C.P call o ρ h = some (v, h')) (hρ : ∀ x, x ∈ o.op.operands → VRel β (ρ x) (ρ' x))
    (hgb : ∀ x b e, x ∈ xs → blockOf (ρ x) = some b → β b = some e → g b = h.get b) (rel : HRel C β g w) (inj : Inj β g) (hgf : h' = h ∨ (g h.next = none ∧ β h.next = none)) :
    ∃ s : Sem Value, execOp ρ' o' = (do pure (.value (← s))) ∧ RDoes C f β g w s v h h' := by
  obtain ⟨dst, op, ty, gt, locks, idx⟩ := o
  obtain ⟨dst', op', ty', pos, after, guard⟩ := o'
  simp only at ho
  subst ho
  unfold heapOp at hs
  simp only at hs hk hρ
  cases op' <;> simp only [kindOf, reduceCtorEq] at hk
  case alloc t =>
    simp only at hs
    rw [Option.map_eq_some_iff] at hs
    obtain ⟨cs, hc, heq⟩ := hs
    rw [Prod.ext_iff] at heq
    obtain ⟨rfl, rfl⟩ := heq
    obtain ⟨hg, hf⟩ := new_free rfl hgf
    exact ⟨_, rfl, alloc_sim hz hc rel inj hg hf⟩
  case box t x =>
    simp only [Option.some.injEq] at hs
    rw [Prod.ext_iff] at hs
    obtain ⟨rfl, rfl⟩ := hs
    obtain ⟨hg, hf⟩ := new_free rfl hgf
    exact ⟨_, rfl, box_sim (hρ x (by simp [Op.operands])) rel inj hg hf⟩
  case buildSlice t n ps =>
    simp only at hs
    obtain ⟨hg, hf⟩ := new_free (buildSlice_next hs) hgf
    refine ⟨_, rfl, ?_⟩
    have e : (ps.map fun (i, x) => (i, ρ' x)) = (ps.toList.map fun (i, x) => (i, ρ' x)).toArray := by
      apply Array.toList_inj.1; simp
    rw [e]
    exact buildSlice_sim hz hs (by simp) (parts_rel fun x hx => hρ x (by simpa [Op.operands] using hx)) rel inj hg hf
  case makeSlice t l c =>
    obtain ⟨hg, hf⟩ := new_free (makeSlice_next hs) hgf
    exact ⟨_, rfl, makeSlice_sim hz hs (hρ l (by simp [Op.operands])) (hρ c (by simp [Op.operands])) rel inj hg hf⟩
  case load t x =>
    simp only [Kind.reads.injEq] at hk
    exact ⟨_, rfl, load_RDoes hs (hρ x (by simp [Op.operands])) (fun b e hb he => hgb x b e (by rw [← hk.1]; simp) hb he) rel inj⟩
  case slice t x lo hi mx =>
    simp only [Kind.reads.injEq] at hk
    have o1 : ∀ y, lo = some y → VRel β (ρ y) (ρ' y) := fun y hy => hρ y (by simp [Op.operands, hy])
    have o2 : ∀ y, hi = some y → VRel β (ρ y) (ρ' y) := fun y hy => hρ y (by simp [Op.operands, hy])
    have o3 : ∀ y, mx = some y → VRel β (ρ y) (ρ' y) := fun y hy => hρ y (by simp [Op.operands, hy])
    exact ⟨_, rfl, slice_RDoes hs (hρ x (by simp [Op.operands])) (fun b e hb he => hgb x b e (by rw [← hk.1]; simp) hb he) (opt_some o1) (opt_none o1) (opt_some o2) (opt_none o2) (opt_some o3) (opt_none o3) rel inj⟩
  case convert s d x =>
    have hk0 := cond_cases hk
    rcases hk0 with ⟨_, hk⟩ | ⟨hne, hk⟩
    · cases hk
    · simp only [Kind.reads.injEq] at hk
      refine ⟨_, rfl, ?_⟩
      have hgx : ∀ b e, blockOf (ρ x) = some b → β b = some e → g b = h.get b := fun b e hb he => hgb x b e (by rw [← hk.1]; simp) hb he
      have hx := hρ x (by simp [Op.operands])
      exact convert_all (Nat.ne_of_beq_eq_false hne) hs hx hgx rel inj hgf
  case call c =>
    obtain ⟨callee, args, ts⟩ := c
    cases callee
    case builtin b => cases b <;> simp [kindOf] at hk
    all_goals simp [kindOf] at hk

end Go.Tidy

