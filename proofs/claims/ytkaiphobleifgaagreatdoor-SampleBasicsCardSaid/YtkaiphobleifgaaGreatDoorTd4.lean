/- A plain interpreter of the code and what it has to do with the model: part 5. -/
import Derived.Test.YtkaiphobleifgaaGreatDoorTd0
import Derived.Test.YtkaiphobleifgaaGreatDoorTd3
import Derived.RangeFuncLeaves
import Derived.RangeFuncRecord
set_option linter.all false
/- A plain interpreter of the model's code: functions, code. -/
namespace Go.Tidy
open Go

/-! ### Functions -/
structure TFun where
  body : TCode
  ntmps : Nat
  results : List ResultVar

/-- The functions with a body, and those without one that are known on plain values. -/
structure TProg where
  fn : Nat → Option TFun
  ext : Nat → Option (List Value → Option Value)
  noZero : Nat → Option TypeId
  same : Nat → Bool

def resultsT (P : Program) : List ResultVar → Regs → TH → Option (List Value)
  | [], _, _ => some []
  | .tmp t :: r, tmps, h => (resultsT P r tmps h).map fun l => tmps.at_ t :: l
  | .cell a t :: r, tmps, h => (loadT P t (tmps.at_ a) h).bind fun v => (resultsT P r tmps h).map fun l => v :: l

def one : List Value → Value
  | [v] => v
  | l => .tuple l.toArray

def jumpOf : Exit → Option (Option Code)
  | .normal => some none
  | .ret => some (some .ret)
  | .exit id => some (some (.exit id))
  | _ => none

def outOf : Option Code → Option Exit
  | none => some .normal
  | some .ret => some .ret
  | some (.exit id) => some (.exit id)
  | _ => none

/-- A call of a function value, by an interpreter of code. -/
def callT (P : Program) (tp : TProg) (ev : Bool → TCode → Regs → TH → Option (Exit × Regs × TH)) (f : Value) (args : Array Value) (h : TH) : Option (Value × TH) :=
  match f with
  | .func (.func k) first captured =>
    match tp.fn k with
    | some fn =>
      let as := first ++ args ++ captured
      match ev false fn.body (Regs.ofList as.toList 0 .nil) h with
      | some (.normal, a, h') | some (.ret, a, h') => (resultsT P fn.results a h').map fun l => (one l, h')
      | _ => none
    | none =>
      match tp.ext k with
      | some e =>
        let as := first ++ args ++ captured
        cond (as.toList.all plain)
          (match e as.toList with
           | some v => cond (plain v) (some (v, h)) none
           | none => none) none
      | none =>
        match tp.noZero k, (first ++ args ++ captured).toList with
        | some e, [.int .i64 n] => cond (decide (0 ≤ n) && decide (n ≤ 2 ^ 47)) (some (newSlice h [] n.toNat n.toNat false e)) none
        | none, [v] => cond (tp.same k) (some (v, h)) none
        | _, _ => none
  | .func (.yield l) first captured => cond (Nat.beq first.size 0 && Nat.beq captured.size 0)
   (match h.get l with
    | some (.loop tmps ps ta tb0 .ready none) =>
      cond (Nat.beq args.size ps.size)
        (match ev true ta (Regs.sets ps.toList args.toList tmps) h with
         | some (.normal, a1, h1) =>
           match h1.get l with
           | some (.loop tmps ps ta tb .ready none) =>
             match h1.put l (.loop tmps ps ta tb .busy none) with
             | some h2 =>
               match ev true tb0 a1 h2 with
               | some (x, _, h3) =>
                 match h3.get l, jumpOf x with
                 | some (.loop tmps ps ta tb .busy none), some j =>
                   (h3.put l (.loop tmps ps ta tb (cond j.isNone .ready .done) j)).map fun h4 => (.bool j.isNone, h4)
                 | _, _ => none
               | none => none
             | none => none
           | _ => none
         | _ => none)
        none
    | _ => none) none
  | _ => none

/-- A function of the program's with a body. -/
def isFn (tp : TProg) : Value → Bool
  | .func (.func k) _ _ => (tp.fn k).isSome
  | _ => false

def ev (P : Program) (tp : TProg) : Nat → Bool → TCode → Regs → TH → Option (Exit × Regs × TH)
  | 0, _, _, _, _ => none
  | n + 1, r, c, a, h =>
    match c with
    | .bad => none
    | .skip => some (.normal, a, h)
    | .ret => some (.ret, a, h)
    | .exit id => some (.exit id, a, h)
    | .reg ops => (evOps (stepOp P (callT P tp (ev P tp n))) ops a h).map fun (a', h') => (.normal, a', h')
    | .seq x y =>
      match ev P tp n r x a h with
      | some (.normal, a', h') => ev P tp n r y a' h'
      | res => res
    | .cond q x y =>
      match a.eval q with
      | .bool b => cond b (ev P tp n r x a h) (ev P tp n r y a h)
      | _ => none
    | .block id x =>
      match ev P tp n r x a h with
      | some (.exit id', a', h') => some (cond (Nat.beq id' id) .normal (.exit id'), a', h')
      | res => res
    | .loop x =>
      match ev P tp n r x a h with
      | some (.normal, a', h') => ev P tp n r (.loop x) a' h'
      | res => res
    | .rangeFunc f ps ta tb =>
      cond (r || !isFn tp (a.eval f)) none
        (match callT P tp (ev P tp n) (a.eval f) #[.func (.yield h.next) #[] #[]] (h.new (.loop a ps ta tb .ready none)) with
         | some (_, h1) =>
           match h1.get h.next with
           | some (.loop _ _ _ _ st j) =>
             cond (match st with | .busy => true | _ => false) none
               (match outOf j, h1.put h.next .dead with
                | some x, some h2 => some (x, a, h2)
                | _, _ => none)
           | _ => none
         | none => none)

def fnOf (P : Program) (k : Nat) : Option TFun :=
  match P.funcs[k]? with
  | some fn =>
    match fn.body with
    | some c => (compile c).map fun tc => ⟨tc, fn.ntmps, fn.results.toList⟩
    | none => none
  | none => none

/-- Library functions without a Go body. -/
inductive Bare where
  | float32bits | float32frombits | float64bits | float64frombits | trunc
  deriving DecidableEq, Inhabited

def Bare.run : Bare → List Value → Option Value
  | .float64bits, [.float .f64 b] => some (.int .u64 b)
  | .float64frombits, [.int .u64 n] => some (.float .f64 n.toNat)
  | .float32bits, [.float .f32 b] => some (.int .u32 b)
  | .float32frombits, [.int .u32 n] => some (.float .f32 n.toNat)
  | .trunc, [.float .f64 b] =>
    match FloatKind.f64.decode b with
    | .nan _ _ => none
    | d => some (.float .f64 (FloatKind.f64.encode (d.integral .zero)))
  | _, _ => none

/-- 'z': the number of the function that makes bytes of whatever they are, and the type of a byte. 's': that of a function that hands its argument back. -/
def tpOf (P : Program) (xs : List (Nat × Bare)) (z : Nat × TypeId) (s : Nat) : TProg := ⟨fnOf P, fun k => (xs.lookup k).map Bare.run, fun k => cond (Nat.beq k z.1) (some z.2) none, Nat.beq s⟩


end Go.Tidy

/- Code and calls: what they leave of the plain heap. -/
namespace Go.Tidy
open Go

def okExit : Exit → Bool
  | .normal | .ret | .exit _ => true
  | _ => false

theorem evOps_tstep {P : Program} {call : Value → Array Value → TH → Option (Value × TH)} (hc : CallT call) : ∀ {ops : List TOper} {a a' : Regs} {h h' : TH}, evOps (stepOp P call) ops a h = some (a', h') → TStep h h' := by
  intro ops
  induction ops with
  | nil =>
    intro a a' h h' hs
    simp only [evOps, Option.some.injEq, Prod.mk.injEq] at hs
    obtain ⟨rfl, rfl⟩ := hs
    exact TStep.refl _
  | cons o rest ih =>
    intro a a' h h' hs
    rw [evOps_cons] at hs
    rcases cond_cases hs with ⟨_, h1⟩ | ⟨_, h1⟩
    · rw [Option.bind_eq_some_iff] at h1
      obtain ⟨⟨v, h2⟩, hst, h1⟩ := h1
      exact (stepL_tstep (fun ρ h v h' => stepOp_tstep hc) hst).1.trans (ih h1)
    · exact ih h1

def EvT (e : Bool → TCode → Regs → TH → Option (Exit × Regs × TH)) : Prop := ∀ r c a h x a' h', e r c a h = some (x, a', h') → TStep h h' ∧ okExit x = true

theorem callT_tstep {P : Program} {tp : TProg} {e : Bool → TCode → Regs → TH → Option (Exit × Regs × TH)} (he : EvT e) : CallT (callT P tp e) := by
  intro fv args h v h' hs
  unfold callT at hs
  split at hs
  · split at hs
    · rename_i fn hfn
      simp only at hs
      split at hs
      · rename_i a1 h1 hev
        rw [Option.map_eq_some_iff] at hs
        obtain ⟨l, _, heq⟩ := hs
        simp only [Prod.mk.injEq] at heq
        obtain ⟨_, rfl⟩ := heq
        exact (he _ _ _ _ _ _ _ hev).1
      · rename_i a1 h1 hev
        rw [Option.map_eq_some_iff] at hs
        obtain ⟨l, _, heq⟩ := hs
        simp only [Prod.mk.injEq] at heq
        obtain ⟨_, rfl⟩ := heq
        exact (he _ _ _ _ _ _ _ hev).1
      · cases hs
    · split at hs
      · obtain ⟨_, h1⟩ := cond_some hs
        split at h1
        · obtain ⟨_, h2⟩ := cond_some h1
          simp only [Option.some.injEq, Prod.mk.injEq] at h2
          obtain ⟨_, rfl⟩ := h2
          exact TStep.refl _
        · cases h1
      · split at hs
        · obtain ⟨_, h1⟩ := cond_some hs
          simp only [newSlice, Option.some.injEq, Prod.mk.injEq] at h1
          obtain ⟨_, rfl⟩ := h1
          exact TStep.new _ _
        · obtain ⟨_, h1⟩ := cond_some hs
          simp only [Option.some.injEq, Prod.mk.injEq] at h1
          obtain ⟨_, rfl⟩ := h1
          exact TStep.refl _
        · cases hs
  · obtain ⟨_, hs0⟩ := cond_some hs
    clear hs
    have hs := hs0
    clear hs0
    split at hs
    · obtain ⟨_, h1⟩ := cond_some hs
      split at h1
      · rename_i a1 h1' hev
        have t1 := (he _ _ _ _ _ _ _ hev).1
        split at h1
        · rename_i hg1
          split at h1
          · rename_i h2 hput
            have t2 := TStep.put hput hg1
            split at h1
            · rename_i x a2 h3 hev2
              have t3 := (he _ _ _ _ _ _ _ hev2).1
              split at h1
              · rename_i hg3 hj
                rw [Option.map_eq_some_iff] at h1
                obtain ⟨h4, hput4, heq⟩ := h1
                simp only [Prod.mk.injEq] at heq
                obtain ⟨_, rfl⟩ := heq
                exact ((t1.trans t2).trans t3).trans (TStep.put hput4 hg3)
              · cases h1
            · cases h1
          · cases h1
        · cases h1
      · cases h1
    · cases hs
  · cases hs

theorem outOf_ok {j : Option Code} {x : Exit} (h : outOf j = some x) : okExit x = true := by
  unfold outOf at h
  split at h <;> first | (cases h; rfl) | cases h

theorem ev_tstep {P : Program} {tp : TProg} : ∀ n, EvT (ev P tp n) := by
  intro n
  induction n with
  | zero => intro r c a h x a' h' hs; simp [ev] at hs
  | succ n ih =>
    intro r c a h x a' h' hs
    unfold ev at hs
    cases c with
    | bad => simp at hs
    | skip => simp only [Option.some.injEq, Prod.mk.injEq] at hs; obtain ⟨rfl, rfl, rfl⟩ := hs; exact ⟨TStep.refl _, rfl⟩
    | ret => simp only [Option.some.injEq, Prod.mk.injEq] at hs; obtain ⟨rfl, rfl, rfl⟩ := hs; exact ⟨TStep.refl _, rfl⟩
    | exit id => simp only [Option.some.injEq, Prod.mk.injEq] at hs; obtain ⟨rfl, rfl, rfl⟩ := hs; exact ⟨TStep.refl _, rfl⟩
    | reg ops =>
      simp only at hs
      rw [Option.map_eq_some_iff] at hs
      obtain ⟨⟨a1, h1⟩, hev, heq⟩ := hs
      simp only [Prod.mk.injEq] at heq
      obtain ⟨rfl, rfl, rfl⟩ := heq
      exact ⟨evOps_tstep (callT_tstep ih) hev, rfl⟩
    | seq c1 c2 =>
      simp only at hs
      split at hs
      · rename_i a1 h1 hev
        obtain ⟨t1, _⟩ := ih _ _ _ _ _ _ _ hev
        obtain ⟨t2, o2⟩ := ih _ _ _ _ _ _ _ hs
        exact ⟨t1.trans t2, o2⟩
      · exact ih _ _ _ _ _ _ _ hs
    | cond q c1 c2 =>
      simp only at hs
      split at hs
      · rcases cond_cases hs with ⟨_, h1⟩ | ⟨_, h1⟩ <;> exact ih _ _ _ _ _ _ _ h1
      · cases hs
    | block id c1 =>
      simp only at hs
      split at hs
      · rename_i id' a1 h1 hev
        simp only [Option.some.injEq, Prod.mk.injEq] at hs
        obtain ⟨rfl, rfl, rfl⟩ := hs
        refine ⟨(ih _ _ _ _ _ _ _ hev).1, ?_⟩
        cases Nat.beq id' id <;> rfl
      · exact ih _ _ _ _ _ _ _ hs
    | loop c1 =>
      simp only at hs
      split at hs
      · rename_i a1 h1 hev
        obtain ⟨t1, _⟩ := ih _ _ _ _ _ _ _ hev
        obtain ⟨t2, o2⟩ := ih _ _ _ _ _ _ _ hs
        exact ⟨t1.trans t2, o2⟩
      · exact ih _ _ _ _ _ _ _ hs
    | rangeFunc f ps ta tb =>
      simp only at hs
      obtain ⟨_, h1⟩ := cond_none hs
      split at h1
      · rename_i v h1' hcall
        have t1 := callT_tstep ih _ _ _ _ _ hcall
        split at h1
        · rename_i hg
          obtain ⟨_, h2⟩ := cond_none h1
          split at h2
          · rename_i y h2' ho hput
            simp only [Option.some.injEq, Prod.mk.injEq] at h2
            obtain ⟨rfl, rfl, rfl⟩ := h2
            exact ⟨((TStep.new _ _).trans t1).trans (TStep.put hput hg), outOf_ok ho⟩
          · cases h2
        · cases h1
      · cases h1

end Go.Tidy

/- Code and calls, in the model. -/
namespace Go.Tidy
open Go

variable {C : Env} {β : Emb} {g : HG} {w : World}

def fw (ro : Option Nat) : Fence := { fn := fun _ => True, depth := none, alive := false, round := ro }
theorem fw_wide (ro : Option Nat) : Wide (fw ro) := ⟨fun _ => trivial, rfl⟩

/-! ### The marks of loops over functions -/
def Marks (s : Nat) (β : Emb) (g : HG) (w : World) (D : List Deferred) : Prop :=
  ∃ rs : List Nat, D = rs.map (fun r => ({ target := .collected r, args := #[] } : Deferred)) ∧ rs.Nodup ∧ s ≤ w.heap.size ∧
    ∀ r, r ∈ rs → s ≤ r ∧ w.heap[r]? = some (.deferred (some [])) ∧ ∀ b e, alive g b → β b = some e → e.blk ≠ r

theorem Marks.nil (β : Emb) (g : HG) (w : World) : Marks w.heap.size β g w [] := ⟨[], rfl, List.nodup_nil, Nat.le_refl _, fun r hr => by cases hr⟩

theorem Step.image {f : Nat} {β β' : Emb} {g g' : HG} {w w' : World} (s : Step C f β g w β' g' w') {r : Nat} (hr : r < w.heap.size) (h : ∀ b e, alive g b → β b = some e → e.blk ≠ r) : ∀ b e, alive g' b → β' b = some e → e.blk ≠ r := by
  intro b e ha he
  cases hg : g b with
  | some x =>
    rcases s.born b e he with h1 | ⟨_, h2, _⟩
    · exact h b e (s.dead b x hg ha) h1
    · rw [hg] at h2; cases h2
  | none =>
    rcases s.fresh b e hg ha he with h1 | ⟨b0, e0, _, k2, k3, k4⟩
    · omega
    · rw [← k4]; exact h b0 e0 k2 k3

theorem Marks.step {f s : Nat} {β β' : Emb} {g g' : HG} {w w' : World} {D : List Deferred} (st : Step C f β g w β' g' w') (h : Marks s β g w D) : Marks s β' g' w' D := by
  obtain ⟨rs, h1, h2, h3, h4⟩ := h
  refine ⟨rs, h1, h2, Nat.le_trans h3 st.size, fun r hr => ?_⟩
  obtain ⟨k1, k2, k3⟩ := h4 r hr
  have hlt : r < w.heap.size := (Array.getElem?_eq_some_iff.1 k2).1
  exact ⟨k1, by rw [st.keep r hlt fun b e _ ha he => k3 b e ha he]; exact k2, st.image hlt k3⟩

/-- The world is changed where nothing is known. -/
theorem Step.after {f : Nat} {β β' : Emb} {g g' : HG} {w w' w'' : World} (s : Step C f β g w β' g' w') (hsz : w'.heap.size ≤ w''.heap.size) (h1 : w''.os = w'.os) (h2 : w''.tape = w'.tape) (h3 : w''.output = w'.output)
    (hold : ∀ r, r < w.heap.size → w''.heap[r]? = w'.heap[r]?) (hrel : ∀ b e, alive g' b → β' b = some e → w''.heap[e.blk]? = w'.heap[e.blk]?) : Step C f β g w β' g' w'' :=
  ⟨s.ext, s.born, s.stay, s.dead, fun b x e hg he => (s.rel b x e hg he).world fun hx => hrel b e ⟨x, hg, hx⟩ he, s.inj, h1.trans s.os, h2.trans s.tape, h3.trans s.output, Nat.le_trans s.size hsz,
    fun r hr hb => (hold r hr).trans (s.keep r hr hb), s.fresh⟩

/-! ### Scopes -/
section
variable {P : Program} {F : Fence} {n : Nat} {b : Frame} {a : Act} {k : List Item} {cs : List Frame} {Q : Exit → Act → World → Prop}

theorem stepR_scope {c : Code} : step P (lone (b.atR a (.code (.scope c) :: k)) cs w) = .next (lone (b.atR a (.code c :: .inScope c :: k)) cs w) :=
  step_lone_go (by simp [stepG, stepG.exec, Frame.atR])
theorem stepR_inScope {c : Code} : step P (lone (b.atR a (.inScope c :: k)) cs w) = .next (lone (b.atR a k) cs w) :=
  step_lone_go (by simp [stepG, stepG.exec, Frame.atR])

def plainExit (Q : Exit → Act → World → Prop) : Exit → Act → World → Prop
  | .goto _, _, _ => False
  | e, a, w => Q e a w

theorem wpIn_scope {c : Code} (h : c.wpIn F n P (plainExit Q) a w) : (Code.scope c).wpIn F n P Q a w := by
  intro b k cs hro hb hr
  have h0 : (lone (b.atR a (.code (.scope c) :: k)) cs w).fenced P F := fenced_calm hb hr rfl
  obtain ⟨e, a₁, w₁, hq, harr⟩ := h b (.inScope c :: k) cs hro hb hr
  cases e with
  | normal => exact ⟨.normal, a₁, w₁, hq, .head h0 stepR_scope (StepsIn.trans harr (.one (fenced_calm hb hr rfl) stepR_inScope))⟩
  | exit id =>
    have hx : exitTo id (.inScope c :: k) = exitTo id k := by simp [exitTo]
    exact ⟨.exit id, a₁, w₁, hq, fun k' hk => .head h0 stepR_scope (harr.1 k' (by rw [hx]; exact hk)),
      fun hr' hk => let ⟨k₁, h1, h2⟩ := harr.2 hr' (by rw [hx]; exact hk); ⟨k₁, h1, .head h0 stepR_scope h2⟩⟩
  | goto l => exact hq.elim
  | ret => exact ⟨_, a₁, w₁, hq, .of_steps (.one h0 stepR_scope) harr⟩
  | panic ch => exact ⟨_, a₁, w₁, hq, .of_steps (.one h0 stepR_scope) harr⟩
  | outgrown => exact ⟨_, a₁, w₁, hq, .of_steps (.one h0 stepR_scope) harr⟩
end

/-! ### Results -/
theorem loadT_ptr {P : Program} {t : TypeId} {x v : Value} {h : TH} (hs : loadT P t x h = some v) : ∃ b off, x = .pointer (some ⟨b, off, none⟩) := by
  unfold loadT at hs
  split at hs
  · exact ⟨_, _, rfl⟩
  · cases hs

def resF (l : Array Value) : ResultVar → Sem Value
  | .tmp t => pure (l.getD t undef)
  | .cell x t => do loadVar t (← asAddr (l.getD x undef))

theorem results_eq (fn : Func) (l : Array Value) : results fn l = (do
    let vs ← fn.results.mapM (resF l)
    pure (if h : vs.size = 1 then vs[0] else .tuple vs)) := rfl

theorem results_list {m : Nat} {a : Regs} {l : Array Value} {h : TH} (rel : HRel C β h.get w) (ha : ARel β m a l) : ∀ {rs : List ResultVar} {vs : List Value}, resultsT C.P rs a h = some vs →
    ∃ vs', LRel β vs vs' ∧ (rs.mapM (resF l)).run C.P w = .ok vs' w := by
  intro rs
  induction rs with
  | nil =>
    intro vs h
    simp only [resultsT, Option.some.injEq] at h
    subst h
    exact ⟨[], LRel.nil, rfl⟩
  | cons r rs ih =>
    intro vs hv
    cases r with
    | tmp t =>
      simp only [resultsT] at hv
      rw [Option.map_eq_some_iff] at hv
      obtain ⟨l1, h1, rfl⟩ := hv
      obtain ⟨vs', q1, q2⟩ := ih h1
      refine ⟨_, LRel.cons (ha.2 t) q1, ?_⟩
      have p3 : (resF l (.tmp t)).run C.P w = .ok (l.getD t undef) w := rfl
      rw [List.mapM_cons, Sem.run_bind, p3]
      simp [Result.andThen, q2]
    | cell x t =>
      simp only [resultsT] at hv
      rw [Option.bind_eq_some_iff] at hv
      obtain ⟨v, h1, hv⟩ := hv
      rw [Option.map_eq_some_iff] at hv
      obtain ⟨l1, h2, rfl⟩ := hv
      obtain ⟨vs', q1, q2⟩ := ih h2
      obtain ⟨v', p1, p2⟩ := loadT_sim rel (fun _ _ _ _ => rfl) h1 (ha.2 x)
      refine ⟨_, LRel.cons p1 q1, ?_⟩
      obtain ⟨b, off, hx⟩ := loadT_ptr h1
      have hx' := ha.2 x
      rw [hx] at hx'
      obtain ⟨e, _, he⟩ := ptr_inv hx'
      rw [he] at p2
      have p3 : (loadVar t ⟨e.blk, e.d + off, none⟩).run C.P w = .ok v' w := by
        rw [← p2]
        simp [Instr.loadAt, Instr.sureAddr]
      have p4 : (resF l (.cell x t)).run C.P w = .ok v' w := by
        simp only [resF, he, asAddr, Sem.run_bind, Sem.run_pure, Result.andThen]
        exact p3
      rw [List.mapM_cons, Sem.run_bind, p4]
      simp [Result.andThen, q2]

theorem results_sim {fn : Func} {m : Nat} {a : Regs} {l : Array Value} {h : TH} (rel : HRel C β h.get w) (ha : ARel β m a l) {vs : List Value} (hv : resultsT C.P fn.results.toList a h = some vs) :
    ∃ v', VRel β (one vs) v' ∧ (results fn l).run C.P w = .ok v' w := by
  obtain ⟨vs', q1, q2⟩ := results_list rel ha hv
  have hrun : (results fn l).run C.P w = .ok (if h : vs'.toArray.size = 1 then vs'.toArray[0] else .tuple vs'.toArray) w := by
    rw [results_eq, Sem.run_bind, Array.mapM_eq_mapM_toList, Sem.run_map, q2]
    rfl
  refine ⟨_, ?_, hrun⟩
  cases vs with
  | nil =>
    have := LRel.of_nil q1
    subst this
    exact .tuple _ _ rfl (fun i v v' h => by simp at h)
  | cons v r =>
    obtain ⟨v', r', rfl, h1, h2⟩ := q1.uncons
    cases r with
    | nil =>
      have := LRel.of_nil h2
      subst this
      exact h1
    | cons v2 r2 =>
      obtain ⟨v2', r2', rfl, h3, h4⟩ := h2.uncons
      simp only [one]
      rw [dif_neg (by simp)]
      exact tuple_mk (by simpa using LRel.cons h1 (LRel.cons h3 h4))

end Go.Tidy

/- Calls, in the model. -/
namespace Go.Tidy
open Go

variable {C : Env} {β : Emb} {g : HG} {w : World}

/-- What an interpreter of code does, the model's code does. -/
def EvOk (C : Env) (e : Bool → TCode → Regs → TH → Option (Exit × Regs × TH)) : Prop :=
  ∀ r tc a h x a' h', e r tc a h = some (x, a', h') → ∀ c m ro, compile c = some tc → ready C.G m tc = true → (r = false → ro = none) →
    ∀ (β : Emb) (w : World) (l : Array Value) (D : List Deferred) (s : Nat) (Q : Exit → Act → World → Prop), ARel β m a l → Good C β h w → Marks s β h.get w D →
      (∀ l' w' β' D', ARel β' m a' l' → Step C h.floor β h.get w β' h'.get w' → Good C β' h' w' → Marks s β' h'.get w' D' → Q x ⟨l', D'⟩ w') → c.wpIn (fw ro) 0 C.P Q ⟨l, D⟩ w

structure TpOk (C : Env) (tp : TProg) : Prop where
  fn : ∀ k f, tp.fn k = some f → ∃ fn c, C.P.funcs[k]? = some fn ∧ fn.body = some c ∧ compile c = some f.body ∧ ready C.G f.ntmps f.body = true ∧ fn.ntmps = f.ntmps ∧ fn.results.toList = f.results ∧ (fn.name == "runtime.NumGoroutine") = false
  ext : ∀ k e, tp.fn k = none → tp.ext k = some e → ∀ (as : Array Value) (v : Value), as.toList.all plain = true → e as.toList = some v → plain v = true →
    ∀ (ro : Option Nat) (β : Emb) (h : TH) (w : World), Good C β h w → UDoes C (fw ro) 0 h.floor β h.get w ((callFunc k as).run C.P w) v h.get
  noZero : ∀ k e, tp.fn k = none → tp.ext k = none → tp.noZero k = some e → ∀ (n : Int), 0 ≤ n → n ≤ 2 ^ 47 → ∀ (β : Emb) (h : TH) (w : World), Good C β h w → ∃ v' w' β', (callFunc k #[.int .i64 n]).run C.P w = .ok (.value v') w' ∧
    VRel β' (newSlice h [] n.toNat n.toNat false e).1 v' ∧ Step C h.floor β h.get w β' (newSlice h [] n.toNat n.toNat false e).2.get w'
  same : ∀ k, tp.fn k = none → tp.ext k = none → tp.noZero k = none → tp.same k = true → ∀ (v : Value) (w : World), (callFunc k #[v]).run C.P w = .ok (.value v) w

theorem ofList_at : ∀ (vs : List Value) (i : Nat) (a : Regs) (t : Nat), (Regs.ofList vs i a).at_ t = if i ≤ t ∧ t < i + vs.length then vs.getD (t - i) undef else a.at_ t := by
  intro vs
  induction vs with
  | nil => intro i a t; simp [Regs.ofList]; omega
  | cons v r ih =>
    intro i a t
    simp only [Regs.ofList, List.length_cons]
    rw [ih]
    by_cases h1 : i + 1 ≤ t ∧ t < i + 1 + r.length
    · rw [if_pos h1, if_pos (by omega)]
      have : t - i = (t - (i + 1)) + 1 := by omega
      rw [this, List.getD_cons_succ]
    · rw [if_neg h1, Regs.at_set]
      by_cases h2 : t = i
      · subst h2; simp
      · rw [if_neg h2, if_neg (by omega)]

/-- A function's first temporaries. -/
theorem enter_rel {as as' : Array Value} (h : LRel β as.toList as'.toList) (m : Nat) : ARel β m (Regs.ofList as.toList 0 .nil) (as' ++ Array.replicate (m - as'.size) undef) := by
  refine ⟨by simp; omega, fun t => ?_⟩
  revert t
  intro (t : Nat)
  rw [ofList_at]
  have hl : as.toList.length = as'.toList.length := h.1
  rw [Array.getD_eq_getD_getElem?]
  by_cases ht : t < as.toList.length
  · rw [if_pos (by omega)]
    have h1 : as.toList[t]? = some as.toList[t] := List.getElem?_eq_getElem ht
    obtain ⟨v', h2, h3⟩ := h.get h1
    have h4 : (as' ++ Array.replicate (m - as'.size) undef)[t]? = some v' := by
      rw [Array.getElem?_append_left (by have : t < as'.toList.length := by omega
                                         simpa using this)]
      simpa using h2
    rw [h4]
    simp only [Nat.sub_zero, List.getD_eq_getElem?_getD, h1, Option.getD_some]
    exact h3
  · rw [if_neg (by omega)]
    have h0 : Regs.at_ (.nil : Regs) t = undef := by
      unfold Regs.at_; rw [Tr.get_nil]
    rw [h0]
    have h4 : (as' ++ Array.replicate (m - as'.size) undef)[t]?.getD undef = undef := by
      rw [Array.getElem?_append_right (by have : as'.toList.length ≤ t := by omega
                                          simpa using this)]
      rw [Array.getElem?_replicate]
      split <;> rfl
    rw [h4]
    exact .undef

theorem putObj_rest (w : World) (r : Nat) (o : Obj) : (w.putObj r o).heap.size = w.heap.size ∧ (w.putObj r o).os = w.os ∧ (w.putObj r o).tape = w.tape ∧ (w.putObj r o).output = w.output := by
  simp [World.putObj]

/-- The marks are taken, one by one. -/
theorem leave_marks {fn : Func} {tmps : Array Value} {R : Ending → World → Prop} {F : Fence} {n : Nat} {P : Program} : ∀ (rs : List Nat) (w : World), rs.Nodup → (∀ r, r ∈ rs → w.heap[r]? = some (.deferred (some []))) →
    (∀ w', w'.heap.size = w.heap.size → w'.os = w.os → w'.tape = w.tape → w'.output = w.output → (∀ r, r ∉ rs → w'.heap[r]? = w.heap[r]?) → LeavesIn F n P fn tmps R [] .returning w') →
    LeavesInM F n P fn tmps R (rs.map (fun r => ({ target := .collected r, args := #[] } : Deferred))) .returning w := by
  intro rs
  induction rs with
  | nil => intro w _ _ h; exact h w rfl rfl rfl rfl fun _ _ => rfl
  | cons r rs ih =>
    intro w hnd hat h
    have hr := hat r (by simp)
    obtain ⟨p1, p2, p3, p4⟩ := putObj_rest w r (.deferred none)
    have hlt : r < w.heap.size := (Array.getElem?_eq_some_iff.1 hr).1
    have hnd' := List.nodup_cons.1 hnd
    refine ⟨by simp, .inl ⟨r, w.putObj r (.deferred none), rfl, run_takeDeferred hr, ?_⟩⟩
    refine ih _ hnd'.2 (fun q hq => ?_) fun w' s1 s2 s3 s4 s5 => ?_
    · rw [World.putObj_heap_other (by intro e; subst e; exact hnd'.1 hq)]
      exact hat q (List.mem_cons_of_mem _ hq)
    · refine h w' (by omega) (s2.trans p2) (s3.trans p3) (s4.trans p4) fun q hq => ?_
      rw [s5 q (fun e => hq (List.mem_cons_of_mem _ e)), World.putObj_heap_other (by intro e; subst e; exact hq (by simp))]

/-- **A function is called.** -/
theorem enter_sim {tp : TProg} (htp : TpOk C tp) {e : Bool → TCode → Regs → TH → Option (Exit × Regs × TH)} (hev : EvOk C e) (het : EvT e) {k : Nat} {fn : TFun} (hk : tp.fn k = some fn) {as as' : Array Value} (has : LRel β as.toList as'.toList)
    {h h' : TH} {x : Exit} {a : Regs} {vs : List Value} (hs : e false fn.body (Regs.ofList as.toList 0 .nil) h = some (x, a, h')) (hx : x = .normal ∨ x = .ret) (hr : resultsT C.P fn.results a h' = some vs) (gd : Good C β h w) :
    CallsIn (fw none) 0 C.P k as' w fun en w' => ∃ v' β', en = .returned v' ∧ VRel β' (one vs) v' ∧ Step C h.floor β h.get w β' h'.get w' := by
  obtain ⟨f, c, q1, q2, q3, q4, q5, q6, q7⟩ := htp.fn k fn hk
  refine callsIn_of_wp_marks q1 q2 trivial ?_
  rw [q5]
  have hm := Marks.nil β h.get w
  refine hev _ _ _ _ _ _ _ hs c fn.ntmps none q3 q4 (fun _ => rfl) β w _ [] w.heap.size _ (enter_rel has fn.ntmps) gd hm fun l' w' β' D' r1 r2 r3 r4 => ?_
  obtain ⟨rs, d1, d2, d3, d4⟩ := r4
  have hl : LeavesInM (fw none) 0 C.P f l' (fun en w' => ∃ v' β', en = .returned v' ∧ VRel β' (one vs) v' ∧ Step C h.floor β h.get w β' h'.get w') D' .returning w' := by
    rw [d1]
    refine leave_marks rs w' d2 (fun r hr => (d4 r hr).2.1) fun w'' s1 s2 s3 s4 s5 => ?_
    have st : Step C h.floor β h.get w β' h'.get w'' := by
      refine r2.after (by omega) s2 s3 s4 (fun r hr => s5 r fun hm => ?_) fun b en ha he => s5 _ fun hm => ?_
      · have := (d4 r hm).1; omega
      · exact (d4 _ hm).2.2 b en ha he rfl
    rw [← q6] at hr
    obtain ⟨v', t1, t2⟩ := results_sim st.rel r1 hr
    exact ⟨v', t2, v', β', rfl, t1, st⟩
  rcases hx with rfl | rfl
  · exact hl
  · exact hl

theorem CallsIn.next {F : Fence} {k : Nat} {as' : Array Value} {h h' : TH} {v : Value} (hF : F = fw none ∨ ∃ l, F = fw (some l)) (hc : CallsIn (fw none) 0 C.P k as' w fun en w' => ∃ v' β', en = .returned v' ∧ VRel β' v v' ∧ Step C h.floor β h.get w β' h'.get w')
    (f : Func) (c : Code) : UDoes C F 0 h.floor β h.get w (.ok (.enter k as') w) v h'.get := by
  intro o a K Q hk
  have hF2 : ∀ R, CallsIn (fw none) 0 C.P k as' w R → CallsIn F 0 C.P k as' w R := by
    rcases hF with rfl | ⟨l, rfl⟩
    · exact fun R h => h
    · exact fun R h => h
  refine ⟨fun hd => ?_, hF2 _ (CallsIn.mono hc fun en w' he => ?_)⟩
  · rcases hF with rfl | ⟨l, rfl⟩ <;> cases hd
  · obtain ⟨v', β', rfl, h1, h2⟩ := he
    exact hk v' w' β' h1 h2

end Go.Tidy

/- Code as a whole, in the model. -/
namespace Go.Tidy
open Go

variable {C : Env} {β : Emb} {g : HG} {w : World}

theorem sets_rel {m : Nat} : ∀ (ps : List Tmp) (vs vs' : List Value) (a : Regs) (l : Array Value), (∀ t, t ∈ ps → t < m) → LRel β vs vs' → ARel β m a l → ps.length = vs.length →
    ARel β m (Regs.sets ps vs a) ((ps.zip vs').foldl (fun (l : Array Value) (p : Tmp × Value) => l.setIfInBounds p.1 p.2) l) := by
  intro ps
  induction ps with
  | nil => intro vs vs' a l _ _ ha _; simpa [Regs.sets] using ha
  | cons p ps ih =>
    intro vs vs' a l hps hv ha hl
    cases vs with
    | nil => simp at hl
    | cons v vs =>
      obtain ⟨v', r', rfl, h1, h2⟩ := hv.uncons
      simp only [Regs.sets, List.zip_cons_cons, List.foldl_cons]
      refine ih vs r' _ _ (fun t ht => hps t (List.mem_cons_of_mem _ ht)) h2 ?_ (by simpa using hl)
      obtain ⟨l', e1, e2⟩ := ha.put (d := some p) (by simpa [dstOk] using hps p (by simp)) h1 (D := [])
      have : l' = l.setIfInBounds p v' := by
        have := congrArg Act.tmps e1
        simpa [Act.put] using this.symm
      subst this
      exact e2

theorem loop_at {h : TH} {b : Nat} {e : Ent} {tmps : Regs} {ps : Array Tmp} {ta tb : TCode} {st : LoopState} {pe : Option Code} (rel : HRel C β h.get w) (hb : h.get b = some (.loop tmps ps ta tb st pe)) (he : β b = some e) :
    ∃ fn tmps' D n ca cb, w.heap[e.blk]? = some (.loop { state := st, pending := pe, fn, tmps := tmps', params := ps, assign := ca, body := cb, defers := D }) ∧ ARel β n tmps tmps' ∧ (∀ t, t ∈ ps → t < n) ∧ C.C n ca ta ∧ C.C n cb tb := rel b _ e hb he

/-- The record of a loop is written in both. -/
theorem loop_put {h h' : TH} {b : Nat} {e : Ent} {tmps : Regs} {ps : Array Tmp} {ta tb : TCode} {st : LoopState} {pe : Option Code} (gd : Good C β h w) (hb : h.get b = some (.loop tmps ps ta tb st pe)) (he : β b = some e)
    {st' : LoopState} {pe' : Option Code} (hp : h.put b (.loop tmps ps ta tb st' pe') = some h') {r : Loop} (hr : w.heap[e.blk]? = some (.loop r)) :
    Step C h.floor β h.get w β h'.get (w.putObj e.blk (.loop { r with state := st', pending := pe' })) ∧ Good C β h' (w.putObj e.blk (.loop { r with state := st', pending := pe' })) := by
  obtain ⟨fn, tmps', D, n, ca, cb, k1, k2, k3, k4, k5⟩ := loop_at gd.rel hb he
  rw [hr] at k1
  simp only [Option.some.injEq, Obj.loop.injEq] at k1
  subst k1
  obtain ⟨p1, p2, p3, p4, p5, p6, p7⟩ := TH.put_some hp
  obtain ⟨z1, z2, z3, z4⟩ := putObj_rest w e.blk (.loop { state := st', pending := pe', fn, tmps := tmps', params := ps, assign := ca, body := cb, defers := D })
  have hlt : e.blk < w.heap.size := (Array.getElem?_eq_some_iff.1 hr).1
  have st : Step C h.floor β h.get w β h'.get (w.putObj e.blk (.loop { state := st', pending := pe', fn, tmps := tmps', params := ps, assign := ca, body := cb, defers := D })) := by
    rw [p7]
    exact Step.put gd.rel gd.inj p1 hb (by simp) he z1 (fun r hr => World.putObj_heap_other hr) z2 z3 z4 ⟨fn, tmps', D, n, ca, cb, World.putObj_heap_same hlt, k2, k3, k4, k5⟩
  exact ⟨st, gd.step st (TStep.put hp hb)⟩

theorem callFunc_enter {tp : TProg} (htp : TpOk C tp) {k : Nat} {fn : TFun} (hk : tp.fn k = some fn) (as : Array Value) (w : World) : (callFunc k as).run C.P w = .ok (.enter k as) w := by
  obtain ⟨f, c, q1, q2, q3, q4, q5, q6, q7⟩ := htp.fn k fn hk
  simp only [beq_eq_false_iff_ne, ne_eq] at q7
  simp [callFunc, q1, q2, q7]

theorem app3_rel {a a' b b' c c' : Array Value} (h1 : LRel β a.toList a'.toList) (h2 : LRel β b.toList b'.toList) (h3 : LRel β c.toList c'.toList) : LRel β (a ++ b ++ c).toList (a' ++ b' ++ c').toList := by
  simpa using (h1.append h2).append h3

theorem func_inv {k : Nat} {a c fv' : _} (h : VRel β (.func (.func k) a c) fv') : ∃ a' c', fv' = .func (.func k) a' c' ∧ LRel β a.toList a'.toList ∧ LRel β c.toList c'.toList := by
  cases h with
  | func f a a' c c' h1 h2 h3 h4 => exact ⟨a', c', rfl, ⟨by simpa using h1, h2⟩, ⟨by simpa using h3, h4⟩⟩

theorem yield_inv {l : Nat} {a c : Array Value} {fv' : Value} (h : VRel β (.func (.yield l) a c) fv') : ∃ e, β l = some e ∧ fv' = .func (.yield e.blk) #[] #[] := by
  generalize hv : (Value.func (.yield l) a c) = v at h
  cases h <;> simp at hv
  case yield l' e he =>
    obtain ⟨rfl, _, _⟩ := hv
    exact ⟨e, he, rfl⟩

theorem ofValue_run (k : Nat) (a c args : Array Value) (w : World) : ((do let d ← Deferred.ofValue (.func (.func k) a c) args; invoke d.target d.args : Sem Next)).run C.P w = (callFunc k (a ++ args ++ c)).run C.P w := by
  simp [Deferred.ofValue, invoke]

theorem callOk {tp : TProg} (htp : TpOk C tp) (hC : ∀ m c tc, C.C m c tc → compile c = some tc ∧ ready C.G m tc = true) {e : Bool → TCode → Regs → TH → Option (Exit × Regs × TH)} (hev : EvOk C e) (het : EvT e) (ro : Option Nat) : CallOk C (fw ro) 0 (callT C.P tp e) := by
  have hF : fw ro = fw none ∨ ∃ l, fw ro = fw (some l) := by
    cases ro with
    | none => exact .inl rfl
    | some l => exact .inr ⟨l, rfl⟩
  intro fv args h v h' hs
  refine ⟨callT_tstep het _ _ _ _ _ hs, ?_⟩
  intro β w fv' args' hfv ha gd
  unfold callT at hs
  split at hs
  · rename_i k first captured
    obtain ⟨first', captured', rfl, hf, hc⟩ := func_inv hfv
    have has := app3_rel hf ha hc
    rw [ofValue_run]
    split at hs
    · rename_i fn hfn
      rw [callFunc_enter htp hfn]
      simp only at hs
      split at hs
      · rename_i a1 h1 hev1
        rw [Option.map_eq_some_iff] at hs
        obtain ⟨l, hl, heq⟩ := hs
        simp only [Prod.mk.injEq] at heq
        obtain ⟨rfl, rfl⟩ := heq
        exact CallsIn.next hF (enter_sim htp hev het hfn has hev1 (.inl rfl) hl gd) default default
      · rename_i a1 h1 hev1
        rw [Option.map_eq_some_iff] at hs
        obtain ⟨l, hl, heq⟩ := hs
        simp only [Prod.mk.injEq] at heq
        obtain ⟨rfl, rfl⟩ := heq
        exact CallsIn.next hF (enter_sim htp hev het hfn has hev1 (.inr rfl) hl gd) default default
      · cases hs
    · rename_i hfn
      split at hs
      · rename_i ex hex
        obtain ⟨hp, h1⟩ := cond_some hs
        split at h1
        · rename_i u hu
          obtain ⟨hp2, h2⟩ := cond_some h1
          simp only [Option.some.injEq, Prod.mk.injEq] at h2
          obtain ⟨rfl, rfl⟩ := h2
          have heq : first' ++ args' ++ captured' = first ++ args ++ captured := by
            apply Array.toList_inj.1
            exact list_eq (β := β) (p := plain) hp has.1 has.2 (fun _ _ a b => plain_eq a b)
          rw [heq]
          exact htp.ext k ex hfn hex _ _ hp hu hp2 ro β _ w gd
        · cases h1
      · rename_i hex
        split at hs
        · rename_i el n hnz has0
          obtain ⟨hb, h1⟩ := cond_some hs
          simp only [Option.some.injEq] at h1
          simp only [Bool.and_eq_true, decide_eq_true_eq] at hb
          rw [has0] at has
          obtain ⟨v1, r1, e1, g1, g2⟩ := has.uncons
          obtain rfl := int_inv g1
          have := LRel.of_nil g2
          subst this
          have heq : first' ++ args' ++ captured' = #[.int .i64 n] := by apply Array.toList_inj.1; exact e1
          rw [heq]
          obtain ⟨v', w', β', k1, k2, k3⟩ := htp.noZero k el hfn hex hnz n hb.1 hb.2 β h w gd
          rw [h1] at k2 k3
          exact UDoes.value k1 k2 k3
        · rename_i v0 hnz has0
          obtain ⟨hb, h1⟩ := cond_some hs
          simp only [Option.some.injEq, Prod.mk.injEq] at h1
          obtain ⟨rfl, rfl⟩ := h1
          rw [has0] at has
          obtain ⟨v1, r1, e1, g1, g2⟩ := has.uncons
          have := LRel.of_nil g2
          subst this
          have heq : first' ++ args' ++ captured' = #[v1] := by apply Array.toList_inj.1; exact e1
          rw [heq]
          exact UDoes.value (htp.same k hfn hex hnz hb v1 w) g1 (Step.refl gd.rel gd.inj)
        · cases hs
  · rename_i l first captured
    obtain ⟨_, hs0⟩ := cond_some hs
    clear hs
    have hs := hs0
    clear hs0
    obtain ⟨en, hen, rfl⟩ := yield_inv hfv
    split at hs
    · rename_i tmps ps ta tb0 hg0
      obtain ⟨hsz, h1⟩ := cond_some hs
      have hsz := Nat.eq_of_beq_eq_true hsz
      split at h1
      · rename_i a1 h1' hev1
        split at h1
        · rename_i tmps1 ps1 ta1 tb1 hg1
          split at h1
          · rename_i h2 hput
            split at h1
            · rename_i x a2 h3 hev2
              split at h1
              · rename_i tmps3 ps3 ta3 tb3 j hg3 hj
                rw [Option.map_eq_some_iff] at h1
                obtain ⟨h4, hput4, heq⟩ := h1
                simp only [Prod.mk.injEq] at heq
                obtain ⟨rfl, rfl⟩ := heq
                obtain ⟨fn, tmps', D, m, ca0, cb0, k1, k2, k3, k4, k5⟩ := loop_at gd.rel hg0 hen
                obtain ⟨c1, c2⟩ := hC _ _ _ k4
                obtain ⟨c3, c4⟩ := hC _ _ _ k5
                have hlen : args'.size = ps.size := by
                  have := ha.1
                  simp at this
                  omega
                have hrun : ((do let d ← Deferred.ofValue (.func (.yield en.blk) #[] #[]) args'; invoke d.target d.args : Sem Next)).run C.P w =
                    .ok (.round en.blk fn ((ps.zip args').foldl (fun tmps (t, a) => tmps.setIfInBounds t a) tmps') ca0 cb0) w := by
                  simp only [Deferred.ofValue, invoke, Sem.run_bind, Sem.run_pure, Result.andThen, Array.empty_append]
                  exact run_yield k1 hlen
                rw [hrun]
                intro o act K Q hk
                refine ⟨(fun hd => by cases hd), ?_⟩
                have main : RoundIn (fw none) 0 C.P en.blk fn ((ps.zip args').foldl (fun tmps (t, a) => tmps.setIfInBounds t a) tmps') ca0 cb0 w (fun
                    | .returned v, w'' => K (act.put o.dst v) w''
                    | .panicked chain, w'' => Q (.panic chain) act w''
                    | .outgrown, _ => LetsOut Q) := by
                  refine roundIn_of_wpIn trivial ?_
                  have har : ARel β m (Regs.sets ps.toList args.toList tmps) ((ps.zip args').foldl (fun tmps (t, a) => tmps.setIfInBounds t a) tmps') := by
                    have := sets_rel ps.toList args.toList args'.toList tmps tmps' (fun t ht => k3 t (by simpa using ht)) ha k2 (by simpa using hsz.symm)
                    rw [← Array.foldl_toList, Array.toList_zip]
                    exact this
                  refine hev true ta _ _ _ _ _ hev1 ca0 m (some en.blk) c1 c2 (fun h => by cases h) β w _ [] w.heap.size _ har gd (Marks.nil _ _ _) fun l1 w1 β1 D1 r1 r2 r3 r4 => ?_
                  have hen1 := r2.ext _ _ hen
                  obtain ⟨fn1, tmps1', Dd1, m1, ca1, cb1, q1, _⟩ := loop_at r3.rel hg1 hen1
                  refine ⟨_, run_beginRound q1 rfl, ?_⟩
                  obtain ⟨s2, gd2⟩ := loop_put r3 hg1 hen1 hput q1
                  refine hev true tb0 _ _ _ _ _ hev2 cb0 m (some en.blk) c3 c4 (fun h => by cases h) β1 _ l1 D1 w.heap.size _ r1 gd2 (r4.step s2) fun l3 w3 β3 D3 t1 t2 t3 t4 => ?_
                  have hen3 := t2.ext _ _ hen1
                  obtain ⟨fn3, tmps3', Dd3, m3, ca3, cb3, q3, _⟩ := loop_at t3.rel hg3 hen3
                  obtain ⟨s4, gd4⟩ := loop_put t3 hg3 hen3 hput4 q3
                  have hfl1 : h1'.floor = h.floor := (het _ _ _ _ _ _ _ hev1).1.floor
                  have hfl2 : h2.floor = h.floor := (TH.put_some hput).2.2.2.2.1.trans hfl1
                  have hfl3 : h3.floor = h.floor := (het _ _ _ _ _ _ _ hev2).1.floor.trans hfl2
                  rw [hfl1] at s2
                  rw [hfl2] at t2
                  rw [hfl3] at s4
                  have hst : (cond j.isNone LoopState.ready LoopState.done) = (if j.isNone then .ready else .done) := by cases j <;> rfl
                  have fin : ∃ v' w', (Instr.endRound en.blk j).run C.P w3 = .ok v' w' ∧ K (act.put o.dst v') w' := by
                    refine ⟨_, _, run_endRound j q3, ?_⟩
                    refine hk _ _ β3 (.bool _) ?_
                    have := ((r2.trans s2).trans t2).trans s4
                    rw [hst] at this
                    exact this
                  unfold jumpOf at hj
                  split at hj
                  · cases hj; exact fin
                  · cases hj; exact fin
                  · cases hj; exact fin
                  · cases hj
                exact main
              · cases h1
            · cases h1
          · cases h1
        · cases h1
      · cases h1
    · cases hs
  · cases hs

end Go.Tidy

/- Code as a whole, in the model. -/
namespace Go.Tidy
open Go

variable {C : Env} {β : Emb} {g : HG} {w : World}

def LoopOk (C : Env) (e : Bool → TCode → Regs → TH → Option (Exit × Regs × TH)) : Prop :=
  ∀ r tc a h x a' h', e r (.loop tc) a h = some (x, a', h') → ∀ c m ro, compile c = some tc → ready C.G m tc = true → (r = false → ro = none) → ∃ k,
    ∀ (β : Emb) (w : World) (l : Array Value) (D : List Deferred) (s : Nat) (Q : Exit → Act → World → Prop), ARel β m a l → Good C β h w → Marks s β h.get w D →
      (∀ l' w' β' D', ARel β' m a' l' → Step C h.floor β h.get w β' h'.get w' → Good C β' h' w' → Marks s β' h'.get w' D' → Q x ⟨l', D'⟩ w') → Code.roundsIn (fw ro) 0 C.P c Q k ⟨l, D⟩ w

theorem then_of {next : Act → World → Prop} {Q : Exit → Act → World → Prop} {x : Exit} {a : Act} {w : World} (hx : x ≠ .normal) (h : Q x a w) : Exit.then next Q x a w := by
  cases x <;> first | exact absurd rfl hx | exact h

/-- A loop over a function. -/
theorem range_sim {tp : TProg} (htp : TpOk C tp) {e : Bool → TCode → Regs → TH → Option (Exit × Regs × TH)} (hev : EvOk C e) (het : EvT e) (hC2 : ∀ m c tc, compile c = some tc → ready C.G m tc = true → C.C m c tc)
    {f : Operand} {ps : Array Tmp} {ca cb : Code} {ta tb : TCode} {m : Nat} (c1 : compile ca = some ta) (c2 : compile cb = some tb) (hr : ready C.G m (.rangeFunc f ps ta tb) = true)
    {a : Regs} {h h1 h2 : TH} {v : Value} {tmps1 : Regs} {ps1 : Array Tmp} {ta1 tb1 : TCode} {st : LoopState} {j : Option Code} {x : Exit}
    (hfn : isFn tp (a.eval f) = true) (hc : callT C.P tp e (a.eval f) #[.func (.yield h.next) #[] #[]] (h.new (.loop a ps ta tb .ready none)) = some (v, h1))
    (hst : (match st with | .busy => true | _ => false) = false) (hg : h1.get h.next = some (.loop tmps1 ps1 ta1 tb1 st j)) (hj : outOf j = some x) (hp : h1.put h.next .dead = some h2)
    {l : Array Value} {D : List Deferred} {s : Nat} {Q : Exit → Act → World → Prop} (ha : ARel β m a l) (gd : Good C β h w) (hm : Marks s β h.get w D)
    (hQ : ∀ l' w' β' D', ARel β' m a l' → Step C h.floor β h.get w β' h2.get w' → Good C β' h2 w' → Marks s β' h2.get w' D' → Q x ⟨l', D'⟩ w') : (Code.rangeFunc f ps ca cb).wpIn (fw none) 0 C.P Q ⟨l, D⟩ w := by
  simp only [ready, Bool.and_eq_true] at hr
  obtain ⟨r1, r2, r3, r4⟩ := hr
  refine wpIn_rangeFunc fun fnid _ => ?_
  -- the function
  have hev0 := eval_rel (D := D) gd.glob r1 (fun t _ => ha.2 t)
  unfold isFn at hfn
  split at hfn
  · rename_i k first captured hfe
    rw [hfe] at hev0 hc
    obtain ⟨first', captured', hfv, hf, hcp⟩ := func_inv hev0
    obtain ⟨fn, hk⟩ := Option.isSome_iff_exists.1 hfn
    -- the record and the mark are laid
    let d0 : Obj := .deferred (some [])
    let w0 := w.alloc d0
    let rec0 : Loop := { state := .ready, pending := none, fn := fnid, tmps := l, params := ps, assign := ca, body := cb, defers := w.heap.size }
    let w1 := w0.alloc (.loop rec0)
    let en : Ent := ⟨w.heap.size + 1, 0, none⟩
    have hsz0 : w0.heap.size = w.heap.size + 1 := by simp [w0]
    have st0 : Step C h.floor β h.get w β h.get w0 := (Step.refl gd.rel gd.inj).after (by simp [w0]) rfl rfl rfl (fun r hr => Go.RowKit.Below.heap_alloc _ _ _ hr)
      fun b e ⟨x, hx, hxd⟩ he => Go.RowKit.Below.heap_alloc _ _ _ ((gd.rel b x e hx he).lt hxd)
    have hx : HBlk C (upd β h.next en) w1 en (.loop a ps ta tb .ready none) := by
      refine ⟨fnid, l, w.heap.size, m, ca, cb, ?_, ha.mono (Ext.upd en gd.free.2), fun t ht => ?_, hC2 _ _ _ c1 r3, hC2 _ _ _ c2 r4⟩
      · have := World.alloc_heap_new w0 (.loop rec0)
        rw [hsz0] at this
        exact this
      · have := List.all_eq_true.1 r2 t (by simpa using ht)
        simpa using this
    have st1 : Step C h.floor β h.get w0 (upd β h.next en) (h.new (.loop a ps ta tb .ready none)).get w1 := by
      rw [TH.get_new]
      exact Step.new st0.rel st0.inj gd.free.1 gd.free.2 hsz0.symm (by simp [w1]) (fun k hk => Go.RowKit.Below.heap_alloc _ _ _ hk) rfl rfl rfl hx
    have gd1 : Good C (upd β h.next en) (h.new (.loop a ps ta tb .ready none)) w1 := gd.step (st0.trans st1) (TStep.new _ _)
    have hm1 : Marks s (upd β h.next en) (h.new (.loop a ps ta tb .ready none)).get w1 ({ target := .collected w.heap.size, args := #[] } :: D) := by
      obtain ⟨rs, d1, d2, d3, d4⟩ := hm.step (st0.trans st1)
      obtain ⟨rs', d1', d2', d3', d4'⟩ := hm
      refine ⟨w.heap.size :: rs', by rw [d1']; rfl, ?_, d3, ?_⟩
      · refine List.nodup_cons.2 ⟨fun hmem => ?_, d2'⟩
        have := (Array.getElem?_eq_some_iff.1 (d4' _ hmem).2.1).1
        omega
      · intro r hr
        rcases List.mem_cons.1 hr with rfl | hr
        · refine ⟨d3', ?_, fun b e2 hal he2 heq => ?_⟩
          · have h1 : w1.heap[w.heap.size]? = w0.heap[w.heap.size]? := Go.RowKit.Below.heap_alloc _ _ _ (by omega)
            rw [h1]
            exact World.alloc_heap_new w d0
          · by_cases hb : b = h.next
            · subst hb
              rw [upd_same] at he2
              cases he2
              have : w.heap.size + 1 = w.heap.size := heq
              omega
            · rw [upd_other _ _ hb] at he2
              obtain ⟨y, hy, hyd⟩ := hal
              rw [TH.get_new, HG.set_other _ _ hb] at hy
              have := (gd.rel b y e2 hy he2).lt hyd
              omega
        · obtain ⟨q1, q2, q3⟩ := d4' r hr
          have hlt : r < w.heap.size := (Array.getElem?_eq_some_iff.1 q2).1
          exact ⟨q1, by rw [(st0.trans st1).keep r hlt fun b e _ hal he => q3 b e hal he]; exact q2, (st0.trans st1).image hlt q3⟩
    -- the call
    have hy : LRel (upd β h.next en) (#[Value.func (.yield h.next) #[] #[]] : Array Value).toList (#[Value.func (.yield (w.heap.size + 1)) #[] #[]] : Array Value).toList :=
      LRel.cons (.yield h.next en (upd_same _ _ _)) LRel.nil
    have hext := Ext.upd en gd.free.2
    have has := app3_rel (hf.mono hext) hy (hcp.mono hext)
    have hcalls : CallsIn (fw none) 0 C.P k (first' ++ #[Value.func (.yield (w.heap.size + 1)) #[] #[]] ++ captured') w1 fun e2 w' => ∃ v' β', e2 = .returned v' ∧ VRel β' v v' ∧ Step C h.floor (upd β h.next en) (h.new (.loop a ps ta tb .ready none)).get w1 β' h1.get w' := by
      unfold callT at hc
      simp only [hk] at hc
      split at hc
      · rename_i a1 h1' hev1
        rw [Option.map_eq_some_iff] at hc
        obtain ⟨vs, hl, heq⟩ := hc
        simp only [Prod.mk.injEq] at heq
        obtain ⟨rfl, rfl⟩ := heq
        exact enter_sim htp hev het hk has hev1 (.inl rfl) hl gd1
      · rename_i a1 h1' hev1
        rw [Option.map_eq_some_iff] at hc
        obtain ⟨vs, hl, heq⟩ := hc
        simp only [Prod.mk.injEq] at heq
        obtain ⟨rfl, rfl⟩ := heq
        exact enter_sim htp hev het hk has hev1 (.inr rfl) hl gd1
      · cases hc
    have tst : TStep (h.new (.loop a ps ta tb .ready none)) h1 := callT_tstep het _ _ _ _ _ hc
    refine ⟨w.heap.size + 1, [{ target := .collected w.heap.size, args := #[] }], w1, { target := .fn (.func k) captured', args := first' ++ #[Value.func (.yield (w.heap.size + 1)) #[] #[]] }, w1, k,
      first' ++ #[Value.func (.yield (w.heap.size + 1)) #[] #[]] ++ captured', w1, run_enterLoop_outer _ _ _ _ _, ?_, fun _ _ => trivial, ?_, (fun hd => by cases hd), ?_⟩
    · have hop : ((⟨l, D⟩ : Act).eval f) = .func (.func k) first' captured' := hfv
      simp only [resolve, rangeCall, hop, Deferred.ofValue, Sem.run_pure]
      simp [Act.eval]
    · exact callFunc_enter htp hk _ _
    · refine CallsIn.mono hcalls fun e2 w3 he2 => ?_
      obtain ⟨v', β2, rfl, q1, q2⟩ := he2
      have gd2 : Good C β2 h1 w3 := gd1.step q2 tst
      have hen2 : β2 h.next = some en := q2.ext _ _ (upd_same _ _ _)
      obtain ⟨fn3, tmps3, Dd3, m3, ca1, cb1, k3, _⟩ := loop_at gd2.rel hg hen2
      have hnb : st ≠ .busy := by intro e; subst e; cases hst
      refine ⟨j, _, run_endLoop k3 (by simpa using hnb), ?_⟩
      obtain ⟨p1, p2, p3, p4, p5, p6, p7⟩ := TH.put_some hp
      have hlt : en.blk < w3.heap.size := (Array.getElem?_eq_some_iff.1 k3).1
      have st3 : Step C h1.floor β2 h1.get w3 β2 h2.get (w3.putObj (w.heap.size + 1) (.loop { state := .exhausted, pending := j, fn := fn3, tmps := tmps3, params := ps1, assign := ca1, body := cb1, defers := Dd3 })) := by
        obtain ⟨z1, z2, z3, z4⟩ := putObj_rest w3 (w.heap.size + 1) (.loop { state := .exhausted, pending := j, fn := fn3, tmps := tmps3, params := ps1, assign := ca1, body := cb1, defers := Dd3 })
        rw [p7]
        exact Step.put gd2.rel gd2.inj p1 hg (by simp) hen2 z1 (fun r hr => World.putObj_heap_other hr) z2 z3 z4 trivial
      have gd3 := gd2.step st3 (TStep.put hp hg)
      have hfl : h1.floor = h.floor := tst.floor
      rw [hfl] at st3
      have stAll := ((st0.trans st1).trans q2).trans st3
      have hm3 := (hm1.step q2).step st3
      have hfin : Q x ⟨l, [{ target := .collected w.heap.size, args := #[] }] ++ D⟩ (w3.putObj (w.heap.size + 1) (.loop { state := .exhausted, pending := j, fn := fn3, tmps := tmps3, params := ps1, assign := ca1, body := cb1, defers := Dd3 })) :=
        hQ _ _ _ _ (ha.mono stAll.ext) stAll gd3 hm3
      unfold outOf at hj
      split at hj
      · cases hj; exact hfin
      · cases hj; exact wpIn_ret hfin
      · cases hj; exact wpIn_exit hfin
      · cases hj
  · cases hfn

theorem ev_ok (hz : zerosPlain C.P) (hmix : C.P.follows .mixedOrders = true) {tp : TProg} (htp : TpOk C tp) (hC : ∀ m c tc, C.C m c tc ↔ compile c = some tc ∧ ready C.G m tc = true) : ∀ n, EvOk C (ev C.P tp n) ∧ LoopOk C (ev C.P tp n) := by
  intro n
  induction n with
  | zero => exact ⟨fun r tc a h x a' h' hs => by simp [ev] at hs, fun r tc a h x a' h' hs => by simp [ev] at hs⟩
  | succ n ih =>
    obtain ⟨ih1, ih2⟩ := ih
    have het := ev_tstep (P := C.P) (tp := tp) n
    have hloop : LoopOk C (ev C.P tp (n + 1)) := by
      intro r tc a h x a' h' hs c m ro hc hrdy hro
      simp only [ev] at hs
      split at hs
      · rename_i a1 h1 hev
        obtain ⟨k, hk⟩ := ih2 _ _ _ _ _ _ _ hs c m ro hc hrdy hro
        refine ⟨k + 1, fun β w l D s Q ha gd hm hQ => ?_⟩
        rw [roundsIn_succ]
        refine ih1 _ _ _ _ _ _ _ hev c m ro hc hrdy hro β w l D s _ ha gd hm fun l1 w1 β1 D1 q1 q2 q3 q4 => ?_
        refine hk β1 w1 l1 D1 s Q q1 q3 q4 fun l2 w2 β2 D2 p1 p2 p3 p4 => ?_
        rw [(het _ _ _ _ _ _ _ hev).1.floor] at p2
        exact hQ _ _ _ _ p1 (q2.trans p2) p3 p4
      · rename_i hnot
        refine ⟨1, fun β w l D s Q ha gd hm hQ => ?_⟩
        rw [roundsIn_succ]
        refine ih1 _ _ _ _ _ _ _ hs c m ro hc hrdy hro β w l D s _ ha gd hm fun l1 w1 β1 D1 q1 q2 q3 q4 => ?_
        have hx : x ≠ .normal := by intro e; subst e; exact hnot _ _ hs
        exact then_of hx (hQ _ _ _ _ q1 q2 q3 q4)
    refine ⟨?_, hloop⟩
    intro r tc a h x a' h' hs c
    have hok := (ev_tstep (P := C.P) (tp := tp) (n + 1) _ _ _ _ _ _ _ hs).2
    induction c generalizing tc with
    | scope c ihc =>
      intro m ro hc hrdy hro β w l D s Q ha gd hm hQ
      refine wpIn_scope (ihc tc hs m ro hc hrdy hro β w l D s _ ha gd hm fun l1 w1 β1 D1 q1 q2 q3 q4 => ?_)
      have := hQ _ _ _ _ q1 q2 q3 q4
      cases x <;> first | exact this | cases hok
    | skip =>
      intro m ro hc hrdy hro β w l D s Q ha gd hm hQ
      simp only [compile, Option.some.injEq] at hc
      subst hc
      simp only [ev, Option.some.injEq, Prod.mk.injEq] at hs
      obtain ⟨rfl, rfl, rfl⟩ := hs
      exact wpIn_skip (hQ l w β D ha (Step.refl gd.rel gd.inj) gd hm)
    | label k =>
      intro m ro hc hrdy hro β w l D s Q ha gd hm hQ
      simp only [compile, Option.some.injEq] at hc
      subst hc
      simp only [ev, Option.some.injEq, Prod.mk.injEq] at hs
      obtain ⟨rfl, rfl, rfl⟩ := hs
      exact wpIn_label (hQ l w β D ha (Step.refl gd.rel gd.inj) gd hm)
    | ret =>
      intro m ro hc hrdy hro β w l D s Q ha gd hm hQ
      simp only [compile, Option.some.injEq] at hc
      subst hc
      simp only [ev, Option.some.injEq, Prod.mk.injEq] at hs
      obtain ⟨rfl, rfl, rfl⟩ := hs
      exact wpIn_ret (hQ l w β D ha (Step.refl gd.rel gd.inj) gd hm)
    | exit id =>
      intro m ro hc hrdy hro β w l D s Q ha gd hm hQ
      simp only [compile, Option.some.injEq] at hc
      subst hc
      simp only [ev, Option.some.injEq, Prod.mk.injEq] at hs
      obtain ⟨rfl, rfl, rfl⟩ := hs
      exact wpIn_exit (hQ l w β D ha (Step.refl gd.rel gd.inj) gd hm)
    | goto k => intro m ro hc; simp [compile] at hc
    | refuse k =>
      intro m ro hc
      simp only [compile, Option.some.injEq] at hc
      subst hc
      simp [ev] at hs
    | region id ops draw =>
      intro m ro hc hrdy hro β w l D s Q ha gd hm hQ
      simp only [compile] at hc
      rw [Option.map_eq_some_iff] at hc
      obtain ⟨ts, hts, rfl⟩ := hc
      simp only [ev] at hs
      rw [Option.map_eq_some_iff] at hs
      obtain ⟨⟨a1, h1⟩, hev, heq⟩ := hs
      simp only [Prod.mk.injEq] at heq
      obtain ⟨rfl, rfl, rfl⟩ := heq
      refine reg_sim hz (fw_wide ro) hmix (callOk htp (fun m c tc h => (hC m c tc).1 h) ih1 het ro) hts hrdy hev ha gd fun l' w' β' q1 q2 q3 => ?_
      exact hQ _ _ _ _ q1 q2 q3 (hm.step q2)
    | seq c1 c2 i1 i2 =>
      intro m ro hc hrdy hro β w l D s Q ha gd hm hQ
      simp only [compile] at hc
      rw [Option.bind_eq_some_iff] at hc
      obtain ⟨t1, h1, hc⟩ := hc
      rw [Option.map_eq_some_iff] at hc
      obtain ⟨t2, h2, rfl⟩ := hc
      simp only [ready, Bool.and_eq_true] at hrdy
      simp only [ev] at hs
      refine wpIn_seq ?_
      split at hs
      · rename_i a1 h1' hev
        refine ih1 _ _ _ _ _ _ _ hev c1 m ro h1 hrdy.1 hro β w l D s _ ha gd hm fun l1 w1 β1 D1 q1 q2 q3 q4 => ?_
        refine ih1 _ _ _ _ _ _ _ hs c2 m ro h2 hrdy.2 hro β1 w1 l1 D1 s Q q1 q3 q4 fun l2 w2 β2 D2 p1 p2 p3 p4 => ?_
        rw [(het _ _ _ _ _ _ _ hev).1.floor] at p2
        exact hQ _ _ _ _ p1 (q2.trans p2) p3 p4
      · rename_i hnot
        refine ih1 _ _ _ _ _ _ _ hs c1 m ro h1 hrdy.1 hro β w l D s _ ha gd hm fun l1 w1 β1 D1 q1 q2 q3 q4 => ?_
        have hx : x ≠ .normal := by intro e; subst e; exact hnot _ _ hs
        exact then_of hx (hQ _ _ _ _ q1 q2 q3 q4)
    | cond q c1 c2 i1 i2 =>
      intro m ro hc hrdy hro β w l D s Q ha gd hm hQ
      simp only [compile] at hc
      rw [Option.bind_eq_some_iff] at hc
      obtain ⟨t1, h1, hc⟩ := hc
      rw [Option.map_eq_some_iff] at hc
      obtain ⟨t2, h2, rfl⟩ := hc
      simp only [ready, Bool.and_eq_true] at hrdy
      simp only [ev] at hs
      have hq := eval_rel (D := D) gd.glob hrdy.1 (fun t _ => ha.2 t)
      split at hs
      · rename_i b hb
        rw [hb] at hq
        have hq := bool_inv hq
        refine wpIn_cond (t := b) hq ?_
        cases b with
        | true => exact ih1 _ _ _ _ _ _ _ hs c1 m ro h1 hrdy.2.1 hro β w l D s Q ha gd hm hQ
        | false => exact ih1 _ _ _ _ _ _ _ hs c2 m ro h2 hrdy.2.2 hro β w l D s Q ha gd hm hQ
      · cases hs
    | block id c1 i1 =>
      intro m ro hc hrdy hro β w l D s Q ha gd hm hQ
      simp only [compile] at hc
      rw [Option.map_eq_some_iff] at hc
      obtain ⟨t1, h1, rfl⟩ := hc
      simp only [ready] at hrdy
      simp only [ev] at hs
      refine wpIn_block ?_
      split at hs
      · rename_i id' a1 h1' hev
        simp only [Option.some.injEq, Prod.mk.injEq] at hs
        obtain ⟨rfl, rfl, rfl⟩ := hs
        refine ih1 _ _ _ _ _ _ _ hev c1 m ro h1 hrdy hro β w l D s _ ha gd hm fun l1 w1 β1 D1 q1 q2 q3 q4 => ?_
        have := hQ _ _ _ _ q1 q2 q3 q4
        simp only [Exit.inBlock]
        cases hb : Nat.beq id' id with
        | true =>
          rw [hb] at this
          rw [if_pos (Nat.eq_of_beq_eq_true hb)]
          exact this
        | false =>
          rw [hb] at this
          rw [if_neg (Nat.ne_of_beq_eq_false hb)]
          exact this
      · rename_i hnot
        refine ih1 _ _ _ _ _ _ _ hs c1 m ro h1 hrdy hro β w l D s _ ha gd hm fun l1 w1 β1 D1 q1 q2 q3 q4 => ?_
        have := hQ _ _ _ _ q1 q2 q3 q4
        cases x <;> first | exact this | exact (hnot _ _ _ hs).elim
    | loop c1 i1 =>
      intro m ro hc hrdy hro β w l D s Q ha gd hm hQ
      simp only [compile] at hc
      rw [Option.map_eq_some_iff] at hc
      obtain ⟨t1, h1, rfl⟩ := hc
      simp only [ready] at hrdy
      obtain ⟨k, hk⟩ := hloop _ _ _ _ _ _ _ hs c1 m ro h1 hrdy hro
      exact wpIn_loop_rounds k (hk β w l D s Q ha gd hm hQ)
    | rangeFunc f ps ca cb i1 i2 =>
      intro m ro hc hrdy hro β w l D s Q ha gd hm hQ
      simp only [compile] at hc
      rw [Option.bind_eq_some_iff] at hc
      obtain ⟨t1, h1, hc⟩ := hc
      rw [Option.map_eq_some_iff] at hc
      obtain ⟨t2, h2, rfl⟩ := hc
      simp only [ev] at hs
      obtain ⟨hb, hs1⟩ := cond_none hs
      clear hs
      simp only [Bool.or_eq_false_iff, Bool.not_eq_false'] at hb
      have hro := hro hb.1
      subst hro
      split at hs1
      · rename_i v h1' hcall
        split at hs1
        · rename_i hg
          obtain ⟨hst, hs2⟩ := cond_none hs1
          split at hs2
          · rename_i y h2' ho hput
            simp only [Option.some.injEq, Prod.mk.injEq] at hs2
            obtain ⟨rfl, rfl, rfl⟩ := hs2
            exact range_sim htp ih1 het (fun m c tc p q => (hC m c tc).2 ⟨p, q⟩) h1 h2 hrdy hb.2 hcall hst hg ho hput ha gd hm hQ
          · cases hs2
        · cases hs1
      · cases hs1

end Go.Tidy

/- A call of a function of the program's, from its plain run. -/
namespace Go.Tidy
open Go

variable {C : Env} {β : Emb} {w : World}

theorem fw_none : fw none = Fence.wide := rfl

theorem calls_of (hz : zerosPlain C.P) (hmix : C.P.follows .mixedOrders = true) {tp : TProg} (htp : TpOk C tp) (hC : ∀ m c tc, C.C m c tc ↔ compile c = some tc ∧ ready C.G m tc = true)
    {n k : Nat} {fn : TFun} (hk : tp.fn k = some fn) {as as' : Array Value} (has : LRel β as.toList as'.toList) {h h' : TH} {v : Value}
    (hs : callT C.P tp (ev C.P tp n) (.func (.func k) #[] #[]) as h = some (v, h')) (gd : Good C β h w) :
    Calls C.P k as' w fun en w' => ∃ v' β', en = .returned v' ∧ VRel β' v v' ∧ Step C h.floor β h.get w β' h'.get w' := by
  have hev := (ev_ok hz hmix htp hC n).1
  have het := ev_tstep (P := C.P) (tp := tp) n
  refine (callsIn_wide (n := 0)).1 ?_
  rw [← fw_none]
  unfold callT at hs
  simp only [hk, Array.empty_append, Array.append_empty] at hs
  split at hs
  · rename_i a1 h1 he
    rw [Option.map_eq_some_iff] at hs
    obtain ⟨l, hl, heq⟩ := hs
    simp only [Prod.mk.injEq] at heq
    obtain ⟨rfl, rfl⟩ := heq
    exact enter_sim htp hev het hk has he (.inl rfl) hl gd
  · rename_i a1 h1 he
    rw [Option.map_eq_some_iff] at hs
    obtain ⟨l, hl, heq⟩ := hs
    simp only [Prod.mk.injEq] at heq
    obtain ⟨rfl, rfl⟩ := heq
    exact enter_sim htp hev het hk has he (.inr rfl) hl gd
  · cases hs

end Go.Tidy

