/- A plain interpreter of the code and what it has to do with the model: part 6. -/
import Derived.Test.YtkaiphobleifgaaGreatDoorTd4
import GoSem.Extern.Table
import Derived.Lib.MakeNoZero
set_option linter.all false
/- What code comes to, whatever the count of steps is. -/
namespace Go.Tidy
open Go
section A

def W (P : Program) (tp : TProg) (r : Bool) (c : TCode) (a : Regs) (h : TH) (Q : Exit → Regs → TH → Prop) : Prop :=
  ∃ n x a' h', (∀ m, n ≤ m → ev P tp m r c a h = some (x, a', h')) ∧ Q x a' h'
def CallW (P : Program) (tp : TProg) (f : Value) (args : Array Value) (h : TH) (Q : Value → TH → Prop) : Prop :=
  ∃ n v h', (∀ m, n ≤ m → callT P tp (ev P tp m) f args h = some (v, h')) ∧ Q v h'
def StepW (P : Program) (tp : TProg) (o : TOper) (ρ : Operand → Value) (h : TH) (Q : Value → TH → Prop) : Prop :=
  ∃ n v h', (∀ m, n ≤ m → stepOp P (callT P tp (ev P tp m)) o ρ h = some (v, h')) ∧ Q v h'
def WO (P : Program) (tp : TProg) (ops : List TOper) (a : Regs) (h : TH) (Q : Regs → TH → Prop) : Prop :=
  ∃ n a' h', (∀ m, n ≤ m → evOps (stepOp P (callT P tp (ev P tp m))) ops a h = some (a', h')) ∧ Q a' h'

variable {P : Program} {tp : TProg} {r : Bool} {a : Regs} {h : TH} {Q : Exit → Regs → TH → Prop}

/-- What follows a piece of code that ended. -/
def andThen (K : Regs → TH → Prop) (Q : Exit → Regs → TH → Prop) : Exit → Regs → TH → Prop
  | .normal, a, h => K a h
  | x, a, h => Q x a h
def leaves (id : Nat) (Q : Exit → Regs → TH → Prop) : Exit → Regs → TH → Prop
  | .exit k, a, h => Q (cond (Nat.beq k id) .normal (.exit k)) a h
  | x, a, h => Q x a h

theorem W.mono {c : TCode} {Q' : Exit → Regs → TH → Prop} (w : W P tp r c a h Q) (hq : ∀ x a h, Q x a h → Q' x a h) : W P tp r c a h Q' := by
  obtain ⟨n, x, a', h', e, q⟩ := w
  exact ⟨n, x, a', h', e, hq _ _ _ q⟩
theorem CallW.mono {f : Value} {args : Array Value} {Q Q' : Value → TH → Prop} (w : CallW P tp f args h Q) (hq : ∀ v h, Q v h → Q' v h) : CallW P tp f args h Q' := by
  obtain ⟨n, x, h', e, q⟩ := w
  exact ⟨n, x, h', e, hq _ _ q⟩
theorem WO.mono {ops : List TOper} {Q Q' : Regs → TH → Prop} (w : WO P tp ops a h Q) (hq : ∀ a h, Q a h → Q' a h) : WO P tp ops a h Q' := by
  obtain ⟨n, x, h', e, q⟩ := w
  exact ⟨n, x, h', e, hq _ _ q⟩

theorem succ_of {n m : Nat} (h : n + 1 ≤ m) : ∃ k, m = k + 1 ∧ n ≤ k := ⟨m - 1, by omega, by omega⟩

theorem W.skip (q : Q .normal a h) : W P tp r .skip a h Q := ⟨1, _, _, _, fun m hm => by obtain ⟨k, rfl, _⟩ := succ_of hm; rfl, q⟩
theorem W.ret (q : Q .ret a h) : W P tp r .ret a h Q := ⟨1, _, _, _, fun m hm => by obtain ⟨k, rfl, _⟩ := succ_of hm; rfl, q⟩
theorem W.exit {id : Nat} (q : Q (.exit id) a h) : W P tp r (.exit id) a h Q := ⟨1, _, _, _, fun m hm => by obtain ⟨k, rfl, _⟩ := succ_of hm; rfl, q⟩
theorem W.reg {ops : List TOper} (w : WO P tp ops a h (fun a h => Q .normal a h)) : W P tp r (.reg ops) a h Q := by
  obtain ⟨n, a', h', e, q⟩ := w
  exact ⟨n + 1, _, a', h', fun m hm => by obtain ⟨k, rfl, hk⟩ := succ_of hm; simp only [ev, e k hk, Option.map_some], q⟩
theorem W.seq {x y : TCode} (w : W P tp r x a h (andThen (fun a h => W P tp r y a h Q) Q)) : W P tp r (.seq x y) a h Q := by
  obtain ⟨n, e, a1, h1, he, q⟩ := w
  cases e
  case normal =>
    obtain ⟨n2, e2, a2, h2, he2, q2⟩ := q
    exact ⟨max n n2 + 1, e2, a2, h2, fun m hm => by obtain ⟨k, rfl, hk⟩ := succ_of hm; simp only [ev, he k (by omega), he2 k (by omega)], q2⟩
  all_goals exact ⟨n + 1, _, a1, h1, fun m hm => by obtain ⟨k, rfl, hk⟩ := succ_of hm; simp only [ev, he k (by omega)], q⟩
theorem W.cond {x y : TCode} {q : Operand} {b : Bool} (hb : a.eval q = .bool b) (h1 : b = true → W P tp r x a h Q) (h2 : b = false → W P tp r y a h Q) : W P tp r (.cond q x y) a h Q := by
  cases b with
  | true =>
    obtain ⟨n, e, a1, h1, he, q⟩ := h1 rfl
    exact ⟨n + 1, _, a1, h1, fun m hm => by obtain ⟨k, rfl, hk⟩ := succ_of hm; simp only [ev, hb, he k (by omega), Bool.cond_true], q⟩
  | false =>
    obtain ⟨n, e, a1, h1, he, q⟩ := h2 rfl
    exact ⟨n + 1, _, a1, h1, fun m hm => by obtain ⟨k, rfl, hk⟩ := succ_of hm; simp only [ev, hb, he k (by omega), Bool.cond_false], q⟩
theorem W.block {x : TCode} {id : Nat} (w : W P tp r x a h (leaves id Q)) : W P tp r (.block id x) a h Q := by
  obtain ⟨n, e, a1, h1, he, q⟩ := w
  cases e
  case exit k => exact ⟨n + 1, _, a1, h1, fun m hm => by obtain ⟨k, rfl, hk⟩ := succ_of hm; simp only [ev, he k (by omega)], q⟩
  all_goals exact ⟨n + 1, _, a1, h1, fun m hm => by obtain ⟨k, rfl, hk⟩ := succ_of hm; simp only [ev, he k (by omega)], q⟩
/-- A loop: 'I k': what holds at the head, with a number that each round lowers. -/
theorem W.loop {x : TCode} (I : Nat → Regs → TH → Prop) (step : ∀ k a h, I k a h → W P tp r x a h (andThen (fun a h => ∃ j, j < k ∧ I j a h) Q)) : ∀ k a h, I k a h → W P tp r (.loop x) a h Q := by
  intro k
  induction k using Nat.strongRecOn with
  | _ k ih =>
    intro a h hi
    obtain ⟨n, e, a1, h1, he, q⟩ := step k a h hi
    cases e
    case normal =>
      obtain ⟨j, hj, hi2⟩ := q
      obtain ⟨n2, e2, a2, h2, he2, q2⟩ := ih j hj a1 h1 hi2
      exact ⟨max n n2 + 1, e2, a2, h2, fun m hm => by obtain ⟨k, rfl, hk⟩ := succ_of hm; simp only [ev, he k (by omega), he2 k (by omega)], q2⟩
    all_goals exact ⟨n + 1, _, a1, h1, fun m hm => by obtain ⟨k, rfl, hk⟩ := succ_of hm; simp only [ev, he k (by omega)], q⟩

/-! ### Operations in a row -/
variable {K : Regs → TH → Prop} {o : TOper} {rest : List TOper}
theorem WO.nil (q : K a h) : WO P tp [] a h K := ⟨0, _, _, fun m hm => rfl, q⟩
theorem WO.cons (hg : wantT o.gt a = true) (hl : o.locks = []) (w : StepW P tp o a.eval h fun v h1 => WO P tp rest (a.put o.dst v) h1 K) : WO P tp (o :: rest) a h K := by
  obtain ⟨n, v, h1, e, n2, a2, h2, e2, q⟩ := w
  exact ⟨max n n2, a2, h2, fun m hm => by simp only [evOps, hg, hl, e m (by omega), e2 m (by omega), Bool.cond_true], q⟩
theorem WO.cons_lock {x : Operand} {xs : List Operand} (hg : wantT o.gt a = true) (hl : o.locks = x :: xs) (w : StepW P tp o a.eval (h.withLock (lockOf o.locks a.eval h.lock)) fun v h1 => WO P tp rest (a.put o.dst v) (h1.withLock h.lock) K) : WO P tp (o :: rest) a h K := by
  obtain ⟨n, v, h1, e, n2, a2, h2, e2, q⟩ := w
  refine ⟨max n n2, a2, h2, fun m hm => ?_, q⟩
  have e1 := e m (by omega)
  rw [hl] at e1
  simp only [evOps, hg, hl, e1, e2 m (by omega), Bool.cond_true]
theorem WO.skip (hg : wantT o.gt a = false) (w : WO P tp rest (a.put o.dst undef) h K) : WO P tp (o :: rest) a h K := by
  obtain ⟨n, a2, h2, e, q⟩ := w
  exact ⟨n, a2, h2, fun m hm => by simp only [evOps, hg, e m hm, Bool.cond_false], q⟩

/-- Without calls. -/
theorem StepW.of {ρ : Operand → Value} {V : Value → TH → Prop} {v : Value} {h1 : TH} (e : ∀ call, stepOp P call o ρ h = some (v, h1)) (q : V v h1) : StepW P tp o ρ h V := ⟨0, v, h1, fun m _ => e _, q⟩
/-- A call. -/
theorem StepW.call {ρ : Operand → Value} {V : Value → TH → Prop} {d : Option Tmp} {f : Operand} {args : Array Operand} {ts : Array TypeId} {ty : TypeId} {g : Option (Tmp × Bool)} {ls : List Operand} {i : Nat}
    (w : CallW P tp (ρ f) (args.map ρ) h V) : StepW P tp ⟨d, .call ⟨.value f, args, ts⟩, ty, g, ls, i⟩ ρ h V := by
  obtain ⟨n, v, h1, e, q⟩ := w
  exact ⟨n, v, h1, fun m hm => by simp only [stepOp, heapFirst, heapOp, Bool.cond_true, e m hm], q⟩

theorem CallW.fn {k : Nat} {fn : TFun} {args : Array Value} {V : Value → TH → Prop} (hk : tp.fn k = some fn)
    (w : W P tp false fn.body (Regs.ofList args.toList 0 .nil) h fun x a' h' => (x = .normal ∨ x = .ret) ∧ ∃ vs, resultsT P fn.results a' h' = some vs ∧ V (one vs) h') : CallW P tp (.func (.func k) #[] #[]) args h V := by
  obtain ⟨n, x, a', h', e, hx, vs, hv, q⟩ := w
  refine ⟨n, _, h', fun m hm => ?_, q⟩
  rcases hx with rfl | rfl
  · simp only [callT, hk, Array.empty_append, Array.append_empty, e m hm, hv, Option.map_some]
  · simp only [callT, hk, Array.empty_append, Array.append_empty, e m hm, hv, Option.map_some]
theorem CallW.ext {k : Nat} {e : List Value → Option Value} {args : Array Value} {V : Value → TH → Prop} {v : Value} (hk : tp.fn k = none) (he : tp.ext k = some e) (hp : args.toList.all plain = true) (hv : e args.toList = some v) (hpv : plain v = true)
    (q : V v h) : CallW P tp (.func (.func k) #[] #[]) args h V := by
  refine ⟨0, v, h, fun m _ => ?_, q⟩
  simp only [callT, hk, he, Array.empty_append, Array.append_empty, hp, hv, hpv, Bool.cond_true]

/-! ### Registers -/
theorem at_put (a : Regs) (d : Tmp) (v : Value) (t : Tmp) : (a.put (some d) v).at_ t = if t = d then v else a.at_ t := Regs.at_set a d v t
theorem put_none (a : Regs) (v : Value) : a.put none v = a := rfl
theorem eval_tmp (a : Regs) (t : Tmp) : a.eval (.tmp t) = a.at_ t := rfl
theorem eval_const (a : Regs) (v : Value) : a.eval (.const v) = v := rfl
theorem eval_global (a : Regs) (g : Nat) : a.eval (.global g) = .pointer (some ⟨g, 0, none⟩) := rfl
theorem eval_func (a : Regs) (f : Nat) : a.eval (.func f) = .func (.func f) #[] #[] := rfl
theorem at_nil (t : Tmp) : Regs.at_ (.nil : Regs) t = undef := by unfold Regs.at_; rw [Tr.get_nil]
theorem at_ofList (vs : List Value) (t : Nat) : (Regs.ofList vs 0 .nil).at_ t = vs.getD t undef := by
  rw [ofList_at, at_nil]
  by_cases ht : t < vs.length
  · rw [if_pos (by omega)]; rfl
  · rw [if_neg (by omega), List.getD_eq_getElem?_getD, List.getElem?_eq_none (by omega)]; rfl

/-! ### Operations, one by one -/
variable {d : Option Tmp} {ty : TypeId} {i : Nat} {x y z : Operand} {v : Value} {t u : TypeId}
theorem WO.move (w : WO P tp rest (a.put d (a.eval x)) h K) : WO P tp (⟨d, .move x, ty, none, [], i⟩ :: rest) a h K :=
  WO.cons rfl rfl (StepW.of (fun _ => rfl) w)
theorem WO.assign (w : WO P tp rest (a.put d (a.eval x)) h K) : WO P tp (⟨d, .assign x, ty, none, [], i⟩ :: rest) a h K :=
  WO.cons rfl rfl (StepW.of (fun _ => rfl) w)
theorem WO.bin {op : BinOp} (hv : fastBin op (a.eval x) (a.eval y) = some v) (w : WO P tp rest (a.put d v) h K) : WO P tp (⟨d, .binOp op t x y u, ty, none, [], i⟩ :: rest) a h K :=
  WO.cons rfl rfl (StepW.of (v := v) (h1 := h) (fun _ => by simp only [stepOp, heapFirst, fastOp, hv, Bool.cond_false]) w)
theorem WO.not {b : Bool} (hv : a.eval x = .bool b) (w : WO P tp rest (a.put d (.bool !b)) h K) : WO P tp (⟨d, .unOp .not t x, ty, none, [], i⟩ :: rest) a h K :=
  WO.cons rfl rfl (StepW.of (v := .bool !b) (h1 := h) (fun _ => by simp only [stepOp, heapFirst, fastOp, hv, Bool.cond_false]) w)
theorem WO.pick {b : Bool} (hv : a.eval x = .bool b) (w : WO P tp rest (a.put d (cond b (a.eval y) (a.eval z))) h K) : WO P tp (⟨d, .pick x y z, ty, none, [], i⟩ :: rest) a h K :=
  WO.cons rfl rfl (StepW.of (v := _) (h1 := h) (fun _ => by simp only [stepOp, heapFirst, fastOp, hv, Bool.cond_false]) w)
theorem WO.extract {vs : Array Value} {k : Nat} (hv : a.eval x = .tuple vs) (hk : vs.toList[k]? = some v) (w : WO P tp rest (a.put d v) h K) : WO P tp (⟨d, .extract x k, ty, none, [], i⟩ :: rest) a h K :=
  WO.cons rfl rfl (StepW.of (v := v) (h1 := h) (fun _ => by simp only [stepOp, heapFirst, fastOp, hv, hk, Bool.cond_false]) w)
theorem WO.call {f : Operand} {args : Array Operand} {ts : Array TypeId} (w : CallW P tp (a.eval f) (args.map a.eval) h fun v h1 => WO P tp rest (a.put d v) h1 K) : WO P tp (⟨d, .call ⟨.value f, args, ts⟩, ty, none, [], i⟩ :: rest) a h K :=
  WO.cons rfl rfl (StepW.call w)
theorem WO.load (hv : loadT P t (a.eval x) h = some v) (w : WO P tp rest (a.put d v) h K) : WO P tp (⟨d, .load t x, ty, none, [], i⟩ :: rest) a h K :=
  WO.cons rfl rfl (StepW.of (v := v) (h1 := h) (fun _ => by simp only [stepOp, heapFirst, heapOp, hv, Bool.cond_true, Option.map_some]) w)
theorem WO.store {h1 : TH} (hv : storeT P t (a.eval x) (a.eval y) h = some h1) (w : WO P tp rest (a.put d undef) h1 K) : WO P tp (⟨d, .store t x y, ty, none, [], i⟩ :: rest) a h K :=
  WO.cons rfl rfl (StepW.of (v := undef) (h1 := h1) (fun _ => by simp only [stepOp, heapFirst, heapOp, hv, Bool.cond_true, Option.map_some]) w)
/-- Any operation that needs no call. -/
theorem WO.op {h1 : TH} (hg : wantT o.gt a = true) (hl : o.locks = []) (e : ∀ call, stepOp P call o a.eval h = some (v, h1)) (w : WO P tp rest (a.put o.dst v) h1 K) : WO P tp (o :: rest) a h K :=
  WO.cons hg hl (StepW.of e w)

end A

section B

/-! ### Registers that read alike -/
def REq (a b : Regs) : Prop := ∀ t, a.at_ t = b.at_ t
theorem REq.refl (a : Regs) : REq a a := fun _ => rfl
theorem REq.eval {a b : Regs} (h : REq a b) : a.eval = b.eval := by
  funext x
  cases x with
  | tmp t => exact h t
  | const v => rfl
  | global g => rfl
  | func f => rfl
theorem REq.put {a b : Regs} (h : REq a b) (d : Option Tmp) (v : Value) : REq (a.put d v) (b.put d v) := by
  intro t
  cases d with
  | none => exact h t
  | some d => rw [at_put, at_put, h t]
theorem REq.want {a b : Regs} (h : REq a b) (g : Option (Tmp × Bool)) : wantT g a = wantT g b := by
  cases g with
  | none => rfl
  | some p => simp only [wantT, h p.1]

theorem evOps_req {stp : TOper → (Operand → Value) → TH → Option (Value × TH)} : ∀ (ops : List TOper) {a b a' : Regs} {h h' : TH}, evOps stp ops a h = some (a', h') → REq a b → ∃ b', evOps stp ops b h = some (b', h') ∧ REq a' b' := by
  intro ops
  induction ops with
  | nil => intro a b a' h h' hs hr; simp only [evOps, Option.some.injEq, Prod.mk.injEq] at hs; obtain ⟨rfl, rfl⟩ := hs; exact ⟨b, rfl, hr⟩
  | cons o rest ih =>
    intro a b a' h h' hs hr
    simp only [evOps] at hs ⊢
    rw [← hr.want, ← hr.eval]
    cases hw : wantT o.gt a with
    | false =>
      rw [hw] at hs
      simp only [Bool.cond_false] at hs ⊢
      exact ih hs (hr.put _ _)
    | true =>
      rw [hw] at hs
      simp only [Bool.cond_true] at hs ⊢
      cases hl : o.locks with
      | nil =>
        rw [hl] at hs
        simp only at hs ⊢
        cases hst : stp o a.eval h with
        | none => rw [hst] at hs; cases hs
        | some p =>
          rw [hst] at hs
          exact ih hs (hr.put _ _)
      | cons l ls =>
        rw [hl] at hs
        simp only at hs ⊢
        cases hst : stp o a.eval (h.withLock (lockOf (l :: ls) a.eval h.lock)) with
        | none => rw [hst] at hs; cases hs
        | some p =>
          rw [hst] at hs
          exact ih hs (hr.put _ _)

/-- No range over a function. -/
def noR : TCode → Bool
  | .seq a b => noR a && noR b
  | .cond _ a b => noR a && noR b
  | .block _ a => noR a
  | .loop a => noR a
  | .rangeFunc _ _ _ _ => false
  | _ => true

theorem ev_req {P : Program} {tp : TProg} : ∀ (n : Nat) (r : Bool) (c : TCode) {a b a' : Regs} {h h' : TH} {x : Exit}, noR c = true → ev P tp n r c a h = some (x, a', h') → REq a b → ∃ b', ev P tp n r c b h = some (x, b', h') ∧ REq a' b' := by
  intro n
  induction n with
  | zero => intro r c a b a' h h' x _ hs; simp only [ev] at hs; cases hs
  | succ n ih =>
    intro r c a b a' h h' x hc hs hr
    cases c with
    | bad => simp only [ev] at hs; cases hs
    | skip => simp only [ev, Option.some.injEq, Prod.mk.injEq] at hs ⊢; obtain ⟨rfl, rfl, rfl⟩ := hs; exact ⟨b, ⟨rfl, rfl, rfl⟩, hr⟩
    | ret => simp only [ev, Option.some.injEq, Prod.mk.injEq] at hs ⊢; obtain ⟨rfl, rfl, rfl⟩ := hs; exact ⟨b, ⟨rfl, rfl, rfl⟩, hr⟩
    | exit id => simp only [ev, Option.some.injEq, Prod.mk.injEq] at hs ⊢; obtain ⟨rfl, rfl, rfl⟩ := hs; exact ⟨b, ⟨rfl, rfl, rfl⟩, hr⟩
    | reg ops =>
      simp only [ev] at hs ⊢
      rw [Option.map_eq_some_iff] at hs
      obtain ⟨⟨a1, h1⟩, he, heq⟩ := hs
      simp only [Prod.mk.injEq] at heq
      obtain ⟨rfl, rfl, rfl⟩ := heq
      obtain ⟨b', e1, e2⟩ := evOps_req ops he hr
      exact ⟨b', by rw [e1]; rfl, e2⟩
    | seq u v =>
      simp only [noR, Bool.and_eq_true] at hc
      simp only [ev] at hs ⊢
      split at hs
      · rename_i a1 h1 he
        obtain ⟨b1, e1, e2⟩ := ih r u hc.1 he hr
        rw [e1]
        exact ih r v hc.2 hs e2
      · rename_i hne
        obtain ⟨b1, e1, e2⟩ := ih r u hc.1 hs hr
        rw [e1]
        refine ⟨b1, ?_, e2⟩
        cases x <;> first | rfl | exact (hne _ _ hs).elim
    | cond q u v =>
      simp only [noR, Bool.and_eq_true] at hc
      simp only [ev] at hs ⊢
      rw [← hr.eval]
      split at hs
      · rename_i t ht
        cases t with
        | true => exact ih r u hc.1 hs hr
        | false => exact ih r v hc.2 hs hr
      · cases hs
    | block id u =>
      simp only [noR] at hc
      simp only [ev] at hs ⊢
      split at hs
      · rename_i id' a1 h1 he
        obtain ⟨b1, e1, e2⟩ := ih r u hc he hr
        simp only [Option.some.injEq, Prod.mk.injEq] at hs
        obtain ⟨rfl, rfl, rfl⟩ := hs
        rw [e1]
        exact ⟨b1, rfl, e2⟩
      · rename_i hne
        obtain ⟨b1, e1, e2⟩ := ih r u hc hs hr
        rw [e1]
        refine ⟨b1, ?_, e2⟩
        cases x <;> first | rfl | exact (hne _ _ _ hs).elim
    | loop u =>
      have hc' : noR u = true := hc
      simp only [ev] at hs ⊢
      split at hs
      · rename_i a1 h1 he
        obtain ⟨b1, e1, e2⟩ := ih r u hc' he hr
        rw [e1]
        exact ih r (.loop u) hc hs e2
      · rename_i hne
        obtain ⟨b1, e1, e2⟩ := ih r u hc' hs hr
        rw [e1]
        refine ⟨b1, ?_, e2⟩
        cases x <;> first | rfl | exact (hne _ _ hs).elim
    | rangeFunc f ps ta tb => simp [noR] at hc

theorem resultsT_req {P : Program} : ∀ (rs : List ResultVar) {a b : Regs} {h : TH}, REq a b → resultsT P rs a h = resultsT P rs b h := by
  intro rs
  induction rs with
  | nil => intro a b h _; rfl
  | cons v rs ih =>
    intro a b h hr
    cases v with
    | tmp t => simp only [resultsT, ih hr, hr t]
    | cell x t => simp only [resultsT, ih hr, hr x]

def fullR (m : Nat) (as : List Value) : Regs := Regs.ofList (as ++ List.replicate (m - as.length) undef) 0 .nil
theorem fullR_req (m : Nat) (as : List Value) : REq (fullR m as) (Regs.ofList as 0 .nil) := by
  intro t
  revert t
  intro (t : Nat)
  rw [fullR, at_ofList, at_ofList]
  by_cases ht : t < as.length
  · simp [List.getD_eq_getElem?_getD, List.getElem?_append_left ht]
  · rw [List.getD_eq_getElem?_getD, List.getD_eq_getElem?_getD, List.getElem?_append_right (by omega), List.getElem?_eq_none (l := as) (by omega), List.getElem?_replicate]
    split <;> rfl

/-! ### More steps do no harm -/
def CLe (c c' : Value → Array Value → TH → Option (Value × TH)) : Prop := ∀ f as h res, c f as h = some res → c' f as h = some res
def ELe (e e' : Bool → TCode → Regs → TH → Option (Exit × Regs × TH)) : Prop := ∀ r c a h res, e r c a h = some res → e' r c a h = some res

theorem heapOp_le {P : Program} {c c' : Value → Array Value → TH → Option (Value × TH)} (hc : CLe c c') {o : TOper} {ρ : Operand → Value} {h : TH} {res : Value × TH} (hs : heapOp P c o ρ h = some res) : heapOp P c' o ρ h = some res := by
  unfold heapOp at hs ⊢
  split at hs <;> first | exact hs | exact hc _ _ _ _ hs
theorem stepOp_le {P : Program} {c c' : Value → Array Value → TH → Option (Value × TH)} (hc : CLe c c') {o : TOper} {ρ : Operand → Value} {h : TH} {res : Value × TH} (hs : stepOp P c o ρ h = some res) : stepOp P c' o ρ h = some res := by
  unfold stepOp at hs ⊢
  cases hf : heapFirst o.op with
  | true => rw [hf] at hs; exact heapOp_le hc hs
  | false =>
    rw [hf] at hs
    simp only [Bool.cond_false] at hs ⊢
    split at hs
    · exact hs
    · split at hs
      · exact hs
      · split at hs
        · exact hs
        · exact heapOp_le hc hs
theorem evOps_le {stp stp' : TOper → (Operand → Value) → TH → Option (Value × TH)} (hl : ∀ o ρ h res, stp o ρ h = some res → stp' o ρ h = some res) : ∀ (ops : List TOper) {a : Regs} {h : TH} {res : Regs × TH}, evOps stp ops a h = some res → evOps stp' ops a h = some res := by
  intro ops
  induction ops with
  | nil => intro a h res hs; exact hs
  | cons o rest ih =>
    intro a h res hs
    simp only [evOps] at hs ⊢
    cases hw : wantT o.gt a with
    | false =>
      rw [hw] at hs
      exact ih hs
    | true =>
      rw [hw] at hs
      simp only [Bool.cond_true] at hs ⊢
      cases hlk : o.locks with
      | nil =>
        rw [hlk] at hs
        simp only at hs ⊢
        cases hst : stp o a.eval h with
        | none => rw [hst] at hs; cases hs
        | some p => rw [hst] at hs; rw [hl _ _ _ _ hst]; exact ih hs
      | cons l ls =>
        rw [hlk] at hs
        simp only at hs ⊢
        cases hst : stp o a.eval (h.withLock (lockOf (l :: ls) a.eval h.lock)) with
        | none => rw [hst] at hs; cases hs
        | some p => rw [hst] at hs; rw [hl _ _ _ _ hst]; exact ih hs
theorem callT_le {P : Program} {tp : TProg} {e e' : Bool → TCode → Regs → TH → Option (Exit × Regs × TH)} (he : ELe e e') : CLe (callT P tp e) (callT P tp e') := by
  intro f as h res hs
  unfold callT at hs ⊢
  split at hs
  · split at hs
    · simp only at hs ⊢
      split at hs
      · rename_i hx; rw [he _ _ _ _ _ hx]; exact hs
      · rename_i hx; rw [he _ _ _ _ _ hx]; exact hs
      · cases hs
    · exact hs
  · rename_i l first captured
    cases hb : (Nat.beq first.size 0 && Nat.beq captured.size 0) with
    | false => rw [hb] at hs; exact hs
    | true =>
      rw [hb] at hs
      simp only [Bool.cond_true] at hs ⊢
      split at hs
      · rename_i tmps ps ta tb0 _
        cases hb2 : Nat.beq as.size ps.size with
        | false => rw [hb2] at hs; exact hs
        | true =>
          rw [hb2] at hs
          simp only [Bool.cond_true] at hs ⊢
          split at hs
          · rename_i a1 h1 hx
            rw [he _ _ _ _ _ hx]
            simp only
            split at hs
            · split at hs
              · split at hs
                · rename_i hx2
                  rw [he _ _ _ _ _ hx2]
                  exact hs
                · cases hs
              · cases hs
            · cases hs
          · cases hs
      · cases hs
  · cases hs

theorem ev_succ {P : Program} {tp : TProg} : ∀ (n : Nat), ELe (ev P tp n) (ev P tp (n + 1)) := by
  intro n
  induction n with
  | zero => intro r c a h res hs; simp only [ev] at hs; cases hs
  | succ n ih =>
    intro r c a h res hs
    have hst : ∀ o ρ h res, stepOp P (callT P tp (ev P tp n)) o ρ h = some res → stepOp P (callT P tp (ev P tp (n + 1))) o ρ h = some res := fun o ρ h res => stepOp_le (callT_le ih)
    cases c with
    | bad => simp only [ev] at hs; cases hs
    | skip => exact hs
    | ret => exact hs
    | exit id => exact hs
    | reg ops =>
      rw [ev] at hs ⊢
      rw [Option.map_eq_some_iff] at hs ⊢
      obtain ⟨p, h1, h2⟩ := hs
      exact ⟨p, evOps_le hst ops h1, h2⟩
    | seq u v =>
      rw [ev] at hs ⊢
      split at hs
      · rename_i hx
        rw [ih _ _ _ _ _ hx]
        exact ih _ _ _ _ _ hs
      · rename_i hne
        rw [ih _ _ _ _ _ hs]
        obtain ⟨x, a', h'⟩ := res
        cases x <;> first | rfl | exact (hne _ _ hs).elim
    | cond q u v =>
      rw [ev] at hs ⊢
      split at hs
      · rename_i b hb
        cases b with
        | true => exact ih _ _ _ _ _ hs
        | false => exact ih _ _ _ _ _ hs
      · cases hs
    | block id u =>
      rw [ev] at hs ⊢
      split at hs
      · rename_i hx
        rw [ih _ _ _ _ _ hx]
        exact hs
      · rename_i hne
        rw [ih _ _ _ _ _ hs]
        obtain ⟨x, a', h'⟩ := res
        cases x <;> first | rfl | exact (hne _ _ _ hs).elim
    | loop u =>
      rw [ev] at hs ⊢
      split at hs
      · rename_i hx
        rw [ih _ _ _ _ _ hx]
        exact ih _ _ _ _ _ hs
      · rename_i hne
        rw [ih _ _ _ _ _ hs]
        obtain ⟨x, a', h'⟩ := res
        cases x <;> first | rfl | exact (hne _ _ hs).elim
    | rangeFunc f ps ta tb =>
      rw [ev] at hs ⊢
      cases hb : (r || !isFn tp (a.eval f)) with
      | true => rw [hb] at hs; cases hs
      | false =>
        rw [hb] at hs
        simp only [Bool.cond_false] at hs ⊢
        split at hs
        · rename_i v h1 hx
          rw [callT_le ih _ _ _ _ hx]
          exact hs
        · cases hs
theorem ev_mono {P : Program} {tp : TProg} {n m : Nat} (h : n ≤ m) : ELe (ev P tp n) (ev P tp m) := by
  induction h with
  | refl => exact fun _ _ _ _ _ h => h
  | step _ ih => exact fun r c a h res hs => ev_succ _ _ _ _ _ _ (ih r c a h res hs)

variable {P : Program} {tp : TProg} {r : Bool} {a : Regs} {h : TH} {Q : Exit → Regs → TH → Prop}

/-- A function is called; its registers are all there from the start. -/
theorem CallW.full {k : Nat} {fn : TFun} {args : Array Value} {V : Value → TH → Prop} (hk : tp.fn k = some fn) (hn : noR fn.body = true)
    (w : W P tp false fn.body (fullR fn.ntmps args.toList) h fun x a' h' => (x = .normal ∨ x = .ret) ∧ ∃ vs, resultsT P fn.results a' h' = some vs ∧ V (one vs) h') : CallW P tp (.func (.func k) #[] #[]) args h V := by
  refine CallW.fn hk ?_
  obtain ⟨n, x, a', h', e, hx, vs, hv, q⟩ := w
  obtain ⟨b', e1, e2⟩ := ev_req n false fn.body hn (e n (Nat.le_refl _)) (fullR_req _ _)
  exact ⟨n, x, b', h', fun m hm => ev_mono hm _ _ _ _ _ e1, hx, vs, by rw [← resultsT_req _ e2]; exact hv, q⟩


/-! ### Rules whose conditions are found by computing -/
def getO (a : Regs) : Operand → Option Value
  | .tmp t => Tr.get a t
  | .const v => some v
  | .global g => some (.pointer (some ⟨g, 0, none⟩))
  | .func f => some (.func (.func f) #[] #[])
theorem getO_eval {a : Regs} {x : Operand} {v : Value} (h : getO a x = some v) : a.eval x = v := by
  cases x with
  | tmp t => simp only [getO] at h; simp only [Regs.eval, Regs.at_, h]
  | const v => simpa [getO, Regs.eval] using h
  | global g => simpa [getO, Regs.eval] using h
  | func f => simpa [getO, Regs.eval] using h

theorem setN_same {α : Type} : ∀ (n : Nat) (t : Tr α) (k : Nat) (v : α), t.get k = some v → Tr.setN n t k v = t := by
  intro n
  induction n with
  | zero => intro t k v _; rfl
  | succ n ih =>
    intro t k v hg
    cases t with
    | nil => rw [Tr.get_nil] at hg; cases hg
    | node u l r =>
      cases k with
      | zero => simp only [Tr.get] at hg; subst hg; rfl
      | succ k =>
        simp only [Tr.get] at hg
        simp only [Tr.setN]
        cases hb : Nat.beq (k % 2) 0 with
        | true => rw [hb] at hg; simp only [Bool.cond_true, Tr.val, Tr.left, Tr.right] at hg ⊢; rw [ih _ _ _ hg]
        | false => rw [hb] at hg; simp only [Bool.cond_false, Tr.val, Tr.left, Tr.right] at hg ⊢; rw [ih _ _ _ hg]
theorem put_same {a : Regs} {g : Tmp} {v : Value} (hg : Tr.get a g = some v) : a.put (some g) v = a := setN_same _ _ _ _ hg

variable {K : Regs → TH → Prop} {o : TOper} {rest : List TOper} {d : Option Tmp} {ty : TypeId} {i : Nat} {x y z : Operand} {v vx vy vz : Value} {t u : TypeId}
theorem WO.mv (hv : getO a x = some v) (w : WO P tp rest (a.put d v) h K) : WO P tp (⟨d, .move x, ty, none, [], i⟩ :: rest) a h K := by have := getO_eval hv; subst this; exact WO.move w
theorem WO.as (hv : getO a x = some v) (w : WO P tp rest (a.put d v) h K) : WO P tp (⟨d, .assign x, ty, none, [], i⟩ :: rest) a h K := by have := getO_eval hv; subst this; exact WO.assign w
theorem WO.bi {op : BinOp} (hx : getO a x = some vx) (hy : getO a y = some vy) (hv : fastBin op vx vy = some v) (w : WO P tp rest (a.put d v) h K) : WO P tp (⟨d, .binOp op t x y u, ty, none, [], i⟩ :: rest) a h K :=
  WO.bin (by rw [getO_eval hx, getO_eval hy]; exact hv) w
theorem WO.nt {b : Bool} (hv : getO a x = some (.bool b)) (w : WO P tp rest (a.put d (.bool !b)) h K) : WO P tp (⟨d, .unOp .not t x, ty, none, [], i⟩ :: rest) a h K := WO.not (getO_eval hv) w
/-- A flag, and what follows of either. -/
def OnB (v : Value) (A B : Prop) : Prop := ∃ b, v = .bool b ∧ (b = true → A) ∧ (b = false → B)
theorem OnB.yes {A B : Prop} (h : A) : OnB (.bool true) A B := ⟨true, rfl, (fun _ => h), (fun h => by cases h)⟩
theorem OnB.no {A B : Prop} (h : B) : OnB (.bool false) A B := ⟨false, rfl, (fun h => by cases h), (fun _ => h)⟩
theorem OnB.way {b : Bool} {A B : Prop} (h : b = true → A) (k : b = false → B) : OnB (.bool b) A B := ⟨b, rfl, h, k⟩
theorem WO.pk (hb : getO a x = some v) (hy : getO a y = some vy) (hz : getO a z = some vz) (w : OnB v (WO P tp rest (a.put d vy) h K) (WO P tp rest (a.put d vz) h K)) : WO P tp (⟨d, .pick x y z, ty, none, [], i⟩ :: rest) a h K := by
  obtain ⟨b, rfl, h1, h2⟩ := w
  refine WO.pick (getO_eval hb) ?_
  rw [getO_eval hy, getO_eval hz]
  cases b with
  | true => exact h1 rfl
  | false => exact h2 rfl
theorem WO.ex {vs : Array Value} {k : Nat} (hx : getO a x = some (.tuple vs)) (hk : vs.toList[k]? = some v) (w : WO P tp rest (a.put d v) h K) : WO P tp (⟨d, .extract x k, ty, none, [], i⟩ :: rest) a h K := WO.extract (getO_eval hx) hk w
theorem WO.ld (hx : getO a x = some vx) (hv : loadT P t vx h = some v) (w : WO P tp rest (a.put d v) h K) : WO P tp (⟨d, .load t x, ty, none, [], i⟩ :: rest) a h K := WO.load (by rw [getO_eval hx]; exact hv) w
theorem WO.st {h1 : TH} (hx : getO a x = some vx) (hy : getO a y = some vy) (hv : storeT P t vx vy h = some h1) (w : WO P tp rest (a.put d undef) h1 K) : WO P tp (⟨d, .store t x y, ty, none, [], i⟩ :: rest) a h K :=
  WO.store (by rw [getO_eval hx, getO_eval hy]; exact hv) w

/-! Calls, by the count of their operands. -/
variable {f x0 x1 x2 x3 x4 : Operand} {fv v0 v1 v2 v3 v4 : Value} {ts : Array TypeId}
theorem WO.cl0 (hf : getO a f = some fv) (w : CallW P tp fv #[] h fun v h1 => WO P tp rest (a.put d v) h1 K) : WO P tp (⟨d, .call ⟨.value f, #[], ts⟩, ty, none, [], i⟩ :: rest) a h K :=
  WO.call (by rw [getO_eval hf]; simpa using w)
theorem WO.cl1 (hf : getO a f = some fv) (h0 : getO a x0 = some v0) (w : CallW P tp fv #[v0] h fun v h1 => WO P tp rest (a.put d v) h1 K) : WO P tp (⟨d, .call ⟨.value f, #[x0], ts⟩, ty, none, [], i⟩ :: rest) a h K :=
  WO.call (by rw [getO_eval hf]; simpa [getO_eval h0] using w)
theorem WO.cl2 (hf : getO a f = some fv) (h0 : getO a x0 = some v0) (h1 : getO a x1 = some v1) (w : CallW P tp fv #[v0, v1] h fun v h1 => WO P tp rest (a.put d v) h1 K) : WO P tp (⟨d, .call ⟨.value f, #[x0, x1], ts⟩, ty, none, [], i⟩ :: rest) a h K :=
  WO.call (by rw [getO_eval hf]; simpa [getO_eval h0, getO_eval h1] using w)
theorem WO.cl3 (hf : getO a f = some fv) (h0 : getO a x0 = some v0) (h1 : getO a x1 = some v1) (h2 : getO a x2 = some v2) (w : CallW P tp fv #[v0, v1, v2] h fun v h1 => WO P tp rest (a.put d v) h1 K) : WO P tp (⟨d, .call ⟨.value f, #[x0, x1, x2], ts⟩, ty, none, [], i⟩ :: rest) a h K :=
  WO.call (by rw [getO_eval hf]; simpa [getO_eval h0, getO_eval h1, getO_eval h2] using w)
theorem WO.cl4 (hf : getO a f = some fv) (h0 : getO a x0 = some v0) (h1 : getO a x1 = some v1) (h2 : getO a x2 = some v2) (h3 : getO a x3 = some v3) (w : CallW P tp fv #[v0, v1, v2, v3] h fun v h1 => WO P tp rest (a.put d v) h1 K) : WO P tp (⟨d, .call ⟨.value f, #[x0, x1, x2, x3], ts⟩, ty, none, [], i⟩ :: rest) a h K :=
  WO.call (by rw [getO_eval hf]; simpa [getO_eval h0, getO_eval h1, getO_eval h2, getO_eval h3] using w)
theorem WO.cl5 (hf : getO a f = some fv) (h0 : getO a x0 = some v0) (h1 : getO a x1 = some v1) (h2 : getO a x2 = some v2) (h3 : getO a x3 = some v3) (h4 : getO a x4 = some v4) (w : CallW P tp fv #[v0, v1, v2, v3, v4] h fun v h1 => WO P tp rest (a.put d v) h1 K) : WO P tp (⟨d, .call ⟨.value f, #[x0, x1, x2, x3, x4], ts⟩, ty, none, [], i⟩ :: rest) a h K :=
  WO.call (by rw [getO_eval hf]; simpa [getO_eval h0, getO_eval h1, getO_eval h2, getO_eval h3, getO_eval h4] using w)

/-! Guards. -/
theorem at_get {a : Regs} {g : Tmp} {v : Value} (h : Tr.get a g = some v) : a.at_ g = v := by simp only [Regs.at_, h]
theorem WO.skp {g : Tmp} {b : Bool} (hg : o.gt = some (g, !b)) (ht : Tr.get a g = some (.bool b)) (w : WO P tp rest (a.put o.dst undef) h K) : WO P tp (o :: rest) a h K :=
  WO.skip (by rw [hg]; cases b <;> simp [wantT, at_get ht]) w
theorem WO.now {g : Tmp} {b : Bool} (hg : o.gt = some (g, b)) (ht : Tr.get a g = some (.bool b))
    (w : WO P tp ({ o with gt := none } :: rest) a h K) : WO P tp (o :: rest) a h K := by
  obtain ⟨n, a', h', e, q⟩ := w
  refine ⟨n, a', h', fun m hm => ?_, q⟩
  have := e m hm
  have h1 : wantT o.gt a = true := by rw [hg]; cases b <;> simp [wantT, at_get ht]
  have h2 : wantT none a = true := rfl
  simp only [evOps, h1, h2, Bool.cond_true] at this ⊢
  exact this
/-- A guard that was skipped itself. -/
theorem WO.gu {g : Tmp} {want : Bool} (hg : o.gt = some (g, want)) (ht : Tr.get a g = some undef) (w : WO P tp rest (a.put o.dst undef) h K) : WO P tp (o :: rest) a h K :=
  WO.skip (by rw [hg]; simp only [wantT, at_get ht]; rfl) w
/-- An operation under a guard. -/
theorem WO.gt {g : Tmp} (hg : o.gt = some (g, true)) (ht : Tr.get a g = some v) (w : OnB v (WO P tp ({ o with gt := none } :: rest) (a.put (some g) (.bool true)) h K) (WO P tp rest ((a.put (some g) (.bool false)).put o.dst undef) h K)) : WO P tp (o :: rest) a h K := by
  obtain ⟨b, rfl, h1, h2⟩ := w
  cases b with
  | true => have := h1 rfl; rw [put_same ht] at this; exact WO.now hg ht this
  | false => have := h2 rfl; rw [put_same ht] at this; exact WO.skp (b := false) hg ht this
theorem WO.gf {g : Tmp} (hg : o.gt = some (g, false)) (ht : Tr.get a g = some v) (w : OnB v (WO P tp rest ((a.put (some g) (.bool true)).put o.dst undef) h K) (WO P tp ({ o with gt := none } :: rest) (a.put (some g) (.bool false)) h K)) : WO P tp (o :: rest) a h K := by
  obtain ⟨b, rfl, h1, h2⟩ := w
  cases b with
  | true => have := h1 rfl; rw [put_same ht] at this; exact WO.skp (b := true) hg ht this
  | false => have := h2 rfl; rw [put_same ht] at this; exact WO.now hg ht this

/-! Ways. -/
theorem W.cd {c1 c2 : TCode} {q : Operand} (hb : getO a q = some v) (w : OnB v (W P tp r c1 a h Q) (W P tp r c2 a h Q)) : W P tp r (.cond q c1 c2) a h Q := by
  obtain ⟨b, rfl, h1, h2⟩ := w
  exact W.cond (getO_eval hb) h1 h2

theorem fwrap_i64 {n : Int} (h1 : -9223372036854775808 ≤ n) (h2 : n ≤ 9223372036854775807) : fwrap .i64 n = n := by rw [fwrap_eq]; exact IntWalk.i64_in n (by omega)

end B
attribute [irreducible] W WO CallW StepW OnB

end Go.Tidy

/- Tables of functions. -/
namespace Go.Tidy
open Go

def Tr.All {α : Type} (p : Nat → α → Prop) : (Nat → Nat) → Tr α → Prop
  | _, .nil => True
  | ix, .node v l r => (∀ x, v = some x → p (ix 0) x) ∧ Tr.All p (fun j => ix (2 * j + 1)) l ∧ Tr.All p (fun j => ix (2 * j + 2)) r
theorem Tr.All.get {α : Type} {p : Nat → α → Prop} : ∀ (t : Tr α) (ix : Nat → Nat), Tr.All p ix t → ∀ k v, t.get k = some v → p (ix k) v := by
  intro t
  induction t with
  | nil => intro ix _ k v h; rw [Tr.get_nil] at h; cases h
  | node u l r ihl ihr =>
    intro ix ha k v h
    obtain ⟨h1, h2, h3⟩ := ha
    cases k with
    | zero => exact h1 v h
    | succ k =>
      simp only [Tr.get] at h
      cases hb : Nat.beq (k % 2) 0 with
      | true =>
        rw [hb] at h
        have := ihl _ h2 (k / 2) v h
        have he : 2 * (k / 2) + 1 = k + 1 := by have := Nat.eq_of_beq_eq_true hb; omega
        rwa [he] at this
      | false =>
        rw [hb] at h
        have := ihr _ h3 (k / 2) v h
        have he : 2 * (k / 2) + 2 = k + 1 := by have := Nat.ne_of_beq_eq_false hb; omega
        rwa [he] at this

/-- A function of the program's. -/
def FnOk (P : Program) (G : List Nat) (k : Nat) (f : TFun) : Prop :=
  ∃ fn c, P.funcs[k]? = some fn ∧ fn.body = some c ∧ compile c = some f.body ∧ ready G f.ntmps f.body = true ∧ fn.ntmps = f.ntmps ∧ fn.results.toList = f.results ∧ (fn.name == "runtime.NumGoroutine") = false
def nameOk (P : Program) (k : Nat) : Bool := match P.funcs[k]? with | some fn => !(fn.name == "runtime.NumGoroutine") | none => false
theorem fnOk_of {P : Program} {G : List Nat} {k : Nat} {f : TFun} (h1 : fnOf P k = some f) (h2 : ready G f.ntmps f.body = true) (h3 : nameOk P k = true) : FnOk P G k f := by
  unfold fnOf at h1
  unfold nameOk at h3
  split at h1
  · rename_i fn hfn
    rw [hfn] at h3
    split at h1
    · rename_i c hc
      rw [Option.map_eq_some_iff] at h1
      obtain ⟨tc, h4, rfl⟩ := h1
      exact ⟨fn, c, hfn, hc, h4, h2, rfl, rfl, by simpa using h3⟩
    · cases h1
  · cases h1

/-- The program's variables that the code names. -/
def Tab.gl : List Nat := [1, 2]
end Go.Tidy

/- A row of codes, one behind the other; contracts of closed calls. -/
namespace Go.Tidy
open Go

def evL (P : Program) (tp : TProg) : Nat → List TCode → Regs → TH → Option (Regs × TH)
  | _, [], a, h => some (a, h)
  | 0, _ :: _, _, _ => none
  | n + 1, c :: r, a, h => match ev P tp n false c a h with | some (.normal, a', h') => evL P tp n r a' h' | _ => none
def seqs : List TCode → TCode → TCode
  | [], c => c
  | x :: r, c => .seq x (seqs r c)
def spine : TCode → List TCode
  | .seq a b => a :: spine b
  | c => [c]
def part (c : TCode) (i j : Nat) : List TCode := ((spine c).take j).drop i

theorem ev_seqs {P : Program} {tp : TProg} : ∀ (l : List TCode) (n : Nat) (a a' : Regs) (h h' : TH) (c : TCode) (res : Option (Exit × Regs × TH)), evL P tp n l a h = some (a', h') → ev P tp (n - l.length) false c a' h' = res → ev P tp n false (seqs l c) a h = res := by
  intro l
  induction l with
  | nil => intro n a a' h h' c res hs hr; simp only [evL, Option.some.injEq, Prod.mk.injEq] at hs; obtain ⟨rfl, rfl⟩ := hs; exact hr
  | cons x l ih =>
    intro n a a' h h' c res hs hr
    cases n with
    | zero => simp only [evL] at hs; cases hs
    | succ n =>
      simp only [evL] at hs
      split at hs
      · rename_i a1 h1 he
        simp only [seqs, ev, he]
        refine ih n a1 a' h1 h' c res hs ?_
        rw [← hr, List.length_cons]
        congr 1
        omega
      · cases hs

def tailC : TCode → Nat → TCode
  | c, 0 => c
  | .seq _ b, n + 1 => tailC b n
  | c, _ + 1 => c
def chain : List TCode → TCode
  | [] => .skip
  | [c] => c
  | c :: d :: r => .seq c (chain (d :: r))
/-- The last piece: it ends the call. -/
def evF (P : Program) (tp : TProg) : Nat → List TCode → Regs → TH → Option (Exit × Regs × TH)
  | _, [], _, _ => none
  | n, [c], a, h => ev P tp n false c a h
  | 0, _ :: _ :: _, _, _ => none
  | n + 1, c :: d :: r, a, h => match ev P tp n false c a h with | some (.normal, a', h') => evF P tp n (d :: r) a' h' | _ => none
theorem ev_evF {P : Program} {tp : TProg} : ∀ (l : List TCode) (n : Nat) (a : Regs) (h : TH) (res : Exit × Regs × TH), evF P tp n l a h = some res → ev P tp n false (chain l) a h = some res := by
  intro l
  induction l with
  | nil => intro n a h res hs; cases n <;> (simp only [evF] at hs; cases hs)
  | cons c r ih =>
    intro n a h res hs
    cases r with
    | nil => cases n <;> simpa only [evF, chain] using hs
    | cons d r =>
      cases n with
      | zero => simp only [evF] at hs; cases hs
      | succ n =>
        simp only [evF] at hs
        split at hs
        · rename_i a1 h1 he
          simp only [chain, ev, he]
          exact ih n a1 h1 res hs
        · cases hs

end Go.Tidy

/- The functions of the library without a body. -/
namespace Go.Tidy
open Go

/-- A function without a body, as the model's table has it. -/
structure ExtOk (P : Program) (k : Nat) (e : Array Value → Sem Value) : Prop where
  ok : ∃ fn, P.funcs[k]? = some fn ∧ (fn.name == "runtime.NumGoroutine") = false ∧ fn.body.isNone = true ∧ Extern.findNext fn = none ∧ Extern.find fn = some e
theorem extOk_of {P : Program} {k : Nat} {e : Array Value → Sem Value} (h : (P.funcs[k]?).map (fun fn => (fn.name == "runtime.NumGoroutine", fn.body.isNone, (Extern.findNext fn).isNone, Extern.find fn)) = some (false, true, true, some e)) : ExtOk P k e := by
  rw [Option.map_eq_some_iff] at h
  obtain ⟨fn, h1, h2⟩ := h
  simp only [Prod.mk.injEq] at h2
  obtain ⟨h3, h4, h5, h6⟩ := h2
  exact ⟨fn, h1, h3, h4, by simpa using h5, h6⟩
theorem callFunc_ext {P : Program} {k : Nat} {e : Array Value → Sem Value} (h : ExtOk P k e) (as : Array Value) (w w' : World) (v : Value) (hr : (e as).run P w = .ok v w') : (callFunc k as).run P w = .ok (.value v) w' := by
  obtain ⟨fn, h1, h2, h3, h4, h5⟩ := h.ok
  have h2' : fn.name ≠ "runtime.NumGoroutine" := by simpa using h2
  have h3' : fn.body = none := by simpa using h3
  simp [callFunc, h1, h2', h3', h4, h5, hr]

def Bare.fn : Bare → Array Value → Sem Value
  | .float64bits => Extern.MathFloatBits.float64bits
  | .float64frombits => Extern.MathFloatBits.float64frombits
  | .float32bits => Extern.MathFloatBits.float32bits
  | .float32frombits => Extern.MathFloatBits.float32frombits
  | .trunc => Extern.MathFloor.toIntegral "math.archTrunc" .zero

theorem trunc_run {x : Nat} (hd : ∀ s t, FloatKind.f64.decode x ≠ .nan s t) (P : Program) (w : World) : (Extern.MathFloor.toIntegral "math.archTrunc" .zero #[.float .f64 x]).run P w = .ok (.float .f64 (FloatKind.f64.encode ((FloatKind.f64.decode x).integral .zero))) w := by
  conv => lhs; arg 2; whnf
  cases h : FloatKind.f64.decode x with
  | nan s t => exact absurd h (hd s t)
  | number s m e => rfl
  | infinity s => rfl

theorem Bare.ok {b : Bare} {as : Array Value} {v : Value} (h : b.run as.toList = some v) (P : Program) (w : World) : (b.fn as).run P w = .ok v w := by
  obtain ⟨l⟩ := as
  unfold Bare.run at h
  split at h
  all_goals first
    | (rename_i h1
       simp only at h1
       subst h1
       cases h
       rfl)
    | skip
  · rename_i x h1
    simp only at h1
    subst h1
    have hn : ∀ s t, FloatKind.f64.decode x ≠ .nan s t := by
      intro s t hd
      rw [hd] at h
      cases h
    have hv : some (Value.float .f64 (FloatKind.f64.encode ((FloatKind.f64.decode x).integral .zero))) = some v := by
      rw [← h]
      cases hd : FloatKind.f64.decode x with
      | nan s t => exact absurd hd (hn s t)
      | number s m e => rfl
      | infinity s => rfl
    cases hv
    exact trunc_run hn P w
  · cases h

/-! ### Bytes of whatever they are -/
/-- MakeNoZero, as the model has it. -/
structure NoZeroOk (P : Program) (k : Nat) (e : TypeId) : Prop where
  ok : ∃ fn t ps, P.funcs[k]? = some fn ∧ (fn.name == "runtime.NumGoroutine") = false ∧ fn.body.isNone = true ∧ Extern.findNext fn = none ∧ Extern.find fn = some (Extern.BytealgMakeNoZero.makeNoZero ps #[t]) ∧ P.underlying t = some (.slice e) ∧ P.cellsOf e = 1

theorem noZeroOk_of {P : Program} {k : Nat} {e t : TypeId} {ps : Array TypeId} (h : (P.funcs[k]?).map (fun fn => (fn.name == "runtime.NumGoroutine", fn.body.isNone, (Extern.findNext fn).isNone, Extern.find fn)) = some (false, true, true, some (Extern.BytealgMakeNoZero.makeNoZero ps #[t])))
    (hu : P.underlying t = some (.slice e)) (hc : P.cellsOf e = 1) : NoZeroOk P k e := by
  obtain ⟨fn, h1, h2, h3, h4, h5⟩ := (extOk_of h).ok
  exact ⟨fn, t, ps, h1, h2, h3, h4, h5, hu, hc⟩

theorem noZero_run {P : Program} {k : Nat} {e : TypeId} (h : NoZeroOk P k e) (n : Int) (h0 : 0 ≤ n) (h1 : n ≤ 2 ^ 47) (w : World) : ∃ (cr : Array Value), n.toNat ≤ cr.size ∧
    (callFunc k #[.int .i64 n]).run P w = .ok (.value (.slice (some ⟨w.heap.size, 0, none⟩) n.toNat cr.size)) (w.drew.drew.alloc (.cells cr e)) := by
  obtain ⟨fn, t, ps, q1, q2, q3, q4, q5, q6, q7⟩ := h.ok
  obtain ⟨m, rfl⟩ : ∃ m : Nat, n = m := ⟨n.toNat, by omega⟩
  obtain ⟨cs, r1, r2, _⟩ := Lib.run_makeNoZero (P := P) w ps t e q6 m (by omega)
  exact ⟨cs, by simpa using r2, callFunc_ext ⟨fn, q1, q2, q3, q4, q5⟩ _ _ _ _ (by simpa using r1)⟩

/-- A function that hands its argument back. -/
structure SameOk (P : Program) (k : Nat) : Prop where
  ok : ExtOk P k Extern.AbiNoEscape.same

variable {C : Env}
theorem noZero_ok {k : Nat} {e : TypeId} (h : NoZeroOk C.P k e) (n : Int) (h0 : 0 ≤ n) (h1 : n ≤ 2 ^ 47) (β : Emb) (hp : TH) (w : World) (gd : Good C β hp w) : ∃ v' w' β', (callFunc k #[.int .i64 n]).run C.P w = .ok (.value v') w' ∧
    VRel β' (newSlice hp [] n.toNat n.toNat false e).1 v' ∧ Step C hp.floor β hp.get w β' (newSlice hp [] n.toNat n.toNat false e).2.get w' := by
  obtain ⟨cr, r1, r2⟩ := noZero_run h n h0 h1 w
  obtain ⟨fn, t, ps, q1, q2, q3, q4, q5, q6, q7⟩ := h.ok
  obtain ⟨β', s1, s2⟩ := newSlice_sim (C := C) (f := hp.floor) gd.rel gd.inj gd.free.1 gd.free.2 (el := e) (cs := []) (len := n.toNat) (cap := n.toNat) (fix := false) (cr := cr) (cap' := cr.size) (w' := w.drew.drew.alloc (.cells cr e)) (fz := (0, 0))
    rfl rfl rfl rfl (fun h => by cases h) (fun _ => ⟨r1, by rw [q7]; omega⟩) (by simp) (fun i v hv => by simp at hv) (.inl rfl)
  refine ⟨_, _, β', r2, s2, ?_⟩
  rw [newSlice, TH.get_new]
  exact s1

/-- **The program's table serves.** -/
theorem tpOk_of {t : Tr TFun} {xs : List (Nat × Bare)} {z : Nat × TypeId} {sm : Nat} (hf : Tr.All (FnOk C.P C.G) id t) (hx : ∀ k b, xs.lookup k = some b → ExtOk C.P k b.fn) (hz : NoZeroOk C.P z.1 z.2) (hs : ExtOk C.P sm Extern.AbiNoEscape.same) :
    TpOk C ⟨fun k => t.get k, fun k => (xs.lookup k).map Bare.run, fun k => cond (Nat.beq k z.1) (some z.2) none, Nat.beq sm⟩ where
  fn := fun k f h => Tr.All.get t id hf k f h
  ext := fun k e _ he as v hp hv hpv ro β h w gd => by
    rw [Option.map_eq_some_iff] at he
    obtain ⟨b, hb, rfl⟩ := he
    exact UDoes.value (callFunc_ext (hx k b hb) as w w v (Bare.ok hv _ _)) (plain_refl hpv) (Step.refl gd.rel gd.inj)
  noZero := fun k e _ _ hk n h0 h1 β h w gd => by
    have hk2 : k = z.1 ∧ e = z.2 := by
      cases hb : Nat.beq k z.1 with
      | true => simp only [hb, Bool.cond_true, Option.some.injEq] at hk; exact ⟨Nat.eq_of_beq_eq_true hb, hk.symm⟩
      | false => simp only [hb, Bool.cond_false] at hk; cases hk
    obtain ⟨rfl, rfl⟩ := hk2
    exact noZero_ok hz n h0 h1 β h w gd
  same := fun k _ _ _ hk v w => by
    have : sm = k := Nat.eq_of_beq_eq_true hk
    subst this
    exact callFunc_ext hs _ _ _ _ rfl

end Go.Tidy

/- What a call on the base heap alone comes to, it comes to on every heap. -/
namespace Go.Tidy
open Go

variable {C : Env} {β : Emb} {w : World}

/-- The base heap: rows of plain values that are never written. -/
structure BaseOk (C : Env) (h0 : TH) : Prop where
  B : C.B = h0.get
  wf : WF h0
  floor : h0.floor = h0.next
  G : ∀ g, g ∈ C.G → ∃ x, h0.get g = some x
  plain : ∀ b x, h0.get b = some x → ∃ c el, x = .cells c true false el ∧ c.all plain0 = true

noncomputable def baseEmb (h0 : TH) (β : Emb) : Emb := fun b => match h0.get b with | some _ => β b | none => none
theorem baseEmb_some {h0 : TH} {β : Emb} {b : Nat} {e : Ent} (h : baseEmb h0 β b = some e) : (∃ x, h0.get b = some x) ∧ β b = some e := by
  unfold baseEmb at h
  split at h
  · rename_i x hx; exact ⟨⟨x, hx⟩, h⟩
  · cases h
theorem baseEmb_of {h0 : TH} {β : Emb} {b : Nat} {x : TB} (h : h0.get b = some x) : baseEmb h0 β b = β b := by
  unfold baseEmb; rw [h]

theorem BaseOk.good {h0 h : TH} (hb : BaseOk C h0) (gd : Good C β h w) : Good C (baseEmb h0 β) h0 w := by
  have hin : ∀ b x, h0.get b = some x → h.get b = some x ∧ b < h.floor := fun b x hx => gd.base b x (by rw [hb.B]; exact hx)
  refine ⟨fun b x e hx he => ?_, fun b b' e e' ha ha' he he' hq => ?_, hb.wf, fun b hbn => ?_, fun g hg => ?_, fun g x hx => ?_⟩
  · obtain ⟨_, hbe⟩ := baseEmb_some he
    obtain ⟨c, el, rfl, hp⟩ := hb.plain b x hx
    obtain ⟨cr, fz, q1, q2, q3, q4, q5⟩ := gd.rel b _ e (hin b _ hx).1 hbe
    refine ⟨cr, fz, q1, q2, q3, fun i v hv => ?_, q5⟩
    obtain ⟨v', r1, r2⟩ := q4 i v hv
    have hpv : plain0 v = true := List.all_eq_true.1 hp v (List.mem_of_getElem? hv)
    obtain rfl := plain0_eq hpv r2
    exact ⟨_, r1, plain0_refl hpv⟩
  · obtain ⟨⟨x, hx⟩, hbe⟩ := baseEmb_some he
    obtain ⟨⟨x', hx'⟩, hbe'⟩ := baseEmb_some he'
    have al : ∀ b x, h0.get b = some x → alive h.get b := fun b x hx => by
      obtain ⟨c, el, rfl, _⟩ := hb.plain b x hx
      exact ⟨_, (hin b _ hx).1, by simp⟩
    exact gd.inj b b' e e' (al b x hx) (al b' x' hx') hbe hbe' hq
  · unfold baseEmb
    rw [hb.wf.none hbn]
  · obtain ⟨x, hx⟩ := hb.G g hg
    obtain ⟨e, h1, h2⟩ := gd.glob g hg
    exact ⟨e, by rw [baseEmb_of hx]; exact h1, h2⟩
  · rw [hb.B] at hx
    exact ⟨hx, by rw [hb.floor]; exact hb.wf g x hx⟩

/-- Nothing that stood has changed. -/
theorem Step.forget {f : Nat} {h0 h : TH} {β0 β' : Emb} {g' : HG} {w' : World} (hb : BaseOk C h0) (gd : Good C β h w) (s : Step C h0.floor β0 h0.get w β' g' w') : Step C f β h.get w β h.get w' := by
  have hk : ∀ r, r < w.heap.size → w'.heap[r]? = w.heap[r]? := fun r hr => s.keep r hr fun b e hf ⟨x, hx, _⟩ _ _ => by
    have := hb.wf b x hx
    rw [hb.floor] at hf
    omega
  refine ⟨Ext.refl β, fun _ _ h => .inl h, fun _ x h => ⟨x, h⟩, fun _ _ _ h => h, fun b x e hx he => ?_, gd.inj, s.os, s.tape, s.output, s.size, fun r hr _ => hk r hr, fun b e hg ⟨x, hx, _⟩ _ => ?_⟩
  · exact (gd.rel b x e hx he).world fun hy => hk _ ((gd.rel b x e hx he).lt hy)
  · rw [hg] at hx; cases hx

/-- **A contract out of a run on the base heap.** -/
theorem ext_of {h0 : TH} (hb : BaseOk C h0) (hmix : C.P.follows .mixedOrders = true) (hC : ∀ m c tc, C.C m c tc ↔ compile c = some tc ∧ ready C.G m tc = true) {tp : TProg} (htp : TpOk C tp)
    {n k : Nat} {fn : TFun} (hk : tp.fn k = some fn) {as : Array Value} {v : Value} {h' : TH} (hp : as.toList.all plain = true)
    (hs : callT C.P tp (ev C.P tp n) (.func (.func k) #[] #[]) as h0 = some (v, h')) (hv : plain v = true) :
    ∀ (ro : Option Nat) (β : Emb) (h : TH) (w : World), Good C β h w → UDoes C (fw ro) 0 h.floor β h.get w ((callFunc k as).run C.P w) v h.get := by
  intro ro β h w gd
  have hF : fw ro = fw none ∨ ∃ l, fw ro = fw (some l) := by
    cases ro with
    | none => exact .inl rfl
    | some l => exact .inr ⟨l, rfl⟩
  rw [callFunc_enter htp hk]
  have hev := (ev_ok (C := C) trivial hmix htp hC n).1
  have het := ev_tstep (P := C.P) (tp := tp) n
  have gd0 := hb.good gd
  have has : LRel (baseEmb h0 β) as.toList as.toList := ⟨rfl, all_refl hp fun _ => plain_refl⟩
  unfold callT at hs
  simp only [hk, Array.empty_append, Array.append_empty] at hs
  have fin : ∀ {a1 : Regs} {x : Exit} {l : List Value} (_ : ev C.P tp n false fn.body (Regs.ofList as.toList 0 .nil) h0 = some (x, a1, h')) (_ : x = .normal ∨ x = .ret) (_ : resultsT C.P fn.results a1 h' = some l) (_ : one l = v),
      UDoes C (fw ro) 0 h.floor β h.get w (.ok (.enter k as) w) v h.get := by
    intro a1 x l he hx hl hq
    refine CallsIn.next (h' := h) hF ?_ default default
    refine CallsIn.mono (enter_sim htp hev het hk has he hx hl gd0) fun en w' ⟨v', β', q1, q2, q3⟩ => ?_
    rw [hq] at q2
    obtain rfl := plain_eq hv q2
    exact ⟨_, β, q1, plain_refl hv, Step.forget hb gd q3⟩
  split at hs
  · rename_i a1 h1 he
    rw [Option.map_eq_some_iff] at hs
    obtain ⟨l, hl, heq⟩ := hs
    simp only [Prod.mk.injEq] at heq
    obtain ⟨h1', rfl⟩ := heq
    exact fin he (.inl rfl) hl h1'
  · rename_i a1 h1 he
    rw [Option.map_eq_some_iff] at hs
    obtain ⟨l, hl, heq⟩ := hs
    simp only [Prod.mk.injEq] at heq
    obtain ⟨h1', rfl⟩ := heq
    exact fin he (.inr rfl) hl h1'
  · cases hs

theorem callT_of {P : Program} {tp : TProg} {k n : Nat} {fn : TFun} {args : Array Value} {h h' : TH} {a : Regs} {vs : List Value} (hk : tp.fn k = some fn) (he : ev P tp n false fn.body (Regs.ofList args.toList 0 .nil) h = some (.ret, a, h')) (hr : resultsT P fn.results a h' = some vs) :
    callT P tp (ev P tp n) (.func (.func k) #[] #[]) args h = some (one vs, h') := by
  simp only [callT, hk, Array.empty_append, Array.append_empty, he, hr, Option.map_some]

/-- A function that is known by what it says; its text is not looked at any more. -/
def TProg.know (tp : TProg) (k : Nat) (e : List Value → Option Value) : TProg :=
  ⟨fun j => cond (Nat.beq j k) none (tp.fn j), fun j => cond (Nat.beq j k) (some e) (tp.ext j), fun j => cond (Nat.beq j k) none (tp.noZero j), fun j => !Nat.beq j k && tp.same j⟩
theorem TpOk.know {h0 : TH} (hb : BaseOk C h0) (hmix : C.P.follows .mixedOrders = true) (hC : ∀ m c tc, C.C m c tc ↔ compile c = some tc ∧ ready C.G m tc = true) {tp : TProg} (htp : TpOk C tp)
    {k : Nat} {fn : TFun} (hk : tp.fn k = some fn) {e : List Value → Option Value} (he : ∀ (as : Array Value) (v : Value), as.toList.all plain = true → e as.toList = some v → plain v = true → ∃ n h', callT C.P tp (ev C.P tp n) (.func (.func k) #[] #[]) as h0 = some (v, h')) : TpOk C (tp.know k e) where
  fn := fun j f hj => by
    simp only [TProg.know] at hj
    cases hb : Nat.beq j k with
    | true => rw [hb] at hj; cases hj
    | false => rw [hb] at hj; exact htp.fn j f hj
  ext := fun j e' hj hx as v hp hv hpv ro β h w gd => by
    simp only [TProg.know] at hj hx
    cases hbj : Nat.beq j k with
    | true =>
      rw [hbj] at hx
      obtain rfl := Nat.eq_of_beq_eq_true hbj
      simp only [Bool.cond_true, Option.some.injEq] at hx
      subst hx
      obtain ⟨n, h', hr⟩ := he as v hp hv hpv
      exact ext_of hb hmix hC htp hk hp hr hpv ro β h w gd
    | false =>
      rw [hbj] at hj hx
      exact htp.ext j e' hj hx as v hp hv hpv ro β h w gd
  noZero := fun j e' hj hx hn n h0 h1 β h w gd => by
    simp only [TProg.know] at hj hx hn
    cases hbj : Nat.beq j k with
    | true => rw [hbj] at hn; cases hn
    | false => rw [hbj] at hj hx hn; exact htp.noZero j e' hj hx hn n h0 h1 β h w gd
  same := fun j hj hx hn hs v w => by
    simp only [TProg.know] at hj hx hn hs
    cases hbj : Nat.beq j k with
    | true => rw [hbj] at hs; cases hs
    | false => rw [hbj] at hj hx hn hs; exact htp.same j hj hx hn (by simpa using hs) v w

end Go.Tidy

/- Operations on plain values, one by one. -/
namespace Go.Tidy
open Go

variable {P : Program}
theorem pv_pure {α : Type} (a : α) : pv P (pure a : Sem α) = some a := rfl
theorem pv_bind {α β : Type} (s : Sem α) (f : α → Sem β) : pv P (s >>= f) = (pv P s).bind fun a => pv P (f a) := by
  show pv P (Sem.bind s f) = _
  induction s with
  | pure a => rfl
  | program k ih => exact ih P
  | mark m k ih => exact ih
  | load m a k ih => rfl
  | store m a v k ih => rfl
  | new o k ih => rfl
  | shape r k ih => rfl
  | freeze a n k ih => rfl
  | frozen a k ih => rfl
  | getObj r k ih => rfl
  | setObj r o k ih => rfl
  | choose q k ih => rfl
  | sys c k ih => rfl
  | halt x => rfl
theorem pv_map {α β : Type} (f : α → β) (s : Sem α) : pv P (Functor.map f s) = (pv P s).map f := by
  have : (Functor.map f s) = (s >>= fun a => pure (f a)) := rfl
  rw [this, pv_bind]
  cases pv P s <;> rfl
theorem pv_program : pv P program = some P := rfl
theorem pv_underlying {t : TypeId} {d : TypeDesc} (h : P.underlying t = some d) : pv P (underlying t) = some d := by
  unfold underlying
  rw [pv_bind, pv_program]
  simp only [Option.bind_some, h]
  rfl

theorem plainOp_of {o : TOper} {ρ : Operand → Value} {v : Value} (h1 : plainly o.op = true) (h2 : ∀ x, x ∈ o.op.operands → plain (ρ x) = true) (h3 : pv P (execOp ρ (toOper o)) = some (.value v)) (h4 : plain v = true) : plainOp P o ρ = some v := by
  have h2' : (o.op.operands.toList.all fun x => plain (ρ x)) = true := List.all_eq_true.2 fun x hx => h2 x (by simpa using hx)
  simp only [plainOp, h1, h2', Bool.and_self, Bool.cond_true, h3, h4]

variable {tp : TProg} {a : Regs} {h : TH} {K : Regs → TH → Prop} {rest : List TOper} {d : Option Tmp} {ty : TypeId} {i : Nat} {x y z : Operand} {v vx vy vz : Value} {t u e : TypeId}
theorem WO.plainly {o : TOper} (hg : o.gt = none) (hl : o.locks = []) (h0 : heapFirst o.op = false) (h1 : fastOp o.op a.eval = none) (h2 : valueOp P o a.eval = none) (h3 : plainOp P o a.eval = some v) (w : WO P tp rest (a.put o.dst v) h K) : WO P tp (o :: rest) a h K :=
  WO.op (by rw [hg]; rfl) hl (fun call => by simp only [stepOp, h0, h1, h2, h3, Bool.cond_false]) w

theorem WO.lenS {s : ByteArray} (hx : getO a x = some (.string s)) (hu : P.underlying t = some .string) (w : WO P tp rest (a.put d (.int .i64 s.size)) h K) : WO P tp (⟨d, .call ⟨.builtin .len, #[x], #[t]⟩, ty, none, [], i⟩ :: rest) a h K := by
  have ex := getO_eval hx
  refine WO.plainly rfl rfl rfl rfl (by simp [valueOp, hu, ex]) (plainOp_of rfl (fun q hq => ?_) ?_ rfl) w
  · simp only [Op.operands, Call.operands] at hq
    simp at hq
    rw [hq, ex]; rfl
  · simp [toOper, execOp, resolve, invoke, builtin, Builtin.len_, pv_bind, pv_map, pv_underlying hu, pv_pure, ex]
    rfl

theorem eqT_float {k k' : FloatKind} {b c : Nat} : eqT P t (.float k b) (.float k' c) = none := by
  unfold eqT ptrEq nilEq
  cases P.underlying t with
  | none => rfl
  | some d => cases d <;> rfl
/-- Floats that are numbers are compared. -/
def cmpF (op : BinOp) (k : FloatKind) (b c : Nat) : Option Bool :=
  match op with
  | .eql => some (k.format.order b c == some .eq)
  | .neq => some (k.format.order b c != some .eq)
  | .lss => some (k.format.order b c == some .lt)
  | .leq => some (k.format.order b c == some .lt || k.format.order b c == some .eq)
  | .gtr => some (k.format.order b c == some .gt)
  | .geq => some (k.format.order b c == some .gt || k.format.order b c == some .eq)
  | _ => none
theorem plain_float {k : FloatKind} {b : Nat} (h : nanB k b = false) : plain (.float k b) = true := by simp [plain, plain1, plain0, h]
theorem WO.fcmp {op : BinOp} {k : FloatKind} {b c : Nat} {r : Bool} (hx : getO a x = some (.float k b)) (hy : getO a y = some (.float k c)) (hb : nanB k b = false) (hc : nanB k c = false) (hr : cmpF op k b c = some r)
    (w : WO P tp rest (a.put d (.bool r)) h K) : WO P tp (⟨d, .binOp op t x y u, ty, none, [], i⟩ :: rest) a h K := by
  have ex := getO_eval hx
  have ey := getO_eval hy
  have hkk : fKindEq k k = true := by cases k <;> rfl
  refine WO.plainly rfl rfl rfl (by simp [fastOp, fastBin, ex, ey, hb, hc]) ?_ (plainOp_of (by rfl) (fun q hq => ?_) ?_ rfl) w
  · cases op <;> simp only [cmpF, reduceCtorEq] at hr <;> first | rfl | simp [valueOp, ex, ey, eqT_float]
  · simp only [Op.operands] at hq
    simp at hq
    rcases hq with rfl | rfl
    · rw [ex]; exact plain_float hb
    · rw [ey]; exact plain_float hc
  · cases op <;> simp only [cmpF, reduceCtorEq, Option.some.injEq] at hr <;> subst hr <;> simp [toOper, execOp, pv_bind, pv_map, pv_pure, ex, ey, eqGuard, binOp, Op.floatCmp]

theorem WO.fmul {k : FloatKind} {b c r : Nat} (hx : getO a x = some (.float k b)) (hy : getO a y = some (.float k c)) (hb : nanB k b = false) (hc : nanB k c = false) (hr : k.format.mul b c = some r) (hn : nanB k r = false)
    (w : WO P tp rest (a.put d (.float k r)) h K) : WO P tp (⟨d, .binOp .mul t x y u, ty, none, [], i⟩ :: rest) a h K := by
  have ex := getO_eval hx
  have ey := getO_eval hy
  refine WO.plainly rfl rfl rfl (by simp [fastOp, fastBin, ex, ey, hb, hc]) rfl (plainOp_of (by rfl) (fun q hq => ?_) ?_ (plain_float hn)) w
  · simp only [Op.operands] at hq
    simp at hq
    rcases hq with rfl | rfl
    · rw [ex]; exact plain_float hb
    · rw [ey]; exact plain_float hc
  · simp [toOper, execOp, pv_bind, pv_map, pv_pure, ex, ey, eqGuard, binOp, Op.floatArith, hr]

/-- A conversion of a plain value. -/
theorem WO.conv {s t : TypeId} (hx : getO a x = some vx) (hp : plain vx = true) (hv : pv P (convert s t vx) = some v) (hpv : plain v = true) (w : WO P tp rest (a.put d v) h K) : WO P tp (⟨d, .convert s t x, ty, none, [], i⟩ :: rest) a h K := by
  have ex := getO_eval hx
  refine WO.plainly rfl rfl rfl rfl rfl (plainOp_of (by rfl) (fun q hq => ?_) ?_ hpv) w
  · simp only [Op.operands] at hq
    simp at hq
    rw [hq, ex]; exact hp
  · simp [toOper, execOp, pv_map, ex, hv]
theorem conv_i2f {s t : TypeId} {ds : TypeDesc} {k : IntKind} {k' : FloatKind} {n : Int} (hs : P.underlying s = some ds) (ht : P.underlying t = some (.float k')) : pv P (convert s t (.int k n)) = some (.float k' (k'.nearest n)) := by
  simp [convert, pv_bind, pv_underlying hs, pv_underlying ht, Conv.intToFloat, pv_pure]
theorem conv_i2i {s t : TypeId} {ds : TypeDesc} {k k' : IntKind} {n : Int} (hs : P.underlying s = some ds) (ht : P.underlying t = some (.int k')) : pv P (convert s t (.int k n)) = some (.int k' (k'.wrap n)) := by
  simp [convert, pv_bind, pv_underlying hs, pv_underlying ht, Conv.intToInt, pv_pure]
theorem conv_f2i {s t : TypeId} {ds : TypeDesc} {k : FloatKind} {k' : IntKind} {b : Nat} {n : Int} (hs : P.underlying s = some ds) (ht : P.underlying t = some (.int k')) (hn : (k.decode b).toInt .zero = some n) (h1 : k'.min ≤ n) (h2 : n ≤ k'.max) : pv P (convert s t (.float k b)) = some (.int k' n) := by
  simp [convert, pv_bind, pv_underlying hs, pv_underlying ht, Conv.floatToInt, pv_pure, hn, h1, h2]
theorem conv_f2f {s t : TypeId} {ds : TypeDesc} {k k' : FloatKind} {b : Nat} {ng : Bool} {m : Nat} {e : Int} (hs : P.underlying s = some ds) (ht : P.underlying t = some (.float k')) (hk : k ≠ k') (hd : k.decode b = .number ng m e) (hi : (k'.decode (k'.encode (.number ng m e))).isInfinity = false) :
    pv P (convert s t (.float k b)) = some (.float k' (k'.encode (.number ng m e))) := by
  simp [convert, pv_bind, pv_underlying hs, pv_underlying ht, Conv.floatToFloat, hk, hd, hi, pv_pure]
theorem conv_inf {s t : TypeId} {ds : TypeDesc} {k k' : FloatKind} {b : Nat} {ng : Bool} (hs : P.underlying s = some ds) (ht : P.underlying t = some (.float k')) (hk : k ≠ k') (hd : k.decode b = .infinity ng) :
    pv P (convert s t (.float k b)) = some (.float k' (k'.encode (.infinity ng))) := by
  simp [convert, pv_bind, pv_underlying hs, pv_underlying ht, Conv.floatToFloat, hk, hd, pv_pure]
/-- A NaN of the other kind. -/
theorem WO.cnan {s t : TypeId} {ds : TypeDesc} {k k' : FloatKind} {b : Nat} (hx : getO a x = some (.float k b)) (hs : P.underlying s = some ds) (ht : P.underlying t = some (.float k')) (hk : fKindEq k k' = false) (hb : nanB k b = true)
    (w : WO P tp rest (a.put d (.float k' (someNaN k'))) h K) : WO P tp (⟨d, .convert s t x, ty, none, [], i⟩ :: rest) a h K := by
  have ex := getO_eval hx
  refine WO.op (h1 := h) rfl rfl (fun call => ?_) w
  have hp : plainOp P ⟨d, .convert s t x, ty, none, [], i⟩ a.eval = none := by
    have : (Op.operands (.convert s t x)).toList.all (fun x => plain (a.eval x)) = false := by
      simp [Op.operands, ex, plain, plain1, plain0, hb]
    simp only [plainOp, plainly, this, Bool.and_false, Bool.cond_false]
  simp [stepOp, heapFirst, fastOp, valueOp, hp, heapOp, convertT, ex, hs, ht, hb, hk]
theorem WO.fnan {op : BinOp} {k : FloatKind} {b c : Nat} (hx : getO a x = some (.float k b)) (hy : getO a y = some (.float k c)) (hn : (nanB k b || nanB k c) = true) (hv : nanOut op = some v)
    (w : WO P tp rest (a.put d v) h K) : WO P tp (⟨d, .binOp op t x y u, ty, none, [], i⟩ :: rest) a h K := by
  have hkk : fKindEq k k = true := by cases k <;> rfl
  refine WO.bi hx hy ?_ w
  simp only [fastBin, hkk, hn, Bool.and_self, Bool.cond_true, hv]

end Go.Tidy

/- Rules for memory, in the plain interpreter. -/
namespace Go.Tidy
open Go

/-- A type of one cell. -/
structure Sc (P : Program) (t : TypeId) (z : Value) : Prop where
  i : ∃ i, P.info? t = some i ∧ i.size = 1 ∧ i.bytes ≤ 16 ∧ zeroP i = some z
  d : ∃ d, P.underlying t = some d ∧ isRow d = false
  z : z.cells = #[z]
theorem sc_of {P : Program} {t : TypeId} {z : Value} (h1 : (P.info? t).map (fun i => (i.size, Nat.ble i.bytes 16, zeroP i)) = some (1, true, some z)) (h2 : (P.underlying t).map isRow = some false) (h3 : z.cells = #[z]) : Sc P t z := by
  rw [Option.map_eq_some_iff] at h1 h2
  obtain ⟨i, q1, q2⟩ := h1
  simp only [Prod.mk.injEq, Nat.ble_eq] at q2
  exact ⟨⟨i, q1, q2.1, q2.2.1, q2.2.2⟩, h2, h3⟩

variable {P : Program} {tp : TProg} {a : Regs} {h : TH} {K : Regs → TH → Prop} {rest : List TOper} {d : Option Tmp} {ty : TypeId} {i : Nat} {x y z : Operand} {v vx vy vz : Value} {t u e : TypeId}

theorem WO.len {b : Option Addr} {n c : Nat} (hx : getO a x = some (.slice b n c)) (hu : P.underlying t = some (.slice e)) (w : WO P tp rest (a.put d (.int .i64 n)) h K) : WO P tp (⟨d, .call ⟨.builtin .len, #[x], #[t]⟩, ty, none, [], i⟩ :: rest) a h K :=
  WO.op (h1 := h) rfl rfl (fun call => by simp [stepOp, heapFirst, fastOp, valueOp, hu, getO_eval hx]) w
theorem indexAddr_sl {b off n c : Nat} {k : IntKind} {j : Int} {zv : Value} (hu : P.underlying t = some (.slice e)) (he : Sc P e zv) (h0 : 0 ≤ j) (h1 : j < n) : indexAddrT P t (.slice (some ⟨b, off, none⟩) n c) (.int k j) = some (.pointer (some ⟨b, off + j.toNat, none⟩)) := by
  obtain ⟨inf, q1, q2, _⟩ := he.i
  simp [indexAddrT, hu, h0, h1, q1, q2]
theorem indexAddr_arr {b off n : Nat} {k : IntKind} {j : Int} {zv : Value} (hu : P.underlying t = some (.array n e)) (he : Sc P e zv) (h0 : 0 ≤ j) (h1 : j < n) : indexAddrT P t (.pointer (some ⟨b, off, none⟩)) (.int k j) = some (.pointer (some ⟨b, off + j.toNat, none⟩)) := by
  obtain ⟨inf, q1, q2, _⟩ := he.i
  simp [indexAddrT, hu, h0, h1, q1, q2]
/-- An element's address. -/
theorem WO.ix {vi : Value} (hx : getO a x = some vx) (hi : getO a y = some vi) (hv : indexAddrT P t vx vi = some v) (w : WO P tp rest (a.put d v) h K) : WO P tp (⟨d, .indexAddr t x y, ty, none, [], i⟩ :: rest) a h K :=
  WO.op (h1 := h) rfl rfl (fun call => by simp [stepOp, heapFirst, fastOp, valueOp, getO_eval hx, getO_eval hi, hv]) w
theorem WO.fa {f : Nat} (hx : getO a x = some vx) (hv : fieldAddrT P t vx f = some v) (w : WO P tp rest (a.put d v) h K) : WO P tp (⟨d, .fieldAddr t x f, ty, none, [], i⟩ :: rest) a h K :=
  WO.op (h1 := h) rfl rfl (fun call => by simp [stepOp, heapFirst, fastOp, valueOp, getO_eval hx, hv]) w
theorem load_sc {b off : Nat} {c : List Value} {fix wr : Bool} {el : TypeId} {zv : Value} (he : Sc P t zv) (hg : h.get b = some (.cells c fix wr el)) (hv : c[off]? = some v) : loadT P t (.pointer (some ⟨b, off, none⟩)) h = some v := by
  obtain ⟨inf, q1, q2, _⟩ := he.i
  obtain ⟨d, q3, q4⟩ := he.d
  have hlt : off < c.length := (List.getElem?_eq_some_iff.1 hv).1
  have : (c.drop off).head? = some v := by rw [List.head?_drop]; exact hv
  simp only [loadT, q3, q1, q4, Bool.cond_false, cellsAt, hg]
  have hb : Nat.ble (off + 1) c.length = true := by rw [Nat.ble_eq]; exact hlt
  rw [hb]
  simp [List.head?_take, this]
theorem WO.box (hx : getO a x = some v) (w : WO P tp rest (a.put d (.pointer (some ⟨h.next, 0, none⟩))) (h.new (.cells v.cells.toList true true t)) K) : WO P tp (⟨d, .box t x, ty, none, [], i⟩ :: rest) a h K :=
  WO.op rfl rfl (fun call => by simp [stepOp, heapFirst, heapOp, getO_eval hx, allocV]) w

/-! ### What a heap holds after more has been laid -/
theorem TH.get_self (h : TH) (x : TB) : (h.new x).get h.next = some x := by rw [TH.get_new]; exact HG.set_same _ _ _
theorem TH.get_old {h : TH} {x : TB} {b : Nat} (hb : b < h.next) : (h.new x).get b = h.get b := by rw [TH.get_new]; exact HG.set_other _ _ (by omega)
theorem TH.next_new (h : TH) (x : TB) : (h.new x).next = h.next + 1 := rfl

/-- All that stood stands as it was. -/
structure HX (h h' : TH) : Prop where
  next : h.next ≤ h'.next
  floor : h'.floor = h.floor
  lock : h'.lock = h.lock
  old : ∀ b, b < h.next → h'.get b = h.get b
theorem HX.refl (h : TH) : HX h h := ⟨Nat.le_refl _, rfl, rfl, fun _ _ => rfl⟩
theorem HX.trans {h h1 h2 : TH} (s : HX h h1) (t : HX h1 h2) : HX h h2 := ⟨Nat.le_trans s.next t.next, t.floor.trans s.floor, t.lock.trans s.lock, fun b hb => (t.old b (by have := s.next; omega)).trans (s.old b hb)⟩
theorem HX.new (h : TH) (x : TB) : HX h (h.new x) := ⟨Nat.le_succ _, rfl, rfl, fun _ hb => TH.get_old hb⟩
theorem HX.get {h h' : TH} (s : HX h h') {b : Nat} {x : Option TB} (hb : b < h.next) (hg : h.get b = x) : h'.get b = x := (s.old b hb).trans hg

/-- A literal of scalar elements. -/
theorem filled_two {z v0 v1 : Value} (h0 : v0.cells = #[v0]) (h1 : v1.cells = #[v1]) : filled 1 2 [z] [(0, v0), (1, v1)] = some [v0, v1] := by
  simp [filled, zeros, Instr.fill, h0, h1]
theorem WO.bs {ps : Array (Nat × Operand)} {n : Nat} {parts : List (Nat × Value)} {zv : Value} {cs : List Value} (hp : ps.toList.map (fun q => (q.1, a.eval q.2)) = parts) (hu : P.underlying t = some (.slice e)) (he : Sc P e zv) (hf : filled 1 n [zv] parts = some cs) (hn : n ≤ 16777216)
    (w : WO P tp rest (a.put d (.slice (some ⟨h.next, 0, none⟩) n n)) (h.new (.cells cs true true e)) K) : WO P tp (⟨d, .buildSlice t n ps, ty, none, [], i⟩ :: rest) a h K :=
  WO.op rfl rfl (fun call => by
    obtain ⟨inf, q1, q2, q3, q4⟩ := he.i
    have hz : zv.cells.toList = [zv] := by rw [he.z]
    have hz2 : zv.cells.size = 1 := by rw [he.z]; rfl
    have hb : Nat.ble n (2 ^ 24) = true := by simpa using hn
    simp only [stepOp, heapFirst, heapOp, hp, Bool.cond_true, buildSliceT, elemInfo, hu, Option.bind_some, q1, Option.map_some, q4, q2, hz, hz2, hf, Nat.mul_one, hb, newSlice]
    rfl) w

/-! ### Calls ahead of which blocks are held -/
theorem TH.relock (h : TH) (l : List Nat) : (h.withLock l).withLock h.lock = h := rfl
theorem HX.relock {h h' : TH} {l : List Nat} (s : HX (h.withLock l) h') : HX h (h'.withLock h.lock) := ⟨s.next, s.floor, rfl, s.old⟩
variable {f x0 x1 x2 l0 : Operand} {ls : List Operand} {fv v0 v1 v2 : Value} {ts : Array TypeId}
theorem WO.lk1 (hf : getO a f = some fv) (h0 : getO a x0 = some v0) (w : ∀ L, CallW P tp fv #[v0] (h.withLock L) fun v h1 => WO P tp rest (a.put d v) (h1.withLock h.lock) K) : WO P tp (⟨d, .call ⟨.value f, #[x0], ts⟩, ty, none, l0 :: ls, i⟩ :: rest) a h K :=
  WO.cons_lock rfl rfl (StepW.call (by rw [getO_eval hf]; simpa [getO_eval h0] using w _))
theorem WO.lk2 (hf : getO a f = some fv) (h0 : getO a x0 = some v0) (h1 : getO a x1 = some v1) (w : ∀ L, CallW P tp fv #[v0, v1] (h.withLock L) fun v h1 => WO P tp rest (a.put d v) (h1.withLock h.lock) K) : WO P tp (⟨d, .call ⟨.value f, #[x0, x1], ts⟩, ty, none, l0 :: ls, i⟩ :: rest) a h K :=
  WO.cons_lock rfl rfl (StepW.call (by rw [getO_eval hf]; simpa [getO_eval h0, getO_eval h1] using w _))
theorem WO.lk3 (hf : getO a f = some fv) (h0 : getO a x0 = some v0) (h1 : getO a x1 = some v1) (h2 : getO a x2 = some v2) (w : ∀ L, CallW P tp fv #[v0, v1, v2] (h.withLock L) fun v h1 => WO P tp rest (a.put d v) (h1.withLock h.lock) K) : WO P tp (⟨d, .call ⟨.value f, #[x0, x1, x2], ts⟩, ty, none, l0 :: ls, i⟩ :: rest) a h K :=
  WO.cons_lock rfl rfl (StepW.call (by rw [getO_eval hf]; simpa [getO_eval h0, getO_eval h1, getO_eval h2] using w _))

end Go.Tidy

/- Registers that are all there, as a list. -/
namespace Go.Tidy
open Go

theorem setN_comm {α : Type} : ∀ (s : Nat) (k1 k2 : Nat), k1 + k2 ≤ s → k1 ≠ k2 → ∀ (n1 n2 : Nat) (t : Tr α) (v1 v2 : α), k1 < n1 → k2 < n2 → Tr.setN n1 (Tr.setN n2 t k2 v2) k1 v1 = Tr.setN n2 (Tr.setN n1 t k1 v1) k2 v2 := by
  intro s
  induction s with
  | zero => intro k1 k2 hs hne; omega
  | succ s ih =>
    intro k1 k2 hs hne n1 n2 t v1 v2 h1 h2
    obtain ⟨m1, rfl⟩ : ∃ m, n1 = m + 1 := ⟨n1 - 1, by omega⟩
    obtain ⟨m2, rfl⟩ : ∃ m, n2 = m + 1 := ⟨n2 - 1, by omega⟩
    cases k1 with
    | zero =>
      cases k2 with
      | zero => exact absurd rfl hne
      | succ k2 =>
        simp only [Tr.setN]
        cases hb : Nat.beq (k2 % 2) 0 <;> simp [Tr.val, Tr.left, Tr.right]
    | succ k1 =>
      cases k2 with
      | zero =>
        simp only [Tr.setN]
        cases hb : Nat.beq (k1 % 2) 0 <;> simp [Tr.val, Tr.left, Tr.right]
      | succ k2 =>
        simp only [Tr.setN]
        cases hb1 : Nat.beq (k1 % 2) 0 with
        | true =>
          have e1 := Nat.eq_of_beq_eq_true hb1
          cases hb2 : Nat.beq (k2 % 2) 0 with
          | true =>
            have e2 := Nat.eq_of_beq_eq_true hb2
            simp only [cond, Tr.val, Tr.left, Tr.right]
            rw [ih (k1 / 2) (k2 / 2) (by omega) (by omega) m1 m2 _ v1 v2 (by omega) (by omega)]
          | false => simp [cond, Tr.val, Tr.left, Tr.right]
        | false =>
          have e1 := Nat.ne_of_beq_eq_false hb1
          cases hb2 : Nat.beq (k2 % 2) 0 with
          | true => simp [cond, Tr.val, Tr.left, Tr.right]
          | false =>
            have e2 := Nat.ne_of_beq_eq_false hb2
            simp only [cond, Tr.val, Tr.left, Tr.right]
            rw [ih (k1 / 2) (k2 / 2) (by omega) (by omega) m1 m2 _ v1 v2 (by omega) (by omega)]
theorem setN_twice {α : Type} : ∀ (n n' k : Nat) (t : Tr α) (v w : α), k < n → k < n' → Tr.setN n (Tr.setN n' t k v) k w = Tr.setN n t k w := by
  intro n
  induction n with
  | zero => intro n' k t v w h; omega
  | succ n ih =>
    intro n' k t v w h h'
    obtain ⟨m, rfl⟩ : ∃ m, n' = m + 1 := ⟨n' - 1, by omega⟩
    cases k with
    | zero => simp [Tr.setN, Tr.left, Tr.right]
    | succ k =>
      simp only [Tr.setN]
      cases hb : Nat.beq (k % 2) 0 with
      | true => simp only [cond, Tr.val, Tr.left, Tr.right]; rw [ih m (k / 2) _ v w (by omega) (by omega)]
      | false => simp only [cond, Tr.val, Tr.left, Tr.right]; rw [ih m (k / 2) _ v w (by omega) (by omega)]
theorem set_comm {α : Type} (t : Tr α) {j k : Nat} (h : j ≠ k) (v w : α) : (t.set k w).set j v = (t.set j v).set k w := setN_comm (j + k) j k (Nat.le_refl _) h _ _ t v w (Nat.lt_succ_self _) (Nat.lt_succ_self _)
theorem set_twice {α : Type} (t : Tr α) (k : Nat) (v w : α) : (t.set k v).set k w = t.set k w := setN_twice _ _ k t v w (Nat.lt_succ_self _) (Nat.lt_succ_self _)

theorem ofList_comm : ∀ (l : List Value) (k : Nat) (a : Regs) (i : Nat) (v : Value), i < k → Tr.set (Regs.ofList l k a) i v = Regs.ofList l k (a.set i v) := by
  intro l
  induction l with
  | nil => intro k a i v _; rfl
  | cons x r ih =>
    intro k a i v h
    simp only [Regs.ofList]
    rw [ih (k + 1) _ i v (by omega), set_comm a (by omega)]
theorem ofList_put : ∀ (l : List Value) (k : Nat) (a : Regs) (t : Nat) (v : Value), k ≤ t → t < k + l.length → Tr.set (Regs.ofList l k a) t v = Regs.ofList (l.set (t - k) v) k a := by
  intro l
  induction l with
  | nil => intro k a t v h h'; simp at h'; omega
  | cons x r ih =>
    intro k a t v h h'
    simp only [List.length_cons] at h'
    by_cases e : t = k
    · subst e
      simp only [Regs.ofList, Nat.sub_self, List.set_cons_zero]
      rw [ofList_comm r (t + 1) _ t v (by omega), set_twice]
    · have : t - k = (t - (k + 1)) + 1 := by omega
      rw [this]
      simp only [Regs.ofList, List.set_cons_succ]
      exact ih (k + 1) _ t v (by omega) (by omega)

/-- All of so many registers are there. -/
def Full (m : Nat) (a : Regs) : Prop := ∃ l : List Value, l.length = m ∧ a = fullR m l
theorem Full.of (m : Nat) (l : List Value) (h : l.length = m) : Full m (fullR m l) := ⟨l, h, rfl⟩
theorem Full.start (m : Nat) (l : List Value) (h : l.length ≤ m) : Full m (fullR m l) := by
  refine ⟨l ++ List.replicate (m - l.length) undef, by simp; omega, ?_⟩
  unfold fullR
  simp
  have : m - (l.length + (m - l.length)) = 0 := by omega
  rw [this]
  simp
theorem Full.put {m : Nat} {a : Regs} (h : Full m a) {t : Nat} (ht : t < m) (v : Value) : Full m (a.put (some t) v) := by
  obtain ⟨l, hl, rfl⟩ := h
  refine ⟨l.set t v, by simpa using hl, ?_⟩
  unfold fullR
  simp only [hl, List.length_set, Nat.sub_self, List.replicate_zero, List.append_nil]
  have := ofList_put l 0 .nil t v (by omega) (by omega)
  simpa [Regs.put] using this
theorem Full.putn {m : Nat} {a : Regs} (h : Full m a) (v : Value) : Full m (a.put (none : Option Tmp) v) := h
theorem cons_of {n : Nat} {l : List Value} (h : l.length = n + 1) : ∃ x r, l = x :: r ∧ r.length = n := by
  cases l with
  | nil => simp at h
  | cons x r => exact ⟨x, r, rfl, by simpa using h⟩
theorem nil_of {l : List Value} (h : l.length = 0) : l = [] := List.eq_nil_of_length_eq_zero h
end Go.Tidy

/- Stores and appends, in the plain interpreter. -/
namespace Go.Tidy
open Go

/-- A block is written. -/
def TH.upd (h : TH) (b : Nat) (x : TB) : TH := ⟨h.tree.set b x, h.next, h.floor, h.lock⟩
theorem TH.get_upd (h : TH) (b : Nat) (x : TB) (c : Nat) : (h.upd b x).get c = if c = b then some x else h.get c := Tr.get_set _ _ _ _
theorem TH.put_upd {h : TH} {b : Nat} {x : TB} (h1 : h.floor ≤ b) (h2 : b < h.next) (h3 : b ∉ h.lock) : h.put b x = some (h.upd b x) := by
  unfold TH.put
  have e1 : Nat.ble h.floor b = true := by rw [Nat.ble_eq]; exact h1
  have e2 : Nat.blt b h.next = true := by rw [Nat.blt_eq]; exact h2
  have e3 : (h.lock.all fun l => !Nat.beq l b) = true := by
    rw [List.all_eq_true]
    intro l hl
    have : l ≠ b := fun e => h3 (e ▸ hl)
    cases hb : Nat.beq l b with
    | true => exact absurd (Nat.eq_of_beq_eq_true hb) this
    | false => rfl
  rw [e1, e2, e3]
  rfl
/-- What is written lies behind all that stood. -/
theorem HX.upd {h0 h : TH} (s : HX h0 h) {b : Nat} (hb : h0.next ≤ b) (x : TB) : HX h0 (h.upd b x) :=
  ⟨s.next, s.floor, s.lock, fun c hc => by rw [TH.get_upd, if_neg (by omega)]; exact s.old c hc⟩

/-- Blocks behind 'n' may be written. -/
structure Free0 (n : Nat) (h : TH) : Prop where
  floor : h.floor ≤ n
  lock : ∀ l, l ∈ h.lock → l < n
theorem Free0.hx {n : Nat} {h h' : TH} (f : Free0 n h) (s : HX h h') : Free0 n h' := ⟨by rw [s.floor]; exact f.floor, by rw [s.lock]; exact f.lock⟩
theorem Free0.put {n : Nat} {h : TH} (f : Free0 n h) {b : Nat} {x : TB} (h1 : n ≤ b) (h2 : b < h.next) : h.put b x = some (h.upd b x) :=
  TH.put_upd (Nat.le_trans f.floor h1) h2 fun hm => by have := f.lock b hm; omega

theorem splice_one (c : List Value) (off : Nat) (v : Value) (h : off < c.length) : splice c off [v] = c.set off v := by
  unfold splice
  rw [List.set_eq_take_append_cons_drop, if_pos h]
  simp

variable {P : Program} {t e : TypeId} {h : TH} {v : Value}
theorem store_sc {b off n : Nat} {c : List Value} {fix : Bool} {el : TypeId} {zv : Value} (he : Sc P t zv) (hg : h.get b = some (.cells c fix true el)) (ho : off < c.length) (hv : v.cells = #[v]) (h1 : oneCell v = true) (f : Free0 n h) (hb : n ≤ b) (hn : b < h.next) :
    storeT P t (.pointer (some ⟨b, off, none⟩)) v h = some (h.upd b (.cells (c.set off v) fix true el)) := by
  obtain ⟨inf, q1, q2, _⟩ := he.i
  have e1 : Nat.beq (#[v] : Array Value).size inf.size = true := by rw [q2]; rfl
  have e2 : Nat.ble (off + [v].length) c.length = true := by rw [Nat.ble_eq]; exact ho
  simp only [storeT, q1, hv, e1, Bool.cond_true, putCells, hg]
  simp only [e2, List.all_cons, List.all_nil, h1, Bool.and_self, Bool.cond_true, splice_one c off v ho]
  exact f.put hb hn

theorem firstT_one {b2 : Nat} {c2 : List Value} {fix2 wr2 : Bool} {el2 : TypeId} {m : Nat} (hg2 : h.get b2 = some (.cells (v :: c2) fix2 wr2 el2)) : firstT h 1 1 (.slice (some ⟨b2, 0, none⟩) 1 m) = some [v] := by
  have hb : Nat.ble (0 + 1 * 1) (v :: c2).length = true := by rw [Nat.ble_eq]; simp
  simp only [firstT, cellsAt, hg2, hb]
  rfl

/-- One element more, of a slice of scalars of the call's own. -/
theorem append_nil_one {sT : TypeId} {b2 m : Nat} {c2 : List Value} {fix2 wr2 : Bool} {el2 : TypeId} {zv : Value} (hu : P.underlying sT = some (.slice e)) (he : Sc P e zv) (hg2 : h.get b2 = some (.cells (v :: c2) fix2 wr2 el2)) (h1 : oneCell v = true) :
    appendT P #[sT, sT] #[.slice none 0 0, .slice (some ⟨b2, 0, none⟩) 1 m] h = some (.slice (some ⟨h.next, 0, none⟩) 1 1, h.new (.cells [v] false true e)) := by
  obtain ⟨inf, q1, q2, q3, q4⟩ := he.i
  obtain ⟨q5, q6⟩ := zeroP_some q4
  have hzf : zeroFits inf = true := by simp only [zeroFits, q5, he.z, q2]; rfl
  have hroom : room (0 + 1) inf.bytes = true := by simp [room]; omega
  simp only [appendT, elemInfo, List.getElem?_toArray, List.getElem?_cons_zero, List.getElem?_cons_succ, hu, Option.bind_some, q1, Option.map_some, newOf, lenT, q2, firstT_one hg2]
  simp [hzf, hroom, h1, newSlice]
  rfl
theorem append_grow_one {sT : TypeId} {b b2 n j m : Nat} {c c2 : List Value} {fix2 wr2 : Bool} {el2 : TypeId} {zv : Value} (hu : P.underlying sT = some (.slice e)) (he : Sc P e zv) (hg : h.get b = some (.cells c false true e)) (hc : c.length = j) (hg2 : h.get b2 = some (.cells (v :: c2) fix2 wr2 el2)) (h1 : oneCell v = true) (hj : j ≤ 1000000)
    (f : Free0 n h) (hb : n ≤ b) (hn : b < h.next) :
    appendT P #[sT, sT] #[.slice (some ⟨b, 0, none⟩) j j, .slice (some ⟨b2, 0, none⟩) 1 m] h = some (.slice (some ⟨h.next, 0, none⟩) (j + 1) (j + 1), (h.upd b .dead).new (.cells (c ++ [v]) false true e)) := by
  obtain ⟨inf, q1, q2, q3, q4⟩ := he.i
  obtain ⟨q5, q6⟩ := zeroP_some q4
  have hzf : zeroFits inf = true := by simp only [zeroFits, q5, he.z, q2]; rfl
  have hroom : room (j + 1) inf.bytes = true := by
    have : (j + 1) * inf.bytes ≤ (j + 1) * 16 := Nat.mul_le_mul_left _ q3
    simp [room]; omega
  have hcells : cellsAt h b 0 j = some c := by
    have hb : Nat.ble (0 + j) c.length = true := by rw [Nat.ble_eq]; omega
    simp only [cellsAt, hg, hb]
    simp [hc ▸ List.take_length]
  have hp : h.put b .dead = some (h.upd b .dead) := f.put hb hn
  simp only [appendT, elemInfo, List.getElem?_toArray, List.getElem?_cons_zero, List.getElem?_cons_succ, hu, Option.bind_some, q1, Option.map_some, newOf, lenT, q2, firstT_one hg2]
  simp [hzf, hroom, h1, hg, hcells, hp, newSlice]
  have hbl : Nat.ble (j + 1) j = false := by
    cases hb : Nat.ble (j + 1) j with
    | false => rfl
    | true => rw [Nat.ble_eq] at hb; omega
  rw [hbl]
  rfl

end Go.Tidy

