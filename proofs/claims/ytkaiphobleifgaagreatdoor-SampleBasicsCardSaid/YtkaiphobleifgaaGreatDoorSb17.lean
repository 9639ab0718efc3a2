/- The law's text, run by the model. -/
import Derived.Test.YtkaiphobleifgaaGreatDoorAzAll
import Derived.Test.YtkaiphobleifgaaGreatDoorTpQo
import Derived.Test.YtkaiphobleifgaaGreatDoorSb16
import Derived.Test.YtkaiphobleifgaaGreatDoorTd5
import Derived.RowKit3
set_option linter.all false
namespace Go.Tidy
open Go Go.Proofs Tab

def turnsL : List Value := [(.int .i64 1), (.int .i64 0), (.int .i64 0), (.int .i64 (-1)), (.int .i64 (-1)), (.int .i64 0), (.int .i64 0), (.int .i64 1)]
def powsL : List Value := [(.int .u64 1), (.int .u64 10), (.int .u64 100), (.int .u64 1000), (.int .u64 10000), (.int .u64 100000), (.int .u64 1000000), (.int .u64 10000000), (.int .u64 100000000), (.int .u64 1000000000), (.int .u64 10000000000), (.int .u64 100000000000), (.int .u64 1000000000000), (.int .u64 10000000000000), (.int .u64 100000000000000), (.int .u64 1000000000000000), (.int .u64 10000000000000000), (.int .u64 100000000000000000), (.int .u64 1000000000000000000), (.int .u64 10000000000000000000)]
theorem leaf_get {x y : TB} {k : Nat} (h : (Tr.node (some x) .nil .nil).get k = some y) : k = 0 ∧ y = x := by
  cases k with
  | zero => exact ⟨rfl, (Option.some.inj h).symm⟩
  | succ k =>
    simp only [Tr.get, Tr.get_nil] at h
    cases hb : Nat.beq (k % 2) 0 <;> rw [hb] at h <;> cases h
theorem h0_get {e1 e2 : TypeId} {b : Nat} {x : TB} (h : (A14.h0 e1 e2).get b = some x) : (b = 1 ∧ x = .cells turnsL true false e1) ∨ (b = 2 ∧ x = .cells powsL true false e2) := by
  replace h : (A14.t0 e1 e2).get b = some x := h
  cases b with
  | zero => cases h
  | succ k =>
    unfold A14.t0 at h
    rw [Tr.get] at h
    cases hb : Nat.beq (k % 2) 0 with
    | true =>
      rw [hb] at h
      obtain ⟨h1, h2⟩ := leaf_get h
      have := Nat.eq_of_beq_eq_true hb
      exact .inl ⟨by omega, h2⟩
    | false =>
      rw [hb] at h
      obtain ⟨h1, h2⟩ := leaf_get h
      have : k % 2 ≠ 0 := fun e => by rw [e] at hb; cases hb
      exact .inr ⟨by omega, h2⟩
theorem base_ok (e1 e2 : TypeId) : BaseOk (envQ (A14.h0 e1 e2)) (A14.h0 e1 e2) where
  B := rfl
  wf := fun b x hx => by
    show b < 8
    rcases h0_get hx with ⟨rfl, _⟩ | ⟨rfl, _⟩ <;> decide
  floor := rfl
  G := fun g hg => by
    have : g ∈ [1, 2] := hg
    simp only [List.mem_cons, List.not_mem_nil, or_false] at this
    rcases this with rfl | rfl
    · exact ⟨.cells turnsL true false e1, rfl⟩
    · exact ⟨.cells powsL true false e2, rfl⟩
  plain := fun b x hx => by
    rcases h0_get hx with ⟨_, rfl⟩ | ⟨_, rfl⟩
    · exact ⟨_, _, rfl, rfl⟩
    · exact ⟨_, _, rfl, rfl⟩

def awk : List Value → Option Value | [] => some (.bool true) | _ => none
def tpE : TProg := tpQ.know 14 awk
theorem tpE_ok (e1 e2 : TypeId) : TpOk (envQ (A14.h0 e1 e2)) tpE :=
  TpOk.know (base_ok e1 e2) mixQ (fun _ _ _ => Iff.rfl) (tpQ_ok _) A14.fn14 (fun l v _ he _ => by
    have : l = #[] := by
      cases h : l.toList with
      | nil => simpa using h
      | cons x r => rw [h] at he; cases he
    subst this
    cases he
    obtain ⟨g, hg⟩ := A14.run e1 e2
    exact ⟨_, g, hg⟩)
theorem hasE : Has tpE := ⟨fun k f hk hb => by
  show cond (Nat.beq k 14) none (tpQ.fn k) = some f
  rw [hb]; exact hk⟩
theorem noQ : tpQ.fn 209 = none ∧ tpQ.fn 210 = none ∧ tpQ.fn 211 = none := ⟨by kernel_rfl, by kernel_rfl, by kernel_rfl⟩
theorem hasXE : HasX tpE := ⟨fun k h1 h2 => (by
  show cond (Nat.beq k 14) none (tpQ.fn k) = none
  have e1 := Nat.le_of_ble_eq_true h1
  have e2 := Nat.le_of_ble_eq_true h2
  obtain rfl | rfl | rfl : k = 209 ∨ k = 210 ∨ k = 211 := by omega
  · exact noQ.1
  · exact noQ.2.1
  · exact noQ.2.2), (by kernel_rfl), (by kernel_rfl), (by kernel_rfl)⟩
theorem awkE : Awk tpE := ⟨rfl, awk, rfl, rfl⟩
theorem free_h0 (e1 e2 : TypeId) : Free0 (A14.h0 e1 e2).next (A14.h0 e1 e2) := ⟨Nat.le_refl _, fun l hl => by cases hl⟩

theorem run3 (s : ByteArray) (key n p q : Int) (b : Nat) (e1 e2 : TypeId) : ∃ m h', callT Tryz.prog tpE (ev Tryz.prog tpE m) (.func (.func 3) #[] #[]) #[.string s, .agg #[.int .i64 key, .int .i64 n], .agg #[.int .i64 p, .int .i64 q, .float .f32 b]] (A14.h0 e1 e2) = some (.bool true, h') := by
  have h := k3 hasE hasXE awkE s key n p q b (A14.h0 e1 e2) (free_h0 e1 e2)
  unfold CallW at h
  obtain ⟨m, v, h', h1, rfl⟩ := h
  exact ⟨m, h', h1 m (Nat.le_refl _)⟩

/-- The two variables, where they are. -/
def emb0 : Emb := fun b => cond (Nat.beq b 1 || Nat.beq b 2) (some ⟨b, 0, none⟩) none
theorem good0 {W : World} {e1 e2 : TypeId} {z1 z2 : Nat × Nat} (h1 : W.heap[1]? = some (.cells turnsL.toArray e1 z1)) (h2 : W.heap[2]? = some (.cells powsL.toArray e2 z2)) : Good (envQ (A14.h0 e1 e2)) emb0 (A14.h0 e1 e2) W where
  rel := fun b x e hx he => by
    rcases h0_get hx with ⟨rfl, rfl⟩ | ⟨rfl, rfl⟩
    · cases he
      refine ⟨_, _, h1, ⟨rfl, rfl⟩, Nat.le_refl _, fun i v hv => ⟨v, ?_, plain0_refl ?_⟩, fun h => by cases h⟩
      · simpa using hv
      · exact List.all_eq_true.1 (show turnsL.all plain0 = true from rfl) v (List.mem_of_getElem? hv)
    · cases he
      refine ⟨_, _, h2, ⟨rfl, rfl⟩, Nat.le_refl _, fun i v hv => ⟨v, ?_, plain0_refl ?_⟩, fun h => by cases h⟩
      · simpa using hv
      · exact List.all_eq_true.1 (show powsL.all plain0 = true from rfl) v (List.mem_of_getElem? hv)
  inj := fun b b' e e' ⟨x, hx, _⟩ ⟨x', hx', _⟩ he he' hq => by
    rcases h0_get hx with ⟨rfl, _⟩ | ⟨rfl, _⟩ <;> rcases h0_get hx' with ⟨rfl, _⟩ | ⟨rfl, _⟩ <;> cases he <;> cases he' <;> first | rfl | cases hq
  wf := (base_ok e1 e2).wf
  fr := fun b hb => by
    have hb' : 8 ≤ b := hb
    show cond (Nat.beq b 1 || Nat.beq b 2) _ _ = none
    have a1 : Nat.beq b 1 = false := by rw [← Bool.not_eq_true, Nat.beq_eq]; omega
    have a2 : Nat.beq b 2 = false := by rw [← Bool.not_eq_true, Nat.beq_eq]; omega
    rw [a1, a2]; rfl
  glob := fun g hg => by
    have : g ∈ [1, 2] := hg
    simp only [List.mem_cons, List.not_mem_nil, or_false] at this
    rcases this with rfl | rfl
    · exact ⟨_, rfl, rfl, rfl⟩
    · exact ⟨_, rfl, rfl, rfl⟩
  base := fun g x hx => ⟨hx, (base_ok e1 e2).wf g x hx⟩

theorem walk3 {W : World} {e1 e2 : TypeId} {z1 z2 : Nat × Nat} (h1 : W.heap[1]? = some (.cells turnsL.toArray e1 z1)) (h2 : W.heap[2]? = some (.cells powsL.toArray e2 z2)) (s : ByteArray) (key n p q : Int) (b : Nat) :
    Calls Tryz.prog 3 #[.string s, .agg #[.int .i64 key, .int .i64 n], .agg #[.int .i64 p, .int .i64 q, .float .f32 b]] W fun e W' => e = .returned (.bool true) ∧ W.keptBut W' (fun _ => False) := by
  obtain ⟨m, h', hr⟩ := run3 s key n p q b e1 e2
  have gd := good0 h1 h2
  have hargs : LRel emb0 (#[Value.string s, .agg #[.int .i64 key, .int .i64 n], .agg #[.int .i64 p, .int .i64 q, .float .f32 b]] : Array Value).toList (#[Value.string s, .agg #[.int .i64 key, .int .i64 n], .agg #[.int .i64 p, .int .i64 q, .float .f32 b]] : Array Value).toList := by
    refine .cons (.string s) (.cons ?_ (.cons ?_ .nil))
    · have l : LRel emb0 [.int .i64 key, .int .i64 n] [.int .i64 key, .int .i64 n] := .cons (.int _ _) (.cons (.int _ _) .nil)
      exact .agg _ _ rfl l.2
    · have l : LRel emb0 [.int .i64 p, .int .i64 q, .float .f32 b] [.int .i64 p, .int .i64 q, .float .f32 b] := .cons (.int _ _) (.cons (.int _ _) (.cons (.float _ _ _ (.inl rfl)) .nil))
      exact .agg _ _ rfl l.2
  refine Calls.mono (calls_of (C := envQ (A14.h0 e1 e2)) trivial mixQ (tpE_ok e1 e2) (fun _ _ _ => Iff.rfl) (hasE.fn 3 f3 rfl rfl) hargs hr gd) fun e W' ⟨v', β', q1, q2, q3⟩ => ?_
  cases q2
  refine ⟨q1, q3.os, q3.output, fun i hi => ?_⟩
  have hk := q3.keep i hi fun b e hf ⟨x, hx, _⟩ _ _ => by
    have h8 : 8 ≤ b := hf
    rcases h0_get hx with ⟨rfl, _⟩ | ⟨rfl, _⟩ <;> omega
  rw [hk]
  split
  · rename_i a1 a2; rw [a1] at a2; cases a2; exact ⟨rfl, rfl, rfl, fun _ _ => rfl⟩
  · rename_i a1 a2; rw [a1] at a2; cases a2; exact .inr ⟨rfl, rfl⟩
  · rfl
end Go.Tidy
