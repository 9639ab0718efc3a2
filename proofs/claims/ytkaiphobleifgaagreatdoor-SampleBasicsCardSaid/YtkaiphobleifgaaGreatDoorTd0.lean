/- A plain interpreter of the code and what it has to do with the model: part 1. -/
import Derived.RangeFuncRecord
import Derived.OrdersIn
import Derived.LoopNIn
import Derived.Below
import Derived.IntWalk
set_option linter.all false
/- A plain interpreter of the model's code, on a heap whose blocks are named in the order of the text: the definitions. -/
namespace Go.Tidy
open Go

/-! ### What a computation yields that neither touches memory nor asks -/
def pv (P : Program) {α : Type} : Sem α → Option α
  | .pure a => some a
  | .program k => pv P (k P)
  | .load _ _ _ => none
  | .store _ _ _ _ => none
  | .new _ _ => none
  | .shape _ _ => none
  | .freeze _ _ _ => none
  | .frozen _ _ => none
  | .getObj _ _ => none
  | .setObj _ _ _ => none
  | .choose _ _ => none
  | .sys _ _ => none
  | .mark _ k => pv P k
  | .halt _ => none

theorem run_of_pv {P : Program} {α : Type} : ∀ {s : Sem α} {a : α}, pv P s = some a → ∀ w, s.run P w = .ok a w := by
  intro s
  induction s with
  | pure a => intro b h w; simp only [pv, Option.some.injEq] at h; subst h; rfl
  | program k ih => intro b h w; exact ih P h w
  | mark m k ih => intro b h w; exact ih h w
  | load m a k ih => intro b h; simp only [pv] at h; cases h
  | store m a v k ih => intro b h; simp only [pv] at h; cases h
  | new o k ih => intro b h; simp only [pv] at h; cases h
  | shape r k ih => intro b h; simp only [pv] at h; cases h
  | freeze a n k ih => intro b h; simp only [pv] at h; cases h
  | frozen a k ih => intro b h; simp only [pv] at h; cases h
  | getObj r k ih => intro b h; simp only [pv] at h; cases h
  | setObj r o k ih => intro b h; simp only [pv] at h; cases h
  | choose q k ih => intro b h; simp only [pv] at h; cases h
  | sys c k ih => intro b h; simp only [pv] at h; cases h
  | halt x => intro b h; simp only [pv] at h; cases h

/-! ### A map from numbers -/
inductive Tr (α : Type) where
  | nil
  | node (v : Option α) (l r : Tr α)

namespace Tr
variable {α : Type}
def val : Tr α → Option α | .nil => none | .node v _ _ => v
def left : Tr α → Tr α | .nil => .nil | .node _ l _ => l
def right : Tr α → Tr α | .nil => .nil | .node _ _ r => r
def get : Tr α → Nat → Option α
  | .nil, _ => none
  | .node v _ _, 0 => v
  | .node _ l r, k + 1 => cond (Nat.beq (k % 2) 0) (l.get (k / 2)) (r.get (k / 2))
def setN : Nat → Tr α → Nat → α → Tr α
  | 0, t, _, _ => t
  | _ + 1, t, 0, a => .node (some a) t.left t.right
  | n + 1, t, k + 1, a => cond (Nat.beq (k % 2) 0) (.node t.val (setN n t.left (k / 2) a) t.right) (.node t.val t.left (setN n t.right (k / 2) a))
def set (t : Tr α) (k : Nat) (a : α) : Tr α := setN (k + 1) t k a

theorem get_nil (k : Nat) : (Tr.nil : Tr α).get k = none := by cases k <;> rfl
theorem get_zero (t : Tr α) : t.get 0 = t.val := by cases t <;> rfl
theorem get_succ (t : Tr α) (k : Nat) : t.get (k + 1) = cond (Nat.beq (k % 2) 0) (t.left.get (k / 2)) (t.right.get (k / 2)) := by
  cases t with
  | nil => simp only [get, left, right, get_nil]; cases Nat.beq (k % 2) 0 <;> rfl
  | node v l r => rfl

theorem get_setN : ∀ (n : Nat) (t : Tr α) (k : Nat) (a : α) (j : Nat), k < n → (setN n t k a).get j = if j = k then some a else t.get j := by
  intro n
  induction n with
  | zero => intro t k a j h; omega
  | succ n ih =>
    intro t k a j h
    cases k with
    | zero =>
      cases j with
      | zero => simp [setN, get]
      | succ j => simp only [setN, get]; rw [if_neg (by omega), get_succ]
    | succ k =>
      have hk : k / 2 < n := by omega
      simp only [setN]
      cases hb : Nat.beq (k % 2) 0 with
      | true =>
        have hk2 : k % 2 = 0 := Nat.eq_of_beq_eq_true hb
        cases j with
        | zero => simp [cond, get_zero, val]
        | succ j =>
          simp only [cond, get]
          rw [get_succ]
          cases hj : Nat.beq (j % 2) 0 with
          | true =>
            have hj2 : j % 2 = 0 := Nat.eq_of_beq_eq_true hj
            simp only [cond]
            rw [ih _ _ _ _ hk]
            by_cases e : j = k
            · subst e; simp
            · rw [if_neg (by omega), if_neg (by omega)]
          | false =>
            have hj2 : j % 2 ≠ 0 := Nat.ne_of_beq_eq_false hj
            simp only [cond]
            rw [if_neg (by intro e; simp at e; omega)]
      | false =>
        have hk2 : k % 2 ≠ 0 := Nat.ne_of_beq_eq_false hb
        cases j with
        | zero => simp [cond, get_zero, val]
        | succ j =>
          simp only [cond, get]
          rw [get_succ]
          cases hj : Nat.beq (j % 2) 0 with
          | true =>
            have hj2 : j % 2 = 0 := Nat.eq_of_beq_eq_true hj
            simp only [cond]
            rw [if_neg (by intro e; simp at e; omega)]
          | false =>
            have hj2 : j % 2 ≠ 0 := Nat.ne_of_beq_eq_false hj
            simp only [cond]
            rw [ih _ _ _ _ hk]
            by_cases e : j = k
            · subst e; simp
            · rw [if_neg (by omega), if_neg (by omega)]

theorem get_set (t : Tr α) (k : Nat) (a : α) (j : Nat) : (t.set k a).get j = if j = k then some a else t.get j :=
  get_setN _ t k a j (Nat.lt_succ_self k)
end Tr

/-! ### Code, made ready -/
structure TOper where
  dst : Option Tmp
  op : Op
  type : TypeId
  gt : Option (Tmp × Bool)
  locks : List Operand
  idx : Nat
  deriving Inhabited

inductive TCode where
  | skip
  | reg (ops : List TOper)
  | seq (a b : TCode)
  | cond (c : Operand) (thn els : TCode)
  | block (id : Nat) (body : TCode)
  | loop (body : TCode)
  | rangeFunc (f : Operand) (params : Array Tmp) (ta tb : TCode)
  | exit (id : Nat)
  | ret
  | bad
  deriving Inhabited

/-- What lies at a block's number. 'fix': its spare room is known. 'wr': its cells may be written. 'el': the type of its elements. -/
inductive TB where
  | cells (c : List Value) (fix wr : Bool) (el : TypeId)
  | dead
  | iter (s : ByteArray) (pos : Nat)
  | loop (tmps : Tr Value) (params : Array Tmp) (ta tb : TCode) (state : LoopState) (pending : Option Code)
  deriving Inhabited

/-- The heap: blocks by number; the next number; below 'floor' nothing may be written, nor a block of 'lock'. -/
structure TH where
  tree : Tr TB
  next : Nat
  floor : Nat
  lock : List Nat

namespace TH
def get (h : TH) (b : Nat) : Option TB := h.tree.get b
def new (h : TH) (x : TB) : TH := ⟨h.tree.set h.next x, h.next + 1, h.floor, h.lock⟩
def put (h : TH) (b : Nat) (x : TB) : Option TH :=
  cond (Nat.ble h.floor b && (Nat.blt b h.next && h.lock.all fun l => !Nat.beq l b)) (some ⟨h.tree.set b x, h.next, h.floor, h.lock⟩) none
def withLock (h : TH) (l : List Nat) : TH := ⟨h.tree, h.next, h.floor, l⟩
end TH

/-! ### Temporaries -/
abbrev Regs := Tr Value
namespace Regs
def at_ (a : Regs) (t : Tmp) : Value := match a.get t with | some v => v | none => undef
def eval (a : Regs) : Operand → Value
  | .tmp t => a.at_ t
  | .const v => v
  | .global g => .pointer (some ⟨g, 0, none⟩)
  | .func f => .func (.func f) #[] #[]
def put (a : Regs) (d : Option Tmp) (v : Value) : Regs :=
  match d with
  | some d => a.set d v
  | none => a
def ofList : List Value → Nat → Regs → Regs
  | [], _, a => a
  | v :: r, i, a => ofList r (i + 1) (a.set i v)
def sets : List Tmp → List Value → Regs → Regs
  | t :: ts, v :: vs, a => sets ts vs (a.set t v)
  | _, _, a => a
end Regs

/-! ### Values without addresses -/
def nanB : FloatKind → Nat → Bool
  | .f32, b => Nat.blt 0x7f800000 (b % 2 ^ 31)
  | .f64, b => Nat.blt 0x7ff0000000000000 (b % 2 ^ 63)

/-- A value of one cell without an address, and no NaN. -/
def plain0 : Value → Bool
  | .bool _ | .int _ _ | .string _ | .pointer none | .slice none _ _ | .map none | .chan none | .nilFunc | .nilIface => true
  | .float k b => !nanB k b
  | .complex k a b => !nanB k a && !nanB k b
  | _ => false
def plain1 : Value → Bool
  | .agg cs => cs.toList.all plain0
  | .iface _ v => plain0 v
  | v => plain0 v
def plain : Value → Bool
  | .tuple vs => vs.toList.all plain1
  | v => plain1 v

def oneCell : Value → Bool
  | .agg _ | .tuple _ => false
  | _ => true

/-! ### Operations that touch memory -/
def allocV (h : TH) (t : TypeId) (cs : List Value) : Value × TH := (.pointer (some ⟨h.next, 0, none⟩), h.new (.cells cs true true t))
def newSlice (h : TH) (cs : List Value) (len cap : Nat) (fix : Bool) (el : TypeId) : Value × TH := (.slice (some ⟨h.next, 0, none⟩) len cap, h.new (.cells cs fix true el))

def cellsAt (h : TH) (b off n : Nat) : Option (List Value) :=
  match h.get b with
  | some (.cells c _ _ _) => cond (Nat.ble (off + n) c.length) (some ((c.drop off).take n)) none
  | _ => none

def splice (c : List Value) (off : Nat) (vs : List Value) : List Value := c.take off ++ (vs ++ c.drop (off + vs.length))

def putCells (h : TH) (b off : Nat) (vs : List Value) : Option TH :=
  match h.get b with
  | some (.cells c fix true el) => cond (Nat.ble (off + vs.length) c.length && vs.all oneCell) (h.put b (.cells (splice c off vs) fix true el)) none
  | _ => none

/-- A zero value, if it is plain. -/
def zeroP (i : TypeInfo) : Option Value := i.zero.bind fun z => cond (plain1 z) (some z) none

def zeroOf (P : Program) (t : TypeId) : Option (List Value) := (P.info? t).bind fun i => (zeroP i).map fun v => v.cells.toList

def isRow : TypeDesc → Bool
  | .struct _ | .array _ _ => true
  | _ => false

/-- A load of a variable of type t. -/
def loadT (P : Program) (t : TypeId) (x : Value) (h : TH) : Option Value :=
  match x, P.underlying t, P.info? t with
  | .pointer (some ⟨b, off, none⟩), some d, some i =>
    cond (isRow d) ((cellsAt h b off i.size).map fun l => .agg l.toArray) ((cellsAt h b off 1).bind fun l => l.head?)
  | _, _, _ => none

def storeT (P : Program) (t : TypeId) (x v : Value) (h : TH) : Option TH :=
  match x, P.info? t with
  | .pointer (some ⟨b, off, none⟩), some i => cond (Nat.beq v.cells.size i.size) (putCells h b off v.cells.toList) none
  | _, _ => none

def elemInfo (P : Program) (t : TypeId) : Option (TypeId × TypeInfo) :=
  match P.underlying t with
  | some (.slice e) => (P.info? e).map fun i => (e, i)
  | _ => none

/-- The first n elements of what is appended or copied. -/
def firstT (h : TH) (size n : Nat) : Value → Option (List Value)
  | .slice (some ⟨b, off, none⟩) len _ => cond (Nat.ble n len) (cellsAt h b off (n * size)) none
  | .slice none _ _ => cond (Nat.beq n 0) (some []) none
  | .string s => cond (Nat.ble n s.size && Nat.beq size 1) (some ((s.data.toList.take n).map fun b => .int .u8 b.toNat)) none
  | _ => none
def lenT : Value → Option Nat
  | .slice _ n _ => some n
  | .string s => some s.size
  | _ => none

def room (n bytes : Nat) : Bool := Nat.ble (n * bytes) (2 ^ 47) && Nat.ble n (2 ^ 47)

/-- The cells of a type's zero value, as many as the type has. -/
def zeroFits (i : TypeInfo) : Bool :=
  match i.zero with
  | some z => Nat.beq z.cells.size i.size
  | none => false

def zeros (z : List Value) (n : Nat) : List Value :=
  match z with
  | [v] => List.replicate n v
  | _ => (List.range n).map fun j => z.getD (j % z.length) default

/-- Cells are written, or laid behind the last one that is known. -/
def extend (h : TH) (b off : Nat) (e : TypeId) (vs : List Value) : Option TH :=
  match h.get b with
  | some (.cells c false true el) =>
    cond (Nat.beq off c.length && (Nat.beq el e && vs.all oneCell)) (h.put b (.cells (c ++ vs) false true el)) (putCells h b off vs)
  | _ => putCells h b off vs

/-- How many elements are appended, and their cells: of a slice, a string, or so many zeros. -/
def newOf (xd : TypeDesc) (i : TypeInfo) (x : Value) (h : TH) : Option (Nat × List Value) :=
  match xd with
  | .int _ =>
    match x, zeroP i with
    | .int _ l, some z =>
      cond (decide (0 ≤ l) && (Nat.ble (l.toNat * i.bytes) (2 ^ 47) && (Nat.ble l.toNat (2 ^ 47) && (Nat.blt 0 z.cells.size && Nat.beq z.cells.size i.size))))
        (some (l.toNat, zeros z.cells.toList (l.toNat * z.cells.size))) none
    | _, _ => none
  | _ => (lenT x).bind fun n => (firstT h i.size n x).map fun new => (n, new)

def appendT (P : Program) (argTypes : Array TypeId) (args : Array Value) (h : TH) : Option (Value × TH) :=
  match argTypes[0]?, argTypes[1]?, (args[0]? : Option Value), (args[1]? : Option Value) with
  | some sT, some xT, some (.slice base sLen sCap), some x =>
    match elemInfo P sT, P.underlying xT with
    | some (e, i), some xd =>
      (newOf xd i x h).bind fun (n, new) =>
        cond (Nat.beq n 0) (cond (Nat.ble sLen sCap) (some (.slice base sLen sCap, h)) none)
          (cond (Nat.ble (sLen + n) sCap)
            (match base with
             | some ⟨b, off, none⟩ => (extend h b (off + sLen * i.size) e new).map fun h' => (.slice base (sLen + n) sCap, h')
             | _ => none)
            (cond (room (sLen + n) i.bytes && (zeroFits i && new.all oneCell))
              (match base with
               | none => cond (Nat.beq sLen 0) (some (newSlice h new n n false e)) none
               | some ⟨b, off, none⟩ =>
                 match h.get b with
                 | some (.cells _ fix wr el) =>
                   (cellsAt h b off (sLen * i.size)).bind fun old =>
                     cond fix (some (newSlice h (old ++ new) (sLen + n) (sLen + n) false e))
                       (cond (wr && Nat.beq el e) ((h.put b .dead).map fun h' => newSlice h' (old ++ new) (sLen + n) (sLen + n) false e) none)
                 | _ => none
               | _ => none)
              none))
    | _, _ => none
  | _, _, _, _ => none

def copyT (P : Program) (argTypes : Array TypeId) (args : Array Value) (h : TH) : Option (Value × TH) :=
  match argTypes[0]?, (args[0]? : Option Value), (args[1]? : Option Value) with
  | some dT, some (.slice base dLen _), some x =>
    match elemInfo P dT, lenT x with
    | some (_, i), some n =>
      (firstT h i.size (Nat.min n dLen) x).bind fun new =>
        match base with
        | none => some (.int .i64 (Nat.min n dLen : Nat), h)
        | some ⟨b, off, none⟩ => cond (Nat.beq (Nat.min n dLen) 0) (some (.int .i64 0, h)) ((putCells h b off new).map fun h' => (.int .i64 (Nat.min n dLen : Nat), h'))
        | _ => none
    | _, _ => none
  | _, _, _ => none

/-- cap(s), where it is known. -/
def capT (P : Program) (argTypes : Array TypeId) (args : Array Value) (h : TH) : Option Value :=
  match argTypes[0]?, (args[0]? : Option Value) with
  | some t, some (.slice base _ c) =>
    match P.underlying t with
    | some (.slice _) =>
      match base with
      | none => some (.int .i64 c)
      | some ⟨b, _, none⟩ => match h.get b with
        | some (.cells _ true _ _) => some (.int .i64 c)
        | _ => none
      | _ => none
    | _ => none
  | _, _ => none

def makeSliceT (P : Program) (t : TypeId) (len cap : Value) (h : TH) : Option (Value × TH) :=
  match elemInfo P t, len, cap with
  | some (e, i), .int _ l, .int _ c =>
    match zeroP i with
    | some z =>
      cond (decide (0 ≤ l) && (decide (l ≤ c) && (Nat.ble (c.toNat * i.bytes) (2 ^ 47) && (Nat.ble c.toNat (2 ^ 47) && Nat.blt 0 z.cells.size))))
        (some (newSlice h (zeros z.cells.toList (c.toNat * i.size)) l.toNat c.toNat true e)) none
    | none => none
  | _, _, _ => none

/-- The array that a literal of so many elements lays, its parts filled in. -/
def filled (size len : Nat) (z : List Value) (parts : List (Nat × Value)) : Option (List Value) :=
  (Instr.fill (fun i => some (i * size, size)) (zeros z (len * size)).toArray parts).map (·.toList)

def buildSliceT (P : Program) (t : TypeId) (len : Nat) (parts : List (Nat × Value)) (h : TH) : Option (Value × TH) :=
  match elemInfo P t with
  | some (e, i) =>
    match zeroP i with
    | some z =>
      cond (Nat.ble (len * i.size) (2 ^ 24) && Nat.blt 0 z.cells.size)
        ((filled i.size len z.cells.toList parts).map fun cs => newSlice h cs len len true e) none
    | none => none
  | none => none

/-- A bound of a slice expression. -/
def boundT (v : Option Value) (dflt upper : Nat) : Option Nat :=
  match v with
  | none => some dflt
  | some (.int _ i) => cond (decide (0 ≤ i) && decide (i ≤ (upper : Int))) (some i.toNat) none
  | _ => none

def cut3 (len cap : Nat) (lo hi mx : Option Value) : Option (Nat × Nat × Nat) :=
  (boundT mx cap cap).bind fun m =>
    cond (hi.isNone && mx.isSome) none
      ((boundT hi len m).bind fun h => (boundT lo 0 h).map fun l => (l, h, m))

/-- Is the room of a slice in this block told in elements of this type? -/
def elemFits (H : TH) (b : Nat) (e : TypeId) : Bool :=
  match H.get b with
  | some (.cells _ fix _ el) => fix || Nat.beq el e
  | _ => false

def sliceT (P : Program) (t : TypeId) (x : Value) (lo hi mx : Option Value) (H : TH) : Option Value :=
  match P.underlying t, x with
  | some (.slice e), .slice base len cap =>
    cond (Nat.ble len cap)
      ((cut3 len cap lo hi mx).bind fun (l, h, m) =>
        (P.info? e).bind fun i =>
          match base with
          | none => some (.slice none (h - l) (m - l))
          | some ⟨b, off, none⟩ => cond (elemFits H b e) (some (.slice (some ⟨b, off + l * i.size, none⟩) (h - l) (m - l))) none
          | _ => none) none
  | some (.array n e), .pointer (some ⟨b, off, none⟩) =>
    (cut3 n n lo hi mx).bind fun (l, h, m) => (P.info? e).bind fun i =>
      match H.get b with
      | some (.cells _ true _ _) => some (.slice (some ⟨b, off + l * i.size, none⟩) (h - l) (m - l))
      | _ => none
  | _, _ => none

def fieldAddrT (P : Program) (t : TypeId) (x : Value) (f : Nat) : Option Value :=
  match P.underlying t, x with
  | some (.struct fs), .pointer (some ⟨b, off, none⟩) =>
    (fs[f]?).bind fun fd => (P.info? fd.type).bind fun i => cond (Nat.beq i.size 0) none (some (.pointer (some ⟨b, off + fd.offset, none⟩)))
  | _, _ => none

def indexAddrT (P : Program) (t : TypeId) (x ix : Value) : Option Value :=
  match P.underlying t, x, ix with
  | some (.array n e), .pointer (some ⟨b, off, none⟩), .int _ i =>
    cond (decide (0 ≤ i) && decide (i < (n : Int))) ((P.info? e).map fun inf => .pointer (some ⟨b, off + i.toNat * inf.size, none⟩)) none
  | some (.slice e), .slice (some ⟨b, off, none⟩) len _, .int _ i =>
    cond (decide (0 ≤ i) && decide (i < (len : Int))) ((P.info? e).map fun inf => .pointer (some ⟨b, off + i.toNat * inf.size, none⟩)) none
  | _, _, _ => none

/-- A slice's array, as an array that is pointed to. -/
def arrayAtT (P : Program) (t : TypeId) (x : Value) : Option Value :=
  match P.underlying t, x with
  | some (.array n _), .slice (some a) len _ => cond (Nat.ble n len && Nat.blt 0 n) (some (.pointer (some a))) none
  | _, _ => none

def partT (P : Program) (t : TypeId) (cs : Array Value) (off : Nat) : Option Value :=
  match P.underlying t, P.info? t with
  | some d, some i => cond (isRow d) (some (.agg (cs.extract off (off + i.size)))) cs[off]?
  | _, _ => none

def fieldT (P : Program) (t : TypeId) (x : Value) (f : Nat) : Option Value :=
  match P.underlying t, x with
  | some (.struct fs), .agg cs => (fs[f]?).bind fun fd => partT P fd.type cs fd.offset
  | _, _ => none

def indexT (P : Program) (t : TypeId) (x ix : Value) : Option Value :=
  match P.underlying t, x, ix with
  | some (.array n e), .agg cs, .int _ i =>
    cond (decide (0 ≤ i) && decide (i < (n : Int))) ((P.info? e).bind fun inf => partT P e cs (i.toNat * inf.size)) none
  | some .string, .string s, .int _ i =>
    cond (decide (0 ≤ i)) ((s[i.toNat]?).map fun b => .int .u8 b.toNat) none
  | _, _, _ => none

def fieldPlaces (P : Program) (fs : Array Field) (i : Nat) : Option (Nat × Nat) :=
  (fs[i]?).bind fun f => (P.info? f.type).map fun inf => (f.offset, inf.size)

def buildT (P : Program) (t : TypeId) (parts : List (Nat × Value)) : Option Value :=
  match P.underlying t, P.info? t with
  | some (.struct fs), some i =>
    match zeroP i with
    | some z => cond (fs.toList.all fun f => (P.info? f.type).isSome) ((Instr.fill (fieldPlaces P fs) z.cells parts).map .agg) none
    | none => none
  | some (.array _ e), some i =>
    match zeroP i, P.info? e with
    | some z, some inf => (Instr.fill (fun k => some (k * inf.size, inf.size)) z.cells parts).map .agg
    | _, _ => none
  | _, _ => none

/-- Is a slice, a pointer or a function nil? -/
def nilness : Value → Option Bool
  | .slice b _ _ => some b.isNone
  | .pointer b => some b.isNone
  | .nilFunc => some true
  | .func _ _ _ => some false
  | _ => none
def isNilV : Value → Bool
  | .slice none _ _ | .pointer none | .nilFunc => true
  | _ => false
def isFuncV : Value → Bool
  | .nilFunc | .func _ _ _ => true
  | _ => false
def nilKind : TypeDesc → Value → Value → Bool
  | .slice _, .slice _ _ _, .slice _ _ _ => true
  | .pointer _, .pointer _, .pointer _ => true
  | .func _ _ _, x, y => isFuncV x && isFuncV y
  | _, _, _ => false
/-- == with nil on one side. -/
def nilEq (P : Program) (t : TypeId) (x y : Value) : Option Bool :=
  match P.underlying t with
  | some d => cond (nilKind d x y) (cond (isNilV x) (nilness y) (cond (isNilV y) (nilness x) none)) none
  | none => none

/-- Two pointers into one block. -/
def ptrEq (P : Program) (t : TypeId) (x y : Value) : Option Bool :=
  match P.underlying t, x, y with
  | some (.pointer e), .pointer (some ⟨b, off, none⟩), .pointer (some ⟨b', off', none⟩) =>
    match P.info? e with
    | some i => cond (Nat.beq b b' && Nat.blt 0 i.size) (some (Nat.beq off off')) none
    | none => none
  | _, _, _ => none
def eqT (P : Program) (t : TypeId) (x y : Value) : Option Bool :=
  match ptrEq P t x y with
  | some b => some b
  | none => nilEq P t x y

/-- Bytes as a string, and a string as bytes. -/
def bytesOf : List Value → Option (List UInt8)
  | [] => some []
  | .int .u8 n :: r => (bytesOf r).map fun l => UInt8.ofNat n.toNat :: l
  | _ => none
def elemDesc (P : Program) (t : TypeId) : Option (TypeId × TypeDesc) :=
  match P.underlying t with
  | some (.slice e) => (P.underlying e).map fun d => (e, d)
  | _ => none
def isU8 : TypeDesc → Bool | .int .u8 => true | _ => false

/-- A pointer to a whole element of its block. -/
def pointsAt (P : Program) (t : TypeId) (h : TH) (b off : Nat) : Bool :=
  match h.get b, P.info? t with
  | some (.cells c true _ el), some i => Nat.beq el t && (Nat.blt 0 i.size && (Nat.beq (off % i.size) 0 && Nat.ble (off + i.size) c.length))
  | _, _ => false

def unsafeConv (P : Program) (src dst : TypeId) (b off : Nat) (h : TH) : Bool :=
  match P.underlying src, P.underlying dst with
  | some (.pointer t), some .unsafePointer => pointsAt P t h b off
  | some .unsafePointer, some (.pointer u) => pointsAt P u h b off
  | _, _ => false

def fKindEq : FloatKind → FloatKind → Bool
  | .f32, .f32 => true
  | .f64, .f64 => true
  | _, _ => false
/-- Some NaN. -/
def someNaN : FloatKind → Nat
  | .f32 => 0x7fc00000
  | .f64 => 0x7ff8000000000000

def convertT (P : Program) (src dst : TypeId) (x : Value) (h : TH) : Option (Value × TH) :=
  match x with
  | .float k b =>
    match P.underlying src, P.underlying dst with
    | some _, some (.float k') => cond (nanB k b && !fKindEq k k') (some (.float k' (someNaN k'), h)) none
    | _, _ => none
  | .string s =>
    match elemDesc P dst, P.underlying src with
    | some (e, d), some .string => cond (isU8 d && Nat.beq (P.cellsOf e) 1) (some (newSlice h (s.data.toList.map fun b => .int .u8 b.toNat) s.size s.size false e)) none
    | _, _ => none
  | .slice base len cp =>
    cond (Nat.beq src dst)
    (match elemDesc P src, base with
     | some (_, d), some ⟨b, _, none⟩ => cond (isU8 d && Nat.blt 0 cp) (match h.get b with | some (.cells c fix wr el) => (h.put b (.cells c fix wr el)).map fun h' => (x, h') | _ => none) none
     | _, _ => none) <|
    match elemDesc P src, P.underlying dst with
    | some (_, d), some .string =>
      cond (isU8 d)
        (match base with
         | none => some (.string .empty, h)
         | some ⟨b, off, none⟩ => (cellsAt h b off len).bind fun cs => (bytesOf cs).map fun l => (.string ⟨l.toArray⟩, h)
         | _ => none)
        none
    | _, _ => none
  | .pointer (some ⟨b, off, none⟩) => cond (unsafeConv P src dst b off h) (some (x, h)) none
  | _ => none

/-- unsafe.SliceData, unsafe.String. -/
def sliceDataT (args : Array Value) : Option Value :=
  match args.toList with
  | [.slice none _ _] => some (.pointer none)
  | [.slice (some ⟨b, off, none⟩) len cp] => cond (Nat.blt 0 len && Nat.blt 0 cp) (some (.pointer (some ⟨b, off, none⟩))) none
  | _ => none
def unsafeStringT (P : Program) (argTypes : Array TypeId) (args : Array Value) (h : TH) : Option (Value × TH) :=
  match argTypes[0]?, args.toList with
  | some pt, [.pointer base, .int _ n] =>
    cond (decide (0 ≤ n) && decide (n ≤ 2 ^ 47))
      (cond (Nat.beq n.toNat 0) (some (.string .empty, h))
       (match base with
       | some ⟨b, off, none⟩ =>
         match P.underlying pt, h.get b with
         | some (.pointer t), some (.cells c fix _ el) =>
           match P.info? t, P.underlying t with
           | some i, some d =>
             cond (Nat.beq el t && (Nat.beq i.size 1 && isU8 d)) ((cellsAt h b off n.toNat).bind fun cs => (bytesOf cs).bind fun l => (h.put b (.cells c fix false el)).map fun h' => (.string ⟨l.toArray⟩, h')) none
           | _, _ => none
         | _, _ => none
       | _ => none)) none
  | _, _ => none

/-- clear(s) of a slice. -/
def clearT (P : Program) (argTypes : Array TypeId) (args : Array Value) (h : TH) : Option (Value × TH) :=
  match argTypes[0]?, (args[0]? : Option Value) with
  | some t, some (.slice base n _) =>
    match elemInfo P t with
    | some (_, i) =>
      match base, zeroP i with
      | none, _ => some (.tuple #[], h)
      | some ⟨b, off, none⟩, some z =>
        cond (Nat.beq n 0) (some (.tuple #[], h)) (cond (Nat.blt 0 z.cells.size) ((putCells h b off (zeros z.cells.toList (n * z.cells.size))).map fun h' => (.tuple #[], h')) none)
      | _, _ => none
    | none => none
  | _, _ => none

/-- A range over a string, and its next rune. -/
def rangeT (P : Program) (t : TypeId) (x : Value) (h : TH) : Option (Value × TH) :=
  match P.underlying t, x with
  | some .string, .string s => some (.pointer (some ⟨h.next, 0, none⟩), h.new (.iter s 0))
  | _, _ => none
def nextT (x : Value) (isString : Bool) (h : TH) : Option (Value × TH) :=
  match x, isString with
  | .pointer (some ⟨b, 0, none⟩), true =>
    match h.get b with
    | some (.iter s pos) =>
      cond (Nat.blt pos s.size)
        ((h.put b (.iter s (pos + (Utf8.decode s pos).2))).map fun h' => (.tuple #[.bool true, .int .i64 pos, .int .i32 (Utf8.decode s pos).1], h'))
        (some (.tuple #[.bool false], h))
    | _ => none
  | _, _ => none

/-- Operations on values alone, whatever these hold. -/
def valueOp (P : Program) (o : TOper) (ρ : Operand → Value) : Option Value :=
  match o.op with
  | .move x | .assign x => some (ρ x)
  | .pick c a b => match ρ c with | .bool t => some (cond t (ρ a) (ρ b)) | _ => none
  | .extract t i => match ρ t with | .tuple vs => vs[i]? | _ => none
  | .field t x f => fieldT P t (ρ x) f
  | .index t x i => indexT P t (ρ x) (ρ i)
  | .build t ps => buildT P t (ps.toList.map fun (i, x) => (i, ρ x))
  | .makeInterface t x => match P.underlying t with | some (.interface _) => none | some _ => some (.iface t (ρ x)) | none => none
  | .makeFunc (.func f) first captured => some (.func (.func f) (first.map ρ) (captured.map ρ))
  | .nilCheck x => match ρ x with | .pointer (some a) => some (.pointer (some a)) | .func (.func f) a b => some (.func (.func f) a b) | .func (.yield f) a b => some (.func (.yield f) a b) | _ => none
  | .fieldAddr t x f => fieldAddrT P t (ρ x) f
  | .indexAddr t x i => indexAddrT P t (ρ x) (ρ i)
  | .sliceToArrayPointer t x => arrayAtT P t (ρ x)
  | .binOp .eql t x y _ => (eqT P t (ρ x) (ρ y)).map .bool
  | .binOp .neq t x y _ => (eqT P t (ρ x) (ρ y)).map fun b => .bool !b
  | .call ⟨.builtin .len, args, ts⟩ =>
    match args[0]?, ts[0]? with
    | some x, some t => match P.underlying t, ρ x with | some (.slice _), .slice _ n _ => some (.int .i64 n) | _, _ => none
    | _, _ => none
  | _ => none

def toOper (o : TOper) : Oper := ⟨o.dst, o.op, o.type, "", #[], none⟩

def plainly : Op → Bool
  | .binOp .. | .unOp .. | .convert .. | .index .. | .slice .. | .field .. => true
  | .call ⟨.builtin b, _, _⟩ => match b with | .len | .min | .max | .real | .imag | .complex => true | _ => false
  | _ => false

/-- Operations on plain values. -/
def plainOp (P : Program) (o : TOper) (ρ : Operand → Value) : Option Value :=
  cond (plainly o.op && o.op.operands.toList.all fun x => plain (ρ x))
    (match pv P (execOp ρ (toOper o)) with
     | some (.value v) => cond (plain v) (some v) none
     | _ => none)
    none

/-! ### The plainest operations, at once -/
def kindNo : IntKind → Nat
  | .i8 => 0 | .i16 => 1 | .i32 => 2 | .i64 => 3 | .u8 => 4 | .u16 => 5 | .u32 => 6 | .u64 => 7
def sIn (H : Nat) (k : IntKind) : Int → Int
  | .ofNat a => cond (Nat.blt a H) (.ofNat a) (k.wrap (.ofNat a))
  | .negSucc a => cond (Nat.blt a H) (.negSucc a) (k.wrap (.negSucc a))
def uIn (M : Nat) (k : IntKind) : Int → Int
  | .ofNat a => cond (Nat.blt a M) (.ofNat a) (k.wrap (.ofNat a))
  | .negSucc a => k.wrap (.negSucc a)
/-- 'wrap', with the numbers that need none told first. -/
def fwrap (k : IntKind) (n : Int) : Int :=
  match k with
  | .i8 => sIn 128 k n | .i16 => sIn 32768 k n | .i32 => sIn 2147483648 k n | .i64 => sIn 9223372036854775808 k n
  | .u8 => uIn 256 k n | .u16 => uIn 65536 k n | .u32 => uIn 4294967296 k n | .u64 => uIn 18446744073709551616 k n
def fastInt (op : BinOp) (k : IntKind) (a b : Int) : Option Value :=
  match op with
  | .add => some (.int k (fwrap k (a + b)))
  | .sub => some (.int k (fwrap k (a - b)))
  | .mul => some (.int k (fwrap k (a * b)))
  | .eql => some (.bool (a == b))
  | .neq => some (.bool (a != b))
  | .lss => some (.bool (decide (a < b)))
  | .leq => some (.bool (decide (a ≤ b)))
  | .gtr => some (.bool (decide (a > b)))
  | .geq => some (.bool (decide (a ≥ b)))
  | .quo => cond (b == 0) none (some (.int k (fwrap k (a.tdiv b))))
  | .rem => cond (b == 0) none (some (.int k (a.tmod b)))
  | _ => none
def isShift : BinOp → Bool
  | .shl | .shr => true
  | _ => false
/-- What a comparison with a NaN says. -/
def nanOut : BinOp → Option Value
  | .eql | .lss | .leq | .gtr | .geq => some (.bool false)
  | .neq => some (.bool true)
  | _ => none
def fastBin (op : BinOp) (x y : Value) : Option Value :=
  match x with
  | .float k a => match y with
    | .float k' b => cond (fKindEq k k' && (nanB k a || nanB k b)) (nanOut op) none
    | _ => none
  | .int k a => match y with
    | .int k' b => cond (Nat.beq (kindNo k) (kindNo k')) (fastInt op k a b) none
    | _ => none
  | _ => none
def fastOp (o : Op) (ρ : Operand → Value) : Option Value :=
  match o with
  | .move x => some (ρ x)
  | .assign x => some (ρ x)
  | .pick c a b => match ρ c with | .bool t => some (cond t (ρ a) (ρ b)) | _ => none
  | .extract t i => match ρ t with | .tuple vs => vs.toList[i]? | _ => none
  | .binOp op _ x y _ => fastBin op (ρ x) (ρ y)
  | .unOp op _ x => match op with | .not => (match ρ x with | .bool b => some (.bool !b) | _ => none) | _ => none
  | _ => none

def orElse' {α : Type} : Option α → (Unit → Option α) → Option α
  | some a, _ => some a
  | none, f => f ()

def heapOp (P : Program) (call : Value → Array Value → TH → Option (Value × TH)) (o : TOper) (ρ : Operand → Value) (h : TH) : Option (Value × TH) :=
  match o.op with
  | .alloc t => (zeroOf P t).map fun cs => allocV h t cs
  | .box t x => some (allocV h t (ρ x).cells.toList)
  | .buildSlice t n ps => buildSliceT P t n (ps.toList.map fun (i, x) => (i, ρ x)) h
  | .load t x => (loadT P t (ρ x) h).map fun v => (v, h)
  | .slice t x lo hi mx => (sliceT P t (ρ x) (lo.map ρ) (hi.map ρ) (mx.map ρ) h).map fun v => (v, h)
  | .store t x v => (storeT P t (ρ x) (ρ v) h).map fun h' => (undef, h')
  | .makeSlice t l c => makeSliceT P t (ρ l) (ρ c) h
  | .convert s d x => convertT P s d (ρ x) h
  | .call ⟨.builtin .append, args, ts⟩ => appendT P ts (args.map ρ) h
  | .call ⟨.builtin .copy, args, ts⟩ => copyT P ts (args.map ρ) h
  | .call ⟨.builtin .cap, args, ts⟩ => (capT P ts (args.map ρ) h).map fun v => (v, h)
  | .call ⟨.builtin .clear, args, ts⟩ => clearT P ts (args.map ρ) h
  | .call ⟨.builtin .unsafeSliceData, args, _⟩ => (sliceDataT (args.map ρ)).map fun v => (v, h)
  | .call ⟨.builtin .unsafeString, args, ts⟩ => unsafeStringT P ts (args.map ρ) h
  | .range t x => rangeT P t (ρ x) h
  | .next x b => nextT (ρ x) b h
  | .call ⟨.value f, args, _⟩ => call (ρ f) (args.map ρ) h
  | _ => none

def heapFirst : Op → Bool
  | .load _ _ | .store _ _ _ | .alloc _ | .box _ _ | .makeSlice _ _ _ | .buildSlice _ _ _ | .range _ _ | .next _ _ => true
  | .call c => match c.callee with | .value _ => true | _ => false
  | _ => false

def stepOp (P : Program) (call : Value → Array Value → TH → Option (Value × TH)) (o : TOper) (ρ : Operand → Value) (h : TH) : Option (Value × TH) :=
  cond (heapFirst o.op) (heapOp P call o ρ h) <|
  match fastOp o.op ρ with
  | some v => some (v, h)
  | none =>
  match valueOp P o ρ with
  | some v => some (v, h)
  | none =>
    match plainOp P o ρ with
    | some v => some (v, h)
    | none => heapOp P call o ρ h

def wantT (g : Option (Tmp × Bool)) (a : Regs) : Bool :=
  match g with
  | none => true
  | some (t, want) => match a.at_ t with | .bool b => cond want b (!b) | _ => false

def blockOf : Value → Option Nat
  | .pointer (some a) => some a.block
  | .slice (some a) _ _ => some a.block
  | _ => none

/-- The blocks that an operation may not turn. -/
def lockOf (ls : List Operand) (ρ : Operand → Value) (l : List Nat) : List Nat :=
  match ls with
  | [] => l
  | x :: r => match blockOf (ρ x) with | some b => b :: lockOf r ρ l | none => lockOf r ρ l

def evOps (stp : TOper → (Operand → Value) → TH → Option (Value × TH)) : List TOper → Regs → TH → Option (Regs × TH)
  | [], a, h => some (a, h)
  | o :: rest, a, h =>
    cond (wantT o.gt a)
      (match o.locks with
       | [] => (match stp o a.eval h with
         | some (v, h') => evOps stp rest (a.put o.dst v) h'
         | none => none)
       | _ :: _ => (match stp o a.eval (h.withLock (lockOf o.locks a.eval h.lock)) with
         | some (v, h') => evOps stp rest (a.put o.dst v) (h'.withLock h.lock)
         | none => none))
      (evOps stp rest (a.put o.dst undef) h)

end Go.Tidy

/- The quick wrap is the model's. -/
namespace Go.Tidy
open Go
theorem sIn_eq {H : Nat} {k : IntKind} {n : Int} (h : ∀ m : Int, -(H : Int) ≤ m → m < H → k.wrap m = m) : sIn H k n = k.wrap n := by
  cases n with
  | ofNat a =>
    simp only [sIn]
    cases hb : Nat.blt a H with
    | false => rfl
    | true =>
      have hb' : a < H := by simpa using hb
      exact (h (.ofNat a) (by simp <;> omega) (by simp <;> omega)).symm
  | negSucc a =>
    simp only [sIn]
    cases hb : Nat.blt a H with
    | false => rfl
    | true =>
      have hb' : a < H := by simpa using hb
      exact (h (.negSucc a) (by simp [Int.negSucc_eq]; omega) (by simp [Int.negSucc_eq]; omega)).symm
theorem uIn_eq {M : Nat} {k : IntKind} {n : Int} (h : ∀ m : Int, 0 ≤ m → m < M → k.wrap m = m) : uIn M k n = k.wrap n := by
  cases n with
  | ofNat a =>
    simp only [uIn]
    cases hb : Nat.blt a M with
    | false => rfl
    | true =>
      have hb' : a < M := by simpa using hb
      exact (h (.ofNat a) (by simp <;> omega) (by simp <;> omega)).symm
  | negSucc a => rfl
theorem fwrap_eq (k : IntKind) (n : Int) : fwrap k n = k.wrap n := by
  cases k <;> simp only [fwrap]
  · exact sIn_eq fun m h1 h2 => IntWalk.i8_in m (by omega)
  · exact sIn_eq fun m h1 h2 => IntWalk.i16_in m (by omega)
  · exact sIn_eq fun m h1 h2 => IntWalk.i32_in m (by omega)
  · exact sIn_eq fun m h1 h2 => IntWalk.i64_in m (by omega)
  · exact uIn_eq fun m h1 h2 => IntWalk.u8_in m (by omega)
  · exact uIn_eq fun m h1 h2 => IntWalk.u16_in m (by omega)
  · exact uIn_eq fun m h1 h2 => IntWalk.u32_in m (by omega)
  · exact uIn_eq fun m h1 h2 => IntWalk.u64_in m (by omega)
end Go.Tidy

/- The model's code, made ready for the plain interpreter. -/
namespace Go.Tidy
open Go

/-- The temporary and the value that an operation's guard asks for; 'none': no such temporary. -/
def gtOf (ops : Array Oper) (o : Oper) : Option (Option (Tmp × Bool)) :=
  match o.guard with
  | none => some none
  | some (g, want) => ((ops[g]?).bind (·.dst)).map fun t => some (t, want)

def opOk : Op → Bool
  | .select _ _ | .defer _ | .go _ => false
  | _ => true

def readsOf (o : Oper) (gt : Option (Tmp × Bool)) : List Tmp :=
  (o.op.operands.toList.filterMap fun | .tmp t => some t | _ => none) ++ (match gt with | some (t, _) => [t] | none => [])

def direct (o : Oper) : List Nat := (o.after.toList.filter (Region.binds .any ·)).map (·.on)

/-- For each operation those that come before it, directly or not, by a first guess. -/
def reach : List Oper → List (List Nat) → List (List Nat)
  | [], acc => acc.reverse
  | o :: r, acc => reach r (((direct o).foldl (fun l j => (j :: (acc.reverse.getD j [])).foldl (fun l k => cond (l.contains k) l (k :: l)) l) []) :: acc)

/-- What the guess must meet: each number comes before by an edge, or before one that does. -/
def covered (S : List (List Nat)) : Nat → List Oper → Bool
  | _, [] => true
  | i, o :: r => (S.getD i []).all (fun j => (direct o).any fun k => Nat.blt k i && (Nat.beq k j || (S.getD k []).contains j)) && covered S (i + 1) r

/-- Temporaries: one writer each; whoever reads one comes behind its writer. -/
def dstsOk : List (Option Tmp) → Bool
  | [] => true
  | none :: r => dstsOk r
  | some t :: r => !r.contains (some t) && dstsOk r

/-- What an operation has to do with memory: nothing; it reads the blocks of these operands, and may lay a new one ('true': its result's block is new); or whatever. -/
inductive Kind where
  | pure
  | reads (xs : List Operand) (new : Bool)
  | any
  deriving Inhabited

def kindOf : Op → Kind
  | .move _ | .assign _ | .pick .. | .extract .. | .field .. | .index .. | .build .. | .makeInterface .. | .makeFunc .. | .nilCheck _ | .fieldAddr .. | .indexAddr .. | .sliceToArrayPointer ..
  | .binOp .. | .unOp .. => .pure
  | .call ⟨.builtin b, _, _⟩ => match b with | .len | .min | .max | .real | .imag | .complex => .pure | _ => .any
  | .alloc _ | .box .. | .buildSlice .. | .makeSlice .. => .reads [] true
  | .load _ x | .slice _ x _ _ _ => .reads [x] false
  | .convert s d x => cond (Nat.beq s d) .any (.reads [x] true)
  | _ => .any

def isAny (o : Oper) : Bool := match kindOf o.op with | .any => true | _ => false

/-- Read by operation i, written by another one: the writer comes before it, or behind it. -/
def readOk (S : List (List Nat)) (dsts : List (Option Tmp)) (i : Nat) (t : Tmp) : Bool :=
  (List.range dsts.length).all fun j => Nat.beq j i || dsts.getD j none != some t || (S.getD i []).contains j || (S.getD j []).contains i

/-- The writer of a temporary, if it is one of these operations, comes before i. -/
def readBefore (S : List (List Nat)) (dsts : List (Option Tmp)) (i : Nat) : Operand → Bool
  | .tmp t => (List.range dsts.length).all fun j => dsts.getD j none != some t || (S.getD i []).contains j
  | _ => true

/-- An order of the operations: all that may come come, those that may do whatever last. -/
def order (ops : List Oper) (S : List (List Nat)) : Nat → List Nat → List Nat
  | 0, acc => acc.reverse
  | n + 1, acc =>
    let may := (List.range ops.length).filter fun i => !acc.contains i && (S.getD i []).all acc.contains
    match may.find? (fun i => !isAny (ops.getD i default)) with
    | some i => order ops S n (i :: acc)
    | none => match may with
      | i :: _ => order ops S n (i :: acc)
      | [] => acc.reverse

/-- The operands whose blocks operation q may not turn: of each that comes ahead of it in this order, and need not. -/
def locksOf (ops : List Oper) (S : List (List Nat)) (q : Nat) : List Nat → List Operand
  | [] => []
  | i :: r =>
    let o := ops.getD i default
    cond ((S.getD q []).contains i) (locksOf ops S q r)
      (match kindOf o.op with
       | .reads xs new => (cond new (match o.dst with | some d => [.tmp d] | none => []) []) ++ (xs ++ locksOf ops S q r)
       | _ => locksOf ops S q r)

def mkOps (opa : Array Oper) (ops : List Oper) (S : List (List Nat)) (draw : Bool) : List Nat → List Nat → Option (List TOper)
  | _, [] => some []
  | before, i :: r =>
    let o := ops.getD i default
    (gtOf opa o).bind fun gt => cond (opOk o.op)
      ((mkOps opa ops S draw (i :: before) r).map fun l => ⟨o.dst, o.op, o.type, gt, cond (draw && isAny o) (locksOf ops S i before) [], i⟩ :: l) none

/-- In this order: whatever is ahead of an operation that may do anything, or behind it, and of that kind, too, or reads: ordered as is needed. -/
def orderOk (ops : List Oper) (S : List (List Nat)) (dsts : List (Option Tmp)) : List Nat → List Nat → Bool
  | _, [] => true
  | before, i :: r =>
    let o := ops.getD i default
    (S.getD i []).all before.contains && (!before.contains i && Nat.blt i ops.length) &&
    (match kindOf o.op with
     | .pure => true
     | .reads xs _ => (before.all fun j => !isAny (ops.getD j default) || (S.getD i []).contains j) && xs.all (readBefore S dsts i)
     | .any => before.all fun j => !isAny (ops.getD j default) || (S.getD i []).contains j) &&
    orderOk ops S dsts (i :: before) r

/-- Edges lead back in the text. -/
def edgesOk : Nat → List Oper → Bool
  | _, [] => true
  | i, o :: r => (direct o).all (Nat.blt · i) && edgesOk (i + 1) r

/-- A new block has a name. -/
def namedOk (o : Oper) : Bool :=
  match kindOf o.op with
  | .reads _ true => o.dst.isSome
  | _ => true

def readsOk (opa : Array Oper) (S : List (List Nat)) (dsts : List (Option Tmp)) (ops : List Oper) : Bool :=
  ops.zipIdx.all fun (o, i) => match gtOf opa o with
    | some gt => (readsOf o gt).all (readOk S dsts i)
    | none => false

def regOk (opa : Array Oper) (ops : List Oper) (S : List (List Nat)) (dsts : List (Option Tmp)) (ord : List Nat) : Bool :=
  (List.range ops.length).all ord.contains && (covered S 0 ops && (dstsOk dsts && (orderOk ops S dsts [] ord && (readsOk opa S dsts ops && (edgesOk 0 ops && ops.all namedOk)))))

def regOps (opa : Array Oper) (draw : Bool) : Option (List TOper) :=
  let ops := opa.toList
  cond draw
    (let S := reach ops []
     let ord := order ops S ops.length []
     cond (regOk opa ops S (ops.map (·.dst)) ord) (mkOps opa ops S true [] ord) none)
    (mkOps opa ops [] false [] (List.range ops.length))

def compile : Code → Option TCode
  | .skip => some .skip
  | .region _ ops draw => (regOps ops draw).map .reg
  | .seq a b => (compile a).bind fun x => (compile b).map fun y => .seq x y
  | .cond c a b => (compile a).bind fun x => (compile b).map fun y => .cond c x y
  | .block id b => (compile b).map (.block id)
  | .loop b => (compile b).map .loop
  | .rangeFunc f ps a b => (compile a).bind fun x => (compile b).map fun y => .rangeFunc f ps x y
  | .exit id => some (.exit id)
  | .scope b => compile b
  | .label _ => some .skip
  | .ret => some .ret
  | .goto _ => none
  | .refuse _ => some .bad

end Go.Tidy

/- The plain interpreter's states and the model's: when the one stands for the other. -/
namespace Go.Tidy
open Go

/-- Where a block of the plain heap lies: the block, the first cell, and, if its room is not known, the size of an element and the number of all cells. -/
structure Ent where
  blk : Nat
  d : Nat
  grow : Option (Nat × Nat)

abbrev Emb := Nat → Option Ent

def FRel (k : FloatKind) (b b' : Nat) : Prop := b = b' ∨ (nanB k b = true ∧ nanB k b' = true)

def CapRel (e : Ent) (off c c' : Nat) : Prop :=
  match e.grow with
  | none => c' = c
  | some (sz, R) => c ≤ c' ∧ e.d + off + c' * sz ≤ R

inductive VRel (β : Emb) : Value → Value → Prop
  | bool (b : Bool) : VRel β (.bool b) (.bool b)
  | int (k : IntKind) (n : Int) : VRel β (.int k n) (.int k n)
  | float (k : FloatKind) (b b' : Nat) (h : FRel k b b') : VRel β (.float k b) (.float k b')
  | complex (k : FloatKind) (a b a' b' : Nat) (h : FRel k a a') (h' : FRel k b b') : VRel β (.complex k a b) (.complex k a' b')
  | string (s : ByteArray) : VRel β (.string s) (.string s)
  | nilPtr : VRel β (.pointer none) (.pointer none)
  | ptr (b off : Nat) (e : Ent) (h : β b = some e) : VRel β (.pointer (some ⟨b, off, none⟩)) (.pointer (some ⟨e.blk, e.d + off, none⟩))
  | nilSlice (l c : Nat) : VRel β (.slice none l c) (.slice none l c)
  | slice (b off : Nat) (e : Ent) (l c c' : Nat) (h : β b = some e) (hc : CapRel e off c c') :
      VRel β (.slice (some ⟨b, off, none⟩) l c) (.slice (some ⟨e.blk, e.d + off, none⟩) l c')
  | emptySlice (a a' : Addr) : VRel β (.slice (some a) 0 0) (.slice (some a') 0 0)
  | nilMap : VRel β (.map none) (.map none)
  | nilChan : VRel β (.chan none) (.chan none)
  | func (f : FuncId) (first first' captured captured' : Array Value) (h1 : first.size = first'.size)
      (h2 : ∀ (i : Nat) (v v' : Value), first.toList[i]? = some v → first'.toList[i]? = some v' → VRel β v v')
      (h3 : captured.size = captured'.size)
      (h4 : ∀ (i : Nat) (v v' : Value), captured.toList[i]? = some v → captured'.toList[i]? = some v' → VRel β v v') :
      VRel β (.func (.func f) first captured) (.func (.func f) first' captured')
  | yield (l : Nat) (e : Ent) (h : β l = some e) : VRel β (.func (.yield l) #[] #[]) (.func (.yield e.blk) #[] #[])
  | nilFunc : VRel β .nilFunc .nilFunc
  | nilIface : VRel β .nilIface .nilIface
  | iface (t : TypeId) (v v' : Value) (h : VRel β v v') : VRel β (.iface t v) (.iface t v')
  | agg (cs cs' : Array Value) (h1 : cs.size = cs'.size)
      (h2 : ∀ (i : Nat) (v v' : Value), cs.toList[i]? = some v → cs'.toList[i]? = some v' → VRel β v v') : VRel β (.agg cs) (.agg cs')
  | tuple (cs cs' : Array Value) (h1 : cs.size = cs'.size)
      (h2 : ∀ (i : Nat) (v v' : Value), cs.toList[i]? = some v → cs'.toList[i]? = some v' → VRel β v v') : VRel β (.tuple cs) (.tuple cs')

def Ext (β β' : Emb) : Prop := ∀ b e, β b = some e → β' b = some e
theorem Ext.refl (β : Emb) : Ext β β := fun _ _ h => h
theorem Ext.trans {a b c : Emb} (h : Ext a b) (k : Ext b c) : Ext a c := fun x e hx => k x e (h x e hx)

theorem VRel.mono {β β' : Emb} (hx : Ext β β') {v v' : Value} (h : VRel β v v') : VRel β' v v' := by
  induction h with
  | bool b => exact .bool b
  | int k n => exact .int k n
  | float k b b' h => exact .float k b b' h
  | complex k a b a' b' h h' => exact .complex k a b a' b' h h'
  | string s => exact .string s
  | nilPtr => exact .nilPtr
  | ptr b off e h => exact .ptr b off e (hx _ _ h)
  | nilSlice l c => exact .nilSlice l c
  | slice b off e l c c' h hc => exact .slice b off e l c c' (hx _ _ h) hc
  | emptySlice a a' => exact .emptySlice a a'
  | nilMap => exact .nilMap
  | nilChan => exact .nilChan
  | func f a a' c c' h1 _ h3 _ ih2 ih4 => exact .func f a a' c c' h1 ih2 h3 ih4
  | yield l e h => exact .yield l e (hx _ _ h)
  | nilFunc => exact .nilFunc
  | nilIface => exact .nilIface
  | iface t v v' _ ih => exact .iface t v v' ih
  | agg cs cs' h1 _ ih => exact .agg cs cs' h1 ih
  | tuple cs cs' h1 _ ih => exact .tuple cs cs' h1 ih

/-- Lists, element by element. -/
def LRel (β : Emb) (l l' : List Value) : Prop := l.length = l'.length ∧ ∀ (i : Nat) (v v' : Value), l[i]? = some v → l'[i]? = some v' → VRel β v v'

theorem LRel.mono {β β' : Emb} (hx : Ext β β') {l l' : List Value} (h : LRel β l l') : LRel β' l l' := ⟨h.1, fun i v v' a b => (h.2 i v v' a b).mono hx⟩
theorem LRel.nil {β : Emb} : LRel β [] [] := ⟨rfl, fun i v v' h => by simp at h⟩
theorem LRel.cons {β : Emb} {v v' : Value} {l l' : List Value} (h : VRel β v v') (k : LRel β l l') : LRel β (v :: l) (v' :: l') := by
  refine ⟨by simp [k.1], fun i u u' hu hu' => ?_⟩
  cases i with
  | zero => simp at hu hu'; subst hu hu'; exact h
  | succ i => simp at hu hu'; exact k.2 i u u' hu hu'
theorem LRel.uncons {β : Emb} {v : Value} {l l' : List Value} (h : LRel β (v :: l) l') : ∃ v' r, l' = v' :: r ∧ VRel β v v' ∧ LRel β l r := by
  obtain ⟨h1, h2⟩ := h
  cases l' with
  | nil => simp at h1
  | cons v' r =>
    refine ⟨v', r, rfl, h2 0 v v' rfl rfl, by simpa using h1, fun i u u' hu hu' => h2 (i + 1) u u' (by simpa using hu) (by simpa using hu')⟩
theorem LRel.of_nil {β : Emb} {l' : List Value} (h : LRel β [] l') : l' = [] := List.eq_nil_of_length_eq_zero h.1.symm
theorem LRel.append {β : Emb} {a a' b b' : List Value} (h : LRel β a a') (k : LRel β b b') : LRel β (a ++ b) (a' ++ b') := by
  refine ⟨by simp [h.1, k.1], fun i v v' hv hv' => ?_⟩
  by_cases hi : i < a.length
  · rw [List.getElem?_append_left hi] at hv
    rw [List.getElem?_append_left (by rw [← h.1]; exact hi)] at hv'
    exact h.2 i v v' hv hv'
  · rw [List.getElem?_append_right (by omega)] at hv
    rw [List.getElem?_append_right (by have := h.1; omega), ← h.1] at hv'
    exact k.2 _ v v' hv hv'
theorem LRel.get {β : Emb} {l l' : List Value} (h : LRel β l l') {i : Nat} {v : Value} (hv : l[i]? = some v) : ∃ v', l'[i]? = some v' ∧ VRel β v v' := by
  have hi : i < l'.length := by rw [← h.1]; exact (List.getElem?_eq_some_iff.1 hv).1
  exact ⟨l'[i], by simp [List.getElem?_eq_getElem hi], h.2 i v _ hv (by simp [List.getElem?_eq_getElem hi])⟩
theorem LRel.of_get {β : Emb} {l l' : List Value} (hl : l.length = l'.length) (h : ∀ (i : Nat) (v : Value), l[i]? = some v → ∃ v', l'[i]? = some v' ∧ VRel β v v') : LRel β l l' :=
  ⟨hl, fun i v v' hv hv' => by obtain ⟨u, hu, hr⟩ := h i v hv; rw [hu] at hv'; cases hv'; exact hr⟩
theorem LRel.drop {β : Emb} {l l' : List Value} (h : LRel β l l') (n : Nat) : LRel β (l.drop n) (l'.drop n) := by
  refine ⟨by simp [h.1], fun i v v' hv hv' => ?_⟩
  simp only [List.getElem?_drop] at hv hv'
  exact h.2 _ v v' hv hv'
theorem LRel.take {β : Emb} {l l' : List Value} (h : LRel β l l') (n : Nat) : LRel β (l.take n) (l'.take n) := by
  refine ⟨by simp [h.1], fun i v v' hv hv' => ?_⟩
  simp only [List.getElem?_take] at hv hv'
  split at hv
  · rename_i hlt; simp only [hlt, if_true] at hv'; exact h.2 _ v v' hv hv'
  · cases hv

theorem VRel.undef {β : Emb} : VRel β undef undef := .tuple #[] #[] rfl (fun i v v' h => by simp at h)

/-! ### Plain values are the same in both -/
theorem plain0_eq {β : Emb} {v v' : Value} (hp : plain0 v = true) (h : VRel β v v') : v' = v := by
  cases h <;> simp only [plain0, Bool.false_eq_true, Bool.and_eq_true, Bool.not_eq_true'] at hp <;> try rfl
  case float k b b' h => rcases h with h | h; exact (by rw [h]); simp [h.1] at hp
  case complex k a b a' b' h h' =>
    rcases h with h | h
    · rcases h' with h' | h'
      · rw [h, h']
      · simp [h'.1] at hp
    · simp [h.1] at hp

theorem list_eq {β : Emb} {l l' : List Value} {p : Value → Bool} (hp : l.all p = true) (hl : l.length = l'.length)
    (h : ∀ (i : Nat) (v v' : Value), l[i]? = some v → l'[i]? = some v' → VRel β v v') (hq : ∀ v v', p v = true → VRel β v v' → v' = v) : l' = l := by
  apply List.ext_getElem (by rw [hl])
  intro i h1 h2
  have hi : p l[i] = true := List.all_eq_true.1 hp _ (List.getElem_mem h2)
  exact hq _ _ hi (h i _ _ (List.getElem?_eq_getElem h2) (List.getElem?_eq_getElem h1))

theorem plain1_eq {β : Emb} {v v' : Value} (hp : plain1 v = true) (h : VRel β v v') : v' = v := by
  cases h
  case agg cs cs' h1 h2 =>
    have : cs'.toList = cs.toList := list_eq (β := β) (p := plain0) hp (by simpa using h1) h2 (fun _ _ a b => plain0_eq a b)
    rw [Array.toList_inj.1 this]
  case iface t v v' h => simp only [plain1] at hp; rw [plain0_eq hp h]
  all_goals first
    | rfl
    | (exact plain0_eq (β := β) (by simpa only [plain1] using hp) (by first | assumption | constructor <;> assumption))

theorem plain_eq {β : Emb} {v v' : Value} (hp : plain v = true) (h : VRel β v v') : v' = v := by
  cases h
  case tuple cs cs' h1 h2 =>
    have : cs'.toList = cs.toList := list_eq (β := β) (p := plain1) hp (by simpa using h1) h2 (fun _ _ a b => plain1_eq a b)
    rw [Array.toList_inj.1 this]
  all_goals first
    | rfl
    | (exact plain1_eq (β := β) (by simpa only [plain] using hp) (by first | assumption | constructor <;> assumption))

theorem plain0_refl {β : Emb} {v : Value} (hp : plain0 v = true) : VRel β v v := by
  cases v with
  | pointer a => cases a with
    | none => exact .nilPtr
    | some a => simp [plain0] at hp
  | slice a l c => cases a with
    | none => exact .nilSlice _ _
    | some a => simp [plain0] at hp
  | map r => cases r with
    | none => exact .nilMap
    | some a => simp [plain0] at hp
  | bool b => exact .bool b
  | int k n => exact .int k n
  | float k b => exact .float k b b (.inl rfl)
  | complex k a b => exact .complex k a b a b (.inl rfl) (.inl rfl)
  | string s => exact .string s
  | nilFunc => exact .nilFunc
  | nilIface => exact .nilIface
  | chan r => cases r with
    | none => exact .nilChan
    | some a => simp [plain0] at hp
  | func a b c => simp [plain0] at hp
  | iface t v => simp [plain0] at hp
  | agg cs => simp [plain0] at hp
  | tuple cs => simp [plain0] at hp

theorem all_refl {β : Emb} {l : List Value} {p : Value → Bool} (hp : l.all p = true) (hq : ∀ v, p v = true → VRel β v v) :
    ∀ (i : Nat) (v v' : Value), l[i]? = some v → l[i]? = some v' → VRel β v v' := fun i v v' h h' => by
  rw [h] at h'; cases h'
  exact hq v (List.all_eq_true.1 hp v (List.mem_of_getElem? h))

theorem plain1_refl {β : Emb} {v : Value} (hp : plain1 v = true) : VRel β v v := by
  cases v
  case agg cs => exact .agg cs cs rfl (all_refl (p := plain0) hp fun _ => plain0_refl)
  case iface t v => exact .iface t v v (plain0_refl hp)
  all_goals exact plain0_refl hp

theorem plain_refl {β : Emb} {v : Value} (hp : plain v = true) : VRel β v v := by
  cases v
  case tuple cs => exact .tuple cs cs rfl (all_refl (p := plain1) hp fun _ => plain1_refl)
  all_goals exact plain1_refl hp

theorem oneCell_rel {β : Emb} {v v' : Value} (h : VRel β v v') : oneCell v' = oneCell v := by cases h <;> rfl
theorem oneCell_eq (v : Value) : v.oneCell' = oneCell v := by cases v <;> rfl

theorem cells_rel {β : Emb} {v v' : Value} (h : VRel β v v') : LRel β v.cells.toList v'.cells.toList := by
  cases h
  case agg cs cs' h1 h2 => exact ⟨by simpa [Value.cells] using h1, h2⟩
  all_goals exact LRel.cons (by first | assumption | constructor <;> assumption) LRel.nil

/-! ### Heaps -/
def upd (β : Emb) (b : Nat) (e : Ent) : Emb := fun x => if x = b then some e else β x
theorem upd_same (β : Emb) (b : Nat) (e : Ent) : upd β b e b = some e := by simp [upd]
theorem upd_other (β : Emb) {b x : Nat} (e : Ent) (h : x ≠ b) : upd β b e x = β x := by simp [upd, h]
theorem Ext.upd {β : Emb} {b : Nat} (e : Ent) (h : β b = none) : Ext β (upd β b e) := fun x f hx => by
  rw [upd_other]; exact hx
  intro e; subst e; rw [h] at hx; cases hx

def unfrozen (fz : Nat × Nat) (from_ to : Nat) : Prop := ∀ i, from_ ≤ i → i < to → ¬ (fz.1 ≤ i ∧ i < fz.2)


/-- The program, and when a piece of code is made ready (for activations of so many temporaries). -/
structure Env where
  P : Program
  C : Nat → Code → TCode → Prop
  G : List Nat
  B : Nat → Option TB

/-- The globals in G stand where the model has them. -/
def GRel (G : List Nat) (β : Emb) : Prop := ∀ g, g ∈ G → ∃ e, β g = some e ∧ e.blk = g ∧ e.d = 0
theorem GRel.mono {G : List Nat} {β β' : Emb} (hx : Ext β β') (h : GRel G β) : GRel G β' := fun g hg => by
  obtain ⟨e, h1, h2⟩ := h g hg
  exact ⟨e, hx _ _ h1, h2⟩

variable (C : Env)

/-- The temporaries of an activation: of at least n. -/
def ARel (β : Emb) (n : Nat) (a : Regs) (l : Array Value) : Prop := n ≤ l.size ∧ ∀ t, VRel β (a.at_ t) (l.getD t undef)

/-- What a block of the plain heap says of the model's heap. -/
def HBlk (β : Emb) (w : World) (e : Ent) : TB → Prop
  | .cells c fix wr el => ∃ cr fz, w.heap[e.blk]? = some (.cells cr el fz) ∧ (if fix then e.grow = none ∧ e.d = 0 else e.grow = some (C.P.cellsOf el, cr.size)) ∧ e.d + c.length ≤ cr.size ∧
      (∀ (i : Nat) (v : Value), c[i]? = some v → ∃ v', cr.toList[e.d + i]? = some v' ∧ VRel β v v') ∧
      (wr = true → fz.1 = fz.2 ∨ cr.size ≤ fz.1)
  | .dead => True
  | .iter s pos => w.heap[e.blk]? = some (.stringIter s pos) ∧ e.d = 0
  | .loop tmps ps ta tb st pe => ∃ fn tmps' D n ca cb, w.heap[e.blk]? = some (.loop { state := st, pending := pe, fn, tmps := tmps', params := ps, assign := ca, body := cb, defers := D }) ∧
      ARel β n tmps tmps' ∧ (∀ t, t ∈ ps → t < n) ∧ C.C n ca ta ∧ C.C n cb tb

/-- A heap, as contents by number. -/
abbrev HG := Nat → Option TB

def HRel (β : Emb) (g : HG) (w : World) : Prop := ∀ b x e, g b = some x → β b = some e → HBlk C β w e x

def alive (g : HG) (b : Nat) : Prop := ∃ x, g b = some x ∧ x ≠ .dead

def Inj (β : Emb) (g : HG) : Prop := ∀ b b' e e', alive g b → alive g b' → β b = some e → β b' = some e' → e.blk = e'.blk → b = b'

/-- What a piece of work does: the plain heap from g to g', the model's world from w to w'; f: below it nothing is written. -/
structure Step (f : Nat) (β : Emb) (g : HG) (w : World) (β' : Emb) (g' : HG) (w' : World) : Prop where
  ext : Ext β β'
  born : ∀ b e, β' b = some e → β b = some e ∨ (β b = none ∧ g b = none ∧ ∃ x, g' b = some x)
  stay : ∀ b x, g b = some x → ∃ x', g' b = some x'
  dead : ∀ b x, g b = some x → alive g' b → alive g b
  rel : HRel C β' g' w'
  inj : Inj β' g'
  os : w'.os = w.os
  tape : w'.tape = w.tape
  output : w'.output = w.output
  size : w.heap.size ≤ w'.heap.size
  keep : ∀ r, r < w.heap.size → (∀ b e, f ≤ b → alive g b → β b = some e → e.blk ≠ r) → w'.heap[r]? = w.heap[r]?
  fresh : ∀ b e, g b = none → alive g' b → β' b = some e → w.heap.size ≤ e.blk ∨ ∃ b0 e0, f ≤ b0 ∧ alive g b0 ∧ β b0 = some e0 ∧ e0.blk = e.blk

variable {C}
theorem ARel.mono {β β' : Emb} (hx : Ext β β') {n : Nat} {a : Regs} {l : Array Value} (h : ARel β n a l) : ARel β' n a l := ⟨h.1, fun t => (h.2 t).mono hx⟩

theorem Step.refl {f : Nat} {β : Emb} {g : HG} {w : World} (rel : HRel C β g w) (inj : Inj β g) : Step C f β g w β g w :=
  ⟨Ext.refl β, fun _ _ h => .inl h, fun _ x h => ⟨x, h⟩, fun _ _ _ h => h, rel, inj, rfl, rfl, rfl, Nat.le_refl _, fun _ _ _ => rfl, fun b e h ⟨x, hx, _⟩ _ => by rw [h] at hx; cases hx⟩

theorem Step.trans {f : Nat} {β β1 β2 : Emb} {g g1 g2 : HG} {w w1 w2 : World} (s : Step C f β g w β1 g1 w1) (t : Step C f β1 g1 w1 β2 g2 w2) : Step C f β g w β2 g2 w2 where
  ext := s.ext.trans t.ext
  born := fun b e h => by
    rcases t.born b e h with h1 | ⟨h1, h2, h3⟩
    · rcases s.born b e h1 with h4 | ⟨h4, h5, x, h6⟩
      · exact .inl h4
      · exact .inr ⟨h4, h5, t.stay b x h6⟩
    · cases hb : β b with
      | some e' => have := s.ext b e' hb; rw [h1] at this; cases this
      | none =>
        cases hg : g b with
        | some x => obtain ⟨x', hx'⟩ := s.stay b x hg; rw [h2] at hx'; cases hx'
        | none => exact .inr ⟨rfl, rfl, h3⟩
  stay := fun b x h => by obtain ⟨x', h'⟩ := s.stay b x h; exact t.stay b x' h'
  dead := fun b x h ha => by obtain ⟨x', h'⟩ := s.stay b x h; exact s.dead b x h (t.dead b x' h' ha)
  rel := t.rel
  inj := t.inj
  os := t.os.trans s.os
  tape := t.tape.trans s.tape
  output := t.output.trans s.output
  size := Nat.le_trans s.size t.size
  keep := fun r hr hb => by
    rw [t.keep r (by have := s.size; omega) ?_, s.keep r hr hb]
    intro b e hf ha he heq
    cases hg : g b with
    | some x =>
      rcases s.born b e he with h1 | ⟨_, h2, _⟩
      · exact hb b e hf (s.dead b x hg ha) h1 heq
      · rw [hg] at h2; cases h2
    | none =>
      rcases s.fresh b e hg ha he with hge | ⟨b0, e0, k1, k2, k3, k4⟩
      · omega
      · exact hb b0 e0 k1 k2 k3 (k4.trans heq)
  fresh := fun b e hg ha he => by
    cases hg1 : g1 b with
    | some x =>
      rcases t.born b e he with h1 | ⟨_, h2, _⟩
      · exact s.fresh b e hg (t.dead b x hg1 ha) h1
      · rw [hg1] at h2; cases h2
    | none =>
      rcases t.fresh b e hg1 ha he with hge | ⟨b0, e0, k1, k2, k3, k4⟩
      · exact .inl (by have := s.size; omega)
      · cases hg0 : g b0 with
        | some x =>
          rcases s.born b0 e0 k3 with h1 | ⟨_, h2, _⟩
          · exact .inr ⟨b0, e0, k1, s.dead b0 x hg0 k2, h1, k4⟩
          · rw [hg0] at h2; cases h2
        | none =>
          rcases s.fresh b0 e0 hg0 k2 k3 with hge | ⟨b1, e1, m1, m2, m3, m4⟩
          · exact .inl (by omega)
          · exact .inr ⟨b1, e1, m1, m2, m3, m4.trans k4⟩

theorem HBlk.mono {β β' : Emb} {w : World} {e : Ent} {x : TB} (hx : Ext β β') (h : HBlk C β w e x) : HBlk C β' w e x := by
  cases x with
  | dead => trivial
  | iter s pos => exact h
  | cells c fix wr el =>
    obtain ⟨cr, fz, h1, h2, h3, h4, h5⟩ := h
    exact ⟨cr, fz, h1, h2, h3, fun i v hv => let ⟨v', a, b⟩ := h4 i v hv; ⟨v', a, b.mono hx⟩, h5⟩
  | loop tmps ps ta tb st pe =>
    obtain ⟨fn, tmps', D, n, ca, cb, h1, h2, h3⟩ := h
    exact ⟨fn, tmps', D, n, ca, cb, h1, h2.mono hx, h3⟩

/-- The block stands in the world. -/
theorem HBlk.lt {β : Emb} {w : World} {e : Ent} {x : TB} (h : HBlk C β w e x) (hx : x ≠ .dead) : e.blk < w.heap.size := by
  cases x with
  | dead => exact absurd rfl hx
  | iter s pos => exact (Array.getElem?_eq_some_iff.1 h.1).1
  | cells c fix wr el => obtain ⟨cr, fz, h1, _⟩ := h; exact (Array.getElem?_eq_some_iff.1 h1).1
  | loop tmps ps ta tb st pe => obtain ⟨fn, tmps', D, n, ca, cb, h1, _⟩ := h; exact (Array.getElem?_eq_some_iff.1 h1).1

theorem HBlk.world {β : Emb} {w w' : World} {e : Ent} {x : TB} (hw : x ≠ .dead → w'.heap[e.blk]? = w.heap[e.blk]?) (h : HBlk C β w e x) : HBlk C β w' e x := by
  cases x with
  | dead => trivial
  | iter s pos => exact ⟨by rw [hw (by simp)]; exact h.1, h.2⟩
  | cells c fix wr el => obtain ⟨cr, fz, h1, h2⟩ := h; exact ⟨cr, fz, by rw [hw (by simp)]; exact h1, h2⟩
  | loop tmps ps ta tb st pe => obtain ⟨fn, tmps', D, n, ca, cb, h1, h2⟩ := h; exact ⟨fn, tmps', D, n, ca, cb, by rw [hw (by simp)]; exact h1, h2⟩

/-- A heap with one block more, or another one. -/
def HG.set (g : HG) (b : Nat) (x : TB) : HG := fun j => if j = b then some x else g j
theorem HG.set_same (g : HG) (b : Nat) (x : TB) : g.set b x b = some x := by simp [HG.set]
theorem HG.set_other (g : HG) {b j : Nat} (x : TB) (h : j ≠ b) : g.set b x j = g j := by simp [HG.set, h]

theorem TH.get_new (h : TH) (x : TB) : (h.new x).get = HG.set h.get h.next x := by
  funext j; exact Tr.get_set _ _ _ _

theorem TH.put_some {h h' : TH} {b : Nat} {x : TB} (hp : h.put b x = some h') :
    h.floor ≤ b ∧ b < h.next ∧ b ∉ h.lock ∧ h'.next = h.next ∧ h'.floor = h.floor ∧ h'.lock = h.lock ∧ h'.get = HG.set h.get b x := by
  unfold TH.put at hp
  cases hc : (Nat.ble h.floor b && (Nat.blt b h.next && h.lock.all fun l => !Nat.beq l b)) with
  | false => rw [hc] at hp; cases hp
  | true =>
    rw [hc] at hp
    simp only [cond, Option.some.injEq] at hp
    simp only [Bool.and_eq_true, Nat.ble_eq, Nat.blt_eq] at hc
    subst hp
    refine ⟨hc.1, hc.2.1, fun hm => ?_, rfl, rfl, rfl, ?_⟩
    · have := List.all_eq_true.1 hc.2.2 b hm
      simp at this
    · funext j; exact Tr.get_set _ _ _ _

/-- **A new block in both.** -/
theorem Step.new {f : Nat} {β : Emb} {g : HG} {w w' : World} {x : TB} {b : Nat} {e : Ent} (rel : HRel C β g w) (inj : Inj β g) (hg : g b = none) (hf : β b = none)
    (he : e.blk = w.heap.size) (hsz : w.heap.size ≤ w'.heap.size) (hold : ∀ k, k < w.heap.size → w'.heap[k]? = w.heap[k]?)
    (h1 : w'.os = w.os) (h2 : w'.tape = w.tape) (h3 : w'.output = w.output) (hx : HBlk C (upd β b e) w' e x) : Step C f β g w (upd β b e) (g.set b x) w' := by
  have hext : Ext β (upd β b e) := Ext.upd e hf
  have hlt : ∀ c y k, g c = some y → y ≠ .dead → β c = some k → k.blk < w.heap.size := fun c y k hc hy hk => (rel c y k hc hk).lt hy
  have hal : ∀ c, c ≠ b → alive (g.set b x) c → alive g c := fun c hc ⟨y, hy, hyd⟩ => by
    rw [HG.set_other _ _ hc] at hy; exact ⟨y, hy, hyd⟩
  refine ⟨hext, ?_, ?_, ?_, ?_, ?_, h1, h2, h3, hsz, fun r hr _ => hold r hr, ?_⟩
  · intro c k hk
    by_cases hc : c = b
    · subst hc; exact .inr ⟨hf, hg, x, HG.set_same _ _ _⟩
    · rw [upd_other _ _ hc] at hk; exact .inl hk
  · intro c y hy
    exact ⟨y, by rw [HG.set_other]; exact hy; intro hc; subst hc; rw [hg] at hy; cases hy⟩
  · intro c y hy ha
    exact hal c (by intro hc; subst hc; rw [hg] at hy; cases hy) ha
  · intro c y k hc hk
    by_cases hcb : c = b
    · subst hcb
      rw [HG.set_same] at hc; cases hc
      rw [upd_same] at hk; cases hk
      exact hx
    · rw [HG.set_other _ _ hcb] at hc
      rw [upd_other _ _ hcb] at hk
      exact ((rel c y k hc hk).mono hext).world fun hy => hold _ (hlt c y k hc hy hk)
  · intro c c' k k' ha ha' hk hk' heq
    by_cases h1 : c = b
    · by_cases h2 : c' = b
      · rw [h1, h2]
      · subst h1
        rw [upd_same] at hk; cases hk
        rw [upd_other _ _ h2] at hk'
        obtain ⟨y, hy, hyd⟩ := hal c' h2 ha'
        have := hlt c' y k' hy hyd hk'
        omega
    · by_cases h2 : c' = b
      · subst h2
        rw [upd_same] at hk'; cases hk'
        rw [upd_other _ _ h1] at hk
        obtain ⟨y, hy, hyd⟩ := hal c h1 ha
        have := hlt c y k hy hyd hk
        omega
      · rw [upd_other _ _ h1] at hk
        rw [upd_other _ _ h2] at hk'
        exact inj c c' k k' (hal c h1 ha) (hal c' h2 ha') hk hk' heq
  · intro c k hc ha hk
    by_cases hcb : c = b
    · subst hcb
      rw [upd_same] at hk; cases hk
      exact .inl (by omega)
    · obtain ⟨y, hy, _⟩ := hal c hcb ha
      rw [hc] at hy; cases hy

/-- **A block is written in both.** -/
theorem Step.put {f : Nat} {β : Emb} {g : HG} {w w' : World} {b : Nat} {x x' : TB} {e : Ent} (rel : HRel C β g w) (inj : Inj β g)
    (hfb : f ≤ b) (hb : g b = some x) (hnd : x ≠ .dead) (he : β b = some e)
    (hsz : w'.heap.size = w.heap.size) (hoth : ∀ r, r ≠ e.blk → w'.heap[r]? = w.heap[r]?)
    (h1 : w'.os = w.os) (h2 : w'.tape = w.tape) (h3 : w'.output = w.output) (hx : HBlk C β w' e x') : Step C f β g w β (g.set b x') w' := by
  have hal : ∀ c, alive (g.set b x') c → alive g c := fun c ⟨y, hy, hyd⟩ => by
    by_cases hc : c = b
    · subst hc; exact ⟨x, hb, hnd⟩
    · rw [HG.set_other _ _ hc] at hy; exact ⟨y, hy, hyd⟩
  refine ⟨Ext.refl β, fun _ _ h => .inl h, ?_, fun c _ _ => hal c, ?_, ?_, h1, h2, h3, by omega, ?_, ?_⟩
  · intro c y hy
    by_cases hc : c = b
    · subst hc; exact ⟨x', HG.set_same _ _ _⟩
    · exact ⟨y, by rw [HG.set_other _ _ hc]; exact hy⟩
  · intro c y k hc hk
    by_cases hcb : c = b
    · subst hcb
      rw [HG.set_same] at hc; cases hc
      rw [he] at hk; cases hk
      exact hx
    · rw [HG.set_other _ _ hcb] at hc
      refine (rel c y k hc hk).world fun hy => hoth _ fun heq => hcb ?_
      exact inj c b k e ⟨y, hc, hy⟩ ⟨x, hb, hnd⟩ hk he heq
  · intro c c' k k' ha ha' hk hk' heq
    exact inj c c' k k' (hal c ha) (hal c' ha') hk hk' heq
  · intro r _ hr
    exact hoth r fun heq => hr b e hfb ⟨x, hb, hnd⟩ he heq.symm
  · intro c k hc ha _
    obtain ⟨y, hy, _⟩ := hal c ha
    rw [hc] at hy; cases hy

/-- What the plain interpreter leaves of a heap, by itself. -/
structure TStep (h h' : TH) : Prop where
  next : h.next ≤ h'.next
  floor : h'.floor = h.floor
  lock : h'.lock = h.lock
  dom : ∀ b x, h'.get b = some x → (∃ y, h.get b = some y) ∨ (h.next ≤ b ∧ b < h'.next)
  stay : ∀ b x, h.get b = some x → ∃ y, h'.get b = some y
  locked : ∀ b, b ∈ h.lock → b < h.next → h'.get b = h.get b
  low : ∀ b, b < h.floor → b < h.next → h'.get b = h.get b

/-- What is never written. -/
def Base (C : Env) (h : TH) : Prop := ∀ g x, C.B g = some x → h.get g = some x ∧ g < h.floor

def WF (h : TH) : Prop := ∀ b x, h.get b = some x → b < h.next
theorem WF.none {h : TH} (wf : WF h) {b : Nat} (hb : h.next ≤ b) : h.get b = none := by
  cases hg : h.get b with
  | none => rfl
  | some x => have := wf b x hg; omega

theorem TStep.refl (h : TH) : TStep h h := ⟨Nat.le_refl _, rfl, rfl, fun b x hx => .inl ⟨x, hx⟩, fun b x hx => ⟨x, hx⟩, fun _ _ _ => rfl, fun _ _ _ => rfl⟩
theorem TStep.trans {h h1 h2 : TH} (s : TStep h h1) (t : TStep h1 h2) : TStep h h2 where
  next := Nat.le_trans s.next t.next
  floor := t.floor.trans s.floor
  lock := t.lock.trans s.lock
  dom := fun b x hx => by
    have := s.next
    rcases t.dom b x hx with ⟨y, hy⟩ | ⟨h1, h2⟩
    · rcases s.dom b y hy with h' | ⟨h1, h2⟩
      · exact .inl h'
      · exact .inr ⟨h1, by have := t.next; omega⟩
    · exact .inr ⟨by omega, h2⟩
  stay := fun b x hx => by obtain ⟨y, hy⟩ := s.stay b x hx; exact t.stay b y hy
  locked := fun b hb hn => by rw [t.locked b (by rw [s.lock]; exact hb) (by have := s.next; omega), s.locked b hb hn]
  low := fun b hb hn => by rw [t.low b (by rw [s.floor]; exact hb) (by have := s.next; omega), s.low b hb hn]
theorem TStep.wf {h h' : TH} (s : TStep h h') (wf : WF h) : WF h' := fun b x hx => by
  rcases s.dom b x hx with ⟨y, hy⟩ | ⟨_, h2⟩
  · have := wf b y hy; have := s.next; omega
  · exact h2
theorem TStep.base {h h' : TH} (s : TStep h h') (wf : WF h) (hb : Base C h) : Base C h' := fun g x hx => by
  obtain ⟨h1, h2⟩ := hb g x hx
  exact ⟨by rw [s.low g h2 (wf g x h1)]; exact h1, by rw [s.floor]; exact h2⟩
theorem TStep.new (h : TH) (x : TB) : TStep h (h.new x) := by
  refine ⟨Nat.le_succ _, rfl, rfl, fun b y hy => ?_, fun b y hy => ?_, fun b _ hn => ?_, fun b _ hn => ?_⟩
  · rw [TH.get_new] at hy
    by_cases hb : b = h.next
    · exact .inr ⟨by omega, by show b < h.next + 1; omega⟩
    · rw [HG.set_other _ _ hb] at hy; exact .inl ⟨y, hy⟩
  · rw [TH.get_new]
    by_cases hb : b = h.next
    · subst hb; exact ⟨x, HG.set_same _ _ _⟩
    · exact ⟨y, by rw [HG.set_other _ _ hb]; exact hy⟩
  · rw [TH.get_new, HG.set_other _ _ (by omega)]
  · rw [TH.get_new, HG.set_other _ _ (by omega)]
theorem TStep.put {h h' : TH} {b : Nat} {x y : TB} (hp : h.put b x = some h') (hb : h.get b = some y) : TStep h h' := by
  obtain ⟨h1, h2, h3, h4, h5, h6, h7⟩ := TH.put_some hp
  refine ⟨by omega, h5, h6, fun c z hz => ?_, fun c z hz => ?_, fun c hc _ => ?_, fun c hc _ => ?_⟩
  · rw [h7] at hz
    by_cases hcb : c = b
    · subst hcb; exact .inl ⟨y, hb⟩
    · rw [HG.set_other _ _ hcb] at hz; exact .inl ⟨z, hz⟩
  · rw [h7]
    by_cases hcb : c = b
    · subst hcb; exact ⟨x, HG.set_same _ _ _⟩
    · exact ⟨z, by rw [HG.set_other _ _ hcb]; exact hz⟩
  · rw [h7, HG.set_other]; intro e; subst e; exact h3 hc
  · rw [h7, HG.set_other]; intro e; subst e; omega

/-- The numbers that a piece of work gives are not given. -/
def Free (β : Emb) (h h' : TH) : Prop := ∀ b, h.next ≤ b → b < h'.next → β b = none
theorem Free.left {β : Emb} {h h1 h2 : TH} (hf : Free β h h2) (hn : h1.next ≤ h2.next) : Free β h h1 := fun b h1' h2' => hf b h1' (by omega)
theorem Free.right {f : Nat} {β β1 : Emb} {h h1 h2 : TH} {w w1 : World} (hf : Free β h h2) (s : Step C f β h.get w β1 h1.get w1) (wf : WF h1) (hn : h.next ≤ h1.next) : Free β1 h1 h2 := fun b h1' h2' => by
  cases hb : β1 b with
  | none => rfl
  | some e =>
    rcases s.born b e hb with h | ⟨_, _, x, hx⟩
    · rw [hf b (by omega) h2'] at h; cases h
    · have := wf b x hx; omega

end Go.Tidy

