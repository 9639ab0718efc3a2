/- The program's table serves. -/
import Derived.Test.YtkaiphobleifgaaGreatDoorTpQ
import Derived.Test.YtkaiphobleifgaaGreatDoorTabQA
import Derived.Test.YtkaiphobleifgaaGreatDoorTd5
import Derived.KernelRfl
set_option linter.all false
namespace Go.Tidy
open Go Go.Proofs

theorem xsQ_ok : ∀ k b, xsQ.lookup k = some b → ExtOk Tryz.prog k b.fn := by
  have h1 : ExtOk Tryz.prog 144 (Bare.fn .float32frombits) := extOk_of (by kernel_rfl)
  have h2 : ExtOk Tryz.prog 188 (Bare.fn .float32bits) := extOk_of (by kernel_rfl)
  have h3 : ExtOk Tryz.prog 209 (Bare.fn .float64frombits) := extOk_of (by kernel_rfl)
  have h4 : ExtOk Tryz.prog 210 (Bare.fn .float64bits) := extOk_of (by kernel_rfl)
  have h5 : ExtOk Tryz.prog 211 (Bare.fn .trunc) := extOk_of (by kernel_rfl)
  intro k b h
  simp only [xsQ, List.lookup] at h
  repeat' (split at h)
  all_goals first
    | (cases h; rename_i hk; simp only [beq_iff_eq] at hk; subst hk; assumption)
    | (cases h)
theorem nzQ : NoZeroOk Tryz.prog 256 5 := noZeroOk_of (ps := #[3]) (t := 115) (by kernel_rfl) (by kernel_rfl) (by kernel_rfl)
theorem smQ : ExtOk Tryz.prog 218 Extern.AbiNoEscape.same := extOk_of (by kernel_rfl)
theorem zerosQ : zerosPlain Tryz.prog := trivial
theorem mixQ : Tryz.prog.follows .mixedOrders = true := by kernel_rfl

/-- The heap at the start: the program's variables that the code names; e1, e2: what the model says of their rows. -/
noncomputable def envQ (h0 : TH) : Env := { P := Tryz.prog, C := fun m c tc => compile c = some tc ∧ ready Tab.gl m tc = true, G := Tab.gl, B := h0.get }
theorem tpQ_ok (h0 : TH) : TpOk (envQ h0) tpQ := tpOk_of (C := envQ h0) (z := (256, 5)) Tab.fns_ok xsQ_ok nzQ smQ

end Go.Tidy
