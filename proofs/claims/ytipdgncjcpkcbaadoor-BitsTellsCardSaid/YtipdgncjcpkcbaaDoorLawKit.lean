/-
  Small facts that the walks of the laws of layer 1 share.
-/
import Derived.Test.YtipdgncjcpkcbaaDoorBitsV
namespace Go.Proofs.YtipdgncjcpkcbaaDoor
open Go.RowKit
set_option linter.unusedVariables false

theorem bd_i8 {a : Int} (h : (Lit.int .i8 a).wf = true) : -128 ≤ a ∧ a ≤ 127 := by simpa [Lit.wf, IntKind.min, IntKind.max, IntKind.bits, IntKind.signed] using h
theorem bd_u64 {a : Int} (h : (Lit.int .u64 a).wf = true) : 0 ≤ a ∧ a < 18446744073709551616 := by
  have : 0 ≤ a ∧ a ≤ 18446744073709551615 := by simpa [Lit.wf, IntKind.min, IntKind.max, IntKind.bits, IntKind.signed] using h
  omega
theorem neqF {a b : Int} (h : a = b) : (a != b) = false := by simpa using h
theorem widthB_f {w : Int} (h : widthB w = false) : ¬ w = 8 ∧ ¬ w = 16 ∧ ¬ w = 32 ∧ ¬ w = 64 := by
  unfold widthB at h; simpa [and_assoc] using h
theorem widthB_t {w : Int} (h : widthB w = true) : w = 8 ∨ w = 16 ∨ w = 32 ∨ w = 64 := by
  unfold widthB at h; simpa [or_assoc] using h
theorem width_t (w : Int) (W : World) (h : widthB w = true) : Calls Tryd.prog 11 #[.int .i8 w] W fun e w' => e = .returned (.bool true) ∧ W = w' := by
  have := width_any w W; rw [h] at this; exact this
theorem width_f (w : Int) (W : World) (h : widthB w = false) : Calls Tryd.prog 11 #[.int .i8 w] W fun e w' => e = .returned (.bool false) ∧ W = w' := by
  have := width_any w W; rw [h] at this; exact this
theorem lt_of_cell {w : World} {b o : Nat} {v : Value} (h : w.cell? ⟨b, o, none⟩ = some v) : b < w.heap.size := by
  rcases Nat.lt_or_ge b w.heap.size with h' | h'
  · exact h'
  · have : w.heap[b]? = none := Array.getElem?_eq_none h'
    simp [World.cell?, this] at h
end Go.Proofs.YtipdgncjcpkcbaaDoor
