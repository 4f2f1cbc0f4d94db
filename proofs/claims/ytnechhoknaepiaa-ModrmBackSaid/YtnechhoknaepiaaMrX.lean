/-
  Operands as slices. (Written by gen_mrr.py.)
-/
import Derived.Test.YtnechhoknaepiaaMrW
namespace Go.Proofs.Ytnechhoknaepiaa.Mrm
open Go.RowKit
set_option linter.unusedVariables false
set_option linter.unnecessarySimpa false
set_option linter.unusedSimpArgs false
set_option maxRecDepth 100000

theorem bd_i64' {a : Int} (h : (Lit.int .i64 a).wf = true) : -9223372036854775808 ≤ a ∧ a ≤ 9223372036854775807 := by
  simpa [Lit.wf, IntKind.min, IntKind.max, IntKind.bits, IntKind.signed] using h
theorem bif_oks {b : Bool} {l : List Int} (h : Oks l) : Oks (bif b then l else []) := by
  cases b
  · intro z hz; cases hz
  · exact h
theorem regs_is (r m : Int) (W : World) : Calls Try.prog 11 #[.int .i8 r, .int .i8 m] W fun e w' => ∃ a c, e = .returned (.tuple #[.slice a (bif bothB r m then 1 else 0) c, .int .i64 (bif bothB r m then 0 else 2)]) ∧ BytesAt w' a (bif bothB r m then 1 else 0) c (bif bothB r m then regL r m else []) ∧ Below W.heap.size W w' := by
  refine (regs_n r m W).mono ?_
  rintro e w' ⟨v, rfl, o, b⟩
  obtain ⟨a, c, rfl, h⟩ := o.at (bif_oks (regL_ok r m))
  refine ⟨a, c, ?_, ?_, b⟩
  · cases bothB r m <;> rfl
  · cases h2 : bothB r m <;> (rw [h2] at h; exact h)
def memN (m : Int) : Nat := if m % 8 = 4 then 6 else 5
theorem memL_length (r m d : Int) : (memL r m d).length = memN m := by
  unfold memL midL memN
  split <;> simp [numL_length]
theorem mem_is (r m d : Int) (h0 : -9223372036854775808 ≤ d) (h1 : d ≤ 9223372036854775807) (W : World) : Calls Try.prog 13 #[.int .i8 r, .int .i8 m, .int .i64 d] W fun e w' => ∃ a c, e = .returned (.tuple #[.slice a (bif memB r m d then memN m else 0) c, .int .i64 (bif memB r m d then 0 else 2)]) ∧ BytesAt w' a (bif memB r m d then memN m else 0) c (bif memB r m d then memL r m d else []) ∧ Below W.heap.size W w' := by
  refine (mem_n r m d h0 h1 W).mono ?_
  rintro e w' ⟨v, rfl, o, b⟩
  obtain ⟨a, c, rfl, h⟩ := o.at (bif_oks (memL_ok r m d))
  have e : (bif memB r m d then memL r m d else []).length = (bif memB r m d then memN m else 0) := by
    cases memB r m d
    · rfl
    · exact memL_length r m d
  rw [e] at h ⊢
  exact ⟨a, c, rfl, h, b⟩
end Go.Proofs.Ytnechhoknaepiaa.Mrm
