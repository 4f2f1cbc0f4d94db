/-
  The law ModrmBack: what its walks rest on. (Written by gen_mrt.py.)
-/
import Derived.Test.YtnechhoknaepiaaMrY
namespace Go.Proofs.Ytnechhoknaepiaa.Mrm
open Go.RowKit
set_option linter.unusedVariables false
set_option linter.unnecessarySimpa false
set_option linter.unusedSimpArgs false
set_option maxRecDepth 100000

theorem zero_own {base : Nat} (w : World) (hb : base ≤ w.heap.size) : Bts base (w.alloc (.cells #[] 5)) (.slice (some ⟨w.heap.size, 0, none⟩) 0 0) [] :=
  ⟨rfl, .inr ⟨w.heap.size, 0, _, rfl, hb, heap_last w _ _ rfl, Nat.le_refl _, by decide, rfl, rfl⟩⟩
theorem bd_i64b {a : Int} (h : (Lit.int .i64 a).wf = true) : -9223372036854775808 ≤ a ∧ a ≤ 9223372036854775807 := by
  simpa [Lit.wf, IntKind.min, IntKind.max, IntKind.bits, IntKind.signed] using h
theorem num_is (v n : Int) (h0 : -9223372036854775808 ≤ v) (h1 : v ≤ 9223372036854775807) (W : World) : Calls Try.prog 15 #[.int .i64 v, .int .i64 n] W fun e w' => ∃ a c, e = .returned (.tuple #[.slice a (bif numB v n then n.toNat else 0) c, .int .i64 (bif numB v n then 0 else 2)]) ∧ BytesAt w' a (bif numB v n then n.toNat else 0) c (bif numB v n then numL v n.toNat else []) ∧ Below W.heap.size W w' := by
  refine (num_n v n h0 h1 W).mono ?_
  rintro e w' ⟨v', rfl, o, b⟩
  obtain ⟨a, c, rfl, h⟩ := o.at (bif_oks (numL_ok v n.toNat))
  have e : (bif numB v n then numL v n.toNat else []).length = (bif numB v n then n.toNat else 0) := by
    cases numB v n
    · rfl
    · exact numL_length v _
  rw [e] at h ⊢
  exact ⟨a, c, rfl, h, b⟩
end Go.Proofs.Ytnechhoknaepiaa.Mrm
