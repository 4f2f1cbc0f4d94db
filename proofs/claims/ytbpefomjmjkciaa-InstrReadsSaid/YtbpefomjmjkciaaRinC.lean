/-
  The document's answer latheref03: Target.
-/
import Derived.Test.YtbpefomjmjkciaaInsG
namespace Go.Proofs.Ytbpefomjmjkciaa.Ins
open Go.RowKit
set_option linter.unusedVariables false

set_option maxRecDepth 100000 in
set_option maxHeartbeats 4000000 in
theorem r_target (i : Int) (x : In) (W : World) :
    Calls Try.prog 43 #[.int .i64 i, .agg x.cells] W fun e w' => e = .returned (.tuple #[.int .i64 (targetI i x), .bool (jumpsI i x)]) ∧ Below W.heap.size W w' := by
  have hj : jumpsI i x = decide ((x.kind = 3 ∨ x.kind = 4) ∧ (-1099511627776 ≤ i ∧ i ≤ 1099511627776) ∧ (-1099511627776 ≤ x.off ∧ x.off ≤ 1099511627776)) := by
    unfold jumpsI nearI; rw [Bool.eq_iff_iff]; simp [and_assoc]
  unfold targetI
  rw [hj]
  clear hj
  obtain ⟨kind, op, width, size, byReg, dst, src, off, imm⟩ := x
  unfold In.cells
  simp only
  have hc : (¬ kind = 3 ∧ ¬ kind = 4) ∨ ((kind = 3 ∨ kind = 4) ∧ (i < -1099511627776 ∨ (-1099511627776 ≤ i ∧ 1099511627776 < i) ∨ (-1099511627776 ≤ i ∧ i ≤ 1099511627776 ∧ off < -1099511627776) ∨ (-1099511627776 ≤ i ∧ i ≤ 1099511627776 ∧ -1099511627776 ≤ off ∧ 1099511627776 < off) ∨ (-1099511627776 ≤ i ∧ i ≤ 1099511627776 ∧ -1099511627776 ≤ off ∧ off ≤ 1099511627776))) := by omega
  rcases hc with ⟨h3, h4⟩ | ⟨rfl | rfl, h1 | ⟨h1, h2⟩ | ⟨h1, h2, h5⟩ | ⟨h1, h2, h5, h6⟩ | ⟨h1, h2, h5, h6⟩⟩
  · rw [decide_eq_false (by omega), if_neg (by simp)]
    go_enter Try.func43, Try.ntmps43
    go_wp2
    go_ret2
    exact ⟨rfl, below_new (Below.refl _ _) _⟩
  all_goals
    first
    | rw [decide_eq_false (by omega), if_neg (by simp)]
    | rw [decide_eq_true (by omega), if_pos rfl]
    go_enter Try.func43, Try.ntmps43
    go_wp2
    go_ret2
    exact ⟨rfl, below_new (Below.refl _ _) _⟩
end Go.Proofs.Ytbpefomjmjkciaa.Ins
