/-
  Package instr: fits, kind by kind.
-/
import Derived.Test.YtbpefomjmjkciaaInsB0
import Derived.Test.YtbpefomjmjkciaaInsB1
import Derived.Test.YtbpefomjmjkciaaInsB2
import Derived.Test.YtbpefomjmjkciaaInsB3
namespace Go.Proofs.Ytbpefomjmjkciaa.Ins
open Go.RowKit
set_option linter.unusedVariables false

theorem fits_any (x : In) (W : World) : Calls Try.prog 77 #[.agg x.cells] W fun e w' => e = .returned (.bool (fitsI x)) ∧ Below W.heap.size W w' := by
  obtain ⟨kind, op, width, size, byReg, dst, src, off, imm⟩ := x
  have hr : rangeI (In.mk kind op width size byReg dst src off imm) = (regI dst && regI src && decide (-32768 ≤ off ∧ off ≤ 32767) && decide (-2147483648 ≤ imm ∧ imm ≤ 2147483647)) := by
    unfold rangeI regI; rw [Bool.eq_iff_iff]; simp [and_assoc]
  unfold fitsI
  rw [hr]
  cases hd : regI dst
  · exact fits_d kind op width size byReg dst src off imm W hd
  cases hs : regI src
  · exact fits_s kind op width size byReg dst src off imm W hd hs
  by_cases ho : -32768 ≤ off ∧ off ≤ 32767
  case neg => rw [decide_eq_false ho]; exact fits_o kind op width size byReg dst src off imm W hd hs ho
  by_cases hi : -2147483648 ≤ imm ∧ imm ≤ 2147483647
  case neg => rw [decide_eq_true ho, decide_eq_false hi]; exact fits_i kind op width size byReg dst src off imm W hd hs ho hi
  rw [decide_eq_true ho, decide_eq_true hi]
  show Calls _ _ _ _ fun e w' => e = .returned (.bool (kindI (In.mk kind op width size byReg dst src off imm))) ∧ _
  by_cases h0 : kind = 0
  · subst h0; exact fits_0 op width size byReg dst src off imm W hd hs ho hi
  by_cases h1 : kind = 1
  · subst h1; exact fits_1 op width size byReg dst src off imm W hd hs ho hi
  by_cases h2 : kind = 2
  · subst h2; exact fits_2 op width size byReg dst src off imm W hd hs ho hi
  by_cases h3 : kind = 3
  · subst h3; exact fits_3 op width size byReg dst src off imm W hd hs ho hi
  by_cases h4 : kind = 4
  · subst h4; exact fits_4 op width size byReg dst src off imm W hd hs ho hi
  by_cases h5 : kind = 5
  · subst h5; exact fits_5 op width size byReg dst src off imm W hd hs ho hi
  by_cases h6 : kind = 6
  · subst h6; exact fits_6 op width size byReg dst src off imm W hd hs ho hi
  rw [show kindI (In.mk kind op width size byReg dst src off imm) = false from decide_eq_false (by simp only; omega)]
  exact fits_x kind op width size byReg dst src off imm W hd hs ho hi h0 h1 h2 h3 h4 h5 h6
end Go.Proofs.Ytbpefomjmjkciaa.Ins
