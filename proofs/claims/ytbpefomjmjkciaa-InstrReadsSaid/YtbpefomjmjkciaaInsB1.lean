/-
  Package instr: fits, kind by kind.
-/
import Derived.Test.YtbpefomjmjkciaaInsB00
namespace Go.Proofs.Ytbpefomjmjkciaa.Ins
open Go.RowKit
set_option linter.unusedVariables false

set_option maxRecDepth 100000 in
set_option maxHeartbeats 4000000 in
theorem fits_0 (op width size : Int) (byReg : Bool) (dst src off imm : Int) (W : World) (hd : regI dst = true) (hs : regI src = true) (ho : -32768 ≤ off ∧ off ≤ 32767) (hi : -2147483648 ≤ imm ∧ imm ≤ 2147483647) :
    Calls Try.prog 77 #[.agg (In.mk 0 op width size byReg dst src off imm).cells] W fun e w' => e = .returned (.bool (kindI (In.mk 0 op width size byReg dst src off imm))) ∧ Below W.heap.size W w' := by
  have HD := Lib.hid (fun W => reg_t dst W hd)
  clear hd
  have HS := Lib.hid (fun W => reg_t src W hs)
  clear hs
  have ho' := i16_in ho
  have hi' := i32_in hi
  clear ho hi
  unfold In.cells
  simp only
  go_enter Try.func77, Try.ntmps77
  go_wp2_with (first | (go_at_call 110; refine (HD.out _).mono ?_; rintro e w' ⟨rfl, rfl⟩) | (go_at_call 110; refine (HS.out _).mono ?_; rintro e w' ⟨rfl, rfl⟩))
  all_goals
    go_ret
    exact ⟨retB (by unfold kindI; rw [Bool.eq_iff_iff, decide_eq_true_iff]; simp <;> omega), below_new (Below.refl _ _) _⟩
set_option maxRecDepth 100000 in
set_option maxHeartbeats 4000000 in
theorem fits_3 (op width size : Int) (byReg : Bool) (dst src off imm : Int) (W : World) (hd : regI dst = true) (hs : regI src = true) (ho : -32768 ≤ off ∧ off ≤ 32767) (hi : -2147483648 ≤ imm ∧ imm ≤ 2147483647) :
    Calls Try.prog 77 #[.agg (In.mk 3 op width size byReg dst src off imm).cells] W fun e w' => e = .returned (.bool (kindI (In.mk 3 op width size byReg dst src off imm))) ∧ Below W.heap.size W w' := by
  have HD := Lib.hid (fun W => reg_t dst W hd)
  clear hd
  have HS := Lib.hid (fun W => reg_t src W hs)
  clear hs
  have ho' := i16_in ho
  have hi' := i32_in hi
  clear ho hi
  unfold In.cells
  simp only
  go_enter Try.func77, Try.ntmps77
  go_wp2_with (first | (go_at_call 110; refine (HD.out _).mono ?_; rintro e w' ⟨rfl, rfl⟩) | (go_at_call 110; refine (HS.out _).mono ?_; rintro e w' ⟨rfl, rfl⟩))
  all_goals
    go_ret
    exact ⟨retB (by unfold kindI; rw [Bool.eq_iff_iff, decide_eq_true_iff]; simp <;> omega), below_new (Below.refl _ _) _⟩
end Go.Proofs.Ytbpefomjmjkciaa.Ins
