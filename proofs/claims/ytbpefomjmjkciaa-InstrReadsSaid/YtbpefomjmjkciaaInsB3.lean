/-
  Package instr: fits, kind by kind.
-/
import Derived.Test.YtbpefomjmjkciaaInsB00
namespace Go.Proofs.Ytbpefomjmjkciaa.Ins
open Go.RowKit
set_option linter.unusedVariables false

set_option maxRecDepth 100000 in
set_option maxHeartbeats 4000000 in
theorem fits_1t (op width size : Int) (byReg : Bool) (dst src off imm : Int) (W : World) (hd : regI dst = true) (hs : regI src = true) (ho : -32768 ≤ off ∧ off ≤ 32767) (hi : -2147483648 ≤ imm ∧ imm ≤ 2147483647) (hz : size = 1 ∨ size = 2 ∨ size = 4 ∨ size = 8) :
    Calls Try.prog 77 #[.agg (In.mk 1 op width size byReg dst src off imm).cells] W fun e w' => e = .returned (.bool (kindI (In.mk 1 op width size byReg dst src off imm))) ∧ Below W.heap.size W w' := by
  have HD := Lib.hid (fun W => reg_t dst W hd)
  clear hd
  have HS := Lib.hid (fun W => reg_t src W hs)
  clear hs
  have ho' := i16_in ho
  have hi' := i32_in hi
  clear ho hi
  have HZ := Lib.hid (fun W => sized_t size W hz)
  unfold In.cells
  simp only
  go_enter Try.func77, Try.ntmps77
  go_wp2_with (first | (go_at_call 111; refine (HZ.out _).mono ?_; rintro e w' ⟨rfl, rfl⟩) | (go_at_call 110; refine (HD.out _).mono ?_; rintro e w' ⟨rfl, rfl⟩) | (go_at_call 110; refine (HS.out _).mono ?_; rintro e w' ⟨rfl, rfl⟩))
  all_goals
    go_ret
    exact ⟨retB (by unfold kindI; rw [Bool.eq_iff_iff, decide_eq_true_iff]; simp <;> omega), below_new (Below.refl _ _) _⟩
set_option maxRecDepth 100000 in
set_option maxHeartbeats 4000000 in
theorem fits_1f (op width size : Int) (byReg : Bool) (dst src off imm : Int) (W : World) (hd : regI dst = true) (hs : regI src = true) (ho : -32768 ≤ off ∧ off ≤ 32767) (hi : -2147483648 ≤ imm ∧ imm ≤ 2147483647) (hz : ¬ (size = 1 ∨ size = 2 ∨ size = 4 ∨ size = 8)) :
    Calls Try.prog 77 #[.agg (In.mk 1 op width size byReg dst src off imm).cells] W fun e w' => e = .returned (.bool (kindI (In.mk 1 op width size byReg dst src off imm))) ∧ Below W.heap.size W w' := by
  have HD := Lib.hid (fun W => reg_t dst W hd)
  clear hd
  have HS := Lib.hid (fun W => reg_t src W hs)
  clear hs
  have ho' := i16_in ho
  have hi' := i32_in hi
  clear ho hi
  have HZ := Lib.hid (fun W => sized_f size W hz)
  unfold In.cells
  simp only
  go_enter Try.func77, Try.ntmps77
  go_wp2_with (first | (go_at_call 111; refine (HZ.out _).mono ?_; rintro e w' ⟨rfl, rfl⟩) | (go_at_call 110; refine (HD.out _).mono ?_; rintro e w' ⟨rfl, rfl⟩) | (go_at_call 110; refine (HS.out _).mono ?_; rintro e w' ⟨rfl, rfl⟩))
  all_goals
    go_ret
    exact ⟨retB (by unfold kindI; rw [Bool.eq_iff_iff, decide_eq_true_iff]; simp <;> omega), below_new (Below.refl _ _) _⟩
theorem fits_1 (op width size : Int) (byReg : Bool) (dst src off imm : Int) (W : World) (hd : regI dst = true) (hs : regI src = true) (ho : -32768 ≤ off ∧ off ≤ 32767) (hi : -2147483648 ≤ imm ∧ imm ≤ 2147483647) :
    Calls Try.prog 77 #[.agg (In.mk 1 op width size byReg dst src off imm).cells] W fun e w' => e = .returned (.bool (kindI (In.mk 1 op width size byReg dst src off imm))) ∧ Below W.heap.size W w' := by
  by_cases hz : size = 1 ∨ size = 2 ∨ size = 4 ∨ size = 8
  · exact fits_1t op width size byReg dst src off imm W hd hs ho hi hz
  · exact fits_1f op width size byReg dst src off imm W hd hs ho hi hz
set_option maxRecDepth 100000 in
set_option maxHeartbeats 4000000 in
theorem fits_2t (op width size : Int) (byReg : Bool) (dst src off imm : Int) (W : World) (hd : regI dst = true) (hs : regI src = true) (ho : -32768 ≤ off ∧ off ≤ 32767) (hi : -2147483648 ≤ imm ∧ imm ≤ 2147483647) (hz : size = 1 ∨ size = 2 ∨ size = 4 ∨ size = 8) :
    Calls Try.prog 77 #[.agg (In.mk 2 op width size byReg dst src off imm).cells] W fun e w' => e = .returned (.bool (kindI (In.mk 2 op width size byReg dst src off imm))) ∧ Below W.heap.size W w' := by
  have HD := Lib.hid (fun W => reg_t dst W hd)
  clear hd
  have HS := Lib.hid (fun W => reg_t src W hs)
  clear hs
  have ho' := i16_in ho
  have hi' := i32_in hi
  clear ho hi
  have HZ := Lib.hid (fun W => sized_t size W hz)
  unfold In.cells
  simp only
  go_enter Try.func77, Try.ntmps77
  go_wp2_with (first | (go_at_call 111; refine (HZ.out _).mono ?_; rintro e w' ⟨rfl, rfl⟩) | (go_at_call 110; refine (HD.out _).mono ?_; rintro e w' ⟨rfl, rfl⟩) | (go_at_call 110; refine (HS.out _).mono ?_; rintro e w' ⟨rfl, rfl⟩))
  all_goals
    go_ret
    exact ⟨retB (by unfold kindI; rw [Bool.eq_iff_iff, decide_eq_true_iff]; simp <;> omega), below_new (Below.refl _ _) _⟩
set_option maxRecDepth 100000 in
set_option maxHeartbeats 4000000 in
theorem fits_2f (op width size : Int) (byReg : Bool) (dst src off imm : Int) (W : World) (hd : regI dst = true) (hs : regI src = true) (ho : -32768 ≤ off ∧ off ≤ 32767) (hi : -2147483648 ≤ imm ∧ imm ≤ 2147483647) (hz : ¬ (size = 1 ∨ size = 2 ∨ size = 4 ∨ size = 8)) :
    Calls Try.prog 77 #[.agg (In.mk 2 op width size byReg dst src off imm).cells] W fun e w' => e = .returned (.bool (kindI (In.mk 2 op width size byReg dst src off imm))) ∧ Below W.heap.size W w' := by
  have HD := Lib.hid (fun W => reg_t dst W hd)
  clear hd
  have HS := Lib.hid (fun W => reg_t src W hs)
  clear hs
  have ho' := i16_in ho
  have hi' := i32_in hi
  clear ho hi
  have HZ := Lib.hid (fun W => sized_f size W hz)
  unfold In.cells
  simp only
  go_enter Try.func77, Try.ntmps77
  go_wp2_with (first | (go_at_call 111; refine (HZ.out _).mono ?_; rintro e w' ⟨rfl, rfl⟩) | (go_at_call 110; refine (HD.out _).mono ?_; rintro e w' ⟨rfl, rfl⟩) | (go_at_call 110; refine (HS.out _).mono ?_; rintro e w' ⟨rfl, rfl⟩))
  all_goals
    go_ret
    exact ⟨retB (by unfold kindI; rw [Bool.eq_iff_iff, decide_eq_true_iff]; simp <;> omega), below_new (Below.refl _ _) _⟩
theorem fits_2 (op width size : Int) (byReg : Bool) (dst src off imm : Int) (W : World) (hd : regI dst = true) (hs : regI src = true) (ho : -32768 ≤ off ∧ off ≤ 32767) (hi : -2147483648 ≤ imm ∧ imm ≤ 2147483647) :
    Calls Try.prog 77 #[.agg (In.mk 2 op width size byReg dst src off imm).cells] W fun e w' => e = .returned (.bool (kindI (In.mk 2 op width size byReg dst src off imm))) ∧ Below W.heap.size W w' := by
  by_cases hz : size = 1 ∨ size = 2 ∨ size = 4 ∨ size = 8
  · exact fits_2t op width size byReg dst src off imm W hd hs ho hi hz
  · exact fits_2f op width size byReg dst src off imm W hd hs ho hi hz
end Go.Proofs.Ytbpefomjmjkciaa.Ins
