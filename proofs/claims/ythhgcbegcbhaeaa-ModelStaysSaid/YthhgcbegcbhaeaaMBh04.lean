/-
  Several texts in one: InsB2, InsB3, InsB, InsE.
-/
import Derived.Test.YthhgcbegcbhaeaaMBh03
import Derived.Laws.StructEq
set_option linter.unusedVariables false
set_option linter.unusedSimpArgs false
set_option linter.unnecessarySimpa false
namespace Go.Proofs.Ythhgcbegcbhaeaa.Ins
open Go.RowKit
set_option linter.unusedVariables false

set_option maxRecDepth 100000 in
set_option maxHeartbeats 4000000 in
theorem fits_4 (op width size : Int) (byReg : Bool) (dst src off imm : Int) (W : World) (hd : regI dst = true) (hs : regI src = true) (ho : -32768 ≤ off ∧ off ≤ 32767) (hi : -2147483648 ≤ imm ∧ imm ≤ 2147483647) :
    Calls Try.prog 77 #[.agg (In.mk 4 op width size byReg dst src off imm).cells] W fun e w' => e = .returned (.bool (kindI (In.mk 4 op width size byReg dst src off imm))) ∧ Below W.heap.size W w' := by
  have HD := Lib.hid (fun W => reg_t dst W hd)
  clear hd
  have HS := Lib.hid (fun W => reg_t src W hs)
  clear hs
  have ho' := i16_in ho
  have hi' := i32_in hi
  clear ho hi
  unfold In.cells
  simp only
  go_enter Try.func77, Try.ntmps77
  go_wp2_with (first | (go_at_call 98; refine (HD.out _).mono ?_; rintro e w' ⟨rfl, rfl⟩) | (go_at_call 98; refine (HS.out _).mono ?_; rintro e w' ⟨rfl, rfl⟩))
  all_goals
    go_ret
    exact ⟨retB (by unfold kindI; rw [Bool.eq_iff_iff, decide_eq_true_iff]; simp <;> omega), below_new (Below.refl _ _) _⟩
set_option maxRecDepth 100000 in
set_option maxHeartbeats 4000000 in
theorem fits_5 (op width size : Int) (byReg : Bool) (dst src off imm : Int) (W : World) (hd : regI dst = true) (hs : regI src = true) (ho : -32768 ≤ off ∧ off ≤ 32767) (hi : -2147483648 ≤ imm ∧ imm ≤ 2147483647) :
    Calls Try.prog 77 #[.agg (In.mk 5 op width size byReg dst src off imm).cells] W fun e w' => e = .returned (.bool (kindI (In.mk 5 op width size byReg dst src off imm))) ∧ Below W.heap.size W w' := by
  have HD := Lib.hid (fun W => reg_t dst W hd)
  clear hd
  have HS := Lib.hid (fun W => reg_t src W hs)
  clear hs
  have ho' := i16_in ho
  have hi' := i32_in hi
  clear ho hi
  unfold In.cells
  simp only
  go_enter Try.func77, Try.ntmps77
  go_wp2_with (first | (go_at_call 98; refine (HD.out _).mono ?_; rintro e w' ⟨rfl, rfl⟩) | (go_at_call 98; refine (HS.out _).mono ?_; rintro e w' ⟨rfl, rfl⟩))
  all_goals
    go_ret
    exact ⟨retB (by unfold kindI; rw [Bool.eq_iff_iff, decide_eq_true_iff]; simp <;> omega), below_new (Below.refl _ _) _⟩
set_option maxRecDepth 100000 in
set_option maxHeartbeats 4000000 in
theorem fits_6 (op width size : Int) (byReg : Bool) (dst src off imm : Int) (W : World) (hd : regI dst = true) (hs : regI src = true) (ho : -32768 ≤ off ∧ off ≤ 32767) (hi : -2147483648 ≤ imm ∧ imm ≤ 2147483647) :
    Calls Try.prog 77 #[.agg (In.mk 6 op width size byReg dst src off imm).cells] W fun e w' => e = .returned (.bool (kindI (In.mk 6 op width size byReg dst src off imm))) ∧ Below W.heap.size W w' := by
  have HD := Lib.hid (fun W => reg_t dst W hd)
  clear hd
  have HS := Lib.hid (fun W => reg_t src W hs)
  clear hs
  have ho' := i16_in ho
  have hi' := i32_in hi
  clear ho hi
  unfold In.cells
  simp only
  go_enter Try.func77, Try.ntmps77
  go_wp2_with (first | (go_at_call 98; refine (HD.out _).mono ?_; rintro e w' ⟨rfl, rfl⟩) | (go_at_call 98; refine (HS.out _).mono ?_; rintro e w' ⟨rfl, rfl⟩))
  all_goals
    go_ret
    exact ⟨retB (by unfold kindI; rw [Bool.eq_iff_iff, decide_eq_true_iff]; simp <;> omega), below_new (Below.refl _ _) _⟩
end Go.Proofs.Ythhgcbegcbhaeaa.Ins

namespace Go.Proofs.Ythhgcbegcbhaeaa.Ins
open Go.RowKit
set_option linter.unusedVariables false

set_option maxRecDepth 100000 in
set_option maxHeartbeats 4000000 in
theorem fits_1t (op width size : Int) (byReg : Bool) (dst src off imm : Int) (W : World) (hd : regI dst = true) (hs : regI src = true) (ho : -32768 ≤ off ∧ off ≤ 32767) (hi : -2147483648 ≤ imm ∧ imm ≤ 2147483647) (hz : size = 1 ∨ size = 2 ∨ size = 4 ∨ size = 8) :
    Calls Try.prog 77 #[.agg (In.mk 1 op width size byReg dst src off imm).cells] W fun e w' => e = .returned (.bool (kindI (In.mk 1 op width size byReg dst src off imm))) ∧ Below W.heap.size W w' := by
  have HD := Lib.hid (fun W => reg_t dst W hd)
  clear hd
  have HS := Lib.hid (fun W => reg_t src W hs)
  clear hs
  have ho' := i16_in ho
  have hi' := i32_in hi
  clear ho hi
  have HZ := Lib.hid (fun W => sized_t size W hz)
  unfold In.cells
  simp only
  go_enter Try.func77, Try.ntmps77
  go_wp2_with (first | (go_at_call 99; refine (HZ.out _).mono ?_; rintro e w' ⟨rfl, rfl⟩) | (go_at_call 98; refine (HD.out _).mono ?_; rintro e w' ⟨rfl, rfl⟩) | (go_at_call 98; refine (HS.out _).mono ?_; rintro e w' ⟨rfl, rfl⟩))
  all_goals
    go_ret
    exact ⟨retB (by unfold kindI; rw [Bool.eq_iff_iff, decide_eq_true_iff]; simp <;> omega), below_new (Below.refl _ _) _⟩
set_option maxRecDepth 100000 in
set_option maxHeartbeats 4000000 in
theorem fits_1f (op width size : Int) (byReg : Bool) (dst src off imm : Int) (W : World) (hd : regI dst = true) (hs : regI src = true) (ho : -32768 ≤ off ∧ off ≤ 32767) (hi : -2147483648 ≤ imm ∧ imm ≤ 2147483647) (hz : ¬ (size = 1 ∨ size = 2 ∨ size = 4 ∨ size = 8)) :
    Calls Try.prog 77 #[.agg (In.mk 1 op width size byReg dst src off imm).cells] W fun e w' => e = .returned (.bool (kindI (In.mk 1 op width size byReg dst src off imm))) ∧ Below W.heap.size W w' := by
  have HD := Lib.hid (fun W => reg_t dst W hd)
  clear hd
  have HS := Lib.hid (fun W => reg_t src W hs)
  clear hs
  have ho' := i16_in ho
  have hi' := i32_in hi
  clear ho hi
  have HZ := Lib.hid (fun W => sized_f size W hz)
  unfold In.cells
  simp only
  go_enter Try.func77, Try.ntmps77
  go_wp2_with (first | (go_at_call 99; refine (HZ.out _).mono ?_; rintro e w' ⟨rfl, rfl⟩) | (go_at_call 98; refine (HD.out _).mono ?_; rintro e w' ⟨rfl, rfl⟩) | (go_at_call 98; refine (HS.out _).mono ?_; rintro e w' ⟨rfl, rfl⟩))
  all_goals
    go_ret
    exact ⟨retB (by unfold kindI; rw [Bool.eq_iff_iff, decide_eq_true_iff]; simp <;> omega), below_new (Below.refl _ _) _⟩
theorem fits_1 (op width size : Int) (byReg : Bool) (dst src off imm : Int) (W : World) (hd : regI dst = true) (hs : regI src = true) (ho : -32768 ≤ off ∧ off ≤ 32767) (hi : -2147483648 ≤ imm ∧ imm ≤ 2147483647) :
    Calls Try.prog 77 #[.agg (In.mk 1 op width size byReg dst src off imm).cells] W fun e w' => e = .returned (.bool (kindI (In.mk 1 op width size byReg dst src off imm))) ∧ Below W.heap.size W w' := by
  by_cases hz : size = 1 ∨ size = 2 ∨ size = 4 ∨ size = 8
  · exact fits_1t op width size byReg dst src off imm W hd hs ho hi hz
  · exact fits_1f op width size byReg dst src off imm W hd hs ho hi hz
set_option maxRecDepth 100000 in
set_option maxHeartbeats 4000000 in
theorem fits_2t (op width size : Int) (byReg : Bool) (dst src off imm : Int) (W : World) (hd : regI dst = true) (hs : regI src = true) (ho : -32768 ≤ off ∧ off ≤ 32767) (hi : -2147483648 ≤ imm ∧ imm ≤ 2147483647) (hz : size = 1 ∨ size = 2 ∨ size = 4 ∨ size = 8) :
    Calls Try.prog 77 #[.agg (In.mk 2 op width size byReg dst src off imm).cells] W fun e w' => e = .returned (.bool (kindI (In.mk 2 op width size byReg dst src off imm))) ∧ Below W.heap.size W w' := by
  have HD := Lib.hid (fun W => reg_t dst W hd)
  clear hd
  have HS := Lib.hid (fun W => reg_t src W hs)
  clear hs
  have ho' := i16_in ho
  have hi' := i32_in hi
  clear ho hi
  have HZ := Lib.hid (fun W => sized_t size W hz)
  unfold In.cells
  simp only
  go_enter Try.func77, Try.ntmps77
  go_wp2_with (first | (go_at_call 99; refine (HZ.out _).mono ?_; rintro e w' ⟨rfl, rfl⟩) | (go_at_call 98; refine (HD.out _).mono ?_; rintro e w' ⟨rfl, rfl⟩) | (go_at_call 98; refine (HS.out _).mono ?_; rintro e w' ⟨rfl, rfl⟩))
  all_goals
    go_ret
    exact ⟨retB (by unfold kindI; rw [Bool.eq_iff_iff, decide_eq_true_iff]; simp <;> omega), below_new (Below.refl _ _) _⟩
set_option maxRecDepth 100000 in
set_option maxHeartbeats 4000000 in
theorem fits_2f (op width size : Int) (byReg : Bool) (dst src off imm : Int) (W : World) (hd : regI dst = true) (hs : regI src = true) (ho : -32768 ≤ off ∧ off ≤ 32767) (hi : -2147483648 ≤ imm ∧ imm ≤ 2147483647) (hz : ¬ (size = 1 ∨ size = 2 ∨ size = 4 ∨ size = 8)) :
    Calls Try.prog 77 #[.agg (In.mk 2 op width size byReg dst src off imm).cells] W fun e w' => e = .returned (.bool (kindI (In.mk 2 op width size byReg dst src off imm))) ∧ Below W.heap.size W w' := by
  have HD := Lib.hid (fun W => reg_t dst W hd)
  clear hd
  have HS := Lib.hid (fun W => reg_t src W hs)
  clear hs
  have ho' := i16_in ho
  have hi' := i32_in hi
  clear ho hi
  have HZ := Lib.hid (fun W => sized_f size W hz)
  unfold In.cells
  simp only
  go_enter Try.func77, Try.ntmps77
  go_wp2_with (first | (go_at_call 99; refine (HZ.out _).mono ?_; rintro e w' ⟨rfl, rfl⟩) | (go_at_call 98; refine (HD.out _).mono ?_; rintro e w' ⟨rfl, rfl⟩) | (go_at_call 98; refine (HS.out _).mono ?_; rintro e w' ⟨rfl, rfl⟩))
  all_goals
    go_ret
    exact ⟨retB (by unfold kindI; rw [Bool.eq_iff_iff, decide_eq_true_iff]; simp <;> omega), below_new (Below.refl _ _) _⟩
theorem fits_2 (op width size : Int) (byReg : Bool) (dst src off imm : Int) (W : World) (hd : regI dst = true) (hs : regI src = true) (ho : -32768 ≤ off ∧ off ≤ 32767) (hi : -2147483648 ≤ imm ∧ imm ≤ 2147483647) :
    Calls Try.prog 77 #[.agg (In.mk 2 op width size byReg dst src off imm).cells] W fun e w' => e = .returned (.bool (kindI (In.mk 2 op width size byReg dst src off imm))) ∧ Below W.heap.size W w' := by
  by_cases hz : size = 1 ∨ size = 2 ∨ size = 4 ∨ size = 8
  · exact fits_2t op width size byReg dst src off imm W hd hs ho hi hz
  · exact fits_2f op width size byReg dst src off imm W hd hs ho hi hz
end Go.Proofs.Ythhgcbegcbhaeaa.Ins

namespace Go.Proofs.Ythhgcbegcbhaeaa.Ins
open Go.RowKit
set_option linter.unusedVariables false

theorem fits_any (x : In) (W : World) : Calls Try.prog 77 #[.agg x.cells] W fun e w' => e = .returned (.bool (fitsI x)) ∧ Below W.heap.size W w' := by
  obtain ⟨kind, op, width, size, byReg, dst, src, off, imm⟩ := x
  have hr : rangeI (In.mk kind op width size byReg dst src off imm) = (regI dst && regI src && decide (-32768 ≤ off ∧ off ≤ 32767) && decide (-2147483648 ≤ imm ∧ imm ≤ 2147483647)) := by
    unfold rangeI regI; rw [Bool.eq_iff_iff]; simp [and_assoc]
  unfold fitsI
  rw [hr]
  cases hd : regI dst
  · exact fits_d kind op width size byReg dst src off imm W hd
  cases hs : regI src
  · exact fits_s kind op width size byReg dst src off imm W hd hs
  by_cases ho : -32768 ≤ off ∧ off ≤ 32767
  case neg => rw [decide_eq_false ho]; exact fits_o kind op width size byReg dst src off imm W hd hs ho
  by_cases hi : -2147483648 ≤ imm ∧ imm ≤ 2147483647
  case neg => rw [decide_eq_true ho, decide_eq_false hi]; exact fits_i kind op width size byReg dst src off imm W hd hs ho hi
  rw [decide_eq_true ho, decide_eq_true hi]
  show Calls _ _ _ _ fun e w' => e = .returned (.bool (kindI (In.mk kind op width size byReg dst src off imm))) ∧ _
  by_cases h0 : kind = 0
  · subst h0; exact fits_0 op width size byReg dst src off imm W hd hs ho hi
  by_cases h1 : kind = 1
  · subst h1; exact fits_1 op width size byReg dst src off imm W hd hs ho hi
  by_cases h2 : kind = 2
  · subst h2; exact fits_2 op width size byReg dst src off imm W hd hs ho hi
  by_cases h3 : kind = 3
  · subst h3; exact fits_3 op width size byReg dst src off imm W hd hs ho hi
  by_cases h4 : kind = 4
  · subst h4; exact fits_4 op width size byReg dst src off imm W hd hs ho hi
  by_cases h5 : kind = 5
  · subst h5; exact fits_5 op width size byReg dst src off imm W hd hs ho hi
  by_cases h6 : kind = 6
  · subst h6; exact fits_6 op width size byReg dst src off imm W hd hs ho hi
  rw [show kindI (In.mk kind op width size byReg dst src off imm) = false from decide_eq_false (by simp only; omega)]
  exact fits_x kind op width size byReg dst src off imm W hd hs ho hi h0 h1 h2 h3 h4 h5 h6
end Go.Proofs.Ythhgcbegcbhaeaa.Ins

namespace Go.Proofs.Ythhgcbegcbhaeaa.Ins
open Go.RowKit
set_option linter.unusedVariables false

/-- Two instructions compared. -/
theorem eq_run (x y : In) (w : World) : (Op.equalIn 10000 55 (.agg x.cells) (.agg y.cells)).run Try.prog w = .ok (eqI x y) w := by
  unfold In.cells
  simp [go_sem]
  unfold eqI
  (repeat' split) <;> simp [*]
end Go.Proofs.Ythhgcbegcbhaeaa.Ins
