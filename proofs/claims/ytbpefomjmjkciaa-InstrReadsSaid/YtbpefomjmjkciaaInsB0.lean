/-
  Package instr: fits, kind by kind.
-/
import Derived.Test.YtbpefomjmjkciaaInsB00
namespace Go.Proofs.Ytbpefomjmjkciaa.Ins
open Go.RowKit
set_option linter.unusedVariables false

set_option maxRecDepth 100000 in
set_option maxHeartbeats 4000000 in
theorem fits_d (kind op width size : Int) (byReg : Bool) (dst src off imm : Int) (W : World) (hd : regI dst = false) :
    Calls Try.prog 77 #[.agg (In.mk kind op width size byReg dst src off imm).cells] W fun e w' => e = .returned (.bool false) ∧ Below W.heap.size W w' := by
  have HD := Lib.hid (fun W => reg_f dst W hd)
  clear hd
  unfold In.cells
  simp only
  go_enter Try.func77, Try.ntmps77
  go_wp2_with (first | (go_at_call 110; refine (HD.out _).mono ?_; rintro e w' ⟨rfl, rfl⟩))
  go_ret
  exact ⟨rfl, below_new (Below.refl _ _) _⟩
set_option maxRecDepth 100000 in
set_option maxHeartbeats 4000000 in
theorem fits_s (kind op width size : Int) (byReg : Bool) (dst src off imm : Int) (W : World) (hd : regI dst = true) (hs : regI src = false) :
    Calls Try.prog 77 #[.agg (In.mk kind op width size byReg dst src off imm).cells] W fun e w' => e = .returned (.bool false) ∧ Below W.heap.size W w' := by
  have HD := Lib.hid (fun W => reg_t dst W hd)
  clear hd
  have HS := Lib.hid (fun W => reg_f src W hs)
  clear hs
  unfold In.cells
  simp only
  go_enter Try.func77, Try.ntmps77
  go_wp2_with (first | (go_at_call 110; refine (HD.out _).mono ?_; rintro e w' ⟨rfl, rfl⟩) | (go_at_call 110; refine (HS.out _).mono ?_; rintro e w' ⟨rfl, rfl⟩))
  go_ret
  exact ⟨rfl, below_new (Below.refl _ _) _⟩
set_option maxRecDepth 100000 in
set_option maxHeartbeats 4000000 in
theorem fits_o (kind op width size : Int) (byReg : Bool) (dst src off imm : Int) (W : World) (hd : regI dst = true) (hs : regI src = true) (ho : ¬ (-32768 ≤ off ∧ off ≤ 32767)) :
    Calls Try.prog 77 #[.agg (In.mk kind op width size byReg dst src off imm).cells] W fun e w' => e = .returned (.bool false) ∧ Below W.heap.size W w' := by
  have HD := Lib.hid (fun W => reg_t dst W hd)
  clear hd
  have HS := Lib.hid (fun W => reg_t src W hs)
  clear hs
  have ho' := i16_out ho
  clear ho
  unfold In.cells
  simp only
  go_enter Try.func77, Try.ntmps77
  go_wp2_with (first | (go_at_call 110; refine (HD.out _).mono ?_; rintro e w' ⟨rfl, rfl⟩) | (go_at_call 110; refine (HS.out _).mono ?_; rintro e w' ⟨rfl, rfl⟩))
  go_ret
  exact ⟨rfl, below_new (Below.refl _ _) _⟩
set_option maxRecDepth 100000 in
set_option maxHeartbeats 4000000 in
theorem fits_i (kind op width size : Int) (byReg : Bool) (dst src off imm : Int) (W : World) (hd : regI dst = true) (hs : regI src = true) (ho : -32768 ≤ off ∧ off ≤ 32767) (hi : ¬ (-2147483648 ≤ imm ∧ imm ≤ 2147483647)) :
    Calls Try.prog 77 #[.agg (In.mk kind op width size byReg dst src off imm).cells] W fun e w' => e = .returned (.bool false) ∧ Below W.heap.size W w' := by
  have HD := Lib.hid (fun W => reg_t dst W hd)
  clear hd
  have HS := Lib.hid (fun W => reg_t src W hs)
  clear hs
  have ho' := i16_in ho
  have hi' := i32_out hi
  clear ho hi
  unfold In.cells
  simp only
  go_enter Try.func77, Try.ntmps77
  go_wp2_with (first | (go_at_call 110; refine (HD.out _).mono ?_; rintro e w' ⟨rfl, rfl⟩) | (go_at_call 110; refine (HS.out _).mono ?_; rintro e w' ⟨rfl, rfl⟩))
  go_ret
  exact ⟨rfl, below_new (Below.refl _ _) _⟩
set_option maxRecDepth 100000 in
set_option maxHeartbeats 4000000 in
theorem fits_x (kind op width size : Int) (byReg : Bool) (dst src off imm : Int) (W : World) (hd : regI dst = true) (hs : regI src = true) (ho : -32768 ≤ off ∧ off ≤ 32767) (hi : -2147483648 ≤ imm ∧ imm ≤ 2147483647) (h0 : ¬ kind = 0) (h1 : ¬ kind = 1) (h2 : ¬ kind = 2) (h3 : ¬ kind = 3) (h4 : ¬ kind = 4) (h5 : ¬ kind = 5) (h6 : ¬ kind = 6) :
    Calls Try.prog 77 #[.agg (In.mk kind op width size byReg dst src off imm).cells] W fun e w' => e = .returned (.bool false) ∧ Below W.heap.size W w' := by
  have HD := Lib.hid (fun W => reg_t dst W hd)
  clear hd
  have HS := Lib.hid (fun W => reg_t src W hs)
  clear hs
  have ho' := i16_in ho
  have hi' := i32_in hi
  clear ho hi
  unfold In.cells
  simp only
  go_enter Try.func77, Try.ntmps77
  go_wp2_with (first | (go_at_call 110; refine (HD.out _).mono ?_; rintro e w' ⟨rfl, rfl⟩) | (go_at_call 110; refine (HS.out _).mono ?_; rintro e w' ⟨rfl, rfl⟩))
  all_goals
    go_ret
    exact ⟨retB (by simp [*]), below_new (Below.refl _ _) _⟩
end Go.Proofs.Ytbpefomjmjkciaa.Ins
