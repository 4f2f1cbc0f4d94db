/-
  Package instr: an instruction's code and its encoding as one number.
-/
import Derived.Test.YtbpefomjmjkciaaInsC
namespace Go.Proofs.Ytbpefomjmjkciaa.Ins
open Go.RowKit
set_option linter.unusedVariables false

set_option maxRecDepth 100000 in
theorem tz_0 (W : World) : Calls Try.prog 113 #[.int .u8 0] W fun e w' => e = .returned (.int .i64 8) ∧ W = w' := by
  go_enter Try.func113, Try.ntmps113
  go_wp2
  go_ret
  exact ⟨by kernel_rfl, rfl⟩
set_option maxRecDepth 100000 in
theorem tz_1 (W : World) : Calls Try.prog 113 #[.int .u8 1] W fun e w' => e = .returned (.int .i64 0) ∧ W = w' := by
  go_enter Try.func113, Try.ntmps113
  go_wp2
  go_ret
  exact ⟨by kernel_rfl, rfl⟩
set_option maxRecDepth 100000 in
theorem tz_2 (W : World) : Calls Try.prog 113 #[.int .u8 2] W fun e w' => e = .returned (.int .i64 1) ∧ W = w' := by
  go_enter Try.func113, Try.ntmps113
  go_wp2
  go_ret
  exact ⟨by kernel_rfl, rfl⟩
set_option maxRecDepth 100000 in
theorem tz_4 (W : World) : Calls Try.prog 113 #[.int .u8 4] W fun e w' => e = .returned (.int .i64 2) ∧ W = w' := by
  go_enter Try.func113, Try.ntmps113
  go_wp2
  go_ret
  exact ⟨by kernel_rfl, rfl⟩
set_option maxRecDepth 100000 in
theorem tz_8 (W : World) : Calls Try.prog 113 #[.int .u8 8] W fun e w' => e = .returned (.int .i64 3) ∧ W = w' := by
  go_enter Try.func113, Try.ntmps113
  go_wp2
  go_ret
  exact ⟨by kernel_rfl, rfl⟩

set_option maxRecDepth 100000 in
set_option maxHeartbeats 4000000 in
theorem code_any (x : In) (W : World) (h : mayI x = true) : Calls Try.prog 87 #[.agg x.cells] W fun e w' => e = .returned (.int .u8 (codeI x)) ∧ Below W.heap.size W w' := by
  have hc := code_cases h
  clear h
  generalize codeI x = c at *
  obtain ⟨kind, op, width, size, byReg, dst, src, off, imm⟩ := x
  unfold In.cells
  simp only at *
  rcases hc with ⟨rfl, o0, o1, rfl, ⟨rfl, rfl, rfl⟩ | ⟨rfl, rfl, rfl⟩ | ⟨rfl, rfl, rfl⟩ | ⟨rfl, rfl, rfl⟩⟩ | ⟨rfl, rfl, rfl, rfl, ⟨rfl, rfl⟩ | ⟨rfl, rfl⟩ | ⟨rfl, rfl⟩ | ⟨rfl, rfl⟩⟩ | ⟨rfl, rfl, rfl, rfl, ⟨rfl, rfl⟩ | ⟨rfl, rfl⟩ | ⟨rfl, rfl⟩ | ⟨rfl, rfl⟩⟩ | ⟨rfl, o0, o1, rfl, rfl, ⟨rfl, rfl⟩ | ⟨rfl, rfl⟩⟩ | ⟨rfl, rfl, rfl, rfl, rfl, rfl⟩ | ⟨rfl, rfl, rfl, rfl, rfl, rfl⟩ | ⟨rfl, rfl, rfl, rfl, rfl, rfl⟩
  all_goals
    go_enter Try.func87, Try.ntmps87
    go_wp2_with (go_at_call 113; first | (refine (tz_0 _).mono ?_; rintro e w' ⟨rfl, rfl⟩) | (refine (tz_1 _).mono ?_; rintro e w' ⟨rfl, rfl⟩) | (refine (tz_2 _).mono ?_; rintro e w' ⟨rfl, rfl⟩) | (refine (tz_4 _).mono ?_; rintro e w' ⟨rfl, rfl⟩) | (refine (tz_8 _).mono ?_; rintro e w' ⟨rfl, rfl⟩))
    go_ret
    refine ⟨retI ?_, below_new (Below.refl _ _) _⟩
    first | rfl | omega | (simp [IntKind.wrap, IntKind.signed, IntKind.bits]; omega)
end Go.Proofs.Ytbpefomjmjkciaa.Ins
