/-
  Which function tells a condition. (Written by gen_fl.py.)
-/
import Derived.Test.YtllnengcmfgmhaaFlC
namespace Go.Proofs.Ytllnengcmfgmhaa.Flg
open Go Go.RowKit
set_option linter.unusedVariables false
set_option linter.unusedSimpArgs false
set_option linter.unnecessarySimpa false
set_option maxRecDepth 100000




set_option maxHeartbeats 2000000 in
theorem cond_no0 (W : World) : Calls Try.prog 34 #[.int .i8 0] W fun e w' => e = .returned (.nilFunc) ∧ Below W.heap.size W w' := by
  go_enter Try.func34, Try.ntmps34
  go_wp2
  go_ret
  refine ⟨rfl, ?_⟩
  repeat (first | exact Below.refl _ _ | refine below_new ?_ _)

set_option maxHeartbeats 2000000 in
theorem cond_no1 (W : World) : Calls Try.prog 34 #[.int .i8 1] W fun e w' => e = .returned (.nilFunc) ∧ Below W.heap.size W w' := by
  go_enter Try.func34, Try.ntmps34
  go_wp2
  go_ret
  refine ⟨rfl, ?_⟩
  repeat (first | exact Below.refl _ _ | refine below_new ?_ _)

set_option maxHeartbeats 2000000 in
theorem cond_no8 (W : World) : Calls Try.prog 34 #[.int .i8 8] W fun e w' => e = .returned (.nilFunc) ∧ Below W.heap.size W w' := by
  go_enter Try.func34, Try.ntmps34
  go_wp2
  go_ret
  refine ⟨rfl, ?_⟩
  repeat (first | exact Below.refl _ _ | refine below_new ?_ _)

set_option maxHeartbeats 2000000 in
theorem cond_no9 (W : World) : Calls Try.prog 34 #[.int .i8 9] W fun e w' => e = .returned (.nilFunc) ∧ Below W.heap.size W w' := by
  go_enter Try.func34, Try.ntmps34
  go_wp2
  go_ret
  refine ⟨rfl, ?_⟩
  repeat (first | exact Below.refl _ _ | refine below_new ?_ _)

set_option maxHeartbeats 2000000 in
theorem cond_no10 (W : World) : Calls Try.prog 34 #[.int .i8 10] W fun e w' => e = .returned (.nilFunc) ∧ Below W.heap.size W w' := by
  go_enter Try.func34, Try.ntmps34
  go_wp2
  go_ret
  refine ⟨rfl, ?_⟩
  repeat (first | exact Below.refl _ _ | refine below_new ?_ _)

set_option maxHeartbeats 2000000 in
theorem cond_no11 (W : World) : Calls Try.prog 34 #[.int .i8 11] W fun e w' => e = .returned (.nilFunc) ∧ Below W.heap.size W w' := by
  go_enter Try.func34, Try.ntmps34
  go_wp2
  go_ret
  refine ⟨rfl, ?_⟩
  repeat (first | exact Below.refl _ _ | refine below_new ?_ _)
end Go.Proofs.Ytllnengcmfgmhaa.Flg
