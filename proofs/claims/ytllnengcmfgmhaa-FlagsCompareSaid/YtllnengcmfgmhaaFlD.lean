/-
  Which function tells a condition. (Written by gen_fl.py.)
-/
import Derived.Test.YtllnengcmfgmhaaFlC
namespace Go.Proofs.Ytllnengcmfgmhaa.Flg
open Go Go.RowKit
set_option linter.unusedVariables false
set_option linter.unusedSimpArgs false
set_option linter.unnecessarySimpa false
set_option maxRecDepth 100000




set_option maxHeartbeats 2000000 in
theorem cond_2 (W : World) : Calls Try.prog 34 #[.int .i8 2] W fun e w' => e = .returned (.func (.func 40) #[] #[]) ∧ Below W.heap.size W w' := by
  go_enter Try.func34, Try.ntmps34
  go_wp2
  go_ret
  refine ⟨rfl, ?_⟩
  repeat (first | exact Below.refl _ _ | refine below_new ?_ _)

set_option maxHeartbeats 2000000 in
theorem cond_3 (W : World) : Calls Try.prog 34 #[.int .i8 3] W fun e w' => e = .returned (.func (.func 41) #[] #[]) ∧ Below W.heap.size W w' := by
  go_enter Try.func34, Try.ntmps34
  go_wp2
  go_ret
  refine ⟨rfl, ?_⟩
  repeat (first | exact Below.refl _ _ | refine below_new ?_ _)

set_option maxHeartbeats 2000000 in
theorem cond_4 (W : World) : Calls Try.prog 34 #[.int .i8 4] W fun e w' => e = .returned (.func (.func 42) #[] #[]) ∧ Below W.heap.size W w' := by
  go_enter Try.func34, Try.ntmps34
  go_wp2
  go_ret
  refine ⟨rfl, ?_⟩
  repeat (first | exact Below.refl _ _ | refine below_new ?_ _)

set_option maxHeartbeats 2000000 in
theorem cond_5 (W : World) : Calls Try.prog 34 #[.int .i8 5] W fun e w' => e = .returned (.func (.func 43) #[] #[]) ∧ Below W.heap.size W w' := by
  go_enter Try.func34, Try.ntmps34
  go_wp2
  go_ret
  refine ⟨rfl, ?_⟩
  repeat (first | exact Below.refl _ _ | refine below_new ?_ _)

set_option maxHeartbeats 2000000 in
theorem cond_6 (W : World) : Calls Try.prog 34 #[.int .i8 6] W fun e w' => e = .returned (.func (.func 44) #[] #[]) ∧ Below W.heap.size W w' := by
  go_enter Try.func34, Try.ntmps34
  go_wp2
  go_ret
  refine ⟨rfl, ?_⟩
  repeat (first | exact Below.refl _ _ | refine below_new ?_ _)

set_option maxHeartbeats 2000000 in
theorem cond_7 (W : World) : Calls Try.prog 34 #[.int .i8 7] W fun e w' => e = .returned (.func (.func 45) #[] #[]) ∧ Below W.heap.size W w' := by
  go_enter Try.func34, Try.ntmps34
  go_wp2
  go_ret
  refine ⟨rfl, ?_⟩
  repeat (first | exact Below.refl _ _ | refine below_new ?_ _)
end Go.Proofs.Ytllnengcmfgmhaa.Flg
