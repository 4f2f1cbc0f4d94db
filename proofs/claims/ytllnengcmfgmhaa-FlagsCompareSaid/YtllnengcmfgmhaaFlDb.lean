/-
  Which function tells a condition. (Written by gen_fl.py.)
-/
import Derived.Test.YtllnengcmfgmhaaFlC
namespace Go.Proofs.Ytllnengcmfgmhaa.Flg
open Go Go.RowKit
set_option linter.unusedVariables false
set_option linter.unusedSimpArgs false
set_option linter.unnecessarySimpa false
set_option maxRecDepth 100000




set_option maxHeartbeats 2000000 in
theorem cond_12 (W : World) : Calls Try.prog 34 #[.int .i8 12] W fun e w' => e = .returned (.func (.func 46) #[] #[]) ∧ Below W.heap.size W w' := by
  go_enter Try.func34, Try.ntmps34
  go_wp2
  go_ret
  refine ⟨rfl, ?_⟩
  repeat (first | exact Below.refl _ _ | refine below_new ?_ _)

set_option maxHeartbeats 2000000 in
theorem cond_13 (W : World) : Calls Try.prog 34 #[.int .i8 13] W fun e w' => e = .returned (.func (.func 47) #[] #[]) ∧ Below W.heap.size W w' := by
  go_enter Try.func34, Try.ntmps34
  go_wp2
  go_ret
  refine ⟨rfl, ?_⟩
  repeat (first | exact Below.refl _ _ | refine below_new ?_ _)

set_option maxHeartbeats 2000000 in
theorem cond_14 (W : World) : Calls Try.prog 34 #[.int .i8 14] W fun e w' => e = .returned (.func (.func 48) #[] #[]) ∧ Below W.heap.size W w' := by
  go_enter Try.func34, Try.ntmps34
  go_wp2
  go_ret
  refine ⟨rfl, ?_⟩
  repeat (first | exact Below.refl _ _ | refine below_new ?_ _)

set_option maxHeartbeats 2000000 in
theorem cond_15 (W : World) : Calls Try.prog 34 #[.int .i8 15] W fun e w' => e = .returned (.func (.func 49) #[] #[]) ∧ Below W.heap.size W w' := by
  go_enter Try.func34, Try.ntmps34
  go_wp2
  go_ret
  refine ⟨rfl, ?_⟩
  repeat (first | exact Below.refl _ _ | refine below_new ?_ _)

set_option maxHeartbeats 2000000 in
theorem cond_neg (cc : Int) (h : cc < 0) (W : World) : Calls Try.prog 34 #[.int .i8 cc] W fun e w' => e = .returned (.nilFunc) ∧ Below W.heap.size W w' := by
  go_enter Try.func34, Try.ntmps34
  go_wp2
  go_ret
  refine ⟨rfl, ?_⟩
  repeat (first | exact Below.refl _ _ | refine below_new ?_ _)
set_option maxHeartbeats 2000000 in
theorem cond_big (cc : Int) (h : 16 ≤ cc) (h1 : cc ≤ 127) (W : World) : Calls Try.prog 34 #[.int .i8 cc] W fun e w' => e = .returned (.nilFunc) ∧ Below W.heap.size W w' := by
  have h2 : ¬ cc < 0 := by omega
  have h3 : wrap64 cc = cc := by unfold wrap64; omega
  go_enter Try.func34, Try.ntmps34
  go_wp2
  go_ret
  refine ⟨rfl, ?_⟩
  repeat (first | exact Below.refl _ _ | refine below_new ?_ _)
end Go.Proofs.Ytllnengcmfgmhaa.Flg
