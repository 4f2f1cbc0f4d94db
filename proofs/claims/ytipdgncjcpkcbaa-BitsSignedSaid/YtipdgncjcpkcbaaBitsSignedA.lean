/-
  The law BitsSigned at the width 8.
-/
import Derived.Test.YtipdgncjcpkcbaaBitsSignedM
import Derived.Deep.RegionWith
namespace Go.Proofs.Ytipdgncjcpkcbaa
open Go.RowKit

set_option maxHeartbeats 8000000 in
theorem bitsSigned_8 (a b : Int) (W : World) :
    Calls Try.prog 7 #[.int .i8 8, .int .u64 a, .int .u64 b] W fun e w' => e = .returned (.bool true) ∧ Below W.heap.size W w' := by
  have f1 := neqF (cutsign a 8)
  have f2 := neqF (signcut a 8)
  have f3 : -128 ≤ wrap64 (signI a 8) := by rw [wrap64_is, signI_8]; omega
  have f4 : wrap64 (signI a 8) < 128 := by rw [wrap64_is, signI_8]; omega
  have f5 : IntKind.i8.wrap 7 = 7 := rfl
  have f6 : IntKind.i64.wrap (-128) = -128 := rfl
  have f7 : IntKind.i64.wrap 128 = 128 := rfl
  have f8 : IntKind.i64.wrap (signI a 8) = wrap64 (signI a 8) := IntWalk.i64_left _
  go_enter Try.func7, Try.ntmps7
  go_wp2_with (first | (go_at_call 13; refine (width_t _ _ rfl).mono ?_; rintro e w' ⟨rfl, rfl⟩) | (go_at_call 10; refine (cut_any _ _ _).mono ?_; rintro e w' ⟨rfl, rfl⟩) | (go_at_call 14; refine (sign_any _ _ _).mono ?_; rintro e w' ⟨rfl, rfl⟩) | (go_at_call 9; refine (wakes_any _).mono ?_; rintro e w' ⟨rfl, hb⟩))
  clear f1 f2
  go_region_with (first | (go_at_call 14; refine (sign_any _ _ _).mono ?_; rintro e w' ⟨rfl, rfl⟩) | (go_at_call 9; refine (wakes_any _).mono ?_; rintro e w' ⟨rfl, hb⟩))
  all_goals (go_wp2; go_ret; first | exact ⟨rfl, (Below.refl _ _).drew.trans hb⟩ | exact ⟨rfl, (Below.refl _ _).drew.trans (by assumption)⟩)

end Go.Proofs.Ytipdgncjcpkcbaa
