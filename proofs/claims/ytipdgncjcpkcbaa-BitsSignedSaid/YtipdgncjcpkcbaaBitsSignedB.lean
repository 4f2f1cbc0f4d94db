/-
  The law BitsSigned at the width 16.
-/
import Derived.Test.YtipdgncjcpkcbaaBitsSignedM
import Derived.Deep.RegionWith
namespace Go.Proofs.Ytipdgncjcpkcbaa
open Go.RowKit

set_option maxHeartbeats 8000000 in
theorem bitsSigned_16 (a b : Int) (W : World) :
    Calls Try.prog 7 #[.int .i8 16, .int .u64 a, .int .u64 b] W fun e w' => e = .returned (.bool true) ∧ Below W.heap.size W w' := by
  have f1 := neqF (cutsign a 16)
  have f2 := neqF (signcut a 16)
  have f3 : -32768 ≤ wrap64 (signI a 16) := by rw [wrap64_is, signI_16]; omega
  have f4 : wrap64 (signI a 16) < 32768 := by rw [wrap64_is, signI_16]; omega
  have f5 : IntKind.i8.wrap 15 = 15 := rfl
  have f6 : IntKind.i64.wrap (-32768) = -32768 := rfl
  have f7 : IntKind.i64.wrap 32768 = 32768 := rfl
  have f8 : IntKind.i64.wrap (signI a 16) = wrap64 (signI a 16) := IntWalk.i64_left _
  go_enter Try.func7, Try.ntmps7
  go_wp2_with (first | (go_at_call 13; refine (width_t _ _ rfl).mono ?_; rintro e w' ⟨rfl, rfl⟩) | (go_at_call 10; refine (cut_any _ _ _).mono ?_; rintro e w' ⟨rfl, rfl⟩) | (go_at_call 14; refine (sign_any _ _ _).mono ?_; rintro e w' ⟨rfl, rfl⟩) | (go_at_call 9; refine (wakes_any _).mono ?_; rintro e w' ⟨rfl, hb⟩))
  clear f1 f2
  go_region_with (first | (go_at_call 14; refine (sign_any _ _ _).mono ?_; rintro e w' ⟨rfl, rfl⟩) | (go_at_call 9; refine (wakes_any _).mono ?_; rintro e w' ⟨rfl, hb⟩))
  all_goals (go_wp2; go_ret; first | exact ⟨rfl, (Below.refl _ _).drew.trans hb⟩ | exact ⟨rfl, (Below.refl _ _).drew.trans (by assumption)⟩)

end Go.Proofs.Ytipdgncjcpkcbaa
