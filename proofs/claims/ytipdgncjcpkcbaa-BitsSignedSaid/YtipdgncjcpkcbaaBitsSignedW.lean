/-
  The walk of the law BitsSigned.
-/
import Derived.Test.YtipdgncjcpkcbaaBitsSignedA
import Derived.Test.YtipdgncjcpkcbaaBitsSignedB
namespace Go.Proofs.Ytipdgncjcpkcbaa
open Go.RowKit

set_option maxHeartbeats 1000000 in
theorem bitsSigned_32 (a b : Int) (W : World) (ha0 : 0 ≤ a) (ha1 : a < 18446744073709551616) (hb0 : 0 ≤ b) (hb1 : b < 18446744073709551616) :
    Calls Try.prog 7 #[.int .i8 32, .int .u64 a, .int .u64 b] W fun e w' => e = .returned (.bool true) ∧ Below W.heap.size W w' := by
  have f1 := neqF (cutsign a 32)
  have f2 := neqF (signcut a 32)
  have C1 := fun W => holds_any 8 32 a b W ha0 ha1 hb0 hb1
  have C2 := fun W => holds_any 0 32 a b W ha0 ha1 hb0 hb1
  rw [less_32] at C1; rw [same_32] at C2
  have D1 := Lib.hid C1; clear C1
  have D2 := Lib.hid C2; clear C2
  go_enter Try.func7, Try.ntmps7
  go_wp2_with (first | (go_at_call 13; refine (width_t _ _ rfl).mono ?_; rintro e w' ⟨rfl, rfl⟩) | (go_at_call 10; refine (cut_any _ _ _).mono ?_; rintro e w' ⟨rfl, rfl⟩) | (go_at_call 14; refine (sign_any _ _ _).mono ?_; rintro e w' ⟨rfl, rfl⟩) | (go_at_call 9; refine (wakes_any _).mono ?_; rintro e w' ⟨rfl, hb⟩) | (go_at_call 15; (with_reducible refine (D1.out _).mono ?_); rintro e w' ⟨rfl, rfl⟩) | (go_at_call 15; (with_reducible refine (D2.out _).mono ?_); rintro e w' ⟨rfl, rfl⟩))
  go_ret
  exact ⟨rfl, by assumption⟩

set_option maxHeartbeats 1000000 in
theorem bitsSigned_64 (a b : Int) (W : World) (ha0 : 0 ≤ a) (ha1 : a < 18446744073709551616) (hb0 : 0 ≤ b) (hb1 : b < 18446744073709551616) :
    Calls Try.prog 7 #[.int .i8 64, .int .u64 a, .int .u64 b] W fun e w' => e = .returned (.bool true) ∧ Below W.heap.size W w' := by
  have f1 := neqF (cutsign a 64)
  have f2 := neqF (signcut a 64)
  have C1 := fun W => holds_any 8 64 a b W ha0 ha1 hb0 hb1
  have C2 := fun W => holds_any 0 64 a b W ha0 ha1 hb0 hb1
  rw [less_64] at C1; rw [same_64 a b ha0 ha1 hb0 hb1] at C2
  have D1 := Lib.hid C1; clear C1
  have D2 := Lib.hid C2; clear C2
  go_enter Try.func7, Try.ntmps7
  go_wp2_with (first | (go_at_call 13; refine (width_t _ _ rfl).mono ?_; rintro e w' ⟨rfl, rfl⟩) | (go_at_call 10; refine (cut_any _ _ _).mono ?_; rintro e w' ⟨rfl, rfl⟩) | (go_at_call 14; refine (sign_any _ _ _).mono ?_; rintro e w' ⟨rfl, rfl⟩) | (go_at_call 9; refine (wakes_any _).mono ?_; rintro e w' ⟨rfl, hb⟩) | (go_at_call 15; (with_reducible refine (D1.out _).mono ?_); rintro e w' ⟨rfl, rfl⟩) | (go_at_call 15; (with_reducible refine (D2.out _).mono ?_); rintro e w' ⟨rfl, rfl⟩))
  go_ret
  exact ⟨rfl, by assumption⟩
theorem bitsSigned_walk (w a b : Int) (_hw : (Lit.int .i8 w).wf = true) (ha : (Lit.int .u64 a).wf = true) (hb : (Lit.int .u64 b).wf = true) (W : World) :
    Calls Try.prog 7 #[.int .i8 w, .int .u64 a, .int .u64 b] W fun e w' => e = .returned (.bool true) ∧ Below W.heap.size W w' := by
  obtain ⟨ha0, ha1⟩ := bd_u64 ha
  obtain ⟨hb0, hb1⟩ := bd_u64 hb
  cases h : widthB w
  · exact bitsSigned_no w a b h W
  · rcases widthB_t h with rfl | rfl | rfl | rfl
    · exact bitsSigned_8 a b W
    · exact bitsSigned_16 a b W
    · exact bitsSigned_32 a b W ha0 ha1 hb0 hb1
    · exact bitsSigned_64 a b W ha0 ha1 hb0 hb1
end Go.Proofs.Ytipdgncjcpkcbaa
