/-
  The call Do of package bits, over all arguments (a seat that has no bits.Holds).
-/
import Derived.Test.YtllnengcmfgmhaaBitsWb
import Derived.Test.YtllnengcmfgmhaaBitsWc
import Derived.Test.YtllnengcmfgmhaaBitsWd
import Derived.WalkKit
import Derived.WalkSpells
import Derived.WalkLawsBesides
import Derived.Lib.Hide
namespace Go.Proofs.Ytllnengcmfgmhaa
open Go.RowKit

def widthB (w : Int) : Bool := w == 8 || w == 16 || w == 32 || w == 64

theorem compute_any (op w a b : Int) (W : World) (h0 : 0 ≤ op) (h12 : op ≤ 12) (hl : longB w = true) (ha0 : 0 ≤ a) (ha1 : a < 18446744073709551616) (hb0 : 0 ≤ b) (hb1 : b < 18446744073709551616) :
    Calls Try.prog 39 #[.int .i8 op, .int .i8 w, .int .u64 a, .int .u64 b] W fun e w' => e = .returned (.int .u64 (opI op w a b)) ∧ Below W.heap.size W w' := by
  have hc : op = 0 ∨ op = 1 ∨ op = 2 ∨ op = 3 ∨ op = 4 ∨ op = 5 ∨ op = 6 ∨ op = 7 ∨ op = 8 ∨ op = 9 ∨ op = 10 ∨ op = 11 ∨ op = 12 := by omega
  rcases hc with rfl | rfl | rfl | rfl | rfl | rfl | rfl | rfl | rfl | rfl | rfl | rfl | rfl
  · exact compute_0 w a b W
  · exact compute_1 w a b W
  · exact compute_2 w a b W
  · exact compute_3 w a b W ha0 ha1 hb0 hb1
  · exact compute_4 w a b W ha0 ha1 hb0 hb1
  · exact compute_5 w a b W ha0 ha1 hb0 hb1
  · rcases longB_cases hl with rfl | rfl
    · exact compute_6_32 a b W hb0 hb1
    · exact compute_6_64 a b W hb0 hb1
  · rcases longB_cases hl with rfl | rfl
    · exact compute_7_32 a b W hb0 hb1
    · exact compute_7_64 a b W hb0 hb1
  · exact compute_8 w a b W
  · exact compute_9 w a b W ha0 ha1 hb0 hb1
  · exact compute_10 w a b W ha0 ha1 hb0 hb1
  · exact compute_11 w a b W
  · rcases longB_cases hl with rfl | rfl
    · exact compute_12_32 a b W hb0 hb1
    · exact compute_12_64 a b W hb0 hb1

theorem computes_t (w : Int) (W : World) (h : longB w = true) : Calls Try.prog 38 #[.int .i8 w] W fun e w' => e = .returned (.bool true) ∧ W = w' := by
  have := computes_any w W; rw [h] at this; exact this
theorem computes_f (w : Int) (W : World) (h : longB w = false) : Calls Try.prog 38 #[.int .i8 w] W fun e w' => e = .returned (.bool false) ∧ W = w' := by
  have := computes_any w W; rw [h] at this; exact this

set_option maxHeartbeats 1000000 in
theorem do_any (op w a b : Int) (W : World) (ha0 : 0 ≤ a) (ha1 : a < 18446744073709551616) (hb0 : 0 ≤ b) (hb1 : b < 18446744073709551616) :
    Calls Try.prog 27 #[.int .i8 op, .int .i8 w, .int .u64 a, .int .u64 b] W fun e w' => e = .returned (.tuple #[.int .u64 (doI op w a b), .int .i64 (doE op w)]) ∧ Below W.heap.size W w' := by
  by_cases h1 : op < 0
  · have e1 : doI op w a b = 0 := if_neg (by omega)
    have e2 : doE op w = 2 := if_neg (by omega)
    rw [e1, e2]; clear e1 e2
    go_enter Try.func27, Try.ntmps27
    go_wp2
    go_ret2
    exact ⟨rfl, Below.refl _ _⟩
  by_cases h2 : 12 < op
  · have e1 : doI op w a b = 0 := if_neg (by omega)
    have e2 : doE op w = 2 := if_neg (by omega)
    rw [e1, e2]; clear e1 e2
    go_enter Try.func27, Try.ntmps27
    go_wp2
    go_ret2
    exact ⟨rfl, Below.refl _ _⟩
  cases hl : longB w
  · have e1 : doI op w a b = 0 := if_neg (by simp [hl])
    have e2 : doE op w = 2 := if_neg (by simp [hl])
    rw [e1, e2]; clear e1 e2
    have HL := Lib.hid hl; clear hl
    go_enter Try.func27, Try.ntmps27
    go_wp2_with (go_at_call 38; refine (computes_f _ _ HL.out).mono ?_; rintro e w' ⟨rfl, rfl⟩)
    go_ret2
    exact ⟨rfl, Below.refl _ _⟩
  · have e1 : doI op w a b = cutI (opI op w (cutI a w) (cutI b w)) w := if_pos ⟨by omega, by omega, hl⟩
    have e2 : doE op w = 0 := if_pos ⟨by omega, by omega, hl⟩
    rw [e1, e2]; clear e1 e2
    have HL := Lib.hid hl; clear hl
    obtain ⟨c0, c1⟩ := cutI_bd a w ha0 ha1
    obtain ⟨d0, d1⟩ := cutI_bd b w hb0 hb1
    go_enter Try.func27, Try.ntmps27
    go_wp2_with (first | (go_at_call 38; refine (computes_t _ _ HL.out).mono ?_; rintro e w' ⟨rfl, rfl⟩) | (go_at_call 28; refine (cut_any _ _ _).mono ?_; rintro e w' ⟨rfl, rfl⟩) | (go_at_call 39; refine (compute_any op w (cutI a w) (cutI b w) _ (by omega) (by omega) HL.out c0 c1 d0 d1).mono ?_; rintro e w' ⟨rfl, hb⟩))
    go_ret2
    exact ⟨rfl, by assumption⟩

end Go.Proofs.Ytllnengcmfgmhaa
