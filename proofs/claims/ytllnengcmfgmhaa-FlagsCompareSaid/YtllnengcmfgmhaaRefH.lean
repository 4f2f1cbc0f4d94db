/-
  The document's own answer for conditions of words (latheref01.Holds), where the seat has no latheref01.Do.
-/
import Derived.Test.YtllnengcmfgmhaaRefA
namespace Go.Proofs.Ytllnengcmfgmhaa
open Go.RowKit
set_option linter.unusedVariables false

theorem retBI {l : IntKind} {a b : Bool} {c : Int} (h : a = b) : Ending.returned (.tuple #[.bool a, .int l c]) = .returned (.tuple #[.bool b, .int l c]) := by rw [h]
set_option maxRecDepth 100000 in
set_option maxHeartbeats 4000000 in
theorem refholds_in (cc w a b : Int) (W : World) (h0 : 0 ≤ cc) (h10 : cc ≤ 10) (hl : longB w = true) (ha0 : 0 ≤ a) (ha1 : a < 18446744073709551616) (hb0 : 0 ≤ b) (hb1 : b < 18446744073709551616) :
    Calls Try.prog 24 #[.int .i8 cc, .int .i8 w, .int .u64 a, .int .u64 b] W fun e w' => e = .returned (.tuple #[.bool (ccB cc w (cutI a w) (cutI b w)), .int .i64 0]) ∧ W = w' := by
  obtain ⟨c0, c1⟩ := cutI_bd a w ha0 ha1
  obtain ⟨d0, d1⟩ := cutI_bd b w hb0 hb1
  have sa : wrap64 (signI (cutI a w) w) = sgnI (cutI a w) w := by
    rcases longB_cases hl with rfl | rfl
    · exact (IntWalk.i64_left _).symm.trans (wrap64_sign32 _)
    · exact (IntWalk.i64_left _).symm.trans (wrap64_sign64 _)
  have sb : wrap64 (signI (cutI b w) w) = sgnI (cutI b w) w := by
    rcases longB_cases hl with rfl | rfl
    · exact (IntWalk.i64_left _).symm.trans (wrap64_sign32 _)
    · exact (IntWalk.i64_left _).symm.trans (wrap64_sign64 _)
  have hc : cc = 0 ∨ cc = 1 ∨ cc = 2 ∨ cc = 3 ∨ cc = 4 ∨ cc = 5 ∨ cc = 6 ∨ cc = 7 ∨ cc = 8 ∨ cc = 9 ∨ cc = 10 := by omega
  clear h0 h10
  have HL := Lib.hid hl; clear hl
  rcases hc with rfl | rfl | rfl | rfl | rfl | rfl | rfl | rfl | rfl | rfl | rfl
  all_goals
    go_enter Try.func24, Try.ntmps24
    go_wp2_with (first | (go_at_call 36; refine (reflong_t _ _ HL.out).mono ?_; rintro e w' ⟨rfl, rfl⟩) | (go_at_call 25; refine (refcut_any _ _ _).mono ?_; rintro e w' ⟨rfl, rfl⟩) | (go_at_call 26; refine (refsign_any _ _ _).mono ?_; rintro e w' ⟨rfl, rfl⟩))
    go_ret2
    refine ⟨retBI ?_, rfl⟩
    first | rfl | (rw [u64_and _ _ c0 c1 d0 d1]; rfl)

set_option maxRecDepth 100000 in
set_option maxHeartbeats 1000000 in
theorem refholds_any (cc w a b : Int) (W : World) (ha0 : 0 ≤ a) (ha1 : a < 18446744073709551616) (hb0 : 0 ≤ b) (hb1 : b < 18446744073709551616) :
    Calls Try.prog 24 #[.int .i8 cc, .int .i8 w, .int .u64 a, .int .u64 b] W fun e w' => e = .returned (.tuple #[.bool (holdsB cc w a b), .int .i64 (holdsE cc w)]) ∧ W = w' := by
  by_cases h1 : cc < 0
  · rw [show holdsB cc w a b = false from if_neg (by omega), show holdsE cc w = 2 from if_neg (by omega)]
    go_enter Try.func24, Try.ntmps24
    go_wp2
    go_ret2
    exact ⟨rfl, rfl⟩
  by_cases h2 : 10 < cc
  · rw [show holdsB cc w a b = false from if_neg (by omega), show holdsE cc w = 2 from if_neg (by omega)]
    go_enter Try.func24, Try.ntmps24
    go_wp2
    go_ret2
    exact ⟨rfl, rfl⟩
  cases hl : longB w
  · rw [show holdsB cc w a b = false from if_neg (by simp [hl]), show holdsE cc w = 2 from if_neg (by simp [hl])]
    have HL := Lib.hid hl; clear hl
    go_enter Try.func24, Try.ntmps24
    go_wp2_with (go_at_call 36; refine (reflong_f _ _ HL.out).mono ?_; rintro e w' ⟨rfl, rfl⟩)
    go_ret2
    exact ⟨rfl, rfl⟩
  · have h := refholds_in cc w a b W (by omega) (by omega) hl ha0 ha1 hb0 hb1
    rw [show holdsB cc w a b = ccB cc w (cutI a w) (cutI b w) from if_pos ⟨by omega, by omega, hl⟩, show holdsE cc w = 0 from if_pos ⟨by omega, by omega, hl⟩]
    exact h
end Go.Proofs.Ytllnengcmfgmhaa
