/-
  The document's answers Do and Holds of layer 1 over all arguments.
-/
import Derived.Test.YtipdgncjcpkcbaaDoorRefB
import Derived.Test.YtipdgncjcpkcbaaDoorRefC
namespace Go.Proofs.YtipdgncjcpkcbaaDoor
open Go.RowKit
set_option linter.unusedVariables false

theorem refdo_in (op w a b : Int) (W : World) (h0 : 0 ≤ op) (h12 : op ≤ 12) (hl : longB w = true) (ha0 : 0 ≤ a) (ha1 : a < 18446744073709551616) (hb0 : 0 ≤ b) (hb1 : b < 18446744073709551616) :
    Calls Tryd.prog 6 #[.int .i8 op, .int .i8 w, .int .u64 a, .int .u64 b] W fun e w' => e = .returned (.tuple #[.int .u64 (doI op w a b), .int .i64 0]) ∧ W = w' := by
  have hc : op = 0 ∨ op = 1 ∨ op = 2 ∨ op = 3 ∨ op = 4 ∨ op = 5 ∨ op = 6 ∨ op = 7 ∨ op = 8 ∨ op = 9 ∨ op = 10 ∨ op = 11 ∨ op = 12 := by omega
  rcases longB_cases hl with rfl | rfl
  · rcases hc with rfl | rfl | rfl | rfl | rfl | rfl | rfl | rfl | rfl | rfl | rfl | rfl | rfl
    · exact refdo_0_32 a b W ha0 ha1 hb0 hb1
    · exact refdo_1_32 a b W ha0 ha1 hb0 hb1
    · exact refdo_2_32 a b W ha0 ha1 hb0 hb1
    · exact refdo_3_32 a b W ha0 ha1 hb0 hb1
    · exact refdo_4_32 a b W ha0 ha1 hb0 hb1
    · exact refdo_5_32 a b W ha0 ha1 hb0 hb1
    · exact refdo_6_32 a b W ha0 ha1 hb0 hb1
    · exact refdo_7_32 a b W ha0 ha1 hb0 hb1
    · exact refdo_8_32 a b W ha0 ha1 hb0 hb1
    · exact refdo_9_32 a b W ha0 ha1 hb0 hb1
    · exact refdo_10_32 a b W ha0 ha1 hb0 hb1
    · exact refdo_11_32 a b W ha0 ha1 hb0 hb1
    · exact refdo_12_32 a b W ha0 ha1 hb0 hb1
  · rcases hc with rfl | rfl | rfl | rfl | rfl | rfl | rfl | rfl | rfl | rfl | rfl | rfl | rfl
    · exact refdo_0_64 a b W ha0 ha1 hb0 hb1
    · exact refdo_1_64 a b W ha0 ha1 hb0 hb1
    · exact refdo_2_64 a b W ha0 ha1 hb0 hb1
    · exact refdo_3_64 a b W ha0 ha1 hb0 hb1
    · exact refdo_4_64 a b W ha0 ha1 hb0 hb1
    · exact refdo_5_64 a b W ha0 ha1 hb0 hb1
    · exact refdo_6_64 a b W ha0 ha1 hb0 hb1
    · exact refdo_7_64 a b W ha0 ha1 hb0 hb1
    · exact refdo_8_64 a b W ha0 ha1 hb0 hb1
    · exact refdo_9_64 a b W ha0 ha1 hb0 hb1
    · exact refdo_10_64 a b W ha0 ha1 hb0 hb1
    · exact refdo_11_64 a b W ha0 ha1 hb0 hb1
    · exact refdo_12_64 a b W ha0 ha1 hb0 hb1

set_option maxRecDepth 100000 in
set_option maxHeartbeats 1000000 in
theorem refdo_any (op w a b : Int) (W : World) (ha0 : 0 ≤ a) (ha1 : a < 18446744073709551616) (hb0 : 0 ≤ b) (hb1 : b < 18446744073709551616) :
    Calls Tryd.prog 6 #[.int .i8 op, .int .i8 w, .int .u64 a, .int .u64 b] W fun e w' => e = .returned (.tuple #[.int .u64 (doI op w a b), .int .i64 (doE op w)]) ∧ W = w' := by
  by_cases h1 : op < 0
  · rw [show doI op w a b = 0 from if_neg (by omega), show doE op w = 2 from if_neg (by omega)]
    go_enter Tryd.func6, Tryd.ntmps6
    go_wp2
    go_ret2
    exact ⟨rfl, rfl⟩
  by_cases h2 : 12 < op
  · rw [show doI op w a b = 0 from if_neg (by omega), show doE op w = 2 from if_neg (by omega)]
    go_enter Tryd.func6, Tryd.ntmps6
    go_wp2
    go_ret2
    exact ⟨rfl, rfl⟩
  cases hl : longB w
  · rw [show doI op w a b = 0 from if_neg (by simp [hl]), show doE op w = 2 from if_neg (by simp [hl])]
    have HL := Lib.hid hl; clear hl
    go_enter Tryd.func6, Tryd.ntmps6
    go_wp2_with (go_at_call 20; refine (reflong_f _ _ HL.out).mono ?_; rintro e w' ⟨rfl, rfl⟩)
    go_ret2
    exact ⟨rfl, rfl⟩
  · have h := refdo_in op w a b W (by omega) (by omega) hl ha0 ha1 hb0 hb1
    rw [show doE op w = 0 from if_pos ⟨by omega, by omega, hl⟩]
    exact h

theorem retBI {l : IntKind} {a b : Bool} {c : Int} (h : a = b) : Ending.returned (.tuple #[.bool a, .int l c]) = .returned (.tuple #[.bool b, .int l c]) := by rw [h]
set_option maxRecDepth 100000 in
set_option maxHeartbeats 4000000 in
theorem refholds_in (cc w a b : Int) (W : World) (h0 : 0 ≤ cc) (h10 : cc ≤ 10) (hl : longB w = true) (ha0 : 0 ≤ a) (ha1 : a < 18446744073709551616) (hb0 : 0 ≤ b) (hb1 : b < 18446744073709551616) :
    Calls Tryd.prog 8 #[.int .i8 cc, .int .i8 w, .int .u64 a, .int .u64 b] W fun e w' => e = .returned (.tuple #[.bool (ccB cc w (cutI a w) (cutI b w)), .int .i64 0]) ∧ W = w' := by
  obtain ⟨c0, c1⟩ := cutI_bd a w ha0 ha1
  obtain ⟨d0, d1⟩ := cutI_bd b w hb0 hb1
  have sa : wrap64 (signI (cutI a w) w) = sgnI (cutI a w) w := by
    rcases longB_cases hl with rfl | rfl
    · exact (IntWalk.i64_left _).symm.trans (wrap64_sign32 _)
    · exact (IntWalk.i64_left _).symm.trans (wrap64_sign64 _)
  have sb : wrap64 (signI (cutI b w) w) = sgnI (cutI b w) w := by
    rcases longB_cases hl with rfl | rfl
    · exact (IntWalk.i64_left _).symm.trans (wrap64_sign32 _)
    · exact (IntWalk.i64_left _).symm.trans (wrap64_sign64 _)
  have hc : cc = 0 ∨ cc = 1 ∨ cc = 2 ∨ cc = 3 ∨ cc = 4 ∨ cc = 5 ∨ cc = 6 ∨ cc = 7 ∨ cc = 8 ∨ cc = 9 ∨ cc = 10 := by omega
  clear h0 h10
  have HL := Lib.hid hl; clear hl
  rcases hc with rfl | rfl | rfl | rfl | rfl | rfl | rfl | rfl | rfl | rfl | rfl
  all_goals
    go_enter Tryd.func8, Tryd.ntmps8
    go_wp2_with (first | (go_at_call 20; refine (reflong_t _ _ HL.out).mono ?_; rintro e w' ⟨rfl, rfl⟩) | (go_at_call 14; refine (refcut_any _ _ _).mono ?_; rintro e w' ⟨rfl, rfl⟩) | (go_at_call 16; refine (refsign_any _ _ _).mono ?_; rintro e w' ⟨rfl, rfl⟩))
    go_ret2
    refine ⟨retBI ?_, rfl⟩
    first | rfl | (rw [u64_and _ _ c0 c1 d0 d1]; rfl)

set_option maxRecDepth 100000 in
set_option maxHeartbeats 1000000 in
theorem refholds_any (cc w a b : Int) (W : World) (ha0 : 0 ≤ a) (ha1 : a < 18446744073709551616) (hb0 : 0 ≤ b) (hb1 : b < 18446744073709551616) :
    Calls Tryd.prog 8 #[.int .i8 cc, .int .i8 w, .int .u64 a, .int .u64 b] W fun e w' => e = .returned (.tuple #[.bool (holdsB cc w a b), .int .i64 (holdsE cc w)]) ∧ W = w' := by
  by_cases h1 : cc < 0
  · rw [show holdsB cc w a b = false from if_neg (by omega), show holdsE cc w = 2 from if_neg (by omega)]
    go_enter Tryd.func8, Tryd.ntmps8
    go_wp2
    go_ret2
    exact ⟨rfl, rfl⟩
  by_cases h2 : 10 < cc
  · rw [show holdsB cc w a b = false from if_neg (by omega), show holdsE cc w = 2 from if_neg (by omega)]
    go_enter Tryd.func8, Tryd.ntmps8
    go_wp2
    go_ret2
    exact ⟨rfl, rfl⟩
  cases hl : longB w
  · rw [show holdsB cc w a b = false from if_neg (by simp [hl]), show holdsE cc w = 2 from if_neg (by simp [hl])]
    have HL := Lib.hid hl; clear hl
    go_enter Tryd.func8, Tryd.ntmps8
    go_wp2_with (go_at_call 20; refine (reflong_f _ _ HL.out).mono ?_; rintro e w' ⟨rfl, rfl⟩)
    go_ret2
    exact ⟨rfl, rfl⟩
  · have h := refholds_in cc w a b W (by omega) (by omega) hl ha0 ha1 hb0 hb1
    rw [show holdsB cc w a b = ccB cc w (cutI a w) (cutI b w) from if_pos ⟨by omega, by omega, hl⟩, show holdsE cc w = 0 from if_pos ⟨by omega, by omega, hl⟩]
    exact h
end Go.Proofs.YtipdgncjcpkcbaaDoor
