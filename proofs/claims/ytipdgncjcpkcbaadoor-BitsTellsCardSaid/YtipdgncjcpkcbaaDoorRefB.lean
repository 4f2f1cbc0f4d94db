/-
  The document's answer Do for words of 32 bits, operation by operation.
-/
import Derived.Test.YtipdgncjcpkcbaaDoorRefA
namespace Go.Proofs.YtipdgncjcpkcbaaDoor
open Go.RowKit
set_option linter.unusedVariables false

set_option maxRecDepth 100000 in
set_option maxHeartbeats 1000000 in
theorem refdo_0_32 (a b : Int) (W : World) (ha0 : 0 ≤ a) (ha1 : a < 18446744073709551616) (hb0 : 0 ≤ b) (hb1 : b < 18446744073709551616) :
    Calls Tryd.prog 6 #[.int .i8 0, .int .i8 32, .int .u64 a, .int .u64 b] W fun e w' => e = .returned (.tuple #[.int .u64 (doI 0 32 a b), .int .i64 0]) ∧ W = w' := by
  obtain ⟨c0, c1⟩ := cutI_bd a 32 ha0 ha1
  obtain ⟨d0, d1⟩ := cutI_bd b 32 hb0 hb1
  have e1 := and_31 (cutI b 32) d0 d1
  have e2 : 0 ≤ cutI b 32 % 32 := by omega
  have e3 : min (cutI b 32 % 32).toNat 64 = (cutI b 32 % 32).toNat := by omega
  go_enter Tryd.func6, Tryd.ntmps6
  go_wp2_with (first | (go_at_call 20; refine (reflong_t _ _ rfl).mono ?_; rintro e w' ⟨rfl, rfl⟩) | (go_at_call 14; refine (refcut_any _ _ _).mono ?_; rintro e w' ⟨rfl, rfl⟩) | (go_at_call 16; refine (refsign_any _ _ _).mono ?_; rintro e w' ⟨rfl, rfl⟩))
  go_ret2
  refine ⟨retII (congrArg (fun x => cutI x 32) ?_), rfl⟩
  rw [IntKind.wrap_u64]; rfl

set_option maxRecDepth 100000 in
set_option maxHeartbeats 1000000 in
theorem refdo_1_32 (a b : Int) (W : World) (ha0 : 0 ≤ a) (ha1 : a < 18446744073709551616) (hb0 : 0 ≤ b) (hb1 : b < 18446744073709551616) :
    Calls Tryd.prog 6 #[.int .i8 1, .int .i8 32, .int .u64 a, .int .u64 b] W fun e w' => e = .returned (.tuple #[.int .u64 (doI 1 32 a b), .int .i64 0]) ∧ W = w' := by
  obtain ⟨c0, c1⟩ := cutI_bd a 32 ha0 ha1
  obtain ⟨d0, d1⟩ := cutI_bd b 32 hb0 hb1
  have e1 := and_31 (cutI b 32) d0 d1
  have e2 : 0 ≤ cutI b 32 % 32 := by omega
  have e3 : min (cutI b 32 % 32).toNat 64 = (cutI b 32 % 32).toNat := by omega
  go_enter Tryd.func6, Tryd.ntmps6
  go_wp2_with (first | (go_at_call 20; refine (reflong_t _ _ rfl).mono ?_; rintro e w' ⟨rfl, rfl⟩) | (go_at_call 14; refine (refcut_any _ _ _).mono ?_; rintro e w' ⟨rfl, rfl⟩) | (go_at_call 16; refine (refsign_any _ _ _).mono ?_; rintro e w' ⟨rfl, rfl⟩))
  go_ret2
  refine ⟨retII (congrArg (fun x => cutI x 32) ?_), rfl⟩
  rw [IntKind.wrap_u64]; rfl

set_option maxRecDepth 100000 in
set_option maxHeartbeats 1000000 in
theorem refdo_2_32 (a b : Int) (W : World) (ha0 : 0 ≤ a) (ha1 : a < 18446744073709551616) (hb0 : 0 ≤ b) (hb1 : b < 18446744073709551616) :
    Calls Tryd.prog 6 #[.int .i8 2, .int .i8 32, .int .u64 a, .int .u64 b] W fun e w' => e = .returned (.tuple #[.int .u64 (doI 2 32 a b), .int .i64 0]) ∧ W = w' := by
  obtain ⟨c0, c1⟩ := cutI_bd a 32 ha0 ha1
  obtain ⟨d0, d1⟩ := cutI_bd b 32 hb0 hb1
  have e1 := and_31 (cutI b 32) d0 d1
  have e2 : 0 ≤ cutI b 32 % 32 := by omega
  have e3 : min (cutI b 32 % 32).toNat 64 = (cutI b 32 % 32).toNat := by omega
  go_enter Tryd.func6, Tryd.ntmps6
  go_wp2_with (first | (go_at_call 20; refine (reflong_t _ _ rfl).mono ?_; rintro e w' ⟨rfl, rfl⟩) | (go_at_call 14; refine (refcut_any _ _ _).mono ?_; rintro e w' ⟨rfl, rfl⟩) | (go_at_call 16; refine (refsign_any _ _ _).mono ?_; rintro e w' ⟨rfl, rfl⟩))
  go_ret2
  refine ⟨retII (congrArg (fun x => cutI x 32) ?_), rfl⟩
  rw [IntKind.wrap_u64]; rfl

set_option maxRecDepth 100000 in
set_option maxHeartbeats 1000000 in
theorem refdo_3_32 (a b : Int) (W : World) (ha0 : 0 ≤ a) (ha1 : a < 18446744073709551616) (hb0 : 0 ≤ b) (hb1 : b < 18446744073709551616) :
    Calls Tryd.prog 6 #[.int .i8 3, .int .i8 32, .int .u64 a, .int .u64 b] W fun e w' => e = .returned (.tuple #[.int .u64 (doI 3 32 a b), .int .i64 0]) ∧ W = w' := by
  obtain ⟨c0, c1⟩ := cutI_bd a 32 ha0 ha1
  obtain ⟨d0, d1⟩ := cutI_bd b 32 hb0 hb1
  have e1 := and_31 (cutI b 32) d0 d1
  have e2 : 0 ≤ cutI b 32 % 32 := by omega
  have e3 : min (cutI b 32 % 32).toNat 64 = (cutI b 32 % 32).toNat := by omega
  by_cases hz : cutI b 32 = 0
  · have z1 : decide (0 < cutI b 32) = false := decide_eq_false (by omega)
    have HZ := Lib.hid hz; clear hz
    go_enter Tryd.func6, Tryd.ntmps6
    go_wp2_with (first | (go_at_call 20; refine (reflong_t _ _ rfl).mono ?_; rintro e w' ⟨rfl, rfl⟩) | (go_at_call 14; refine (refcut_any _ _ _).mono ?_; rintro e w' ⟨rfl, rfl⟩) | (go_at_call 16; refine (refsign_any _ _ _).mono ?_; rintro e w' ⟨rfl, rfl⟩))
    go_ret2
    refine ⟨retII (congrArg (fun x => cutI x 32) ?_), rfl⟩
    rw [opI_3, if_pos HZ.out]
  · have z1 : 0 < cutI b 32 := by omega
    have HZ := Lib.hid hz; clear hz
    go_enter Tryd.func6, Tryd.ntmps6
    go_wp2_with (first | (go_at_call 20; refine (reflong_t _ _ rfl).mono ?_; rintro e w' ⟨rfl, rfl⟩) | (go_at_call 14; refine (refcut_any _ _ _).mono ?_; rintro e w' ⟨rfl, rfl⟩) | (go_at_call 16; refine (refsign_any _ _ _).mono ?_; rintro e w' ⟨rfl, rfl⟩))
    go_ret2
    refine ⟨retII (congrArg (fun x => cutI x 32) ?_), rfl⟩
    rw [opI_3, if_neg HZ.out]

set_option maxRecDepth 100000 in
set_option maxHeartbeats 1000000 in
theorem refdo_4_32 (a b : Int) (W : World) (ha0 : 0 ≤ a) (ha1 : a < 18446744073709551616) (hb0 : 0 ≤ b) (hb1 : b < 18446744073709551616) :
    Calls Tryd.prog 6 #[.int .i8 4, .int .i8 32, .int .u64 a, .int .u64 b] W fun e w' => e = .returned (.tuple #[.int .u64 (doI 4 32 a b), .int .i64 0]) ∧ W = w' := by
  obtain ⟨c0, c1⟩ := cutI_bd a 32 ha0 ha1
  obtain ⟨d0, d1⟩ := cutI_bd b 32 hb0 hb1
  have e1 := and_31 (cutI b 32) d0 d1
  have e2 : 0 ≤ cutI b 32 % 32 := by omega
  have e3 : min (cutI b 32 % 32).toNat 64 = (cutI b 32 % 32).toNat := by omega
  go_enter Tryd.func6, Tryd.ntmps6
  go_wp2_with (first | (go_at_call 20; refine (reflong_t _ _ rfl).mono ?_; rintro e w' ⟨rfl, rfl⟩) | (go_at_call 14; refine (refcut_any _ _ _).mono ?_; rintro e w' ⟨rfl, rfl⟩) | (go_at_call 16; refine (refsign_any _ _ _).mono ?_; rintro e w' ⟨rfl, rfl⟩))
  go_ret2
  refine ⟨retII (congrArg (fun x => cutI x 32) ?_), rfl⟩
  rw [u64_or _ _ c0 c1 d0 d1]; rfl

set_option maxRecDepth 100000 in
set_option maxHeartbeats 1000000 in
theorem refdo_5_32 (a b : Int) (W : World) (ha0 : 0 ≤ a) (ha1 : a < 18446744073709551616) (hb0 : 0 ≤ b) (hb1 : b < 18446744073709551616) :
    Calls Tryd.prog 6 #[.int .i8 5, .int .i8 32, .int .u64 a, .int .u64 b] W fun e w' => e = .returned (.tuple #[.int .u64 (doI 5 32 a b), .int .i64 0]) ∧ W = w' := by
  obtain ⟨c0, c1⟩ := cutI_bd a 32 ha0 ha1
  obtain ⟨d0, d1⟩ := cutI_bd b 32 hb0 hb1
  have e1 := and_31 (cutI b 32) d0 d1
  have e2 : 0 ≤ cutI b 32 % 32 := by omega
  have e3 : min (cutI b 32 % 32).toNat 64 = (cutI b 32 % 32).toNat := by omega
  go_enter Tryd.func6, Tryd.ntmps6
  go_wp2_with (first | (go_at_call 20; refine (reflong_t _ _ rfl).mono ?_; rintro e w' ⟨rfl, rfl⟩) | (go_at_call 14; refine (refcut_any _ _ _).mono ?_; rintro e w' ⟨rfl, rfl⟩) | (go_at_call 16; refine (refsign_any _ _ _).mono ?_; rintro e w' ⟨rfl, rfl⟩))
  go_ret2
  refine ⟨retII (congrArg (fun x => cutI x 32) ?_), rfl⟩
  rw [u64_and _ _ c0 c1 d0 d1]; rfl

set_option maxRecDepth 100000 in
set_option maxHeartbeats 1000000 in
theorem refdo_6_32 (a b : Int) (W : World) (ha0 : 0 ≤ a) (ha1 : a < 18446744073709551616) (hb0 : 0 ≤ b) (hb1 : b < 18446744073709551616) :
    Calls Tryd.prog 6 #[.int .i8 6, .int .i8 32, .int .u64 a, .int .u64 b] W fun e w' => e = .returned (.tuple #[.int .u64 (doI 6 32 a b), .int .i64 0]) ∧ W = w' := by
  obtain ⟨c0, c1⟩ := cutI_bd a 32 ha0 ha1
  obtain ⟨d0, d1⟩ := cutI_bd b 32 hb0 hb1
  have e1 := and_31 (cutI b 32) d0 d1
  have e2 : 0 ≤ cutI b 32 % 32 := by omega
  have e3 : min (cutI b 32 % 32).toNat 64 = (cutI b 32 % 32).toNat := by omega
  go_enter Tryd.func6, Tryd.ntmps6
  go_wp2_with (first | (go_at_call 20; refine (reflong_t _ _ rfl).mono ?_; rintro e w' ⟨rfl, rfl⟩) | (go_at_call 14; refine (refcut_any _ _ _).mono ?_; rintro e w' ⟨rfl, rfl⟩) | (go_at_call 16; refine (refsign_any _ _ _).mono ?_; rintro e w' ⟨rfl, rfl⟩))
  go_ret2
  refine ⟨retII (congrArg (fun x => cutI x 32) ?_), rfl⟩
  rw [IntKind.wrap_u64]; rfl

set_option maxRecDepth 100000 in
set_option maxHeartbeats 1000000 in
theorem refdo_7_32 (a b : Int) (W : World) (ha0 : 0 ≤ a) (ha1 : a < 18446744073709551616) (hb0 : 0 ≤ b) (hb1 : b < 18446744073709551616) :
    Calls Tryd.prog 6 #[.int .i8 7, .int .i8 32, .int .u64 a, .int .u64 b] W fun e w' => e = .returned (.tuple #[.int .u64 (doI 7 32 a b), .int .i64 0]) ∧ W = w' := by
  obtain ⟨c0, c1⟩ := cutI_bd a 32 ha0 ha1
  obtain ⟨d0, d1⟩ := cutI_bd b 32 hb0 hb1
  have e1 := and_31 (cutI b 32) d0 d1
  have e2 : 0 ≤ cutI b 32 % 32 := by omega
  have e3 : min (cutI b 32 % 32).toNat 64 = (cutI b 32 % 32).toNat := by omega
  go_enter Tryd.func6, Tryd.ntmps6
  go_wp2_with (first | (go_at_call 20; refine (reflong_t _ _ rfl).mono ?_; rintro e w' ⟨rfl, rfl⟩) | (go_at_call 14; refine (refcut_any _ _ _).mono ?_; rintro e w' ⟨rfl, rfl⟩) | (go_at_call 16; refine (refsign_any _ _ _).mono ?_; rintro e w' ⟨rfl, rfl⟩))
  go_ret2
  refine ⟨retII (congrArg (fun x => cutI x 32) ?_), rfl⟩
  rfl

set_option maxRecDepth 100000 in
set_option maxHeartbeats 1000000 in
theorem refdo_8_32 (a b : Int) (W : World) (ha0 : 0 ≤ a) (ha1 : a < 18446744073709551616) (hb0 : 0 ≤ b) (hb1 : b < 18446744073709551616) :
    Calls Tryd.prog 6 #[.int .i8 8, .int .i8 32, .int .u64 a, .int .u64 b] W fun e w' => e = .returned (.tuple #[.int .u64 (doI 8 32 a b), .int .i64 0]) ∧ W = w' := by
  obtain ⟨c0, c1⟩ := cutI_bd a 32 ha0 ha1
  obtain ⟨d0, d1⟩ := cutI_bd b 32 hb0 hb1
  have e1 := and_31 (cutI b 32) d0 d1
  have e2 : 0 ≤ cutI b 32 % 32 := by omega
  have e3 : min (cutI b 32 % 32).toNat 64 = (cutI b 32 % 32).toNat := by omega
  go_enter Tryd.func6, Tryd.ntmps6
  go_wp2_with (first | (go_at_call 20; refine (reflong_t _ _ rfl).mono ?_; rintro e w' ⟨rfl, rfl⟩) | (go_at_call 14; refine (refcut_any _ _ _).mono ?_; rintro e w' ⟨rfl, rfl⟩) | (go_at_call 16; refine (refsign_any _ _ _).mono ?_; rintro e w' ⟨rfl, rfl⟩))
  go_ret2
  refine ⟨retII (congrArg (fun x => cutI x 32) ?_), rfl⟩
  rw [IntKind.wrap_u64]; rfl

set_option maxRecDepth 100000 in
set_option maxHeartbeats 1000000 in
theorem refdo_9_32 (a b : Int) (W : World) (ha0 : 0 ≤ a) (ha1 : a < 18446744073709551616) (hb0 : 0 ≤ b) (hb1 : b < 18446744073709551616) :
    Calls Tryd.prog 6 #[.int .i8 9, .int .i8 32, .int .u64 a, .int .u64 b] W fun e w' => e = .returned (.tuple #[.int .u64 (doI 9 32 a b), .int .i64 0]) ∧ W = w' := by
  obtain ⟨c0, c1⟩ := cutI_bd a 32 ha0 ha1
  obtain ⟨d0, d1⟩ := cutI_bd b 32 hb0 hb1
  have e1 := and_31 (cutI b 32) d0 d1
  have e2 : 0 ≤ cutI b 32 % 32 := by omega
  have e3 : min (cutI b 32 % 32).toNat 64 = (cutI b 32 % 32).toNat := by omega
  by_cases hz : cutI b 32 = 0
  · have z1 : decide (0 < cutI b 32) = false := decide_eq_false (by omega)
    have HZ := Lib.hid hz; clear hz
    go_enter Tryd.func6, Tryd.ntmps6
    go_wp2_with (first | (go_at_call 20; refine (reflong_t _ _ rfl).mono ?_; rintro e w' ⟨rfl, rfl⟩) | (go_at_call 14; refine (refcut_any _ _ _).mono ?_; rintro e w' ⟨rfl, rfl⟩) | (go_at_call 16; refine (refsign_any _ _ _).mono ?_; rintro e w' ⟨rfl, rfl⟩))
    go_ret2
    refine ⟨retII (congrArg (fun x => cutI x 32) ?_), rfl⟩
    rw [opI_9, if_pos HZ.out]
  · have z1 : 0 < cutI b 32 := by omega
    have HZ := Lib.hid hz; clear hz
    go_enter Tryd.func6, Tryd.ntmps6
    go_wp2_with (first | (go_at_call 20; refine (reflong_t _ _ rfl).mono ?_; rintro e w' ⟨rfl, rfl⟩) | (go_at_call 14; refine (refcut_any _ _ _).mono ?_; rintro e w' ⟨rfl, rfl⟩) | (go_at_call 16; refine (refsign_any _ _ _).mono ?_; rintro e w' ⟨rfl, rfl⟩))
    go_ret2
    refine ⟨retII (congrArg (fun x => cutI x 32) ?_), rfl⟩
    rw [opI_9, if_neg HZ.out]

set_option maxRecDepth 100000 in
set_option maxHeartbeats 1000000 in
theorem refdo_10_32 (a b : Int) (W : World) (ha0 : 0 ≤ a) (ha1 : a < 18446744073709551616) (hb0 : 0 ≤ b) (hb1 : b < 18446744073709551616) :
    Calls Tryd.prog 6 #[.int .i8 10, .int .i8 32, .int .u64 a, .int .u64 b] W fun e w' => e = .returned (.tuple #[.int .u64 (doI 10 32 a b), .int .i64 0]) ∧ W = w' := by
  obtain ⟨c0, c1⟩ := cutI_bd a 32 ha0 ha1
  obtain ⟨d0, d1⟩ := cutI_bd b 32 hb0 hb1
  have e1 := and_31 (cutI b 32) d0 d1
  have e2 : 0 ≤ cutI b 32 % 32 := by omega
  have e3 : min (cutI b 32 % 32).toNat 64 = (cutI b 32 % 32).toNat := by omega
  go_enter Tryd.func6, Tryd.ntmps6
  go_wp2_with (first | (go_at_call 20; refine (reflong_t _ _ rfl).mono ?_; rintro e w' ⟨rfl, rfl⟩) | (go_at_call 14; refine (refcut_any _ _ _).mono ?_; rintro e w' ⟨rfl, rfl⟩) | (go_at_call 16; refine (refsign_any _ _ _).mono ?_; rintro e w' ⟨rfl, rfl⟩))
  go_ret2
  refine ⟨retII (congrArg (fun x => cutI x 32) ?_), rfl⟩
  rw [u64_xor _ _ c0 c1 d0 d1]; rfl

set_option maxRecDepth 100000 in
set_option maxHeartbeats 1000000 in
theorem refdo_11_32 (a b : Int) (W : World) (ha0 : 0 ≤ a) (ha1 : a < 18446744073709551616) (hb0 : 0 ≤ b) (hb1 : b < 18446744073709551616) :
    Calls Tryd.prog 6 #[.int .i8 11, .int .i8 32, .int .u64 a, .int .u64 b] W fun e w' => e = .returned (.tuple #[.int .u64 (doI 11 32 a b), .int .i64 0]) ∧ W = w' := by
  obtain ⟨c0, c1⟩ := cutI_bd a 32 ha0 ha1
  obtain ⟨d0, d1⟩ := cutI_bd b 32 hb0 hb1
  have e1 := and_31 (cutI b 32) d0 d1
  have e2 : 0 ≤ cutI b 32 % 32 := by omega
  have e3 : min (cutI b 32 % 32).toNat 64 = (cutI b 32 % 32).toNat := by omega
  go_enter Tryd.func6, Tryd.ntmps6
  go_wp2_with (first | (go_at_call 20; refine (reflong_t _ _ rfl).mono ?_; rintro e w' ⟨rfl, rfl⟩) | (go_at_call 14; refine (refcut_any _ _ _).mono ?_; rintro e w' ⟨rfl, rfl⟩) | (go_at_call 16; refine (refsign_any _ _ _).mono ?_; rintro e w' ⟨rfl, rfl⟩))
  go_ret2
  refine ⟨retII (congrArg (fun x => cutI x 32) ?_), rfl⟩
  rfl

set_option maxRecDepth 100000 in
set_option maxHeartbeats 1000000 in
theorem refdo_12_32 (a b : Int) (W : World) (ha0 : 0 ≤ a) (ha1 : a < 18446744073709551616) (hb0 : 0 ≤ b) (hb1 : b < 18446744073709551616) :
    Calls Tryd.prog 6 #[.int .i8 12, .int .i8 32, .int .u64 a, .int .u64 b] W fun e w' => e = .returned (.tuple #[.int .u64 (doI 12 32 a b), .int .i64 0]) ∧ W = w' := by
  obtain ⟨c0, c1⟩ := cutI_bd a 32 ha0 ha1
  obtain ⟨d0, d1⟩ := cutI_bd b 32 hb0 hb1
  have e1 := and_31 (cutI b 32) d0 d1
  have e2 : 0 ≤ cutI b 32 % 32 := by omega
  have e3 : min (cutI b 32 % 32).toNat 64 = (cutI b 32 % 32).toNat := by omega
  go_enter Tryd.func6, Tryd.ntmps6
  go_wp2_with (first | (go_at_call 20; refine (reflong_t _ _ rfl).mono ?_; rintro e w' ⟨rfl, rfl⟩) | (go_at_call 14; refine (refcut_any _ _ _).mono ?_; rintro e w' ⟨rfl, rfl⟩) | (go_at_call 16; refine (refsign_any _ _ _).mono ?_; rintro e w' ⟨rfl, rfl⟩))
  go_ret2
  refine ⟨retII (congrArg (fun x => cutI x 32) ?_), rfl⟩
  rw [IntKind.wrap_u64, show wrap64 (signI (cutI a 32) 32) = sgnI (cutI a 32) 32 from (IntWalk.i64_left _).symm.trans (wrap64_sign32 _)]; rfl

end Go.Proofs.YtipdgncjcpkcbaaDoor
