/-
  The walk of the law BitsUndo.
-/
import Derived.Test.YtipdgncjcpkcbaaBitsLowW
namespace Go.Proofs.Ytipdgncjcpkcbaa
open Go.RowKit

theorem longB_w {w : Int} (h : longB w = true) {P : Int → Prop} (h1 : P 32) (h2 : P 64) : P w := by
  rcases longB_cases h with rfl | rfl <;> assumption
theorem cutI_cut (v w : Int) : cutI (cutI v w) w = cutI v w := by
  unfold cutI
  by_cases h1 : w = 8
  · rw [if_pos h1, if_pos h1]; omega
  by_cases h2 : w = 16
  · rw [if_neg h1, if_neg h1, if_pos h2, if_pos h2]; omega
  by_cases h3 : w = 32
  · rw [if_neg h1, if_neg h1, if_neg h2, if_neg h2, if_pos h3, if_pos h3]; omega
  · rw [if_neg h1, if_neg h1, if_neg h2, if_neg h2, if_neg h3, if_neg h3]
theorem do_cuts (op w a b : Int) : doI op w (cutI a w) (cutI b w) = doI op w a b := by
  unfold doI; rw [cutI_cut, cutI_cut]
theorem cut_do (op w a b : Int) : cutI (doI op w a b) w = doI op w a b := by
  unfold doI
  split
  · exact cutI_cut _ _
  · unfold cutI
    split
    · rfl
    split
    · rfl
    split <;> rfl
theorem doI_is (op w a b : Int) (h0 : 0 ≤ op) (h12 : op ≤ 12) (hw : longB w = true) : doI op w a b = cutI (opI op w (cutI a w) (cutI b w)) w := if_pos ⟨h0, h12, hw⟩
theorem undo_add (w a b : Int) (hw : longB w = true) (ha0 : 0 ≤ a) (ha1 : a < 18446744073709551616) : doI 1 w (doI 0 w a b) b = cutI a w := by
  refine longB_w hw (P := fun w => doI 1 w (doI 0 w a b) b = cutI a w) ?_ ?_
  · show ((a % 4294967296 + b % 4294967296) % 18446744073709551616 % 4294967296 % 4294967296 - b % 4294967296) % 18446744073709551616 % 4294967296 = a % 4294967296
    omega
  · show ((a + b) % 18446744073709551616 - b) % 18446744073709551616 = a
    omega
/-- The width's number of words. -/
def topI (w : Int) : Int := if w = 32 then 4294967296 else 18446744073709551616
theorem cutI_top (v w : Int) (hw : longB w = true) (h0 : 0 ≤ v) (h1 : v < 18446744073709551616) : cutI v w = v % topI w := by
  refine longB_w hw (P := fun w => cutI v w = v % topI w) rfl ?_
  show v = v % 18446744073709551616
  omega
theorem topI_bd {w : Int} (hw : longB w = true) : 0 < topI w ∧ topI w ≤ 18446744073709551616 :=
  longB_w hw (P := fun w => 0 < topI w ∧ topI w ≤ 18446744073709551616) (by decide) (by decide)
theorem cutI_lt (v w : Int) (hw : longB w = true) (h0 : 0 ≤ v) (h1 : v < 18446744073709551616) : 0 ≤ cutI v w ∧ cutI v w < topI w := by
  rw [cutI_top v w hw h0 h1]
  exact ⟨Int.emod_nonneg _ (by have := topI_bd hw; omega), Int.emod_lt_of_pos _ (topI_bd hw).1⟩
theorem cutI_small (v w : Int) (hw : longB w = true) (h0 : 0 ≤ v) (h1 : v < topI w) : cutI v w = v := by
  rw [cutI_top v w hw h0 (by have := topI_bd hw; omega), Int.emod_eq_of_lt h0 h1]
theorem quo_is (w a b : Int) (hw : longB w = true) (ha0 : 0 ≤ a) (ha1 : a < 18446744073709551616) (hb0 : 0 ≤ b) (hb1 : b < 18446744073709551616) (hz : ¬ cutI b w = 0) : doI 3 w a b = cutI a w / cutI b w := by
  obtain ⟨c0, c1⟩ := cutI_lt a w hw ha0 ha1
  obtain ⟨d0, d1⟩ := cutI_lt b w hw hb0 hb1
  rw [doI_is 3 w a b (by omega) (by omega) hw, opI_3, if_neg hz]
  have := Int.ediv_le_self (cutI b w) c0
  exact cutI_small _ w hw (Int.ediv_nonneg c0 d0) (by omega)
theorem rem_is (w a b : Int) (hw : longB w = true) (ha0 : 0 ≤ a) (ha1 : a < 18446744073709551616) (hb0 : 0 ≤ b) (hb1 : b < 18446744073709551616) (hz : ¬ cutI b w = 0) : doI 9 w a b = cutI a w % cutI b w := by
  obtain ⟨c0, c1⟩ := cutI_lt a w hw ha0 ha1
  obtain ⟨d0, d1⟩ := cutI_lt b w hw hb0 hb1
  rw [doI_is 9 w a b (by omega) (by omega) hw, opI_9, if_neg hz]
  have := Int.emod_lt_of_pos (cutI a w) (show 0 < cutI b w by omega)
  exact cutI_small _ w hw (Int.emod_nonneg _ hz) (by omega)
theorem quo_zero (w a b : Int) (hw : longB w = true) (hz : cutI b w = 0) : doI 3 w a b = 0 := by
  rw [doI_is 3 w a b (by omega) (by omega) hw, opI_3, if_pos hz]
  unfold cutI; split
  · rfl
  split
  · rfl
  split <;> rfl
theorem rem_zero (w a b : Int) (hw : longB w = true) (hz : cutI b w = 0) : doI 9 w a b = cutI a w := by
  rw [doI_is 9 w a b (by omega) (by omega) hw, opI_9, if_pos hz, cutI_cut]
theorem rem_lt (w a b : Int) (hw : longB w = true) (ha0 : 0 ≤ a) (ha1 : a < 18446744073709551616) (hb0 : 0 ≤ b) (hb1 : b < 18446744073709551616) (hz : ¬ cutI b w = 0) : doI 9 w a b < cutI b w := by
  rw [rem_is w a b hw ha0 ha1 hb0 hb1 hz]
  have := (cutI_lt b w hw hb0 hb1).1
  exact Int.emod_lt_of_pos _ (by omega)
theorem undo_quo (w a b : Int) (hw : longB w = true) (ha0 : 0 ≤ a) (ha1 : a < 18446744073709551616) (hb0 : 0 ≤ b) (hb1 : b < 18446744073709551616) (hz : ¬ cutI b w = 0) :
    doI 0 w (doI 2 w (doI 3 w a b) b) (doI 9 w a b) = cutI a w := by
  obtain ⟨c0, c1⟩ := cutI_lt a w hw ha0 ha1
  obtain ⟨d0, d1⟩ := cutI_lt b w hw hb0 hb1
  obtain ⟨t0, t1⟩ := topI_bd hw
  have r0 : 0 ≤ cutI a w % cutI b w := Int.emod_nonneg _ hz
  have q0 : 0 ≤ cutI a w / cutI b w := Int.ediv_nonneg c0 d0
  have q1 := Int.ediv_le_self (cutI b w) c0
  have key : cutI a w / cutI b w * cutI b w + cutI a w % cutI b w = cutI a w := Int.ediv_mul_add_emod _ _
  have p0 : 0 ≤ cutI a w / cutI b w * cutI b w := Int.mul_nonneg q0 d0
  rw [quo_is w a b hw ha0 ha1 hb0 hb1 hz, rem_is w a b hw ha0 ha1 hb0 hb1 hz]
  rw [doI_is 2 w _ _ (by omega) (by omega) hw, cutI_small _ w hw q0 (by omega), opI_2, Int.emod_eq_of_lt p0 (by omega), cutI_small _ w hw p0 (by omega)]
  rw [doI_is 0 w _ _ (by omega) (by omega) hw, cutI_small _ w hw p0 (by omega), cutI_small _ w hw r0 (by omega), opI_0, key, Int.emod_eq_of_lt c0 (by omega), cutI_cut]

theorem do_bad (op w a b : Int) (W : World) (hw : longB w = false) (ha0 : 0 ≤ a) (ha1 : a < 18446744073709551616) (hb0 : 0 ≤ b) (hb1 : b < 18446744073709551616) :
    Calls Try.prog 8 #[.int .i8 op, .int .i8 w, .int .u64 a, .int .u64 b] W fun e w' => e = .returned (.tuple #[.int .u64 0, .int .i64 2]) ∧ Below W.heap.size W w' := by
  have := do_any op w a b W ha0 ha1 hb0 hb1
  rw [show doE op w = 2 from if_neg (by simp [hw]), show doI op w a b = 0 from if_neg (by simp [hw])] at this
  exact this

set_option maxRecDepth 100000 in
set_option maxHeartbeats 1000000 in
theorem bitsUndo_bad (w a b : Int) (hw : longB w = false) (ha0 : 0 ≤ a) (ha1 : a < 18446744073709551616) (hb0 : 0 ≤ b) (hb1 : b < 18446744073709551616) (W : World) :
    Calls Try.prog 3 #[.int .i8 w, .int .u64 a, .int .u64 b] W fun e w' => e = .returned (.bool true) ∧ Below W.heap.size W w' := by
  obtain ⟨n32, n64⟩ := longB_not hw
  have m32 : (w != 32) = true := by simpa using n32
  have m64 : (w != 64) = true := by simpa using n64
  clear n32 n64
  have HW := Lib.hid hw; clear hw
  go_enter Try.func3, Try.ntmps3
  go_wp2_with fail
  refine (do_bad 0 w a b _ HW.out ha0 ha1 hb0 hb1).mono ?_
  rintro e w1 ⟨rfl, b1⟩
  go_wp2_with fail
  refine (do_bad 1 w 0 b _ HW.out (by omega) (by omega) hb0 hb1).mono ?_
  rintro e w2 ⟨rfl, b2⟩
  go_wp2_with fail
  refine (wakes_any _).mono ?_
  rintro e w3 ⟨rfl, b3⟩
  go_wp2
  go_ret
  exact ⟨rfl, (b1.trans (b2.mono b1.size)).trans (b3.mono (Nat.le_trans b1.size b2.size))⟩
theorem i8_next (k : Nat) (h : k ≤ 12) : IntKind.i8.wrap ((k : Int) + 1) = (k : Int) + 1 := by
  simp only [IntKind.wrap, IntKind.bits, IntKind.signed]; simp; omega

set_option maxRecDepth 100000 in
set_option maxHeartbeats 4000000 in
theorem bitsUndo_good (w a b : Int) (hw : longB w = true) (hz : ¬ cutI b w = 0) (ha0 : 0 ≤ a) (ha1 : a < 18446744073709551616) (hb0 : 0 ≤ b) (hb1 : b < 18446744073709551616) (W : World) :
    Calls Try.prog 3 #[.int .i8 w, .int .u64 a, .int .u64 b] W fun e w' => e = .returned (.bool true) ∧ Below W.heap.size W w' := by
  have z1 : (cutI b w != 0) = true := by simpa using hz
  have z2 : (cutI b w == 0) = false := neq_of hz
  have r1 := rem_lt w a b hw ha0 ha1 hb0 hb1 hz
  have s0 := doI_bd 0 w a b ha0 ha1 hb0 hb1
  have s3 := doI_bd 3 w a b ha0 ha1 hb0 hb1
  have s9 := doI_bd 9 w a b ha0 ha1 hb0 hb1
  have s2 := doI_bd 2 w (doI 3 w a b) b s3.1 s3.2 hb0 hb1
  have c0 := cutI_bd a w ha0 ha1
  have c1 := cutI_bd b w hb0 hb1
  have D1 := Lib.hid (fun W => do_ok 0 w a b W (by omega) (by omega) hw ha0 ha1 hb0 hb1)
  have D2 := fun W => do_ok 1 w (doI 0 w a b) b W (by omega) (by omega) hw s0.1 s0.2 hb0 hb1
  rw [undo_add w a b hw ha0 ha1] at D2
  have E2 := Lib.hid D2; clear D2
  have D3 := Lib.hid (fun W => do_ok 3 w a b W (by omega) (by omega) hw ha0 ha1 hb0 hb1)
  have D4 := Lib.hid (fun W => do_ok 9 w a b W (by omega) (by omega) hw ha0 ha1 hb0 hb1)
  have D5 := Lib.hid (fun W => do_ok 2 w (doI 3 w a b) b W (by omega) (by omega) hw s3.1 s3.2 hb0 hb1)
  have D6 := fun W => do_ok 0 w (doI 2 w (doI 3 w a b) b) (doI 9 w a b) W (by omega) (by omega) hw s2.1 s2.2 s9.1 s9.2
  rw [undo_quo w a b hw ha0 ha1 hb0 hb1 hz] at D6
  have E6 := Lib.hid D6; clear D6
  have HW := Lib.hid hw; clear hw
  have S0 := Lib.hid s0; have S3 := Lib.hid s3; have S9 := Lib.hid s9; have S2 := Lib.hid s2; have C0 := Lib.hid c0; have C1 := Lib.hid c1
  clear s0 s3 s9 s2 c0 c1 hz
  go_enter Try.func3, Try.ntmps3
  go_wp2_with fail
  refine (D1.out _).mono ?_
  rintro e w1 ⟨rfl, b1⟩
  go_wp2_with fail
  refine (E2.out _).mono ?_
  rintro e w2 ⟨rfl, b2⟩
  go_wp2_with fail
  refine (D3.out _).mono ?_
  rintro e w3 ⟨rfl, b3⟩
  go_wp2_with fail
  refine (D4.out _).mono ?_
  rintro e w4 ⟨rfl, b4⟩
  go_wp2_with fail
  refine (D5.out _).mono ?_
  rintro e w5 ⟨rfl, b5⟩
  go_wp2_with fail
  refine (E6.out _).mono ?_
  rintro e w6 ⟨rfl, b6⟩
  have B6 : Below W.heap.size W w6 := ((((b1.trans (b2.mono b1.size)).trans (b3.mono (by have := b1.size; have := b2.size; omega))).trans (b4.mono (by have := b1.size; have := b2.size; have := b3.size; omega))).trans (b5.mono (by have := b1.size; have := b2.size; have := b3.size; have := b4.size; omega))).trans (b6.mono (by have := b1.size; have := b2.size; have := b3.size; have := b4.size; have := b5.size; omega))
  clear b1 b2 b3 b4 b5 b6
  go_wp2_with (go_at_call 10; refine (cut_any _ _ _).mono ?_; rintro e w' ⟨rfl, rfl⟩)
  clear z1 z2 r1
  go_loopw [19] (fun i wr => ∃ k : Nat, k ≤ 13 ∧ i = .int .i8 k ∧ Below W.heap.size W wr) (fun i _ => 13 - (intOf i).toNat)
  case atStart => exact ⟨0, by omega, rfl, B6⟩
  case round =>
    obtain ⟨k, hk, rfl, hB⟩ := hrel
    have hz := hB.size
    by_cases hlt : k < 13
    · have g1 := neqF (cut_do (k : Int) w a b).symm
      have g2 := i8_next k (by omega)
      have g3 : (k : Int) ≤ 12 := by omega
      have F1 := Lib.hid (fun W => do_ok (k : Int) w a b W (by omega) (by omega) HW.out ha0 ha1 hb0 hb1)
      have F2 := fun W => do_ok (k : Int) w (cutI a w) (cutI b w) W (by omega) (by omega) HW.out C0.out.1 C0.out.2 C1.out.1 C1.out.2
      rw [do_cuts] at F2
      have G2 := Lib.hid F2; clear F2
      go_wp2_with fail
      refine (F1.out _).mono ?_
      rintro e w1 ⟨rfl, b1⟩
      go_wp2_with (go_at_call 10; refine (cut_any _ _ _).mono ?_; rintro e w' ⟨rfl, rfl⟩)
      refine (G2.out _).mono ?_
      rintro e w2 ⟨rfl, b2⟩
      go_wp2_with (go_at_call 10; refine (cut_any _ _ _).mono ?_; rintro e w' ⟨rfl, rfl⟩)
      go_roundw
      case rel => exact ⟨k + 1, by omega, by go_num, (hB.trans (b1.mono hz)).trans (b2.mono (Nat.le_trans hz b1.size))⟩
      case measure => simp [intOf]; omega
    · obtain rfl : k = 13 := by omega
      go_wp2_with fail
      refine (wakes_any _).mono ?_
      rintro e w1 ⟨rfl, b1⟩
      go_wp2
      go_ret
      exact ⟨rfl, hB.trans (b1.mono hz)⟩
set_option maxRecDepth 100000 in
set_option maxHeartbeats 4000000 in
theorem bitsUndo_zero (w a b : Int) (hw : longB w = true) (hz : cutI b w = 0) (ha0 : 0 ≤ a) (ha1 : a < 18446744073709551616) (hb0 : 0 ≤ b) (hb1 : b < 18446744073709551616) (W : World) :
    Calls Try.prog 3 #[.int .i8 w, .int .u64 a, .int .u64 b] W fun e w' => e = .returned (.bool true) ∧ Below W.heap.size W w' := by
  have s0 := doI_bd 0 w a b ha0 ha1 hb0 hb1
  have s2 := doI_bd 2 w 0 b (by omega) (by omega) hb0 hb1
  have c0 := cutI_bd a w ha0 ha1
  have c1 := cutI_bd b w hb0 hb1
  have D1 := Lib.hid (fun W => do_ok 0 w a b W (by omega) (by omega) hw ha0 ha1 hb0 hb1)
  have D2 := fun W => do_ok 1 w (doI 0 w a b) b W (by omega) (by omega) hw s0.1 s0.2 hb0 hb1
  rw [undo_add w a b hw ha0 ha1] at D2
  have E2 := Lib.hid D2; clear D2
  have D3' := fun W => do_ok 3 w a b W (by omega) (by omega) hw ha0 ha1 hb0 hb1
  rw [quo_zero w a b hw hz] at D3'
  have D3 := Lib.hid D3'; clear D3'
  have D4' := fun W => do_ok 9 w a b W (by omega) (by omega) hw ha0 ha1 hb0 hb1
  rw [rem_zero w a b hw hz] at D4'
  have D4 := Lib.hid D4'; clear D4'
  have D5 := Lib.hid (fun W => do_ok 2 w 0 b W (by omega) (by omega) hw (by omega) (by omega) hb0 hb1)
  have E6 := Lib.hid (fun W => do_ok 0 w (doI 2 w 0 b) (cutI a w) W (by omega) (by omega) hw s2.1 s2.2 c0.1 c0.2)
  have K := fun W => cut_any b w W
  rw [hz] at K
  have CB := Lib.hid K; clear K
  have HW := Lib.hid hw; clear hw
  have S0 := Lib.hid s0; have S2 := Lib.hid s2; have C0 := Lib.hid c0; have C1 := Lib.hid c1
  clear s0 s2 c0 c1 hz
  go_enter Try.func3, Try.ntmps3
  go_wp2_with fail
  refine (D1.out _).mono ?_
  rintro e w1 ⟨rfl, b1⟩
  go_wp2_with fail
  refine (E2.out _).mono ?_
  rintro e w2 ⟨rfl, b2⟩
  go_wp2_with fail
  refine (D3.out _).mono ?_
  rintro e w3 ⟨rfl, b3⟩
  go_wp2_with fail
  refine (D4.out _).mono ?_
  rintro e w4 ⟨rfl, b4⟩
  go_wp2_with fail
  refine (D5.out _).mono ?_
  rintro e w5 ⟨rfl, b5⟩
  go_wp2_with fail
  refine (E6.out _).mono ?_
  rintro e w6 ⟨rfl, b6⟩
  have B6 : Below W.heap.size W w6 := ((((b1.trans (b2.mono b1.size)).trans (b3.mono (by have := b1.size; have := b2.size; omega))).trans (b4.mono (by have := b1.size; have := b2.size; have := b3.size; omega))).trans (b5.mono (by have := b1.size; have := b2.size; have := b3.size; have := b4.size; omega))).trans (b6.mono (by have := b1.size; have := b2.size; have := b3.size; have := b4.size; have := b5.size; omega))
  clear b1 b2 b3 b4 b5 b6
  go_wp2_with (go_at_call 10; first | ((with_reducible refine (CB.out _).mono ?_); rintro e w' ⟨rfl, rfl⟩) | (refine (cut_any _ _ _).mono ?_; rintro e w' ⟨rfl, rfl⟩))
  go_loopw [19] (fun i wr => ∃ k : Nat, k ≤ 13 ∧ i = .int .i8 k ∧ Below W.heap.size W wr) (fun i _ => 13 - (intOf i).toNat)
  case atStart => exact ⟨0, by omega, rfl, B6⟩
  case round =>
    obtain ⟨k, hk, rfl, hB⟩ := hrel
    have hz := hB.size
    by_cases hlt : k < 13
    · have g1 := neqF (cut_do (k : Int) w a b).symm
      have g2 := i8_next k (by omega)
      have g3 : (k : Int) ≤ 12 := by omega
      have F1 := Lib.hid (fun W => do_ok (k : Int) w a b W (by omega) (by omega) HW.out ha0 ha1 hb0 hb1)
      have F2 := fun W => do_ok (k : Int) w (cutI a w) (cutI b w) W (by omega) (by omega) HW.out C0.out.1 C0.out.2 C1.out.1 C1.out.2
      rw [do_cuts] at F2
      have G2 := Lib.hid F2; clear F2
      go_wp2_with fail
      refine (F1.out _).mono ?_
      rintro e w1 ⟨rfl, b1⟩
      go_wp2_with (go_at_call 10; refine (cut_any _ _ _).mono ?_; rintro e w' ⟨rfl, rfl⟩)
      refine (G2.out _).mono ?_
      rintro e w2 ⟨rfl, b2⟩
      go_wp2_with (go_at_call 10; refine (cut_any _ _ _).mono ?_; rintro e w' ⟨rfl, rfl⟩)
      go_roundw
      case rel => exact ⟨k + 1, by omega, by go_num, (hB.trans (b1.mono hz)).trans (b2.mono (Nat.le_trans hz b1.size))⟩
      case measure => simp [intOf]; omega
    · obtain rfl : k = 13 := by omega
      go_wp2_with fail
      refine (wakes_any _).mono ?_
      rintro e w1 ⟨rfl, b1⟩
      go_wp2
      go_ret
      exact ⟨rfl, hB.trans (b1.mono hz)⟩
theorem bitsUndo_walk (w a b : Int) (_hw : (Lit.int .i8 w).wf = true) (ha : (Lit.int .u64 a).wf = true) (hb : (Lit.int .u64 b).wf = true) (W : World) :
    Calls Try.prog 3 #[.int .i8 w, .int .u64 a, .int .u64 b] W fun e w' => e = .returned (.bool true) ∧ Below W.heap.size W w' := by
  obtain ⟨ha0, ha1⟩ := bd_u64 ha
  obtain ⟨hb0, hb1⟩ := bd_u64 hb
  cases h : longB w
  · exact bitsUndo_bad w a b h ha0 ha1 hb0 hb1 W
  · by_cases hz : cutI b w = 0
    · exact bitsUndo_zero w a b h hz ha0 ha1 hb0 hb1 W
    · exact bitsUndo_good w a b h hz ha0 ha1 hb0 hb1 W

end Go.Proofs.Ytipdgncjcpkcbaa
