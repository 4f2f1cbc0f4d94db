/-
  The document's answer for layer 1 (latheref01): Width, Cut, Sign, Not and long, as contracts.
-/
import Derived.Test.YtipdgncjcpkcbaaDoorNotW
namespace Go.Proofs.YtipdgncjcpkcbaaDoor
open Go.RowKit
set_option linter.unusedVariables false

theorem retII {k l : IntKind} {a b c : Int} (h : a = b) : Ending.returned (.tuple #[.int k a, .int l c]) = .returned (.tuple #[.int k b, .int l c]) := by rw [h]
theorem ofInt_mod (v : Int) : (BitVec.ofInt 64 v).toNat = (v % 18446744073709551616).toNat := by
  rw [BitVec.toNat_ofInt]; rfl
theorem and_mask (v : Int) (i : Nat) (hi : i ≤ 63) (m : Int) (hm : m = 2 ^ i - 1) : bits .and .u64 v m = v % 2 ^ i := by
  have q : (2 : Nat) ^ i ≤ 2 ^ 63 := Nat.pow_le_pow_right (by omega) hi
  have p : 0 < (2 : Nat) ^ i := Nat.two_pow_pos i
  have e : (2 : Int) ^ i = ((2 ^ i : Nat) : Int) := by simp
  have q' : ((2 : Nat) ^ 63) = 9223372036854775808 := rfl
  show IntKind.u64.wrap ((BitVec.ofInt 64 v &&& BitVec.ofInt 64 m).toNat : Int) = _
  have h2 : (BitVec.ofInt 64 m).toNat = 2 ^ i - 1 := by
    rw [ofInt_mod, hm, e]; omega
  rw [BitVec.toNat_and, ofInt_mod, h2, Nat.and_two_pow_sub_one_eq_mod, IntKind.wrap_u64]
  have h3 : (((v % 18446744073709551616).toNat % 2 ^ i : Nat) : Int) = (v % 18446744073709551616) % ((2 ^ i : Nat) : Int) := by
    rw [Int.natCast_emod, Int.toNat_of_nonneg (by omega)]
  have h4 : ((2 ^ i : Nat) : Int) ∣ 18446744073709551616 := by
    refine ⟨((2 ^ (64 - i) : Nat) : Int), ?_⟩
    rw [← Int.natCast_mul, ← Nat.pow_add, show i + (64 - i) = 64 by omega]; rfl
  have h5 : (v % ((2 ^ i : Nat) : Int)) < ((2 ^ i : Nat) : Int) := Int.emod_lt_of_pos _ (by omega)
  have h6 : 0 ≤ (v % ((2 ^ i : Nat) : Int)) := Int.emod_nonneg _ (by omega)
  rw [h3, Int.emod_emod_of_dvd v h4, e, Int.emod_eq_of_lt h6 (by omega)]
theorem and_255 (v : Int) : bits .and .u64 v 255 = v % 256 := and_mask v 8 (by omega) 255 rfl
theorem and_65535 (v : Int) : bits .and .u64 v 65535 = v % 65536 := and_mask v 16 (by omega) 65535 rfl
theorem and_w32 (v : Int) : bits .and .u64 v 4294967295 = v % 4294967296 := and_mask v 32 (by omega) 4294967295 rfl
theorem and_1 (v : Int) : bits .and .u64 v 1 = v % 2 := and_mask v 1 (by omega) 1 rfl

set_option maxHeartbeats 400000 in
theorem refwidth_any (w : Int) (W : World) :
    Calls Tryd.prog 12 #[.int .i8 w] W fun e w' => e = .returned (.bool (widthB w)) ∧ W = w' := by
  by_cases a : w = 8
  · subst a
    go_enter Tryd.func12, Tryd.ntmps12
    go_wp2
    go_ret
    exact ⟨rfl, rfl⟩
  by_cases b : w = 16
  · subst b
    go_enter Tryd.func12, Tryd.ntmps12
    go_wp2
    go_ret
    exact ⟨rfl, rfl⟩
  by_cases c : w = 32
  · subst c
    go_enter Tryd.func12, Tryd.ntmps12
    go_wp2
    go_ret
    exact ⟨rfl, rfl⟩
  have d : widthB w = (w == 64) := by unfold widthB; rw [neq_of a, neq_of b, neq_of c]; rfl
  rw [d]; clear d
  have a' := neq_of a
  have b' := neq_of b
  have c' := neq_of c
  go_enter Tryd.func12, Tryd.ntmps12
  go_wp2
  go_ret
  exact ⟨rfl, rfl⟩
theorem refwidth_t (w : Int) (W : World) (h : widthB w = true) : Calls Tryd.prog 12 #[.int .i8 w] W fun e w' => e = .returned (.bool true) ∧ W = w' := by
  have := refwidth_any w W; rw [h] at this; exact this
theorem refwidth_f (w : Int) (W : World) (h : widthB w = false) : Calls Tryd.prog 12 #[.int .i8 w] W fun e w' => e = .returned (.bool false) ∧ W = w' := by
  have := refwidth_any w W; rw [h] at this; exact this

set_option maxHeartbeats 400000 in
theorem reflong_any (w : Int) (W : World) :
    Calls Tryd.prog 20 #[.int .i8 w] W fun e w' => e = .returned (.bool (longB w)) ∧ W = w' := by
  by_cases a : w = 32
  · subst a
    go_enter Tryd.func20, Tryd.ntmps20
    go_wp2
    go_ret
    exact ⟨rfl, rfl⟩
  have d : longB w = (w == 64) := by unfold longB; rw [neq_of a]; rfl
  rw [d]; clear d
  have a' := neq_of a
  go_enter Tryd.func20, Tryd.ntmps20
  go_wp2
  go_ret
  exact ⟨rfl, rfl⟩
theorem reflong_t (w : Int) (W : World) (h : longB w = true) : Calls Tryd.prog 20 #[.int .i8 w] W fun e w' => e = .returned (.bool true) ∧ W = w' := by
  have := reflong_any w W; rw [h] at this; exact this
theorem reflong_f (w : Int) (W : World) (h : longB w = false) : Calls Tryd.prog 20 #[.int .i8 w] W fun e w' => e = .returned (.bool false) ∧ W = w' := by
  have := reflong_any w W; rw [h] at this; exact this

set_option maxHeartbeats 400000 in
theorem refcut_any (v w : Int) (W : World) :
    Calls Tryd.prog 14 #[.int .u64 v, .int .i8 w] W fun e w' => e = .returned (.int .u64 (cutI v w)) ∧ W = w' := by
  cases h : widthB w
  · obtain ⟨n1, n2, n3, n4⟩ := widthB_f h
    have d : cutI v w = v := by unfold cutI; rw [if_neg n1, if_neg n2, if_neg n3]
    rw [d]; clear d n1 n2 n3 n4
    have H := Lib.hid h; clear h
    go_enter Tryd.func14, Tryd.ntmps14
    go_wp2_with (go_at_call 12; refine (refwidth_f _ _ H.out).mono ?_; rintro e w' ⟨rfl, rfl⟩)
    go_ret
    exact ⟨rfl, rfl⟩
  · rcases widthB_t h with rfl | rfl | rfl | rfl
    · have e1 := and_255 v
      go_enter Tryd.func14, Tryd.ntmps14
      go_wp2_with (go_at_call 12; refine (refwidth_t _ _ rfl).mono ?_; rintro e w' ⟨rfl, rfl⟩)
      go_ret
      exact ⟨rfl, rfl⟩
    · have e1 := and_65535 v
      go_enter Tryd.func14, Tryd.ntmps14
      go_wp2_with (go_at_call 12; refine (refwidth_t _ _ rfl).mono ?_; rintro e w' ⟨rfl, rfl⟩)
      go_ret
      exact ⟨rfl, rfl⟩
    · have e1 := and_w32 v
      go_enter Tryd.func14, Tryd.ntmps14
      go_wp2_with (go_at_call 12; refine (refwidth_t _ _ rfl).mono ?_; rintro e w' ⟨rfl, rfl⟩)
      go_ret
      exact ⟨rfl, rfl⟩
    · go_enter Tryd.func14, Tryd.ntmps14
      go_wp2_with (go_at_call 12; refine (refwidth_t _ _ rfl).mono ?_; rintro e w' ⟨rfl, rfl⟩)
      go_ret
      exact ⟨rfl, rfl⟩

set_option maxHeartbeats 400000 in
theorem refsign_8 (v : Int) (W : World) :
    Calls Tryd.prog 16 #[.int .u64 v, .int .i8 8] W fun e w' => e = .returned (.int .u64 (signI v 8)) ∧ W = w' := by
  have e1 := and_1 (cutI v 8 / 128)
  by_cases hb : cutI v 8 / 128 % 2 = 1
  · have h1 : (cutI v 8 / 128 % 2 == 1) = true := by simpa using hb
    have HB := Lib.hid hb; clear hb
    go_enter Tryd.func16, Tryd.ntmps16
    go_wp2_with (first | (go_at_call 12; refine (refwidth_t _ _ rfl).mono ?_; rintro e w' ⟨rfl, rfl⟩) | (go_at_call 14; refine (refcut_any _ _ _).mono ?_; rintro e w' ⟨rfl, rfl⟩))
    go_ret
    refine ⟨retI ?_, rfl⟩
    have hb := HB.out
    rw [cutI_8] at hb
    rw [IntKind.wrap_u64, cutI_8, signI_8]; omega
  · have h1 : (cutI v 8 / 128 % 2 == 1) = false := neq_of hb
    have HB := Lib.hid hb; clear hb
    go_enter Tryd.func16, Tryd.ntmps16
    go_wp2_with (first | (go_at_call 12; refine (refwidth_t _ _ rfl).mono ?_; rintro e w' ⟨rfl, rfl⟩) | (go_at_call 14; refine (refcut_any _ _ _).mono ?_; rintro e w' ⟨rfl, rfl⟩))
    go_ret
    refine ⟨retI ?_, rfl⟩
    have hb := HB.out
    rw [cutI_8] at hb
    rw [cutI_8, signI_8]; omega
set_option maxHeartbeats 400000 in
theorem refsign_16 (v : Int) (W : World) :
    Calls Tryd.prog 16 #[.int .u64 v, .int .i8 16] W fun e w' => e = .returned (.int .u64 (signI v 16)) ∧ W = w' := by
  have e1 := and_1 (cutI v 16 / 32768)
  by_cases hb : cutI v 16 / 32768 % 2 = 1
  · have h1 : (cutI v 16 / 32768 % 2 == 1) = true := by simpa using hb
    have HB := Lib.hid hb; clear hb
    go_enter Tryd.func16, Tryd.ntmps16
    go_wp2_with (first | (go_at_call 12; refine (refwidth_t _ _ rfl).mono ?_; rintro e w' ⟨rfl, rfl⟩) | (go_at_call 14; refine (refcut_any _ _ _).mono ?_; rintro e w' ⟨rfl, rfl⟩))
    go_ret
    refine ⟨retI ?_, rfl⟩
    have hb := HB.out
    rw [cutI_16] at hb
    rw [IntKind.wrap_u64, cutI_16, signI_16]; omega
  · have h1 : (cutI v 16 / 32768 % 2 == 1) = false := neq_of hb
    have HB := Lib.hid hb; clear hb
    go_enter Tryd.func16, Tryd.ntmps16
    go_wp2_with (first | (go_at_call 12; refine (refwidth_t _ _ rfl).mono ?_; rintro e w' ⟨rfl, rfl⟩) | (go_at_call 14; refine (refcut_any _ _ _).mono ?_; rintro e w' ⟨rfl, rfl⟩))
    go_ret
    refine ⟨retI ?_, rfl⟩
    have hb := HB.out
    rw [cutI_16] at hb
    rw [cutI_16, signI_16]; omega
set_option maxHeartbeats 400000 in
theorem refsign_32 (v : Int) (W : World) :
    Calls Tryd.prog 16 #[.int .u64 v, .int .i8 32] W fun e w' => e = .returned (.int .u64 (signI v 32)) ∧ W = w' := by
  have e1 := and_1 (cutI v 32 / 2147483648)
  by_cases hb : cutI v 32 / 2147483648 % 2 = 1
  · have h1 : (cutI v 32 / 2147483648 % 2 == 1) = true := by simpa using hb
    have HB := Lib.hid hb; clear hb
    go_enter Tryd.func16, Tryd.ntmps16
    go_wp2_with (first | (go_at_call 12; refine (refwidth_t _ _ rfl).mono ?_; rintro e w' ⟨rfl, rfl⟩) | (go_at_call 14; refine (refcut_any _ _ _).mono ?_; rintro e w' ⟨rfl, rfl⟩))
    go_ret
    refine ⟨retI ?_, rfl⟩
    have hb := HB.out
    rw [cutI_32] at hb
    rw [IntKind.wrap_u64, cutI_32, signI_32]; omega
  · have h1 : (cutI v 32 / 2147483648 % 2 == 1) = false := neq_of hb
    have HB := Lib.hid hb; clear hb
    go_enter Tryd.func16, Tryd.ntmps16
    go_wp2_with (first | (go_at_call 12; refine (refwidth_t _ _ rfl).mono ?_; rintro e w' ⟨rfl, rfl⟩) | (go_at_call 14; refine (refcut_any _ _ _).mono ?_; rintro e w' ⟨rfl, rfl⟩))
    go_ret
    refine ⟨retI ?_, rfl⟩
    have hb := HB.out
    rw [cutI_32] at hb
    rw [cutI_32, signI_32]; omega
set_option maxHeartbeats 400000 in
theorem refsign_any (v w : Int) (W : World) :
    Calls Tryd.prog 16 #[.int .u64 v, .int .i8 w] W fun e w' => e = .returned (.int .u64 (signI v w)) ∧ W = w' := by
  cases h : widthB w
  · obtain ⟨n1, n2, n3, n4⟩ := widthB_f h
    have d : signI v w = v := by unfold signI; rw [if_neg n1, if_neg n2, if_neg n3]
    rw [d]; clear d n1 n2 n3 n4
    have H := Lib.hid h; clear h
    go_enter Tryd.func16, Tryd.ntmps16
    go_wp2_with (go_at_call 12; refine (refwidth_f _ _ H.out).mono ?_; rintro e w' ⟨rfl, rfl⟩)
    go_ret
    exact ⟨rfl, rfl⟩
  · rcases widthB_t h with rfl | rfl | rfl | rfl
    · exact refsign_8 v W
    · exact refsign_16 v W
    · exact refsign_32 v W
    · have e1 := and_1 (cutI v 64 / 9223372036854775808)
      have key : ∀ b : Bool, (cutI v 64 / 9223372036854775808 % 2 == 1) = b → Calls Tryd.prog 16 #[.int .u64 v, .int .i8 64] W fun e w' => e = .returned (.int .u64 v) ∧ W = w' := by
        intro b h1
        cases b
        all_goals
          go_enter Tryd.func16, Tryd.ntmps16
          go_wp2_with (first | (go_at_call 12; refine (refwidth_t _ _ rfl).mono ?_; rintro e w' ⟨rfl, rfl⟩) | (go_at_call 14; refine (refcut_any _ _ _).mono ?_; rintro e w' ⟨rfl, rfl⟩))
          go_ret
          exact ⟨rfl, rfl⟩
      exact key _ rfl

theorem refnot_0 (W : World) : Calls Tryd.prog 10 #[.int .i8 0] W fun e w' => e = .returned (.tuple #[.int .i8 1, .bool true]) ∧ W = w' := by
  go_enter Tryd.func10, Tryd.ntmps10
  go_wp2
  go_ret2
  exact ⟨rfl, rfl⟩
theorem refnot_1 (W : World) : Calls Tryd.prog 10 #[.int .i8 1] W fun e w' => e = .returned (.tuple #[.int .i8 0, .bool true]) ∧ W = w' := by
  go_enter Tryd.func10, Tryd.ntmps10
  go_wp2
  go_ret2
  exact ⟨rfl, rfl⟩
theorem refnot_2 (W : World) : Calls Tryd.prog 10 #[.int .i8 2] W fun e w' => e = .returned (.tuple #[.int .i8 5, .bool true]) ∧ W = w' := by
  go_enter Tryd.func10, Tryd.ntmps10
  go_wp2
  go_ret2
  exact ⟨rfl, rfl⟩
theorem refnot_3 (W : World) : Calls Tryd.prog 10 #[.int .i8 3] W fun e w' => e = .returned (.tuple #[.int .i8 4, .bool true]) ∧ W = w' := by
  go_enter Tryd.func10, Tryd.ntmps10
  go_wp2
  go_ret2
  exact ⟨rfl, rfl⟩
theorem refnot_4 (W : World) : Calls Tryd.prog 10 #[.int .i8 4] W fun e w' => e = .returned (.tuple #[.int .i8 3, .bool true]) ∧ W = w' := by
  go_enter Tryd.func10, Tryd.ntmps10
  go_wp2
  go_ret2
  exact ⟨rfl, rfl⟩
theorem refnot_5 (W : World) : Calls Tryd.prog 10 #[.int .i8 5] W fun e w' => e = .returned (.tuple #[.int .i8 2, .bool true]) ∧ W = w' := by
  go_enter Tryd.func10, Tryd.ntmps10
  go_wp2
  go_ret2
  exact ⟨rfl, rfl⟩
theorem refnot_6 (W : World) : Calls Tryd.prog 10 #[.int .i8 6] W fun e w' => e = .returned (.tuple #[.int .i8 9, .bool true]) ∧ W = w' := by
  go_enter Tryd.func10, Tryd.ntmps10
  go_wp2
  go_ret2
  exact ⟨rfl, rfl⟩
theorem refnot_7 (W : World) : Calls Tryd.prog 10 #[.int .i8 7] W fun e w' => e = .returned (.tuple #[.int .i8 8, .bool true]) ∧ W = w' := by
  go_enter Tryd.func10, Tryd.ntmps10
  go_wp2
  go_ret2
  exact ⟨rfl, rfl⟩
theorem refnot_8 (W : World) : Calls Tryd.prog 10 #[.int .i8 8] W fun e w' => e = .returned (.tuple #[.int .i8 7, .bool true]) ∧ W = w' := by
  go_enter Tryd.func10, Tryd.ntmps10
  go_wp2
  go_ret2
  exact ⟨rfl, rfl⟩
theorem refnot_9 (W : World) : Calls Tryd.prog 10 #[.int .i8 9] W fun e w' => e = .returned (.tuple #[.int .i8 6, .bool true]) ∧ W = w' := by
  go_enter Tryd.func10, Tryd.ntmps10
  go_wp2
  go_ret2
  exact ⟨rfl, rfl⟩
set_option maxHeartbeats 1000000 in
theorem refnot_any (cc : Int) (W : World) : Calls Tryd.prog 10 #[.int .i8 cc] W fun e w' => e = .returned (.tuple #[.int .i8 (notI cc), .bool (notB cc)]) ∧ W = w' := by
  by_cases h : 0 ≤ cc ∧ cc < 10
  · have : cc = 0 ∨ cc = 1 ∨ cc = 2 ∨ cc = 3 ∨ cc = 4 ∨ cc = 5 ∨ cc = 6 ∨ cc = 7 ∨ cc = 8 ∨ cc = 9 := by omega
    rcases this with rfl | rfl | rfl | rfl | rfl | rfl | rfl | rfl | rfl | rfl
    · exact refnot_0 W
    · exact refnot_1 W
    · exact refnot_2 W
    · exact refnot_3 W
    · exact refnot_4 W
    · exact refnot_5 W
    · exact refnot_6 W
    · exact refnot_7 W
    · exact refnot_8 W
    · exact refnot_9 W
  · rw [show notI cc = 0 from if_neg h, show notB cc = false from decide_eq_false h]
    have n0 : (cc == 0) = false := neq_of (by omega)
    have n1 : (cc == 1) = false := neq_of (by omega)
    have n2 : (cc == 2) = false := neq_of (by omega)
    have n3 : (cc == 3) = false := neq_of (by omega)
    have n4 : (cc == 4) = false := neq_of (by omega)
    have n5 : (cc == 5) = false := neq_of (by omega)
    have n6 : (cc == 6) = false := neq_of (by omega)
    have n7 : (cc == 7) = false := neq_of (by omega)
    have n8 : (cc == 8) = false := neq_of (by omega)
    have n9 : (cc == 9) = false := neq_of (by omega)
    clear h
    go_enter Tryd.func10, Tryd.ntmps10
    go_wp2
    go_ret2
    exact ⟨rfl, rfl⟩
end Go.Proofs.YtipdgncjcpkcbaaDoor
