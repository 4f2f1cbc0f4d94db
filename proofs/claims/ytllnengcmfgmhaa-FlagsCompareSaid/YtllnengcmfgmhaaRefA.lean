/-
  The document's answer for layer 1 (latheref01): Width, Cut, Sign, Not and long, as contracts.
-/
import Derived.Test.YtllnengcmfgmhaaLawKa
namespace Go.Proofs.Ytllnengcmfgmhaa
open Go.RowKit
set_option linter.unusedVariables false

theorem retII {k l : IntKind} {a b c : Int} (h : a = b) : Ending.returned (.tuple #[.int k a, .int l c]) = .returned (.tuple #[.int k b, .int l c]) := by rw [h]
theorem ofInt_mod (v : Int) : (BitVec.ofInt 64 v).toNat = (v % 18446744073709551616).toNat := by
  rw [BitVec.toNat_ofInt]; rfl
theorem and_mask (v : Int) (i : Nat) (hi : i ≤ 63) (m : Int) (hm : m = 2 ^ i - 1) : bits .and .u64 v m = v % 2 ^ i := by
  have q : (2 : Nat) ^ i ≤ 2 ^ 63 := Nat.pow_le_pow_right (by omega) hi
  have p : 0 < (2 : Nat) ^ i := Nat.two_pow_pos i
  have e : (2 : Int) ^ i = ((2 ^ i : Nat) : Int) := by simp
  have q' : ((2 : Nat) ^ 63) = 9223372036854775808 := rfl
  show IntKind.u64.wrap ((BitVec.ofInt 64 v &&& BitVec.ofInt 64 m).toNat : Int) = _
  have h2 : (BitVec.ofInt 64 m).toNat = 2 ^ i - 1 := by
    rw [ofInt_mod, hm, e]; omega
  rw [BitVec.toNat_and, ofInt_mod, h2, Nat.and_two_pow_sub_one_eq_mod, IntKind.wrap_u64]
  have h3 : (((v % 18446744073709551616).toNat % 2 ^ i : Nat) : Int) = (v % 18446744073709551616) % ((2 ^ i : Nat) : Int) := by
    rw [Int.natCast_emod, Int.toNat_of_nonneg (by omega)]
  have h4 : ((2 ^ i : Nat) : Int) ∣ 18446744073709551616 := by
    refine ⟨((2 ^ (64 - i) : Nat) : Int), ?_⟩
    rw [← Int.natCast_mul, ← Nat.pow_add, show i + (64 - i) = 64 by omega]; rfl
  have h5 : (v % ((2 ^ i : Nat) : Int)) < ((2 ^ i : Nat) : Int) := Int.emod_lt_of_pos _ (by omega)
  have h6 : 0 ≤ (v % ((2 ^ i : Nat) : Int)) := Int.emod_nonneg _ (by omega)
  rw [h3, Int.emod_emod_of_dvd v h4, e, Int.emod_eq_of_lt h6 (by omega)]
theorem and_255 (v : Int) : bits .and .u64 v 255 = v % 256 := and_mask v 8 (by omega) 255 rfl
theorem and_65535 (v : Int) : bits .and .u64 v 65535 = v % 65536 := and_mask v 16 (by omega) 65535 rfl
theorem and_w32 (v : Int) : bits .and .u64 v 4294967295 = v % 4294967296 := and_mask v 32 (by omega) 4294967295 rfl
theorem and_1 (v : Int) : bits .and .u64 v 1 = v % 2 := and_mask v 1 (by omega) 1 rfl

set_option maxHeartbeats 400000 in
theorem refwidth_any (w : Int) (W : World) :
    Calls Try.prog 37 #[.int .i8 w] W fun e w' => e = .returned (.bool (widthB w)) ∧ W = w' := by
  by_cases a : w = 8
  · subst a
    go_enter Try.func37, Try.ntmps37
    go_wp2
    go_ret
    exact ⟨rfl, rfl⟩
  by_cases b : w = 16
  · subst b
    go_enter Try.func37, Try.ntmps37
    go_wp2
    go_ret
    exact ⟨rfl, rfl⟩
  by_cases c : w = 32
  · subst c
    go_enter Try.func37, Try.ntmps37
    go_wp2
    go_ret
    exact ⟨rfl, rfl⟩
  have d : widthB w = (w == 64) := by unfold widthB; rw [neq_of a, neq_of b, neq_of c]; rfl
  rw [d]; clear d
  have a' := neq_of a
  have b' := neq_of b
  have c' := neq_of c
  go_enter Try.func37, Try.ntmps37
  go_wp2
  go_ret
  exact ⟨rfl, rfl⟩
theorem refwidth_t (w : Int) (W : World) (h : widthB w = true) : Calls Try.prog 37 #[.int .i8 w] W fun e w' => e = .returned (.bool true) ∧ W = w' := by
  have := refwidth_any w W; rw [h] at this; exact this
theorem refwidth_f (w : Int) (W : World) (h : widthB w = false) : Calls Try.prog 37 #[.int .i8 w] W fun e w' => e = .returned (.bool false) ∧ W = w' := by
  have := refwidth_any w W; rw [h] at this; exact this

set_option maxHeartbeats 400000 in
theorem reflong_any (w : Int) (W : World) :
    Calls Try.prog 36 #[.int .i8 w] W fun e w' => e = .returned (.bool (longB w)) ∧ W = w' := by
  by_cases a : w = 32
  · subst a
    go_enter Try.func36, Try.ntmps36
    go_wp2
    go_ret
    exact ⟨rfl, rfl⟩
  have d : longB w = (w == 64) := by unfold longB; rw [neq_of a]; rfl
  rw [d]; clear d
  have a' := neq_of a
  go_enter Try.func36, Try.ntmps36
  go_wp2
  go_ret
  exact ⟨rfl, rfl⟩
theorem reflong_t (w : Int) (W : World) (h : longB w = true) : Calls Try.prog 36 #[.int .i8 w] W fun e w' => e = .returned (.bool true) ∧ W = w' := by
  have := reflong_any w W; rw [h] at this; exact this
theorem reflong_f (w : Int) (W : World) (h : longB w = false) : Calls Try.prog 36 #[.int .i8 w] W fun e w' => e = .returned (.bool false) ∧ W = w' := by
  have := reflong_any w W; rw [h] at this; exact this

set_option maxHeartbeats 400000 in
theorem refcut_any (v w : Int) (W : World) :
    Calls Try.prog 25 #[.int .u64 v, .int .i8 w] W fun e w' => e = .returned (.int .u64 (cutI v w)) ∧ W = w' := by
  cases h : widthB w
  · obtain ⟨n1, n2, n3, n4⟩ := widthB_f h
    have d : cutI v w = v := by unfold cutI; rw [if_neg n1, if_neg n2, if_neg n3]
    rw [d]; clear d n1 n2 n3 n4
    have H := Lib.hid h; clear h
    go_enter Try.func25, Try.ntmps25
    go_wp2_with (go_at_call 37; refine (refwidth_f _ _ H.out).mono ?_; rintro e w' ⟨rfl, rfl⟩)
    go_ret
    exact ⟨rfl, rfl⟩
  · rcases widthB_t h with rfl | rfl | rfl | rfl
    · have e1 := and_255 v
      go_enter Try.func25, Try.ntmps25
      go_wp2_with (go_at_call 37; refine (refwidth_t _ _ rfl).mono ?_; rintro e w' ⟨rfl, rfl⟩)
      go_ret
      exact ⟨rfl, rfl⟩
    · have e1 := and_65535 v
      go_enter Try.func25, Try.ntmps25
      go_wp2_with (go_at_call 37; refine (refwidth_t _ _ rfl).mono ?_; rintro e w' ⟨rfl, rfl⟩)
      go_ret
      exact ⟨rfl, rfl⟩
    · have e1 := and_w32 v
      go_enter Try.func25, Try.ntmps25
      go_wp2_with (go_at_call 37; refine (refwidth_t _ _ rfl).mono ?_; rintro e w' ⟨rfl, rfl⟩)
      go_ret
      exact ⟨rfl, rfl⟩
    · go_enter Try.func25, Try.ntmps25
      go_wp2_with (go_at_call 37; refine (refwidth_t _ _ rfl).mono ?_; rintro e w' ⟨rfl, rfl⟩)
      go_ret
      exact ⟨rfl, rfl⟩

set_option maxHeartbeats 400000 in
theorem refsign_8 (v : Int) (W : World) :
    Calls Try.prog 26 #[.int .u64 v, .int .i8 8] W fun e w' => e = .returned (.int .u64 (signI v 8)) ∧ W = w' := by
  have e1 := and_1 (cutI v 8 / 128)
  by_cases hb : cutI v 8 / 128 % 2 = 1
  · have h1 : (cutI v 8 / 128 % 2 == 1) = true := by simpa using hb
    have HB := Lib.hid hb; clear hb
    go_enter Try.func26, Try.ntmps26
    go_wp2_with (first | (go_at_call 37; refine (refwidth_t _ _ rfl).mono ?_; rintro e w' ⟨rfl, rfl⟩) | (go_at_call 25; refine (refcut_any _ _ _).mono ?_; rintro e w' ⟨rfl, rfl⟩))
    go_ret
    refine ⟨retI ?_, rfl⟩
    have hb := HB.out
    rw [cutI_8] at hb
    rw [IntKind.wrap_u64, cutI_8, signI_8]; omega
  · have h1 : (cutI v 8 / 128 % 2 == 1) = false := neq_of hb
    have HB := Lib.hid hb; clear hb
    go_enter Try.func26, Try.ntmps26
    go_wp2_with (first | (go_at_call 37; refine (refwidth_t _ _ rfl).mono ?_; rintro e w' ⟨rfl, rfl⟩) | (go_at_call 25; refine (refcut_any _ _ _).mono ?_; rintro e w' ⟨rfl, rfl⟩))
    go_ret
    refine ⟨retI ?_, rfl⟩
    have hb := HB.out
    rw [cutI_8] at hb
    rw [cutI_8, signI_8]; omega
set_option maxHeartbeats 400000 in
theorem refsign_16 (v : Int) (W : World) :
    Calls Try.prog 26 #[.int .u64 v, .int .i8 16] W fun e w' => e = .returned (.int .u64 (signI v 16)) ∧ W = w' := by
  have e1 := and_1 (cutI v 16 / 32768)
  by_cases hb : cutI v 16 / 32768 % 2 = 1
  · have h1 : (cutI v 16 / 32768 % 2 == 1) = true := by simpa using hb
    have HB := Lib.hid hb; clear hb
    go_enter Try.func26, Try.ntmps26
    go_wp2_with (first | (go_at_call 37; refine (refwidth_t _ _ rfl).mono ?_; rintro e w' ⟨rfl, rfl⟩) | (go_at_call 25; refine (refcut_any _ _ _).mono ?_; rintro e w' ⟨rfl, rfl⟩))
    go_ret
    refine ⟨retI ?_, rfl⟩
    have hb := HB.out
    rw [cutI_16] at hb
    rw [IntKind.wrap_u64, cutI_16, signI_16]; omega
  · have h1 : (cutI v 16 / 32768 % 2 == 1) = false := neq_of hb
    have HB := Lib.hid hb; clear hb
    go_enter Try.func26, Try.ntmps26
    go_wp2_with (first | (go_at_call 37; refine (refwidth_t _ _ rfl).mono ?_; rintro e w' ⟨rfl, rfl⟩) | (go_at_call 25; refine (refcut_any _ _ _).mono ?_; rintro e w' ⟨rfl, rfl⟩))
    go_ret
    refine ⟨retI ?_, rfl⟩
    have hb := HB.out
    rw [cutI_16] at hb
    rw [cutI_16, signI_16]; omega
set_option maxHeartbeats 400000 in
theorem refsign_32 (v : Int) (W : World) :
    Calls Try.prog 26 #[.int .u64 v, .int .i8 32] W fun e w' => e = .returned (.int .u64 (signI v 32)) ∧ W = w' := by
  have e1 := and_1 (cutI v 32 / 2147483648)
  by_cases hb : cutI v 32 / 2147483648 % 2 = 1
  · have h1 : (cutI v 32 / 2147483648 % 2 == 1) = true := by simpa using hb
    have HB := Lib.hid hb; clear hb
    go_enter Try.func26, Try.ntmps26
    go_wp2_with (first | (go_at_call 37; refine (refwidth_t _ _ rfl).mono ?_; rintro e w' ⟨rfl, rfl⟩) | (go_at_call 25; refine (refcut_any _ _ _).mono ?_; rintro e w' ⟨rfl, rfl⟩))
    go_ret
    refine ⟨retI ?_, rfl⟩
    have hb := HB.out
    rw [cutI_32] at hb
    rw [IntKind.wrap_u64, cutI_32, signI_32]; omega
  · have h1 : (cutI v 32 / 2147483648 % 2 == 1) = false := neq_of hb
    have HB := Lib.hid hb; clear hb
    go_enter Try.func26, Try.ntmps26
    go_wp2_with (first | (go_at_call 37; refine (refwidth_t _ _ rfl).mono ?_; rintro e w' ⟨rfl, rfl⟩) | (go_at_call 25; refine (refcut_any _ _ _).mono ?_; rintro e w' ⟨rfl, rfl⟩))
    go_ret
    refine ⟨retI ?_, rfl⟩
    have hb := HB.out
    rw [cutI_32] at hb
    rw [cutI_32, signI_32]; omega
set_option maxHeartbeats 400000 in
theorem refsign_any (v w : Int) (W : World) :
    Calls Try.prog 26 #[.int .u64 v, .int .i8 w] W fun e w' => e = .returned (.int .u64 (signI v w)) ∧ W = w' := by
  cases h : widthB w
  · obtain ⟨n1, n2, n3, n4⟩ := widthB_f h
    have d : signI v w = v := by unfold signI; rw [if_neg n1, if_neg n2, if_neg n3]
    rw [d]; clear d n1 n2 n3 n4
    have H := Lib.hid h; clear h
    go_enter Try.func26, Try.ntmps26
    go_wp2_with (go_at_call 37; refine (refwidth_f _ _ H.out).mono ?_; rintro e w' ⟨rfl, rfl⟩)
    go_ret
    exact ⟨rfl, rfl⟩
  · rcases widthB_t h with rfl | rfl | rfl | rfl
    · exact refsign_8 v W
    · exact refsign_16 v W
    · exact refsign_32 v W
    · have e1 := and_1 (cutI v 64 / 9223372036854775808)
      have key : ∀ b : Bool, (cutI v 64 / 9223372036854775808 % 2 == 1) = b → Calls Try.prog 26 #[.int .u64 v, .int .i8 64] W fun e w' => e = .returned (.int .u64 v) ∧ W = w' := by
        intro b h1
        cases b
        all_goals
          go_enter Try.func26, Try.ntmps26
          go_wp2_with (first | (go_at_call 37; refine (refwidth_t _ _ rfl).mono ?_; rintro e w' ⟨rfl, rfl⟩) | (go_at_call 25; refine (refcut_any _ _ _).mono ?_; rintro e w' ⟨rfl, rfl⟩))
          go_ret
          exact ⟨rfl, rfl⟩
      exact key _ rfl

end Go.Proofs.Ytllnengcmfgmhaa
