/-
  The document's answers latheref01.Sign at 16 and 32 bits, Get; latheref03.Read.
-/
import Derived.Test.YtbpefomjmjkciaaInsR
import Derived.Test.YtbpefomjmjkciaaInsP
import Derived.Test.YtbpefomjmjkciaaRinB
import Derived.Deep.LoopGhost
namespace Go.Proofs.Ytbpefomjmjkciaa.Ins
open Go.RowKit
set_option linter.unusedVariables false
set_option maxRecDepth 100000

theorem ofInt_mod (v : Int) : (BitVec.ofInt 64 v).toNat = (v % 18446744073709551616).toNat := by
  rw [BitVec.toNat_ofInt]; rfl
theorem and_mask (v : Int) (i : Nat) (hi : i ≤ 63) (m : Int) (hm : m = 2 ^ i - 1) : bits .and .u64 v m = v % 2 ^ i := by
  have q : (2 : Nat) ^ i ≤ 2 ^ 63 := Nat.pow_le_pow_right (by omega) hi
  have p : 0 < (2 : Nat) ^ i := Nat.two_pow_pos i
  have e : (2 : Int) ^ i = ((2 ^ i : Nat) : Int) := by simp
  have q' : ((2 : Nat) ^ 63) = 9223372036854775808 := rfl
  show IntKind.u64.wrap ((BitVec.ofInt 64 v &&& BitVec.ofInt 64 m).toNat : Int) = _
  have h2 : (BitVec.ofInt 64 m).toNat = 2 ^ i - 1 := by
    rw [ofInt_mod, hm, e]; omega
  rw [BitVec.toNat_and, ofInt_mod, h2, Nat.and_two_pow_sub_one_eq_mod, IntKind.wrap_u64]
  have h3 : (((v % 18446744073709551616).toNat % 2 ^ i : Nat) : Int) = (v % 18446744073709551616) % ((2 ^ i : Nat) : Int) := by
    rw [Int.natCast_emod, Int.toNat_of_nonneg (by omega)]
  have h4 : ((2 ^ i : Nat) : Int) ∣ 18446744073709551616 := by
    refine ⟨((2 ^ (64 - i) : Nat) : Int), ?_⟩
    rw [← Int.natCast_mul, ← Nat.pow_add, show i + (64 - i) = 64 by omega]; rfl
  have h5 : (v % ((2 ^ i : Nat) : Int)) < ((2 ^ i : Nat) : Int) := Int.emod_lt_of_pos _ (by omega)
  have h6 : 0 ≤ (v % ((2 ^ i : Nat) : Int)) := Int.emod_nonneg _ (by omega)
  rw [h3, Int.emod_emod_of_dvd v h4, e, Int.emod_eq_of_lt h6 (by omega)]

theorem rwidth_16 (W : World) : Calls Try.prog 78 #[.int .i8 16] W fun e w' => e = .returned (.bool true) ∧ W = w' := by
  go_enter Try.func78, Try.ntmps78
  go_wp2
  go_ret
  exact ⟨rfl, rfl⟩
theorem rcut_16 (v : Int) (W : World) : Calls Try.prog 79 #[.int .u64 v, .int .i8 16] W fun e w' => e = .returned (.int .u64 (v % 65536)) ∧ W = w' := by
  have e1 : bits .and .u64 v 65535 = v % 65536 := and_mask v 16 (by omega) 65535 rfl
  go_enter Try.func79, Try.ntmps79
  go_wp2_with (go_at_call 78; refine (rwidth_16 _).mono ?_; rintro e w' ⟨rfl, rfl⟩)
  go_ret
  exact ⟨rfl, rfl⟩
set_option maxHeartbeats 400000 in
theorem rsign_16 (v : Int) (h0 : 0 ≤ v) (h1 : v < 65536) (W : World) : Calls Try.prog 48 #[.int .u64 v, .int .i8 16] W fun e w' => e = .returned (.int .u64 (sgn16 v % 18446744073709551616)) ∧ W = w' := by
  have e0 : v % 65536 = v := Int.emod_eq_of_lt h0 h1
  have e1 : bits .and .u64 (v / 32768) 1 = v / 32768 % 2 := and_mask (v / 32768) 1 (by omega) 1 rfl
  by_cases hb : v / 32768 % 2 = 1
  · have h2 : (v / 32768 % 2 == 1) = true := by simpa using hb
    have HB := Lib.hid hb; clear hb
    go_enter Try.func48, Try.ntmps48
    go_wp2_with (first | (go_at_call 78; refine (rwidth_16 _).mono ?_; rintro e w' ⟨rfl, rfl⟩) | (go_at_call 79; refine (rcut_16 _ _).mono ?_; rw [e0]; rintro e w' ⟨rfl, rfl⟩))
    go_ret
    refine ⟨retI ?_, rfl⟩
    have hb := HB.out
    rw [IntKind.wrap_u64]; unfold sgn16; split <;> omega
  · have h2 : (v / 32768 % 2 == 1) = false := by simpa using hb
    have HB := Lib.hid hb; clear hb
    go_enter Try.func48, Try.ntmps48
    go_wp2_with (first | (go_at_call 78; refine (rwidth_16 _).mono ?_; rintro e w' ⟨rfl, rfl⟩) | (go_at_call 79; refine (rcut_16 _ _).mono ?_; rw [e0]; rintro e w' ⟨rfl, rfl⟩))
    go_ret
    refine ⟨retI ?_, rfl⟩
    have hb := HB.out
    unfold sgn16; split <;> omega

theorem rwidth_32 (W : World) : Calls Try.prog 78 #[.int .i8 32] W fun e w' => e = .returned (.bool true) ∧ W = w' := by
  go_enter Try.func78, Try.ntmps78
  go_wp2
  go_ret
  exact ⟨rfl, rfl⟩
theorem rcut_32 (v : Int) (W : World) : Calls Try.prog 79 #[.int .u64 v, .int .i8 32] W fun e w' => e = .returned (.int .u64 (v % 4294967296)) ∧ W = w' := by
  have e1 : bits .and .u64 v 4294967295 = v % 4294967296 := and_mask v 32 (by omega) 4294967295 rfl
  go_enter Try.func79, Try.ntmps79
  go_wp2_with (go_at_call 78; refine (rwidth_32 _).mono ?_; rintro e w' ⟨rfl, rfl⟩)
  go_ret
  exact ⟨rfl, rfl⟩
set_option maxHeartbeats 400000 in
theorem rsign_32 (v : Int) (h0 : 0 ≤ v) (h1 : v < 4294967296) (W : World) : Calls Try.prog 48 #[.int .u64 v, .int .i8 32] W fun e w' => e = .returned (.int .u64 (sgn32 v % 18446744073709551616)) ∧ W = w' := by
  have e0 : v % 4294967296 = v := Int.emod_eq_of_lt h0 h1
  have e1 : bits .and .u64 (v / 2147483648) 1 = v / 2147483648 % 2 := and_mask (v / 2147483648) 1 (by omega) 1 rfl
  by_cases hb : v / 2147483648 % 2 = 1
  · have h2 : (v / 2147483648 % 2 == 1) = true := by simpa using hb
    have HB := Lib.hid hb; clear hb
    go_enter Try.func48, Try.ntmps48
    go_wp2_with (first | (go_at_call 78; refine (rwidth_32 _).mono ?_; rintro e w' ⟨rfl, rfl⟩) | (go_at_call 79; refine (rcut_32 _ _).mono ?_; rw [e0]; rintro e w' ⟨rfl, rfl⟩))
    go_ret
    refine ⟨retI ?_, rfl⟩
    have hb := HB.out
    rw [IntKind.wrap_u64]; unfold sgn32; split <;> omega
  · have h2 : (v / 2147483648 % 2 == 1) = false := by simpa using hb
    have HB := Lib.hid hb; clear hb
    go_enter Try.func48, Try.ntmps48
    go_wp2_with (first | (go_at_call 78; refine (rwidth_32 _).mono ?_; rintro e w' ⟨rfl, rfl⟩) | (go_at_call 79; refine (rcut_32 _ _).mono ?_; rw [e0]; rintro e w' ⟨rfl, rfl⟩))
    go_ret
    refine ⟨retI ?_, rfl⟩
    have hb := HB.out
    unfold sgn32; split <;> omega

set_option maxHeartbeats 1000000 in
theorem r_get (b off len cap : Nat) (f : Nat → Int) (W : World) (hl : len ≤ 4) (hc : len ≤ cap) (hm : cap ≤ 9223372036854775807) (hf : ∀ i, i < len → 0 ≤ f i ∧ f i < 256) (hcell : ∀ i, i < len → W.cell? ⟨b, off + i, none⟩ = some (.int .u8 (f i))) :
    Calls Try.prog 49 #[.slice (some ⟨b, off, none⟩) len cap] W fun e w' => e = .returned (.int .u64 (getI f len)) ∧ W = w' := by
  have HC := Lib.hid hcell; clear hcell
  have HF := Lib.hid hf; clear hf
  go_enter Try.func49, Try.ntmps49
  go_wp2_with fail
  go_loopw [3, 4] (fun v i wr => ∃ k : Nat, k ≤ len ∧ i = .int .i64 k ∧ v = .int .u64 (getI f k) ∧ wr = W) (fun _ i _ => len - (intOf i).toNat)
  case atStart => exact ⟨0, by omega, rfl, rfl, rfl⟩
  case round =>
    obtain ⟨k, hk, rfl, rfl, rfl⟩ := hrel
    by_cases hlt : k < len
    · have ck := HC.out k hlt
      have hfk := HF.out k hlt
      have hb := getI_bd f k (fun i hi => HF.out i (by omega))
      have k4 : k = 0 ∨ k = 1 ∨ k = 2 ∨ k = 3 := by omega
      have hs : getI f (k + 1) = getI f k + f k * 2 ^ (8 * k) := rfl
      have HS := Lib.hid hs
      clear hs
      generalize getI f k = g at *
      generalize f k = y at *
      rcases k4 with rfl | rfl | rfl | rfl
      · have H2 : getI f 1 = g + y * 1 := HS.out
        rw [Nat.add_zero] at ck
        have hb0 := hb.1
        have hb2 : g < 1 := by have := hb.2; simpa using this
        clear HS hb
        go_wp2_with fail
        go_roundw
        case rel => exact ⟨1, by omega, by first | rfl | go_num, by rw [H2]; simp, by trivial⟩
        case measure => simp [intOf]; omega
      · have H2 : getI f 2 = g + y * 256 := HS.out
        have hb0 := hb.1
        have hb2 : g < 256 := by have := hb.2; simpa using this
        clear HS hb
        go_wp2_with fail
        go_roundw
        case rel => exact ⟨2, by omega, by first | rfl | go_num, by rw [H2], by trivial⟩
        case measure => simp [intOf]; omega
      · have H2 : getI f 3 = g + y * 65536 := HS.out
        have hb0 := hb.1
        have hb2 : g < 65536 := by have := hb.2; simpa using this
        clear HS hb
        go_wp2_with fail
        go_roundw
        case rel => exact ⟨3, by omega, by first | rfl | go_num, by rw [H2], by trivial⟩
        case measure => simp [intOf]; omega
      · have H2 : getI f 4 = g + y * 16777216 := HS.out
        have hb0 := hb.1
        have hb2 : g < 16777216 := by have := hb.2; simpa using this
        clear HS hb
        go_wp2_with fail
        go_roundw
        case rel => exact ⟨4, by omega, by first | rfl | go_num, by rw [H2], by trivial⟩
        case measure => simp [intOf]; omega
    · obtain rfl : k = len := by omega
      go_wp2_with fail
      go_ret
      exact ⟨rfl, rfl⟩
end Go.Proofs.Ytbpefomjmjkciaa.Ins
