/-
  The document's own answer for layer 7: filled, the least 2^k - 1 that is at least a number.
-/
import Derived.Test.YtnmgehjccafegaaBndS
namespace Go.Proofs.Ytnmgehjccafegaa.Bnd
open Go.RowKit
set_option linter.unusedVariables false
set_option linter.unusedSimpArgs false

theorem fill_step (k : Nat) (hk : k < 64) : bits .or .u64 (IntKind.u64.wrap ((2 ^ k - 1 : Int) * 2)) 1 = 2 ^ (k + 1) - 1 := by
  have p : 0 < 2 ^ k := Nat.two_pow_pos k
  have q : 2 ^ (k + 1) ≤ 2 ^ 64 := Nat.pow_le_pow_right (by omega) (by omega)
  have e : (2 : Int) ^ k = ((2 ^ k : Nat) : Int) := pow_cast k
  have e2 : (2 : Int) ^ (k + 1) = ((2 ^ (k + 1) : Nat) : Int) := pow_cast (k + 1)
  have s : 2 ^ (k + 1) = 2 ^ k * 2 := Nat.pow_succ 2 k
  rw [e, e2, IntKind.wrap_u64, Int.emod_eq_of_lt (by omega) (by omega), u64_or _ _ (by omega) (by omega) (by omega) (by omega)]
  have n1 : (((2 ^ k : Nat) : Int) - 1) * 2 = ((2 * (2 ^ k - 1) : Nat) : Int) := by omega
  rw [n1, Int.toNat_natCast]
  have o : 2 * (2 ^ k - 1) ||| (1 : Int).toNat = 2 * (2 ^ k - 1) + 1 := by
    have := Nat.two_pow_add_eq_or_of_lt (i := 1) (b := 1) (by omega) (2 ^ k - 1)
    rw [Nat.pow_one] at this
    exact this.symm
  rw [o]; omega

set_option maxHeartbeats 1000000 in
theorem rfilled_n (x : Int) (W : World) (h0 : 0 ≤ x) (h1 : x < 18446744073709551616) : Calls Try.prog 90 #[.int .u64 x] W fun e w' => e = .returned (.int .u64 (onesI (Int.toNat x))) ∧ Below W.heap.size W w' := by
  have HX := Lib.hid (And.intro h0 h1)
  clear h0 h1
  go_enter Try.func90, Try.ntmps90
  go_wp2_with fail
  go_loopw [3] (fun i wr => ∃ m : Int, i = .int .u64 m ∧ Hid (∃ k : Nat, k ≤ lenN x.toNat ∧ m = 2 ^ k - 1) ∧ W = wr) (fun i _ => (18446744073709551616 - intOf i).toNat)
  case atStart => exact ⟨0, rfl, Lib.hid ⟨0, Nat.zero_le _, rfl⟩, rfl⟩
  case round =>
    obtain ⟨m, rfl, hk, rfl⟩ := hrel
    by_cases hlt : m < x
    · have hf : Hid (∃ k : Nat, k + 1 ≤ lenN x.toNat ∧ m = 2 ^ k - 1 ∧ k < 64) := Lib.hid (by
        obtain ⟨k, hk1, rfl⟩ := hk.out
        obtain ⟨b0, b1⟩ := HX.out
        have l := lenN_64 (n := x.toNat) (by omega)
        refine ⟨k, ?_, rfl, ?_⟩
        · by_cases e : k = lenN x.toNat
          · have := (lenN_spec x.toNat).1
            rw [← e] at this
            rw [pow_cast] at hlt
            omega
          · omega
        · by_cases e : k = lenN x.toNat
          · have := (lenN_spec x.toNat).1
            rw [← e] at this
            rw [pow_cast] at hlt
            omega
          · omega)
      go_wp2_with fail
      go_roundw
      case rel =>
        obtain ⟨k, a, b, c⟩ := hf.out
        exact ⟨_, rfl, Lib.hid ⟨k + 1, a, by rw [b]; exact fill_step k c⟩, by trivial⟩
      case measure =>
        obtain ⟨k, a, b, c⟩ := hf.out
        have s := fill_step k c
        have p : 0 < 2 ^ k := Nat.two_pow_pos k
        have q : 2 ^ (k + 1) ≤ 2 ^ 64 := Nat.pow_le_pow_right (by omega) (by omega)
        have e : (2 : Int) ^ k = ((2 ^ k : Nat) : Int) := pow_cast k
        have e2 : (2 : Int) ^ (k + 1) = ((2 ^ (k + 1) : Nat) : Int) := pow_cast (k + 1)
        have z : 2 ^ (k + 1) = 2 ^ k * 2 := Nat.pow_succ 2 k
        rw [← b, e2] at s
        rw [e] at b
        simp only [intOf]
        rw [s]
        omega
    · go_wp2_with fail
      go_ret
      refine ⟨?_, Below.refl _ _⟩
      obtain ⟨k, hk1, e⟩ := hk.out
      obtain ⟨b0, b1⟩ := HX.out
      have : k = lenN x.toNat := by
        by_cases e2 : k = lenN x.toNat
        · exact e2
        · exfalso
          have p := (lenN_spec x.toNat).2
          by_cases z : x.toNat = 0
          · rw [z, lenN_zero] at hk1 e2; omega
          · have p := p z
            have q : 2 ^ k ≤ 2 ^ (lenN x.toNat - 1) := Nat.pow_le_pow_right (by omega) (by omega)
            rw [e, pow_cast] at hlt
            omega
      subst this
      exact retI (by rw [e]; rfl)
end Go.Proofs.Ytnmgehjccafegaa.Bnd
