/-
  What the law BitsBytes rests on, in numbers.
-/
import Derived.Test.YtbpefomjmjkciaaBytesV
namespace Go.Proofs.Ytbpefomjmjkciaa
open Go.RowKit
set_option linter.unusedVariables false

theorem mod_step (v q : Int) (hv : 0 ≤ v) (hq : 0 ≤ q) : v % (q * 256) = v % q + v / q % 256 * q := by
  obtain ⟨V, rfl⟩ := Int.eq_ofNat_of_zero_le hv
  obtain ⟨Q, rfl⟩ := Int.eq_ofNat_of_zero_le hq
  have h : V % (Q * 256) = V % Q + Q * (V / Q % 256) := Nat.mod_mul
  have g : ((V % (Q * 256) : Nat) : Int) = ((V % Q + Q * (V / Q % 256) : Nat) : Int) := by rw [h]
  rw [Nat.mul_comm Q (V / Q % 256)] at g
  simpa using g
theorem pow_step (k : Nat) : (2 : Int) ^ (8 * (k + 1)) = 2 ^ (8 * k) * 256 := by rw [show 8 * (k + 1) = 8 * k + 8 by omega, Int.pow_add]; rfl
theorem bytes_back (v : Int) (hv : 0 ≤ v) : ∀ m : Nat, getI (byteI v) m = v % 2 ^ (8 * m)
  | 0 => by show (0 : Int) = v % 1; omega
  | m + 1 => by
    show getI (byteI v) m + byteI v m * 2 ^ (8 * m) = _
    rw [bytes_back v hv m, pow_step, mod_step v _ hv (Int.le_of_lt (Int.pow_pos (by omega)))]; rfl
theorem byte_of (f : Nat → Int) : ∀ k : Nat, (∀ i, i < k → 0 ≤ f i ∧ f i < 256) → ∀ i, i < k → byteI (getI f k) i = f i
  | 0, _, i, hi => by omega
  | k + 1, h, i, hi => by
    have b := getI_bd f k (fun i hi => h i (by omega))
    have p : (0 : Int) < 2 ^ (8 * i) := Int.pow_pos (by omega)
    by_cases e : i = k
    · subst e
      show (getI f i + f i * 2 ^ (8 * i)) / 2 ^ (8 * i) % 256 = f i
      rw [Int.add_mul_ediv_right _ _ (by omega), Int.ediv_eq_zero_of_lt b.1 b.2]
      have := h i hi
      omega
    · have ih := byte_of f k (fun i hi => h i (by omega)) i (by omega)
      show (getI f k + f k * 2 ^ (8 * k)) / 2 ^ (8 * i) % 256 = f i
      have s : (2 : Int) ^ (8 * k) = 2 ^ (8 * (k - i - 1)) * 256 * 2 ^ (8 * i) := by
        rw [← pow_step, ← Int.pow_add]; congr 1; omega
      rw [s, ← Int.mul_assoc, Int.add_mul_ediv_right _ _ (by omega), ← Int.mul_assoc, Int.add_mul_emod_self_right]
      exact ih
theorem and_low (v : Int) (m : Nat) (hm : m < 8) (h0 : 0 ≤ v) (h1 : v < 18446744073709551616) : bits .and .u64 v (2 ^ (8 * m) - 1) = v % 2 ^ (8 * m) := by
  have p : (0 : Int) < 2 ^ (8 * m) := Int.pow_pos (by omega)
  have q : (2 : Int) ^ (8 * m) ≤ 2 ^ 56 := by
    have := Nat.pow_le_pow_right (show 0 < 2 by omega) (show 8 * m ≤ 56 by omega)
    have e : ((2 ^ (8 * m) : Nat) : Int) ≤ ((2 ^ 56 : Nat) : Int) := by omega
    simpa using e
  have r : (2 : Int) ^ 56 = 72057594037927936 := rfl
  rw [u64_and v _ h0 h1 (by omega) (by omega)]
  obtain ⟨V, rfl⟩ := Int.eq_ofNat_of_zero_le h0
  have c : ((2 : Int) ^ (8 * m) - 1).toNat = 2 ^ (8 * m) - 1 := by
    have e : (2 : Int) ^ (8 * m) = ((2 ^ (8 * m) : Nat) : Int) := by simp
    rw [e]; omega
  rw [c, Int.toNat_natCast, Nat.and_two_pow_sub_one_eq_mod]
  simp

theorem bd_i64 {a : Int} (h : (Lit.int .i64 a).wf = true) : -9223372036854775808 ≤ a ∧ a ≤ 9223372036854775807 := by
  simpa [Lit.wf, IntKind.min, IntKind.max, IntKind.bits, IntKind.signed] using h

theorem lt_of_cell {w : World} {b o : Nat} {v : Value} (h : w.cell? ⟨b, o, none⟩ = some v) : b < w.heap.size := by
  rcases Nat.lt_or_ge b w.heap.size with h' | h'
  · exact h'
  · have : w.heap[b]? = none := Array.getElem?_eq_none h'
    simp [World.cell?, this] at h
theorem get_bd (f : Nat → Int) (k : Nat) (hk : k ≤ 8) (h : ∀ i, i < k → 0 ≤ f i ∧ f i < 256) : 0 ≤ getI f k ∧ getI f k < 18446744073709551616 := by
  have b := getI_bd f k h
  refine ⟨b.1, Int.lt_of_lt_of_le b.2 ?_⟩
  have := Nat.pow_le_pow_right (show 0 < 2 by omega) (show 8 * k ≤ 64 by omega)
  have e : ((2 ^ (8 * k) : Nat) : Int) ≤ ((2 ^ 64 : Nat) : Int) := by omega
  simpa using e


theorem bd_u8' {a : Int} (h : (Lit.int .u8 a).wf = true) : 0 ≤ a ∧ a < 256 := by
  have : 0 ≤ a ∧ a ≤ 255 := by simpa [Lit.wf, IntKind.min, IntKind.max, IntKind.bits, IntKind.signed] using h
  omega
theorem get_row (v : Int) (m B : Nat) (w : World) (X : Int) (h8 : m ≤ 8) (hr : w.rowIs B 5 m (fun i => .int .u8 (byteI v i))) (hX : getI (byteI v) m = X) :
    Calls Try.prog 46 #[.slice (some ⟨B, 0, none⟩) m m] w fun e w' => e = .returned (.int .u64 X) ∧ w = w' := by
  rw [← hX]
  exact get_few B 0 m m (byteI v) w h8 (Nat.le_refl _) (by omega) (fun i hi => by unfold byteI; omega) (fun i hi => by rw [Nat.zero_add]; exact hr.cell hi)
theorem want_mid (v : Int) (m : Nat) (h8 : m < 8) (h0 : 0 ≤ v) (h1 : v < 18446744073709551616) : (v % 2 ^ (8 * m) == bits BinOp.and IntKind.u64 v (IntKind.u64.wrap (IntKind.u64.wrap (2 ^ (8 * m)) - 1))) = true := by
  have p : (0 : Int) < 2 ^ (8 * m) := Int.pow_pos (by omega)
  have q : (2 : Int) ^ (8 * m) ≤ 2 ^ 56 := by
    have := Nat.pow_le_pow_right (show 0 < 2 by omega) (show 8 * m ≤ 56 by omega)
    have e : ((2 ^ (8 * m) : Nat) : Int) ≤ ((2 ^ 56 : Nat) : Int) := by omega
    simpa using e
  have r : (2 : Int) ^ 56 = 72057594037927936 := rfl
  have e1 : IntKind.u64.wrap (2 ^ (8 * m)) = 2 ^ (8 * m) := by rw [IntKind.wrap_u64]; exact Int.emod_eq_of_lt (by omega) (by omega)
  have e2 : IntKind.u64.wrap (2 ^ (8 * m) - 1) = 2 ^ (8 * m) - 1 := by rw [IntKind.wrap_u64]; exact Int.emod_eq_of_lt (by omega) (by omega)
  rw [e1, e2, and_low v m h8 h0 h1]
  exact beq_self_eq_true _
theorem and_zero (v : Int) (h0 : 0 ≤ v) (h1 : v < 18446744073709551616) : bits .and .u64 v 0 = 0 := by
  rw [u64_and v 0 h0 h1 (by omega) (by omega)]; simp
end Go.Proofs.Ytbpefomjmjkciaa
