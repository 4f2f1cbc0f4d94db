/-
  Layer 12: bytes read as a signed number (modrm.Signed), as contracts.
-/
import Derived.Test.YtjhjpllgoakncaaDoorMqF
namespace Go.Proofs.YtjhjpllgoakncaaDoor.Mrm
open Go.RowKit
set_option linter.unusedVariables false
set_option linter.unnecessarySimpa false
set_option linter.unusedSimpArgs false
set_option maxRecDepth 100000

def getI (f : Nat → Int) : Nat → Int
  | 0 => 0
  | k + 1 => getI f k + f k * 2 ^ (8 * k)

theorem getI_bd (f : Nat → Int) : ∀ k : Nat, (∀ i, i < k → 0 ≤ f i ∧ f i < 256) → 0 ≤ getI f k ∧ getI f k < 2 ^ (8 * k)
  | 0, _ => ⟨by unfold getI; omega, by show (0 : Int) < 2 ^ (8 * 0); decide⟩
  | k + 1, h => by
    have ih := getI_bd f k (fun i hi => h i (by omega))
    have b := h k (by omega)
    have p : (0 : Int) < 2 ^ (8 * k) := Int.pow_pos (by omega)
    have e : (2 : Int) ^ (8 * (k + 1)) = 256 * 2 ^ (8 * k) := by rw [show 8 * (k + 1) = 8 + 8 * k by omega, Int.pow_add]; rfl
    have u : f k * 2 ^ (8 * k) ≤ 255 * 2 ^ (8 * k) := Int.mul_le_mul_of_nonneg_right (by omega) (by omega)
    have v : 0 ≤ f k * 2 ^ (8 * k) := Int.mul_nonneg b.1 (by omega)
    unfold getI
    rw [e]
    omega
theorem get_step (x y : Int) (k : Nat) (h8 : k < 8) (hx0 : 0 ≤ x) (hx1 : x < 2 ^ (8 * k)) (hy0 : 0 ≤ y) (hy1 : y < 256) : bits .or .u64 x (y * 2 ^ (8 * k) % 18446744073709551616) = x + y * 2 ^ (8 * k) := by
  have p : (0 : Int) < 2 ^ (8 * k) := Int.pow_pos (by omega)
  have q : (2 : Int) ^ (8 * k) ≤ 2 ^ 56 := by
    have := Nat.pow_le_pow_right (show 0 < 2 by omega) (show 8 * k ≤ 56 by omega)
    have e : ((2 ^ (8 * k) : Nat) : Int) ≤ ((2 ^ 56 : Nat) : Int) := by omega
    simpa using e
  have r : (2 : Int) ^ 56 = 72057594037927936 := rfl
  have u : y * 2 ^ (8 * k) ≤ 255 * 2 ^ (8 * k) := Int.mul_le_mul_of_nonneg_right (by omega) (by omega)
  have v : 0 ≤ y * 2 ^ (8 * k) := Int.mul_nonneg hy0 (by omega)
  rw [Int.emod_eq_of_lt v (by omega), u64_or _ _ hx0 (by omega) v (by omega)]
  obtain ⟨X, rfl⟩ := Int.eq_ofNat_of_zero_le hx0
  obtain ⟨Y, rfl⟩ := Int.eq_ofNat_of_zero_le hy0
  have c : ((Y : Int) * 2 ^ (8 * k)) = ((2 ^ (8 * k) * Y : Nat) : Int) := by rw [Nat.mul_comm (2 ^ (8 * k)) Y]; simp
  have d : X < 2 ^ (8 * k) := by
    have e : (X : Int) < ((2 ^ (8 * k) : Nat) : Int) := by simpa using hx1
    omega
  rw [c, Int.toNat_natCast, Int.toNat_natCast, Nat.or_comm, ← Nat.two_pow_add_eq_or_of_lt d]
  omega

/-- A number of n bytes, read with its sign. -/
def sgV (n : Nat) (u : Int) : Int := if n = 0 then 0 else if u < 2 ^ (8 * n - 1) then u else u - 2 ^ (8 * n)
def cntN (l : List Int) : Nat := min l.length 8
def sgn (l : List Int) : Int := sgV (cntN l) (getI (fun i => l.getD i 0) (cntN l))
theorem sg_is (n : Nat) (g : Int) (h1 : 1 ≤ n) (h8 : n ≤ 8) (g0 : 0 ≤ g) (g1 : g < 2 ^ (8 * n)) : wrap64 (IntKind.u64.wrap (g * 2 ^ (64 - 8 * n))) / 2 ^ (64 - 8 * n) = sgV n g := by
  rw [IntKind.wrap_u64]
  unfold sgV wrap64
  rw [if_neg (by omega)]
  obtain rfl | rfl | rfl | rfl | rfl | rfl | rfl | rfl : n = 1 ∨ n = 2 ∨ n = 3 ∨ n = 4 ∨ n = 5 ∨ n = 6 ∨ n = 7 ∨ n = 8 := by omega
  · have g2 : g < 256 := g1
    show (((g * 72057594037927936 % 18446744073709551616 + 9223372036854775808) % 18446744073709551616 - 9223372036854775808) / 72057594037927936 : Int) = if g < 128 then g else g - 256
    split <;> omega
  · have g2 : g < 65536 := g1
    show (((g * 281474976710656 % 18446744073709551616 + 9223372036854775808) % 18446744073709551616 - 9223372036854775808) / 281474976710656 : Int) = if g < 32768 then g else g - 65536
    split <;> omega
  · have g2 : g < 16777216 := g1
    show (((g * 1099511627776 % 18446744073709551616 + 9223372036854775808) % 18446744073709551616 - 9223372036854775808) / 1099511627776 : Int) = if g < 8388608 then g else g - 16777216
    split <;> omega
  · have g2 : g < 4294967296 := g1
    show (((g * 4294967296 % 18446744073709551616 + 9223372036854775808) % 18446744073709551616 - 9223372036854775808) / 4294967296 : Int) = if g < 2147483648 then g else g - 4294967296
    split <;> omega
  · have g2 : g < 1099511627776 := g1
    show (((g * 16777216 % 18446744073709551616 + 9223372036854775808) % 18446744073709551616 - 9223372036854775808) / 16777216 : Int) = if g < 549755813888 then g else g - 1099511627776
    split <;> omega
  · have g2 : g < 281474976710656 := g1
    show (((g * 65536 % 18446744073709551616 + 9223372036854775808) % 18446744073709551616 - 9223372036854775808) / 65536 : Int) = if g < 140737488355328 then g else g - 281474976710656
    split <;> omega
  · have g2 : g < 72057594037927936 := g1
    show (((g * 256 % 18446744073709551616 + 9223372036854775808) % 18446744073709551616 - 9223372036854775808) / 256 : Int) = if g < 36028797018963968 then g else g - 72057594037927936
    split <;> omega
  · have g2 : g < 18446744073709551616 := g1
    show (((g * 1 % 18446744073709551616 + 9223372036854775808) % 18446744073709551616 - 9223372036854775808) / 1 : Int) = if g < 9223372036854775808 then g else g - 18446744073709551616
    split <;> omega

theorem sg_8 (g : Int) (g0 : 0 ≤ g) (g1 : g < 2 ^ (8 * 8)) : wrap64 (IntKind.u64.wrap g) = sgV 8 g := by
  rw [IntKind.wrap_u64]
  unfold sgV wrap64
  rw [if_neg (by omega)]
  have g2 : g < 18446744073709551616 := g1
  show ((g % 18446744073709551616 + 9223372036854775808) % 18446744073709551616 - 9223372036854775808 : Int) = if g < 9223372036854775808 then g else g - 18446744073709551616
  split <;> omega
set_option maxHeartbeats 1000000 in
theorem signed_few (b o len cap : Nat) (f : Nat → Int) (W : World) (hl : len ≤ 8) (h1 : 1 ≤ len) (hc : len ≤ cap) (hm : cap ≤ 9223372036854775807) (hf : ∀ i, i < len → 0 ≤ f i ∧ f i < 256) (hcell : ∀ i, i < len → W.cell? ⟨b, o + i, none⟩ = some (.int .u8 (f i))) :
    Calls Tryd.prog 83 #[.slice (some ⟨b, o, none⟩) len cap] W fun e w' => e = .returned (.int .i64 (sgV len (getI f len))) ∧ W = w' := by
  have HC := Lib.hid hcell; clear hcell
  have HF := Lib.hid hf; clear hf
  have U := Lib.hid (fun W => unused_n len (by omega) W)
  go_enter Tryd.func83, Tryd.ntmps83
  go_wp2
  go_loop [3, 14] (fun v i => ∃ k : Nat, k ≤ len ∧ i = .int .i64 k ∧ v = .int .u64 (getI f k)) (fun _ i => len - (intOf i).toNat)
  case atStart => exact ⟨0, by omega, rfl, rfl⟩
  case round =>
    obtain ⟨k, hk, rfl, rfl⟩ := hrel
    by_cases hlt : k < len
    · have hb := getI_bd f k (fun i hi => HF.out i (by omega))
      have hy := HF.out k hlt
      have e1 : min (8 * k) 64 = 8 * k := by omega
      have e2 := Lib.hid (get_step (getI f k) (f k) k (by omega) hb.1 hb.2 hy.1 hy.2)
      have hx := HC.out k hlt
      have hy0 := hy.1
      have hy1 := hy.2
      clear hb hy
      go_wp2
      go_round
      case rel => exact ⟨k + 1, by omega, by go_num, by rw [IntKind.wrap_u64, e2.out]; rfl⟩
      case measure => simp [intOf]; omega
    · obtain rfl : k = len := by omega
      have HG := Lib.hid (getI_bd f k (fun i hi => HF.out i (by omega)))
      have HS := Lib.hid (sg_is k (getI f k) (by omega) (by omega) HG.out.1 HG.out.2)
      go_wp2_with fail
      refine (U.out _).mono ?_
      rintro e w1 ⟨rfl, rfl⟩
      have e1 : min (64 - 8 * k) 64 = 64 - 8 * k := by omega
      have e2 : 64 - 8 * k ≤ 63 := by omega
      generalize hd : 64 - 8 * k = d at *
      go_wp2
      go_ret
      exact ⟨retV (congrArg (Value.int .i64) HS.out), rfl⟩
set_option maxHeartbeats 1000000 in
theorem signed_many (b o len cap : Nat) (f : Nat → Int) (W : World) (hl : 8 < len) (hc : len ≤ cap) (hm : cap ≤ 9223372036854775807) (hf : ∀ i, i < 8 → 0 ≤ f i ∧ f i < 256) (hcell : ∀ i, i < 8 → W.cell? ⟨b, o + i, none⟩ = some (.int .u8 (f i))) :
    Calls Tryd.prog 83 #[.slice (some ⟨b, o, none⟩) len cap] W fun e w' => e = .returned (.int .i64 (sgV 8 (getI f 8))) ∧ W = w' := by
  have HC := Lib.hid hcell; clear hcell
  have HF := Lib.hid hf; clear hf
  have U := Lib.hid (fun W => unused_n 8 (by omega) W)
  go_enter Tryd.func83, Tryd.ntmps83
  go_wp2
  go_loop [3, 14] (fun v i => ∃ k : Nat, k ≤ 8 ∧ i = .int .i64 k ∧ v = .int .u64 (getI f k)) (fun _ i => 8 - (intOf i).toNat)
  case atStart => exact ⟨0, by omega, rfl, rfl⟩
  case round =>
    obtain ⟨k, hk, rfl, rfl⟩ := hrel
    by_cases hlt : k < 8
    · have hb := getI_bd f k (fun i hi => HF.out i (by omega))
      have hy := HF.out k hlt
      have e1 : min (8 * k) 64 = 8 * k := by omega
      have e2 := Lib.hid (get_step (getI f k) (f k) k (by omega) hb.1 hb.2 hy.1 hy.2)
      have hx := HC.out k hlt
      have hy0 := hy.1
      have hy1 := hy.2
      clear hb hy
      go_wp2
      go_round
      case rel => exact ⟨k + 1, by omega, by go_num, by rw [IntKind.wrap_u64, e2.out]; rfl⟩
      case measure => simp [intOf]; omega
    · obtain rfl : k = 8 := by omega
      have HG := Lib.hid (getI_bd f 8 (fun i hi => HF.out i (by omega)))
      have HS := Lib.hid (sg_8 (getI f 8) HG.out.1 HG.out.2)
      go_wp2_with fail
      refine (U.out _).mono ?_
      rintro e w1 ⟨rfl, rfl⟩
      go_wp2
      go_ret
      exact ⟨retV (congrArg (Value.int .i64) HS.out), rfl⟩
end Go.Proofs.YtjhjpllgoakncaaDoor.Mrm
