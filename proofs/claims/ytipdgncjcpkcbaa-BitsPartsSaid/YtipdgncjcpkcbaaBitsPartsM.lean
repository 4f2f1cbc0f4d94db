/-
  Shifts add up, and shifting back leaves the bits that stayed: plain arithmetic.
-/
import Derived.Test.YtipdgncjcpkcbaaBitsUndoW
namespace Go.Proofs.Ytipdgncjcpkcbaa
open Go.RowKit
set_option linter.unusedVariables false

/-- The operations that the law BitsParts goes over. -/
def partsL (k : Nat) : Int := match k with | 0 => 6 | 1 => 7 | _ => 12

theorem pow_pos' (n : Nat) : 0 < (2 : Int) ^ n := Int.pow_pos (by omega)
theorem topI_dvd {w : Int} (hw : longB w = true) : topI w ∣ 18446744073709551616 :=
  longB_w hw (P := fun w => topI w ∣ 18446744073709551616) ⟨4294967296, rfl⟩ ⟨1, rfl⟩
theorem cut_big (x w : Int) (hw : longB w = true) : cutI (x % 18446744073709551616) w = x % topI w := by
  rw [cutI_top _ w hw (Int.emod_nonneg _ (by omega)) (Int.emod_lt_of_pos _ (by omega)), Int.emod_emod_of_dvd x (topI_dvd hw)]
theorem cnt_is {w : Int} (hw : longB w = true) (n : Int) (h0 : 0 ≤ n) (h1 : n < w) : cntI w (cutI n w) = n.toNat := by
  rcases longB_cases hw with rfl | rfl
  · show (n % 4294967296 % 32).toNat = n.toNat
    congr 1; omega
  · show (n % 64).toNat = n.toNat
    congr 1; omega
theorem shl_is {w : Int} (hw : longB w = true) (v n : Int) (hv0 : 0 ≤ v) (hv1 : v < 18446744073709551616) (h0 : 0 ≤ n) (h1 : n < w) : doI 6 w v n = (v * 2 ^ n.toNat) % topI w := by
  rw [doI_is 6 w v n (by omega) (by omega) hw, opI_6, cnt_is hw n h0 h1, cut_big _ w hw, cutI_top v w hw hv0 hv1, Int.mul_emod, Int.emod_emod_of_dvd v (Int.dvd_refl _), ← Int.mul_emod]
theorem shr_is {w : Int} (hw : longB w = true) (v n : Int) (hv0 : 0 ≤ v) (hv1 : v < 18446744073709551616) (h0 : 0 ≤ n) (h1 : n < w) : doI 7 w v n = (v % topI w) / 2 ^ n.toNat := by
  obtain ⟨c0, c1⟩ := cutI_lt v w hw hv0 hv1
  rw [doI_is 7 w v n (by omega) (by omega) hw, opI_7, cnt_is hw n h0 h1, cutI_small _ w hw (Int.ediv_nonneg c0 (pow_nonneg' _)) (by have := Int.ediv_le_self (2 ^ n.toNat) c0; omega), cutI_top v w hw hv0 hv1]
theorem sgn_top (v w : Int) (hw : longB w = true) : sgnI v w = (v + topI w / 2) % topI w - topI w / 2 := by
  rcases longB_cases hw with rfl | rfl <;> rfl
theorem sgn_rng (v w : Int) (hw : longB w = true) : -(topI w / 2) ≤ sgnI v w ∧ sgnI v w < topI w / 2 := by
  rcases longB_cases hw with rfl | rfl
  · show -2147483648 ≤ (v + 2147483648) % 4294967296 - 2147483648 ∧ (v + 2147483648) % 4294967296 - 2147483648 < 2147483648
    omega
  · show -9223372036854775808 ≤ (v + 9223372036854775808) % 18446744073709551616 - 9223372036854775808 ∧ (v + 9223372036854775808) % 18446744073709551616 - 9223372036854775808 < 9223372036854775808
    omega
theorem sgn_back (y w : Int) (hw : longB w = true) (h0 : -(topI w / 2) ≤ y) (h1 : y < topI w / 2) : sgnI (y % topI w) w = y := by
  rcases longB_cases hw with rfl | rfl
  · change -2147483648 ≤ y at h0
    change y < 2147483648 at h1
    show (y % 4294967296 + 2147483648) % 4294967296 - 2147483648 = y
    omega
  · change -9223372036854775808 ≤ y at h0
    change y < 9223372036854775808 at h1
    show (y % 18446744073709551616 + 9223372036854775808) % 18446744073709551616 - 9223372036854775808 = y
    omega
theorem sgn_cut (v w : Int) (hw : longB w = true) : sgnI (cutI v w) w = sgnI v w := by
  rcases longB_cases hw with rfl | rfl
  · show (v % 4294967296 + 2147483648) % 4294967296 - 2147483648 = (v + 2147483648) % 4294967296 - 2147483648
    omega
  · rfl
theorem div_rng (y d H : Int) (hd : 1 ≤ d) (hH : 0 ≤ H) (h0 : -H ≤ y) (h1 : y < H) : -H ≤ y / d ∧ y / d < H := by
  have k : H * 1 ≤ H * d := Int.mul_le_mul_of_nonneg_left hd hH
  refine ⟨Int.le_ediv_of_mul_le (by omega) ?_, Int.ediv_lt_of_lt_mul (by omega) (by omega)⟩
  rw [Int.neg_mul]; omega
theorem half_nonneg {w : Int} (hw : longB w = true) : 0 ≤ topI w / 2 := by
  rcases longB_cases hw with rfl | rfl <;> decide
theorem sar_is {w : Int} (hw : longB w = true) (v n : Int) (hv0 : 0 ≤ v) (hv1 : v < 18446744073709551616) (h0 : 0 ≤ n) (h1 : n < w) : doI 12 w v n = (sgnI v w / 2 ^ n.toNat) % topI w := by
  rw [doI_is 12 w v n (by omega) (by omega) hw, opI_12, cnt_is hw n h0 h1, cut_big _ w hw, sgn_cut v w hw]
theorem pow_split (n m : Int) (h0 : 0 ≤ n) (h1 : 0 ≤ m) : (2 : Int) ^ (n + m).toNat = 2 ^ n.toNat * 2 ^ m.toNat := by
  rw [Int.toNat_add h0 h1, Int.pow_add]
theorem div_div (a : Int) (n m : Nat) : a / 2 ^ n / 2 ^ m = a / (2 ^ n * 2 ^ m) := Int.ediv_ediv_of_nonneg (pow_nonneg' n)
theorem parts_eq (k : Nat) (hk : k < 3) (w v n m : Int) (hw : longB w = true) (hv0 : 0 ≤ v) (hv1 : v < 18446744073709551616) (h0 : 0 ≤ n) (h1 : 0 ≤ m) (h2 : n + m < w) :
    doI (partsL k) w (doI (partsL k) w v n) m = doI (partsL k) w v (n + m) := by
  obtain ⟨t0, t1⟩ := topI_bd hw
  have hk' : k = 0 ∨ k = 1 ∨ k = 2 := by omega
  rcases hk' with rfl | rfl | rfl
  · show doI 6 w (doI 6 w v n) m = doI 6 w v (n + m)
    have b := doI_bd 6 w v n hv0 hv1 h0 (by rcases longB_cases hw with rfl | rfl <;> omega)
    rw [shl_is hw _ m b.1 b.2 h1 (by omega), shl_is hw v n hv0 hv1 h0 (by omega), shl_is hw v (n + m) hv0 hv1 (by omega) h2, pow_split n m h0 h1, Int.mul_emod, Int.emod_emod_of_dvd _ (Int.dvd_refl _), ← Int.mul_emod, Int.mul_assoc]
  · show doI 7 w (doI 7 w v n) m = doI 7 w v (n + m)
    have b := doI_bd 7 w v n hv0 hv1 h0 (by rcases longB_cases hw with rfl | rfl <;> omega)
    have c0 : 0 ≤ v % topI w := Int.emod_nonneg _ (by omega)
    have c1 : v % topI w < topI w := Int.emod_lt_of_pos _ t0
    have d0 : 0 ≤ v % topI w / 2 ^ n.toNat := Int.ediv_nonneg c0 (pow_nonneg' _)
    have d1 := Int.ediv_le_self (2 ^ n.toNat) c0
    rw [shr_is hw _ m b.1 b.2 h1 (by omega), shr_is hw v n hv0 hv1 h0 (by omega), shr_is hw v (n + m) hv0 hv1 (by omega) h2, pow_split n m h0 h1, Int.emod_eq_of_lt d0 (by omega), div_div]
  · show doI 12 w (doI 12 w v n) m = doI 12 w v (n + m)
    have b := doI_bd 12 w v n hv0 hv1 h0 (by rcases longB_cases hw with rfl | rfl <;> omega)
    have r := sgn_rng v w hw
    have s := div_rng (sgnI v w) (2 ^ n.toNat) (topI w / 2) (by have := pow_pos' n.toNat; omega) (half_nonneg hw) r.1 r.2
    rw [sar_is hw _ m b.1 b.2 h1 (by omega), sar_is hw v n hv0 hv1 h0 (by omega), sar_is hw v (n + m) hv0 hv1 (by omega) h2, pow_split n m h0 h1, sgn_back _ w hw s.1 s.2, div_div]

theorem back_nat (V N q d : Nat) (hd : d = 2 ^ N) (hq : ∃ j, q = 2 ^ j) : (V * d) % (q * d) / d = V &&& ((q * d - 1) / d) := by
  obtain ⟨j, rfl⟩ := hq
  have d0 : 0 < d := by rw [hd]; exact Nat.two_pow_pos N
  have q0 : 0 < 2 ^ j := Nat.two_pow_pos j
  have e : (2 ^ j * d - 1) / d = 2 ^ j - 1 := by
    apply Nat.div_eq_of_lt_le
    · rw [Nat.sub_mul, Nat.one_mul]; have := Nat.le_mul_of_pos_left d q0; omega
    · rw [Nat.sub_add_cancel q0]; have := Nat.mul_pos q0 d0; omega
  rw [Nat.mul_mod_mul_right, Nat.mul_div_cancel _ d0, e, Nat.and_two_pow_sub_one_eq_mod]
theorem top_split {w : Int} (hw : longB w = true) (n : Int) (h0 : 0 ≤ n) (h1 : n < w) : ∃ j : Nat, topI w = ((2 ^ j * 2 ^ n.toNat : Nat) : Int) := by
  refine ⟨w.toNat - n.toNat, ?_⟩
  rw [← Nat.pow_add, show w.toNat - n.toNat + n.toNat = w.toNat by omega]
  rcases longB_cases hw with rfl | rfl <;> rfl
theorem top_less {w : Int} (hw : longB w = true) : (18446744073709551615 : Int) % topI w = topI w - 1 := by
  rcases longB_cases hw with rfl | rfl <;> rfl
theorem parts_last (w v n : Int) (hw : longB w = true) (hv0 : 0 ≤ v) (hv1 : v < 18446744073709551616) (h0 : 0 ≤ n) (h1 : n < w) :
    doI 7 w (doI 6 w v n) n = bits .and .u64 v (doI 7 w 18446744073709551615 n) := by
  have w1 : w ≤ 64 := by rcases longB_cases hw with rfl | rfl <;> omega
  have b := doI_bd 6 w v n hv0 hv1 h0 (by omega)
  have c := doI_bd 7 w 18446744073709551615 n (by omega) (by omega) h0 (by omega)
  obtain ⟨t0, t1⟩ := topI_bd hw
  rw [u64_and v _ hv0 hv1 c.1 c.2]
  rw [shr_is hw _ n b.1 b.2 h0 h1, shl_is hw v n hv0 hv1 h0 h1, Int.emod_emod_of_dvd _ (Int.dvd_refl _), shr_is hw _ n (by omega) (by omega) h0 h1, top_less hw]
  obtain ⟨j, hj⟩ := top_split hw n h0 h1
  obtain ⟨V, rfl⟩ := Int.eq_ofNat_of_zero_le hv0
  have e := back_nat V n.toNat (2 ^ j) (2 ^ n.toNat) rfl ⟨j, rfl⟩
  have q : 0 < 2 ^ j * 2 ^ n.toNat := Nat.mul_pos (Nat.two_pow_pos j) (Nat.two_pow_pos _)
  have p : (2 : Int) ^ n.toNat = ((2 ^ n.toNat : Nat) : Int) := by simp
  have s : (((2 ^ j * 2 ^ n.toNat : Nat) : Int) - 1) = ((2 ^ j * 2 ^ n.toNat - 1 : Nat) : Int) := by omega
  rw [hj, p, s, ← Int.natCast_mul, ← Int.natCast_emod, ← Int.natCast_ediv, ← Int.natCast_ediv, e, Int.toNat_natCast, Int.toNat_natCast]
end Go.Proofs.Ytipdgncjcpkcbaa
