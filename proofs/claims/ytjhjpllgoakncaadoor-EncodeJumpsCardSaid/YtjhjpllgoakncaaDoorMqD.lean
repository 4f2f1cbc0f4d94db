/-
  Layer 12: the document's own Num. (Written by gen_mrd.py.)
-/
import Derived.Test.YtjhjpllgoakncaaDoorMqC
namespace Go.Proofs.YtjhjpllgoakncaaDoor.Mrm
open Go.RowKit
set_option linter.unusedVariables false
set_option linter.unnecessarySimpa false
set_option linter.unusedSimpArgs false
set_option maxRecDepth 100000

theorem num_n (v n : Int) (h0 : -9223372036854775808 ≤ v) (h1 : v ≤ 9223372036854775807) (W : World) : Calls Tryd.prog 62 #[.int .i64 v, .int .i64 n] W (RetB (bif numB v n then numL v n.toNat else []) (bif numB v n then 0 else 2) W) := by
  unfold numB
  cases h : wid n
  · exact num_wid v n h W
  · have h3 : n = 1 ∨ n = 2 ∨ n = 4 := by
      unfold wid at h
      simp only [Bool.or_eq_true, beq_iff_eq] at h
      omega
    rcases h3 with rfl | rfl | rfl
    · show Calls _ _ _ _ (RetB (bif fitB v 1 then numL v 1 else []) (bif fitB v 1 then 0 else 2) W)
      cases g : fitB v 1
      · exact num_no1 v h0 h1 g W
      · exact num_yes1 v h0 h1 g W
    · show Calls _ _ _ _ (RetB (bif fitB v 2 then numL v 2 else []) (bif fitB v 2 then 0 else 2) W)
      cases g : fitB v 2
      · exact num_no2 v h0 h1 g W
      · exact num_yes2 v h0 h1 g W
    · show Calls _ _ _ _ (RetB (bif fitB v 4 then numL v 4 else []) (bif fitB v 4 then 0 else 2) W)
      cases g : fitB v 4
      · exact num_no4 v h0 h1 g W
      · exact num_yes4 v h0 h1 g W
theorem and255 {u : Int} (h0 : 0 ≤ u) (h1 : u < 18446744073709551616) : bits .and .u64 u 255 = u % 256 := by
  rw [u64_and u 255 h0 h1 (by omega) (by omega)]
  obtain ⟨U, rfl⟩ := Int.eq_ofNat_of_zero_le h0
  rw [Int.toNat_natCast, show (255 : Int).toNat = 2 ^ 8 - 1 from rfl, Nat.and_two_pow_sub_one_eq_mod]
  simp
/-- What is left of a number of 64 bits behind k bytes. -/
def lefI (v : Int) (k : Nat) : Int := v % 18446744073709551616 / 2 ^ (8 * k)
theorem lef_bd (v : Int) (k : Nat) : 0 ≤ lefI v k ∧ lefI v k < 18446744073709551616 := by
  unfold lefI
  have p : (0 : Int) < 2 ^ (8 * k) := Int.pow_pos (by omega)
  refine ⟨Int.ediv_nonneg (by omega) (by omega), ?_⟩
  exact Int.lt_of_le_of_lt (Int.ediv_le_self _ (by omega)) (by omega)
theorem lef_next (v : Int) (k : Nat) : lefI v k / 256 = lefI v (k + 1) := by
  unfold lefI
  rw [Int.ediv_ediv_of_nonneg (Int.le_of_lt (Int.pow_pos (by omega))), show 8 * (k + 1) = 8 * k + 8 by omega, Int.pow_add]
  rfl
theorem lef_by (v : Int) (k : Nat) (h : k < 4) : lefI v k % 256 = byS v k := by
  unfold lefI byS
  obtain rfl | rfl | rfl | rfl : k = 0 ∨ k = 1 ∨ k = 2 ∨ k = 3 := by omega
  · show v % 18446744073709551616 / 1 % 256 = v / 1 % 256; omega
  · show v % 18446744073709551616 / 256 % 256 = v / 256 % 256; omega
  · show v % 18446744073709551616 / 65536 % 256 = v / 65536 % 256; omega
  · show v % 18446744073709551616 / 16777216 % 256 = v / 16777216 % 256; omega
end Go.Proofs.YtjhjpllgoakncaaDoor.Mrm
