/-
  Known bits in the document's own spellings; scalars that hold numbers. No program is named here.
-/
import Derived.Test.YtcnneeimkcnjfaaStM
import Derived.Test.YtcnneeimkcnjfaaKnwN
namespace Go.Proofs.Ytcnneeimkcnjfaa.Sta
open Bnd Knw
set_option linter.unusedVariables false
set_option linter.unusedSimpArgs false
theorem may_ok (k : Kn) : k.mayB = true ↔ Knw.Ok k := Knw.may_iff k
/-! ### 2^k - 1 -/
def onesB (k : Nat) : B := Bk (2 ^ k - 1)
theorem g_ones {k : Nat} (hk : k ≤ 64) (i : Nat) : g (onesB k) i = decide (i < k) := by
  have p : (2 : Int) ^ k = ((2 ^ k : Nat) : Int) := pow_cast k
  have q : 2 ^ k ≤ 2 ^ 64 := Nat.pow_le_pow_right (by decide) hk
  unfold onesB
  rw [g_Bk i (by rw [p]; omega), p, show (((2 ^ k : Nat) : Int) - 1).toNat = 2 ^ k - 1 by omega, Nat.testBit_two_pow_sub_one]
theorem com_ones (lo hi : B) : comB lo hi = onesB (lenN (lo ^^^ hi).toNat) := rfl
end Go.Proofs.Ytcnneeimkcnjfaa.Sta
