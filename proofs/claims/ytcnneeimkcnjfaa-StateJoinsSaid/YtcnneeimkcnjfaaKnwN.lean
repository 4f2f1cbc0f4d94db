/-
  Known bits: cuts, shifts, and why what an operation makes of them holds, and is no less where less is known. No program is named here.
-/
import Derived.Test.YtcnneeimkcnjfaaKnwM
namespace Go.Proofs.Ytcnneeimkcnjfaa.Knw
set_option linter.unusedVariables false
set_option linter.unusedSimpArgs false
theorem g_Bk {z : Int} (i : Nat) (h1 : z < 18446744073709551616) : g (Bk z) i = z.toNat.testBit i := by
  show (BitVec.ofNat 64 z.toNat).getLsbD i = _
  rw [BitVec.getLsbD_ofNat]
  by_cases h : i < 64
  · simp [h]
  · rw [Nat.testBit_lt_two_pow (Nat.lt_of_lt_of_le (show z.toNat < 2 ^ 64 by omega) (Nat.pow_le_pow_right (by omega) (by omega)))]; simp
/-! ### Operations of words -/
/-! ### What an operation makes of it -/
end Go.Proofs.Ytcnneeimkcnjfaa.Knw
