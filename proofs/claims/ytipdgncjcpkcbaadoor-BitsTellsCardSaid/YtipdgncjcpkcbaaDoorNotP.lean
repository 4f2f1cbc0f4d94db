/-
  From the row's condition on the listed table to what the walks ask of memory.
-/
import Derived.Test.YtipdgncjcpkcbaaDoorNotW
import Derived.ProofKit
import Derived.LaidMore
import Derived.MakeChecks
import Derived.Lib.LaidTab
namespace Go.Proofs.YtipdgncjcpkcbaaDoor
open Go.RowKit

theorem gOpp : Tryd.prog.globalNamed "lathe/bits.opposites" = some 0 := by kernel_rfl
theorem tOpp : (Tryd.prog.globals[(0 : Nat)]?).map (·.type) = some 38 := by kernel_rfl
theorem cOpp : Tryd.prog.cellsOf 38 = 10 := by kernel_rfl
theorem cI8 : Tryd.prog.cellsOf 22 = 1 := by kernel_rfl

theorem opps_of {W : World} (h : laidMetH Tryd.prog [("lathe/bits.opposites", Rows.laid_lathe_bits_opposites)] W) : Opps W := by
  rw [MakeChecks.laidMetH_plain _ _ _ (by kernel_rfl)] at h
  have t := Lib.tabIs_of_head (zs := opps) gOpp tOpp Tryd.underlying38 Tryd.underlying22 cI8 cOpp h
  exact fun i hi => t.cell gOpp i hi
end Go.Proofs.YtipdgncjcpkcbaaDoor
