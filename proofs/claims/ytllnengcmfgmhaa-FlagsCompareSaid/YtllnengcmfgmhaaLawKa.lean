/-
  Small facts on widths.
-/
import Derived.Test.YtllnengcmfgmhaaBitsVd
namespace Go.Proofs.Ytllnengcmfgmhaa
open Go.RowKit
set_option linter.unusedVariables false

theorem widthB_f {w : Int} (h : widthB w = false) : ¬ w = 8 ∧ ¬ w = 16 ∧ ¬ w = 32 ∧ ¬ w = 64 := by
  unfold widthB at h; simpa [and_assoc] using h
theorem widthB_t {w : Int} (h : widthB w = true) : w = 8 ∨ w = 16 ∨ w = 32 ∨ w = 64 := by
  unfold widthB at h; simpa [or_assoc] using h
end Go.Proofs.Ytllnengcmfgmhaa
