/-
  Package state: Has, Load, Store; value.Bytes. (Written by gen_stf.py.)
-/
import Derived.Test.YtcnneeimkcnjfaaStE
namespace Go.Proofs.Ytcnneeimkcnjfaa.Sta
open Go.RowKit Bnd Knw
set_option linter.unusedVariables false
set_option linter.unusedSimpArgs false
set_option linter.unnecessarySimpa false
set_option maxRecDepth 100000
section
variable {ρ : Operand → Value} {o : Oper} {w : World}
end
end Go.Proofs.Ytcnneeimkcnjfaa.Sta
