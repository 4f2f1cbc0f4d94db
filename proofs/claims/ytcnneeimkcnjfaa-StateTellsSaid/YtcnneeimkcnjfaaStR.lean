import Derived.Test.YtcnneeimkcnjfaaStQ
namespace Go.Proofs.Ytcnneeimkcnjfaa.Sta
open Bnd Knw
set_option linter.unusedVariables false
set_option linter.unusedSimpArgs false
section
variable {a b:Ty}
end
end Go.Proofs.Ytcnneeimkcnjfaa.Sta
