import Derived.Test.YtcnneeimkcnjfaaStP
namespace Go.Proofs.Ytcnneeimkcnjfaa.Sta
open Bnd Knw
set_option linter.unusedVariables false
set_option linter.unusedSimpArgs false
end Go.Proofs.Ytcnneeimkcnjfaa.Sta
