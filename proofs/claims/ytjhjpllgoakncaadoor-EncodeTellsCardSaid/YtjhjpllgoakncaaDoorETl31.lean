import Derived.Test.YtjhjpllgoakncaaDoorETl30
set_option linter.unusedVariables false
set_option linter.unusedSimpArgs false
set_option linter.unnecessarySimpa false
namespace Go.Proofs.YtjhjpllgoakncaaDoor.Mrm
open Go Go.RowKit
set_option linter.unusedVariables false
set_option linter.unusedSimpArgs false
set_option linter.unnecessarySimpa false
set_option maxRecDepth 100000
def rm (l:List Int) (h:Int):Int:=l.getD 0 0 % 8 + h
theorem bytes_ok (x:Xi) (hX:XOk x) (h:mayX x=true):Oks (bytesX x):=by
  rw [← encX_is x hX h]
  unfold encX encP operandP immP
  refine Oks.append (Oks.append (aheadP_ok _ _ _) ?_) (numL_ok _ _)
  cases inMemB (codeOfP x.op x.w).1.sh
  · cases inOpB (codeOfP x.op x.w).1.sh
    · intro z hz;cases hz
    · exact regL_ok _ _
  · exact memL_ok _ _ _
end Go.Proofs.YtjhjpllgoakncaaDoor.Mrm
