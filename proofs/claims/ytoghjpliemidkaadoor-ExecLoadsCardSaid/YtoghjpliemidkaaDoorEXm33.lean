import Derived.Test.YtoghjpliemidkaaDoorEXm32
set_option linter.unusedVariables false
set_option linter.unusedSimpArgs false
set_option linter.unnecessarySimpa false
namespace Go.Proofs.YtoghjpliemidkaaDoor.Mrm
open Go Go.RowKit
set_option linter.unusedVariables false
set_option linter.unusedSimpArgs false
set_option linter.unnecessarySimpa false
set_option maxRecDepth 100000
def d1 (l:List Int):Int:=(l.getD 0 0 + 128) % 256 - 128
def rm (l:List Int) (h:Int):Int:=l.getD 0 0 % 8 + h
theorem bytes_some (x:Xi) (hX:XOk x) (h:mayX x=true):1 ≤ (bytesX x).length:=by
  rw [← encX_is x hX h]
  unfold encX encP aheadP
  simp only [List.length_append,List.length_cons,List.length_nil]
  omega
end Go.Proofs.YtoghjpliemidkaaDoor.Mrm
