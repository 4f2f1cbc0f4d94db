import Derived.Test.YtjhjpllgoakncaaDoorETl32
import Derived.Deep.RegionHeld3
set_option linter.unusedVariables false
set_option linter.unusedSimpArgs false
set_option linter.unnecessarySimpa false
namespace Go.Proofs.YtjhjpllgoakncaaDoor.Mrm
open Go Go.RowKit
set_option linter.unusedVariables false
set_option linter.unnecessarySimpa false
set_option linter.unusedSimpArgs false
set_option maxRecDepth 100000
theorem info_X {X:Array Value} (h:X.size=8):(Tryd.prog.info? 24).map (·.size)=some X.size:=by rw [h];kernel_rfl
theorem halt_load0 {P:Program} {ops:Array Oper} {rest:List Oper} {o:Oper} {a:Act} {w:World} {Q:Exit → Act → World → Prop} (ty:TypeId) (x:Operand) (ho:o.op=.load ty x) (hg:o.guard=none)
    (h:wpList P ops Q (o :: rest) a w ∧ True):wpList P ops Q (o :: rest) a w:=h.1
theorem bytL_ok (x:Xi) (hX:XOk x):Oks (bytL x):=by
  unfold bytL
  cases h:mayX x
  · intro z hz;cases hz
  · exact bytes_ok x hX h
end Go.Proofs.YtjhjpllgoakncaaDoor.Mrm
