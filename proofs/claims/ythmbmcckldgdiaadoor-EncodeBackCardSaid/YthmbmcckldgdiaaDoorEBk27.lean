import Derived.Test.YthmbmcckldgdiaaDoorEBk26
import Derived.Deep.RegionHeld3
set_option linter.unusedVariables false
set_option linter.unusedSimpArgs false
set_option linter.unnecessarySimpa false
namespace Go.Proofs.YthmbmcckldgdiaaDoor.Mrm
open Go Go.RowKit
set_option linter.unusedVariables false
set_option linter.unnecessarySimpa false
set_option linter.unusedSimpArgs false
set_option maxRecDepth 100000
theorem eqX_refl (x:Xi):eqX x x=true:=eqX_iff.2 rfl
theorem info_X {X:Array Value} (h:X.size=8):(Tryd.prog.info? 24).map (·.size)=some X.size:=by rw [h];kernel_rfl
theorem wpList_gload_row {P:Program} {ops:Array Oper} {rest:List Oper} {o:Oper} {a:Act} {w:World} {Q:Exit → Act → World → Prop} (hw:Region.wanted o (yielded ops a.tmps)=true) (ty:TypeId) (x:Operand) (ho:o.op=.load ty x)
    (g:Nat) (hx:a.eval x=.pointer (some ⟨g,0,none⟩)) (t:TypeId) (cs:Array Value) (fr:Nat × Nat) (d:TypeDesc) (hg:w.heap[g]?=some (.cells cs t fr))
    (hu:P.underlying ty=some d) (hd:(match d with | .struct _ | .array _ _=>true | _=>false)=true) (hi:(P.info? ty).map (·.size)=some cs.size)
    (h:wpList P ops Q rest (a.put o.dst (.agg cs)) w):wpList P ops Q (o :: rest) a w:=
  wpList_step fun K hK=>by rw [if_pos hw];exact wp_load_row ty x ho g hx t cs fr d hg hu hd hi (hK _ _ h)
theorem halt_load0 {P:Program} {ops:Array Oper} {rest:List Oper} {o:Oper} {a:Act} {w:World} {Q:Exit → Act → World → Prop} (ty:TypeId) (x:Operand) (ho:o.op=.load ty x) (hg:o.guard=none)
    (h:wpList P ops Q (o :: rest) a w ∧ True):wpList P ops Q (o :: rest) a w:=h.1
theorem bytL_no {x:Xi} (h:mayX x=false):bytL x=[] ∧ bytC x=2:=by unfold bytL bytC;rw [h];exact ⟨rfl,rfl⟩
theorem bytL_yes {x:Xi} (h:mayX x=true):bytL x=bytesX x ∧ bytC x=0:=by unfold bytL bytC;rw [h];exact ⟨rfl,rfl⟩
end Go.Proofs.YthmbmcckldgdiaaDoor.Mrm
