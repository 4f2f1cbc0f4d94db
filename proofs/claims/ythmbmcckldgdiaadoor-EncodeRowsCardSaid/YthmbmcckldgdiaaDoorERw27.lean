import Derived.Test.YthmbmcckldgdiaaDoorERw26
import Derived.Deep.RegionHeld3
set_option linter.unusedVariables false
set_option linter.unusedSimpArgs false
set_option linter.unnecessarySimpa false
namespace Go.Proofs.YthmbmcckldgdiaaDoor.Mrm
open Go Go.RowKit
set_option linter.unusedVariables false
set_option linter.unnecessarySimpa false
set_option linter.unusedSimpArgs false
set_option maxRecDepth 100000
theorem eqX_refl (x:Xi):eqX x x=true:=eqX_iff.2 rfl
theorem bts_slice {base:Nat} {w:World} {v:Value} {l:List Int} (h:Bts base w v l):∃ p c,v=.slice p l.length c:=by
  rcases h.2 with ⟨h1,h2⟩ | ⟨g,cap,cur,e1,h⟩
  · obtain rfl:l=[]:=List.eq_nil_of_length_eq_zero h2
    exact ⟨none,0,h1⟩
  · exact ⟨_,_,e1⟩
theorem halt_load0 {P:Program} {ops:Array Oper} {rest:List Oper} {o:Oper} {a:Act} {w:World} {Q:Exit → Act → World → Prop} (ty:TypeId) (x:Operand) (ho:o.op=.load ty x) (hg:o.guard=none)
    (h:wpList P ops Q (o :: rest) a w ∧ True):wpList P ops Q (o :: rest) a w:=h.1
theorem bytL_no {x:Xi} (h:mayX x=false):bytL x=[] ∧ bytC x=2:=by unfold bytL bytC;rw [h];exact ⟨rfl,rfl⟩
theorem bytL_yes {x:Xi} (h:mayX x=true):bytL x=bytesX x ∧ bytC x=0:=by unfold bytL bytC;rw [h];exact ⟨rfl,rfl⟩
end Go.Proofs.YthmbmcckldgdiaaDoor.Mrm
