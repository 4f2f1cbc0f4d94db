import Derived.Test.YtoghjpliemidkaaDoorEXm07
set_option linter.unusedVariables false
set_option linter.unusedSimpArgs false
set_option linter.unnecessarySimpa false
namespace Go.Proofs.YtoghjpliemidkaaDoor.Flg
open Go Go.RowKit
set_option linter.unusedVariables false
set_option linter.unusedSimpArgs false
set_option linter.unnecessarySimpa false
set_option maxRecDepth 100000
theorem cc_no {cc:Int} (h:mayC cc=false):cc < 0 ∨ cc=0 ∨ cc=1 ∨ cc=8 ∨ cc=9 ∨ cc=10 ∨ cc=11 ∨ 16 ≤ cc:=by
  have:=may_not h
  omega
theorem cond_none (cc:Int) (h:mayC cc=false) (h1:cc ≤ 127) (W:World):Calls Tryd.prog 134 #[.int .i8 cc] W fun e w'=>e=.returned (.nilFunc) ∧ Below W.heap.size W w':=by
  rcases cc_no h with h0 | rfl | rfl | rfl | rfl | rfl | rfl | h0
  · exact cond_neg cc h0 W
  · exact cond_no0 W
  · exact cond_no1 W
  · exact cond_no8 W
  · exact cond_no9 W
  · exact cond_no10 W
  · exact cond_no11 W
  · exact cond_big cc h0 h1 W
end Go.Proofs.YtoghjpliemidkaaDoor.Flg
