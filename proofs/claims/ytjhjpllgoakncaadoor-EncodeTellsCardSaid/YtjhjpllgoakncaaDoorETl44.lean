import Derived.Test.YtjhjpllgoakncaaDoorETl39
set_option linter.unusedVariables false
set_option linter.unusedSimpArgs false
set_option linter.unnecessarySimpa false
namespace Go.Proofs.YtjhjpllgoakncaaDoor.Mrm
open Go Go.RowKit
set_option linter.unusedVariables false
set_option linter.unnecessarySimpa false
set_option linter.unusedSimpArgs false
set_option maxRecDepth 100000
theorem elen_n (x:Xi) (W:World) (hw:-128 ≤ x.w ∧ x.w < 128):Calls Tryd.prog 14 #[.agg (xC x)] W fun e w'=>e=.returned (.int .i64 (bif mayX x then ((bytesX x).length:Int) else 0)) ∧ Below W.heap.size W w':=by
  have BY:=Lib.hid (fun W=>ebytes_n x W hw)
  have HL:((bif mayX x then bytesX x else []).length:Int)=(bif mayX x then ((bytesX x).length:Int) else 0):=by cases mayX x <;> rfl
  rw [← HL]
  generalize (bif mayX x then bytesX x else [])=l at *
  generalize (bif mayX x then (0:Int) else 2)=c at *
  clear HL hw
  go_enter Tryd.func14,Tryd.ntmps14
  go_wp2_with fail
  refine (BY.out _).mono ?_
  rintro e w1 ⟨v,rfl,o1,b1⟩
  have B1:=Lib.hid b1
  have O1:=Lib.hid o1
  clear b1 o1
  obtain ⟨p,c2,rfl⟩:∃ p c2,v=.slice p l.length c2:=by
    have h:=O1.out.2
    rcases h with ⟨h1,h2⟩ | ⟨g,cap,cur,e1,h⟩
    · obtain rfl:l=[]:=List.eq_nil_of_length_eq_zero h2
      exact ⟨none,0,h1⟩
    · exact ⟨_,_,e1⟩
  go_wp2_with fail
  go_ret
  exact ⟨rfl,below_boxed B1.out⟩
end Go.Proofs.YtjhjpllgoakncaaDoor.Mrm
