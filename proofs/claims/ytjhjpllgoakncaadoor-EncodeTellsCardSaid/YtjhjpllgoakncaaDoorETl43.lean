import Derived.Test.YtjhjpllgoakncaaDoorETl41
import Derived.Test.YtjhjpllgoakncaaDoorETl42
set_option linter.unusedVariables false
set_option linter.unusedSimpArgs false
set_option linter.unnecessarySimpa false
namespace Go.Proofs.YtjhjpllgoakncaaDoor.Mrm
open Go Go.RowKit
set_option linter.unusedVariables false
set_option linter.unusedSimpArgs false
set_option linter.unnecessarySimpa false
set_option maxRecDepth 100000
set_option maxHeartbeats 2000000 in
theorem creads_no (x:Xi) (hX:XOk x) (W:World) (hT:Tabs W) (h:mayX x=false):Calls Tryd.prog 15 #[.agg (xC x)] W fun e w'=>e=.returned (.int .i64 0) ∧ Below W.heap.size W w':=by
  have MY:=Lib.hid (fun W (hT:Tabs W)=>show Calls Tryd.prog 11 #[.agg (xC x)] W fun e w'=>e=.returned (.bool false) ∧ Below W.heap.size W w' by have q:=may_n x hX W hT;rw [h] at q;exact q)
  have HT:=Lib.hid hT
  clear h hX hT
  go_enter Tryd.func15,Tryd.ntmps15
  go_wp2_with fail
  refine (MY.out _ (HT.out.below (below_new (Below.refl _ _) _) (Nat.le_refl _))).mono ?_
  rintro e w1 ⟨rfl,b1⟩
  have B1:=Lib.hid b1
  clear b1
  go_wp2_with fail
  go_ret
  exact ⟨rfl,below_boxed B1.out⟩
theorem creads_n (x:Xi) (hX:XOk x) (W:World) (hT:Tabs W):Calls Tryd.prog 15 #[.agg (xC x)] W fun e w'=>e=.returned (.int .i64 (bif mayX x then readsX x else 0)) ∧ Below W.heap.size W w':=by
  cases h:mayX x
  · exact creads_no x hX W hT h
  · obtain ⟨ho,hd,hs,hb⟩:=may_parts h
    obtain ⟨op,wd,dst,src,base,disp,imm,cc⟩:=x
    simp only at ho hd hs hb
    obtain rfl | rfl | rfl | rfl | rfl | rfl | rfl | rfl | rfl | rfl | rfl | rfl | rfl | rfl | rfl | rfl | rfl | rfl | rfl | rfl | rfl | rfl | rfl | rfl | rfl | rfl | rfl | rfl | rfl | rfl | rfl | rfl:=lt32 ho
    · exact creads_0 wd dst src base disp imm cc W hX hT h hd hs hb
    · exact creads_1 wd dst src base disp imm cc W hX hT h hd hs hb
    · exact creads_2 wd dst src base disp imm cc W hX hT h hd hs hb
    · exact creads_3 wd dst src base disp imm cc W hX hT h hd hs hb
    · exact creads_4 wd dst src base disp imm cc W hX hT h hd hs hb
    · exact creads_5 wd dst src base disp imm cc W hX hT h hd hs hb
    · exact creads_6 wd dst src base disp imm cc W hX hT h hd hs hb
    · exact creads_7 wd dst src base disp imm cc W hX hT h hd hs hb
    · exact creads_8 wd dst src base disp imm cc W hX hT h hd hs hb
    · exact creads_9 wd dst src base disp imm cc W hX hT h hd hs hb
    · exact creads_10 wd dst src base disp imm cc W hX hT h hd hs hb
    · exact creads_11 wd dst src base disp imm cc W hX hT h hd hs hb
    · exact creads_12 wd dst src base disp imm cc W hX hT h hd hs hb
    · exact creads_13 wd dst src base disp imm cc W hX hT h hd hs hb
    · exact creads_14 wd dst src base disp imm cc W hX hT h hd hs hb
    · exact creads_15 wd dst src base disp imm cc W hX hT h hd hs hb
    · exact creads_16 wd dst src base disp imm cc W hX hT h hd hs hb
    · exact creads_17 wd dst src base disp imm cc W hX hT h hd hs hb
    · exact creads_18 wd dst src base disp imm cc W hX hT h hd hs hb
    · exact creads_19 wd dst src base disp imm cc W hX hT h hd hs hb
    · exact creads_20 wd dst src base disp imm cc W hX hT h hd hs hb
    · exact creads_21 wd dst src base disp imm cc W hX hT h hd hs hb
    · exact creads_22 wd dst src base disp imm cc W hX hT h hd hs hb
    · exact creads_23 wd dst src base disp imm cc W hX hT h hd hs hb
    · exact creads_24 wd dst src base disp imm cc W hX hT h hd hs hb
    · exact creads_25 wd dst src base disp imm cc W hX hT h hd hs hb
    · exact creads_26 wd dst src base disp imm cc W hX hT h hd hs hb
    · exact creads_27 wd dst src base disp imm cc W hX hT h hd hs hb
    · exact creads_28 wd dst src base disp imm cc W hX hT h hd hs hb
    · exact creads_29 wd dst src base disp imm cc W hX hT h hd hs hb
    · exact creads_30 wd dst src base disp imm cc W hX hT h hd hs hb
    · exact creads_31 wd dst src base disp imm cc W hX hT h hd hs hb
set_option maxHeartbeats 2000000 in
theorem cwrites_no (x:Xi) (hX:XOk x) (W:World) (hT:Tabs W) (h:mayX x=false):Calls Tryd.prog 17 #[.agg (xC x)] W fun e w'=>e=.returned (.int .i64 0) ∧ Below W.heap.size W w':=by
  have MY:=Lib.hid (fun W (hT:Tabs W)=>show Calls Tryd.prog 11 #[.agg (xC x)] W fun e w'=>e=.returned (.bool false) ∧ Below W.heap.size W w' by have q:=may_n x hX W hT;rw [h] at q;exact q)
  have HT:=Lib.hid hT
  clear h hX hT
  go_enter Tryd.func17,Tryd.ntmps17
  go_wp2_with fail
  refine (MY.out _ (HT.out.below (below_new (Below.refl _ _) _) (Nat.le_refl _))).mono ?_
  rintro e w1 ⟨rfl,b1⟩
  have B1:=Lib.hid b1
  clear b1
  go_wp2_with fail
  go_ret
  exact ⟨rfl,below_boxed B1.out⟩
theorem cwrites_n (x:Xi) (hX:XOk x) (W:World) (hT:Tabs W):Calls Tryd.prog 17 #[.agg (xC x)] W fun e w'=>e=.returned (.int .i64 (bif mayX x then writesX x else 0)) ∧ Below W.heap.size W w':=by
  cases h:mayX x
  · exact cwrites_no x hX W hT h
  · obtain ⟨ho,hd,hs,hb⟩:=may_parts h
    obtain ⟨op,wd,dst,src,base,disp,imm,cc⟩:=x
    simp only at ho hd hs hb
    obtain rfl | rfl | rfl | rfl | rfl | rfl | rfl | rfl | rfl | rfl | rfl | rfl | rfl | rfl | rfl | rfl | rfl | rfl | rfl | rfl | rfl | rfl | rfl | rfl | rfl | rfl | rfl | rfl | rfl | rfl | rfl | rfl:=lt32 ho
    · exact cwrites_0 wd dst src base disp imm cc W hX hT h hd hs hb
    · exact cwrites_1 wd dst src base disp imm cc W hX hT h hd hs hb
    · exact cwrites_2 wd dst src base disp imm cc W hX hT h hd hs hb
    · exact cwrites_3 wd dst src base disp imm cc W hX hT h hd hs hb
    · exact cwrites_4 wd dst src base disp imm cc W hX hT h hd hs hb
    · exact cwrites_5 wd dst src base disp imm cc W hX hT h hd hs hb
    · exact cwrites_6 wd dst src base disp imm cc W hX hT h hd hs hb
    · exact cwrites_7 wd dst src base disp imm cc W hX hT h hd hs hb
    · exact cwrites_8 wd dst src base disp imm cc W hX hT h hd hs hb
    · exact cwrites_9 wd dst src base disp imm cc W hX hT h hd hs hb
    · exact cwrites_10 wd dst src base disp imm cc W hX hT h hd hs hb
    · exact cwrites_11 wd dst src base disp imm cc W hX hT h hd hs hb
    · exact cwrites_12 wd dst src base disp imm cc W hX hT h hd hs hb
    · exact cwrites_13 wd dst src base disp imm cc W hX hT h hd hs hb
    · exact cwrites_14 wd dst src base disp imm cc W hX hT h hd hs hb
    · exact cwrites_15 wd dst src base disp imm cc W hX hT h hd hs hb
    · exact cwrites_16 wd dst src base disp imm cc W hX hT h hd hs hb
    · exact cwrites_17 wd dst src base disp imm cc W hX hT h hd hs hb
    · exact cwrites_18 wd dst src base disp imm cc W hX hT h hd hs hb
    · exact cwrites_19 wd dst src base disp imm cc W hX hT h hd hs hb
    · exact cwrites_20 wd dst src base disp imm cc W hX hT h hd hs hb
    · exact cwrites_21 wd dst src base disp imm cc W hX hT h hd hs hb
    · exact cwrites_22 wd dst src base disp imm cc W hX hT h hd hs hb
    · exact cwrites_23 wd dst src base disp imm cc W hX hT h hd hs hb
    · exact cwrites_24 wd dst src base disp imm cc W hX hT h hd hs hb
    · exact cwrites_25 wd dst src base disp imm cc W hX hT h hd hs hb
    · exact cwrites_26 wd dst src base disp imm cc W hX hT h hd hs hb
    · exact cwrites_27 wd dst src base disp imm cc W hX hT h hd hs hb
    · exact cwrites_28 wd dst src base disp imm cc W hX hT h hd hs hb
    · exact cwrites_29 wd dst src base disp imm cc W hX hT h hd hs hb
    · exact cwrites_30 wd dst src base disp imm cc W hX hT h hd hs hb
    · exact cwrites_31 wd dst src base disp imm cc W hX hT h hd hs hb
end Go.Proofs.YtjhjpllgoakncaaDoor.Mrm
