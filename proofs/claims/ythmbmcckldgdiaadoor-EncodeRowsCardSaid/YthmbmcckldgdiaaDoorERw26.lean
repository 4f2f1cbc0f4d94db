import Derived.Test.YthmbmcckldgdiaaDoorERw25
set_option linter.unusedVariables false
set_option linter.unusedSimpArgs false
set_option linter.unnecessarySimpa false
namespace Go.Proofs.YthmbmcckldgdiaaDoor.Mrm
open Go Go.RowKit
set_option linter.unusedVariables false
set_option linter.unnecessarySimpa false
set_option linter.unusedSimpArgs false
set_option maxRecDepth 100000
theorem xok_a:XOk ⟨0,64,0,3,0,0,0,0⟩:=⟨by decide,by decide,by decide,by decide,by decide,by decide,by decide,by decide⟩
theorem xok_b:XOk ⟨26,8,1,0,4,16,0,0⟩:=⟨by decide,by decide,by decide,by decide,by decide,by decide,by decide,by decide⟩
theorem xok_c:XOk ⟨30,0,0,0,0,0,0,0⟩:=⟨by decide,by decide,by decide,by decide,by decide,by decide,by decide,by decide⟩
theorem wk_a:bytL ⟨0,64,0,3,0,0,0,0⟩=[72,137,216] ∧ bytC ⟨0,64,0,3,0,0,0,0⟩=0:=by decide +kernel
theorem wk_b:bytL ⟨26,8,1,0,4,16,0,0⟩=[15,182,140,36,16,0,0,0] ∧ bytC ⟨26,8,1,0,4,16,0,0⟩=0:=by decide +kernel
theorem wk_c:bytL ⟨30,0,0,0,0,0,0,0⟩=[195] ∧ bytC ⟨30,0,0,0,0,0,0,0⟩=0:=by decide +kernel
theorem ws_a:strOfNums [72,137,216]=(⟨#[72,137,216]⟩:ByteArray):=by decide
theorem ws_b:strOfNums [15,182,140,36,16,0,0,0]=(⟨#[15,182,140,36,16,0,0,0]⟩:ByteArray):=by decide
theorem ws_c:strOfNums [195]=(⟨#[195]⟩:ByteArray):=by decide
set_option maxHeartbeats 2000000 in
theorem wakes_n (W:World) (hT:Tabs W):Calls Tryd.prog 6 #[] W fun e w'=>e=.returned (.bool true) ∧ Below W.heap.size W w':=by
  have HT:=Lib.hid hT
  have BA:=Lib.hid (fun W hT=>bytes_n ⟨0,64,0,3,0,0,0,0⟩ xok_a W hT)
  have BB:=Lib.hid (fun W hT=>bytes_n ⟨26,8,1,0,4,16,0,0⟩ xok_b W hT)
  have BC:=Lib.hid (fun W hT=>bytes_n ⟨30,0,0,0,0,0,0,0⟩ xok_c W hT)
  rw [wk_a.1,wk_a.2] at BA
  rw [wk_b.1,wk_b.2] at BB
  rw [wk_c.1,wk_c.2] at BC
  unfold RetX at BA BB BC
  clear hT
  go_enter Tryd.func6,Tryd.ntmps6
  go_wp2_with fail
  refine (BA.out _ HT.out).mono ?_
  rintro e w1 ⟨v1,rfl,o1,b1⟩
  have O1:=Lib.hid o1
  have B1:=Lib.hid b1
  clear o1 b1
  go_wp2_with fail
  refine (BB.out _ (HT.out.below B1.out (Nat.le_refl _))).mono ?_
  rintro e w2 ⟨v2,rfl,o2,b2⟩
  have O1:=Lib.hid (O1.out.below b2)
  have O2:=Lib.hid o2
  have B2:=Lib.hid (below_call B1.out b2)
  clear o2 b2
  go_wp2_with fail
  refine (BC.out _ (HT.out.below B2.out (Nat.le_refl _))).mono ?_
  rintro e w3 ⟨v3,rfl,o3,b3⟩
  have c1:=conv_own (O1.out.below b3) (by intro z hz;simp at hz;omega)
  have c2:=conv_own (O2.out.below b3) (by intro z hz;simp at hz;omega)
  have c3:=conv_own o3 (by intro z hz;simp at hz;omega)
  rw [ws_a] at c1
  rw [ws_b] at c2
  rw [ws_c] at c3
  have B3:=Lib.hid (below_call B2.out b3)
  clear o3 b3 BA BB BC
  go_wp2_with fail
  go_ret
  exact ⟨rfl,B3.out⟩
end Go.Proofs.YthmbmcckldgdiaaDoor.Mrm
