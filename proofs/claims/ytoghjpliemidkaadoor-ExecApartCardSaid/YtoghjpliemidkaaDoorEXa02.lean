import Derived.Test.YtoghjpliemidkaaDoorEXa01
set_option linter.unusedVariables false
set_option linter.unusedSimpArgs false
set_option linter.unnecessarySimpa false
namespace Go.Proofs.YtoghjpliemidkaaDoor.Mrm
open Go Go.RowKit
set_option linter.unusedVariables false
set_option linter.unusedSimpArgs false
set_option linter.unnecessarySimpa false
set_option maxRecDepth 100000
set_option maxHeartbeats 4000000 in
theorem cwrites_0 (wd dst src base disp imm cc:Int) (W:World) (hX:XOk ⟨0,wd,dst,src,base,disp,imm,cc⟩) (hT:Tabs W) (hm:mayX ⟨0,wd,dst,src,base,disp,imm,cc⟩=true) (hd:0 ≤ dst ∧ dst < 16) (hs:0 ≤ src ∧ src < 16) (hb:0 ≤ base ∧ base < 16):
    Calls Tryd.prog 13 #[.agg #[.int .i8 0,.int .i8 wd,.int .i8 dst,.int .i8 src,.int .i8 base,.int .i64 disp,.int .i64 imm,.int .i8 cc]] W fun e w'=>e=.returned (.int .i64 ((2:Int) ^ (dst:Int).toNat)) ∧ Below W.heap.size W w':=by
  have MY:=Lib.hid (fun W (hT:Tabs W)=>show Calls Tryd.prog 16 #[.agg #[.int .i8 0,.int .i8 wd,.int .i8 dst,.int .i8 src,.int .i8 base,.int .i64 disp,.int .i64 imm,.int .i8 cc]] W fun e w'=>e=.returned (.bool true) ∧ Below W.heap.size W w' by have h:=may_n ⟨0,wd,dst,src,base,disp,imm,cc⟩ hX W hT;rw [hm] at h;exact h)
  have HT:=Lib.hid hT
  have HB:=Lib.hid (And.intro hd (And.intro hs hb))
  clear hm hX hT hd hs hb
  go_enter Tryd.func13,Tryd.ntmps13
  go_wp2_with fail
  refine (MY.out _ (HT.out.below (below_new (Below.refl _ _) _) (Nat.le_refl _))).mono ?_
  rintro e w1 ⟨rfl,b1⟩
  have B1:=Lib.hid b1
  clear b1
  obtain ⟨c0_1,c1_1,c2_1,c3_1,c4_1,c5_1,c6_1,c7_1⟩:=xcells B1.out
  go_wp2_with fail
  refine (set_1 (dst) (2 ^ (dst:Int).toNat) w1.heap.size _ HB.out.1 (p2_wrap HB.out.1) (heap_last w1 _ _ rfl)).mono ?_
  rintro e y ⟨rfl,rfl⟩
  go_wp2_with fail
  go_ret
  exact ⟨retV (congrArg (Value.int .i64) (show (bits .or .i64 0 (2 ^ (dst:Int).toNat))=(2:Int) ^ (dst:Int).toNat from p2_or0 HB.out.1)),below_new (below_boxed B1.out) _⟩
set_option maxHeartbeats 4000000 in
theorem cwrites_1 (wd dst src base disp imm cc:Int) (W:World) (hX:XOk ⟨1,wd,dst,src,base,disp,imm,cc⟩) (hT:Tabs W) (hm:mayX ⟨1,wd,dst,src,base,disp,imm,cc⟩=true) (hd:0 ≤ dst ∧ dst < 16) (hs:0 ≤ src ∧ src < 16) (hb:0 ≤ base ∧ base < 16):
    Calls Tryd.prog 13 #[.agg #[.int .i8 1,.int .i8 wd,.int .i8 dst,.int .i8 src,.int .i8 base,.int .i64 disp,.int .i64 imm,.int .i8 cc]] W fun e w'=>e=.returned (.int .i64 ((2:Int) ^ (dst:Int).toNat)) ∧ Below W.heap.size W w':=by
  have MY:=Lib.hid (fun W (hT:Tabs W)=>show Calls Tryd.prog 16 #[.agg #[.int .i8 1,.int .i8 wd,.int .i8 dst,.int .i8 src,.int .i8 base,.int .i64 disp,.int .i64 imm,.int .i8 cc]] W fun e w'=>e=.returned (.bool true) ∧ Below W.heap.size W w' by have h:=may_n ⟨1,wd,dst,src,base,disp,imm,cc⟩ hX W hT;rw [hm] at h;exact h)
  have HT:=Lib.hid hT
  have HB:=Lib.hid (And.intro hd (And.intro hs hb))
  clear hm hX hT hd hs hb
  go_enter Tryd.func13,Tryd.ntmps13
  go_wp2_with fail
  refine (MY.out _ (HT.out.below (below_new (Below.refl _ _) _) (Nat.le_refl _))).mono ?_
  rintro e w1 ⟨rfl,b1⟩
  have B1:=Lib.hid b1
  clear b1
  obtain ⟨c0_1,c1_1,c2_1,c3_1,c4_1,c5_1,c6_1,c7_1⟩:=xcells B1.out
  go_wp2_with fail
  refine (set_1 (dst) (2 ^ (dst:Int).toNat) w1.heap.size _ HB.out.1 (p2_wrap HB.out.1) (heap_last w1 _ _ rfl)).mono ?_
  rintro e y ⟨rfl,rfl⟩
  go_wp2_with fail
  go_ret
  exact ⟨retV (congrArg (Value.int .i64) (show (bits .or .i64 0 (2 ^ (dst:Int).toNat))=(2:Int) ^ (dst:Int).toNat from p2_or0 HB.out.1)),below_new (below_boxed B1.out) _⟩
set_option maxHeartbeats 4000000 in
theorem cwrites_2 (wd dst src base disp imm cc:Int) (W:World) (hX:XOk ⟨2,wd,dst,src,base,disp,imm,cc⟩) (hT:Tabs W) (hm:mayX ⟨2,wd,dst,src,base,disp,imm,cc⟩=true) (hd:0 ≤ dst ∧ dst < 16) (hs:0 ≤ src ∧ src < 16) (hb:0 ≤ base ∧ base < 16):
    Calls Tryd.prog 13 #[.agg #[.int .i8 2,.int .i8 wd,.int .i8 dst,.int .i8 src,.int .i8 base,.int .i64 disp,.int .i64 imm,.int .i8 cc]] W fun e w'=>e=.returned (.int .i64 ((2:Int) ^ (dst:Int).toNat)) ∧ Below W.heap.size W w':=by
  have MY:=Lib.hid (fun W (hT:Tabs W)=>show Calls Tryd.prog 16 #[.agg #[.int .i8 2,.int .i8 wd,.int .i8 dst,.int .i8 src,.int .i8 base,.int .i64 disp,.int .i64 imm,.int .i8 cc]] W fun e w'=>e=.returned (.bool true) ∧ Below W.heap.size W w' by have h:=may_n ⟨2,wd,dst,src,base,disp,imm,cc⟩ hX W hT;rw [hm] at h;exact h)
  have HT:=Lib.hid hT
  have HB:=Lib.hid (And.intro hd (And.intro hs hb))
  clear hm hX hT hd hs hb
  go_enter Tryd.func13,Tryd.ntmps13
  go_wp2_with fail
  refine (MY.out _ (HT.out.below (below_new (Below.refl _ _) _) (Nat.le_refl _))).mono ?_
  rintro e w1 ⟨rfl,b1⟩
  have B1:=Lib.hid b1
  clear b1
  obtain ⟨c0_1,c1_1,c2_1,c3_1,c4_1,c5_1,c6_1,c7_1⟩:=xcells B1.out
  go_wp2_with fail
  refine (set_1 (dst) (2 ^ (dst:Int).toNat) w1.heap.size _ HB.out.1 (p2_wrap HB.out.1) (heap_last w1 _ _ rfl)).mono ?_
  rintro e y ⟨rfl,rfl⟩
  go_wp2_with fail
  go_ret
  exact ⟨retV (congrArg (Value.int .i64) (show (bits .or .i64 0 (2 ^ (dst:Int).toNat))=(2:Int) ^ (dst:Int).toNat from p2_or0 HB.out.1)),below_new (below_boxed B1.out) _⟩
set_option maxHeartbeats 4000000 in
theorem cwrites_3 (wd dst src base disp imm cc:Int) (W:World) (hX:XOk ⟨3,wd,dst,src,base,disp,imm,cc⟩) (hT:Tabs W) (hm:mayX ⟨3,wd,dst,src,base,disp,imm,cc⟩=true) (hd:0 ≤ dst ∧ dst < 16) (hs:0 ≤ src ∧ src < 16) (hb:0 ≤ base ∧ base < 16):
    Calls Tryd.prog 13 #[.agg #[.int .i8 3,.int .i8 wd,.int .i8 dst,.int .i8 src,.int .i8 base,.int .i64 disp,.int .i64 imm,.int .i8 cc]] W fun e w'=>e=.returned (.int .i64 ((2:Int) ^ (dst:Int).toNat)) ∧ Below W.heap.size W w':=by
  have MY:=Lib.hid (fun W (hT:Tabs W)=>show Calls Tryd.prog 16 #[.agg #[.int .i8 3,.int .i8 wd,.int .i8 dst,.int .i8 src,.int .i8 base,.int .i64 disp,.int .i64 imm,.int .i8 cc]] W fun e w'=>e=.returned (.bool true) ∧ Below W.heap.size W w' by have h:=may_n ⟨3,wd,dst,src,base,disp,imm,cc⟩ hX W hT;rw [hm] at h;exact h)
  have HT:=Lib.hid hT
  have HB:=Lib.hid (And.intro hd (And.intro hs hb))
  clear hm hX hT hd hs hb
  go_enter Tryd.func13,Tryd.ntmps13
  go_wp2_with fail
  refine (MY.out _ (HT.out.below (below_new (Below.refl _ _) _) (Nat.le_refl _))).mono ?_
  rintro e w1 ⟨rfl,b1⟩
  have B1:=Lib.hid b1
  clear b1
  obtain ⟨c0_1,c1_1,c2_1,c3_1,c4_1,c5_1,c6_1,c7_1⟩:=xcells B1.out
  go_wp2_with fail
  refine (set_1 (dst) (2 ^ (dst:Int).toNat) w1.heap.size _ HB.out.1 (p2_wrap HB.out.1) (heap_last w1 _ _ rfl)).mono ?_
  rintro e y ⟨rfl,rfl⟩
  go_wp2_with fail
  go_ret
  exact ⟨retV (congrArg (Value.int .i64) (show (bits .or .i64 0 (2 ^ (dst:Int).toNat))=(2:Int) ^ (dst:Int).toNat from p2_or0 HB.out.1)),below_new (below_boxed B1.out) _⟩
set_option maxHeartbeats 4000000 in
theorem cwrites_4 (wd dst src base disp imm cc:Int) (W:World) (hX:XOk ⟨4,wd,dst,src,base,disp,imm,cc⟩) (hT:Tabs W) (hm:mayX ⟨4,wd,dst,src,base,disp,imm,cc⟩=true) (hd:0 ≤ dst ∧ dst < 16) (hs:0 ≤ src ∧ src < 16) (hb:0 ≤ base ∧ base < 16):
    Calls Tryd.prog 13 #[.agg #[.int .i8 4,.int .i8 wd,.int .i8 dst,.int .i8 src,.int .i8 base,.int .i64 disp,.int .i64 imm,.int .i8 cc]] W fun e w'=>e=.returned (.int .i64 ((2:Int) ^ (dst:Int).toNat)) ∧ Below W.heap.size W w':=by
  have MY:=Lib.hid (fun W (hT:Tabs W)=>show Calls Tryd.prog 16 #[.agg #[.int .i8 4,.int .i8 wd,.int .i8 dst,.int .i8 src,.int .i8 base,.int .i64 disp,.int .i64 imm,.int .i8 cc]] W fun e w'=>e=.returned (.bool true) ∧ Below W.heap.size W w' by have h:=may_n ⟨4,wd,dst,src,base,disp,imm,cc⟩ hX W hT;rw [hm] at h;exact h)
  have HT:=Lib.hid hT
  have HB:=Lib.hid (And.intro hd (And.intro hs hb))
  clear hm hX hT hd hs hb
  go_enter Tryd.func13,Tryd.ntmps13
  go_wp2_with fail
  refine (MY.out _ (HT.out.below (below_new (Below.refl _ _) _) (Nat.le_refl _))).mono ?_
  rintro e w1 ⟨rfl,b1⟩
  have B1:=Lib.hid b1
  clear b1
  obtain ⟨c0_1,c1_1,c2_1,c3_1,c4_1,c5_1,c6_1,c7_1⟩:=xcells B1.out
  go_wp2_with fail
  refine (set_1 (dst) (2 ^ (dst:Int).toNat) w1.heap.size _ HB.out.1 (p2_wrap HB.out.1) (heap_last w1 _ _ rfl)).mono ?_
  rintro e y ⟨rfl,rfl⟩
  go_wp2_with fail
  go_ret
  exact ⟨retV (congrArg (Value.int .i64) (show (bits .or .i64 0 (2 ^ (dst:Int).toNat))=(2:Int) ^ (dst:Int).toNat from p2_or0 HB.out.1)),below_new (below_boxed B1.out) _⟩
set_option maxHeartbeats 4000000 in
theorem cwrites_5 (wd dst src base disp imm cc:Int) (W:World) (hX:XOk ⟨5,wd,dst,src,base,disp,imm,cc⟩) (hT:Tabs W) (hm:mayX ⟨5,wd,dst,src,base,disp,imm,cc⟩=true) (hd:0 ≤ dst ∧ dst < 16) (hs:0 ≤ src ∧ src < 16) (hb:0 ≤ base ∧ base < 16):
    Calls Tryd.prog 13 #[.agg #[.int .i8 5,.int .i8 wd,.int .i8 dst,.int .i8 src,.int .i8 base,.int .i64 disp,.int .i64 imm,.int .i8 cc]] W fun e w'=>e=.returned (.int .i64 ((2:Int) ^ (dst:Int).toNat)) ∧ Below W.heap.size W w':=by
  have MY:=Lib.hid (fun W (hT:Tabs W)=>show Calls Tryd.prog 16 #[.agg #[.int .i8 5,.int .i8 wd,.int .i8 dst,.int .i8 src,.int .i8 base,.int .i64 disp,.int .i64 imm,.int .i8 cc]] W fun e w'=>e=.returned (.bool true) ∧ Below W.heap.size W w' by have h:=may_n ⟨5,wd,dst,src,base,disp,imm,cc⟩ hX W hT;rw [hm] at h;exact h)
  have HT:=Lib.hid hT
  have HB:=Lib.hid (And.intro hd (And.intro hs hb))
  clear hm hX hT hd hs hb
  go_enter Tryd.func13,Tryd.ntmps13
  go_wp2_with fail
  refine (MY.out _ (HT.out.below (below_new (Below.refl _ _) _) (Nat.le_refl _))).mono ?_
  rintro e w1 ⟨rfl,b1⟩
  have B1:=Lib.hid b1
  clear b1
  obtain ⟨c0_1,c1_1,c2_1,c3_1,c4_1,c5_1,c6_1,c7_1⟩:=xcells B1.out
  go_wp2_with fail
  refine (set_1 (dst) (2 ^ (dst:Int).toNat) w1.heap.size _ HB.out.1 (p2_wrap HB.out.1) (heap_last w1 _ _ rfl)).mono ?_
  rintro e y ⟨rfl,rfl⟩
  go_wp2_with fail
  go_ret
  exact ⟨retV (congrArg (Value.int .i64) (show (bits .or .i64 0 (2 ^ (dst:Int).toNat))=(2:Int) ^ (dst:Int).toNat from p2_or0 HB.out.1)),below_new (below_boxed B1.out) _⟩
set_option maxHeartbeats 4000000 in
theorem cwrites_6 (wd dst src base disp imm cc:Int) (W:World) (hX:XOk ⟨6,wd,dst,src,base,disp,imm,cc⟩) (hT:Tabs W) (hm:mayX ⟨6,wd,dst,src,base,disp,imm,cc⟩=true) (hd:0 ≤ dst ∧ dst < 16) (hs:0 ≤ src ∧ src < 16) (hb:0 ≤ base ∧ base < 16):
    Calls Tryd.prog 13 #[.agg #[.int .i8 6,.int .i8 wd,.int .i8 dst,.int .i8 src,.int .i8 base,.int .i64 disp,.int .i64 imm,.int .i8 cc]] W fun e w'=>e=.returned (.int .i64 ((2:Int) ^ (dst:Int).toNat)) ∧ Below W.heap.size W w':=by
  have MY:=Lib.hid (fun W (hT:Tabs W)=>show Calls Tryd.prog 16 #[.agg #[.int .i8 6,.int .i8 wd,.int .i8 dst,.int .i8 src,.int .i8 base,.int .i64 disp,.int .i64 imm,.int .i8 cc]] W fun e w'=>e=.returned (.bool true) ∧ Below W.heap.size W w' by have h:=may_n ⟨6,wd,dst,src,base,disp,imm,cc⟩ hX W hT;rw [hm] at h;exact h)
  have HT:=Lib.hid hT
  have HB:=Lib.hid (And.intro hd (And.intro hs hb))
  clear hm hX hT hd hs hb
  go_enter Tryd.func13,Tryd.ntmps13
  go_wp2_with fail
  refine (MY.out _ (HT.out.below (below_new (Below.refl _ _) _) (Nat.le_refl _))).mono ?_
  rintro e w1 ⟨rfl,b1⟩
  have B1:=Lib.hid b1
  clear b1
  obtain ⟨c0_1,c1_1,c2_1,c3_1,c4_1,c5_1,c6_1,c7_1⟩:=xcells B1.out
  go_wp2_with fail
  refine (set_1 (dst) (2 ^ (dst:Int).toNat) w1.heap.size _ HB.out.1 (p2_wrap HB.out.1) (heap_last w1 _ _ rfl)).mono ?_
  rintro e y ⟨rfl,rfl⟩
  go_wp2_with fail
  go_ret
  exact ⟨retV (congrArg (Value.int .i64) (show (bits .or .i64 0 (2 ^ (dst:Int).toNat))=(2:Int) ^ (dst:Int).toNat from p2_or0 HB.out.1)),below_new (below_boxed B1.out) _⟩
set_option maxHeartbeats 4000000 in
theorem cwrites_7 (wd dst src base disp imm cc:Int) (W:World) (hX:XOk ⟨7,wd,dst,src,base,disp,imm,cc⟩) (hT:Tabs W) (hm:mayX ⟨7,wd,dst,src,base,disp,imm,cc⟩=true) (hd:0 ≤ dst ∧ dst < 16) (hs:0 ≤ src ∧ src < 16) (hb:0 ≤ base ∧ base < 16):
    Calls Tryd.prog 13 #[.agg #[.int .i8 7,.int .i8 wd,.int .i8 dst,.int .i8 src,.int .i8 base,.int .i64 disp,.int .i64 imm,.int .i8 cc]] W fun e w'=>e=.returned (.int .i64 (0)) ∧ Below W.heap.size W w':=by
  have MY:=Lib.hid (fun W (hT:Tabs W)=>show Calls Tryd.prog 16 #[.agg #[.int .i8 7,.int .i8 wd,.int .i8 dst,.int .i8 src,.int .i8 base,.int .i64 disp,.int .i64 imm,.int .i8 cc]] W fun e w'=>e=.returned (.bool true) ∧ Below W.heap.size W w' by have h:=may_n ⟨7,wd,dst,src,base,disp,imm,cc⟩ hX W hT;rw [hm] at h;exact h)
  have HT:=Lib.hid hT
  have HB:=Lib.hid (And.intro hd (And.intro hs hb))
  clear hm hX hT hd hs hb
  go_enter Tryd.func13,Tryd.ntmps13
  go_wp2_with fail
  refine (MY.out _ (HT.out.below (below_new (Below.refl _ _) _) (Nat.le_refl _))).mono ?_
  rintro e w1 ⟨rfl,b1⟩
  have B1:=Lib.hid b1
  clear b1
  obtain ⟨c0_1,c1_1,c2_1,c3_1,c4_1,c5_1,c6_1,c7_1⟩:=xcells B1.out
  go_wp2_with fail
  go_ret
  exact ⟨rfl,below_boxed B1.out⟩
set_option maxHeartbeats 4000000 in
theorem cwrites_8 (wd dst src base disp imm cc:Int) (W:World) (hX:XOk ⟨8,wd,dst,src,base,disp,imm,cc⟩) (hT:Tabs W) (hm:mayX ⟨8,wd,dst,src,base,disp,imm,cc⟩=true) (hd:0 ≤ dst ∧ dst < 16) (hs:0 ≤ src ∧ src < 16) (hb:0 ≤ base ∧ base < 16):
    Calls Tryd.prog 13 #[.agg #[.int .i8 8,.int .i8 wd,.int .i8 dst,.int .i8 src,.int .i8 base,.int .i64 disp,.int .i64 imm,.int .i8 cc]] W fun e w'=>e=.returned (.int .i64 (0)) ∧ Below W.heap.size W w':=by
  have MY:=Lib.hid (fun W (hT:Tabs W)=>show Calls Tryd.prog 16 #[.agg #[.int .i8 8,.int .i8 wd,.int .i8 dst,.int .i8 src,.int .i8 base,.int .i64 disp,.int .i64 imm,.int .i8 cc]] W fun e w'=>e=.returned (.bool true) ∧ Below W.heap.size W w' by have h:=may_n ⟨8,wd,dst,src,base,disp,imm,cc⟩ hX W hT;rw [hm] at h;exact h)
  have HT:=Lib.hid hT
  have HB:=Lib.hid (And.intro hd (And.intro hs hb))
  clear hm hX hT hd hs hb
  go_enter Tryd.func13,Tryd.ntmps13
  go_wp2_with fail
  refine (MY.out _ (HT.out.below (below_new (Below.refl _ _) _) (Nat.le_refl _))).mono ?_
  rintro e w1 ⟨rfl,b1⟩
  have B1:=Lib.hid b1
  clear b1
  obtain ⟨c0_1,c1_1,c2_1,c3_1,c4_1,c5_1,c6_1,c7_1⟩:=xcells B1.out
  go_wp2_with fail
  go_ret
  exact ⟨rfl,below_boxed B1.out⟩
set_option maxHeartbeats 4000000 in
theorem cwrites_9 (wd dst src base disp imm cc:Int) (W:World) (hX:XOk ⟨9,wd,dst,src,base,disp,imm,cc⟩) (hT:Tabs W) (hm:mayX ⟨9,wd,dst,src,base,disp,imm,cc⟩=true) (hd:0 ≤ dst ∧ dst < 16) (hs:0 ≤ src ∧ src < 16) (hb:0 ≤ base ∧ base < 16):
    Calls Tryd.prog 13 #[.agg #[.int .i8 9,.int .i8 wd,.int .i8 dst,.int .i8 src,.int .i8 base,.int .i64 disp,.int .i64 imm,.int .i8 cc]] W fun e w'=>e=.returned (.int .i64 ((2:Int) ^ (dst:Int).toNat)) ∧ Below W.heap.size W w':=by
  have MY:=Lib.hid (fun W (hT:Tabs W)=>show Calls Tryd.prog 16 #[.agg #[.int .i8 9,.int .i8 wd,.int .i8 dst,.int .i8 src,.int .i8 base,.int .i64 disp,.int .i64 imm,.int .i8 cc]] W fun e w'=>e=.returned (.bool true) ∧ Below W.heap.size W w' by have h:=may_n ⟨9,wd,dst,src,base,disp,imm,cc⟩ hX W hT;rw [hm] at h;exact h)
  have HT:=Lib.hid hT
  have HB:=Lib.hid (And.intro hd (And.intro hs hb))
  clear hm hX hT hd hs hb
  go_enter Tryd.func13,Tryd.ntmps13
  go_wp2_with fail
  refine (MY.out _ (HT.out.below (below_new (Below.refl _ _) _) (Nat.le_refl _))).mono ?_
  rintro e w1 ⟨rfl,b1⟩
  have B1:=Lib.hid b1
  clear b1
  obtain ⟨c0_1,c1_1,c2_1,c3_1,c4_1,c5_1,c6_1,c7_1⟩:=xcells B1.out
  go_wp2_with fail
  refine (set_1 (dst) (2 ^ (dst:Int).toNat) w1.heap.size _ HB.out.1 (p2_wrap HB.out.1) (heap_last w1 _ _ rfl)).mono ?_
  rintro e y ⟨rfl,rfl⟩
  go_wp2_with fail
  go_ret
  exact ⟨retV (congrArg (Value.int .i64) (show (bits .or .i64 0 (2 ^ (dst:Int).toNat))=(2:Int) ^ (dst:Int).toNat from p2_or0 HB.out.1)),below_new (below_boxed B1.out) _⟩
set_option maxHeartbeats 4000000 in
theorem cwrites_10 (wd dst src base disp imm cc:Int) (W:World) (hX:XOk ⟨10,wd,dst,src,base,disp,imm,cc⟩) (hT:Tabs W) (hm:mayX ⟨10,wd,dst,src,base,disp,imm,cc⟩=true) (hd:0 ≤ dst ∧ dst < 16) (hs:0 ≤ src ∧ src < 16) (hb:0 ≤ base ∧ base < 16):
    Calls Tryd.prog 13 #[.agg #[.int .i8 10,.int .i8 wd,.int .i8 dst,.int .i8 src,.int .i8 base,.int .i64 disp,.int .i64 imm,.int .i8 cc]] W fun e w'=>e=.returned (.int .i64 ((2:Int) ^ (dst:Int).toNat)) ∧ Below W.heap.size W w':=by
  have MY:=Lib.hid (fun W (hT:Tabs W)=>show Calls Tryd.prog 16 #[.agg #[.int .i8 10,.int .i8 wd,.int .i8 dst,.int .i8 src,.int .i8 base,.int .i64 disp,.int .i64 imm,.int .i8 cc]] W fun e w'=>e=.returned (.bool true) ∧ Below W.heap.size W w' by have h:=may_n ⟨10,wd,dst,src,base,disp,imm,cc⟩ hX W hT;rw [hm] at h;exact h)
  have HT:=Lib.hid hT
  have HB:=Lib.hid (And.intro hd (And.intro hs hb))
  clear hm hX hT hd hs hb
  go_enter Tryd.func13,Tryd.ntmps13
  go_wp2_with fail
  refine (MY.out _ (HT.out.below (below_new (Below.refl _ _) _) (Nat.le_refl _))).mono ?_
  rintro e w1 ⟨rfl,b1⟩
  have B1:=Lib.hid b1
  clear b1
  obtain ⟨c0_1,c1_1,c2_1,c3_1,c4_1,c5_1,c6_1,c7_1⟩:=xcells B1.out
  go_wp2_with fail
  refine (set_1 (dst) (2 ^ (dst:Int).toNat) w1.heap.size _ HB.out.1 (p2_wrap HB.out.1) (heap_last w1 _ _ rfl)).mono ?_
  rintro e y ⟨rfl,rfl⟩
  go_wp2_with fail
  go_ret
  exact ⟨retV (congrArg (Value.int .i64) (show (bits .or .i64 0 (2 ^ (dst:Int).toNat))=(2:Int) ^ (dst:Int).toNat from p2_or0 HB.out.1)),below_new (below_boxed B1.out) _⟩
set_option maxHeartbeats 4000000 in
theorem cwrites_11 (wd dst src base disp imm cc:Int) (W:World) (hX:XOk ⟨11,wd,dst,src,base,disp,imm,cc⟩) (hT:Tabs W) (hm:mayX ⟨11,wd,dst,src,base,disp,imm,cc⟩=true) (hd:0 ≤ dst ∧ dst < 16) (hs:0 ≤ src ∧ src < 16) (hb:0 ≤ base ∧ base < 16):
    Calls Tryd.prog 13 #[.agg #[.int .i8 11,.int .i8 wd,.int .i8 dst,.int .i8 src,.int .i8 base,.int .i64 disp,.int .i64 imm,.int .i8 cc]] W fun e w'=>e=.returned (.int .i64 ((2:Int) ^ (dst:Int).toNat)) ∧ Below W.heap.size W w':=by
  have MY:=Lib.hid (fun W (hT:Tabs W)=>show Calls Tryd.prog 16 #[.agg #[.int .i8 11,.int .i8 wd,.int .i8 dst,.int .i8 src,.int .i8 base,.int .i64 disp,.int .i64 imm,.int .i8 cc]] W fun e w'=>e=.returned (.bool true) ∧ Below W.heap.size W w' by have h:=may_n ⟨11,wd,dst,src,base,disp,imm,cc⟩ hX W hT;rw [hm] at h;exact h)
  have HT:=Lib.hid hT
  have HB:=Lib.hid (And.intro hd (And.intro hs hb))
  clear hm hX hT hd hs hb
  go_enter Tryd.func13,Tryd.ntmps13
  go_wp2_with fail
  refine (MY.out _ (HT.out.below (below_new (Below.refl _ _) _) (Nat.le_refl _))).mono ?_
  rintro e w1 ⟨rfl,b1⟩
  have B1:=Lib.hid b1
  clear b1
  obtain ⟨c0_1,c1_1,c2_1,c3_1,c4_1,c5_1,c6_1,c7_1⟩:=xcells B1.out
  go_wp2_with fail
  refine (set_1 (dst) (2 ^ (dst:Int).toNat) w1.heap.size _ HB.out.1 (p2_wrap HB.out.1) (heap_last w1 _ _ rfl)).mono ?_
  rintro e y ⟨rfl,rfl⟩
  go_wp2_with fail
  go_ret
  exact ⟨retV (congrArg (Value.int .i64) (show (bits .or .i64 0 (2 ^ (dst:Int).toNat))=(2:Int) ^ (dst:Int).toNat from p2_or0 HB.out.1)),below_new (below_boxed B1.out) _⟩
set_option maxHeartbeats 4000000 in
theorem cwrites_12 (wd dst src base disp imm cc:Int) (W:World) (hX:XOk ⟨12,wd,dst,src,base,disp,imm,cc⟩) (hT:Tabs W) (hm:mayX ⟨12,wd,dst,src,base,disp,imm,cc⟩=true) (hd:0 ≤ dst ∧ dst < 16) (hs:0 ≤ src ∧ src < 16) (hb:0 ≤ base ∧ base < 16):
    Calls Tryd.prog 13 #[.agg #[.int .i8 12,.int .i8 wd,.int .i8 dst,.int .i8 src,.int .i8 base,.int .i64 disp,.int .i64 imm,.int .i8 cc]] W fun e w'=>e=.returned (.int .i64 ((2:Int) ^ (dst:Int).toNat)) ∧ Below W.heap.size W w':=by
  have MY:=Lib.hid (fun W (hT:Tabs W)=>show Calls Tryd.prog 16 #[.agg #[.int .i8 12,.int .i8 wd,.int .i8 dst,.int .i8 src,.int .i8 base,.int .i64 disp,.int .i64 imm,.int .i8 cc]] W fun e w'=>e=.returned (.bool true) ∧ Below W.heap.size W w' by have h:=may_n ⟨12,wd,dst,src,base,disp,imm,cc⟩ hX W hT;rw [hm] at h;exact h)
  have HT:=Lib.hid hT
  have HB:=Lib.hid (And.intro hd (And.intro hs hb))
  clear hm hX hT hd hs hb
  go_enter Tryd.func13,Tryd.ntmps13
  go_wp2_with fail
  refine (MY.out _ (HT.out.below (below_new (Below.refl _ _) _) (Nat.le_refl _))).mono ?_
  rintro e w1 ⟨rfl,b1⟩
  have B1:=Lib.hid b1
  clear b1
  obtain ⟨c0_1,c1_1,c2_1,c3_1,c4_1,c5_1,c6_1,c7_1⟩:=xcells B1.out
  go_wp2_with fail
  refine (set_1 (dst) (2 ^ (dst:Int).toNat) w1.heap.size _ HB.out.1 (p2_wrap HB.out.1) (heap_last w1 _ _ rfl)).mono ?_
  rintro e y ⟨rfl,rfl⟩
  go_wp2_with fail
  go_ret
  exact ⟨retV (congrArg (Value.int .i64) (show (bits .or .i64 0 (2 ^ (dst:Int).toNat))=(2:Int) ^ (dst:Int).toNat from p2_or0 HB.out.1)),below_new (below_boxed B1.out) _⟩
set_option maxHeartbeats 4000000 in
theorem cwrites_13 (wd dst src base disp imm cc:Int) (W:World) (hX:XOk ⟨13,wd,dst,src,base,disp,imm,cc⟩) (hT:Tabs W) (hm:mayX ⟨13,wd,dst,src,base,disp,imm,cc⟩=true) (hd:0 ≤ dst ∧ dst < 16) (hs:0 ≤ src ∧ src < 16) (hb:0 ≤ base ∧ base < 16):
    Calls Tryd.prog 13 #[.agg #[.int .i8 13,.int .i8 wd,.int .i8 dst,.int .i8 src,.int .i8 base,.int .i64 disp,.int .i64 imm,.int .i8 cc]] W fun e w'=>e=.returned (.int .i64 ((2:Int) ^ (dst:Int).toNat)) ∧ Below W.heap.size W w':=by
  have MY:=Lib.hid (fun W (hT:Tabs W)=>show Calls Tryd.prog 16 #[.agg #[.int .i8 13,.int .i8 wd,.int .i8 dst,.int .i8 src,.int .i8 base,.int .i64 disp,.int .i64 imm,.int .i8 cc]] W fun e w'=>e=.returned (.bool true) ∧ Below W.heap.size W w' by have h:=may_n ⟨13,wd,dst,src,base,disp,imm,cc⟩ hX W hT;rw [hm] at h;exact h)
  have HT:=Lib.hid hT
  have HB:=Lib.hid (And.intro hd (And.intro hs hb))
  clear hm hX hT hd hs hb
  go_enter Tryd.func13,Tryd.ntmps13
  go_wp2_with fail
  refine (MY.out _ (HT.out.below (below_new (Below.refl _ _) _) (Nat.le_refl _))).mono ?_
  rintro e w1 ⟨rfl,b1⟩
  have B1:=Lib.hid b1
  clear b1
  obtain ⟨c0_1,c1_1,c2_1,c3_1,c4_1,c5_1,c6_1,c7_1⟩:=xcells B1.out
  go_wp2_with fail
  refine (set_1 (dst) (2 ^ (dst:Int).toNat) w1.heap.size _ HB.out.1 (p2_wrap HB.out.1) (heap_last w1 _ _ rfl)).mono ?_
  rintro e y ⟨rfl,rfl⟩
  go_wp2_with fail
  go_ret
  exact ⟨retV (congrArg (Value.int .i64) (show (bits .or .i64 0 (2 ^ (dst:Int).toNat))=(2:Int) ^ (dst:Int).toNat from p2_or0 HB.out.1)),below_new (below_boxed B1.out) _⟩
set_option maxHeartbeats 4000000 in
theorem cwrites_14 (wd dst src base disp imm cc:Int) (W:World) (hX:XOk ⟨14,wd,dst,src,base,disp,imm,cc⟩) (hT:Tabs W) (hm:mayX ⟨14,wd,dst,src,base,disp,imm,cc⟩=true) (hd:0 ≤ dst ∧ dst < 16) (hs:0 ≤ src ∧ src < 16) (hb:0 ≤ base ∧ base < 16):
    Calls Tryd.prog 13 #[.agg #[.int .i8 14,.int .i8 wd,.int .i8 dst,.int .i8 src,.int .i8 base,.int .i64 disp,.int .i64 imm,.int .i8 cc]] W fun e w'=>e=.returned (.int .i64 (0)) ∧ Below W.heap.size W w':=by
  have MY:=Lib.hid (fun W (hT:Tabs W)=>show Calls Tryd.prog 16 #[.agg #[.int .i8 14,.int .i8 wd,.int .i8 dst,.int .i8 src,.int .i8 base,.int .i64 disp,.int .i64 imm,.int .i8 cc]] W fun e w'=>e=.returned (.bool true) ∧ Below W.heap.size W w' by have h:=may_n ⟨14,wd,dst,src,base,disp,imm,cc⟩ hX W hT;rw [hm] at h;exact h)
  have HT:=Lib.hid hT
  have HB:=Lib.hid (And.intro hd (And.intro hs hb))
  clear hm hX hT hd hs hb
  go_enter Tryd.func13,Tryd.ntmps13
  go_wp2_with fail
  refine (MY.out _ (HT.out.below (below_new (Below.refl _ _) _) (Nat.le_refl _))).mono ?_
  rintro e w1 ⟨rfl,b1⟩
  have B1:=Lib.hid b1
  clear b1
  obtain ⟨c0_1,c1_1,c2_1,c3_1,c4_1,c5_1,c6_1,c7_1⟩:=xcells B1.out
  go_wp2_with fail
  go_ret
  exact ⟨rfl,below_boxed B1.out⟩
set_option maxHeartbeats 4000000 in
theorem cwrites_15 (wd dst src base disp imm cc:Int) (W:World) (hX:XOk ⟨15,wd,dst,src,base,disp,imm,cc⟩) (hT:Tabs W) (hm:mayX ⟨15,wd,dst,src,base,disp,imm,cc⟩=true) (hd:0 ≤ dst ∧ dst < 16) (hs:0 ≤ src ∧ src < 16) (hb:0 ≤ base ∧ base < 16):
    Calls Tryd.prog 13 #[.agg #[.int .i8 15,.int .i8 wd,.int .i8 dst,.int .i8 src,.int .i8 base,.int .i64 disp,.int .i64 imm,.int .i8 cc]] W fun e w'=>e=.returned (.int .i64 (0)) ∧ Below W.heap.size W w':=by
  have MY:=Lib.hid (fun W (hT:Tabs W)=>show Calls Tryd.prog 16 #[.agg #[.int .i8 15,.int .i8 wd,.int .i8 dst,.int .i8 src,.int .i8 base,.int .i64 disp,.int .i64 imm,.int .i8 cc]] W fun e w'=>e=.returned (.bool true) ∧ Below W.heap.size W w' by have h:=may_n ⟨15,wd,dst,src,base,disp,imm,cc⟩ hX W hT;rw [hm] at h;exact h)
  have HT:=Lib.hid hT
  have HB:=Lib.hid (And.intro hd (And.intro hs hb))
  clear hm hX hT hd hs hb
  go_enter Tryd.func13,Tryd.ntmps13
  go_wp2_with fail
  refine (MY.out _ (HT.out.below (below_new (Below.refl _ _) _) (Nat.le_refl _))).mono ?_
  rintro e w1 ⟨rfl,b1⟩
  have B1:=Lib.hid b1
  clear b1
  obtain ⟨c0_1,c1_1,c2_1,c3_1,c4_1,c5_1,c6_1,c7_1⟩:=xcells B1.out
  go_wp2_with fail
  go_ret
  exact ⟨rfl,below_boxed B1.out⟩
set_option maxHeartbeats 4000000 in
theorem cwrites_16 (wd dst src base disp imm cc:Int) (W:World) (hX:XOk ⟨16,wd,dst,src,base,disp,imm,cc⟩) (hT:Tabs W) (hm:mayX ⟨16,wd,dst,src,base,disp,imm,cc⟩=true) (hd:0 ≤ dst ∧ dst < 16) (hs:0 ≤ src ∧ src < 16) (hb:0 ≤ base ∧ base < 16):
    Calls Tryd.prog 13 #[.agg #[.int .i8 16,.int .i8 wd,.int .i8 dst,.int .i8 src,.int .i8 base,.int .i64 disp,.int .i64 imm,.int .i8 cc]] W fun e w'=>e=.returned (.int .i64 ((2:Int) ^ (dst:Int).toNat)) ∧ Below W.heap.size W w':=by
  have MY:=Lib.hid (fun W (hT:Tabs W)=>show Calls Tryd.prog 16 #[.agg #[.int .i8 16,.int .i8 wd,.int .i8 dst,.int .i8 src,.int .i8 base,.int .i64 disp,.int .i64 imm,.int .i8 cc]] W fun e w'=>e=.returned (.bool true) ∧ Below W.heap.size W w' by have h:=may_n ⟨16,wd,dst,src,base,disp,imm,cc⟩ hX W hT;rw [hm] at h;exact h)
  have HT:=Lib.hid hT
  have HB:=Lib.hid (And.intro hd (And.intro hs hb))
  clear hm hX hT hd hs hb
  go_enter Tryd.func13,Tryd.ntmps13
  go_wp2_with fail
  refine (MY.out _ (HT.out.below (below_new (Below.refl _ _) _) (Nat.le_refl _))).mono ?_
  rintro e w1 ⟨rfl,b1⟩
  have B1:=Lib.hid b1
  clear b1
  obtain ⟨c0_1,c1_1,c2_1,c3_1,c4_1,c5_1,c6_1,c7_1⟩:=xcells B1.out
  go_wp2_with fail
  refine (set_1 (dst) (2 ^ (dst:Int).toNat) w1.heap.size _ HB.out.1 (p2_wrap HB.out.1) (heap_last w1 _ _ rfl)).mono ?_
  rintro e y ⟨rfl,rfl⟩
  go_wp2_with fail
  go_ret
  exact ⟨retV (congrArg (Value.int .i64) (show (bits .or .i64 0 (2 ^ (dst:Int).toNat))=(2:Int) ^ (dst:Int).toNat from p2_or0 HB.out.1)),below_new (below_boxed B1.out) _⟩
set_option maxHeartbeats 4000000 in
theorem cwrites_17 (wd dst src base disp imm cc:Int) (W:World) (hX:XOk ⟨17,wd,dst,src,base,disp,imm,cc⟩) (hT:Tabs W) (hm:mayX ⟨17,wd,dst,src,base,disp,imm,cc⟩=true) (hd:0 ≤ dst ∧ dst < 16) (hs:0 ≤ src ∧ src < 16) (hb:0 ≤ base ∧ base < 16):
    Calls Tryd.prog 13 #[.agg #[.int .i8 17,.int .i8 wd,.int .i8 dst,.int .i8 src,.int .i8 base,.int .i64 disp,.int .i64 imm,.int .i8 cc]] W fun e w'=>e=.returned (.int .i64 ((2:Int) ^ (dst:Int).toNat)) ∧ Below W.heap.size W w':=by
  have MY:=Lib.hid (fun W (hT:Tabs W)=>show Calls Tryd.prog 16 #[.agg #[.int .i8 17,.int .i8 wd,.int .i8 dst,.int .i8 src,.int .i8 base,.int .i64 disp,.int .i64 imm,.int .i8 cc]] W fun e w'=>e=.returned (.bool true) ∧ Below W.heap.size W w' by have h:=may_n ⟨17,wd,dst,src,base,disp,imm,cc⟩ hX W hT;rw [hm] at h;exact h)
  have HT:=Lib.hid hT
  have HB:=Lib.hid (And.intro hd (And.intro hs hb))
  clear hm hX hT hd hs hb
  go_enter Tryd.func13,Tryd.ntmps13
  go_wp2_with fail
  refine (MY.out _ (HT.out.below (below_new (Below.refl _ _) _) (Nat.le_refl _))).mono ?_
  rintro e w1 ⟨rfl,b1⟩
  have B1:=Lib.hid b1
  clear b1
  obtain ⟨c0_1,c1_1,c2_1,c3_1,c4_1,c5_1,c6_1,c7_1⟩:=xcells B1.out
  go_wp2_with fail
  refine (set_1 (dst) (2 ^ (dst:Int).toNat) w1.heap.size _ HB.out.1 (p2_wrap HB.out.1) (heap_last w1 _ _ rfl)).mono ?_
  rintro e y ⟨rfl,rfl⟩
  go_wp2_with fail
  go_ret
  exact ⟨retV (congrArg (Value.int .i64) (show (bits .or .i64 0 (2 ^ (dst:Int).toNat))=(2:Int) ^ (dst:Int).toNat from p2_or0 HB.out.1)),below_new (below_boxed B1.out) _⟩
set_option maxHeartbeats 4000000 in
theorem cwrites_18 (wd dst src base disp imm cc:Int) (W:World) (hX:XOk ⟨18,wd,dst,src,base,disp,imm,cc⟩) (hT:Tabs W) (hm:mayX ⟨18,wd,dst,src,base,disp,imm,cc⟩=true) (hd:0 ≤ dst ∧ dst < 16) (hs:0 ≤ src ∧ src < 16) (hb:0 ≤ base ∧ base < 16):
    Calls Tryd.prog 13 #[.agg #[.int .i8 18,.int .i8 wd,.int .i8 dst,.int .i8 src,.int .i8 base,.int .i64 disp,.int .i64 imm,.int .i8 cc]] W fun e w'=>e=.returned (.int .i64 ((2:Int) ^ (dst:Int).toNat)) ∧ Below W.heap.size W w':=by
  have MY:=Lib.hid (fun W (hT:Tabs W)=>show Calls Tryd.prog 16 #[.agg #[.int .i8 18,.int .i8 wd,.int .i8 dst,.int .i8 src,.int .i8 base,.int .i64 disp,.int .i64 imm,.int .i8 cc]] W fun e w'=>e=.returned (.bool true) ∧ Below W.heap.size W w' by have h:=may_n ⟨18,wd,dst,src,base,disp,imm,cc⟩ hX W hT;rw [hm] at h;exact h)
  have HT:=Lib.hid hT
  have HB:=Lib.hid (And.intro hd (And.intro hs hb))
  clear hm hX hT hd hs hb
  go_enter Tryd.func13,Tryd.ntmps13
  go_wp2_with fail
  refine (MY.out _ (HT.out.below (below_new (Below.refl _ _) _) (Nat.le_refl _))).mono ?_
  rintro e w1 ⟨rfl,b1⟩
  have B1:=Lib.hid b1
  clear b1
  obtain ⟨c0_1,c1_1,c2_1,c3_1,c4_1,c5_1,c6_1,c7_1⟩:=xcells B1.out
  go_wp2_with fail
  refine (set_1 (dst) (2 ^ (dst:Int).toNat) w1.heap.size _ HB.out.1 (p2_wrap HB.out.1) (heap_last w1 _ _ rfl)).mono ?_
  rintro e y ⟨rfl,rfl⟩
  go_wp2_with fail
  go_ret
  exact ⟨retV (congrArg (Value.int .i64) (show (bits .or .i64 0 (2 ^ (dst:Int).toNat))=(2:Int) ^ (dst:Int).toNat from p2_or0 HB.out.1)),below_new (below_boxed B1.out) _⟩
set_option maxHeartbeats 4000000 in
theorem cwrites_19 (wd dst src base disp imm cc:Int) (W:World) (hX:XOk ⟨19,wd,dst,src,base,disp,imm,cc⟩) (hT:Tabs W) (hm:mayX ⟨19,wd,dst,src,base,disp,imm,cc⟩=true) (hd:0 ≤ dst ∧ dst < 16) (hs:0 ≤ src ∧ src < 16) (hb:0 ≤ base ∧ base < 16):
    Calls Tryd.prog 13 #[.agg #[.int .i8 19,.int .i8 wd,.int .i8 dst,.int .i8 src,.int .i8 base,.int .i64 disp,.int .i64 imm,.int .i8 cc]] W fun e w'=>e=.returned (.int .i64 ((2:Int) ^ (dst:Int).toNat)) ∧ Below W.heap.size W w':=by
  have MY:=Lib.hid (fun W (hT:Tabs W)=>show Calls Tryd.prog 16 #[.agg #[.int .i8 19,.int .i8 wd,.int .i8 dst,.int .i8 src,.int .i8 base,.int .i64 disp,.int .i64 imm,.int .i8 cc]] W fun e w'=>e=.returned (.bool true) ∧ Below W.heap.size W w' by have h:=may_n ⟨19,wd,dst,src,base,disp,imm,cc⟩ hX W hT;rw [hm] at h;exact h)
  have HT:=Lib.hid hT
  have HB:=Lib.hid (And.intro hd (And.intro hs hb))
  clear hm hX hT hd hs hb
  go_enter Tryd.func13,Tryd.ntmps13
  go_wp2_with fail
  refine (MY.out _ (HT.out.below (below_new (Below.refl _ _) _) (Nat.le_refl _))).mono ?_
  rintro e w1 ⟨rfl,b1⟩
  have B1:=Lib.hid b1
  clear b1
  obtain ⟨c0_1,c1_1,c2_1,c3_1,c4_1,c5_1,c6_1,c7_1⟩:=xcells B1.out
  go_wp2_with fail
  refine (set_1 (dst) (2 ^ (dst:Int).toNat) w1.heap.size _ HB.out.1 (p2_wrap HB.out.1) (heap_last w1 _ _ rfl)).mono ?_
  rintro e y ⟨rfl,rfl⟩
  go_wp2_with fail
  go_ret
  exact ⟨retV (congrArg (Value.int .i64) (show (bits .or .i64 0 (2 ^ (dst:Int).toNat))=(2:Int) ^ (dst:Int).toNat from p2_or0 HB.out.1)),below_new (below_boxed B1.out) _⟩
set_option maxHeartbeats 4000000 in
theorem cwrites_20 (wd dst src base disp imm cc:Int) (W:World) (hX:XOk ⟨20,wd,dst,src,base,disp,imm,cc⟩) (hT:Tabs W) (hm:mayX ⟨20,wd,dst,src,base,disp,imm,cc⟩=true) (hd:0 ≤ dst ∧ dst < 16) (hs:0 ≤ src ∧ src < 16) (hb:0 ≤ base ∧ base < 16):
    Calls Tryd.prog 13 #[.agg #[.int .i8 20,.int .i8 wd,.int .i8 dst,.int .i8 src,.int .i8 base,.int .i64 disp,.int .i64 imm,.int .i8 cc]] W fun e w'=>e=.returned (.int .i64 ((2:Int) ^ (dst:Int).toNat)) ∧ Below W.heap.size W w':=by
  have MY:=Lib.hid (fun W (hT:Tabs W)=>show Calls Tryd.prog 16 #[.agg #[.int .i8 20,.int .i8 wd,.int .i8 dst,.int .i8 src,.int .i8 base,.int .i64 disp,.int .i64 imm,.int .i8 cc]] W fun e w'=>e=.returned (.bool true) ∧ Below W.heap.size W w' by have h:=may_n ⟨20,wd,dst,src,base,disp,imm,cc⟩ hX W hT;rw [hm] at h;exact h)
  have HT:=Lib.hid hT
  have HB:=Lib.hid (And.intro hd (And.intro hs hb))
  clear hm hX hT hd hs hb
  go_enter Tryd.func13,Tryd.ntmps13
  go_wp2_with fail
  refine (MY.out _ (HT.out.below (below_new (Below.refl _ _) _) (Nat.le_refl _))).mono ?_
  rintro e w1 ⟨rfl,b1⟩
  have B1:=Lib.hid b1
  clear b1
  obtain ⟨c0_1,c1_1,c2_1,c3_1,c4_1,c5_1,c6_1,c7_1⟩:=xcells B1.out
  go_wp2_with fail
  refine (set_1 (dst) (2 ^ (dst:Int).toNat) w1.heap.size _ HB.out.1 (p2_wrap HB.out.1) (heap_last w1 _ _ rfl)).mono ?_
  rintro e y ⟨rfl,rfl⟩
  go_wp2_with fail
  go_ret
  exact ⟨retV (congrArg (Value.int .i64) (show (bits .or .i64 0 (2 ^ (dst:Int).toNat))=(2:Int) ^ (dst:Int).toNat from p2_or0 HB.out.1)),below_new (below_boxed B1.out) _⟩
set_option maxHeartbeats 4000000 in
theorem cwrites_21 (wd dst src base disp imm cc:Int) (W:World) (hX:XOk ⟨21,wd,dst,src,base,disp,imm,cc⟩) (hT:Tabs W) (hm:mayX ⟨21,wd,dst,src,base,disp,imm,cc⟩=true) (hd:0 ≤ dst ∧ dst < 16) (hs:0 ≤ src ∧ src < 16) (hb:0 ≤ base ∧ base < 16):
    Calls Tryd.prog 13 #[.agg #[.int .i8 21,.int .i8 wd,.int .i8 dst,.int .i8 src,.int .i8 base,.int .i64 disp,.int .i64 imm,.int .i8 cc]] W fun e w'=>e=.returned (.int .i64 ((2:Int) ^ (dst:Int).toNat)) ∧ Below W.heap.size W w':=by
  have MY:=Lib.hid (fun W (hT:Tabs W)=>show Calls Tryd.prog 16 #[.agg #[.int .i8 21,.int .i8 wd,.int .i8 dst,.int .i8 src,.int .i8 base,.int .i64 disp,.int .i64 imm,.int .i8 cc]] W fun e w'=>e=.returned (.bool true) ∧ Below W.heap.size W w' by have h:=may_n ⟨21,wd,dst,src,base,disp,imm,cc⟩ hX W hT;rw [hm] at h;exact h)
  have HT:=Lib.hid hT
  have HB:=Lib.hid (And.intro hd (And.intro hs hb))
  clear hm hX hT hd hs hb
  go_enter Tryd.func13,Tryd.ntmps13
  go_wp2_with fail
  refine (MY.out _ (HT.out.below (below_new (Below.refl _ _) _) (Nat.le_refl _))).mono ?_
  rintro e w1 ⟨rfl,b1⟩
  have B1:=Lib.hid b1
  clear b1
  obtain ⟨c0_1,c1_1,c2_1,c3_1,c4_1,c5_1,c6_1,c7_1⟩:=xcells B1.out
  go_wp2_with fail
  refine (set_1 (dst) (2 ^ (dst:Int).toNat) w1.heap.size _ HB.out.1 (p2_wrap HB.out.1) (heap_last w1 _ _ rfl)).mono ?_
  rintro e y ⟨rfl,rfl⟩
  go_wp2_with fail
  go_ret
  exact ⟨retV (congrArg (Value.int .i64) (show (bits .or .i64 0 (2 ^ (dst:Int).toNat))=(2:Int) ^ (dst:Int).toNat from p2_or0 HB.out.1)),below_new (below_boxed B1.out) _⟩
set_option maxHeartbeats 4000000 in
theorem cwrites_22 (wd dst src base disp imm cc:Int) (W:World) (hX:XOk ⟨22,wd,dst,src,base,disp,imm,cc⟩) (hT:Tabs W) (hm:mayX ⟨22,wd,dst,src,base,disp,imm,cc⟩=true) (hd:0 ≤ dst ∧ dst < 16) (hs:0 ≤ src ∧ src < 16) (hb:0 ≤ base ∧ base < 16):
    Calls Tryd.prog 13 #[.agg #[.int .i8 22,.int .i8 wd,.int .i8 dst,.int .i8 src,.int .i8 base,.int .i64 disp,.int .i64 imm,.int .i8 cc]] W fun e w'=>e=.returned (.int .i64 ((2:Int) ^ (dst:Int).toNat)) ∧ Below W.heap.size W w':=by
  have MY:=Lib.hid (fun W (hT:Tabs W)=>show Calls Tryd.prog 16 #[.agg #[.int .i8 22,.int .i8 wd,.int .i8 dst,.int .i8 src,.int .i8 base,.int .i64 disp,.int .i64 imm,.int .i8 cc]] W fun e w'=>e=.returned (.bool true) ∧ Below W.heap.size W w' by have h:=may_n ⟨22,wd,dst,src,base,disp,imm,cc⟩ hX W hT;rw [hm] at h;exact h)
  have HT:=Lib.hid hT
  have HB:=Lib.hid (And.intro hd (And.intro hs hb))
  clear hm hX hT hd hs hb
  go_enter Tryd.func13,Tryd.ntmps13
  go_wp2_with fail
  refine (MY.out _ (HT.out.below (below_new (Below.refl _ _) _) (Nat.le_refl _))).mono ?_
  rintro e w1 ⟨rfl,b1⟩
  have B1:=Lib.hid b1
  clear b1
  obtain ⟨c0_1,c1_1,c2_1,c3_1,c4_1,c5_1,c6_1,c7_1⟩:=xcells B1.out
  go_wp2_with fail
  refine (set_1 (dst) (2 ^ (dst:Int).toNat) w1.heap.size _ HB.out.1 (p2_wrap HB.out.1) (heap_last w1 _ _ rfl)).mono ?_
  rintro e y ⟨rfl,rfl⟩
  go_wp2_with fail
  go_ret
  exact ⟨retV (congrArg (Value.int .i64) (show (bits .or .i64 0 (2 ^ (dst:Int).toNat))=(2:Int) ^ (dst:Int).toNat from p2_or0 HB.out.1)),below_new (below_boxed B1.out) _⟩
set_option maxHeartbeats 4000000 in
theorem cwrites_23 (wd dst src base disp imm cc:Int) (W:World) (hX:XOk ⟨23,wd,dst,src,base,disp,imm,cc⟩) (hT:Tabs W) (hm:mayX ⟨23,wd,dst,src,base,disp,imm,cc⟩=true) (hd:0 ≤ dst ∧ dst < 16) (hs:0 ≤ src ∧ src < 16) (hb:0 ≤ base ∧ base < 16):
    Calls Tryd.prog 13 #[.agg #[.int .i8 23,.int .i8 wd,.int .i8 dst,.int .i8 src,.int .i8 base,.int .i64 disp,.int .i64 imm,.int .i8 cc]] W fun e w'=>e=.returned (.int .i64 ((2:Int) ^ (dst:Int).toNat)) ∧ Below W.heap.size W w':=by
  have MY:=Lib.hid (fun W (hT:Tabs W)=>show Calls Tryd.prog 16 #[.agg #[.int .i8 23,.int .i8 wd,.int .i8 dst,.int .i8 src,.int .i8 base,.int .i64 disp,.int .i64 imm,.int .i8 cc]] W fun e w'=>e=.returned (.bool true) ∧ Below W.heap.size W w' by have h:=may_n ⟨23,wd,dst,src,base,disp,imm,cc⟩ hX W hT;rw [hm] at h;exact h)
  have HT:=Lib.hid hT
  have HB:=Lib.hid (And.intro hd (And.intro hs hb))
  clear hm hX hT hd hs hb
  go_enter Tryd.func13,Tryd.ntmps13
  go_wp2_with fail
  refine (MY.out _ (HT.out.below (below_new (Below.refl _ _) _) (Nat.le_refl _))).mono ?_
  rintro e w1 ⟨rfl,b1⟩
  have B1:=Lib.hid b1
  clear b1
  obtain ⟨c0_1,c1_1,c2_1,c3_1,c4_1,c5_1,c6_1,c7_1⟩:=xcells B1.out
  go_wp2_with fail
  refine (set_1 (dst) (2 ^ (dst:Int).toNat) w1.heap.size _ HB.out.1 (p2_wrap HB.out.1) (heap_last w1 _ _ rfl)).mono ?_
  rintro e y ⟨rfl,rfl⟩
  go_wp2_with fail
  go_ret
  exact ⟨retV (congrArg (Value.int .i64) (show (bits .or .i64 0 (2 ^ (dst:Int).toNat))=(2:Int) ^ (dst:Int).toNat from p2_or0 HB.out.1)),below_new (below_boxed B1.out) _⟩
set_option maxHeartbeats 4000000 in
theorem cwrites_24 (wd dst src base disp imm cc:Int) (W:World) (hX:XOk ⟨24,wd,dst,src,base,disp,imm,cc⟩) (hT:Tabs W) (hm:mayX ⟨24,wd,dst,src,base,disp,imm,cc⟩=true) (hd:0 ≤ dst ∧ dst < 16) (hs:0 ≤ src ∧ src < 16) (hb:0 ≤ base ∧ base < 16):
    Calls Tryd.prog 13 #[.agg #[.int .i8 24,.int .i8 wd,.int .i8 dst,.int .i8 src,.int .i8 base,.int .i64 disp,.int .i64 imm,.int .i8 cc]] W fun e w'=>e=.returned (.int .i64 (5)) ∧ Below W.heap.size W w':=by
  have MY:=Lib.hid (fun W (hT:Tabs W)=>show Calls Tryd.prog 16 #[.agg #[.int .i8 24,.int .i8 wd,.int .i8 dst,.int .i8 src,.int .i8 base,.int .i64 disp,.int .i64 imm,.int .i8 cc]] W fun e w'=>e=.returned (.bool true) ∧ Below W.heap.size W w' by have h:=may_n ⟨24,wd,dst,src,base,disp,imm,cc⟩ hX W hT;rw [hm] at h;exact h)
  have HT:=Lib.hid hT
  have HB:=Lib.hid (And.intro hd (And.intro hs hb))
  clear hm hX hT hd hs hb
  go_enter Tryd.func13,Tryd.ntmps13
  go_wp2_with fail
  refine (MY.out _ (HT.out.below (below_new (Below.refl _ _) _) (Nat.le_refl _))).mono ?_
  rintro e w1 ⟨rfl,b1⟩
  have B1:=Lib.hid b1
  clear b1
  obtain ⟨c0_1,c1_1,c2_1,c3_1,c4_1,c5_1,c6_1,c7_1⟩:=xcells B1.out
  go_wp2_with fail
  refine (set_2 (0) (2) (1:Int) (4:Int) w1.heap.size _ (by decide) (by decide +kernel) (by decide) (by decide +kernel) (heap_last w1 _ _ rfl)).mono ?_
  rintro e y ⟨rfl,rfl⟩
  go_wp2_with fail
  go_ret
  exact ⟨retV (congrArg (Value.int .i64) (show (bits .or .i64 (bits .or .i64 0 (1:Int)) (4:Int))=5 from by decide +kernel)),below_new (below_boxed B1.out) _⟩
set_option maxHeartbeats 4000000 in
theorem cwrites_25 (wd dst src base disp imm cc:Int) (W:World) (hX:XOk ⟨25,wd,dst,src,base,disp,imm,cc⟩) (hT:Tabs W) (hm:mayX ⟨25,wd,dst,src,base,disp,imm,cc⟩=true) (hd:0 ≤ dst ∧ dst < 16) (hs:0 ≤ src ∧ src < 16) (hb:0 ≤ base ∧ base < 16):
    Calls Tryd.prog 13 #[.agg #[.int .i8 25,.int .i8 wd,.int .i8 dst,.int .i8 src,.int .i8 base,.int .i64 disp,.int .i64 imm,.int .i8 cc]] W fun e w'=>e=.returned (.int .i64 ((2:Int) ^ (dst:Int).toNat)) ∧ Below W.heap.size W w':=by
  have MY:=Lib.hid (fun W (hT:Tabs W)=>show Calls Tryd.prog 16 #[.agg #[.int .i8 25,.int .i8 wd,.int .i8 dst,.int .i8 src,.int .i8 base,.int .i64 disp,.int .i64 imm,.int .i8 cc]] W fun e w'=>e=.returned (.bool true) ∧ Below W.heap.size W w' by have h:=may_n ⟨25,wd,dst,src,base,disp,imm,cc⟩ hX W hT;rw [hm] at h;exact h)
  have HT:=Lib.hid hT
  have HB:=Lib.hid (And.intro hd (And.intro hs hb))
  clear hm hX hT hd hs hb
  go_enter Tryd.func13,Tryd.ntmps13
  go_wp2_with fail
  refine (MY.out _ (HT.out.below (below_new (Below.refl _ _) _) (Nat.le_refl _))).mono ?_
  rintro e w1 ⟨rfl,b1⟩
  have B1:=Lib.hid b1
  clear b1
  obtain ⟨c0_1,c1_1,c2_1,c3_1,c4_1,c5_1,c6_1,c7_1⟩:=xcells B1.out
  go_wp2_with fail
  refine (set_1 (dst) (2 ^ (dst:Int).toNat) w1.heap.size _ HB.out.1 (p2_wrap HB.out.1) (heap_last w1 _ _ rfl)).mono ?_
  rintro e y ⟨rfl,rfl⟩
  go_wp2_with fail
  go_ret
  exact ⟨retV (congrArg (Value.int .i64) (show (bits .or .i64 0 (2 ^ (dst:Int).toNat))=(2:Int) ^ (dst:Int).toNat from p2_or0 HB.out.1)),below_new (below_boxed B1.out) _⟩
set_option maxHeartbeats 4000000 in
theorem cwrites_26 (wd dst src base disp imm cc:Int) (W:World) (hX:XOk ⟨26,wd,dst,src,base,disp,imm,cc⟩) (hT:Tabs W) (hm:mayX ⟨26,wd,dst,src,base,disp,imm,cc⟩=true) (hd:0 ≤ dst ∧ dst < 16) (hs:0 ≤ src ∧ src < 16) (hb:0 ≤ base ∧ base < 16):
    Calls Tryd.prog 13 #[.agg #[.int .i8 26,.int .i8 wd,.int .i8 dst,.int .i8 src,.int .i8 base,.int .i64 disp,.int .i64 imm,.int .i8 cc]] W fun e w'=>e=.returned (.int .i64 ((2:Int) ^ (dst:Int).toNat)) ∧ Below W.heap.size W w':=by
  have MY:=Lib.hid (fun W (hT:Tabs W)=>show Calls Tryd.prog 16 #[.agg #[.int .i8 26,.int .i8 wd,.int .i8 dst,.int .i8 src,.int .i8 base,.int .i64 disp,.int .i64 imm,.int .i8 cc]] W fun e w'=>e=.returned (.bool true) ∧ Below W.heap.size W w' by have h:=may_n ⟨26,wd,dst,src,base,disp,imm,cc⟩ hX W hT;rw [hm] at h;exact h)
  have HT:=Lib.hid hT
  have HB:=Lib.hid (And.intro hd (And.intro hs hb))
  clear hm hX hT hd hs hb
  go_enter Tryd.func13,Tryd.ntmps13
  go_wp2_with fail
  refine (MY.out _ (HT.out.below (below_new (Below.refl _ _) _) (Nat.le_refl _))).mono ?_
  rintro e w1 ⟨rfl,b1⟩
  have B1:=Lib.hid b1
  clear b1
  obtain ⟨c0_1,c1_1,c2_1,c3_1,c4_1,c5_1,c6_1,c7_1⟩:=xcells B1.out
  go_wp2_with fail
  refine (set_1 (dst) (2 ^ (dst:Int).toNat) w1.heap.size _ HB.out.1 (p2_wrap HB.out.1) (heap_last w1 _ _ rfl)).mono ?_
  rintro e y ⟨rfl,rfl⟩
  go_wp2_with fail
  go_ret
  exact ⟨retV (congrArg (Value.int .i64) (show (bits .or .i64 0 (2 ^ (dst:Int).toNat))=(2:Int) ^ (dst:Int).toNat from p2_or0 HB.out.1)),below_new (below_boxed B1.out) _⟩
set_option maxHeartbeats 4000000 in
theorem cwrites_27 (wd dst src base disp imm cc:Int) (W:World) (hX:XOk ⟨27,wd,dst,src,base,disp,imm,cc⟩) (hT:Tabs W) (hm:mayX ⟨27,wd,dst,src,base,disp,imm,cc⟩=true) (hd:0 ≤ dst ∧ dst < 16) (hs:0 ≤ src ∧ src < 16) (hb:0 ≤ base ∧ base < 16):
    Calls Tryd.prog 13 #[.agg #[.int .i8 27,.int .i8 wd,.int .i8 dst,.int .i8 src,.int .i8 base,.int .i64 disp,.int .i64 imm,.int .i8 cc]] W fun e w'=>e=.returned (.int .i64 (0)) ∧ Below W.heap.size W w':=by
  have MY:=Lib.hid (fun W (hT:Tabs W)=>show Calls Tryd.prog 16 #[.agg #[.int .i8 27,.int .i8 wd,.int .i8 dst,.int .i8 src,.int .i8 base,.int .i64 disp,.int .i64 imm,.int .i8 cc]] W fun e w'=>e=.returned (.bool true) ∧ Below W.heap.size W w' by have h:=may_n ⟨27,wd,dst,src,base,disp,imm,cc⟩ hX W hT;rw [hm] at h;exact h)
  have HT:=Lib.hid hT
  have HB:=Lib.hid (And.intro hd (And.intro hs hb))
  clear hm hX hT hd hs hb
  go_enter Tryd.func13,Tryd.ntmps13
  go_wp2_with fail
  refine (MY.out _ (HT.out.below (below_new (Below.refl _ _) _) (Nat.le_refl _))).mono ?_
  rintro e w1 ⟨rfl,b1⟩
  have B1:=Lib.hid b1
  clear b1
  obtain ⟨c0_1,c1_1,c2_1,c3_1,c4_1,c5_1,c6_1,c7_1⟩:=xcells B1.out
  go_wp2_with fail
  go_ret
  exact ⟨rfl,below_boxed B1.out⟩
set_option maxHeartbeats 4000000 in
theorem cwrites_28 (wd dst src base disp imm cc:Int) (W:World) (hX:XOk ⟨28,wd,dst,src,base,disp,imm,cc⟩) (hT:Tabs W) (hm:mayX ⟨28,wd,dst,src,base,disp,imm,cc⟩=true) (hd:0 ≤ dst ∧ dst < 16) (hs:0 ≤ src ∧ src < 16) (hb:0 ≤ base ∧ base < 16):
    Calls Tryd.prog 13 #[.agg #[.int .i8 28,.int .i8 wd,.int .i8 dst,.int .i8 src,.int .i8 base,.int .i64 disp,.int .i64 imm,.int .i8 cc]] W fun e w'=>e=.returned (.int .i64 (0)) ∧ Below W.heap.size W w':=by
  have MY:=Lib.hid (fun W (hT:Tabs W)=>show Calls Tryd.prog 16 #[.agg #[.int .i8 28,.int .i8 wd,.int .i8 dst,.int .i8 src,.int .i8 base,.int .i64 disp,.int .i64 imm,.int .i8 cc]] W fun e w'=>e=.returned (.bool true) ∧ Below W.heap.size W w' by have h:=may_n ⟨28,wd,dst,src,base,disp,imm,cc⟩ hX W hT;rw [hm] at h;exact h)
  have HT:=Lib.hid hT
  have HB:=Lib.hid (And.intro hd (And.intro hs hb))
  clear hm hX hT hd hs hb
  go_enter Tryd.func13,Tryd.ntmps13
  go_wp2_with fail
  refine (MY.out _ (HT.out.below (below_new (Below.refl _ _) _) (Nat.le_refl _))).mono ?_
  rintro e w1 ⟨rfl,b1⟩
  have B1:=Lib.hid b1
  clear b1
  obtain ⟨c0_1,c1_1,c2_1,c3_1,c4_1,c5_1,c6_1,c7_1⟩:=xcells B1.out
  go_wp2_with fail
  go_ret
  exact ⟨rfl,below_boxed B1.out⟩
set_option maxHeartbeats 4000000 in
theorem cwrites_29 (wd dst src base disp imm cc:Int) (W:World) (hX:XOk ⟨29,wd,dst,src,base,disp,imm,cc⟩) (hT:Tabs W) (hm:mayX ⟨29,wd,dst,src,base,disp,imm,cc⟩=true) (hd:0 ≤ dst ∧ dst < 16) (hs:0 ≤ src ∧ src < 16) (hb:0 ≤ base ∧ base < 16):
    Calls Tryd.prog 13 #[.agg #[.int .i8 29,.int .i8 wd,.int .i8 dst,.int .i8 src,.int .i8 base,.int .i64 disp,.int .i64 imm,.int .i8 cc]] W fun e w'=>e=.returned (.int .i64 (0)) ∧ Below W.heap.size W w':=by
  have MY:=Lib.hid (fun W (hT:Tabs W)=>show Calls Tryd.prog 16 #[.agg #[.int .i8 29,.int .i8 wd,.int .i8 dst,.int .i8 src,.int .i8 base,.int .i64 disp,.int .i64 imm,.int .i8 cc]] W fun e w'=>e=.returned (.bool true) ∧ Below W.heap.size W w' by have h:=may_n ⟨29,wd,dst,src,base,disp,imm,cc⟩ hX W hT;rw [hm] at h;exact h)
  have HT:=Lib.hid hT
  have HB:=Lib.hid (And.intro hd (And.intro hs hb))
  clear hm hX hT hd hs hb
  go_enter Tryd.func13,Tryd.ntmps13
  go_wp2_with fail
  refine (MY.out _ (HT.out.below (below_new (Below.refl _ _) _) (Nat.le_refl _))).mono ?_
  rintro e w1 ⟨rfl,b1⟩
  have B1:=Lib.hid b1
  clear b1
  obtain ⟨c0_1,c1_1,c2_1,c3_1,c4_1,c5_1,c6_1,c7_1⟩:=xcells B1.out
  go_wp2_with fail
  go_ret
  exact ⟨rfl,below_boxed B1.out⟩
set_option maxHeartbeats 4000000 in
theorem cwrites_30 (wd dst src base disp imm cc:Int) (W:World) (hX:XOk ⟨30,wd,dst,src,base,disp,imm,cc⟩) (hT:Tabs W) (hm:mayX ⟨30,wd,dst,src,base,disp,imm,cc⟩=true) (hd:0 ≤ dst ∧ dst < 16) (hs:0 ≤ src ∧ src < 16) (hb:0 ≤ base ∧ base < 16):
    Calls Tryd.prog 13 #[.agg #[.int .i8 30,.int .i8 wd,.int .i8 dst,.int .i8 src,.int .i8 base,.int .i64 disp,.int .i64 imm,.int .i8 cc]] W fun e w'=>e=.returned (.int .i64 (16)) ∧ Below W.heap.size W w':=by
  have MY:=Lib.hid (fun W (hT:Tabs W)=>show Calls Tryd.prog 16 #[.agg #[.int .i8 30,.int .i8 wd,.int .i8 dst,.int .i8 src,.int .i8 base,.int .i64 disp,.int .i64 imm,.int .i8 cc]] W fun e w'=>e=.returned (.bool true) ∧ Below W.heap.size W w' by have h:=may_n ⟨30,wd,dst,src,base,disp,imm,cc⟩ hX W hT;rw [hm] at h;exact h)
  have HT:=Lib.hid hT
  have HB:=Lib.hid (And.intro hd (And.intro hs hb))
  clear hm hX hT hd hs hb
  go_enter Tryd.func13,Tryd.ntmps13
  go_wp2_with fail
  refine (MY.out _ (HT.out.below (below_new (Below.refl _ _) _) (Nat.le_refl _))).mono ?_
  rintro e w1 ⟨rfl,b1⟩
  have B1:=Lib.hid b1
  clear b1
  obtain ⟨c0_1,c1_1,c2_1,c3_1,c4_1,c5_1,c6_1,c7_1⟩:=xcells B1.out
  go_wp2_with fail
  refine (set_1 (4) (16:Int) w1.heap.size _ (by decide) (by decide +kernel) (heap_last w1 _ _ rfl)).mono ?_
  rintro e y ⟨rfl,rfl⟩
  go_wp2_with fail
  go_ret
  exact ⟨retV (congrArg (Value.int .i64) (show (bits .or .i64 0 (16:Int))=16 from by decide +kernel)),below_new (below_boxed B1.out) _⟩
set_option maxHeartbeats 4000000 in
theorem cwrites_31 (wd dst src base disp imm cc:Int) (W:World) (hX:XOk ⟨31,wd,dst,src,base,disp,imm,cc⟩) (hT:Tabs W) (hm:mayX ⟨31,wd,dst,src,base,disp,imm,cc⟩=true) (hd:0 ≤ dst ∧ dst < 16) (hs:0 ≤ src ∧ src < 16) (hb:0 ≤ base ∧ base < 16):
    Calls Tryd.prog 13 #[.agg #[.int .i8 31,.int .i8 wd,.int .i8 dst,.int .i8 src,.int .i8 base,.int .i64 disp,.int .i64 imm,.int .i8 cc]] W fun e w'=>e=.returned (.int .i64 (2051)) ∧ Below W.heap.size W w':=by
  have MY:=Lib.hid (fun W (hT:Tabs W)=>show Calls Tryd.prog 16 #[.agg #[.int .i8 31,.int .i8 wd,.int .i8 dst,.int .i8 src,.int .i8 base,.int .i64 disp,.int .i64 imm,.int .i8 cc]] W fun e w'=>e=.returned (.bool true) ∧ Below W.heap.size W w' by have h:=may_n ⟨31,wd,dst,src,base,disp,imm,cc⟩ hX W hT;rw [hm] at h;exact h)
  have HT:=Lib.hid hT
  have HB:=Lib.hid (And.intro hd (And.intro hs hb))
  clear hm hX hT hd hs hb
  go_enter Tryd.func13,Tryd.ntmps13
  go_wp2_with fail
  refine (MY.out _ (HT.out.below (below_new (Below.refl _ _) _) (Nat.le_refl _))).mono ?_
  rintro e w1 ⟨rfl,b1⟩
  have B1:=Lib.hid b1
  clear b1
  obtain ⟨c0_1,c1_1,c2_1,c3_1,c4_1,c5_1,c6_1,c7_1⟩:=xcells B1.out
  go_wp2_with fail
  refine (set_3 (0) (1) (11) (1:Int) (2:Int) (2048:Int) w1.heap.size _ (by decide) (by decide +kernel) (by decide) (by decide +kernel) (by decide) (by decide +kernel) (heap_last w1 _ _ rfl)).mono ?_
  rintro e y ⟨rfl,rfl⟩
  go_wp2_with fail
  go_ret
  exact ⟨retV (congrArg (Value.int .i64) (show (bits .or .i64 (bits .or .i64 (bits .or .i64 0 (1:Int)) (2:Int)) (2048:Int))=2051 from by decide +kernel)),below_new (below_boxed B1.out) _⟩
end Go.Proofs.YtoghjpliemidkaaDoor.Mrm
