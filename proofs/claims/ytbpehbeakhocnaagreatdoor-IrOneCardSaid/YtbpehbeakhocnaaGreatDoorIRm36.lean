import Derived.Test.YtbpehbeakhocnaaGreatDoorIRm35
set_option maxHeartbeats 8000000
set_option linter.unusedVariables false
set_option linter.unusedSimpArgs false
set_option linter.unnecessarySimpa false
namespace Go.Proofs.YtbpehbeakhocnaaGreatDoor.Mrm
open Go Go.RowKit
set_option maxRecDepth 100000
theorem shape_at {w:World} (hT:Tabs w) (j:Nat) {v:Value} (h:codesC[j]?=some v):w.cell? ⟨1,j,none⟩=some v:=by
  obtain ⟨⟨T,fr,e⟩,_⟩:=hT
  simp only [World.cell?,e]
  exact h
theorem cr0 (op wd dst src base disp imm cc:Int) (ho:op=0) (W:World) (hX:XOk ⟨op,wd,dst,src,base,disp,imm,cc⟩) (hT:Tabs W) (hm:mayX ⟨op,wd,dst,src,base,disp,imm,cc⟩=true) (hd:0 ≤ dst ∧ dst < 16) (hs:0 ≤ src ∧ src < 16) (hb:0 ≤ base ∧ base < 16):
    Calls Tryz.prog 103 #[.agg (xC ⟨op,wd,dst,src,base,disp,imm,cc⟩)] W fun e w'=>e=.returned (.int .i64 ((2:Int) ^ (src:Int).toNat)) ∧ Below W.heap.size W w':=by
  have MY:=Lib.hid (fun W (hT:Tabs W)=>show Calls Tryz.prog 102 #[.agg (xC ⟨op,wd,dst,src,base,disp,imm,cc⟩)] W fun e w'=>e=.returned (.bool true) ∧ Below W.heap.size W w' by have h:=may_n ⟨op,wd,dst,src,base,disp,imm,cc⟩ hX W hT;rw [hm] at h;exact h)
  have HT:=Lib.hid hT
  have HB:=Lib.hid (And.intro hd (And.intro hs hb))
  clear hm hX hT hd hs hb
  rcases ho with rfl
  all_goals
    go_enter Tryz.func103,Tryz.ntmps103
    go_wp2_with fail
    refine (MY.out _ (HT.out.below (below_new (Below.refl _ _) _) (Nat.le_refl _))).mono ?_
    rintro e w1 ⟨rfl,b1⟩
    have B1:=Lib.hid b1
    clear b1
    obtain ⟨c0_1,c1_1,c2_1,c3_1,c4_1,c5_1,c6_1,c7_1⟩:=xcells B1.out
    go_wp2_with fail
    refine (set_1 (src) (2 ^ (src:Int).toNat) w1.heap.size _ HB.out.2.1 (p2_wrap HB.out.2.1) (heap_last w1 _ _ rfl)).mono ?_
    rintro e y ⟨rfl,rfl⟩
    go_wp2_with fail
    go_ret
    exact ⟨retV (congrArg (Value.int .i64) (show (bits .or .i64 0 (2 ^ (src:Int).toNat))=(2:Int) ^ (src:Int).toNat from p2_or0 HB.out.2.1)),below_new (below_boxed B1.out) _⟩
theorem cr1 (op wd dst src base disp imm cc:Int) (ho:op=1 ∨ op=28 ∨ op=29) (W:World) (hX:XOk ⟨op,wd,dst,src,base,disp,imm,cc⟩) (hT:Tabs W) (hm:mayX ⟨op,wd,dst,src,base,disp,imm,cc⟩=true) (hd:0 ≤ dst ∧ dst < 16) (hs:0 ≤ src ∧ src < 16) (hb:0 ≤ base ∧ base < 16):
    Calls Tryz.prog 103 #[.agg (xC ⟨op,wd,dst,src,base,disp,imm,cc⟩)] W fun e w'=>e=.returned (.int .i64 (0)) ∧ Below W.heap.size W w':=by
  have MY:=Lib.hid (fun W (hT:Tabs W)=>show Calls Tryz.prog 102 #[.agg (xC ⟨op,wd,dst,src,base,disp,imm,cc⟩)] W fun e w'=>e=.returned (.bool true) ∧ Below W.heap.size W w' by have h:=may_n ⟨op,wd,dst,src,base,disp,imm,cc⟩ hX W hT;rw [hm] at h;exact h)
  have HT:=Lib.hid hT
  have HB:=Lib.hid (And.intro hd (And.intro hs hb))
  clear hm hX hT hd hs hb
  rcases ho with rfl | rfl | rfl
  all_goals
    go_enter Tryz.func103,Tryz.ntmps103
    go_wp2_with fail
    refine (MY.out _ (HT.out.below (below_new (Below.refl _ _) _) (Nat.le_refl _))).mono ?_
    rintro e w1 ⟨rfl,b1⟩
    have B1:=Lib.hid b1
    clear b1
    obtain ⟨c0_1,c1_1,c2_1,c3_1,c4_1,c5_1,c6_1,c7_1⟩:=xcells B1.out
    go_wp2_with fail
    go_ret
    exact ⟨rfl,below_boxed B1.out⟩
theorem cr2 (op wd dst src base disp imm cc:Int) (ho:op=2 ∨ op=3 ∨ op=4 ∨ op=5 ∨ op=6 ∨ op=7 ∨ op=8) (W:World) (hX:XOk ⟨op,wd,dst,src,base,disp,imm,cc⟩) (hT:Tabs W) (hm:mayX ⟨op,wd,dst,src,base,disp,imm,cc⟩=true) (hd:0 ≤ dst ∧ dst < 16) (hs:0 ≤ src ∧ src < 16) (hb:0 ≤ base ∧ base < 16):
    Calls Tryz.prog 103 #[.agg (xC ⟨op,wd,dst,src,base,disp,imm,cc⟩)] W fun e w'=>e=.returned (.int .i64 (bits .or .i64 ((2:Int) ^ (dst:Int).toNat) ((2:Int) ^ (src:Int).toNat))) ∧ Below W.heap.size W w':=by
  have MY:=Lib.hid (fun W (hT:Tabs W)=>show Calls Tryz.prog 102 #[.agg (xC ⟨op,wd,dst,src,base,disp,imm,cc⟩)] W fun e w'=>e=.returned (.bool true) ∧ Below W.heap.size W w' by have h:=may_n ⟨op,wd,dst,src,base,disp,imm,cc⟩ hX W hT;rw [hm] at h;exact h)
  have SH:=Lib.hid (show codesC[5 * op.toNat]?=some (.int .i8 1) by rcases ho with rfl | rfl | rfl | rfl | rfl | rfl | rfl <;> rfl)
  have HT:=Lib.hid hT
  have HB:=Lib.hid (And.intro hd (And.intro hs hb))
  clear hm hX hT hd hs hb
  rcases ho with rfl | rfl | rfl | rfl | rfl | rfl | rfl
  all_goals
    go_enter Tryz.func103,Tryz.ntmps103
    go_wp2_with fail
    refine (MY.out _ (HT.out.below (below_new (Below.refl _ _) _) (Nat.le_refl _))).mono ?_
    rintro e w1 ⟨rfl,b1⟩
    have B1:=Lib.hid b1
    clear b1
    obtain ⟨c0_1,c1_1,c2_1,c3_1,c4_1,c5_1,c6_1,c7_1⟩:=xcells B1.out
    have k0:=shape_at (HT.out.below (below_boxed B1.out) (Nat.le_refl _)) _ SH.out
    simp only [Int.reduceToNat,Nat.reduceMul] at k0
    go_wp2_with fail
    refine (set_2 (dst) (src) (2 ^ (dst:Int).toNat) (2 ^ (src:Int).toNat) w1.heap.size _ HB.out.1 (p2_wrap HB.out.1) HB.out.2.1 (p2_wrap HB.out.2.1) (heap_last w1 _ _ rfl)).mono ?_
    rintro e y ⟨rfl,rfl⟩
    go_wp2_with fail
    go_ret
    exact ⟨retV (congrArg (Value.int .i64) (show (bits .or .i64 (bits .or .i64 0 (2 ^ (dst:Int).toNat)) (2 ^ (src:Int).toNat))=bits .or .i64 ((2:Int) ^ (dst:Int).toNat) ((2:Int) ^ (src:Int).toNat) from by rw [p2_or0 HB.out.1])),below_new (below_boxed B1.out) _⟩
theorem cr3 (op wd dst src base disp imm cc:Int) (ho:op=9 ∨ op=10 ∨ op=11 ∨ op=12 ∨ op=13 ∨ op=14 ∨ op=15) (W:World) (hX:XOk ⟨op,wd,dst,src,base,disp,imm,cc⟩) (hT:Tabs W) (hm:mayX ⟨op,wd,dst,src,base,disp,imm,cc⟩=true) (hd:0 ≤ dst ∧ dst < 16) (hs:0 ≤ src ∧ src < 16) (hb:0 ≤ base ∧ base < 16):
    Calls Tryz.prog 103 #[.agg (xC ⟨op,wd,dst,src,base,disp,imm,cc⟩)] W fun e w'=>e=.returned (.int .i64 ((2:Int) ^ (dst:Int).toNat)) ∧ Below W.heap.size W w':=by
  have MY:=Lib.hid (fun W (hT:Tabs W)=>show Calls Tryz.prog 102 #[.agg (xC ⟨op,wd,dst,src,base,disp,imm,cc⟩)] W fun e w'=>e=.returned (.bool true) ∧ Below W.heap.size W w' by have h:=may_n ⟨op,wd,dst,src,base,disp,imm,cc⟩ hX W hT;rw [hm] at h;exact h)
  have SH:=Lib.hid (show codesC[5 * op.toNat]?=some (.int .i8 3) by rcases ho with rfl | rfl | rfl | rfl | rfl | rfl | rfl <;> rfl)
  have HT:=Lib.hid hT
  have HB:=Lib.hid (And.intro hd (And.intro hs hb))
  clear hm hX hT hd hs hb
  rcases ho with rfl | rfl | rfl | rfl | rfl | rfl | rfl
  all_goals
    go_enter Tryz.func103,Tryz.ntmps103
    go_wp2_with fail
    refine (MY.out _ (HT.out.below (below_new (Below.refl _ _) _) (Nat.le_refl _))).mono ?_
    rintro e w1 ⟨rfl,b1⟩
    have B1:=Lib.hid b1
    clear b1
    obtain ⟨c0_1,c1_1,c2_1,c3_1,c4_1,c5_1,c6_1,c7_1⟩:=xcells B1.out
    have k0:=shape_at (HT.out.below (below_boxed B1.out) (Nat.le_refl _)) _ SH.out
    simp only [Int.reduceToNat,Nat.reduceMul] at k0
    go_wp2_with fail
    refine (set_1 (dst) (2 ^ (dst:Int).toNat) w1.heap.size _ HB.out.1 (p2_wrap HB.out.1) (heap_last w1 _ _ rfl)).mono ?_
    rintro e y ⟨rfl,rfl⟩
    go_wp2_with fail
    go_ret
    exact ⟨retV (congrArg (Value.int .i64) (show (bits .or .i64 0 (2 ^ (dst:Int).toNat))=(2:Int) ^ (dst:Int).toNat from p2_or0 HB.out.1)),below_new (below_boxed B1.out) _⟩
theorem cr4 (op wd dst src base disp imm cc:Int) (ho:op=16 ∨ op=25) (W:World) (hX:XOk ⟨op,wd,dst,src,base,disp,imm,cc⟩) (hT:Tabs W) (hm:mayX ⟨op,wd,dst,src,base,disp,imm,cc⟩=true) (hd:0 ≤ dst ∧ dst < 16) (hs:0 ≤ src ∧ src < 16) (hb:0 ≤ base ∧ base < 16):
    Calls Tryz.prog 103 #[.agg (xC ⟨op,wd,dst,src,base,disp,imm,cc⟩)] W fun e w'=>e=.returned (.int .i64 (bits .or .i64 ((2:Int) ^ (dst:Int).toNat) ((2:Int) ^ (src:Int).toNat))) ∧ Below W.heap.size W w':=by
  have MY:=Lib.hid (fun W (hT:Tabs W)=>show Calls Tryz.prog 102 #[.agg (xC ⟨op,wd,dst,src,base,disp,imm,cc⟩)] W fun e w'=>e=.returned (.bool true) ∧ Below W.heap.size W w' by have h:=may_n ⟨op,wd,dst,src,base,disp,imm,cc⟩ hX W hT;rw [hm] at h;exact h)
  have SH:=Lib.hid (show codesC[5 * op.toNat]?=some (.int .i8 2) by rcases ho with rfl | rfl <;> rfl)
  have HT:=Lib.hid hT
  have HB:=Lib.hid (And.intro hd (And.intro hs hb))
  clear hm hX hT hd hs hb
  rcases ho with rfl | rfl
  all_goals
    go_enter Tryz.func103,Tryz.ntmps103
    go_wp2_with fail
    refine (MY.out _ (HT.out.below (below_new (Below.refl _ _) _) (Nat.le_refl _))).mono ?_
    rintro e w1 ⟨rfl,b1⟩
    have B1:=Lib.hid b1
    clear b1
    obtain ⟨c0_1,c1_1,c2_1,c3_1,c4_1,c5_1,c6_1,c7_1⟩:=xcells B1.out
    have k0:=shape_at (HT.out.below (below_boxed B1.out) (Nat.le_refl _)) _ SH.out
    simp only [Int.reduceToNat,Nat.reduceMul] at k0
    go_wp2_with fail
    refine (set_2 (dst) (src) (2 ^ (dst:Int).toNat) (2 ^ (src:Int).toNat) w1.heap.size _ HB.out.1 (p2_wrap HB.out.1) HB.out.2.1 (p2_wrap HB.out.2.1) (heap_last w1 _ _ rfl)).mono ?_
    rintro e y ⟨rfl,rfl⟩
    go_wp2_with fail
    go_ret
    exact ⟨retV (congrArg (Value.int .i64) (show (bits .or .i64 (bits .or .i64 0 (2 ^ (dst:Int).toNat)) (2 ^ (src:Int).toNat))=bits .or .i64 ((2:Int) ^ (dst:Int).toNat) ((2:Int) ^ (src:Int).toNat) from by rw [p2_or0 HB.out.1])),below_new (below_boxed B1.out) _⟩
theorem cr5 (op wd dst src base disp imm cc:Int) (ho:op=17 ∨ op=18 ∨ op=19) (W:World) (hX:XOk ⟨op,wd,dst,src,base,disp,imm,cc⟩) (hT:Tabs W) (hm:mayX ⟨op,wd,dst,src,base,disp,imm,cc⟩=true) (hd:0 ≤ dst ∧ dst < 16) (hs:0 ≤ src ∧ src < 16) (hb:0 ≤ base ∧ base < 16):
    Calls Tryz.prog 103 #[.agg (xC ⟨op,wd,dst,src,base,disp,imm,cc⟩)] W fun e w'=>e=.returned (.int .i64 ((2:Int) ^ (dst:Int).toNat)) ∧ Below W.heap.size W w':=by
  have MY:=Lib.hid (fun W (hT:Tabs W)=>show Calls Tryz.prog 102 #[.agg (xC ⟨op,wd,dst,src,base,disp,imm,cc⟩)] W fun e w'=>e=.returned (.bool true) ∧ Below W.heap.size W w' by have h:=may_n ⟨op,wd,dst,src,base,disp,imm,cc⟩ hX W hT;rw [hm] at h;exact h)
  have SH:=Lib.hid (show codesC[5 * op.toNat]?=some (.int .i8 4) by rcases ho with rfl | rfl | rfl <;> rfl)
  have HT:=Lib.hid hT
  have HB:=Lib.hid (And.intro hd (And.intro hs hb))
  clear hm hX hT hd hs hb
  rcases ho with rfl | rfl | rfl
  all_goals
    go_enter Tryz.func103,Tryz.ntmps103
    go_wp2_with fail
    refine (MY.out _ (HT.out.below (below_new (Below.refl _ _) _) (Nat.le_refl _))).mono ?_
    rintro e w1 ⟨rfl,b1⟩
    have B1:=Lib.hid b1
    clear b1
    obtain ⟨c0_1,c1_1,c2_1,c3_1,c4_1,c5_1,c6_1,c7_1⟩:=xcells B1.out
    have k0:=shape_at (HT.out.below (below_boxed B1.out) (Nat.le_refl _)) _ SH.out
    simp only [Int.reduceToNat,Nat.reduceMul] at k0
    go_wp2_with fail
    refine (set_1 (dst) (2 ^ (dst:Int).toNat) w1.heap.size _ HB.out.1 (p2_wrap HB.out.1) (heap_last w1 _ _ rfl)).mono ?_
    rintro e y ⟨rfl,rfl⟩
    go_wp2_with fail
    go_ret
    exact ⟨retV (congrArg (Value.int .i64) (show (bits .or .i64 0 (2 ^ (dst:Int).toNat))=(2:Int) ^ (dst:Int).toNat from p2_or0 HB.out.1)),below_new (below_boxed B1.out) _⟩
theorem cr6 (op wd dst src base disp imm cc:Int) (ho:op=20 ∨ op=21 ∨ op=22) (W:World) (hX:XOk ⟨op,wd,dst,src,base,disp,imm,cc⟩) (hT:Tabs W) (hm:mayX ⟨op,wd,dst,src,base,disp,imm,cc⟩=true) (hd:0 ≤ dst ∧ dst < 16) (hs:0 ≤ src ∧ src < 16) (hb:0 ≤ base ∧ base < 16):
    Calls Tryz.prog 103 #[.agg (xC ⟨op,wd,dst,src,base,disp,imm,cc⟩)] W fun e w'=>e=.returned (.int .i64 (bits .or .i64 ((2:Int) ^ (dst:Int).toNat) (2))) ∧ Below W.heap.size W w':=by
  have MY:=Lib.hid (fun W (hT:Tabs W)=>show Calls Tryz.prog 102 #[.agg (xC ⟨op,wd,dst,src,base,disp,imm,cc⟩)] W fun e w'=>e=.returned (.bool true) ∧ Below W.heap.size W w' by have h:=may_n ⟨op,wd,dst,src,base,disp,imm,cc⟩ hX W hT;rw [hm] at h;exact h)
  have HT:=Lib.hid hT
  have HB:=Lib.hid (And.intro hd (And.intro hs hb))
  clear hm hX hT hd hs hb
  rcases ho with rfl | rfl | rfl
  all_goals
    go_enter Tryz.func103,Tryz.ntmps103
    go_wp2_with fail
    refine (MY.out _ (HT.out.below (below_new (Below.refl _ _) _) (Nat.le_refl _))).mono ?_
    rintro e w1 ⟨rfl,b1⟩
    have B1:=Lib.hid b1
    clear b1
    obtain ⟨c0_1,c1_1,c2_1,c3_1,c4_1,c5_1,c6_1,c7_1⟩:=xcells B1.out
    go_wp2_with fail
    refine (set_2 (dst) (1) (2 ^ (dst:Int).toNat) (2:Int) w1.heap.size _ HB.out.1 (p2_wrap HB.out.1) (by decide) (by decide +kernel) (heap_last w1 _ _ rfl)).mono ?_
    rintro e y ⟨rfl,rfl⟩
    go_wp2_with fail
    go_ret
    exact ⟨retV (congrArg (Value.int .i64) (show (bits .or .i64 (bits .or .i64 0 (2 ^ (dst:Int).toNat)) (2:Int))=bits .or .i64 ((2:Int) ^ (dst:Int).toNat) (2) from by rw [p2_or0 HB.out.1])),below_new (below_boxed B1.out) _⟩
theorem cr7 (op wd dst src base disp imm cc:Int) (ho:op=23) (W:World) (hX:XOk ⟨op,wd,dst,src,base,disp,imm,cc⟩) (hT:Tabs W) (hm:mayX ⟨op,wd,dst,src,base,disp,imm,cc⟩=true) (hd:0 ≤ dst ∧ dst < 16) (hs:0 ≤ src ∧ src < 16) (hb:0 ≤ base ∧ base < 16):
    Calls Tryz.prog 103 #[.agg (xC ⟨op,wd,dst,src,base,disp,imm,cc⟩)] W fun e w'=>e=.returned (.int .i64 ((2:Int) ^ (dst:Int).toNat)) ∧ Below W.heap.size W w':=by
  have MY:=Lib.hid (fun W (hT:Tabs W)=>show Calls Tryz.prog 102 #[.agg (xC ⟨op,wd,dst,src,base,disp,imm,cc⟩)] W fun e w'=>e=.returned (.bool true) ∧ Below W.heap.size W w' by have h:=may_n ⟨op,wd,dst,src,base,disp,imm,cc⟩ hX W hT;rw [hm] at h;exact h)
  have SH:=Lib.hid (show codesC[5 * op.toNat]?=some (.int .i8 5) by rcases ho with rfl <;> rfl)
  have HT:=Lib.hid hT
  have HB:=Lib.hid (And.intro hd (And.intro hs hb))
  clear hm hX hT hd hs hb
  rcases ho with rfl
  all_goals
    go_enter Tryz.func103,Tryz.ntmps103
    go_wp2_with fail
    refine (MY.out _ (HT.out.below (below_new (Below.refl _ _) _) (Nat.le_refl _))).mono ?_
    rintro e w1 ⟨rfl,b1⟩
    have B1:=Lib.hid b1
    clear b1
    obtain ⟨c0_1,c1_1,c2_1,c3_1,c4_1,c5_1,c6_1,c7_1⟩:=xcells B1.out
    have k0:=shape_at (HT.out.below (below_boxed B1.out) (Nat.le_refl _)) _ SH.out
    simp only [Int.reduceToNat,Nat.reduceMul] at k0
    go_wp2_with fail
    refine (set_1 (dst) (2 ^ (dst:Int).toNat) w1.heap.size _ HB.out.1 (p2_wrap HB.out.1) (heap_last w1 _ _ rfl)).mono ?_
    rintro e y ⟨rfl,rfl⟩
    go_wp2_with fail
    go_ret
    exact ⟨retV (congrArg (Value.int .i64) (show (bits .or .i64 0 (2 ^ (dst:Int).toNat))=(2:Int) ^ (dst:Int).toNat from p2_or0 HB.out.1)),below_new (below_boxed B1.out) _⟩
theorem cr8 (op wd dst src base disp imm cc:Int) (ho:op=24) (W:World) (hX:XOk ⟨op,wd,dst,src,base,disp,imm,cc⟩) (hT:Tabs W) (hm:mayX ⟨op,wd,dst,src,base,disp,imm,cc⟩=true) (hd:0 ≤ dst ∧ dst < 16) (hs:0 ≤ src ∧ src < 16) (hb:0 ≤ base ∧ base < 16):
    Calls Tryz.prog 103 #[.agg (xC ⟨op,wd,dst,src,base,disp,imm,cc⟩)] W fun e w'=>e=.returned (.int .i64 (bits .or .i64 (bits .or .i64 ((2:Int) ^ (dst:Int).toNat) (1)) (4))) ∧ Below W.heap.size W w':=by
  have MY:=Lib.hid (fun W (hT:Tabs W)=>show Calls Tryz.prog 102 #[.agg (xC ⟨op,wd,dst,src,base,disp,imm,cc⟩)] W fun e w'=>e=.returned (.bool true) ∧ Below W.heap.size W w' by have h:=may_n ⟨op,wd,dst,src,base,disp,imm,cc⟩ hX W hT;rw [hm] at h;exact h)
  have HT:=Lib.hid hT
  have HB:=Lib.hid (And.intro hd (And.intro hs hb))
  clear hm hX hT hd hs hb
  rcases ho with rfl
  all_goals
    go_enter Tryz.func103,Tryz.ntmps103
    go_wp2_with fail
    refine (MY.out _ (HT.out.below (below_new (Below.refl _ _) _) (Nat.le_refl _))).mono ?_
    rintro e w1 ⟨rfl,b1⟩
    have B1:=Lib.hid b1
    clear b1
    obtain ⟨c0_1,c1_1,c2_1,c3_1,c4_1,c5_1,c6_1,c7_1⟩:=xcells B1.out
    go_wp2_with fail
    refine (set_3 (0) (2) (dst) (1:Int) (4:Int) (2 ^ (dst:Int).toNat) w1.heap.size _ (by decide) (by decide +kernel) (by decide) (by decide +kernel) HB.out.1 (p2_wrap HB.out.1) (heap_last w1 _ _ rfl)).mono ?_
    rintro e y ⟨rfl,rfl⟩
    go_wp2_with fail
    go_ret
    exact ⟨retV (congrArg (Value.int .i64) (show (bits .or .i64 (bits .or .i64 (bits .or .i64 0 (1:Int)) (4:Int)) (2 ^ (dst:Int).toNat))=bits .or .i64 (bits .or .i64 ((2:Int) ^ (dst:Int).toNat) (1)) (4) from p2_div HB.out.1)),below_new (below_boxed B1.out) _⟩
theorem cr9 (op wd dst src base disp imm cc:Int) (ho:op=26) (W:World) (hX:XOk ⟨op,wd,dst,src,base,disp,imm,cc⟩) (hT:Tabs W) (hm:mayX ⟨op,wd,dst,src,base,disp,imm,cc⟩=true) (hd:0 ≤ dst ∧ dst < 16) (hs:0 ≤ src ∧ src < 16) (hb:0 ≤ base ∧ base < 16):
    Calls Tryz.prog 103 #[.agg (xC ⟨op,wd,dst,src,base,disp,imm,cc⟩)] W fun e w'=>e=.returned (.int .i64 ((2:Int) ^ (base:Int).toNat)) ∧ Below W.heap.size W w':=by
  have MY:=Lib.hid (fun W (hT:Tabs W)=>show Calls Tryz.prog 102 #[.agg (xC ⟨op,wd,dst,src,base,disp,imm,cc⟩)] W fun e w'=>e=.returned (.bool true) ∧ Below W.heap.size W w' by have h:=may_n ⟨op,wd,dst,src,base,disp,imm,cc⟩ hX W hT;rw [hm] at h;exact h)
  have HT:=Lib.hid hT
  have HB:=Lib.hid (And.intro hd (And.intro hs hb))
  clear hm hX hT hd hs hb
  rcases ho with rfl
  all_goals
    go_enter Tryz.func103,Tryz.ntmps103
    go_wp2_with fail
    refine (MY.out _ (HT.out.below (below_new (Below.refl _ _) _) (Nat.le_refl _))).mono ?_
    rintro e w1 ⟨rfl,b1⟩
    have B1:=Lib.hid b1
    clear b1
    obtain ⟨c0_1,c1_1,c2_1,c3_1,c4_1,c5_1,c6_1,c7_1⟩:=xcells B1.out
    go_wp2_with fail
    refine (set_1 (base) (2 ^ (base:Int).toNat) w1.heap.size _ HB.out.2.2 (p2_wrap HB.out.2.2) (heap_last w1 _ _ rfl)).mono ?_
    rintro e y ⟨rfl,rfl⟩
    go_wp2_with fail
    go_ret
    exact ⟨retV (congrArg (Value.int .i64) (show (bits .or .i64 0 (2 ^ (base:Int).toNat))=(2:Int) ^ (base:Int).toNat from p2_or0 HB.out.2.2)),below_new (below_boxed B1.out) _⟩
theorem cr10 (op wd dst src base disp imm cc:Int) (ho:op=27) (W:World) (hX:XOk ⟨op,wd,dst,src,base,disp,imm,cc⟩) (hT:Tabs W) (hm:mayX ⟨op,wd,dst,src,base,disp,imm,cc⟩=true) (hd:0 ≤ dst ∧ dst < 16) (hs:0 ≤ src ∧ src < 16) (hb:0 ≤ base ∧ base < 16):
    Calls Tryz.prog 103 #[.agg (xC ⟨op,wd,dst,src,base,disp,imm,cc⟩)] W fun e w'=>e=.returned (.int .i64 (bits .or .i64 ((2:Int) ^ (base:Int).toNat) ((2:Int) ^ (src:Int).toNat))) ∧ Below W.heap.size W w':=by
  have MY:=Lib.hid (fun W (hT:Tabs W)=>show Calls Tryz.prog 102 #[.agg (xC ⟨op,wd,dst,src,base,disp,imm,cc⟩)] W fun e w'=>e=.returned (.bool true) ∧ Below W.heap.size W w' by have h:=may_n ⟨op,wd,dst,src,base,disp,imm,cc⟩ hX W hT;rw [hm] at h;exact h)
  have HT:=Lib.hid hT
  have HB:=Lib.hid (And.intro hd (And.intro hs hb))
  clear hm hX hT hd hs hb
  rcases ho with rfl
  all_goals
    go_enter Tryz.func103,Tryz.ntmps103
    go_wp2_with fail
    refine (MY.out _ (HT.out.below (below_new (Below.refl _ _) _) (Nat.le_refl _))).mono ?_
    rintro e w1 ⟨rfl,b1⟩
    have B1:=Lib.hid b1
    clear b1
    obtain ⟨c0_1,c1_1,c2_1,c3_1,c4_1,c5_1,c6_1,c7_1⟩:=xcells B1.out
    go_wp2_with fail
    refine (set_2 (base) (src) (2 ^ (base:Int).toNat) (2 ^ (src:Int).toNat) w1.heap.size _ HB.out.2.2 (p2_wrap HB.out.2.2) HB.out.2.1 (p2_wrap HB.out.2.1) (heap_last w1 _ _ rfl)).mono ?_
    rintro e y ⟨rfl,rfl⟩
    go_wp2_with fail
    go_ret
    exact ⟨retV (congrArg (Value.int .i64) (show (bits .or .i64 (bits .or .i64 0 (2 ^ (base:Int).toNat)) (2 ^ (src:Int).toNat))=bits .or .i64 ((2:Int) ^ (base:Int).toNat) ((2:Int) ^ (src:Int).toNat) from by rw [p2_or0 HB.out.2.2])),below_new (below_boxed B1.out) _⟩
theorem cr11 (op wd dst src base disp imm cc:Int) (ho:op=30) (W:World) (hX:XOk ⟨op,wd,dst,src,base,disp,imm,cc⟩) (hT:Tabs W) (hm:mayX ⟨op,wd,dst,src,base,disp,imm,cc⟩=true) (hd:0 ≤ dst ∧ dst < 16) (hs:0 ≤ src ∧ src < 16) (hb:0 ≤ base ∧ base < 16):
    Calls Tryz.prog 103 #[.agg (xC ⟨op,wd,dst,src,base,disp,imm,cc⟩)] W fun e w'=>e=.returned (.int .i64 (17)) ∧ Below W.heap.size W w':=by
  have MY:=Lib.hid (fun W (hT:Tabs W)=>show Calls Tryz.prog 102 #[.agg (xC ⟨op,wd,dst,src,base,disp,imm,cc⟩)] W fun e w'=>e=.returned (.bool true) ∧ Below W.heap.size W w' by have h:=may_n ⟨op,wd,dst,src,base,disp,imm,cc⟩ hX W hT;rw [hm] at h;exact h)
  have HT:=Lib.hid hT
  have HB:=Lib.hid (And.intro hd (And.intro hs hb))
  clear hm hX hT hd hs hb
  rcases ho with rfl
  all_goals
    go_enter Tryz.func103,Tryz.ntmps103
    go_wp2_with fail
    refine (MY.out _ (HT.out.below (below_new (Below.refl _ _) _) (Nat.le_refl _))).mono ?_
    rintro e w1 ⟨rfl,b1⟩
    have B1:=Lib.hid b1
    clear b1
    obtain ⟨c0_1,c1_1,c2_1,c3_1,c4_1,c5_1,c6_1,c7_1⟩:=xcells B1.out
    go_wp2_with fail
    refine (set_2 (4) (0) (16:Int) (1:Int) w1.heap.size _ (by decide) (by decide +kernel) (by decide) (by decide +kernel) (heap_last w1 _ _ rfl)).mono ?_
    rintro e y ⟨rfl,rfl⟩
    go_wp2_with fail
    go_ret
    exact ⟨retV (congrArg (Value.int .i64) (show (bits .or .i64 (bits .or .i64 0 (16:Int)) (1:Int))=17 from by decide +kernel)),below_new (below_boxed B1.out) _⟩
theorem cr12 (op wd dst src base disp imm cc:Int) (ho:op=31) (W:World) (hX:XOk ⟨op,wd,dst,src,base,disp,imm,cc⟩) (hT:Tabs W) (hm:mayX ⟨op,wd,dst,src,base,disp,imm,cc⟩=true) (hd:0 ≤ dst ∧ dst < 16) (hs:0 ≤ src ∧ src < 16) (hb:0 ≤ base ∧ base < 16):
    Calls Tryz.prog 103 #[.agg (xC ⟨op,wd,dst,src,base,disp,imm,cc⟩)] W fun e w'=>e=.returned (.int .i64 (1477)) ∧ Below W.heap.size W w':=by
  have MY:=Lib.hid (fun W (hT:Tabs W)=>show Calls Tryz.prog 102 #[.agg (xC ⟨op,wd,dst,src,base,disp,imm,cc⟩)] W fun e w'=>e=.returned (.bool true) ∧ Below W.heap.size W w' by have h:=may_n ⟨op,wd,dst,src,base,disp,imm,cc⟩ hX W hT;rw [hm] at h;exact h)
  have HT:=Lib.hid hT
  have HB:=Lib.hid (And.intro hd (And.intro hs hb))
  clear hm hX hT hd hs hb
  rcases ho with rfl
  all_goals
    go_enter Tryz.func103,Tryz.ntmps103
    go_wp2_with fail
    refine (MY.out _ (HT.out.below (below_new (Below.refl _ _) _) (Nat.le_refl _))).mono ?_
    rintro e w1 ⟨rfl,b1⟩
    have B1:=Lib.hid b1
    clear b1
    obtain ⟨c0_1,c1_1,c2_1,c3_1,c4_1,c5_1,c6_1,c7_1⟩:=xcells B1.out
    go_wp2_with fail
    refine (set_6 (0) (7) (6) (2) (10) (8) (1:Int) (128:Int) (64:Int) (4:Int) (1024:Int) (256:Int) w1.heap.size _ (by decide) (by decide +kernel) (by decide) (by decide +kernel) (by decide) (by decide +kernel) (by decide) (by decide +kernel) (by decide) (by decide +kernel) (by decide) (by decide +kernel) (heap_last w1 _ _ rfl)).mono ?_
    rintro e y ⟨rfl,rfl⟩
    go_wp2_with fail
    go_ret
    exact ⟨retV (congrArg (Value.int .i64) (show (bits .or .i64 (bits .or .i64 (bits .or .i64 (bits .or .i64 (bits .or .i64 (bits .or .i64 0 (1:Int)) (128:Int)) (64:Int)) (4:Int)) (1024:Int)) (256:Int))=1477 from by decide +kernel)),below_new (below_boxed B1.out) _⟩
theorem cw0 (op wd dst src base disp imm cc:Int) (ho:op=0 ∨ op=1 ∨ op=2 ∨ op=3 ∨ op=4 ∨ op=5 ∨ op=6 ∨ op=9 ∨ op=10 ∨ op=11 ∨ op=12 ∨ op=13 ∨ op=16 ∨ op=17 ∨ op=18 ∨ op=19 ∨ op=20 ∨ op=21 ∨ op=22 ∨ op=23 ∨ op=25 ∨ op=26) (W:World) (hX:XOk ⟨op,wd,dst,src,base,disp,imm,cc⟩) (hT:Tabs W) (hm:mayX ⟨op,wd,dst,src,base,disp,imm,cc⟩=true) (hd:0 ≤ dst ∧ dst < 16) (hs:0 ≤ src ∧ src < 16) (hb:0 ≤ base ∧ base < 16):
    Calls Tryz.prog 104 #[.agg (xC ⟨op,wd,dst,src,base,disp,imm,cc⟩)] W fun e w'=>e=.returned (.int .i64 ((2:Int) ^ (dst:Int).toNat)) ∧ Below W.heap.size W w':=by
  have MY:=Lib.hid (fun W (hT:Tabs W)=>show Calls Tryz.prog 102 #[.agg (xC ⟨op,wd,dst,src,base,disp,imm,cc⟩)] W fun e w'=>e=.returned (.bool true) ∧ Below W.heap.size W w' by have h:=may_n ⟨op,wd,dst,src,base,disp,imm,cc⟩ hX W hT;rw [hm] at h;exact h)
  have HT:=Lib.hid hT
  have HB:=Lib.hid (And.intro hd (And.intro hs hb))
  clear hm hX hT hd hs hb
  rcases ho with rfl | rfl | rfl | rfl | rfl | rfl | rfl | rfl | rfl | rfl | rfl | rfl | rfl | rfl | rfl | rfl | rfl | rfl | rfl | rfl | rfl | rfl
  all_goals
    go_enter Tryz.func104,Tryz.ntmps104
    go_wp2_with fail
    refine (MY.out _ (HT.out.below (below_new (Below.refl _ _) _) (Nat.le_refl _))).mono ?_
    rintro e w1 ⟨rfl,b1⟩
    have B1:=Lib.hid b1
    clear b1
    obtain ⟨c0_1,c1_1,c2_1,c3_1,c4_1,c5_1,c6_1,c7_1⟩:=xcells B1.out
    go_wp2_with fail
    refine (set_1 (dst) (2 ^ (dst:Int).toNat) w1.heap.size _ HB.out.1 (p2_wrap HB.out.1) (heap_last w1 _ _ rfl)).mono ?_
    rintro e y ⟨rfl,rfl⟩
    go_wp2_with fail
    go_ret
    exact ⟨retV (congrArg (Value.int .i64) (show (bits .or .i64 0 (2 ^ (dst:Int).toNat))=(2:Int) ^ (dst:Int).toNat from p2_or0 HB.out.1)),below_new (below_boxed B1.out) _⟩
theorem cw1 (op wd dst src base disp imm cc:Int) (ho:op=7 ∨ op=8 ∨ op=14 ∨ op=15 ∨ op=27 ∨ op=28 ∨ op=29) (W:World) (hX:XOk ⟨op,wd,dst,src,base,disp,imm,cc⟩) (hT:Tabs W) (hm:mayX ⟨op,wd,dst,src,base,disp,imm,cc⟩=true) (hd:0 ≤ dst ∧ dst < 16) (hs:0 ≤ src ∧ src < 16) (hb:0 ≤ base ∧ base < 16):
    Calls Tryz.prog 104 #[.agg (xC ⟨op,wd,dst,src,base,disp,imm,cc⟩)] W fun e w'=>e=.returned (.int .i64 (0)) ∧ Below W.heap.size W w':=by
  have MY:=Lib.hid (fun W (hT:Tabs W)=>show Calls Tryz.prog 102 #[.agg (xC ⟨op,wd,dst,src,base,disp,imm,cc⟩)] W fun e w'=>e=.returned (.bool true) ∧ Below W.heap.size W w' by have h:=may_n ⟨op,wd,dst,src,base,disp,imm,cc⟩ hX W hT;rw [hm] at h;exact h)
  have HT:=Lib.hid hT
  have HB:=Lib.hid (And.intro hd (And.intro hs hb))
  clear hm hX hT hd hs hb
  rcases ho with rfl | rfl | rfl | rfl | rfl | rfl | rfl
  all_goals
    go_enter Tryz.func104,Tryz.ntmps104
    go_wp2_with fail
    refine (MY.out _ (HT.out.below (below_new (Below.refl _ _) _) (Nat.le_refl _))).mono ?_
    rintro e w1 ⟨rfl,b1⟩
    have B1:=Lib.hid b1
    clear b1
    obtain ⟨c0_1,c1_1,c2_1,c3_1,c4_1,c5_1,c6_1,c7_1⟩:=xcells B1.out
    go_wp2_with fail
    go_ret
    exact ⟨rfl,below_boxed B1.out⟩
theorem cw2 (op wd dst src base disp imm cc:Int) (ho:op=24) (W:World) (hX:XOk ⟨op,wd,dst,src,base,disp,imm,cc⟩) (hT:Tabs W) (hm:mayX ⟨op,wd,dst,src,base,disp,imm,cc⟩=true) (hd:0 ≤ dst ∧ dst < 16) (hs:0 ≤ src ∧ src < 16) (hb:0 ≤ base ∧ base < 16):
    Calls Tryz.prog 104 #[.agg (xC ⟨op,wd,dst,src,base,disp,imm,cc⟩)] W fun e w'=>e=.returned (.int .i64 (5)) ∧ Below W.heap.size W w':=by
  have MY:=Lib.hid (fun W (hT:Tabs W)=>show Calls Tryz.prog 102 #[.agg (xC ⟨op,wd,dst,src,base,disp,imm,cc⟩)] W fun e w'=>e=.returned (.bool true) ∧ Below W.heap.size W w' by have h:=may_n ⟨op,wd,dst,src,base,disp,imm,cc⟩ hX W hT;rw [hm] at h;exact h)
  have HT:=Lib.hid hT
  have HB:=Lib.hid (And.intro hd (And.intro hs hb))
  clear hm hX hT hd hs hb
  rcases ho with rfl
  all_goals
    go_enter Tryz.func104,Tryz.ntmps104
    go_wp2_with fail
    refine (MY.out _ (HT.out.below (below_new (Below.refl _ _) _) (Nat.le_refl _))).mono ?_
    rintro e w1 ⟨rfl,b1⟩
    have B1:=Lib.hid b1
    clear b1
    obtain ⟨c0_1,c1_1,c2_1,c3_1,c4_1,c5_1,c6_1,c7_1⟩:=xcells B1.out
    go_wp2_with fail
    refine (set_2 (0) (2) (1:Int) (4:Int) w1.heap.size _ (by decide) (by decide +kernel) (by decide) (by decide +kernel) (heap_last w1 _ _ rfl)).mono ?_
    rintro e y ⟨rfl,rfl⟩
    go_wp2_with fail
    go_ret
    exact ⟨retV (congrArg (Value.int .i64) (show (bits .or .i64 (bits .or .i64 0 (1:Int)) (4:Int))=5 from by decide +kernel)),below_new (below_boxed B1.out) _⟩
theorem cw3 (op wd dst src base disp imm cc:Int) (ho:op=30) (W:World) (hX:XOk ⟨op,wd,dst,src,base,disp,imm,cc⟩) (hT:Tabs W) (hm:mayX ⟨op,wd,dst,src,base,disp,imm,cc⟩=true) (hd:0 ≤ dst ∧ dst < 16) (hs:0 ≤ src ∧ src < 16) (hb:0 ≤ base ∧ base < 16):
    Calls Tryz.prog 104 #[.agg (xC ⟨op,wd,dst,src,base,disp,imm,cc⟩)] W fun e w'=>e=.returned (.int .i64 (16)) ∧ Below W.heap.size W w':=by
  have MY:=Lib.hid (fun W (hT:Tabs W)=>show Calls Tryz.prog 102 #[.agg (xC ⟨op,wd,dst,src,base,disp,imm,cc⟩)] W fun e w'=>e=.returned (.bool true) ∧ Below W.heap.size W w' by have h:=may_n ⟨op,wd,dst,src,base,disp,imm,cc⟩ hX W hT;rw [hm] at h;exact h)
  have HT:=Lib.hid hT
  have HB:=Lib.hid (And.intro hd (And.intro hs hb))
  clear hm hX hT hd hs hb
  rcases ho with rfl
  all_goals
    go_enter Tryz.func104,Tryz.ntmps104
    go_wp2_with fail
    refine (MY.out _ (HT.out.below (below_new (Below.refl _ _) _) (Nat.le_refl _))).mono ?_
    rintro e w1 ⟨rfl,b1⟩
    have B1:=Lib.hid b1
    clear b1
    obtain ⟨c0_1,c1_1,c2_1,c3_1,c4_1,c5_1,c6_1,c7_1⟩:=xcells B1.out
    go_wp2_with fail
    refine (set_1 (4) (16:Int) w1.heap.size _ (by decide) (by decide +kernel) (heap_last w1 _ _ rfl)).mono ?_
    rintro e y ⟨rfl,rfl⟩
    go_wp2_with fail
    go_ret
    exact ⟨retV (congrArg (Value.int .i64) (show (bits .or .i64 0 (16:Int))=16 from by decide +kernel)),below_new (below_boxed B1.out) _⟩
theorem cw4 (op wd dst src base disp imm cc:Int) (ho:op=31) (W:World) (hX:XOk ⟨op,wd,dst,src,base,disp,imm,cc⟩) (hT:Tabs W) (hm:mayX ⟨op,wd,dst,src,base,disp,imm,cc⟩=true) (hd:0 ≤ dst ∧ dst < 16) (hs:0 ≤ src ∧ src < 16) (hb:0 ≤ base ∧ base < 16):
    Calls Tryz.prog 104 #[.agg (xC ⟨op,wd,dst,src,base,disp,imm,cc⟩)] W fun e w'=>e=.returned (.int .i64 (2051)) ∧ Below W.heap.size W w':=by
  have MY:=Lib.hid (fun W (hT:Tabs W)=>show Calls Tryz.prog 102 #[.agg (xC ⟨op,wd,dst,src,base,disp,imm,cc⟩)] W fun e w'=>e=.returned (.bool true) ∧ Below W.heap.size W w' by have h:=may_n ⟨op,wd,dst,src,base,disp,imm,cc⟩ hX W hT;rw [hm] at h;exact h)
  have HT:=Lib.hid hT
  have HB:=Lib.hid (And.intro hd (And.intro hs hb))
  clear hm hX hT hd hs hb
  rcases ho with rfl
  all_goals
    go_enter Tryz.func104,Tryz.ntmps104
    go_wp2_with fail
    refine (MY.out _ (HT.out.below (below_new (Below.refl _ _) _) (Nat.le_refl _))).mono ?_
    rintro e w1 ⟨rfl,b1⟩
    have B1:=Lib.hid b1
    clear b1
    obtain ⟨c0_1,c1_1,c2_1,c3_1,c4_1,c5_1,c6_1,c7_1⟩:=xcells B1.out
    go_wp2_with fail
    refine (set_3 (0) (1) (11) (1:Int) (2:Int) (2048:Int) w1.heap.size _ (by decide) (by decide +kernel) (by decide) (by decide +kernel) (by decide) (by decide +kernel) (heap_last w1 _ _ rfl)).mono ?_
    rintro e y ⟨rfl,rfl⟩
    go_wp2_with fail
    go_ret
    exact ⟨retV (congrArg (Value.int .i64) (show (bits .or .i64 (bits .or .i64 (bits .or .i64 0 (1:Int)) (2:Int)) (2048:Int))=2051 from by decide +kernel)),below_new (below_boxed B1.out) _⟩
theorem creads_no (x:Xi) (hX:XOk x) (W:World) (hT:Tabs W) (h:mayX x=false):Calls Tryz.prog 103 #[.agg (xC x)] W fun e w'=>e=.returned (.int .i64 0) ∧ Below W.heap.size W w':=by
  have MY:=Lib.hid (fun W (hT:Tabs W)=>show Calls Tryz.prog 102 #[.agg (xC x)] W fun e w'=>e=.returned (.bool false) ∧ Below W.heap.size W w' by have q:=may_n x hX W hT;rw [h] at q;exact q)
  have HT:=Lib.hid hT
  clear h hX hT
  go_enter Tryz.func103,Tryz.ntmps103
  go_wp2_with fail
  refine (MY.out _ (HT.out.below (below_new (Below.refl _ _) _) (Nat.le_refl _))).mono ?_
  rintro e w1 ⟨rfl,b1⟩
  have B1:=Lib.hid b1
  clear b1
  go_wp2_with fail
  go_ret
  exact ⟨rfl,below_boxed B1.out⟩
theorem creads_n (x:Xi) (hX:XOk x) (W:World) (hT:Tabs W):Calls Tryz.prog 103 #[.agg (xC x)] W fun e w'=>e=.returned (.int .i64 (bif mayX x then readsX x else 0)) ∧ Below W.heap.size W w':=by
  cases h:mayX x
  · exact creads_no x hX W hT h
  · obtain ⟨ho,hd,hs,hb⟩:=may_parts h
    obtain ⟨op,wd,dst,src,base,disp,imm,cc⟩:=x
    simp only at ho hd hs hb
    obtain rfl | rfl | rfl | rfl | rfl | rfl | rfl | rfl | rfl | rfl | rfl | rfl | rfl | rfl | rfl | rfl | rfl | rfl | rfl | rfl | rfl | rfl | rfl | rfl | rfl | rfl | rfl | rfl | rfl | rfl | rfl | rfl:=lt32 ho
    · exact cr0 0 wd dst src base disp imm cc (by decide) W hX hT h hd hs hb
    · exact cr1 1 wd dst src base disp imm cc (by decide) W hX hT h hd hs hb
    · exact cr2 2 wd dst src base disp imm cc (by decide) W hX hT h hd hs hb
    · exact cr2 3 wd dst src base disp imm cc (by decide) W hX hT h hd hs hb
    · exact cr2 4 wd dst src base disp imm cc (by decide) W hX hT h hd hs hb
    · exact cr2 5 wd dst src base disp imm cc (by decide) W hX hT h hd hs hb
    · exact cr2 6 wd dst src base disp imm cc (by decide) W hX hT h hd hs hb
    · exact cr2 7 wd dst src base disp imm cc (by decide) W hX hT h hd hs hb
    · exact cr2 8 wd dst src base disp imm cc (by decide) W hX hT h hd hs hb
    · exact cr3 9 wd dst src base disp imm cc (by decide) W hX hT h hd hs hb
    · exact cr3 10 wd dst src base disp imm cc (by decide) W hX hT h hd hs hb
    · exact cr3 11 wd dst src base disp imm cc (by decide) W hX hT h hd hs hb
    · exact cr3 12 wd dst src base disp imm cc (by decide) W hX hT h hd hs hb
    · exact cr3 13 wd dst src base disp imm cc (by decide) W hX hT h hd hs hb
    · exact cr3 14 wd dst src base disp imm cc (by decide) W hX hT h hd hs hb
    · exact cr3 15 wd dst src base disp imm cc (by decide) W hX hT h hd hs hb
    · exact cr4 16 wd dst src base disp imm cc (by decide) W hX hT h hd hs hb
    · exact cr5 17 wd dst src base disp imm cc (by decide) W hX hT h hd hs hb
    · exact cr5 18 wd dst src base disp imm cc (by decide) W hX hT h hd hs hb
    · exact cr5 19 wd dst src base disp imm cc (by decide) W hX hT h hd hs hb
    · exact cr6 20 wd dst src base disp imm cc (by decide) W hX hT h hd hs hb
    · exact cr6 21 wd dst src base disp imm cc (by decide) W hX hT h hd hs hb
    · exact cr6 22 wd dst src base disp imm cc (by decide) W hX hT h hd hs hb
    · exact cr7 23 wd dst src base disp imm cc (by decide) W hX hT h hd hs hb
    · exact cr8 24 wd dst src base disp imm cc (by decide) W hX hT h hd hs hb
    · exact cr4 25 wd dst src base disp imm cc (by decide) W hX hT h hd hs hb
    · exact cr9 26 wd dst src base disp imm cc (by decide) W hX hT h hd hs hb
    · exact cr10 27 wd dst src base disp imm cc (by decide) W hX hT h hd hs hb
    · exact cr1 28 wd dst src base disp imm cc (by decide) W hX hT h hd hs hb
    · exact cr1 29 wd dst src base disp imm cc (by decide) W hX hT h hd hs hb
    · exact cr11 30 wd dst src base disp imm cc (by decide) W hX hT h hd hs hb
    · exact cr12 31 wd dst src base disp imm cc (by decide) W hX hT h hd hs hb
theorem cwrites_no (x:Xi) (hX:XOk x) (W:World) (hT:Tabs W) (h:mayX x=false):Calls Tryz.prog 104 #[.agg (xC x)] W fun e w'=>e=.returned (.int .i64 0) ∧ Below W.heap.size W w':=by
  have MY:=Lib.hid (fun W (hT:Tabs W)=>show Calls Tryz.prog 102 #[.agg (xC x)] W fun e w'=>e=.returned (.bool false) ∧ Below W.heap.size W w' by have q:=may_n x hX W hT;rw [h] at q;exact q)
  have HT:=Lib.hid hT
  clear h hX hT
  go_enter Tryz.func104,Tryz.ntmps104
  go_wp2_with fail
  refine (MY.out _ (HT.out.below (below_new (Below.refl _ _) _) (Nat.le_refl _))).mono ?_
  rintro e w1 ⟨rfl,b1⟩
  have B1:=Lib.hid b1
  clear b1
  go_wp2_with fail
  go_ret
  exact ⟨rfl,below_boxed B1.out⟩
theorem cwrites_n (x:Xi) (hX:XOk x) (W:World) (hT:Tabs W):Calls Tryz.prog 104 #[.agg (xC x)] W fun e w'=>e=.returned (.int .i64 (bif mayX x then writesX x else 0)) ∧ Below W.heap.size W w':=by
  cases h:mayX x
  · exact cwrites_no x hX W hT h
  · obtain ⟨ho,hd,hs,hb⟩:=may_parts h
    obtain ⟨op,wd,dst,src,base,disp,imm,cc⟩:=x
    simp only at ho hd hs hb
    obtain rfl | rfl | rfl | rfl | rfl | rfl | rfl | rfl | rfl | rfl | rfl | rfl | rfl | rfl | rfl | rfl | rfl | rfl | rfl | rfl | rfl | rfl | rfl | rfl | rfl | rfl | rfl | rfl | rfl | rfl | rfl | rfl:=lt32 ho
    · exact cw0 0 wd dst src base disp imm cc (by decide) W hX hT h hd hs hb
    · exact cw0 1 wd dst src base disp imm cc (by decide) W hX hT h hd hs hb
    · exact cw0 2 wd dst src base disp imm cc (by decide) W hX hT h hd hs hb
    · exact cw0 3 wd dst src base disp imm cc (by decide) W hX hT h hd hs hb
    · exact cw0 4 wd dst src base disp imm cc (by decide) W hX hT h hd hs hb
    · exact cw0 5 wd dst src base disp imm cc (by decide) W hX hT h hd hs hb
    · exact cw0 6 wd dst src base disp imm cc (by decide) W hX hT h hd hs hb
    · exact cw1 7 wd dst src base disp imm cc (by decide) W hX hT h hd hs hb
    · exact cw1 8 wd dst src base disp imm cc (by decide) W hX hT h hd hs hb
    · exact cw0 9 wd dst src base disp imm cc (by decide) W hX hT h hd hs hb
    · exact cw0 10 wd dst src base disp imm cc (by decide) W hX hT h hd hs hb
    · exact cw0 11 wd dst src base disp imm cc (by decide) W hX hT h hd hs hb
    · exact cw0 12 wd dst src base disp imm cc (by decide) W hX hT h hd hs hb
    · exact cw0 13 wd dst src base disp imm cc (by decide) W hX hT h hd hs hb
    · exact cw1 14 wd dst src base disp imm cc (by decide) W hX hT h hd hs hb
    · exact cw1 15 wd dst src base disp imm cc (by decide) W hX hT h hd hs hb
    · exact cw0 16 wd dst src base disp imm cc (by decide) W hX hT h hd hs hb
    · exact cw0 17 wd dst src base disp imm cc (by decide) W hX hT h hd hs hb
    · exact cw0 18 wd dst src base disp imm cc (by decide) W hX hT h hd hs hb
    · exact cw0 19 wd dst src base disp imm cc (by decide) W hX hT h hd hs hb
    · exact cw0 20 wd dst src base disp imm cc (by decide) W hX hT h hd hs hb
    · exact cw0 21 wd dst src base disp imm cc (by decide) W hX hT h hd hs hb
    · exact cw0 22 wd dst src base disp imm cc (by decide) W hX hT h hd hs hb
    · exact cw0 23 wd dst src base disp imm cc (by decide) W hX hT h hd hs hb
    · exact cw2 24 wd dst src base disp imm cc (by decide) W hX hT h hd hs hb
    · exact cw0 25 wd dst src base disp imm cc (by decide) W hX hT h hd hs hb
    · exact cw0 26 wd dst src base disp imm cc (by decide) W hX hT h hd hs hb
    · exact cw1 27 wd dst src base disp imm cc (by decide) W hX hT h hd hs hb
    · exact cw1 28 wd dst src base disp imm cc (by decide) W hX hT h hd hs hb
    · exact cw1 29 wd dst src base disp imm cc (by decide) W hX hT h hd hs hb
    · exact cw3 30 wd dst src base disp imm cc (by decide) W hX hT h hd hs hb
    · exact cw4 31 wd dst src base disp imm cc (by decide) W hX hT h hd hs hb
end Go.Proofs.YtbpehbeakhocnaaGreatDoor.Mrm
