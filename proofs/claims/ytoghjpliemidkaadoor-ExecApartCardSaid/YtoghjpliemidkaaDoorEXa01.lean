import Derived.Test.YtoghjpliemidkaaDoorEXm03
import Derived.Test.YtoghjpliemidkaaDoorEXm32
set_option linter.unusedVariables false
set_option linter.unusedSimpArgs false
set_option linter.unnecessarySimpa false
namespace Go.Proofs.YtoghjpliemidkaaDoor.Mrm
open Go Go.RowKit
set_option linter.unusedVariables false
set_option linter.unnecessarySimpa false
set_option linter.unusedSimpArgs false
set_option maxRecDepth 100000
def readsX (x:Xi):Int:=
  if x.op=0 then (2:Int) ^ x.src.toNat else
  if x.op=24 then bits .or .i64 (bits .or .i64 ((2:Int) ^ x.dst.toNat) (1)) (4) else
  if x.op=26 then (2:Int) ^ x.base.toNat else
  if x.op=27 then bits .or .i64 ((2:Int) ^ x.base.toNat) ((2:Int) ^ x.src.toNat) else
  if x.op=30 then 17 else
  if x.op=31 then 1477 else
  if x.op=1 ∨ x.op=28 ∨ x.op=29 then 0 else
  if x.op=20 ∨ x.op=21 ∨ x.op=22 then bits .or .i64 ((2:Int) ^ x.dst.toNat) (2) else
  if x.op=2 ∨ x.op=3 ∨ x.op=4 ∨ x.op=5 ∨ x.op=6 ∨ x.op=7 ∨ x.op=8 ∨ x.op=16 ∨ x.op=25 then bits .or .i64 ((2:Int) ^ x.dst.toNat) ((2:Int) ^ x.src.toNat) else
  (2:Int) ^ x.dst.toNat
def writesX (x:Xi):Int:=
  if x.op=24 then 5 else
  if x.op=30 then 16 else
  if x.op=31 then 2051 else
  if x.op=7 ∨ x.op=8 ∨ x.op=14 ∨ x.op=15 ∨ x.op=27 ∨ x.op=28 ∨ x.op=29 then 0 else
  (2:Int) ^ x.dst.toNat
theorem may_parts {x:Xi} (h:mayX x=true):(0 ≤ x.op ∧ x.op < 32) ∧ (0 ≤ x.dst ∧ x.dst < 16) ∧ (0 ≤ x.src ∧ x.src < 16) ∧ (0 ≤ x.base ∧ x.base < 16):=by
  unfold mayX regB at h
  simp only [Bool.and_eq_true,bne_iff_ne,ne_eq,decide_eq_true_eq] at h
  obtain ⟨h0,h1,h2,h3,h4,h5,h6,h7⟩:=h
  refine ⟨?_,by omega,by omega,by omega⟩
  by_cases hh:0 ≤ x.op ∧ x.op < 32
  · exact hh
  · exact absurd (by unfold clsI;rw [if_neg hh]) h0
end Go.Proofs.YtoghjpliemidkaaDoor.Mrm
namespace Go.Proofs.YtoghjpliemidkaaDoor.Mrm
open Go Go.RowKit
set_option linter.unusedVariables false
set_option linter.unusedSimpArgs false
set_option linter.unnecessarySimpa false
set_option maxRecDepth 100000
theorem p2_wrap {d:Int} (h:0 ≤ d ∧ d < 16):wrap64 (2 ^ d.toNat)=2 ^ d.toNat:=by
  obtain ⟨h0,h1⟩:=h
  have:=(show ∀ k:Fin 16,wrap64 ((2:Int) ^ k.1)=(2:Int) ^ k.1 by decide +kernel) ⟨d.toNat,by omega⟩
  exact this
theorem p2_or0 {d:Int} (h:0 ≤ d ∧ d < 16):bits .or .i64 0 (2 ^ d.toNat)=2 ^ d.toNat:=by
  obtain ⟨h0,h1⟩:=h
  have:=(show ∀ k:Fin 16,bits .or .i64 0 ((2:Int) ^ k.1)=(2:Int) ^ k.1 by decide +kernel) ⟨d.toNat,by omega⟩
  exact this
theorem p2_div {d:Int} (h:0 ≤ d ∧ d < 16):bits .or .i64 (bits .or .i64 (bits .or .i64 0 1) 4) (2 ^ d.toNat)=bits .or .i64 (bits .or .i64 (2 ^ d.toNat) 1) 4:=by
  obtain ⟨h0,h1⟩:=h
  have:=(show ∀ k:Fin 16,bits .or .i64 (bits .or .i64 (bits .or .i64 0 1) 4) ((2:Int) ^ k.1)=bits .or .i64 (bits .or .i64 ((2:Int) ^ k.1) 1) 4 by decide +kernel) ⟨d.toNat,by omega⟩
  exact this
set_option maxHeartbeats 4000000 in
theorem set_1 (r0 q0:Int) (b:Nat) (W:World) (h0:0 ≤ r0 ∧ r0 < 16) (e0:wrap64 (2 ^ r0.toNat)=q0) (hr:W.heap[b]?=some (.cells #[.int .i8 r0] 24 (0,0))):
    Calls Tryd.prog 36 #[.slice (some ⟨b,0,none⟩) 1 1] W fun e w'=>e=.returned (.int .i64 (bits .or .i64 0 q0)) ∧ W=w':=by
  have HR:=Lib.hid hr
  clear hr
  have c0:W.cell? ⟨b,0,none⟩=some (.int .i8 r0):=by
    simp only [World.cell?,HR.out]
    rfl
  obtain ⟨h0a,h0b⟩:=h0
  go_enter Tryd.func36,Tryd.ntmps36
  go_wp2_with fail
  refine wp_loop_rounds 2 ?_
  rw [rounds_succ]
  go_wp2_with fail
  rw [rounds_succ]
  go_wp2_with fail
  go_ret
  exact ⟨rfl,rfl⟩
set_option maxHeartbeats 4000000 in
theorem set_2 (r0 r1 q0 q1:Int) (b:Nat) (W:World) (h0:0 ≤ r0 ∧ r0 < 16) (e0:wrap64 (2 ^ r0.toNat)=q0) (h1:0 ≤ r1 ∧ r1 < 16) (e1:wrap64 (2 ^ r1.toNat)=q1) (hr:W.heap[b]?=some (.cells #[.int .i8 r0,.int .i8 r1] 24 (0,0))):
    Calls Tryd.prog 36 #[.slice (some ⟨b,0,none⟩) 2 2] W fun e w'=>e=.returned (.int .i64 (bits .or .i64 (bits .or .i64 0 q0) q1)) ∧ W=w':=by
  have HR:=Lib.hid hr
  clear hr
  obtain ⟨c0,c1⟩:W.cell? ⟨b,0,none⟩=some (.int .i8 r0) ∧ W.cell? ⟨b,1,none⟩=some (.int .i8 r1):=by
    simp only [World.cell?,HR.out]
    exact ⟨rfl,rfl⟩
  obtain ⟨h0a,h0b⟩:=h0
  obtain ⟨h1a,h1b⟩:=h1
  go_enter Tryd.func36,Tryd.ntmps36
  go_wp2_with fail
  refine wp_loop_rounds 3 ?_
  rw [rounds_succ]
  go_wp2_with fail
  rw [rounds_succ]
  go_wp2_with fail
  rw [rounds_succ]
  go_wp2_with fail
  go_ret
  exact ⟨rfl,rfl⟩
set_option maxHeartbeats 4000000 in
theorem set_3 (r0 r1 r2 q0 q1 q2:Int) (b:Nat) (W:World) (h0:0 ≤ r0 ∧ r0 < 16) (e0:wrap64 (2 ^ r0.toNat)=q0) (h1:0 ≤ r1 ∧ r1 < 16) (e1:wrap64 (2 ^ r1.toNat)=q1) (h2:0 ≤ r2 ∧ r2 < 16) (e2:wrap64 (2 ^ r2.toNat)=q2) (hr:W.heap[b]?=some (.cells #[.int .i8 r0,.int .i8 r1,.int .i8 r2] 24 (0,0))):
    Calls Tryd.prog 36 #[.slice (some ⟨b,0,none⟩) 3 3] W fun e w'=>e=.returned (.int .i64 (bits .or .i64 (bits .or .i64 (bits .or .i64 0 q0) q1) q2)) ∧ W=w':=by
  have HR:=Lib.hid hr
  clear hr
  obtain ⟨c0,c1,c2⟩:W.cell? ⟨b,0,none⟩=some (.int .i8 r0) ∧ W.cell? ⟨b,1,none⟩=some (.int .i8 r1) ∧ W.cell? ⟨b,2,none⟩=some (.int .i8 r2):=by
    simp only [World.cell?,HR.out]
    exact ⟨rfl,rfl,rfl⟩
  obtain ⟨h0a,h0b⟩:=h0
  obtain ⟨h1a,h1b⟩:=h1
  obtain ⟨h2a,h2b⟩:=h2
  go_enter Tryd.func36,Tryd.ntmps36
  go_wp2_with fail
  refine wp_loop_rounds 4 ?_
  rw [rounds_succ]
  go_wp2_with fail
  rw [rounds_succ]
  go_wp2_with fail
  rw [rounds_succ]
  go_wp2_with fail
  rw [rounds_succ]
  go_wp2_with fail
  go_ret
  exact ⟨rfl,rfl⟩
set_option maxHeartbeats 4000000 in
theorem set_6 (r0 r1 r2 r3 r4 r5 q0 q1 q2 q3 q4 q5:Int) (b:Nat) (W:World) (h0:0 ≤ r0 ∧ r0 < 16) (e0:wrap64 (2 ^ r0.toNat)=q0) (h1:0 ≤ r1 ∧ r1 < 16) (e1:wrap64 (2 ^ r1.toNat)=q1) (h2:0 ≤ r2 ∧ r2 < 16) (e2:wrap64 (2 ^ r2.toNat)=q2) (h3:0 ≤ r3 ∧ r3 < 16) (e3:wrap64 (2 ^ r3.toNat)=q3) (h4:0 ≤ r4 ∧ r4 < 16) (e4:wrap64 (2 ^ r4.toNat)=q4) (h5:0 ≤ r5 ∧ r5 < 16) (e5:wrap64 (2 ^ r5.toNat)=q5) (hr:W.heap[b]?=some (.cells #[.int .i8 r0,.int .i8 r1,.int .i8 r2,.int .i8 r3,.int .i8 r4,.int .i8 r5] 24 (0,0))):
    Calls Tryd.prog 36 #[.slice (some ⟨b,0,none⟩) 6 6] W fun e w'=>e=.returned (.int .i64 (bits .or .i64 (bits .or .i64 (bits .or .i64 (bits .or .i64 (bits .or .i64 (bits .or .i64 0 q0) q1) q2) q3) q4) q5)) ∧ W=w':=by
  have HR:=Lib.hid hr
  clear hr
  obtain ⟨c0,c1,c2,c3,c4,c5⟩:W.cell? ⟨b,0,none⟩=some (.int .i8 r0) ∧ W.cell? ⟨b,1,none⟩=some (.int .i8 r1) ∧ W.cell? ⟨b,2,none⟩=some (.int .i8 r2) ∧ W.cell? ⟨b,3,none⟩=some (.int .i8 r3) ∧ W.cell? ⟨b,4,none⟩=some (.int .i8 r4) ∧ W.cell? ⟨b,5,none⟩=some (.int .i8 r5):=by
    simp only [World.cell?,HR.out]
    exact ⟨rfl,rfl,rfl,rfl,rfl,rfl⟩
  obtain ⟨h0a,h0b⟩:=h0
  obtain ⟨h1a,h1b⟩:=h1
  obtain ⟨h2a,h2b⟩:=h2
  obtain ⟨h3a,h3b⟩:=h3
  obtain ⟨h4a,h4b⟩:=h4
  obtain ⟨h5a,h5b⟩:=h5
  go_enter Tryd.func36,Tryd.ntmps36
  go_wp2_with fail
  refine wp_loop_rounds 7 ?_
  rw [rounds_succ]
  go_wp2_with fail
  rw [rounds_succ]
  go_wp2_with fail
  rw [rounds_succ]
  go_wp2_with fail
  rw [rounds_succ]
  go_wp2_with fail
  rw [rounds_succ]
  go_wp2_with fail
  rw [rounds_succ]
  go_wp2_with fail
  rw [rounds_succ]
  go_wp2_with fail
  go_ret
  exact ⟨rfl,rfl⟩
end Go.Proofs.YtoghjpliemidkaaDoor.Mrm
namespace Go.Proofs.YtoghjpliemidkaaDoor.Mrm
open Go Go.RowKit
set_option linter.unusedVariables false
set_option linter.unusedSimpArgs false
set_option linter.unnecessarySimpa false
set_option maxRecDepth 100000
set_option maxHeartbeats 4000000 in
theorem creads_0 (wd dst src base disp imm cc:Int) (W:World) (hX:XOk ⟨0,wd,dst,src,base,disp,imm,cc⟩) (hT:Tabs W) (hm:mayX ⟨0,wd,dst,src,base,disp,imm,cc⟩=true) (hd:0 ≤ dst ∧ dst < 16) (hs:0 ≤ src ∧ src < 16) (hb:0 ≤ base ∧ base < 16):
    Calls Tryd.prog 14 #[.agg #[.int .i8 0,.int .i8 wd,.int .i8 dst,.int .i8 src,.int .i8 base,.int .i64 disp,.int .i64 imm,.int .i8 cc]] W fun e w'=>e=.returned (.int .i64 ((2:Int) ^ (src:Int).toNat)) ∧ Below W.heap.size W w':=by
  have MY:=Lib.hid (fun W (hT:Tabs W)=>show Calls Tryd.prog 16 #[.agg #[.int .i8 0,.int .i8 wd,.int .i8 dst,.int .i8 src,.int .i8 base,.int .i64 disp,.int .i64 imm,.int .i8 cc]] W fun e w'=>e=.returned (.bool true) ∧ Below W.heap.size W w' by have h:=may_n ⟨0,wd,dst,src,base,disp,imm,cc⟩ hX W hT;rw [hm] at h;exact h)
  have HT:=Lib.hid hT
  have HB:=Lib.hid (And.intro hd (And.intro hs hb))
  clear hm hX hT hd hs hb
  go_enter Tryd.func14,Tryd.ntmps14
  go_wp2_with fail
  refine (MY.out _ (HT.out.below (below_new (Below.refl _ _) _) (Nat.le_refl _))).mono ?_
  rintro e w1 ⟨rfl,b1⟩
  have B1:=Lib.hid b1
  clear b1
  obtain ⟨c0_1,c1_1,c2_1,c3_1,c4_1,c5_1,c6_1,c7_1⟩:=xcells B1.out
  go_wp2_with fail
  refine (set_1 (src) (2 ^ (src:Int).toNat) w1.heap.size _ HB.out.2.1 (p2_wrap HB.out.2.1) (heap_last w1 _ _ rfl)).mono ?_
  rintro e y ⟨rfl,rfl⟩
  go_wp2_with fail
  go_ret
  exact ⟨retV (congrArg (Value.int .i64) (show (bits .or .i64 0 (2 ^ (src:Int).toNat))=(2:Int) ^ (src:Int).toNat from p2_or0 HB.out.2.1)),below_new (below_boxed B1.out) _⟩
set_option maxHeartbeats 4000000 in
theorem creads_1 (wd dst src base disp imm cc:Int) (W:World) (hX:XOk ⟨1,wd,dst,src,base,disp,imm,cc⟩) (hT:Tabs W) (hm:mayX ⟨1,wd,dst,src,base,disp,imm,cc⟩=true) (hd:0 ≤ dst ∧ dst < 16) (hs:0 ≤ src ∧ src < 16) (hb:0 ≤ base ∧ base < 16):
    Calls Tryd.prog 14 #[.agg #[.int .i8 1,.int .i8 wd,.int .i8 dst,.int .i8 src,.int .i8 base,.int .i64 disp,.int .i64 imm,.int .i8 cc]] W fun e w'=>e=.returned (.int .i64 (0)) ∧ Below W.heap.size W w':=by
  have MY:=Lib.hid (fun W (hT:Tabs W)=>show Calls Tryd.prog 16 #[.agg #[.int .i8 1,.int .i8 wd,.int .i8 dst,.int .i8 src,.int .i8 base,.int .i64 disp,.int .i64 imm,.int .i8 cc]] W fun e w'=>e=.returned (.bool true) ∧ Below W.heap.size W w' by have h:=may_n ⟨1,wd,dst,src,base,disp,imm,cc⟩ hX W hT;rw [hm] at h;exact h)
  have HT:=Lib.hid hT
  have HB:=Lib.hid (And.intro hd (And.intro hs hb))
  clear hm hX hT hd hs hb
  go_enter Tryd.func14,Tryd.ntmps14
  go_wp2_with fail
  refine (MY.out _ (HT.out.below (below_new (Below.refl _ _) _) (Nat.le_refl _))).mono ?_
  rintro e w1 ⟨rfl,b1⟩
  have B1:=Lib.hid b1
  clear b1
  obtain ⟨c0_1,c1_1,c2_1,c3_1,c4_1,c5_1,c6_1,c7_1⟩:=xcells B1.out
  go_wp2_with fail
  go_ret
  exact ⟨rfl,below_boxed B1.out⟩
set_option maxHeartbeats 4000000 in
theorem creads_2 (wd dst src base disp imm cc:Int) (W:World) (hX:XOk ⟨2,wd,dst,src,base,disp,imm,cc⟩) (hT:Tabs W) (hm:mayX ⟨2,wd,dst,src,base,disp,imm,cc⟩=true) (hd:0 ≤ dst ∧ dst < 16) (hs:0 ≤ src ∧ src < 16) (hb:0 ≤ base ∧ base < 16):
    Calls Tryd.prog 14 #[.agg #[.int .i8 2,.int .i8 wd,.int .i8 dst,.int .i8 src,.int .i8 base,.int .i64 disp,.int .i64 imm,.int .i8 cc]] W fun e w'=>e=.returned (.int .i64 (bits .or .i64 ((2:Int) ^ (dst:Int).toNat) ((2:Int) ^ (src:Int).toNat))) ∧ Below W.heap.size W w':=by
  have MY:=Lib.hid (fun W (hT:Tabs W)=>show Calls Tryd.prog 16 #[.agg #[.int .i8 2,.int .i8 wd,.int .i8 dst,.int .i8 src,.int .i8 base,.int .i64 disp,.int .i64 imm,.int .i8 cc]] W fun e w'=>e=.returned (.bool true) ∧ Below W.heap.size W w' by have h:=may_n ⟨2,wd,dst,src,base,disp,imm,cc⟩ hX W hT;rw [hm] at h;exact h)
  have HT:=Lib.hid hT
  have HB:=Lib.hid (And.intro hd (And.intro hs hb))
  clear hm hX hT hd hs hb
  go_enter Tryd.func14,Tryd.ntmps14
  go_wp2_with fail
  refine (MY.out _ (HT.out.below (below_new (Below.refl _ _) _) (Nat.le_refl _))).mono ?_
  rintro e w1 ⟨rfl,b1⟩
  have B1:=Lib.hid b1
  clear b1
  obtain ⟨c0_1,c1_1,c2_1,c3_1,c4_1,c5_1,c6_1,c7_1⟩:=xcells B1.out
  have k0:w1.cell? ⟨0,10,none⟩=some (.int .i8 1):=by
    obtain ⟨⟨T,fr,h⟩,_⟩:=HT.out.below (below_boxed B1.out) (Nat.le_refl _)
    simp only [World.cell?,h]
    rfl
  go_wp2_with fail
  refine (set_2 (dst) (src) (2 ^ (dst:Int).toNat) (2 ^ (src:Int).toNat) w1.heap.size _ HB.out.1 (p2_wrap HB.out.1) HB.out.2.1 (p2_wrap HB.out.2.1) (heap_last w1 _ _ rfl)).mono ?_
  rintro e y ⟨rfl,rfl⟩
  go_wp2_with fail
  go_ret
  exact ⟨retV (congrArg (Value.int .i64) (show (bits .or .i64 (bits .or .i64 0 (2 ^ (dst:Int).toNat)) (2 ^ (src:Int).toNat))=bits .or .i64 ((2:Int) ^ (dst:Int).toNat) ((2:Int) ^ (src:Int).toNat) from by rw [p2_or0 HB.out.1])),below_new (below_boxed B1.out) _⟩
set_option maxHeartbeats 4000000 in
theorem creads_3 (wd dst src base disp imm cc:Int) (W:World) (hX:XOk ⟨3,wd,dst,src,base,disp,imm,cc⟩) (hT:Tabs W) (hm:mayX ⟨3,wd,dst,src,base,disp,imm,cc⟩=true) (hd:0 ≤ dst ∧ dst < 16) (hs:0 ≤ src ∧ src < 16) (hb:0 ≤ base ∧ base < 16):
    Calls Tryd.prog 14 #[.agg #[.int .i8 3,.int .i8 wd,.int .i8 dst,.int .i8 src,.int .i8 base,.int .i64 disp,.int .i64 imm,.int .i8 cc]] W fun e w'=>e=.returned (.int .i64 (bits .or .i64 ((2:Int) ^ (dst:Int).toNat) ((2:Int) ^ (src:Int).toNat))) ∧ Below W.heap.size W w':=by
  have MY:=Lib.hid (fun W (hT:Tabs W)=>show Calls Tryd.prog 16 #[.agg #[.int .i8 3,.int .i8 wd,.int .i8 dst,.int .i8 src,.int .i8 base,.int .i64 disp,.int .i64 imm,.int .i8 cc]] W fun e w'=>e=.returned (.bool true) ∧ Below W.heap.size W w' by have h:=may_n ⟨3,wd,dst,src,base,disp,imm,cc⟩ hX W hT;rw [hm] at h;exact h)
  have HT:=Lib.hid hT
  have HB:=Lib.hid (And.intro hd (And.intro hs hb))
  clear hm hX hT hd hs hb
  go_enter Tryd.func14,Tryd.ntmps14
  go_wp2_with fail
  refine (MY.out _ (HT.out.below (below_new (Below.refl _ _) _) (Nat.le_refl _))).mono ?_
  rintro e w1 ⟨rfl,b1⟩
  have B1:=Lib.hid b1
  clear b1
  obtain ⟨c0_1,c1_1,c2_1,c3_1,c4_1,c5_1,c6_1,c7_1⟩:=xcells B1.out
  have k0:w1.cell? ⟨0,15,none⟩=some (.int .i8 1):=by
    obtain ⟨⟨T,fr,h⟩,_⟩:=HT.out.below (below_boxed B1.out) (Nat.le_refl _)
    simp only [World.cell?,h]
    rfl
  go_wp2_with fail
  refine (set_2 (dst) (src) (2 ^ (dst:Int).toNat) (2 ^ (src:Int).toNat) w1.heap.size _ HB.out.1 (p2_wrap HB.out.1) HB.out.2.1 (p2_wrap HB.out.2.1) (heap_last w1 _ _ rfl)).mono ?_
  rintro e y ⟨rfl,rfl⟩
  go_wp2_with fail
  go_ret
  exact ⟨retV (congrArg (Value.int .i64) (show (bits .or .i64 (bits .or .i64 0 (2 ^ (dst:Int).toNat)) (2 ^ (src:Int).toNat))=bits .or .i64 ((2:Int) ^ (dst:Int).toNat) ((2:Int) ^ (src:Int).toNat) from by rw [p2_or0 HB.out.1])),below_new (below_boxed B1.out) _⟩
set_option maxHeartbeats 4000000 in
theorem creads_4 (wd dst src base disp imm cc:Int) (W:World) (hX:XOk ⟨4,wd,dst,src,base,disp,imm,cc⟩) (hT:Tabs W) (hm:mayX ⟨4,wd,dst,src,base,disp,imm,cc⟩=true) (hd:0 ≤ dst ∧ dst < 16) (hs:0 ≤ src ∧ src < 16) (hb:0 ≤ base ∧ base < 16):
    Calls Tryd.prog 14 #[.agg #[.int .i8 4,.int .i8 wd,.int .i8 dst,.int .i8 src,.int .i8 base,.int .i64 disp,.int .i64 imm,.int .i8 cc]] W fun e w'=>e=.returned (.int .i64 (bits .or .i64 ((2:Int) ^ (dst:Int).toNat) ((2:Int) ^ (src:Int).toNat))) ∧ Below W.heap.size W w':=by
  have MY:=Lib.hid (fun W (hT:Tabs W)=>show Calls Tryd.prog 16 #[.agg #[.int .i8 4,.int .i8 wd,.int .i8 dst,.int .i8 src,.int .i8 base,.int .i64 disp,.int .i64 imm,.int .i8 cc]] W fun e w'=>e=.returned (.bool true) ∧ Below W.heap.size W w' by have h:=may_n ⟨4,wd,dst,src,base,disp,imm,cc⟩ hX W hT;rw [hm] at h;exact h)
  have HT:=Lib.hid hT
  have HB:=Lib.hid (And.intro hd (And.intro hs hb))
  clear hm hX hT hd hs hb
  go_enter Tryd.func14,Tryd.ntmps14
  go_wp2_with fail
  refine (MY.out _ (HT.out.below (below_new (Below.refl _ _) _) (Nat.le_refl _))).mono ?_
  rintro e w1 ⟨rfl,b1⟩
  have B1:=Lib.hid b1
  clear b1
  obtain ⟨c0_1,c1_1,c2_1,c3_1,c4_1,c5_1,c6_1,c7_1⟩:=xcells B1.out
  have k0:w1.cell? ⟨0,20,none⟩=some (.int .i8 1):=by
    obtain ⟨⟨T,fr,h⟩,_⟩:=HT.out.below (below_boxed B1.out) (Nat.le_refl _)
    simp only [World.cell?,h]
    rfl
  go_wp2_with fail
  refine (set_2 (dst) (src) (2 ^ (dst:Int).toNat) (2 ^ (src:Int).toNat) w1.heap.size _ HB.out.1 (p2_wrap HB.out.1) HB.out.2.1 (p2_wrap HB.out.2.1) (heap_last w1 _ _ rfl)).mono ?_
  rintro e y ⟨rfl,rfl⟩
  go_wp2_with fail
  go_ret
  exact ⟨retV (congrArg (Value.int .i64) (show (bits .or .i64 (bits .or .i64 0 (2 ^ (dst:Int).toNat)) (2 ^ (src:Int).toNat))=bits .or .i64 ((2:Int) ^ (dst:Int).toNat) ((2:Int) ^ (src:Int).toNat) from by rw [p2_or0 HB.out.1])),below_new (below_boxed B1.out) _⟩
set_option maxHeartbeats 4000000 in
theorem creads_5 (wd dst src base disp imm cc:Int) (W:World) (hX:XOk ⟨5,wd,dst,src,base,disp,imm,cc⟩) (hT:Tabs W) (hm:mayX ⟨5,wd,dst,src,base,disp,imm,cc⟩=true) (hd:0 ≤ dst ∧ dst < 16) (hs:0 ≤ src ∧ src < 16) (hb:0 ≤ base ∧ base < 16):
    Calls Tryd.prog 14 #[.agg #[.int .i8 5,.int .i8 wd,.int .i8 dst,.int .i8 src,.int .i8 base,.int .i64 disp,.int .i64 imm,.int .i8 cc]] W fun e w'=>e=.returned (.int .i64 (bits .or .i64 ((2:Int) ^ (dst:Int).toNat) ((2:Int) ^ (src:Int).toNat))) ∧ Below W.heap.size W w':=by
  have MY:=Lib.hid (fun W (hT:Tabs W)=>show Calls Tryd.prog 16 #[.agg #[.int .i8 5,.int .i8 wd,.int .i8 dst,.int .i8 src,.int .i8 base,.int .i64 disp,.int .i64 imm,.int .i8 cc]] W fun e w'=>e=.returned (.bool true) ∧ Below W.heap.size W w' by have h:=may_n ⟨5,wd,dst,src,base,disp,imm,cc⟩ hX W hT;rw [hm] at h;exact h)
  have HT:=Lib.hid hT
  have HB:=Lib.hid (And.intro hd (And.intro hs hb))
  clear hm hX hT hd hs hb
  go_enter Tryd.func14,Tryd.ntmps14
  go_wp2_with fail
  refine (MY.out _ (HT.out.below (below_new (Below.refl _ _) _) (Nat.le_refl _))).mono ?_
  rintro e w1 ⟨rfl,b1⟩
  have B1:=Lib.hid b1
  clear b1
  obtain ⟨c0_1,c1_1,c2_1,c3_1,c4_1,c5_1,c6_1,c7_1⟩:=xcells B1.out
  have k0:w1.cell? ⟨0,25,none⟩=some (.int .i8 1):=by
    obtain ⟨⟨T,fr,h⟩,_⟩:=HT.out.below (below_boxed B1.out) (Nat.le_refl _)
    simp only [World.cell?,h]
    rfl
  go_wp2_with fail
  refine (set_2 (dst) (src) (2 ^ (dst:Int).toNat) (2 ^ (src:Int).toNat) w1.heap.size _ HB.out.1 (p2_wrap HB.out.1) HB.out.2.1 (p2_wrap HB.out.2.1) (heap_last w1 _ _ rfl)).mono ?_
  rintro e y ⟨rfl,rfl⟩
  go_wp2_with fail
  go_ret
  exact ⟨retV (congrArg (Value.int .i64) (show (bits .or .i64 (bits .or .i64 0 (2 ^ (dst:Int).toNat)) (2 ^ (src:Int).toNat))=bits .or .i64 ((2:Int) ^ (dst:Int).toNat) ((2:Int) ^ (src:Int).toNat) from by rw [p2_or0 HB.out.1])),below_new (below_boxed B1.out) _⟩
set_option maxHeartbeats 4000000 in
theorem creads_6 (wd dst src base disp imm cc:Int) (W:World) (hX:XOk ⟨6,wd,dst,src,base,disp,imm,cc⟩) (hT:Tabs W) (hm:mayX ⟨6,wd,dst,src,base,disp,imm,cc⟩=true) (hd:0 ≤ dst ∧ dst < 16) (hs:0 ≤ src ∧ src < 16) (hb:0 ≤ base ∧ base < 16):
    Calls Tryd.prog 14 #[.agg #[.int .i8 6,.int .i8 wd,.int .i8 dst,.int .i8 src,.int .i8 base,.int .i64 disp,.int .i64 imm,.int .i8 cc]] W fun e w'=>e=.returned (.int .i64 (bits .or .i64 ((2:Int) ^ (dst:Int).toNat) ((2:Int) ^ (src:Int).toNat))) ∧ Below W.heap.size W w':=by
  have MY:=Lib.hid (fun W (hT:Tabs W)=>show Calls Tryd.prog 16 #[.agg #[.int .i8 6,.int .i8 wd,.int .i8 dst,.int .i8 src,.int .i8 base,.int .i64 disp,.int .i64 imm,.int .i8 cc]] W fun e w'=>e=.returned (.bool true) ∧ Below W.heap.size W w' by have h:=may_n ⟨6,wd,dst,src,base,disp,imm,cc⟩ hX W hT;rw [hm] at h;exact h)
  have HT:=Lib.hid hT
  have HB:=Lib.hid (And.intro hd (And.intro hs hb))
  clear hm hX hT hd hs hb
  go_enter Tryd.func14,Tryd.ntmps14
  go_wp2_with fail
  refine (MY.out _ (HT.out.below (below_new (Below.refl _ _) _) (Nat.le_refl _))).mono ?_
  rintro e w1 ⟨rfl,b1⟩
  have B1:=Lib.hid b1
  clear b1
  obtain ⟨c0_1,c1_1,c2_1,c3_1,c4_1,c5_1,c6_1,c7_1⟩:=xcells B1.out
  have k0:w1.cell? ⟨0,30,none⟩=some (.int .i8 1):=by
    obtain ⟨⟨T,fr,h⟩,_⟩:=HT.out.below (below_boxed B1.out) (Nat.le_refl _)
    simp only [World.cell?,h]
    rfl
  go_wp2_with fail
  refine (set_2 (dst) (src) (2 ^ (dst:Int).toNat) (2 ^ (src:Int).toNat) w1.heap.size _ HB.out.1 (p2_wrap HB.out.1) HB.out.2.1 (p2_wrap HB.out.2.1) (heap_last w1 _ _ rfl)).mono ?_
  rintro e y ⟨rfl,rfl⟩
  go_wp2_with fail
  go_ret
  exact ⟨retV (congrArg (Value.int .i64) (show (bits .or .i64 (bits .or .i64 0 (2 ^ (dst:Int).toNat)) (2 ^ (src:Int).toNat))=bits .or .i64 ((2:Int) ^ (dst:Int).toNat) ((2:Int) ^ (src:Int).toNat) from by rw [p2_or0 HB.out.1])),below_new (below_boxed B1.out) _⟩
set_option maxHeartbeats 4000000 in
theorem creads_7 (wd dst src base disp imm cc:Int) (W:World) (hX:XOk ⟨7,wd,dst,src,base,disp,imm,cc⟩) (hT:Tabs W) (hm:mayX ⟨7,wd,dst,src,base,disp,imm,cc⟩=true) (hd:0 ≤ dst ∧ dst < 16) (hs:0 ≤ src ∧ src < 16) (hb:0 ≤ base ∧ base < 16):
    Calls Tryd.prog 14 #[.agg #[.int .i8 7,.int .i8 wd,.int .i8 dst,.int .i8 src,.int .i8 base,.int .i64 disp,.int .i64 imm,.int .i8 cc]] W fun e w'=>e=.returned (.int .i64 (bits .or .i64 ((2:Int) ^ (dst:Int).toNat) ((2:Int) ^ (src:Int).toNat))) ∧ Below W.heap.size W w':=by
  have MY:=Lib.hid (fun W (hT:Tabs W)=>show Calls Tryd.prog 16 #[.agg #[.int .i8 7,.int .i8 wd,.int .i8 dst,.int .i8 src,.int .i8 base,.int .i64 disp,.int .i64 imm,.int .i8 cc]] W fun e w'=>e=.returned (.bool true) ∧ Below W.heap.size W w' by have h:=may_n ⟨7,wd,dst,src,base,disp,imm,cc⟩ hX W hT;rw [hm] at h;exact h)
  have HT:=Lib.hid hT
  have HB:=Lib.hid (And.intro hd (And.intro hs hb))
  clear hm hX hT hd hs hb
  go_enter Tryd.func14,Tryd.ntmps14
  go_wp2_with fail
  refine (MY.out _ (HT.out.below (below_new (Below.refl _ _) _) (Nat.le_refl _))).mono ?_
  rintro e w1 ⟨rfl,b1⟩
  have B1:=Lib.hid b1
  clear b1
  obtain ⟨c0_1,c1_1,c2_1,c3_1,c4_1,c5_1,c6_1,c7_1⟩:=xcells B1.out
  have k0:w1.cell? ⟨0,35,none⟩=some (.int .i8 1):=by
    obtain ⟨⟨T,fr,h⟩,_⟩:=HT.out.below (below_boxed B1.out) (Nat.le_refl _)
    simp only [World.cell?,h]
    rfl
  go_wp2_with fail
  refine (set_2 (dst) (src) (2 ^ (dst:Int).toNat) (2 ^ (src:Int).toNat) w1.heap.size _ HB.out.1 (p2_wrap HB.out.1) HB.out.2.1 (p2_wrap HB.out.2.1) (heap_last w1 _ _ rfl)).mono ?_
  rintro e y ⟨rfl,rfl⟩
  go_wp2_with fail
  go_ret
  exact ⟨retV (congrArg (Value.int .i64) (show (bits .or .i64 (bits .or .i64 0 (2 ^ (dst:Int).toNat)) (2 ^ (src:Int).toNat))=bits .or .i64 ((2:Int) ^ (dst:Int).toNat) ((2:Int) ^ (src:Int).toNat) from by rw [p2_or0 HB.out.1])),below_new (below_boxed B1.out) _⟩
set_option maxHeartbeats 4000000 in
theorem creads_8 (wd dst src base disp imm cc:Int) (W:World) (hX:XOk ⟨8,wd,dst,src,base,disp,imm,cc⟩) (hT:Tabs W) (hm:mayX ⟨8,wd,dst,src,base,disp,imm,cc⟩=true) (hd:0 ≤ dst ∧ dst < 16) (hs:0 ≤ src ∧ src < 16) (hb:0 ≤ base ∧ base < 16):
    Calls Tryd.prog 14 #[.agg #[.int .i8 8,.int .i8 wd,.int .i8 dst,.int .i8 src,.int .i8 base,.int .i64 disp,.int .i64 imm,.int .i8 cc]] W fun e w'=>e=.returned (.int .i64 (bits .or .i64 ((2:Int) ^ (dst:Int).toNat) ((2:Int) ^ (src:Int).toNat))) ∧ Below W.heap.size W w':=by
  have MY:=Lib.hid (fun W (hT:Tabs W)=>show Calls Tryd.prog 16 #[.agg #[.int .i8 8,.int .i8 wd,.int .i8 dst,.int .i8 src,.int .i8 base,.int .i64 disp,.int .i64 imm,.int .i8 cc]] W fun e w'=>e=.returned (.bool true) ∧ Below W.heap.size W w' by have h:=may_n ⟨8,wd,dst,src,base,disp,imm,cc⟩ hX W hT;rw [hm] at h;exact h)
  have HT:=Lib.hid hT
  have HB:=Lib.hid (And.intro hd (And.intro hs hb))
  clear hm hX hT hd hs hb
  go_enter Tryd.func14,Tryd.ntmps14
  go_wp2_with fail
  refine (MY.out _ (HT.out.below (below_new (Below.refl _ _) _) (Nat.le_refl _))).mono ?_
  rintro e w1 ⟨rfl,b1⟩
  have B1:=Lib.hid b1
  clear b1
  obtain ⟨c0_1,c1_1,c2_1,c3_1,c4_1,c5_1,c6_1,c7_1⟩:=xcells B1.out
  have k0:w1.cell? ⟨0,40,none⟩=some (.int .i8 1):=by
    obtain ⟨⟨T,fr,h⟩,_⟩:=HT.out.below (below_boxed B1.out) (Nat.le_refl _)
    simp only [World.cell?,h]
    rfl
  go_wp2_with fail
  refine (set_2 (dst) (src) (2 ^ (dst:Int).toNat) (2 ^ (src:Int).toNat) w1.heap.size _ HB.out.1 (p2_wrap HB.out.1) HB.out.2.1 (p2_wrap HB.out.2.1) (heap_last w1 _ _ rfl)).mono ?_
  rintro e y ⟨rfl,rfl⟩
  go_wp2_with fail
  go_ret
  exact ⟨retV (congrArg (Value.int .i64) (show (bits .or .i64 (bits .or .i64 0 (2 ^ (dst:Int).toNat)) (2 ^ (src:Int).toNat))=bits .or .i64 ((2:Int) ^ (dst:Int).toNat) ((2:Int) ^ (src:Int).toNat) from by rw [p2_or0 HB.out.1])),below_new (below_boxed B1.out) _⟩
set_option maxHeartbeats 4000000 in
theorem creads_9 (wd dst src base disp imm cc:Int) (W:World) (hX:XOk ⟨9,wd,dst,src,base,disp,imm,cc⟩) (hT:Tabs W) (hm:mayX ⟨9,wd,dst,src,base,disp,imm,cc⟩=true) (hd:0 ≤ dst ∧ dst < 16) (hs:0 ≤ src ∧ src < 16) (hb:0 ≤ base ∧ base < 16):
    Calls Tryd.prog 14 #[.agg #[.int .i8 9,.int .i8 wd,.int .i8 dst,.int .i8 src,.int .i8 base,.int .i64 disp,.int .i64 imm,.int .i8 cc]] W fun e w'=>e=.returned (.int .i64 ((2:Int) ^ (dst:Int).toNat)) ∧ Below W.heap.size W w':=by
  have MY:=Lib.hid (fun W (hT:Tabs W)=>show Calls Tryd.prog 16 #[.agg #[.int .i8 9,.int .i8 wd,.int .i8 dst,.int .i8 src,.int .i8 base,.int .i64 disp,.int .i64 imm,.int .i8 cc]] W fun e w'=>e=.returned (.bool true) ∧ Below W.heap.size W w' by have h:=may_n ⟨9,wd,dst,src,base,disp,imm,cc⟩ hX W hT;rw [hm] at h;exact h)
  have HT:=Lib.hid hT
  have HB:=Lib.hid (And.intro hd (And.intro hs hb))
  clear hm hX hT hd hs hb
  go_enter Tryd.func14,Tryd.ntmps14
  go_wp2_with fail
  refine (MY.out _ (HT.out.below (below_new (Below.refl _ _) _) (Nat.le_refl _))).mono ?_
  rintro e w1 ⟨rfl,b1⟩
  have B1:=Lib.hid b1
  clear b1
  obtain ⟨c0_1,c1_1,c2_1,c3_1,c4_1,c5_1,c6_1,c7_1⟩:=xcells B1.out
  have k0:w1.cell? ⟨0,45,none⟩=some (.int .i8 3):=by
    obtain ⟨⟨T,fr,h⟩,_⟩:=HT.out.below (below_boxed B1.out) (Nat.le_refl _)
    simp only [World.cell?,h]
    rfl
  go_wp2_with fail
  refine (set_1 (dst) (2 ^ (dst:Int).toNat) w1.heap.size _ HB.out.1 (p2_wrap HB.out.1) (heap_last w1 _ _ rfl)).mono ?_
  rintro e y ⟨rfl,rfl⟩
  go_wp2_with fail
  go_ret
  exact ⟨retV (congrArg (Value.int .i64) (show (bits .or .i64 0 (2 ^ (dst:Int).toNat))=(2:Int) ^ (dst:Int).toNat from p2_or0 HB.out.1)),below_new (below_boxed B1.out) _⟩
set_option maxHeartbeats 4000000 in
theorem creads_10 (wd dst src base disp imm cc:Int) (W:World) (hX:XOk ⟨10,wd,dst,src,base,disp,imm,cc⟩) (hT:Tabs W) (hm:mayX ⟨10,wd,dst,src,base,disp,imm,cc⟩=true) (hd:0 ≤ dst ∧ dst < 16) (hs:0 ≤ src ∧ src < 16) (hb:0 ≤ base ∧ base < 16):
    Calls Tryd.prog 14 #[.agg #[.int .i8 10,.int .i8 wd,.int .i8 dst,.int .i8 src,.int .i8 base,.int .i64 disp,.int .i64 imm,.int .i8 cc]] W fun e w'=>e=.returned (.int .i64 ((2:Int) ^ (dst:Int).toNat)) ∧ Below W.heap.size W w':=by
  have MY:=Lib.hid (fun W (hT:Tabs W)=>show Calls Tryd.prog 16 #[.agg #[.int .i8 10,.int .i8 wd,.int .i8 dst,.int .i8 src,.int .i8 base,.int .i64 disp,.int .i64 imm,.int .i8 cc]] W fun e w'=>e=.returned (.bool true) ∧ Below W.heap.size W w' by have h:=may_n ⟨10,wd,dst,src,base,disp,imm,cc⟩ hX W hT;rw [hm] at h;exact h)
  have HT:=Lib.hid hT
  have HB:=Lib.hid (And.intro hd (And.intro hs hb))
  clear hm hX hT hd hs hb
  go_enter Tryd.func14,Tryd.ntmps14
  go_wp2_with fail
  refine (MY.out _ (HT.out.below (below_new (Below.refl _ _) _) (Nat.le_refl _))).mono ?_
  rintro e w1 ⟨rfl,b1⟩
  have B1:=Lib.hid b1
  clear b1
  obtain ⟨c0_1,c1_1,c2_1,c3_1,c4_1,c5_1,c6_1,c7_1⟩:=xcells B1.out
  have k0:w1.cell? ⟨0,50,none⟩=some (.int .i8 3):=by
    obtain ⟨⟨T,fr,h⟩,_⟩:=HT.out.below (below_boxed B1.out) (Nat.le_refl _)
    simp only [World.cell?,h]
    rfl
  go_wp2_with fail
  refine (set_1 (dst) (2 ^ (dst:Int).toNat) w1.heap.size _ HB.out.1 (p2_wrap HB.out.1) (heap_last w1 _ _ rfl)).mono ?_
  rintro e y ⟨rfl,rfl⟩
  go_wp2_with fail
  go_ret
  exact ⟨retV (congrArg (Value.int .i64) (show (bits .or .i64 0 (2 ^ (dst:Int).toNat))=(2:Int) ^ (dst:Int).toNat from p2_or0 HB.out.1)),below_new (below_boxed B1.out) _⟩
set_option maxHeartbeats 4000000 in
theorem creads_11 (wd dst src base disp imm cc:Int) (W:World) (hX:XOk ⟨11,wd,dst,src,base,disp,imm,cc⟩) (hT:Tabs W) (hm:mayX ⟨11,wd,dst,src,base,disp,imm,cc⟩=true) (hd:0 ≤ dst ∧ dst < 16) (hs:0 ≤ src ∧ src < 16) (hb:0 ≤ base ∧ base < 16):
    Calls Tryd.prog 14 #[.agg #[.int .i8 11,.int .i8 wd,.int .i8 dst,.int .i8 src,.int .i8 base,.int .i64 disp,.int .i64 imm,.int .i8 cc]] W fun e w'=>e=.returned (.int .i64 ((2:Int) ^ (dst:Int).toNat)) ∧ Below W.heap.size W w':=by
  have MY:=Lib.hid (fun W (hT:Tabs W)=>show Calls Tryd.prog 16 #[.agg #[.int .i8 11,.int .i8 wd,.int .i8 dst,.int .i8 src,.int .i8 base,.int .i64 disp,.int .i64 imm,.int .i8 cc]] W fun e w'=>e=.returned (.bool true) ∧ Below W.heap.size W w' by have h:=may_n ⟨11,wd,dst,src,base,disp,imm,cc⟩ hX W hT;rw [hm] at h;exact h)
  have HT:=Lib.hid hT
  have HB:=Lib.hid (And.intro hd (And.intro hs hb))
  clear hm hX hT hd hs hb
  go_enter Tryd.func14,Tryd.ntmps14
  go_wp2_with fail
  refine (MY.out _ (HT.out.below (below_new (Below.refl _ _) _) (Nat.le_refl _))).mono ?_
  rintro e w1 ⟨rfl,b1⟩
  have B1:=Lib.hid b1
  clear b1
  obtain ⟨c0_1,c1_1,c2_1,c3_1,c4_1,c5_1,c6_1,c7_1⟩:=xcells B1.out
  have k0:w1.cell? ⟨0,55,none⟩=some (.int .i8 3):=by
    obtain ⟨⟨T,fr,h⟩,_⟩:=HT.out.below (below_boxed B1.out) (Nat.le_refl _)
    simp only [World.cell?,h]
    rfl
  go_wp2_with fail
  refine (set_1 (dst) (2 ^ (dst:Int).toNat) w1.heap.size _ HB.out.1 (p2_wrap HB.out.1) (heap_last w1 _ _ rfl)).mono ?_
  rintro e y ⟨rfl,rfl⟩
  go_wp2_with fail
  go_ret
  exact ⟨retV (congrArg (Value.int .i64) (show (bits .or .i64 0 (2 ^ (dst:Int).toNat))=(2:Int) ^ (dst:Int).toNat from p2_or0 HB.out.1)),below_new (below_boxed B1.out) _⟩
set_option maxHeartbeats 4000000 in
theorem creads_12 (wd dst src base disp imm cc:Int) (W:World) (hX:XOk ⟨12,wd,dst,src,base,disp,imm,cc⟩) (hT:Tabs W) (hm:mayX ⟨12,wd,dst,src,base,disp,imm,cc⟩=true) (hd:0 ≤ dst ∧ dst < 16) (hs:0 ≤ src ∧ src < 16) (hb:0 ≤ base ∧ base < 16):
    Calls Tryd.prog 14 #[.agg #[.int .i8 12,.int .i8 wd,.int .i8 dst,.int .i8 src,.int .i8 base,.int .i64 disp,.int .i64 imm,.int .i8 cc]] W fun e w'=>e=.returned (.int .i64 ((2:Int) ^ (dst:Int).toNat)) ∧ Below W.heap.size W w':=by
  have MY:=Lib.hid (fun W (hT:Tabs W)=>show Calls Tryd.prog 16 #[.agg #[.int .i8 12,.int .i8 wd,.int .i8 dst,.int .i8 src,.int .i8 base,.int .i64 disp,.int .i64 imm,.int .i8 cc]] W fun e w'=>e=.returned (.bool true) ∧ Below W.heap.size W w' by have h:=may_n ⟨12,wd,dst,src,base,disp,imm,cc⟩ hX W hT;rw [hm] at h;exact h)
  have HT:=Lib.hid hT
  have HB:=Lib.hid (And.intro hd (And.intro hs hb))
  clear hm hX hT hd hs hb
  go_enter Tryd.func14,Tryd.ntmps14
  go_wp2_with fail
  refine (MY.out _ (HT.out.below (below_new (Below.refl _ _) _) (Nat.le_refl _))).mono ?_
  rintro e w1 ⟨rfl,b1⟩
  have B1:=Lib.hid b1
  clear b1
  obtain ⟨c0_1,c1_1,c2_1,c3_1,c4_1,c5_1,c6_1,c7_1⟩:=xcells B1.out
  have k0:w1.cell? ⟨0,60,none⟩=some (.int .i8 3):=by
    obtain ⟨⟨T,fr,h⟩,_⟩:=HT.out.below (below_boxed B1.out) (Nat.le_refl _)
    simp only [World.cell?,h]
    rfl
  go_wp2_with fail
  refine (set_1 (dst) (2 ^ (dst:Int).toNat) w1.heap.size _ HB.out.1 (p2_wrap HB.out.1) (heap_last w1 _ _ rfl)).mono ?_
  rintro e y ⟨rfl,rfl⟩
  go_wp2_with fail
  go_ret
  exact ⟨retV (congrArg (Value.int .i64) (show (bits .or .i64 0 (2 ^ (dst:Int).toNat))=(2:Int) ^ (dst:Int).toNat from p2_or0 HB.out.1)),below_new (below_boxed B1.out) _⟩
set_option maxHeartbeats 4000000 in
theorem creads_13 (wd dst src base disp imm cc:Int) (W:World) (hX:XOk ⟨13,wd,dst,src,base,disp,imm,cc⟩) (hT:Tabs W) (hm:mayX ⟨13,wd,dst,src,base,disp,imm,cc⟩=true) (hd:0 ≤ dst ∧ dst < 16) (hs:0 ≤ src ∧ src < 16) (hb:0 ≤ base ∧ base < 16):
    Calls Tryd.prog 14 #[.agg #[.int .i8 13,.int .i8 wd,.int .i8 dst,.int .i8 src,.int .i8 base,.int .i64 disp,.int .i64 imm,.int .i8 cc]] W fun e w'=>e=.returned (.int .i64 ((2:Int) ^ (dst:Int).toNat)) ∧ Below W.heap.size W w':=by
  have MY:=Lib.hid (fun W (hT:Tabs W)=>show Calls Tryd.prog 16 #[.agg #[.int .i8 13,.int .i8 wd,.int .i8 dst,.int .i8 src,.int .i8 base,.int .i64 disp,.int .i64 imm,.int .i8 cc]] W fun e w'=>e=.returned (.bool true) ∧ Below W.heap.size W w' by have h:=may_n ⟨13,wd,dst,src,base,disp,imm,cc⟩ hX W hT;rw [hm] at h;exact h)
  have HT:=Lib.hid hT
  have HB:=Lib.hid (And.intro hd (And.intro hs hb))
  clear hm hX hT hd hs hb
  go_enter Tryd.func14,Tryd.ntmps14
  go_wp2_with fail
  refine (MY.out _ (HT.out.below (below_new (Below.refl _ _) _) (Nat.le_refl _))).mono ?_
  rintro e w1 ⟨rfl,b1⟩
  have B1:=Lib.hid b1
  clear b1
  obtain ⟨c0_1,c1_1,c2_1,c3_1,c4_1,c5_1,c6_1,c7_1⟩:=xcells B1.out
  have k0:w1.cell? ⟨0,65,none⟩=some (.int .i8 3):=by
    obtain ⟨⟨T,fr,h⟩,_⟩:=HT.out.below (below_boxed B1.out) (Nat.le_refl _)
    simp only [World.cell?,h]
    rfl
  go_wp2_with fail
  refine (set_1 (dst) (2 ^ (dst:Int).toNat) w1.heap.size _ HB.out.1 (p2_wrap HB.out.1) (heap_last w1 _ _ rfl)).mono ?_
  rintro e y ⟨rfl,rfl⟩
  go_wp2_with fail
  go_ret
  exact ⟨retV (congrArg (Value.int .i64) (show (bits .or .i64 0 (2 ^ (dst:Int).toNat))=(2:Int) ^ (dst:Int).toNat from p2_or0 HB.out.1)),below_new (below_boxed B1.out) _⟩
set_option maxHeartbeats 4000000 in
theorem creads_14 (wd dst src base disp imm cc:Int) (W:World) (hX:XOk ⟨14,wd,dst,src,base,disp,imm,cc⟩) (hT:Tabs W) (hm:mayX ⟨14,wd,dst,src,base,disp,imm,cc⟩=true) (hd:0 ≤ dst ∧ dst < 16) (hs:0 ≤ src ∧ src < 16) (hb:0 ≤ base ∧ base < 16):
    Calls Tryd.prog 14 #[.agg #[.int .i8 14,.int .i8 wd,.int .i8 dst,.int .i8 src,.int .i8 base,.int .i64 disp,.int .i64 imm,.int .i8 cc]] W fun e w'=>e=.returned (.int .i64 ((2:Int) ^ (dst:Int).toNat)) ∧ Below W.heap.size W w':=by
  have MY:=Lib.hid (fun W (hT:Tabs W)=>show Calls Tryd.prog 16 #[.agg #[.int .i8 14,.int .i8 wd,.int .i8 dst,.int .i8 src,.int .i8 base,.int .i64 disp,.int .i64 imm,.int .i8 cc]] W fun e w'=>e=.returned (.bool true) ∧ Below W.heap.size W w' by have h:=may_n ⟨14,wd,dst,src,base,disp,imm,cc⟩ hX W hT;rw [hm] at h;exact h)
  have HT:=Lib.hid hT
  have HB:=Lib.hid (And.intro hd (And.intro hs hb))
  clear hm hX hT hd hs hb
  go_enter Tryd.func14,Tryd.ntmps14
  go_wp2_with fail
  refine (MY.out _ (HT.out.below (below_new (Below.refl _ _) _) (Nat.le_refl _))).mono ?_
  rintro e w1 ⟨rfl,b1⟩
  have B1:=Lib.hid b1
  clear b1
  obtain ⟨c0_1,c1_1,c2_1,c3_1,c4_1,c5_1,c6_1,c7_1⟩:=xcells B1.out
  have k0:w1.cell? ⟨0,70,none⟩=some (.int .i8 3):=by
    obtain ⟨⟨T,fr,h⟩,_⟩:=HT.out.below (below_boxed B1.out) (Nat.le_refl _)
    simp only [World.cell?,h]
    rfl
  go_wp2_with fail
  refine (set_1 (dst) (2 ^ (dst:Int).toNat) w1.heap.size _ HB.out.1 (p2_wrap HB.out.1) (heap_last w1 _ _ rfl)).mono ?_
  rintro e y ⟨rfl,rfl⟩
  go_wp2_with fail
  go_ret
  exact ⟨retV (congrArg (Value.int .i64) (show (bits .or .i64 0 (2 ^ (dst:Int).toNat))=(2:Int) ^ (dst:Int).toNat from p2_or0 HB.out.1)),below_new (below_boxed B1.out) _⟩
set_option maxHeartbeats 4000000 in
theorem creads_15 (wd dst src base disp imm cc:Int) (W:World) (hX:XOk ⟨15,wd,dst,src,base,disp,imm,cc⟩) (hT:Tabs W) (hm:mayX ⟨15,wd,dst,src,base,disp,imm,cc⟩=true) (hd:0 ≤ dst ∧ dst < 16) (hs:0 ≤ src ∧ src < 16) (hb:0 ≤ base ∧ base < 16):
    Calls Tryd.prog 14 #[.agg #[.int .i8 15,.int .i8 wd,.int .i8 dst,.int .i8 src,.int .i8 base,.int .i64 disp,.int .i64 imm,.int .i8 cc]] W fun e w'=>e=.returned (.int .i64 ((2:Int) ^ (dst:Int).toNat)) ∧ Below W.heap.size W w':=by
  have MY:=Lib.hid (fun W (hT:Tabs W)=>show Calls Tryd.prog 16 #[.agg #[.int .i8 15,.int .i8 wd,.int .i8 dst,.int .i8 src,.int .i8 base,.int .i64 disp,.int .i64 imm,.int .i8 cc]] W fun e w'=>e=.returned (.bool true) ∧ Below W.heap.size W w' by have h:=may_n ⟨15,wd,dst,src,base,disp,imm,cc⟩ hX W hT;rw [hm] at h;exact h)
  have HT:=Lib.hid hT
  have HB:=Lib.hid (And.intro hd (And.intro hs hb))
  clear hm hX hT hd hs hb
  go_enter Tryd.func14,Tryd.ntmps14
  go_wp2_with fail
  refine (MY.out _ (HT.out.below (below_new (Below.refl _ _) _) (Nat.le_refl _))).mono ?_
  rintro e w1 ⟨rfl,b1⟩
  have B1:=Lib.hid b1
  clear b1
  obtain ⟨c0_1,c1_1,c2_1,c3_1,c4_1,c5_1,c6_1,c7_1⟩:=xcells B1.out
  have k0:w1.cell? ⟨0,75,none⟩=some (.int .i8 3):=by
    obtain ⟨⟨T,fr,h⟩,_⟩:=HT.out.below (below_boxed B1.out) (Nat.le_refl _)
    simp only [World.cell?,h]
    rfl
  go_wp2_with fail
  refine (set_1 (dst) (2 ^ (dst:Int).toNat) w1.heap.size _ HB.out.1 (p2_wrap HB.out.1) (heap_last w1 _ _ rfl)).mono ?_
  rintro e y ⟨rfl,rfl⟩
  go_wp2_with fail
  go_ret
  exact ⟨retV (congrArg (Value.int .i64) (show (bits .or .i64 0 (2 ^ (dst:Int).toNat))=(2:Int) ^ (dst:Int).toNat from p2_or0 HB.out.1)),below_new (below_boxed B1.out) _⟩
set_option maxHeartbeats 4000000 in
theorem creads_16 (wd dst src base disp imm cc:Int) (W:World) (hX:XOk ⟨16,wd,dst,src,base,disp,imm,cc⟩) (hT:Tabs W) (hm:mayX ⟨16,wd,dst,src,base,disp,imm,cc⟩=true) (hd:0 ≤ dst ∧ dst < 16) (hs:0 ≤ src ∧ src < 16) (hb:0 ≤ base ∧ base < 16):
    Calls Tryd.prog 14 #[.agg #[.int .i8 16,.int .i8 wd,.int .i8 dst,.int .i8 src,.int .i8 base,.int .i64 disp,.int .i64 imm,.int .i8 cc]] W fun e w'=>e=.returned (.int .i64 (bits .or .i64 ((2:Int) ^ (dst:Int).toNat) ((2:Int) ^ (src:Int).toNat))) ∧ Below W.heap.size W w':=by
  have MY:=Lib.hid (fun W (hT:Tabs W)=>show Calls Tryd.prog 16 #[.agg #[.int .i8 16,.int .i8 wd,.int .i8 dst,.int .i8 src,.int .i8 base,.int .i64 disp,.int .i64 imm,.int .i8 cc]] W fun e w'=>e=.returned (.bool true) ∧ Below W.heap.size W w' by have h:=may_n ⟨16,wd,dst,src,base,disp,imm,cc⟩ hX W hT;rw [hm] at h;exact h)
  have HT:=Lib.hid hT
  have HB:=Lib.hid (And.intro hd (And.intro hs hb))
  clear hm hX hT hd hs hb
  go_enter Tryd.func14,Tryd.ntmps14
  go_wp2_with fail
  refine (MY.out _ (HT.out.below (below_new (Below.refl _ _) _) (Nat.le_refl _))).mono ?_
  rintro e w1 ⟨rfl,b1⟩
  have B1:=Lib.hid b1
  clear b1
  obtain ⟨c0_1,c1_1,c2_1,c3_1,c4_1,c5_1,c6_1,c7_1⟩:=xcells B1.out
  have k0:w1.cell? ⟨0,80,none⟩=some (.int .i8 2):=by
    obtain ⟨⟨T,fr,h⟩,_⟩:=HT.out.below (below_boxed B1.out) (Nat.le_refl _)
    simp only [World.cell?,h]
    rfl
  go_wp2_with fail
  refine (set_2 (dst) (src) (2 ^ (dst:Int).toNat) (2 ^ (src:Int).toNat) w1.heap.size _ HB.out.1 (p2_wrap HB.out.1) HB.out.2.1 (p2_wrap HB.out.2.1) (heap_last w1 _ _ rfl)).mono ?_
  rintro e y ⟨rfl,rfl⟩
  go_wp2_with fail
  go_ret
  exact ⟨retV (congrArg (Value.int .i64) (show (bits .or .i64 (bits .or .i64 0 (2 ^ (dst:Int).toNat)) (2 ^ (src:Int).toNat))=bits .or .i64 ((2:Int) ^ (dst:Int).toNat) ((2:Int) ^ (src:Int).toNat) from by rw [p2_or0 HB.out.1])),below_new (below_boxed B1.out) _⟩
set_option maxHeartbeats 4000000 in
theorem creads_17 (wd dst src base disp imm cc:Int) (W:World) (hX:XOk ⟨17,wd,dst,src,base,disp,imm,cc⟩) (hT:Tabs W) (hm:mayX ⟨17,wd,dst,src,base,disp,imm,cc⟩=true) (hd:0 ≤ dst ∧ dst < 16) (hs:0 ≤ src ∧ src < 16) (hb:0 ≤ base ∧ base < 16):
    Calls Tryd.prog 14 #[.agg #[.int .i8 17,.int .i8 wd,.int .i8 dst,.int .i8 src,.int .i8 base,.int .i64 disp,.int .i64 imm,.int .i8 cc]] W fun e w'=>e=.returned (.int .i64 ((2:Int) ^ (dst:Int).toNat)) ∧ Below W.heap.size W w':=by
  have MY:=Lib.hid (fun W (hT:Tabs W)=>show Calls Tryd.prog 16 #[.agg #[.int .i8 17,.int .i8 wd,.int .i8 dst,.int .i8 src,.int .i8 base,.int .i64 disp,.int .i64 imm,.int .i8 cc]] W fun e w'=>e=.returned (.bool true) ∧ Below W.heap.size W w' by have h:=may_n ⟨17,wd,dst,src,base,disp,imm,cc⟩ hX W hT;rw [hm] at h;exact h)
  have HT:=Lib.hid hT
  have HB:=Lib.hid (And.intro hd (And.intro hs hb))
  clear hm hX hT hd hs hb
  go_enter Tryd.func14,Tryd.ntmps14
  go_wp2_with fail
  refine (MY.out _ (HT.out.below (below_new (Below.refl _ _) _) (Nat.le_refl _))).mono ?_
  rintro e w1 ⟨rfl,b1⟩
  have B1:=Lib.hid b1
  clear b1
  obtain ⟨c0_1,c1_1,c2_1,c3_1,c4_1,c5_1,c6_1,c7_1⟩:=xcells B1.out
  have k0:w1.cell? ⟨0,85,none⟩=some (.int .i8 4):=by
    obtain ⟨⟨T,fr,h⟩,_⟩:=HT.out.below (below_boxed B1.out) (Nat.le_refl _)
    simp only [World.cell?,h]
    rfl
  go_wp2_with fail
  refine (set_1 (dst) (2 ^ (dst:Int).toNat) w1.heap.size _ HB.out.1 (p2_wrap HB.out.1) (heap_last w1 _ _ rfl)).mono ?_
  rintro e y ⟨rfl,rfl⟩
  go_wp2_with fail
  go_ret
  exact ⟨retV (congrArg (Value.int .i64) (show (bits .or .i64 0 (2 ^ (dst:Int).toNat))=(2:Int) ^ (dst:Int).toNat from p2_or0 HB.out.1)),below_new (below_boxed B1.out) _⟩
set_option maxHeartbeats 4000000 in
theorem creads_18 (wd dst src base disp imm cc:Int) (W:World) (hX:XOk ⟨18,wd,dst,src,base,disp,imm,cc⟩) (hT:Tabs W) (hm:mayX ⟨18,wd,dst,src,base,disp,imm,cc⟩=true) (hd:0 ≤ dst ∧ dst < 16) (hs:0 ≤ src ∧ src < 16) (hb:0 ≤ base ∧ base < 16):
    Calls Tryd.prog 14 #[.agg #[.int .i8 18,.int .i8 wd,.int .i8 dst,.int .i8 src,.int .i8 base,.int .i64 disp,.int .i64 imm,.int .i8 cc]] W fun e w'=>e=.returned (.int .i64 ((2:Int) ^ (dst:Int).toNat)) ∧ Below W.heap.size W w':=by
  have MY:=Lib.hid (fun W (hT:Tabs W)=>show Calls Tryd.prog 16 #[.agg #[.int .i8 18,.int .i8 wd,.int .i8 dst,.int .i8 src,.int .i8 base,.int .i64 disp,.int .i64 imm,.int .i8 cc]] W fun e w'=>e=.returned (.bool true) ∧ Below W.heap.size W w' by have h:=may_n ⟨18,wd,dst,src,base,disp,imm,cc⟩ hX W hT;rw [hm] at h;exact h)
  have HT:=Lib.hid hT
  have HB:=Lib.hid (And.intro hd (And.intro hs hb))
  clear hm hX hT hd hs hb
  go_enter Tryd.func14,Tryd.ntmps14
  go_wp2_with fail
  refine (MY.out _ (HT.out.below (below_new (Below.refl _ _) _) (Nat.le_refl _))).mono ?_
  rintro e w1 ⟨rfl,b1⟩
  have B1:=Lib.hid b1
  clear b1
  obtain ⟨c0_1,c1_1,c2_1,c3_1,c4_1,c5_1,c6_1,c7_1⟩:=xcells B1.out
  have k0:w1.cell? ⟨0,90,none⟩=some (.int .i8 4):=by
    obtain ⟨⟨T,fr,h⟩,_⟩:=HT.out.below (below_boxed B1.out) (Nat.le_refl _)
    simp only [World.cell?,h]
    rfl
  go_wp2_with fail
  refine (set_1 (dst) (2 ^ (dst:Int).toNat) w1.heap.size _ HB.out.1 (p2_wrap HB.out.1) (heap_last w1 _ _ rfl)).mono ?_
  rintro e y ⟨rfl,rfl⟩
  go_wp2_with fail
  go_ret
  exact ⟨retV (congrArg (Value.int .i64) (show (bits .or .i64 0 (2 ^ (dst:Int).toNat))=(2:Int) ^ (dst:Int).toNat from p2_or0 HB.out.1)),below_new (below_boxed B1.out) _⟩
set_option maxHeartbeats 4000000 in
theorem creads_19 (wd dst src base disp imm cc:Int) (W:World) (hX:XOk ⟨19,wd,dst,src,base,disp,imm,cc⟩) (hT:Tabs W) (hm:mayX ⟨19,wd,dst,src,base,disp,imm,cc⟩=true) (hd:0 ≤ dst ∧ dst < 16) (hs:0 ≤ src ∧ src < 16) (hb:0 ≤ base ∧ base < 16):
    Calls Tryd.prog 14 #[.agg #[.int .i8 19,.int .i8 wd,.int .i8 dst,.int .i8 src,.int .i8 base,.int .i64 disp,.int .i64 imm,.int .i8 cc]] W fun e w'=>e=.returned (.int .i64 ((2:Int) ^ (dst:Int).toNat)) ∧ Below W.heap.size W w':=by
  have MY:=Lib.hid (fun W (hT:Tabs W)=>show Calls Tryd.prog 16 #[.agg #[.int .i8 19,.int .i8 wd,.int .i8 dst,.int .i8 src,.int .i8 base,.int .i64 disp,.int .i64 imm,.int .i8 cc]] W fun e w'=>e=.returned (.bool true) ∧ Below W.heap.size W w' by have h:=may_n ⟨19,wd,dst,src,base,disp,imm,cc⟩ hX W hT;rw [hm] at h;exact h)
  have HT:=Lib.hid hT
  have HB:=Lib.hid (And.intro hd (And.intro hs hb))
  clear hm hX hT hd hs hb
  go_enter Tryd.func14,Tryd.ntmps14
  go_wp2_with fail
  refine (MY.out _ (HT.out.below (below_new (Below.refl _ _) _) (Nat.le_refl _))).mono ?_
  rintro e w1 ⟨rfl,b1⟩
  have B1:=Lib.hid b1
  clear b1
  obtain ⟨c0_1,c1_1,c2_1,c3_1,c4_1,c5_1,c6_1,c7_1⟩:=xcells B1.out
  have k0:w1.cell? ⟨0,95,none⟩=some (.int .i8 4):=by
    obtain ⟨⟨T,fr,h⟩,_⟩:=HT.out.below (below_boxed B1.out) (Nat.le_refl _)
    simp only [World.cell?,h]
    rfl
  go_wp2_with fail
  refine (set_1 (dst) (2 ^ (dst:Int).toNat) w1.heap.size _ HB.out.1 (p2_wrap HB.out.1) (heap_last w1 _ _ rfl)).mono ?_
  rintro e y ⟨rfl,rfl⟩
  go_wp2_with fail
  go_ret
  exact ⟨retV (congrArg (Value.int .i64) (show (bits .or .i64 0 (2 ^ (dst:Int).toNat))=(2:Int) ^ (dst:Int).toNat from p2_or0 HB.out.1)),below_new (below_boxed B1.out) _⟩
set_option maxHeartbeats 4000000 in
theorem creads_20 (wd dst src base disp imm cc:Int) (W:World) (hX:XOk ⟨20,wd,dst,src,base,disp,imm,cc⟩) (hT:Tabs W) (hm:mayX ⟨20,wd,dst,src,base,disp,imm,cc⟩=true) (hd:0 ≤ dst ∧ dst < 16) (hs:0 ≤ src ∧ src < 16) (hb:0 ≤ base ∧ base < 16):
    Calls Tryd.prog 14 #[.agg #[.int .i8 20,.int .i8 wd,.int .i8 dst,.int .i8 src,.int .i8 base,.int .i64 disp,.int .i64 imm,.int .i8 cc]] W fun e w'=>e=.returned (.int .i64 (bits .or .i64 ((2:Int) ^ (dst:Int).toNat) (2))) ∧ Below W.heap.size W w':=by
  have MY:=Lib.hid (fun W (hT:Tabs W)=>show Calls Tryd.prog 16 #[.agg #[.int .i8 20,.int .i8 wd,.int .i8 dst,.int .i8 src,.int .i8 base,.int .i64 disp,.int .i64 imm,.int .i8 cc]] W fun e w'=>e=.returned (.bool true) ∧ Below W.heap.size W w' by have h:=may_n ⟨20,wd,dst,src,base,disp,imm,cc⟩ hX W hT;rw [hm] at h;exact h)
  have HT:=Lib.hid hT
  have HB:=Lib.hid (And.intro hd (And.intro hs hb))
  clear hm hX hT hd hs hb
  go_enter Tryd.func14,Tryd.ntmps14
  go_wp2_with fail
  refine (MY.out _ (HT.out.below (below_new (Below.refl _ _) _) (Nat.le_refl _))).mono ?_
  rintro e w1 ⟨rfl,b1⟩
  have B1:=Lib.hid b1
  clear b1
  obtain ⟨c0_1,c1_1,c2_1,c3_1,c4_1,c5_1,c6_1,c7_1⟩:=xcells B1.out
  go_wp2_with fail
  refine (set_2 (dst) (1) (2 ^ (dst:Int).toNat) (2:Int) w1.heap.size _ HB.out.1 (p2_wrap HB.out.1) (by decide) (by decide +kernel) (heap_last w1 _ _ rfl)).mono ?_
  rintro e y ⟨rfl,rfl⟩
  go_wp2_with fail
  go_ret
  exact ⟨retV (congrArg (Value.int .i64) (show (bits .or .i64 (bits .or .i64 0 (2 ^ (dst:Int).toNat)) (2:Int))=bits .or .i64 ((2:Int) ^ (dst:Int).toNat) (2) from by rw [p2_or0 HB.out.1])),below_new (below_boxed B1.out) _⟩
set_option maxHeartbeats 4000000 in
theorem creads_21 (wd dst src base disp imm cc:Int) (W:World) (hX:XOk ⟨21,wd,dst,src,base,disp,imm,cc⟩) (hT:Tabs W) (hm:mayX ⟨21,wd,dst,src,base,disp,imm,cc⟩=true) (hd:0 ≤ dst ∧ dst < 16) (hs:0 ≤ src ∧ src < 16) (hb:0 ≤ base ∧ base < 16):
    Calls Tryd.prog 14 #[.agg #[.int .i8 21,.int .i8 wd,.int .i8 dst,.int .i8 src,.int .i8 base,.int .i64 disp,.int .i64 imm,.int .i8 cc]] W fun e w'=>e=.returned (.int .i64 (bits .or .i64 ((2:Int) ^ (dst:Int).toNat) (2))) ∧ Below W.heap.size W w':=by
  have MY:=Lib.hid (fun W (hT:Tabs W)=>show Calls Tryd.prog 16 #[.agg #[.int .i8 21,.int .i8 wd,.int .i8 dst,.int .i8 src,.int .i8 base,.int .i64 disp,.int .i64 imm,.int .i8 cc]] W fun e w'=>e=.returned (.bool true) ∧ Below W.heap.size W w' by have h:=may_n ⟨21,wd,dst,src,base,disp,imm,cc⟩ hX W hT;rw [hm] at h;exact h)
  have HT:=Lib.hid hT
  have HB:=Lib.hid (And.intro hd (And.intro hs hb))
  clear hm hX hT hd hs hb
  go_enter Tryd.func14,Tryd.ntmps14
  go_wp2_with fail
  refine (MY.out _ (HT.out.below (below_new (Below.refl _ _) _) (Nat.le_refl _))).mono ?_
  rintro e w1 ⟨rfl,b1⟩
  have B1:=Lib.hid b1
  clear b1
  obtain ⟨c0_1,c1_1,c2_1,c3_1,c4_1,c5_1,c6_1,c7_1⟩:=xcells B1.out
  go_wp2_with fail
  refine (set_2 (dst) (1) (2 ^ (dst:Int).toNat) (2:Int) w1.heap.size _ HB.out.1 (p2_wrap HB.out.1) (by decide) (by decide +kernel) (heap_last w1 _ _ rfl)).mono ?_
  rintro e y ⟨rfl,rfl⟩
  go_wp2_with fail
  go_ret
  exact ⟨retV (congrArg (Value.int .i64) (show (bits .or .i64 (bits .or .i64 0 (2 ^ (dst:Int).toNat)) (2:Int))=bits .or .i64 ((2:Int) ^ (dst:Int).toNat) (2) from by rw [p2_or0 HB.out.1])),below_new (below_boxed B1.out) _⟩
set_option maxHeartbeats 4000000 in
theorem creads_22 (wd dst src base disp imm cc:Int) (W:World) (hX:XOk ⟨22,wd,dst,src,base,disp,imm,cc⟩) (hT:Tabs W) (hm:mayX ⟨22,wd,dst,src,base,disp,imm,cc⟩=true) (hd:0 ≤ dst ∧ dst < 16) (hs:0 ≤ src ∧ src < 16) (hb:0 ≤ base ∧ base < 16):
    Calls Tryd.prog 14 #[.agg #[.int .i8 22,.int .i8 wd,.int .i8 dst,.int .i8 src,.int .i8 base,.int .i64 disp,.int .i64 imm,.int .i8 cc]] W fun e w'=>e=.returned (.int .i64 (bits .or .i64 ((2:Int) ^ (dst:Int).toNat) (2))) ∧ Below W.heap.size W w':=by
  have MY:=Lib.hid (fun W (hT:Tabs W)=>show Calls Tryd.prog 16 #[.agg #[.int .i8 22,.int .i8 wd,.int .i8 dst,.int .i8 src,.int .i8 base,.int .i64 disp,.int .i64 imm,.int .i8 cc]] W fun e w'=>e=.returned (.bool true) ∧ Below W.heap.size W w' by have h:=may_n ⟨22,wd,dst,src,base,disp,imm,cc⟩ hX W hT;rw [hm] at h;exact h)
  have HT:=Lib.hid hT
  have HB:=Lib.hid (And.intro hd (And.intro hs hb))
  clear hm hX hT hd hs hb
  go_enter Tryd.func14,Tryd.ntmps14
  go_wp2_with fail
  refine (MY.out _ (HT.out.below (below_new (Below.refl _ _) _) (Nat.le_refl _))).mono ?_
  rintro e w1 ⟨rfl,b1⟩
  have B1:=Lib.hid b1
  clear b1
  obtain ⟨c0_1,c1_1,c2_1,c3_1,c4_1,c5_1,c6_1,c7_1⟩:=xcells B1.out
  go_wp2_with fail
  refine (set_2 (dst) (1) (2 ^ (dst:Int).toNat) (2:Int) w1.heap.size _ HB.out.1 (p2_wrap HB.out.1) (by decide) (by decide +kernel) (heap_last w1 _ _ rfl)).mono ?_
  rintro e y ⟨rfl,rfl⟩
  go_wp2_with fail
  go_ret
  exact ⟨retV (congrArg (Value.int .i64) (show (bits .or .i64 (bits .or .i64 0 (2 ^ (dst:Int).toNat)) (2:Int))=bits .or .i64 ((2:Int) ^ (dst:Int).toNat) (2) from by rw [p2_or0 HB.out.1])),below_new (below_boxed B1.out) _⟩
set_option maxHeartbeats 4000000 in
theorem creads_23 (wd dst src base disp imm cc:Int) (W:World) (hX:XOk ⟨23,wd,dst,src,base,disp,imm,cc⟩) (hT:Tabs W) (hm:mayX ⟨23,wd,dst,src,base,disp,imm,cc⟩=true) (hd:0 ≤ dst ∧ dst < 16) (hs:0 ≤ src ∧ src < 16) (hb:0 ≤ base ∧ base < 16):
    Calls Tryd.prog 14 #[.agg #[.int .i8 23,.int .i8 wd,.int .i8 dst,.int .i8 src,.int .i8 base,.int .i64 disp,.int .i64 imm,.int .i8 cc]] W fun e w'=>e=.returned (.int .i64 ((2:Int) ^ (dst:Int).toNat)) ∧ Below W.heap.size W w':=by
  have MY:=Lib.hid (fun W (hT:Tabs W)=>show Calls Tryd.prog 16 #[.agg #[.int .i8 23,.int .i8 wd,.int .i8 dst,.int .i8 src,.int .i8 base,.int .i64 disp,.int .i64 imm,.int .i8 cc]] W fun e w'=>e=.returned (.bool true) ∧ Below W.heap.size W w' by have h:=may_n ⟨23,wd,dst,src,base,disp,imm,cc⟩ hX W hT;rw [hm] at h;exact h)
  have HT:=Lib.hid hT
  have HB:=Lib.hid (And.intro hd (And.intro hs hb))
  clear hm hX hT hd hs hb
  go_enter Tryd.func14,Tryd.ntmps14
  go_wp2_with fail
  refine (MY.out _ (HT.out.below (below_new (Below.refl _ _) _) (Nat.le_refl _))).mono ?_
  rintro e w1 ⟨rfl,b1⟩
  have B1:=Lib.hid b1
  clear b1
  obtain ⟨c0_1,c1_1,c2_1,c3_1,c4_1,c5_1,c6_1,c7_1⟩:=xcells B1.out
  have k0:w1.cell? ⟨0,115,none⟩=some (.int .i8 5):=by
    obtain ⟨⟨T,fr,h⟩,_⟩:=HT.out.below (below_boxed B1.out) (Nat.le_refl _)
    simp only [World.cell?,h]
    rfl
  go_wp2_with fail
  refine (set_1 (dst) (2 ^ (dst:Int).toNat) w1.heap.size _ HB.out.1 (p2_wrap HB.out.1) (heap_last w1 _ _ rfl)).mono ?_
  rintro e y ⟨rfl,rfl⟩
  go_wp2_with fail
  go_ret
  exact ⟨retV (congrArg (Value.int .i64) (show (bits .or .i64 0 (2 ^ (dst:Int).toNat))=(2:Int) ^ (dst:Int).toNat from p2_or0 HB.out.1)),below_new (below_boxed B1.out) _⟩
set_option maxHeartbeats 4000000 in
theorem creads_24 (wd dst src base disp imm cc:Int) (W:World) (hX:XOk ⟨24,wd,dst,src,base,disp,imm,cc⟩) (hT:Tabs W) (hm:mayX ⟨24,wd,dst,src,base,disp,imm,cc⟩=true) (hd:0 ≤ dst ∧ dst < 16) (hs:0 ≤ src ∧ src < 16) (hb:0 ≤ base ∧ base < 16):
    Calls Tryd.prog 14 #[.agg #[.int .i8 24,.int .i8 wd,.int .i8 dst,.int .i8 src,.int .i8 base,.int .i64 disp,.int .i64 imm,.int .i8 cc]] W fun e w'=>e=.returned (.int .i64 (bits .or .i64 (bits .or .i64 ((2:Int) ^ (dst:Int).toNat) (1)) (4))) ∧ Below W.heap.size W w':=by
  have MY:=Lib.hid (fun W (hT:Tabs W)=>show Calls Tryd.prog 16 #[.agg #[.int .i8 24,.int .i8 wd,.int .i8 dst,.int .i8 src,.int .i8 base,.int .i64 disp,.int .i64 imm,.int .i8 cc]] W fun e w'=>e=.returned (.bool true) ∧ Below W.heap.size W w' by have h:=may_n ⟨24,wd,dst,src,base,disp,imm,cc⟩ hX W hT;rw [hm] at h;exact h)
  have HT:=Lib.hid hT
  have HB:=Lib.hid (And.intro hd (And.intro hs hb))
  clear hm hX hT hd hs hb
  go_enter Tryd.func14,Tryd.ntmps14
  go_wp2_with fail
  refine (MY.out _ (HT.out.below (below_new (Below.refl _ _) _) (Nat.le_refl _))).mono ?_
  rintro e w1 ⟨rfl,b1⟩
  have B1:=Lib.hid b1
  clear b1
  obtain ⟨c0_1,c1_1,c2_1,c3_1,c4_1,c5_1,c6_1,c7_1⟩:=xcells B1.out
  go_wp2_with fail
  refine (set_3 (0) (2) (dst) (1:Int) (4:Int) (2 ^ (dst:Int).toNat) w1.heap.size _ (by decide) (by decide +kernel) (by decide) (by decide +kernel) HB.out.1 (p2_wrap HB.out.1) (heap_last w1 _ _ rfl)).mono ?_
  rintro e y ⟨rfl,rfl⟩
  go_wp2_with fail
  go_ret
  exact ⟨retV (congrArg (Value.int .i64) (show (bits .or .i64 (bits .or .i64 (bits .or .i64 0 (1:Int)) (4:Int)) (2 ^ (dst:Int).toNat))=bits .or .i64 (bits .or .i64 ((2:Int) ^ (dst:Int).toNat) (1)) (4) from p2_div HB.out.1)),below_new (below_boxed B1.out) _⟩
set_option maxHeartbeats 4000000 in
theorem creads_25 (wd dst src base disp imm cc:Int) (W:World) (hX:XOk ⟨25,wd,dst,src,base,disp,imm,cc⟩) (hT:Tabs W) (hm:mayX ⟨25,wd,dst,src,base,disp,imm,cc⟩=true) (hd:0 ≤ dst ∧ dst < 16) (hs:0 ≤ src ∧ src < 16) (hb:0 ≤ base ∧ base < 16):
    Calls Tryd.prog 14 #[.agg #[.int .i8 25,.int .i8 wd,.int .i8 dst,.int .i8 src,.int .i8 base,.int .i64 disp,.int .i64 imm,.int .i8 cc]] W fun e w'=>e=.returned (.int .i64 (bits .or .i64 ((2:Int) ^ (dst:Int).toNat) ((2:Int) ^ (src:Int).toNat))) ∧ Below W.heap.size W w':=by
  have MY:=Lib.hid (fun W (hT:Tabs W)=>show Calls Tryd.prog 16 #[.agg #[.int .i8 25,.int .i8 wd,.int .i8 dst,.int .i8 src,.int .i8 base,.int .i64 disp,.int .i64 imm,.int .i8 cc]] W fun e w'=>e=.returned (.bool true) ∧ Below W.heap.size W w' by have h:=may_n ⟨25,wd,dst,src,base,disp,imm,cc⟩ hX W hT;rw [hm] at h;exact h)
  have HT:=Lib.hid hT
  have HB:=Lib.hid (And.intro hd (And.intro hs hb))
  clear hm hX hT hd hs hb
  go_enter Tryd.func14,Tryd.ntmps14
  go_wp2_with fail
  refine (MY.out _ (HT.out.below (below_new (Below.refl _ _) _) (Nat.le_refl _))).mono ?_
  rintro e w1 ⟨rfl,b1⟩
  have B1:=Lib.hid b1
  clear b1
  obtain ⟨c0_1,c1_1,c2_1,c3_1,c4_1,c5_1,c6_1,c7_1⟩:=xcells B1.out
  have k0:w1.cell? ⟨0,125,none⟩=some (.int .i8 2):=by
    obtain ⟨⟨T,fr,h⟩,_⟩:=HT.out.below (below_boxed B1.out) (Nat.le_refl _)
    simp only [World.cell?,h]
    rfl
  go_wp2_with fail
  refine (set_2 (dst) (src) (2 ^ (dst:Int).toNat) (2 ^ (src:Int).toNat) w1.heap.size _ HB.out.1 (p2_wrap HB.out.1) HB.out.2.1 (p2_wrap HB.out.2.1) (heap_last w1 _ _ rfl)).mono ?_
  rintro e y ⟨rfl,rfl⟩
  go_wp2_with fail
  go_ret
  exact ⟨retV (congrArg (Value.int .i64) (show (bits .or .i64 (bits .or .i64 0 (2 ^ (dst:Int).toNat)) (2 ^ (src:Int).toNat))=bits .or .i64 ((2:Int) ^ (dst:Int).toNat) ((2:Int) ^ (src:Int).toNat) from by rw [p2_or0 HB.out.1])),below_new (below_boxed B1.out) _⟩
set_option maxHeartbeats 4000000 in
theorem creads_26 (wd dst src base disp imm cc:Int) (W:World) (hX:XOk ⟨26,wd,dst,src,base,disp,imm,cc⟩) (hT:Tabs W) (hm:mayX ⟨26,wd,dst,src,base,disp,imm,cc⟩=true) (hd:0 ≤ dst ∧ dst < 16) (hs:0 ≤ src ∧ src < 16) (hb:0 ≤ base ∧ base < 16):
    Calls Tryd.prog 14 #[.agg #[.int .i8 26,.int .i8 wd,.int .i8 dst,.int .i8 src,.int .i8 base,.int .i64 disp,.int .i64 imm,.int .i8 cc]] W fun e w'=>e=.returned (.int .i64 ((2:Int) ^ (base:Int).toNat)) ∧ Below W.heap.size W w':=by
  have MY:=Lib.hid (fun W (hT:Tabs W)=>show Calls Tryd.prog 16 #[.agg #[.int .i8 26,.int .i8 wd,.int .i8 dst,.int .i8 src,.int .i8 base,.int .i64 disp,.int .i64 imm,.int .i8 cc]] W fun e w'=>e=.returned (.bool true) ∧ Below W.heap.size W w' by have h:=may_n ⟨26,wd,dst,src,base,disp,imm,cc⟩ hX W hT;rw [hm] at h;exact h)
  have HT:=Lib.hid hT
  have HB:=Lib.hid (And.intro hd (And.intro hs hb))
  clear hm hX hT hd hs hb
  go_enter Tryd.func14,Tryd.ntmps14
  go_wp2_with fail
  refine (MY.out _ (HT.out.below (below_new (Below.refl _ _) _) (Nat.le_refl _))).mono ?_
  rintro e w1 ⟨rfl,b1⟩
  have B1:=Lib.hid b1
  clear b1
  obtain ⟨c0_1,c1_1,c2_1,c3_1,c4_1,c5_1,c6_1,c7_1⟩:=xcells B1.out
  go_wp2_with fail
  refine (set_1 (base) (2 ^ (base:Int).toNat) w1.heap.size _ HB.out.2.2 (p2_wrap HB.out.2.2) (heap_last w1 _ _ rfl)).mono ?_
  rintro e y ⟨rfl,rfl⟩
  go_wp2_with fail
  go_ret
  exact ⟨retV (congrArg (Value.int .i64) (show (bits .or .i64 0 (2 ^ (base:Int).toNat))=(2:Int) ^ (base:Int).toNat from p2_or0 HB.out.2.2)),below_new (below_boxed B1.out) _⟩
set_option maxHeartbeats 4000000 in
theorem creads_27 (wd dst src base disp imm cc:Int) (W:World) (hX:XOk ⟨27,wd,dst,src,base,disp,imm,cc⟩) (hT:Tabs W) (hm:mayX ⟨27,wd,dst,src,base,disp,imm,cc⟩=true) (hd:0 ≤ dst ∧ dst < 16) (hs:0 ≤ src ∧ src < 16) (hb:0 ≤ base ∧ base < 16):
    Calls Tryd.prog 14 #[.agg #[.int .i8 27,.int .i8 wd,.int .i8 dst,.int .i8 src,.int .i8 base,.int .i64 disp,.int .i64 imm,.int .i8 cc]] W fun e w'=>e=.returned (.int .i64 (bits .or .i64 ((2:Int) ^ (base:Int).toNat) ((2:Int) ^ (src:Int).toNat))) ∧ Below W.heap.size W w':=by
  have MY:=Lib.hid (fun W (hT:Tabs W)=>show Calls Tryd.prog 16 #[.agg #[.int .i8 27,.int .i8 wd,.int .i8 dst,.int .i8 src,.int .i8 base,.int .i64 disp,.int .i64 imm,.int .i8 cc]] W fun e w'=>e=.returned (.bool true) ∧ Below W.heap.size W w' by have h:=may_n ⟨27,wd,dst,src,base,disp,imm,cc⟩ hX W hT;rw [hm] at h;exact h)
  have HT:=Lib.hid hT
  have HB:=Lib.hid (And.intro hd (And.intro hs hb))
  clear hm hX hT hd hs hb
  go_enter Tryd.func14,Tryd.ntmps14
  go_wp2_with fail
  refine (MY.out _ (HT.out.below (below_new (Below.refl _ _) _) (Nat.le_refl _))).mono ?_
  rintro e w1 ⟨rfl,b1⟩
  have B1:=Lib.hid b1
  clear b1
  obtain ⟨c0_1,c1_1,c2_1,c3_1,c4_1,c5_1,c6_1,c7_1⟩:=xcells B1.out
  go_wp2_with fail
  refine (set_2 (base) (src) (2 ^ (base:Int).toNat) (2 ^ (src:Int).toNat) w1.heap.size _ HB.out.2.2 (p2_wrap HB.out.2.2) HB.out.2.1 (p2_wrap HB.out.2.1) (heap_last w1 _ _ rfl)).mono ?_
  rintro e y ⟨rfl,rfl⟩
  go_wp2_with fail
  go_ret
  exact ⟨retV (congrArg (Value.int .i64) (show (bits .or .i64 (bits .or .i64 0 (2 ^ (base:Int).toNat)) (2 ^ (src:Int).toNat))=bits .or .i64 ((2:Int) ^ (base:Int).toNat) ((2:Int) ^ (src:Int).toNat) from by rw [p2_or0 HB.out.2.2])),below_new (below_boxed B1.out) _⟩
set_option maxHeartbeats 4000000 in
theorem creads_28 (wd dst src base disp imm cc:Int) (W:World) (hX:XOk ⟨28,wd,dst,src,base,disp,imm,cc⟩) (hT:Tabs W) (hm:mayX ⟨28,wd,dst,src,base,disp,imm,cc⟩=true) (hd:0 ≤ dst ∧ dst < 16) (hs:0 ≤ src ∧ src < 16) (hb:0 ≤ base ∧ base < 16):
    Calls Tryd.prog 14 #[.agg #[.int .i8 28,.int .i8 wd,.int .i8 dst,.int .i8 src,.int .i8 base,.int .i64 disp,.int .i64 imm,.int .i8 cc]] W fun e w'=>e=.returned (.int .i64 (0)) ∧ Below W.heap.size W w':=by
  have MY:=Lib.hid (fun W (hT:Tabs W)=>show Calls Tryd.prog 16 #[.agg #[.int .i8 28,.int .i8 wd,.int .i8 dst,.int .i8 src,.int .i8 base,.int .i64 disp,.int .i64 imm,.int .i8 cc]] W fun e w'=>e=.returned (.bool true) ∧ Below W.heap.size W w' by have h:=may_n ⟨28,wd,dst,src,base,disp,imm,cc⟩ hX W hT;rw [hm] at h;exact h)
  have HT:=Lib.hid hT
  have HB:=Lib.hid (And.intro hd (And.intro hs hb))
  clear hm hX hT hd hs hb
  go_enter Tryd.func14,Tryd.ntmps14
  go_wp2_with fail
  refine (MY.out _ (HT.out.below (below_new (Below.refl _ _) _) (Nat.le_refl _))).mono ?_
  rintro e w1 ⟨rfl,b1⟩
  have B1:=Lib.hid b1
  clear b1
  obtain ⟨c0_1,c1_1,c2_1,c3_1,c4_1,c5_1,c6_1,c7_1⟩:=xcells B1.out
  go_wp2_with fail
  go_ret
  exact ⟨rfl,below_boxed B1.out⟩
set_option maxHeartbeats 4000000 in
theorem creads_29 (wd dst src base disp imm cc:Int) (W:World) (hX:XOk ⟨29,wd,dst,src,base,disp,imm,cc⟩) (hT:Tabs W) (hm:mayX ⟨29,wd,dst,src,base,disp,imm,cc⟩=true) (hd:0 ≤ dst ∧ dst < 16) (hs:0 ≤ src ∧ src < 16) (hb:0 ≤ base ∧ base < 16):
    Calls Tryd.prog 14 #[.agg #[.int .i8 29,.int .i8 wd,.int .i8 dst,.int .i8 src,.int .i8 base,.int .i64 disp,.int .i64 imm,.int .i8 cc]] W fun e w'=>e=.returned (.int .i64 (0)) ∧ Below W.heap.size W w':=by
  have MY:=Lib.hid (fun W (hT:Tabs W)=>show Calls Tryd.prog 16 #[.agg #[.int .i8 29,.int .i8 wd,.int .i8 dst,.int .i8 src,.int .i8 base,.int .i64 disp,.int .i64 imm,.int .i8 cc]] W fun e w'=>e=.returned (.bool true) ∧ Below W.heap.size W w' by have h:=may_n ⟨29,wd,dst,src,base,disp,imm,cc⟩ hX W hT;rw [hm] at h;exact h)
  have HT:=Lib.hid hT
  have HB:=Lib.hid (And.intro hd (And.intro hs hb))
  clear hm hX hT hd hs hb
  go_enter Tryd.func14,Tryd.ntmps14
  go_wp2_with fail
  refine (MY.out _ (HT.out.below (below_new (Below.refl _ _) _) (Nat.le_refl _))).mono ?_
  rintro e w1 ⟨rfl,b1⟩
  have B1:=Lib.hid b1
  clear b1
  obtain ⟨c0_1,c1_1,c2_1,c3_1,c4_1,c5_1,c6_1,c7_1⟩:=xcells B1.out
  go_wp2_with fail
  go_ret
  exact ⟨rfl,below_boxed B1.out⟩
set_option maxHeartbeats 4000000 in
theorem creads_30 (wd dst src base disp imm cc:Int) (W:World) (hX:XOk ⟨30,wd,dst,src,base,disp,imm,cc⟩) (hT:Tabs W) (hm:mayX ⟨30,wd,dst,src,base,disp,imm,cc⟩=true) (hd:0 ≤ dst ∧ dst < 16) (hs:0 ≤ src ∧ src < 16) (hb:0 ≤ base ∧ base < 16):
    Calls Tryd.prog 14 #[.agg #[.int .i8 30,.int .i8 wd,.int .i8 dst,.int .i8 src,.int .i8 base,.int .i64 disp,.int .i64 imm,.int .i8 cc]] W fun e w'=>e=.returned (.int .i64 (17)) ∧ Below W.heap.size W w':=by
  have MY:=Lib.hid (fun W (hT:Tabs W)=>show Calls Tryd.prog 16 #[.agg #[.int .i8 30,.int .i8 wd,.int .i8 dst,.int .i8 src,.int .i8 base,.int .i64 disp,.int .i64 imm,.int .i8 cc]] W fun e w'=>e=.returned (.bool true) ∧ Below W.heap.size W w' by have h:=may_n ⟨30,wd,dst,src,base,disp,imm,cc⟩ hX W hT;rw [hm] at h;exact h)
  have HT:=Lib.hid hT
  have HB:=Lib.hid (And.intro hd (And.intro hs hb))
  clear hm hX hT hd hs hb
  go_enter Tryd.func14,Tryd.ntmps14
  go_wp2_with fail
  refine (MY.out _ (HT.out.below (below_new (Below.refl _ _) _) (Nat.le_refl _))).mono ?_
  rintro e w1 ⟨rfl,b1⟩
  have B1:=Lib.hid b1
  clear b1
  obtain ⟨c0_1,c1_1,c2_1,c3_1,c4_1,c5_1,c6_1,c7_1⟩:=xcells B1.out
  go_wp2_with fail
  refine (set_2 (4) (0) (16:Int) (1:Int) w1.heap.size _ (by decide) (by decide +kernel) (by decide) (by decide +kernel) (heap_last w1 _ _ rfl)).mono ?_
  rintro e y ⟨rfl,rfl⟩
  go_wp2_with fail
  go_ret
  exact ⟨retV (congrArg (Value.int .i64) (show (bits .or .i64 (bits .or .i64 0 (16:Int)) (1:Int))=17 from by decide +kernel)),below_new (below_boxed B1.out) _⟩
set_option maxHeartbeats 4000000 in
theorem creads_31 (wd dst src base disp imm cc:Int) (W:World) (hX:XOk ⟨31,wd,dst,src,base,disp,imm,cc⟩) (hT:Tabs W) (hm:mayX ⟨31,wd,dst,src,base,disp,imm,cc⟩=true) (hd:0 ≤ dst ∧ dst < 16) (hs:0 ≤ src ∧ src < 16) (hb:0 ≤ base ∧ base < 16):
    Calls Tryd.prog 14 #[.agg #[.int .i8 31,.int .i8 wd,.int .i8 dst,.int .i8 src,.int .i8 base,.int .i64 disp,.int .i64 imm,.int .i8 cc]] W fun e w'=>e=.returned (.int .i64 (1477)) ∧ Below W.heap.size W w':=by
  have MY:=Lib.hid (fun W (hT:Tabs W)=>show Calls Tryd.prog 16 #[.agg #[.int .i8 31,.int .i8 wd,.int .i8 dst,.int .i8 src,.int .i8 base,.int .i64 disp,.int .i64 imm,.int .i8 cc]] W fun e w'=>e=.returned (.bool true) ∧ Below W.heap.size W w' by have h:=may_n ⟨31,wd,dst,src,base,disp,imm,cc⟩ hX W hT;rw [hm] at h;exact h)
  have HT:=Lib.hid hT
  have HB:=Lib.hid (And.intro hd (And.intro hs hb))
  clear hm hX hT hd hs hb
  go_enter Tryd.func14,Tryd.ntmps14
  go_wp2_with fail
  refine (MY.out _ (HT.out.below (below_new (Below.refl _ _) _) (Nat.le_refl _))).mono ?_
  rintro e w1 ⟨rfl,b1⟩
  have B1:=Lib.hid b1
  clear b1
  obtain ⟨c0_1,c1_1,c2_1,c3_1,c4_1,c5_1,c6_1,c7_1⟩:=xcells B1.out
  go_wp2_with fail
  refine (set_6 (0) (7) (6) (2) (10) (8) (1:Int) (128:Int) (64:Int) (4:Int) (1024:Int) (256:Int) w1.heap.size _ (by decide) (by decide +kernel) (by decide) (by decide +kernel) (by decide) (by decide +kernel) (by decide) (by decide +kernel) (by decide) (by decide +kernel) (by decide) (by decide +kernel) (heap_last w1 _ _ rfl)).mono ?_
  rintro e y ⟨rfl,rfl⟩
  go_wp2_with fail
  go_ret
  exact ⟨retV (congrArg (Value.int .i64) (show (bits .or .i64 (bits .or .i64 (bits .or .i64 (bits .or .i64 (bits .or .i64 (bits .or .i64 0 (1:Int)) (128:Int)) (64:Int)) (4:Int)) (1024:Int)) (256:Int))=1477 from by decide +kernel)),below_new (below_boxed B1.out) _⟩
end Go.Proofs.YtoghjpliemidkaaDoor.Mrm
