import Derived.Test.YtjhjpllgoakncaaDoorETl38
set_option linter.unusedVariables false
set_option linter.unusedSimpArgs false
set_option linter.unnecessarySimpa false
namespace Go.Proofs.YtjhjpllgoakncaaDoor.Mrm
open Go Go.RowKit
set_option linter.unusedVariables false
set_option linter.unnecessarySimpa false
set_option linter.unusedSimpArgs false
set_option maxRecDepth 100000
set_option maxHeartbeats 4000000 in
theorem ereads_0 (wd dst src base disp imm cc:Int) (W:World) (hm:mayX ⟨0,wd,dst,src,base,disp,imm,cc⟩=true) (hw:-128 ≤ wd ∧ wd < 128) (hd:0 ≤ dst ∧ dst < 16) (hs:0 ≤ src ∧ src < 16) (hb:0 ≤ base ∧ base < 16):
    Calls Tryd.prog 16 #[.agg #[.int .i8 0,.int .i8 wd,.int .i8 dst,.int .i8 src,.int .i8 base,.int .i64 disp,.int .i64 imm,.int .i8 cc]] W fun e w'=>e=.returned (.int .i64 ((2:Int) ^ (src:Int).toNat)) ∧ Below W.heap.size W w':=by
  have MY:=Lib.hid (fun W=>show Calls Tryd.prog 12 #[.agg #[.int .i8 0,.int .i8 wd,.int .i8 dst,.int .i8 src,.int .i8 base,.int .i64 disp,.int .i64 imm,.int .i8 cc]] W fun e w'=>e=.returned (.bool true) ∧ Below W.heap.size W w' by have h:=emay_n ⟨0,wd,dst,src,base,disp,imm,cc⟩ W hw;rw [hm] at h;exact h)
  have CL:=Lib.hid (fun W=>cls_is (show clsI 0=1 by decide) W)
  have B_src:=Lib.hid (fun W=>ebit_n src hs W)
  clear hm hw hd hs hb
  generalize (2:Int) ^ src.toNat=p_src at *
  go_enter Tryd.func16,Tryd.ntmps16
  go_wp2_with fail
  refine (MY.out _).mono ?_
  rintro e w1 ⟨rfl,b1⟩
  have B1:=Lib.hid b1
  clear b1
  obtain ⟨c0_1,c1_1,c2_1,c3_1,c4_1,c5_1,c6_1,c7_1⟩:=xcells B1.out
  go_wp2_with fail
  refine (B_src.out _).mono ?_
  rintro e y ⟨rfl,rfl⟩
  go_wp2_with fail
  go_ret
  exact ⟨rfl,below_boxed B1.out⟩
set_option maxHeartbeats 4000000 in
theorem ewrites_0 (wd dst src base disp imm cc:Int) (W:World) (hm:mayX ⟨0,wd,dst,src,base,disp,imm,cc⟩=true) (hw:-128 ≤ wd ∧ wd < 128) (hd:0 ≤ dst ∧ dst < 16) (hs:0 ≤ src ∧ src < 16) (hb:0 ≤ base ∧ base < 16):
    Calls Tryd.prog 18 #[.agg #[.int .i8 0,.int .i8 wd,.int .i8 dst,.int .i8 src,.int .i8 base,.int .i64 disp,.int .i64 imm,.int .i8 cc]] W fun e w'=>e=.returned (.int .i64 ((2:Int) ^ (dst:Int).toNat)) ∧ Below W.heap.size W w':=by
  have MY:=Lib.hid (fun W=>show Calls Tryd.prog 12 #[.agg #[.int .i8 0,.int .i8 wd,.int .i8 dst,.int .i8 src,.int .i8 base,.int .i64 disp,.int .i64 imm,.int .i8 cc]] W fun e w'=>e=.returned (.bool true) ∧ Below W.heap.size W w' by have h:=emay_n ⟨0,wd,dst,src,base,disp,imm,cc⟩ W hw;rw [hm] at h;exact h)
  have CL:=Lib.hid (fun W=>cls_is (show clsI 0=1 by decide) W)
  have B_dst:=Lib.hid (fun W=>ebit_n dst hd W)
  clear hm hw hd hs hb
  generalize (2:Int) ^ dst.toNat=p_dst at *
  go_enter Tryd.func18,Tryd.ntmps18
  go_wp2_with fail
  refine (MY.out _).mono ?_
  rintro e w1 ⟨rfl,b1⟩
  have B1:=Lib.hid b1
  clear b1
  obtain ⟨c0_1,c1_1,c2_1,c3_1,c4_1,c5_1,c6_1,c7_1⟩:=xcells B1.out
  go_wp2_with fail
  refine (B_dst.out _).mono ?_
  rintro e y ⟨rfl,rfl⟩
  go_wp2_with fail
  go_ret
  exact ⟨rfl,below_boxed B1.out⟩
set_option maxHeartbeats 4000000 in
theorem ereads_1 (wd dst src base disp imm cc:Int) (W:World) (hm:mayX ⟨1,wd,dst,src,base,disp,imm,cc⟩=true) (hw:-128 ≤ wd ∧ wd < 128) (hd:0 ≤ dst ∧ dst < 16) (hs:0 ≤ src ∧ src < 16) (hb:0 ≤ base ∧ base < 16):
    Calls Tryd.prog 16 #[.agg #[.int .i8 1,.int .i8 wd,.int .i8 dst,.int .i8 src,.int .i8 base,.int .i64 disp,.int .i64 imm,.int .i8 cc]] W fun e w'=>e=.returned (.int .i64 (0)) ∧ Below W.heap.size W w':=by
  have MY:=Lib.hid (fun W=>show Calls Tryd.prog 12 #[.agg #[.int .i8 1,.int .i8 wd,.int .i8 dst,.int .i8 src,.int .i8 base,.int .i64 disp,.int .i64 imm,.int .i8 cc]] W fun e w'=>e=.returned (.bool true) ∧ Below W.heap.size W w' by have h:=emay_n ⟨1,wd,dst,src,base,disp,imm,cc⟩ W hw;rw [hm] at h;exact h)
  have CL:=Lib.hid (fun W=>cls_is (show clsI 1=2 by decide) W)
  clear hm hw hd hs hb
  go_enter Tryd.func16,Tryd.ntmps16
  go_wp2_with fail
  refine (MY.out _).mono ?_
  rintro e w1 ⟨rfl,b1⟩
  have B1:=Lib.hid b1
  clear b1
  obtain ⟨c0_1,c1_1,c2_1,c3_1,c4_1,c5_1,c6_1,c7_1⟩:=xcells B1.out
  go_wp2_with fail
  go_ret
  exact ⟨rfl,below_boxed B1.out⟩
set_option maxHeartbeats 4000000 in
theorem ewrites_1 (wd dst src base disp imm cc:Int) (W:World) (hm:mayX ⟨1,wd,dst,src,base,disp,imm,cc⟩=true) (hw:-128 ≤ wd ∧ wd < 128) (hd:0 ≤ dst ∧ dst < 16) (hs:0 ≤ src ∧ src < 16) (hb:0 ≤ base ∧ base < 16):
    Calls Tryd.prog 18 #[.agg #[.int .i8 1,.int .i8 wd,.int .i8 dst,.int .i8 src,.int .i8 base,.int .i64 disp,.int .i64 imm,.int .i8 cc]] W fun e w'=>e=.returned (.int .i64 ((2:Int) ^ (dst:Int).toNat)) ∧ Below W.heap.size W w':=by
  have MY:=Lib.hid (fun W=>show Calls Tryd.prog 12 #[.agg #[.int .i8 1,.int .i8 wd,.int .i8 dst,.int .i8 src,.int .i8 base,.int .i64 disp,.int .i64 imm,.int .i8 cc]] W fun e w'=>e=.returned (.bool true) ∧ Below W.heap.size W w' by have h:=emay_n ⟨1,wd,dst,src,base,disp,imm,cc⟩ W hw;rw [hm] at h;exact h)
  have CL:=Lib.hid (fun W=>cls_is (show clsI 1=2 by decide) W)
  have B_dst:=Lib.hid (fun W=>ebit_n dst hd W)
  clear hm hw hd hs hb
  generalize (2:Int) ^ dst.toNat=p_dst at *
  go_enter Tryd.func18,Tryd.ntmps18
  go_wp2_with fail
  refine (MY.out _).mono ?_
  rintro e w1 ⟨rfl,b1⟩
  have B1:=Lib.hid b1
  clear b1
  obtain ⟨c0_1,c1_1,c2_1,c3_1,c4_1,c5_1,c6_1,c7_1⟩:=xcells B1.out
  go_wp2_with fail
  refine (B_dst.out _).mono ?_
  rintro e y ⟨rfl,rfl⟩
  go_wp2_with fail
  go_ret
  exact ⟨rfl,below_boxed B1.out⟩
set_option maxHeartbeats 4000000 in
theorem ereads_2 (wd dst src base disp imm cc:Int) (W:World) (hm:mayX ⟨2,wd,dst,src,base,disp,imm,cc⟩=true) (hw:-128 ≤ wd ∧ wd < 128) (hd:0 ≤ dst ∧ dst < 16) (hs:0 ≤ src ∧ src < 16) (hb:0 ≤ base ∧ base < 16):
    Calls Tryd.prog 16 #[.agg #[.int .i8 2,.int .i8 wd,.int .i8 dst,.int .i8 src,.int .i8 base,.int .i64 disp,.int .i64 imm,.int .i8 cc]] W fun e w'=>e=.returned (.int .i64 (bits .or .i64 ((2:Int) ^ (dst:Int).toNat) ((2:Int) ^ (src:Int).toNat))) ∧ Below W.heap.size W w':=by
  have MY:=Lib.hid (fun W=>show Calls Tryd.prog 12 #[.agg #[.int .i8 2,.int .i8 wd,.int .i8 dst,.int .i8 src,.int .i8 base,.int .i64 disp,.int .i64 imm,.int .i8 cc]] W fun e w'=>e=.returned (.bool true) ∧ Below W.heap.size W w' by have h:=emay_n ⟨2,wd,dst,src,base,disp,imm,cc⟩ W hw;rw [hm] at h;exact h)
  have CL:=Lib.hid (fun W=>cls_is (show clsI 2=1 by decide) W)
  have B_dst:=Lib.hid (fun W=>ebit_n dst hd W)
  have B_src:=Lib.hid (fun W=>ebit_n src hs W)
  clear hm hw hd hs hb
  generalize (2:Int) ^ dst.toNat=p_dst at *
  generalize (2:Int) ^ src.toNat=p_src at *
  go_enter Tryd.func16,Tryd.ntmps16
  go_wp2_with fail
  refine (MY.out _).mono ?_
  rintro e w1 ⟨rfl,b1⟩
  have B1:=Lib.hid b1
  clear b1
  obtain ⟨c0_1,c1_1,c2_1,c3_1,c4_1,c5_1,c6_1,c7_1⟩:=xcells B1.out
  go_wp2_with fail
  refine (CL.out _).mono ?_
  rintro e y ⟨rfl,rfl⟩
  go_wp2_with fail
  have KS:=Lib.hid (fun w' (b:Below (W.alloc (.cells #[.int .i8 2,.int .i8 wd,.int .i8 dst,.int .i8 src,.int .i8 base,.int .i64 disp,.int .i64 imm,.int .i8 cc] 24)).heap.size (W.alloc (.cells #[.int .i8 2,.int .i8 wd,.int .i8 dst,.int .i8 src,.int .i8 base,.int .i64 disp,.int .i64 imm,.int .i8 cc] 24)) w')=>show w'.cell? ⟨W.heap.size,2,none⟩=some (.int .i8 dst) ∧ w'.cell? ⟨W.heap.size,3,none⟩=some (.int .i8 src) ∧ Below (W.alloc (.cells #[.int .i8 2,.int .i8 wd,.int .i8 dst,.int .i8 src,.int .i8 base,.int .i64 disp,.int .i64 imm,.int .i8 cc] 24)).heap.size (W.alloc (.cells #[.int .i8 2,.int .i8 wd,.int .i8 dst,.int .i8 src,.int .i8 base,.int .i64 disp,.int .i64 imm,.int .i8 cc] 24)) w' from by obtain ⟨h0,h1,h2,h3,h4,h5,h6,h7⟩:=xcells b;exact ⟨h2,h3,b⟩)
  go_region_held3 (fun w'=>w'.cell? ⟨W.heap.size,2,none⟩=some (.int .i8 dst) ∧ w'.cell? ⟨W.heap.size,3,none⟩=some (.int .i8 src) ∧ Below (W.alloc (.cells #[.int .i8 2,.int .i8 wd,.int .i8 dst,.int .i8 src,.int .i8 base,.int .i64 disp,.int .i64 imm,.int .i8 cc] 24)).heap.size (W.alloc (.cells #[.int .i8 2,.int .i8 wd,.int .i8 dst,.int .i8 src,.int .i8 base,.int .i64 disp,.int .i64 imm,.int .i8 cc] 24)) w') ((go_split_ands;refine KS.out _ ?_;repeat' (first | assumption | exact B1.out | apply Below.drew | apply below_new))) (first
    | (go_at_call 43;refine (B_dst.out _).mono ?_;rintro e y ⟨rfl,rfl⟩)
    | (go_at_call 43;refine (B_src.out _).mono ?_;rintro e y ⟨rfl,rfl⟩))
  all_goals (
    go_wp2_with fail
    go_ret
    exact ⟨rfl,by repeat (first | exact below_boxed B1.out | apply Below.drew)⟩)
set_option maxHeartbeats 4000000 in
theorem ewrites_2 (wd dst src base disp imm cc:Int) (W:World) (hm:mayX ⟨2,wd,dst,src,base,disp,imm,cc⟩=true) (hw:-128 ≤ wd ∧ wd < 128) (hd:0 ≤ dst ∧ dst < 16) (hs:0 ≤ src ∧ src < 16) (hb:0 ≤ base ∧ base < 16):
    Calls Tryd.prog 18 #[.agg #[.int .i8 2,.int .i8 wd,.int .i8 dst,.int .i8 src,.int .i8 base,.int .i64 disp,.int .i64 imm,.int .i8 cc]] W fun e w'=>e=.returned (.int .i64 ((2:Int) ^ (dst:Int).toNat)) ∧ Below W.heap.size W w':=by
  have MY:=Lib.hid (fun W=>show Calls Tryd.prog 12 #[.agg #[.int .i8 2,.int .i8 wd,.int .i8 dst,.int .i8 src,.int .i8 base,.int .i64 disp,.int .i64 imm,.int .i8 cc]] W fun e w'=>e=.returned (.bool true) ∧ Below W.heap.size W w' by have h:=emay_n ⟨2,wd,dst,src,base,disp,imm,cc⟩ W hw;rw [hm] at h;exact h)
  have CL:=Lib.hid (fun W=>cls_is (show clsI 2=1 by decide) W)
  have B_dst:=Lib.hid (fun W=>ebit_n dst hd W)
  clear hm hw hd hs hb
  generalize (2:Int) ^ dst.toNat=p_dst at *
  go_enter Tryd.func18,Tryd.ntmps18
  go_wp2_with fail
  refine (MY.out _).mono ?_
  rintro e w1 ⟨rfl,b1⟩
  have B1:=Lib.hid b1
  clear b1
  obtain ⟨c0_1,c1_1,c2_1,c3_1,c4_1,c5_1,c6_1,c7_1⟩:=xcells B1.out
  go_wp2_with fail
  refine (B_dst.out _).mono ?_
  rintro e y ⟨rfl,rfl⟩
  go_wp2_with fail
  go_ret
  exact ⟨rfl,below_boxed B1.out⟩
set_option maxHeartbeats 4000000 in
theorem ereads_3 (wd dst src base disp imm cc:Int) (W:World) (hm:mayX ⟨3,wd,dst,src,base,disp,imm,cc⟩=true) (hw:-128 ≤ wd ∧ wd < 128) (hd:0 ≤ dst ∧ dst < 16) (hs:0 ≤ src ∧ src < 16) (hb:0 ≤ base ∧ base < 16):
    Calls Tryd.prog 16 #[.agg #[.int .i8 3,.int .i8 wd,.int .i8 dst,.int .i8 src,.int .i8 base,.int .i64 disp,.int .i64 imm,.int .i8 cc]] W fun e w'=>e=.returned (.int .i64 (bits .or .i64 ((2:Int) ^ (dst:Int).toNat) ((2:Int) ^ (src:Int).toNat))) ∧ Below W.heap.size W w':=by
  have MY:=Lib.hid (fun W=>show Calls Tryd.prog 12 #[.agg #[.int .i8 3,.int .i8 wd,.int .i8 dst,.int .i8 src,.int .i8 base,.int .i64 disp,.int .i64 imm,.int .i8 cc]] W fun e w'=>e=.returned (.bool true) ∧ Below W.heap.size W w' by have h:=emay_n ⟨3,wd,dst,src,base,disp,imm,cc⟩ W hw;rw [hm] at h;exact h)
  have CL:=Lib.hid (fun W=>cls_is (show clsI 3=1 by decide) W)
  have B_dst:=Lib.hid (fun W=>ebit_n dst hd W)
  have B_src:=Lib.hid (fun W=>ebit_n src hs W)
  clear hm hw hd hs hb
  generalize (2:Int) ^ dst.toNat=p_dst at *
  generalize (2:Int) ^ src.toNat=p_src at *
  go_enter Tryd.func16,Tryd.ntmps16
  go_wp2_with fail
  refine (MY.out _).mono ?_
  rintro e w1 ⟨rfl,b1⟩
  have B1:=Lib.hid b1
  clear b1
  obtain ⟨c0_1,c1_1,c2_1,c3_1,c4_1,c5_1,c6_1,c7_1⟩:=xcells B1.out
  go_wp2_with fail
  refine (CL.out _).mono ?_
  rintro e y ⟨rfl,rfl⟩
  go_wp2_with fail
  have KS:=Lib.hid (fun w' (b:Below (W.alloc (.cells #[.int .i8 3,.int .i8 wd,.int .i8 dst,.int .i8 src,.int .i8 base,.int .i64 disp,.int .i64 imm,.int .i8 cc] 24)).heap.size (W.alloc (.cells #[.int .i8 3,.int .i8 wd,.int .i8 dst,.int .i8 src,.int .i8 base,.int .i64 disp,.int .i64 imm,.int .i8 cc] 24)) w')=>show w'.cell? ⟨W.heap.size,2,none⟩=some (.int .i8 dst) ∧ w'.cell? ⟨W.heap.size,3,none⟩=some (.int .i8 src) ∧ Below (W.alloc (.cells #[.int .i8 3,.int .i8 wd,.int .i8 dst,.int .i8 src,.int .i8 base,.int .i64 disp,.int .i64 imm,.int .i8 cc] 24)).heap.size (W.alloc (.cells #[.int .i8 3,.int .i8 wd,.int .i8 dst,.int .i8 src,.int .i8 base,.int .i64 disp,.int .i64 imm,.int .i8 cc] 24)) w' from by obtain ⟨h0,h1,h2,h3,h4,h5,h6,h7⟩:=xcells b;exact ⟨h2,h3,b⟩)
  go_region_held3 (fun w'=>w'.cell? ⟨W.heap.size,2,none⟩=some (.int .i8 dst) ∧ w'.cell? ⟨W.heap.size,3,none⟩=some (.int .i8 src) ∧ Below (W.alloc (.cells #[.int .i8 3,.int .i8 wd,.int .i8 dst,.int .i8 src,.int .i8 base,.int .i64 disp,.int .i64 imm,.int .i8 cc] 24)).heap.size (W.alloc (.cells #[.int .i8 3,.int .i8 wd,.int .i8 dst,.int .i8 src,.int .i8 base,.int .i64 disp,.int .i64 imm,.int .i8 cc] 24)) w') ((go_split_ands;refine KS.out _ ?_;repeat' (first | assumption | exact B1.out | apply Below.drew | apply below_new))) (first
    | (go_at_call 43;refine (B_dst.out _).mono ?_;rintro e y ⟨rfl,rfl⟩)
    | (go_at_call 43;refine (B_src.out _).mono ?_;rintro e y ⟨rfl,rfl⟩))
  all_goals (
    go_wp2_with fail
    go_ret
    exact ⟨rfl,by repeat (first | exact below_boxed B1.out | apply Below.drew)⟩)
set_option maxHeartbeats 4000000 in
theorem ewrites_3 (wd dst src base disp imm cc:Int) (W:World) (hm:mayX ⟨3,wd,dst,src,base,disp,imm,cc⟩=true) (hw:-128 ≤ wd ∧ wd < 128) (hd:0 ≤ dst ∧ dst < 16) (hs:0 ≤ src ∧ src < 16) (hb:0 ≤ base ∧ base < 16):
    Calls Tryd.prog 18 #[.agg #[.int .i8 3,.int .i8 wd,.int .i8 dst,.int .i8 src,.int .i8 base,.int .i64 disp,.int .i64 imm,.int .i8 cc]] W fun e w'=>e=.returned (.int .i64 ((2:Int) ^ (dst:Int).toNat)) ∧ Below W.heap.size W w':=by
  have MY:=Lib.hid (fun W=>show Calls Tryd.prog 12 #[.agg #[.int .i8 3,.int .i8 wd,.int .i8 dst,.int .i8 src,.int .i8 base,.int .i64 disp,.int .i64 imm,.int .i8 cc]] W fun e w'=>e=.returned (.bool true) ∧ Below W.heap.size W w' by have h:=emay_n ⟨3,wd,dst,src,base,disp,imm,cc⟩ W hw;rw [hm] at h;exact h)
  have CL:=Lib.hid (fun W=>cls_is (show clsI 3=1 by decide) W)
  have B_dst:=Lib.hid (fun W=>ebit_n dst hd W)
  clear hm hw hd hs hb
  generalize (2:Int) ^ dst.toNat=p_dst at *
  go_enter Tryd.func18,Tryd.ntmps18
  go_wp2_with fail
  refine (MY.out _).mono ?_
  rintro e w1 ⟨rfl,b1⟩
  have B1:=Lib.hid b1
  clear b1
  obtain ⟨c0_1,c1_1,c2_1,c3_1,c4_1,c5_1,c6_1,c7_1⟩:=xcells B1.out
  go_wp2_with fail
  refine (B_dst.out _).mono ?_
  rintro e y ⟨rfl,rfl⟩
  go_wp2_with fail
  go_ret
  exact ⟨rfl,below_boxed B1.out⟩
set_option maxHeartbeats 4000000 in
theorem ereads_4 (wd dst src base disp imm cc:Int) (W:World) (hm:mayX ⟨4,wd,dst,src,base,disp,imm,cc⟩=true) (hw:-128 ≤ wd ∧ wd < 128) (hd:0 ≤ dst ∧ dst < 16) (hs:0 ≤ src ∧ src < 16) (hb:0 ≤ base ∧ base < 16):
    Calls Tryd.prog 16 #[.agg #[.int .i8 4,.int .i8 wd,.int .i8 dst,.int .i8 src,.int .i8 base,.int .i64 disp,.int .i64 imm,.int .i8 cc]] W fun e w'=>e=.returned (.int .i64 (bits .or .i64 ((2:Int) ^ (dst:Int).toNat) ((2:Int) ^ (src:Int).toNat))) ∧ Below W.heap.size W w':=by
  have MY:=Lib.hid (fun W=>show Calls Tryd.prog 12 #[.agg #[.int .i8 4,.int .i8 wd,.int .i8 dst,.int .i8 src,.int .i8 base,.int .i64 disp,.int .i64 imm,.int .i8 cc]] W fun e w'=>e=.returned (.bool true) ∧ Below W.heap.size W w' by have h:=emay_n ⟨4,wd,dst,src,base,disp,imm,cc⟩ W hw;rw [hm] at h;exact h)
  have CL:=Lib.hid (fun W=>cls_is (show clsI 4=1 by decide) W)
  have B_dst:=Lib.hid (fun W=>ebit_n dst hd W)
  have B_src:=Lib.hid (fun W=>ebit_n src hs W)
  clear hm hw hd hs hb
  generalize (2:Int) ^ dst.toNat=p_dst at *
  generalize (2:Int) ^ src.toNat=p_src at *
  go_enter Tryd.func16,Tryd.ntmps16
  go_wp2_with fail
  refine (MY.out _).mono ?_
  rintro e w1 ⟨rfl,b1⟩
  have B1:=Lib.hid b1
  clear b1
  obtain ⟨c0_1,c1_1,c2_1,c3_1,c4_1,c5_1,c6_1,c7_1⟩:=xcells B1.out
  go_wp2_with fail
  refine (CL.out _).mono ?_
  rintro e y ⟨rfl,rfl⟩
  go_wp2_with fail
  have KS:=Lib.hid (fun w' (b:Below (W.alloc (.cells #[.int .i8 4,.int .i8 wd,.int .i8 dst,.int .i8 src,.int .i8 base,.int .i64 disp,.int .i64 imm,.int .i8 cc] 24)).heap.size (W.alloc (.cells #[.int .i8 4,.int .i8 wd,.int .i8 dst,.int .i8 src,.int .i8 base,.int .i64 disp,.int .i64 imm,.int .i8 cc] 24)) w')=>show w'.cell? ⟨W.heap.size,2,none⟩=some (.int .i8 dst) ∧ w'.cell? ⟨W.heap.size,3,none⟩=some (.int .i8 src) ∧ Below (W.alloc (.cells #[.int .i8 4,.int .i8 wd,.int .i8 dst,.int .i8 src,.int .i8 base,.int .i64 disp,.int .i64 imm,.int .i8 cc] 24)).heap.size (W.alloc (.cells #[.int .i8 4,.int .i8 wd,.int .i8 dst,.int .i8 src,.int .i8 base,.int .i64 disp,.int .i64 imm,.int .i8 cc] 24)) w' from by obtain ⟨h0,h1,h2,h3,h4,h5,h6,h7⟩:=xcells b;exact ⟨h2,h3,b⟩)
  go_region_held3 (fun w'=>w'.cell? ⟨W.heap.size,2,none⟩=some (.int .i8 dst) ∧ w'.cell? ⟨W.heap.size,3,none⟩=some (.int .i8 src) ∧ Below (W.alloc (.cells #[.int .i8 4,.int .i8 wd,.int .i8 dst,.int .i8 src,.int .i8 base,.int .i64 disp,.int .i64 imm,.int .i8 cc] 24)).heap.size (W.alloc (.cells #[.int .i8 4,.int .i8 wd,.int .i8 dst,.int .i8 src,.int .i8 base,.int .i64 disp,.int .i64 imm,.int .i8 cc] 24)) w') ((go_split_ands;refine KS.out _ ?_;repeat' (first | assumption | exact B1.out | apply Below.drew | apply below_new))) (first
    | (go_at_call 43;refine (B_dst.out _).mono ?_;rintro e y ⟨rfl,rfl⟩)
    | (go_at_call 43;refine (B_src.out _).mono ?_;rintro e y ⟨rfl,rfl⟩))
  all_goals (
    go_wp2_with fail
    go_ret
    exact ⟨rfl,by repeat (first | exact below_boxed B1.out | apply Below.drew)⟩)
set_option maxHeartbeats 4000000 in
theorem ewrites_4 (wd dst src base disp imm cc:Int) (W:World) (hm:mayX ⟨4,wd,dst,src,base,disp,imm,cc⟩=true) (hw:-128 ≤ wd ∧ wd < 128) (hd:0 ≤ dst ∧ dst < 16) (hs:0 ≤ src ∧ src < 16) (hb:0 ≤ base ∧ base < 16):
    Calls Tryd.prog 18 #[.agg #[.int .i8 4,.int .i8 wd,.int .i8 dst,.int .i8 src,.int .i8 base,.int .i64 disp,.int .i64 imm,.int .i8 cc]] W fun e w'=>e=.returned (.int .i64 ((2:Int) ^ (dst:Int).toNat)) ∧ Below W.heap.size W w':=by
  have MY:=Lib.hid (fun W=>show Calls Tryd.prog 12 #[.agg #[.int .i8 4,.int .i8 wd,.int .i8 dst,.int .i8 src,.int .i8 base,.int .i64 disp,.int .i64 imm,.int .i8 cc]] W fun e w'=>e=.returned (.bool true) ∧ Below W.heap.size W w' by have h:=emay_n ⟨4,wd,dst,src,base,disp,imm,cc⟩ W hw;rw [hm] at h;exact h)
  have CL:=Lib.hid (fun W=>cls_is (show clsI 4=1 by decide) W)
  have B_dst:=Lib.hid (fun W=>ebit_n dst hd W)
  clear hm hw hd hs hb
  generalize (2:Int) ^ dst.toNat=p_dst at *
  go_enter Tryd.func18,Tryd.ntmps18
  go_wp2_with fail
  refine (MY.out _).mono ?_
  rintro e w1 ⟨rfl,b1⟩
  have B1:=Lib.hid b1
  clear b1
  obtain ⟨c0_1,c1_1,c2_1,c3_1,c4_1,c5_1,c6_1,c7_1⟩:=xcells B1.out
  go_wp2_with fail
  refine (B_dst.out _).mono ?_
  rintro e y ⟨rfl,rfl⟩
  go_wp2_with fail
  go_ret
  exact ⟨rfl,below_boxed B1.out⟩
set_option maxHeartbeats 4000000 in
theorem ereads_5 (wd dst src base disp imm cc:Int) (W:World) (hm:mayX ⟨5,wd,dst,src,base,disp,imm,cc⟩=true) (hw:-128 ≤ wd ∧ wd < 128) (hd:0 ≤ dst ∧ dst < 16) (hs:0 ≤ src ∧ src < 16) (hb:0 ≤ base ∧ base < 16):
    Calls Tryd.prog 16 #[.agg #[.int .i8 5,.int .i8 wd,.int .i8 dst,.int .i8 src,.int .i8 base,.int .i64 disp,.int .i64 imm,.int .i8 cc]] W fun e w'=>e=.returned (.int .i64 (bits .or .i64 ((2:Int) ^ (dst:Int).toNat) ((2:Int) ^ (src:Int).toNat))) ∧ Below W.heap.size W w':=by
  have MY:=Lib.hid (fun W=>show Calls Tryd.prog 12 #[.agg #[.int .i8 5,.int .i8 wd,.int .i8 dst,.int .i8 src,.int .i8 base,.int .i64 disp,.int .i64 imm,.int .i8 cc]] W fun e w'=>e=.returned (.bool true) ∧ Below W.heap.size W w' by have h:=emay_n ⟨5,wd,dst,src,base,disp,imm,cc⟩ W hw;rw [hm] at h;exact h)
  have CL:=Lib.hid (fun W=>cls_is (show clsI 5=1 by decide) W)
  have B_dst:=Lib.hid (fun W=>ebit_n dst hd W)
  have B_src:=Lib.hid (fun W=>ebit_n src hs W)
  clear hm hw hd hs hb
  generalize (2:Int) ^ dst.toNat=p_dst at *
  generalize (2:Int) ^ src.toNat=p_src at *
  go_enter Tryd.func16,Tryd.ntmps16
  go_wp2_with fail
  refine (MY.out _).mono ?_
  rintro e w1 ⟨rfl,b1⟩
  have B1:=Lib.hid b1
  clear b1
  obtain ⟨c0_1,c1_1,c2_1,c3_1,c4_1,c5_1,c6_1,c7_1⟩:=xcells B1.out
  go_wp2_with fail
  refine (CL.out _).mono ?_
  rintro e y ⟨rfl,rfl⟩
  go_wp2_with fail
  have KS:=Lib.hid (fun w' (b:Below (W.alloc (.cells #[.int .i8 5,.int .i8 wd,.int .i8 dst,.int .i8 src,.int .i8 base,.int .i64 disp,.int .i64 imm,.int .i8 cc] 24)).heap.size (W.alloc (.cells #[.int .i8 5,.int .i8 wd,.int .i8 dst,.int .i8 src,.int .i8 base,.int .i64 disp,.int .i64 imm,.int .i8 cc] 24)) w')=>show w'.cell? ⟨W.heap.size,2,none⟩=some (.int .i8 dst) ∧ w'.cell? ⟨W.heap.size,3,none⟩=some (.int .i8 src) ∧ Below (W.alloc (.cells #[.int .i8 5,.int .i8 wd,.int .i8 dst,.int .i8 src,.int .i8 base,.int .i64 disp,.int .i64 imm,.int .i8 cc] 24)).heap.size (W.alloc (.cells #[.int .i8 5,.int .i8 wd,.int .i8 dst,.int .i8 src,.int .i8 base,.int .i64 disp,.int .i64 imm,.int .i8 cc] 24)) w' from by obtain ⟨h0,h1,h2,h3,h4,h5,h6,h7⟩:=xcells b;exact ⟨h2,h3,b⟩)
  go_region_held3 (fun w'=>w'.cell? ⟨W.heap.size,2,none⟩=some (.int .i8 dst) ∧ w'.cell? ⟨W.heap.size,3,none⟩=some (.int .i8 src) ∧ Below (W.alloc (.cells #[.int .i8 5,.int .i8 wd,.int .i8 dst,.int .i8 src,.int .i8 base,.int .i64 disp,.int .i64 imm,.int .i8 cc] 24)).heap.size (W.alloc (.cells #[.int .i8 5,.int .i8 wd,.int .i8 dst,.int .i8 src,.int .i8 base,.int .i64 disp,.int .i64 imm,.int .i8 cc] 24)) w') ((go_split_ands;refine KS.out _ ?_;repeat' (first | assumption | exact B1.out | apply Below.drew | apply below_new))) (first
    | (go_at_call 43;refine (B_dst.out _).mono ?_;rintro e y ⟨rfl,rfl⟩)
    | (go_at_call 43;refine (B_src.out _).mono ?_;rintro e y ⟨rfl,rfl⟩))
  all_goals (
    go_wp2_with fail
    go_ret
    exact ⟨rfl,by repeat (first | exact below_boxed B1.out | apply Below.drew)⟩)
set_option maxHeartbeats 4000000 in
theorem ewrites_5 (wd dst src base disp imm cc:Int) (W:World) (hm:mayX ⟨5,wd,dst,src,base,disp,imm,cc⟩=true) (hw:-128 ≤ wd ∧ wd < 128) (hd:0 ≤ dst ∧ dst < 16) (hs:0 ≤ src ∧ src < 16) (hb:0 ≤ base ∧ base < 16):
    Calls Tryd.prog 18 #[.agg #[.int .i8 5,.int .i8 wd,.int .i8 dst,.int .i8 src,.int .i8 base,.int .i64 disp,.int .i64 imm,.int .i8 cc]] W fun e w'=>e=.returned (.int .i64 ((2:Int) ^ (dst:Int).toNat)) ∧ Below W.heap.size W w':=by
  have MY:=Lib.hid (fun W=>show Calls Tryd.prog 12 #[.agg #[.int .i8 5,.int .i8 wd,.int .i8 dst,.int .i8 src,.int .i8 base,.int .i64 disp,.int .i64 imm,.int .i8 cc]] W fun e w'=>e=.returned (.bool true) ∧ Below W.heap.size W w' by have h:=emay_n ⟨5,wd,dst,src,base,disp,imm,cc⟩ W hw;rw [hm] at h;exact h)
  have CL:=Lib.hid (fun W=>cls_is (show clsI 5=1 by decide) W)
  have B_dst:=Lib.hid (fun W=>ebit_n dst hd W)
  clear hm hw hd hs hb
  generalize (2:Int) ^ dst.toNat=p_dst at *
  go_enter Tryd.func18,Tryd.ntmps18
  go_wp2_with fail
  refine (MY.out _).mono ?_
  rintro e w1 ⟨rfl,b1⟩
  have B1:=Lib.hid b1
  clear b1
  obtain ⟨c0_1,c1_1,c2_1,c3_1,c4_1,c5_1,c6_1,c7_1⟩:=xcells B1.out
  go_wp2_with fail
  refine (B_dst.out _).mono ?_
  rintro e y ⟨rfl,rfl⟩
  go_wp2_with fail
  go_ret
  exact ⟨rfl,below_boxed B1.out⟩
set_option maxHeartbeats 4000000 in
theorem ereads_6 (wd dst src base disp imm cc:Int) (W:World) (hm:mayX ⟨6,wd,dst,src,base,disp,imm,cc⟩=true) (hw:-128 ≤ wd ∧ wd < 128) (hd:0 ≤ dst ∧ dst < 16) (hs:0 ≤ src ∧ src < 16) (hb:0 ≤ base ∧ base < 16):
    Calls Tryd.prog 16 #[.agg #[.int .i8 6,.int .i8 wd,.int .i8 dst,.int .i8 src,.int .i8 base,.int .i64 disp,.int .i64 imm,.int .i8 cc]] W fun e w'=>e=.returned (.int .i64 (bits .or .i64 ((2:Int) ^ (dst:Int).toNat) ((2:Int) ^ (src:Int).toNat))) ∧ Below W.heap.size W w':=by
  have MY:=Lib.hid (fun W=>show Calls Tryd.prog 12 #[.agg #[.int .i8 6,.int .i8 wd,.int .i8 dst,.int .i8 src,.int .i8 base,.int .i64 disp,.int .i64 imm,.int .i8 cc]] W fun e w'=>e=.returned (.bool true) ∧ Below W.heap.size W w' by have h:=emay_n ⟨6,wd,dst,src,base,disp,imm,cc⟩ W hw;rw [hm] at h;exact h)
  have CL:=Lib.hid (fun W=>cls_is (show clsI 6=1 by decide) W)
  have B_dst:=Lib.hid (fun W=>ebit_n dst hd W)
  have B_src:=Lib.hid (fun W=>ebit_n src hs W)
  clear hm hw hd hs hb
  generalize (2:Int) ^ dst.toNat=p_dst at *
  generalize (2:Int) ^ src.toNat=p_src at *
  go_enter Tryd.func16,Tryd.ntmps16
  go_wp2_with fail
  refine (MY.out _).mono ?_
  rintro e w1 ⟨rfl,b1⟩
  have B1:=Lib.hid b1
  clear b1
  obtain ⟨c0_1,c1_1,c2_1,c3_1,c4_1,c5_1,c6_1,c7_1⟩:=xcells B1.out
  go_wp2_with fail
  refine (CL.out _).mono ?_
  rintro e y ⟨rfl,rfl⟩
  go_wp2_with fail
  have KS:=Lib.hid (fun w' (b:Below (W.alloc (.cells #[.int .i8 6,.int .i8 wd,.int .i8 dst,.int .i8 src,.int .i8 base,.int .i64 disp,.int .i64 imm,.int .i8 cc] 24)).heap.size (W.alloc (.cells #[.int .i8 6,.int .i8 wd,.int .i8 dst,.int .i8 src,.int .i8 base,.int .i64 disp,.int .i64 imm,.int .i8 cc] 24)) w')=>show w'.cell? ⟨W.heap.size,2,none⟩=some (.int .i8 dst) ∧ w'.cell? ⟨W.heap.size,3,none⟩=some (.int .i8 src) ∧ Below (W.alloc (.cells #[.int .i8 6,.int .i8 wd,.int .i8 dst,.int .i8 src,.int .i8 base,.int .i64 disp,.int .i64 imm,.int .i8 cc] 24)).heap.size (W.alloc (.cells #[.int .i8 6,.int .i8 wd,.int .i8 dst,.int .i8 src,.int .i8 base,.int .i64 disp,.int .i64 imm,.int .i8 cc] 24)) w' from by obtain ⟨h0,h1,h2,h3,h4,h5,h6,h7⟩:=xcells b;exact ⟨h2,h3,b⟩)
  go_region_held3 (fun w'=>w'.cell? ⟨W.heap.size,2,none⟩=some (.int .i8 dst) ∧ w'.cell? ⟨W.heap.size,3,none⟩=some (.int .i8 src) ∧ Below (W.alloc (.cells #[.int .i8 6,.int .i8 wd,.int .i8 dst,.int .i8 src,.int .i8 base,.int .i64 disp,.int .i64 imm,.int .i8 cc] 24)).heap.size (W.alloc (.cells #[.int .i8 6,.int .i8 wd,.int .i8 dst,.int .i8 src,.int .i8 base,.int .i64 disp,.int .i64 imm,.int .i8 cc] 24)) w') ((go_split_ands;refine KS.out _ ?_;repeat' (first | assumption | exact B1.out | apply Below.drew | apply below_new))) (first
    | (go_at_call 43;refine (B_dst.out _).mono ?_;rintro e y ⟨rfl,rfl⟩)
    | (go_at_call 43;refine (B_src.out _).mono ?_;rintro e y ⟨rfl,rfl⟩))
  all_goals (
    go_wp2_with fail
    go_ret
    exact ⟨rfl,by repeat (first | exact below_boxed B1.out | apply Below.drew)⟩)
set_option maxHeartbeats 4000000 in
theorem ewrites_6 (wd dst src base disp imm cc:Int) (W:World) (hm:mayX ⟨6,wd,dst,src,base,disp,imm,cc⟩=true) (hw:-128 ≤ wd ∧ wd < 128) (hd:0 ≤ dst ∧ dst < 16) (hs:0 ≤ src ∧ src < 16) (hb:0 ≤ base ∧ base < 16):
    Calls Tryd.prog 18 #[.agg #[.int .i8 6,.int .i8 wd,.int .i8 dst,.int .i8 src,.int .i8 base,.int .i64 disp,.int .i64 imm,.int .i8 cc]] W fun e w'=>e=.returned (.int .i64 ((2:Int) ^ (dst:Int).toNat)) ∧ Below W.heap.size W w':=by
  have MY:=Lib.hid (fun W=>show Calls Tryd.prog 12 #[.agg #[.int .i8 6,.int .i8 wd,.int .i8 dst,.int .i8 src,.int .i8 base,.int .i64 disp,.int .i64 imm,.int .i8 cc]] W fun e w'=>e=.returned (.bool true) ∧ Below W.heap.size W w' by have h:=emay_n ⟨6,wd,dst,src,base,disp,imm,cc⟩ W hw;rw [hm] at h;exact h)
  have CL:=Lib.hid (fun W=>cls_is (show clsI 6=1 by decide) W)
  have B_dst:=Lib.hid (fun W=>ebit_n dst hd W)
  clear hm hw hd hs hb
  generalize (2:Int) ^ dst.toNat=p_dst at *
  go_enter Tryd.func18,Tryd.ntmps18
  go_wp2_with fail
  refine (MY.out _).mono ?_
  rintro e w1 ⟨rfl,b1⟩
  have B1:=Lib.hid b1
  clear b1
  obtain ⟨c0_1,c1_1,c2_1,c3_1,c4_1,c5_1,c6_1,c7_1⟩:=xcells B1.out
  go_wp2_with fail
  refine (B_dst.out _).mono ?_
  rintro e y ⟨rfl,rfl⟩
  go_wp2_with fail
  go_ret
  exact ⟨rfl,below_boxed B1.out⟩
set_option maxHeartbeats 4000000 in
theorem ereads_7 (wd dst src base disp imm cc:Int) (W:World) (hm:mayX ⟨7,wd,dst,src,base,disp,imm,cc⟩=true) (hw:-128 ≤ wd ∧ wd < 128) (hd:0 ≤ dst ∧ dst < 16) (hs:0 ≤ src ∧ src < 16) (hb:0 ≤ base ∧ base < 16):
    Calls Tryd.prog 16 #[.agg #[.int .i8 7,.int .i8 wd,.int .i8 dst,.int .i8 src,.int .i8 base,.int .i64 disp,.int .i64 imm,.int .i8 cc]] W fun e w'=>e=.returned (.int .i64 (bits .or .i64 ((2:Int) ^ (dst:Int).toNat) ((2:Int) ^ (src:Int).toNat))) ∧ Below W.heap.size W w':=by
  have MY:=Lib.hid (fun W=>show Calls Tryd.prog 12 #[.agg #[.int .i8 7,.int .i8 wd,.int .i8 dst,.int .i8 src,.int .i8 base,.int .i64 disp,.int .i64 imm,.int .i8 cc]] W fun e w'=>e=.returned (.bool true) ∧ Below W.heap.size W w' by have h:=emay_n ⟨7,wd,dst,src,base,disp,imm,cc⟩ W hw;rw [hm] at h;exact h)
  have CL:=Lib.hid (fun W=>cls_is (show clsI 7=1 by decide) W)
  have B_dst:=Lib.hid (fun W=>ebit_n dst hd W)
  have B_src:=Lib.hid (fun W=>ebit_n src hs W)
  clear hm hw hd hs hb
  generalize (2:Int) ^ dst.toNat=p_dst at *
  generalize (2:Int) ^ src.toNat=p_src at *
  go_enter Tryd.func16,Tryd.ntmps16
  go_wp2_with fail
  refine (MY.out _).mono ?_
  rintro e w1 ⟨rfl,b1⟩
  have B1:=Lib.hid b1
  clear b1
  obtain ⟨c0_1,c1_1,c2_1,c3_1,c4_1,c5_1,c6_1,c7_1⟩:=xcells B1.out
  go_wp2_with fail
  refine (CL.out _).mono ?_
  rintro e y ⟨rfl,rfl⟩
  go_wp2_with fail
  have KS:=Lib.hid (fun w' (b:Below (W.alloc (.cells #[.int .i8 7,.int .i8 wd,.int .i8 dst,.int .i8 src,.int .i8 base,.int .i64 disp,.int .i64 imm,.int .i8 cc] 24)).heap.size (W.alloc (.cells #[.int .i8 7,.int .i8 wd,.int .i8 dst,.int .i8 src,.int .i8 base,.int .i64 disp,.int .i64 imm,.int .i8 cc] 24)) w')=>show w'.cell? ⟨W.heap.size,2,none⟩=some (.int .i8 dst) ∧ w'.cell? ⟨W.heap.size,3,none⟩=some (.int .i8 src) ∧ Below (W.alloc (.cells #[.int .i8 7,.int .i8 wd,.int .i8 dst,.int .i8 src,.int .i8 base,.int .i64 disp,.int .i64 imm,.int .i8 cc] 24)).heap.size (W.alloc (.cells #[.int .i8 7,.int .i8 wd,.int .i8 dst,.int .i8 src,.int .i8 base,.int .i64 disp,.int .i64 imm,.int .i8 cc] 24)) w' from by obtain ⟨h0,h1,h2,h3,h4,h5,h6,h7⟩:=xcells b;exact ⟨h2,h3,b⟩)
  go_region_held3 (fun w'=>w'.cell? ⟨W.heap.size,2,none⟩=some (.int .i8 dst) ∧ w'.cell? ⟨W.heap.size,3,none⟩=some (.int .i8 src) ∧ Below (W.alloc (.cells #[.int .i8 7,.int .i8 wd,.int .i8 dst,.int .i8 src,.int .i8 base,.int .i64 disp,.int .i64 imm,.int .i8 cc] 24)).heap.size (W.alloc (.cells #[.int .i8 7,.int .i8 wd,.int .i8 dst,.int .i8 src,.int .i8 base,.int .i64 disp,.int .i64 imm,.int .i8 cc] 24)) w') ((go_split_ands;refine KS.out _ ?_;repeat' (first | assumption | exact B1.out | apply Below.drew | apply below_new))) (first
    | (go_at_call 43;refine (B_dst.out _).mono ?_;rintro e y ⟨rfl,rfl⟩)
    | (go_at_call 43;refine (B_src.out _).mono ?_;rintro e y ⟨rfl,rfl⟩))
  all_goals (
    go_wp2_with fail
    go_ret
    exact ⟨rfl,by repeat (first | exact below_boxed B1.out | apply Below.drew)⟩)
set_option maxHeartbeats 4000000 in
theorem ewrites_7 (wd dst src base disp imm cc:Int) (W:World) (hm:mayX ⟨7,wd,dst,src,base,disp,imm,cc⟩=true) (hw:-128 ≤ wd ∧ wd < 128) (hd:0 ≤ dst ∧ dst < 16) (hs:0 ≤ src ∧ src < 16) (hb:0 ≤ base ∧ base < 16):
    Calls Tryd.prog 18 #[.agg #[.int .i8 7,.int .i8 wd,.int .i8 dst,.int .i8 src,.int .i8 base,.int .i64 disp,.int .i64 imm,.int .i8 cc]] W fun e w'=>e=.returned (.int .i64 (0)) ∧ Below W.heap.size W w':=by
  have MY:=Lib.hid (fun W=>show Calls Tryd.prog 12 #[.agg #[.int .i8 7,.int .i8 wd,.int .i8 dst,.int .i8 src,.int .i8 base,.int .i64 disp,.int .i64 imm,.int .i8 cc]] W fun e w'=>e=.returned (.bool true) ∧ Below W.heap.size W w' by have h:=emay_n ⟨7,wd,dst,src,base,disp,imm,cc⟩ W hw;rw [hm] at h;exact h)
  have CL:=Lib.hid (fun W=>cls_is (show clsI 7=1 by decide) W)
  clear hm hw hd hs hb
  go_enter Tryd.func18,Tryd.ntmps18
  go_wp2_with fail
  refine (MY.out _).mono ?_
  rintro e w1 ⟨rfl,b1⟩
  have B1:=Lib.hid b1
  clear b1
  obtain ⟨c0_1,c1_1,c2_1,c3_1,c4_1,c5_1,c6_1,c7_1⟩:=xcells B1.out
  go_wp2_with fail
  go_ret
  exact ⟨rfl,below_boxed B1.out⟩
set_option maxHeartbeats 4000000 in
theorem ereads_8 (wd dst src base disp imm cc:Int) (W:World) (hm:mayX ⟨8,wd,dst,src,base,disp,imm,cc⟩=true) (hw:-128 ≤ wd ∧ wd < 128) (hd:0 ≤ dst ∧ dst < 16) (hs:0 ≤ src ∧ src < 16) (hb:0 ≤ base ∧ base < 16):
    Calls Tryd.prog 16 #[.agg #[.int .i8 8,.int .i8 wd,.int .i8 dst,.int .i8 src,.int .i8 base,.int .i64 disp,.int .i64 imm,.int .i8 cc]] W fun e w'=>e=.returned (.int .i64 (bits .or .i64 ((2:Int) ^ (dst:Int).toNat) ((2:Int) ^ (src:Int).toNat))) ∧ Below W.heap.size W w':=by
  have MY:=Lib.hid (fun W=>show Calls Tryd.prog 12 #[.agg #[.int .i8 8,.int .i8 wd,.int .i8 dst,.int .i8 src,.int .i8 base,.int .i64 disp,.int .i64 imm,.int .i8 cc]] W fun e w'=>e=.returned (.bool true) ∧ Below W.heap.size W w' by have h:=emay_n ⟨8,wd,dst,src,base,disp,imm,cc⟩ W hw;rw [hm] at h;exact h)
  have CL:=Lib.hid (fun W=>cls_is (show clsI 8=1 by decide) W)
  have B_dst:=Lib.hid (fun W=>ebit_n dst hd W)
  have B_src:=Lib.hid (fun W=>ebit_n src hs W)
  clear hm hw hd hs hb
  generalize (2:Int) ^ dst.toNat=p_dst at *
  generalize (2:Int) ^ src.toNat=p_src at *
  go_enter Tryd.func16,Tryd.ntmps16
  go_wp2_with fail
  refine (MY.out _).mono ?_
  rintro e w1 ⟨rfl,b1⟩
  have B1:=Lib.hid b1
  clear b1
  obtain ⟨c0_1,c1_1,c2_1,c3_1,c4_1,c5_1,c6_1,c7_1⟩:=xcells B1.out
  go_wp2_with fail
  refine (CL.out _).mono ?_
  rintro e y ⟨rfl,rfl⟩
  go_wp2_with fail
  have KS:=Lib.hid (fun w' (b:Below (W.alloc (.cells #[.int .i8 8,.int .i8 wd,.int .i8 dst,.int .i8 src,.int .i8 base,.int .i64 disp,.int .i64 imm,.int .i8 cc] 24)).heap.size (W.alloc (.cells #[.int .i8 8,.int .i8 wd,.int .i8 dst,.int .i8 src,.int .i8 base,.int .i64 disp,.int .i64 imm,.int .i8 cc] 24)) w')=>show w'.cell? ⟨W.heap.size,2,none⟩=some (.int .i8 dst) ∧ w'.cell? ⟨W.heap.size,3,none⟩=some (.int .i8 src) ∧ Below (W.alloc (.cells #[.int .i8 8,.int .i8 wd,.int .i8 dst,.int .i8 src,.int .i8 base,.int .i64 disp,.int .i64 imm,.int .i8 cc] 24)).heap.size (W.alloc (.cells #[.int .i8 8,.int .i8 wd,.int .i8 dst,.int .i8 src,.int .i8 base,.int .i64 disp,.int .i64 imm,.int .i8 cc] 24)) w' from by obtain ⟨h0,h1,h2,h3,h4,h5,h6,h7⟩:=xcells b;exact ⟨h2,h3,b⟩)
  go_region_held3 (fun w'=>w'.cell? ⟨W.heap.size,2,none⟩=some (.int .i8 dst) ∧ w'.cell? ⟨W.heap.size,3,none⟩=some (.int .i8 src) ∧ Below (W.alloc (.cells #[.int .i8 8,.int .i8 wd,.int .i8 dst,.int .i8 src,.int .i8 base,.int .i64 disp,.int .i64 imm,.int .i8 cc] 24)).heap.size (W.alloc (.cells #[.int .i8 8,.int .i8 wd,.int .i8 dst,.int .i8 src,.int .i8 base,.int .i64 disp,.int .i64 imm,.int .i8 cc] 24)) w') ((go_split_ands;refine KS.out _ ?_;repeat' (first | assumption | exact B1.out | apply Below.drew | apply below_new))) (first
    | (go_at_call 43;refine (B_dst.out _).mono ?_;rintro e y ⟨rfl,rfl⟩)
    | (go_at_call 43;refine (B_src.out _).mono ?_;rintro e y ⟨rfl,rfl⟩))
  all_goals (
    go_wp2_with fail
    go_ret
    exact ⟨rfl,by repeat (first | exact below_boxed B1.out | apply Below.drew)⟩)
set_option maxHeartbeats 4000000 in
theorem ewrites_8 (wd dst src base disp imm cc:Int) (W:World) (hm:mayX ⟨8,wd,dst,src,base,disp,imm,cc⟩=true) (hw:-128 ≤ wd ∧ wd < 128) (hd:0 ≤ dst ∧ dst < 16) (hs:0 ≤ src ∧ src < 16) (hb:0 ≤ base ∧ base < 16):
    Calls Tryd.prog 18 #[.agg #[.int .i8 8,.int .i8 wd,.int .i8 dst,.int .i8 src,.int .i8 base,.int .i64 disp,.int .i64 imm,.int .i8 cc]] W fun e w'=>e=.returned (.int .i64 (0)) ∧ Below W.heap.size W w':=by
  have MY:=Lib.hid (fun W=>show Calls Tryd.prog 12 #[.agg #[.int .i8 8,.int .i8 wd,.int .i8 dst,.int .i8 src,.int .i8 base,.int .i64 disp,.int .i64 imm,.int .i8 cc]] W fun e w'=>e=.returned (.bool true) ∧ Below W.heap.size W w' by have h:=emay_n ⟨8,wd,dst,src,base,disp,imm,cc⟩ W hw;rw [hm] at h;exact h)
  have CL:=Lib.hid (fun W=>cls_is (show clsI 8=1 by decide) W)
  clear hm hw hd hs hb
  go_enter Tryd.func18,Tryd.ntmps18
  go_wp2_with fail
  refine (MY.out _).mono ?_
  rintro e w1 ⟨rfl,b1⟩
  have B1:=Lib.hid b1
  clear b1
  obtain ⟨c0_1,c1_1,c2_1,c3_1,c4_1,c5_1,c6_1,c7_1⟩:=xcells B1.out
  go_wp2_with fail
  go_ret
  exact ⟨rfl,below_boxed B1.out⟩
set_option maxHeartbeats 4000000 in
theorem ereads_9 (wd dst src base disp imm cc:Int) (W:World) (hm:mayX ⟨9,wd,dst,src,base,disp,imm,cc⟩=true) (hw:-128 ≤ wd ∧ wd < 128) (hd:0 ≤ dst ∧ dst < 16) (hs:0 ≤ src ∧ src < 16) (hb:0 ≤ base ∧ base < 16):
    Calls Tryd.prog 16 #[.agg #[.int .i8 9,.int .i8 wd,.int .i8 dst,.int .i8 src,.int .i8 base,.int .i64 disp,.int .i64 imm,.int .i8 cc]] W fun e w'=>e=.returned (.int .i64 ((2:Int) ^ (dst:Int).toNat)) ∧ Below W.heap.size W w':=by
  have MY:=Lib.hid (fun W=>show Calls Tryd.prog 12 #[.agg #[.int .i8 9,.int .i8 wd,.int .i8 dst,.int .i8 src,.int .i8 base,.int .i64 disp,.int .i64 imm,.int .i8 cc]] W fun e w'=>e=.returned (.bool true) ∧ Below W.heap.size W w' by have h:=emay_n ⟨9,wd,dst,src,base,disp,imm,cc⟩ W hw;rw [hm] at h;exact h)
  have CL:=Lib.hid (fun W=>cls_is (show clsI 9=2 by decide) W)
  have B_dst:=Lib.hid (fun W=>ebit_n dst hd W)
  clear hm hw hd hs hb
  generalize (2:Int) ^ dst.toNat=p_dst at *
  go_enter Tryd.func16,Tryd.ntmps16
  go_wp2_with fail
  refine (MY.out _).mono ?_
  rintro e w1 ⟨rfl,b1⟩
  have B1:=Lib.hid b1
  clear b1
  obtain ⟨c0_1,c1_1,c2_1,c3_1,c4_1,c5_1,c6_1,c7_1⟩:=xcells B1.out
  go_wp2_with fail
  refine (CL.out _).mono ?_
  rintro e y ⟨rfl,rfl⟩
  go_wp2_with fail
  refine (B_dst.out _).mono ?_
  rintro e y ⟨rfl,rfl⟩
  go_wp2_with fail
  go_ret
  exact ⟨rfl,below_boxed B1.out⟩
set_option maxHeartbeats 4000000 in
theorem ewrites_9 (wd dst src base disp imm cc:Int) (W:World) (hm:mayX ⟨9,wd,dst,src,base,disp,imm,cc⟩=true) (hw:-128 ≤ wd ∧ wd < 128) (hd:0 ≤ dst ∧ dst < 16) (hs:0 ≤ src ∧ src < 16) (hb:0 ≤ base ∧ base < 16):
    Calls Tryd.prog 18 #[.agg #[.int .i8 9,.int .i8 wd,.int .i8 dst,.int .i8 src,.int .i8 base,.int .i64 disp,.int .i64 imm,.int .i8 cc]] W fun e w'=>e=.returned (.int .i64 ((2:Int) ^ (dst:Int).toNat)) ∧ Below W.heap.size W w':=by
  have MY:=Lib.hid (fun W=>show Calls Tryd.prog 12 #[.agg #[.int .i8 9,.int .i8 wd,.int .i8 dst,.int .i8 src,.int .i8 base,.int .i64 disp,.int .i64 imm,.int .i8 cc]] W fun e w'=>e=.returned (.bool true) ∧ Below W.heap.size W w' by have h:=emay_n ⟨9,wd,dst,src,base,disp,imm,cc⟩ W hw;rw [hm] at h;exact h)
  have CL:=Lib.hid (fun W=>cls_is (show clsI 9=2 by decide) W)
  have B_dst:=Lib.hid (fun W=>ebit_n dst hd W)
  clear hm hw hd hs hb
  generalize (2:Int) ^ dst.toNat=p_dst at *
  go_enter Tryd.func18,Tryd.ntmps18
  go_wp2_with fail
  refine (MY.out _).mono ?_
  rintro e w1 ⟨rfl,b1⟩
  have B1:=Lib.hid b1
  clear b1
  obtain ⟨c0_1,c1_1,c2_1,c3_1,c4_1,c5_1,c6_1,c7_1⟩:=xcells B1.out
  go_wp2_with fail
  refine (B_dst.out _).mono ?_
  rintro e y ⟨rfl,rfl⟩
  go_wp2_with fail
  go_ret
  exact ⟨rfl,below_boxed B1.out⟩
set_option maxHeartbeats 4000000 in
theorem ereads_10 (wd dst src base disp imm cc:Int) (W:World) (hm:mayX ⟨10,wd,dst,src,base,disp,imm,cc⟩=true) (hw:-128 ≤ wd ∧ wd < 128) (hd:0 ≤ dst ∧ dst < 16) (hs:0 ≤ src ∧ src < 16) (hb:0 ≤ base ∧ base < 16):
    Calls Tryd.prog 16 #[.agg #[.int .i8 10,.int .i8 wd,.int .i8 dst,.int .i8 src,.int .i8 base,.int .i64 disp,.int .i64 imm,.int .i8 cc]] W fun e w'=>e=.returned (.int .i64 ((2:Int) ^ (dst:Int).toNat)) ∧ Below W.heap.size W w':=by
  have MY:=Lib.hid (fun W=>show Calls Tryd.prog 12 #[.agg #[.int .i8 10,.int .i8 wd,.int .i8 dst,.int .i8 src,.int .i8 base,.int .i64 disp,.int .i64 imm,.int .i8 cc]] W fun e w'=>e=.returned (.bool true) ∧ Below W.heap.size W w' by have h:=emay_n ⟨10,wd,dst,src,base,disp,imm,cc⟩ W hw;rw [hm] at h;exact h)
  have CL:=Lib.hid (fun W=>cls_is (show clsI 10=2 by decide) W)
  have B_dst:=Lib.hid (fun W=>ebit_n dst hd W)
  clear hm hw hd hs hb
  generalize (2:Int) ^ dst.toNat=p_dst at *
  go_enter Tryd.func16,Tryd.ntmps16
  go_wp2_with fail
  refine (MY.out _).mono ?_
  rintro e w1 ⟨rfl,b1⟩
  have B1:=Lib.hid b1
  clear b1
  obtain ⟨c0_1,c1_1,c2_1,c3_1,c4_1,c5_1,c6_1,c7_1⟩:=xcells B1.out
  go_wp2_with fail
  refine (CL.out _).mono ?_
  rintro e y ⟨rfl,rfl⟩
  go_wp2_with fail
  refine (B_dst.out _).mono ?_
  rintro e y ⟨rfl,rfl⟩
  go_wp2_with fail
  go_ret
  exact ⟨rfl,below_boxed B1.out⟩
set_option maxHeartbeats 4000000 in
theorem ewrites_10 (wd dst src base disp imm cc:Int) (W:World) (hm:mayX ⟨10,wd,dst,src,base,disp,imm,cc⟩=true) (hw:-128 ≤ wd ∧ wd < 128) (hd:0 ≤ dst ∧ dst < 16) (hs:0 ≤ src ∧ src < 16) (hb:0 ≤ base ∧ base < 16):
    Calls Tryd.prog 18 #[.agg #[.int .i8 10,.int .i8 wd,.int .i8 dst,.int .i8 src,.int .i8 base,.int .i64 disp,.int .i64 imm,.int .i8 cc]] W fun e w'=>e=.returned (.int .i64 ((2:Int) ^ (dst:Int).toNat)) ∧ Below W.heap.size W w':=by
  have MY:=Lib.hid (fun W=>show Calls Tryd.prog 12 #[.agg #[.int .i8 10,.int .i8 wd,.int .i8 dst,.int .i8 src,.int .i8 base,.int .i64 disp,.int .i64 imm,.int .i8 cc]] W fun e w'=>e=.returned (.bool true) ∧ Below W.heap.size W w' by have h:=emay_n ⟨10,wd,dst,src,base,disp,imm,cc⟩ W hw;rw [hm] at h;exact h)
  have CL:=Lib.hid (fun W=>cls_is (show clsI 10=2 by decide) W)
  have B_dst:=Lib.hid (fun W=>ebit_n dst hd W)
  clear hm hw hd hs hb
  generalize (2:Int) ^ dst.toNat=p_dst at *
  go_enter Tryd.func18,Tryd.ntmps18
  go_wp2_with fail
  refine (MY.out _).mono ?_
  rintro e w1 ⟨rfl,b1⟩
  have B1:=Lib.hid b1
  clear b1
  obtain ⟨c0_1,c1_1,c2_1,c3_1,c4_1,c5_1,c6_1,c7_1⟩:=xcells B1.out
  go_wp2_with fail
  refine (B_dst.out _).mono ?_
  rintro e y ⟨rfl,rfl⟩
  go_wp2_with fail
  go_ret
  exact ⟨rfl,below_boxed B1.out⟩
set_option maxHeartbeats 4000000 in
theorem ereads_11 (wd dst src base disp imm cc:Int) (W:World) (hm:mayX ⟨11,wd,dst,src,base,disp,imm,cc⟩=true) (hw:-128 ≤ wd ∧ wd < 128) (hd:0 ≤ dst ∧ dst < 16) (hs:0 ≤ src ∧ src < 16) (hb:0 ≤ base ∧ base < 16):
    Calls Tryd.prog 16 #[.agg #[.int .i8 11,.int .i8 wd,.int .i8 dst,.int .i8 src,.int .i8 base,.int .i64 disp,.int .i64 imm,.int .i8 cc]] W fun e w'=>e=.returned (.int .i64 ((2:Int) ^ (dst:Int).toNat)) ∧ Below W.heap.size W w':=by
  have MY:=Lib.hid (fun W=>show Calls Tryd.prog 12 #[.agg #[.int .i8 11,.int .i8 wd,.int .i8 dst,.int .i8 src,.int .i8 base,.int .i64 disp,.int .i64 imm,.int .i8 cc]] W fun e w'=>e=.returned (.bool true) ∧ Below W.heap.size W w' by have h:=emay_n ⟨11,wd,dst,src,base,disp,imm,cc⟩ W hw;rw [hm] at h;exact h)
  have CL:=Lib.hid (fun W=>cls_is (show clsI 11=2 by decide) W)
  have B_dst:=Lib.hid (fun W=>ebit_n dst hd W)
  clear hm hw hd hs hb
  generalize (2:Int) ^ dst.toNat=p_dst at *
  go_enter Tryd.func16,Tryd.ntmps16
  go_wp2_with fail
  refine (MY.out _).mono ?_
  rintro e w1 ⟨rfl,b1⟩
  have B1:=Lib.hid b1
  clear b1
  obtain ⟨c0_1,c1_1,c2_1,c3_1,c4_1,c5_1,c6_1,c7_1⟩:=xcells B1.out
  go_wp2_with fail
  refine (CL.out _).mono ?_
  rintro e y ⟨rfl,rfl⟩
  go_wp2_with fail
  refine (B_dst.out _).mono ?_
  rintro e y ⟨rfl,rfl⟩
  go_wp2_with fail
  go_ret
  exact ⟨rfl,below_boxed B1.out⟩
set_option maxHeartbeats 4000000 in
theorem ewrites_11 (wd dst src base disp imm cc:Int) (W:World) (hm:mayX ⟨11,wd,dst,src,base,disp,imm,cc⟩=true) (hw:-128 ≤ wd ∧ wd < 128) (hd:0 ≤ dst ∧ dst < 16) (hs:0 ≤ src ∧ src < 16) (hb:0 ≤ base ∧ base < 16):
    Calls Tryd.prog 18 #[.agg #[.int .i8 11,.int .i8 wd,.int .i8 dst,.int .i8 src,.int .i8 base,.int .i64 disp,.int .i64 imm,.int .i8 cc]] W fun e w'=>e=.returned (.int .i64 ((2:Int) ^ (dst:Int).toNat)) ∧ Below W.heap.size W w':=by
  have MY:=Lib.hid (fun W=>show Calls Tryd.prog 12 #[.agg #[.int .i8 11,.int .i8 wd,.int .i8 dst,.int .i8 src,.int .i8 base,.int .i64 disp,.int .i64 imm,.int .i8 cc]] W fun e w'=>e=.returned (.bool true) ∧ Below W.heap.size W w' by have h:=emay_n ⟨11,wd,dst,src,base,disp,imm,cc⟩ W hw;rw [hm] at h;exact h)
  have CL:=Lib.hid (fun W=>cls_is (show clsI 11=2 by decide) W)
  have B_dst:=Lib.hid (fun W=>ebit_n dst hd W)
  clear hm hw hd hs hb
  generalize (2:Int) ^ dst.toNat=p_dst at *
  go_enter Tryd.func18,Tryd.ntmps18
  go_wp2_with fail
  refine (MY.out _).mono ?_
  rintro e w1 ⟨rfl,b1⟩
  have B1:=Lib.hid b1
  clear b1
  obtain ⟨c0_1,c1_1,c2_1,c3_1,c4_1,c5_1,c6_1,c7_1⟩:=xcells B1.out
  go_wp2_with fail
  refine (B_dst.out _).mono ?_
  rintro e y ⟨rfl,rfl⟩
  go_wp2_with fail
  go_ret
  exact ⟨rfl,below_boxed B1.out⟩
set_option maxHeartbeats 4000000 in
theorem ereads_12 (wd dst src base disp imm cc:Int) (W:World) (hm:mayX ⟨12,wd,dst,src,base,disp,imm,cc⟩=true) (hw:-128 ≤ wd ∧ wd < 128) (hd:0 ≤ dst ∧ dst < 16) (hs:0 ≤ src ∧ src < 16) (hb:0 ≤ base ∧ base < 16):
    Calls Tryd.prog 16 #[.agg #[.int .i8 12,.int .i8 wd,.int .i8 dst,.int .i8 src,.int .i8 base,.int .i64 disp,.int .i64 imm,.int .i8 cc]] W fun e w'=>e=.returned (.int .i64 ((2:Int) ^ (dst:Int).toNat)) ∧ Below W.heap.size W w':=by
  have MY:=Lib.hid (fun W=>show Calls Tryd.prog 12 #[.agg #[.int .i8 12,.int .i8 wd,.int .i8 dst,.int .i8 src,.int .i8 base,.int .i64 disp,.int .i64 imm,.int .i8 cc]] W fun e w'=>e=.returned (.bool true) ∧ Below W.heap.size W w' by have h:=emay_n ⟨12,wd,dst,src,base,disp,imm,cc⟩ W hw;rw [hm] at h;exact h)
  have CL:=Lib.hid (fun W=>cls_is (show clsI 12=2 by decide) W)
  have B_dst:=Lib.hid (fun W=>ebit_n dst hd W)
  clear hm hw hd hs hb
  generalize (2:Int) ^ dst.toNat=p_dst at *
  go_enter Tryd.func16,Tryd.ntmps16
  go_wp2_with fail
  refine (MY.out _).mono ?_
  rintro e w1 ⟨rfl,b1⟩
  have B1:=Lib.hid b1
  clear b1
  obtain ⟨c0_1,c1_1,c2_1,c3_1,c4_1,c5_1,c6_1,c7_1⟩:=xcells B1.out
  go_wp2_with fail
  refine (CL.out _).mono ?_
  rintro e y ⟨rfl,rfl⟩
  go_wp2_with fail
  refine (B_dst.out _).mono ?_
  rintro e y ⟨rfl,rfl⟩
  go_wp2_with fail
  go_ret
  exact ⟨rfl,below_boxed B1.out⟩
set_option maxHeartbeats 4000000 in
theorem ewrites_12 (wd dst src base disp imm cc:Int) (W:World) (hm:mayX ⟨12,wd,dst,src,base,disp,imm,cc⟩=true) (hw:-128 ≤ wd ∧ wd < 128) (hd:0 ≤ dst ∧ dst < 16) (hs:0 ≤ src ∧ src < 16) (hb:0 ≤ base ∧ base < 16):
    Calls Tryd.prog 18 #[.agg #[.int .i8 12,.int .i8 wd,.int .i8 dst,.int .i8 src,.int .i8 base,.int .i64 disp,.int .i64 imm,.int .i8 cc]] W fun e w'=>e=.returned (.int .i64 ((2:Int) ^ (dst:Int).toNat)) ∧ Below W.heap.size W w':=by
  have MY:=Lib.hid (fun W=>show Calls Tryd.prog 12 #[.agg #[.int .i8 12,.int .i8 wd,.int .i8 dst,.int .i8 src,.int .i8 base,.int .i64 disp,.int .i64 imm,.int .i8 cc]] W fun e w'=>e=.returned (.bool true) ∧ Below W.heap.size W w' by have h:=emay_n ⟨12,wd,dst,src,base,disp,imm,cc⟩ W hw;rw [hm] at h;exact h)
  have CL:=Lib.hid (fun W=>cls_is (show clsI 12=2 by decide) W)
  have B_dst:=Lib.hid (fun W=>ebit_n dst hd W)
  clear hm hw hd hs hb
  generalize (2:Int) ^ dst.toNat=p_dst at *
  go_enter Tryd.func18,Tryd.ntmps18
  go_wp2_with fail
  refine (MY.out _).mono ?_
  rintro e w1 ⟨rfl,b1⟩
  have B1:=Lib.hid b1
  clear b1
  obtain ⟨c0_1,c1_1,c2_1,c3_1,c4_1,c5_1,c6_1,c7_1⟩:=xcells B1.out
  go_wp2_with fail
  refine (B_dst.out _).mono ?_
  rintro e y ⟨rfl,rfl⟩
  go_wp2_with fail
  go_ret
  exact ⟨rfl,below_boxed B1.out⟩
set_option maxHeartbeats 4000000 in
theorem ereads_13 (wd dst src base disp imm cc:Int) (W:World) (hm:mayX ⟨13,wd,dst,src,base,disp,imm,cc⟩=true) (hw:-128 ≤ wd ∧ wd < 128) (hd:0 ≤ dst ∧ dst < 16) (hs:0 ≤ src ∧ src < 16) (hb:0 ≤ base ∧ base < 16):
    Calls Tryd.prog 16 #[.agg #[.int .i8 13,.int .i8 wd,.int .i8 dst,.int .i8 src,.int .i8 base,.int .i64 disp,.int .i64 imm,.int .i8 cc]] W fun e w'=>e=.returned (.int .i64 ((2:Int) ^ (dst:Int).toNat)) ∧ Below W.heap.size W w':=by
  have MY:=Lib.hid (fun W=>show Calls Tryd.prog 12 #[.agg #[.int .i8 13,.int .i8 wd,.int .i8 dst,.int .i8 src,.int .i8 base,.int .i64 disp,.int .i64 imm,.int .i8 cc]] W fun e w'=>e=.returned (.bool true) ∧ Below W.heap.size W w' by have h:=emay_n ⟨13,wd,dst,src,base,disp,imm,cc⟩ W hw;rw [hm] at h;exact h)
  have CL:=Lib.hid (fun W=>cls_is (show clsI 13=2 by decide) W)
  have B_dst:=Lib.hid (fun W=>ebit_n dst hd W)
  clear hm hw hd hs hb
  generalize (2:Int) ^ dst.toNat=p_dst at *
  go_enter Tryd.func16,Tryd.ntmps16
  go_wp2_with fail
  refine (MY.out _).mono ?_
  rintro e w1 ⟨rfl,b1⟩
  have B1:=Lib.hid b1
  clear b1
  obtain ⟨c0_1,c1_1,c2_1,c3_1,c4_1,c5_1,c6_1,c7_1⟩:=xcells B1.out
  go_wp2_with fail
  refine (CL.out _).mono ?_
  rintro e y ⟨rfl,rfl⟩
  go_wp2_with fail
  refine (B_dst.out _).mono ?_
  rintro e y ⟨rfl,rfl⟩
  go_wp2_with fail
  go_ret
  exact ⟨rfl,below_boxed B1.out⟩
set_option maxHeartbeats 4000000 in
theorem ewrites_13 (wd dst src base disp imm cc:Int) (W:World) (hm:mayX ⟨13,wd,dst,src,base,disp,imm,cc⟩=true) (hw:-128 ≤ wd ∧ wd < 128) (hd:0 ≤ dst ∧ dst < 16) (hs:0 ≤ src ∧ src < 16) (hb:0 ≤ base ∧ base < 16):
    Calls Tryd.prog 18 #[.agg #[.int .i8 13,.int .i8 wd,.int .i8 dst,.int .i8 src,.int .i8 base,.int .i64 disp,.int .i64 imm,.int .i8 cc]] W fun e w'=>e=.returned (.int .i64 ((2:Int) ^ (dst:Int).toNat)) ∧ Below W.heap.size W w':=by
  have MY:=Lib.hid (fun W=>show Calls Tryd.prog 12 #[.agg #[.int .i8 13,.int .i8 wd,.int .i8 dst,.int .i8 src,.int .i8 base,.int .i64 disp,.int .i64 imm,.int .i8 cc]] W fun e w'=>e=.returned (.bool true) ∧ Below W.heap.size W w' by have h:=emay_n ⟨13,wd,dst,src,base,disp,imm,cc⟩ W hw;rw [hm] at h;exact h)
  have CL:=Lib.hid (fun W=>cls_is (show clsI 13=2 by decide) W)
  have B_dst:=Lib.hid (fun W=>ebit_n dst hd W)
  clear hm hw hd hs hb
  generalize (2:Int) ^ dst.toNat=p_dst at *
  go_enter Tryd.func18,Tryd.ntmps18
  go_wp2_with fail
  refine (MY.out _).mono ?_
  rintro e w1 ⟨rfl,b1⟩
  have B1:=Lib.hid b1
  clear b1
  obtain ⟨c0_1,c1_1,c2_1,c3_1,c4_1,c5_1,c6_1,c7_1⟩:=xcells B1.out
  go_wp2_with fail
  refine (B_dst.out _).mono ?_
  rintro e y ⟨rfl,rfl⟩
  go_wp2_with fail
  go_ret
  exact ⟨rfl,below_boxed B1.out⟩
set_option maxHeartbeats 4000000 in
theorem ereads_14 (wd dst src base disp imm cc:Int) (W:World) (hm:mayX ⟨14,wd,dst,src,base,disp,imm,cc⟩=true) (hw:-128 ≤ wd ∧ wd < 128) (hd:0 ≤ dst ∧ dst < 16) (hs:0 ≤ src ∧ src < 16) (hb:0 ≤ base ∧ base < 16):
    Calls Tryd.prog 16 #[.agg #[.int .i8 14,.int .i8 wd,.int .i8 dst,.int .i8 src,.int .i8 base,.int .i64 disp,.int .i64 imm,.int .i8 cc]] W fun e w'=>e=.returned (.int .i64 ((2:Int) ^ (dst:Int).toNat)) ∧ Below W.heap.size W w':=by
  have MY:=Lib.hid (fun W=>show Calls Tryd.prog 12 #[.agg #[.int .i8 14,.int .i8 wd,.int .i8 dst,.int .i8 src,.int .i8 base,.int .i64 disp,.int .i64 imm,.int .i8 cc]] W fun e w'=>e=.returned (.bool true) ∧ Below W.heap.size W w' by have h:=emay_n ⟨14,wd,dst,src,base,disp,imm,cc⟩ W hw;rw [hm] at h;exact h)
  have CL:=Lib.hid (fun W=>cls_is (show clsI 14=2 by decide) W)
  have B_dst:=Lib.hid (fun W=>ebit_n dst hd W)
  clear hm hw hd hs hb
  generalize (2:Int) ^ dst.toNat=p_dst at *
  go_enter Tryd.func16,Tryd.ntmps16
  go_wp2_with fail
  refine (MY.out _).mono ?_
  rintro e w1 ⟨rfl,b1⟩
  have B1:=Lib.hid b1
  clear b1
  obtain ⟨c0_1,c1_1,c2_1,c3_1,c4_1,c5_1,c6_1,c7_1⟩:=xcells B1.out
  go_wp2_with fail
  refine (CL.out _).mono ?_
  rintro e y ⟨rfl,rfl⟩
  go_wp2_with fail
  refine (B_dst.out _).mono ?_
  rintro e y ⟨rfl,rfl⟩
  go_wp2_with fail
  go_ret
  exact ⟨rfl,below_boxed B1.out⟩
set_option maxHeartbeats 4000000 in
theorem ewrites_14 (wd dst src base disp imm cc:Int) (W:World) (hm:mayX ⟨14,wd,dst,src,base,disp,imm,cc⟩=true) (hw:-128 ≤ wd ∧ wd < 128) (hd:0 ≤ dst ∧ dst < 16) (hs:0 ≤ src ∧ src < 16) (hb:0 ≤ base ∧ base < 16):
    Calls Tryd.prog 18 #[.agg #[.int .i8 14,.int .i8 wd,.int .i8 dst,.int .i8 src,.int .i8 base,.int .i64 disp,.int .i64 imm,.int .i8 cc]] W fun e w'=>e=.returned (.int .i64 (0)) ∧ Below W.heap.size W w':=by
  have MY:=Lib.hid (fun W=>show Calls Tryd.prog 12 #[.agg #[.int .i8 14,.int .i8 wd,.int .i8 dst,.int .i8 src,.int .i8 base,.int .i64 disp,.int .i64 imm,.int .i8 cc]] W fun e w'=>e=.returned (.bool true) ∧ Below W.heap.size W w' by have h:=emay_n ⟨14,wd,dst,src,base,disp,imm,cc⟩ W hw;rw [hm] at h;exact h)
  have CL:=Lib.hid (fun W=>cls_is (show clsI 14=2 by decide) W)
  clear hm hw hd hs hb
  go_enter Tryd.func18,Tryd.ntmps18
  go_wp2_with fail
  refine (MY.out _).mono ?_
  rintro e w1 ⟨rfl,b1⟩
  have B1:=Lib.hid b1
  clear b1
  obtain ⟨c0_1,c1_1,c2_1,c3_1,c4_1,c5_1,c6_1,c7_1⟩:=xcells B1.out
  go_wp2_with fail
  go_ret
  exact ⟨rfl,below_boxed B1.out⟩
set_option maxHeartbeats 4000000 in
theorem ereads_15 (wd dst src base disp imm cc:Int) (W:World) (hm:mayX ⟨15,wd,dst,src,base,disp,imm,cc⟩=true) (hw:-128 ≤ wd ∧ wd < 128) (hd:0 ≤ dst ∧ dst < 16) (hs:0 ≤ src ∧ src < 16) (hb:0 ≤ base ∧ base < 16):
    Calls Tryd.prog 16 #[.agg #[.int .i8 15,.int .i8 wd,.int .i8 dst,.int .i8 src,.int .i8 base,.int .i64 disp,.int .i64 imm,.int .i8 cc]] W fun e w'=>e=.returned (.int .i64 ((2:Int) ^ (dst:Int).toNat)) ∧ Below W.heap.size W w':=by
  have MY:=Lib.hid (fun W=>show Calls Tryd.prog 12 #[.agg #[.int .i8 15,.int .i8 wd,.int .i8 dst,.int .i8 src,.int .i8 base,.int .i64 disp,.int .i64 imm,.int .i8 cc]] W fun e w'=>e=.returned (.bool true) ∧ Below W.heap.size W w' by have h:=emay_n ⟨15,wd,dst,src,base,disp,imm,cc⟩ W hw;rw [hm] at h;exact h)
  have CL:=Lib.hid (fun W=>cls_is (show clsI 15=2 by decide) W)
  have B_dst:=Lib.hid (fun W=>ebit_n dst hd W)
  clear hm hw hd hs hb
  generalize (2:Int) ^ dst.toNat=p_dst at *
  go_enter Tryd.func16,Tryd.ntmps16
  go_wp2_with fail
  refine (MY.out _).mono ?_
  rintro e w1 ⟨rfl,b1⟩
  have B1:=Lib.hid b1
  clear b1
  obtain ⟨c0_1,c1_1,c2_1,c3_1,c4_1,c5_1,c6_1,c7_1⟩:=xcells B1.out
  go_wp2_with fail
  refine (CL.out _).mono ?_
  rintro e y ⟨rfl,rfl⟩
  go_wp2_with fail
  refine (B_dst.out _).mono ?_
  rintro e y ⟨rfl,rfl⟩
  go_wp2_with fail
  go_ret
  exact ⟨rfl,below_boxed B1.out⟩
set_option maxHeartbeats 4000000 in
theorem ewrites_15 (wd dst src base disp imm cc:Int) (W:World) (hm:mayX ⟨15,wd,dst,src,base,disp,imm,cc⟩=true) (hw:-128 ≤ wd ∧ wd < 128) (hd:0 ≤ dst ∧ dst < 16) (hs:0 ≤ src ∧ src < 16) (hb:0 ≤ base ∧ base < 16):
    Calls Tryd.prog 18 #[.agg #[.int .i8 15,.int .i8 wd,.int .i8 dst,.int .i8 src,.int .i8 base,.int .i64 disp,.int .i64 imm,.int .i8 cc]] W fun e w'=>e=.returned (.int .i64 (0)) ∧ Below W.heap.size W w':=by
  have MY:=Lib.hid (fun W=>show Calls Tryd.prog 12 #[.agg #[.int .i8 15,.int .i8 wd,.int .i8 dst,.int .i8 src,.int .i8 base,.int .i64 disp,.int .i64 imm,.int .i8 cc]] W fun e w'=>e=.returned (.bool true) ∧ Below W.heap.size W w' by have h:=emay_n ⟨15,wd,dst,src,base,disp,imm,cc⟩ W hw;rw [hm] at h;exact h)
  have CL:=Lib.hid (fun W=>cls_is (show clsI 15=2 by decide) W)
  clear hm hw hd hs hb
  go_enter Tryd.func18,Tryd.ntmps18
  go_wp2_with fail
  refine (MY.out _).mono ?_
  rintro e w1 ⟨rfl,b1⟩
  have B1:=Lib.hid b1
  clear b1
  obtain ⟨c0_1,c1_1,c2_1,c3_1,c4_1,c5_1,c6_1,c7_1⟩:=xcells B1.out
  go_wp2_with fail
  go_ret
  exact ⟨rfl,below_boxed B1.out⟩
set_option maxHeartbeats 4000000 in
theorem ereads_16 (wd dst src base disp imm cc:Int) (W:World) (hm:mayX ⟨16,wd,dst,src,base,disp,imm,cc⟩=true) (hw:-128 ≤ wd ∧ wd < 128) (hd:0 ≤ dst ∧ dst < 16) (hs:0 ≤ src ∧ src < 16) (hb:0 ≤ base ∧ base < 16):
    Calls Tryd.prog 16 #[.agg #[.int .i8 16,.int .i8 wd,.int .i8 dst,.int .i8 src,.int .i8 base,.int .i64 disp,.int .i64 imm,.int .i8 cc]] W fun e w'=>e=.returned (.int .i64 (bits .or .i64 ((2:Int) ^ (dst:Int).toNat) ((2:Int) ^ (src:Int).toNat))) ∧ Below W.heap.size W w':=by
  have MY:=Lib.hid (fun W=>show Calls Tryd.prog 12 #[.agg #[.int .i8 16,.int .i8 wd,.int .i8 dst,.int .i8 src,.int .i8 base,.int .i64 disp,.int .i64 imm,.int .i8 cc]] W fun e w'=>e=.returned (.bool true) ∧ Below W.heap.size W w' by have h:=emay_n ⟨16,wd,dst,src,base,disp,imm,cc⟩ W hw;rw [hm] at h;exact h)
  have CL:=Lib.hid (fun W=>cls_is (show clsI 16=1 by decide) W)
  have B_dst:=Lib.hid (fun W=>ebit_n dst hd W)
  have B_src:=Lib.hid (fun W=>ebit_n src hs W)
  clear hm hw hd hs hb
  generalize (2:Int) ^ dst.toNat=p_dst at *
  generalize (2:Int) ^ src.toNat=p_src at *
  go_enter Tryd.func16,Tryd.ntmps16
  go_wp2_with fail
  refine (MY.out _).mono ?_
  rintro e w1 ⟨rfl,b1⟩
  have B1:=Lib.hid b1
  clear b1
  obtain ⟨c0_1,c1_1,c2_1,c3_1,c4_1,c5_1,c6_1,c7_1⟩:=xcells B1.out
  go_wp2_with fail
  refine (CL.out _).mono ?_
  rintro e y ⟨rfl,rfl⟩
  go_wp2_with fail
  have KS:=Lib.hid (fun w' (b:Below (W.alloc (.cells #[.int .i8 16,.int .i8 wd,.int .i8 dst,.int .i8 src,.int .i8 base,.int .i64 disp,.int .i64 imm,.int .i8 cc] 24)).heap.size (W.alloc (.cells #[.int .i8 16,.int .i8 wd,.int .i8 dst,.int .i8 src,.int .i8 base,.int .i64 disp,.int .i64 imm,.int .i8 cc] 24)) w')=>show w'.cell? ⟨W.heap.size,2,none⟩=some (.int .i8 dst) ∧ w'.cell? ⟨W.heap.size,3,none⟩=some (.int .i8 src) ∧ Below (W.alloc (.cells #[.int .i8 16,.int .i8 wd,.int .i8 dst,.int .i8 src,.int .i8 base,.int .i64 disp,.int .i64 imm,.int .i8 cc] 24)).heap.size (W.alloc (.cells #[.int .i8 16,.int .i8 wd,.int .i8 dst,.int .i8 src,.int .i8 base,.int .i64 disp,.int .i64 imm,.int .i8 cc] 24)) w' from by obtain ⟨h0,h1,h2,h3,h4,h5,h6,h7⟩:=xcells b;exact ⟨h2,h3,b⟩)
  go_region_held3 (fun w'=>w'.cell? ⟨W.heap.size,2,none⟩=some (.int .i8 dst) ∧ w'.cell? ⟨W.heap.size,3,none⟩=some (.int .i8 src) ∧ Below (W.alloc (.cells #[.int .i8 16,.int .i8 wd,.int .i8 dst,.int .i8 src,.int .i8 base,.int .i64 disp,.int .i64 imm,.int .i8 cc] 24)).heap.size (W.alloc (.cells #[.int .i8 16,.int .i8 wd,.int .i8 dst,.int .i8 src,.int .i8 base,.int .i64 disp,.int .i64 imm,.int .i8 cc] 24)) w') ((go_split_ands;refine KS.out _ ?_;repeat' (first | assumption | exact B1.out | apply Below.drew | apply below_new))) (first
    | (go_at_call 43;refine (B_dst.out _).mono ?_;rintro e y ⟨rfl,rfl⟩)
    | (go_at_call 43;refine (B_src.out _).mono ?_;rintro e y ⟨rfl,rfl⟩))
  all_goals (
    go_wp2_with fail
    go_ret
    exact ⟨rfl,by repeat (first | exact below_boxed B1.out | apply Below.drew)⟩)
set_option maxHeartbeats 4000000 in
theorem ewrites_16 (wd dst src base disp imm cc:Int) (W:World) (hm:mayX ⟨16,wd,dst,src,base,disp,imm,cc⟩=true) (hw:-128 ≤ wd ∧ wd < 128) (hd:0 ≤ dst ∧ dst < 16) (hs:0 ≤ src ∧ src < 16) (hb:0 ≤ base ∧ base < 16):
    Calls Tryd.prog 18 #[.agg #[.int .i8 16,.int .i8 wd,.int .i8 dst,.int .i8 src,.int .i8 base,.int .i64 disp,.int .i64 imm,.int .i8 cc]] W fun e w'=>e=.returned (.int .i64 ((2:Int) ^ (dst:Int).toNat)) ∧ Below W.heap.size W w':=by
  have MY:=Lib.hid (fun W=>show Calls Tryd.prog 12 #[.agg #[.int .i8 16,.int .i8 wd,.int .i8 dst,.int .i8 src,.int .i8 base,.int .i64 disp,.int .i64 imm,.int .i8 cc]] W fun e w'=>e=.returned (.bool true) ∧ Below W.heap.size W w' by have h:=emay_n ⟨16,wd,dst,src,base,disp,imm,cc⟩ W hw;rw [hm] at h;exact h)
  have CL:=Lib.hid (fun W=>cls_is (show clsI 16=1 by decide) W)
  have B_dst:=Lib.hid (fun W=>ebit_n dst hd W)
  clear hm hw hd hs hb
  generalize (2:Int) ^ dst.toNat=p_dst at *
  go_enter Tryd.func18,Tryd.ntmps18
  go_wp2_with fail
  refine (MY.out _).mono ?_
  rintro e w1 ⟨rfl,b1⟩
  have B1:=Lib.hid b1
  clear b1
  obtain ⟨c0_1,c1_1,c2_1,c3_1,c4_1,c5_1,c6_1,c7_1⟩:=xcells B1.out
  go_wp2_with fail
  refine (B_dst.out _).mono ?_
  rintro e y ⟨rfl,rfl⟩
  go_wp2_with fail
  go_ret
  exact ⟨rfl,below_boxed B1.out⟩
set_option maxHeartbeats 4000000 in
theorem ereads_17 (wd dst src base disp imm cc:Int) (W:World) (hm:mayX ⟨17,wd,dst,src,base,disp,imm,cc⟩=true) (hw:-128 ≤ wd ∧ wd < 128) (hd:0 ≤ dst ∧ dst < 16) (hs:0 ≤ src ∧ src < 16) (hb:0 ≤ base ∧ base < 16):
    Calls Tryd.prog 16 #[.agg #[.int .i8 17,.int .i8 wd,.int .i8 dst,.int .i8 src,.int .i8 base,.int .i64 disp,.int .i64 imm,.int .i8 cc]] W fun e w'=>e=.returned (.int .i64 ((2:Int) ^ (dst:Int).toNat)) ∧ Below W.heap.size W w':=by
  have MY:=Lib.hid (fun W=>show Calls Tryd.prog 12 #[.agg #[.int .i8 17,.int .i8 wd,.int .i8 dst,.int .i8 src,.int .i8 base,.int .i64 disp,.int .i64 imm,.int .i8 cc]] W fun e w'=>e=.returned (.bool true) ∧ Below W.heap.size W w' by have h:=emay_n ⟨17,wd,dst,src,base,disp,imm,cc⟩ W hw;rw [hm] at h;exact h)
  have CL:=Lib.hid (fun W=>cls_is (show clsI 17=3 by decide) W)
  have B_dst:=Lib.hid (fun W=>ebit_n dst hd W)
  clear hm hw hd hs hb
  generalize (2:Int) ^ dst.toNat=p_dst at *
  go_enter Tryd.func16,Tryd.ntmps16
  go_wp2_with fail
  refine (MY.out _).mono ?_
  rintro e w1 ⟨rfl,b1⟩
  have B1:=Lib.hid b1
  clear b1
  obtain ⟨c0_1,c1_1,c2_1,c3_1,c4_1,c5_1,c6_1,c7_1⟩:=xcells B1.out
  go_wp2_with fail
  refine (CL.out _).mono ?_
  rintro e y ⟨rfl,rfl⟩
  go_wp2_with fail
  refine (B_dst.out _).mono ?_
  rintro e y ⟨rfl,rfl⟩
  go_wp2_with fail
  go_ret
  exact ⟨rfl,below_boxed B1.out⟩
set_option maxHeartbeats 4000000 in
theorem ewrites_17 (wd dst src base disp imm cc:Int) (W:World) (hm:mayX ⟨17,wd,dst,src,base,disp,imm,cc⟩=true) (hw:-128 ≤ wd ∧ wd < 128) (hd:0 ≤ dst ∧ dst < 16) (hs:0 ≤ src ∧ src < 16) (hb:0 ≤ base ∧ base < 16):
    Calls Tryd.prog 18 #[.agg #[.int .i8 17,.int .i8 wd,.int .i8 dst,.int .i8 src,.int .i8 base,.int .i64 disp,.int .i64 imm,.int .i8 cc]] W fun e w'=>e=.returned (.int .i64 ((2:Int) ^ (dst:Int).toNat)) ∧ Below W.heap.size W w':=by
  have MY:=Lib.hid (fun W=>show Calls Tryd.prog 12 #[.agg #[.int .i8 17,.int .i8 wd,.int .i8 dst,.int .i8 src,.int .i8 base,.int .i64 disp,.int .i64 imm,.int .i8 cc]] W fun e w'=>e=.returned (.bool true) ∧ Below W.heap.size W w' by have h:=emay_n ⟨17,wd,dst,src,base,disp,imm,cc⟩ W hw;rw [hm] at h;exact h)
  have CL:=Lib.hid (fun W=>cls_is (show clsI 17=3 by decide) W)
  have B_dst:=Lib.hid (fun W=>ebit_n dst hd W)
  clear hm hw hd hs hb
  generalize (2:Int) ^ dst.toNat=p_dst at *
  go_enter Tryd.func18,Tryd.ntmps18
  go_wp2_with fail
  refine (MY.out _).mono ?_
  rintro e w1 ⟨rfl,b1⟩
  have B1:=Lib.hid b1
  clear b1
  obtain ⟨c0_1,c1_1,c2_1,c3_1,c4_1,c5_1,c6_1,c7_1⟩:=xcells B1.out
  go_wp2_with fail
  refine (B_dst.out _).mono ?_
  rintro e y ⟨rfl,rfl⟩
  go_wp2_with fail
  go_ret
  exact ⟨rfl,below_boxed B1.out⟩
set_option maxHeartbeats 4000000 in
theorem ereads_18 (wd dst src base disp imm cc:Int) (W:World) (hm:mayX ⟨18,wd,dst,src,base,disp,imm,cc⟩=true) (hw:-128 ≤ wd ∧ wd < 128) (hd:0 ≤ dst ∧ dst < 16) (hs:0 ≤ src ∧ src < 16) (hb:0 ≤ base ∧ base < 16):
    Calls Tryd.prog 16 #[.agg #[.int .i8 18,.int .i8 wd,.int .i8 dst,.int .i8 src,.int .i8 base,.int .i64 disp,.int .i64 imm,.int .i8 cc]] W fun e w'=>e=.returned (.int .i64 ((2:Int) ^ (dst:Int).toNat)) ∧ Below W.heap.size W w':=by
  have MY:=Lib.hid (fun W=>show Calls Tryd.prog 12 #[.agg #[.int .i8 18,.int .i8 wd,.int .i8 dst,.int .i8 src,.int .i8 base,.int .i64 disp,.int .i64 imm,.int .i8 cc]] W fun e w'=>e=.returned (.bool true) ∧ Below W.heap.size W w' by have h:=emay_n ⟨18,wd,dst,src,base,disp,imm,cc⟩ W hw;rw [hm] at h;exact h)
  have CL:=Lib.hid (fun W=>cls_is (show clsI 18=3 by decide) W)
  have B_dst:=Lib.hid (fun W=>ebit_n dst hd W)
  clear hm hw hd hs hb
  generalize (2:Int) ^ dst.toNat=p_dst at *
  go_enter Tryd.func16,Tryd.ntmps16
  go_wp2_with fail
  refine (MY.out _).mono ?_
  rintro e w1 ⟨rfl,b1⟩
  have B1:=Lib.hid b1
  clear b1
  obtain ⟨c0_1,c1_1,c2_1,c3_1,c4_1,c5_1,c6_1,c7_1⟩:=xcells B1.out
  go_wp2_with fail
  refine (CL.out _).mono ?_
  rintro e y ⟨rfl,rfl⟩
  go_wp2_with fail
  refine (B_dst.out _).mono ?_
  rintro e y ⟨rfl,rfl⟩
  go_wp2_with fail
  go_ret
  exact ⟨rfl,below_boxed B1.out⟩
set_option maxHeartbeats 4000000 in
theorem ewrites_18 (wd dst src base disp imm cc:Int) (W:World) (hm:mayX ⟨18,wd,dst,src,base,disp,imm,cc⟩=true) (hw:-128 ≤ wd ∧ wd < 128) (hd:0 ≤ dst ∧ dst < 16) (hs:0 ≤ src ∧ src < 16) (hb:0 ≤ base ∧ base < 16):
    Calls Tryd.prog 18 #[.agg #[.int .i8 18,.int .i8 wd,.int .i8 dst,.int .i8 src,.int .i8 base,.int .i64 disp,.int .i64 imm,.int .i8 cc]] W fun e w'=>e=.returned (.int .i64 ((2:Int) ^ (dst:Int).toNat)) ∧ Below W.heap.size W w':=by
  have MY:=Lib.hid (fun W=>show Calls Tryd.prog 12 #[.agg #[.int .i8 18,.int .i8 wd,.int .i8 dst,.int .i8 src,.int .i8 base,.int .i64 disp,.int .i64 imm,.int .i8 cc]] W fun e w'=>e=.returned (.bool true) ∧ Below W.heap.size W w' by have h:=emay_n ⟨18,wd,dst,src,base,disp,imm,cc⟩ W hw;rw [hm] at h;exact h)
  have CL:=Lib.hid (fun W=>cls_is (show clsI 18=3 by decide) W)
  have B_dst:=Lib.hid (fun W=>ebit_n dst hd W)
  clear hm hw hd hs hb
  generalize (2:Int) ^ dst.toNat=p_dst at *
  go_enter Tryd.func18,Tryd.ntmps18
  go_wp2_with fail
  refine (MY.out _).mono ?_
  rintro e w1 ⟨rfl,b1⟩
  have B1:=Lib.hid b1
  clear b1
  obtain ⟨c0_1,c1_1,c2_1,c3_1,c4_1,c5_1,c6_1,c7_1⟩:=xcells B1.out
  go_wp2_with fail
  refine (B_dst.out _).mono ?_
  rintro e y ⟨rfl,rfl⟩
  go_wp2_with fail
  go_ret
  exact ⟨rfl,below_boxed B1.out⟩
set_option maxHeartbeats 4000000 in
theorem ereads_19 (wd dst src base disp imm cc:Int) (W:World) (hm:mayX ⟨19,wd,dst,src,base,disp,imm,cc⟩=true) (hw:-128 ≤ wd ∧ wd < 128) (hd:0 ≤ dst ∧ dst < 16) (hs:0 ≤ src ∧ src < 16) (hb:0 ≤ base ∧ base < 16):
    Calls Tryd.prog 16 #[.agg #[.int .i8 19,.int .i8 wd,.int .i8 dst,.int .i8 src,.int .i8 base,.int .i64 disp,.int .i64 imm,.int .i8 cc]] W fun e w'=>e=.returned (.int .i64 ((2:Int) ^ (dst:Int).toNat)) ∧ Below W.heap.size W w':=by
  have MY:=Lib.hid (fun W=>show Calls Tryd.prog 12 #[.agg #[.int .i8 19,.int .i8 wd,.int .i8 dst,.int .i8 src,.int .i8 base,.int .i64 disp,.int .i64 imm,.int .i8 cc]] W fun e w'=>e=.returned (.bool true) ∧ Below W.heap.size W w' by have h:=emay_n ⟨19,wd,dst,src,base,disp,imm,cc⟩ W hw;rw [hm] at h;exact h)
  have CL:=Lib.hid (fun W=>cls_is (show clsI 19=3 by decide) W)
  have B_dst:=Lib.hid (fun W=>ebit_n dst hd W)
  clear hm hw hd hs hb
  generalize (2:Int) ^ dst.toNat=p_dst at *
  go_enter Tryd.func16,Tryd.ntmps16
  go_wp2_with fail
  refine (MY.out _).mono ?_
  rintro e w1 ⟨rfl,b1⟩
  have B1:=Lib.hid b1
  clear b1
  obtain ⟨c0_1,c1_1,c2_1,c3_1,c4_1,c5_1,c6_1,c7_1⟩:=xcells B1.out
  go_wp2_with fail
  refine (CL.out _).mono ?_
  rintro e y ⟨rfl,rfl⟩
  go_wp2_with fail
  refine (B_dst.out _).mono ?_
  rintro e y ⟨rfl,rfl⟩
  go_wp2_with fail
  go_ret
  exact ⟨rfl,below_boxed B1.out⟩
set_option maxHeartbeats 4000000 in
theorem ewrites_19 (wd dst src base disp imm cc:Int) (W:World) (hm:mayX ⟨19,wd,dst,src,base,disp,imm,cc⟩=true) (hw:-128 ≤ wd ∧ wd < 128) (hd:0 ≤ dst ∧ dst < 16) (hs:0 ≤ src ∧ src < 16) (hb:0 ≤ base ∧ base < 16):
    Calls Tryd.prog 18 #[.agg #[.int .i8 19,.int .i8 wd,.int .i8 dst,.int .i8 src,.int .i8 base,.int .i64 disp,.int .i64 imm,.int .i8 cc]] W fun e w'=>e=.returned (.int .i64 ((2:Int) ^ (dst:Int).toNat)) ∧ Below W.heap.size W w':=by
  have MY:=Lib.hid (fun W=>show Calls Tryd.prog 12 #[.agg #[.int .i8 19,.int .i8 wd,.int .i8 dst,.int .i8 src,.int .i8 base,.int .i64 disp,.int .i64 imm,.int .i8 cc]] W fun e w'=>e=.returned (.bool true) ∧ Below W.heap.size W w' by have h:=emay_n ⟨19,wd,dst,src,base,disp,imm,cc⟩ W hw;rw [hm] at h;exact h)
  have CL:=Lib.hid (fun W=>cls_is (show clsI 19=3 by decide) W)
  have B_dst:=Lib.hid (fun W=>ebit_n dst hd W)
  clear hm hw hd hs hb
  generalize (2:Int) ^ dst.toNat=p_dst at *
  go_enter Tryd.func18,Tryd.ntmps18
  go_wp2_with fail
  refine (MY.out _).mono ?_
  rintro e w1 ⟨rfl,b1⟩
  have B1:=Lib.hid b1
  clear b1
  obtain ⟨c0_1,c1_1,c2_1,c3_1,c4_1,c5_1,c6_1,c7_1⟩:=xcells B1.out
  go_wp2_with fail
  refine (B_dst.out _).mono ?_
  rintro e y ⟨rfl,rfl⟩
  go_wp2_with fail
  go_ret
  exact ⟨rfl,below_boxed B1.out⟩
set_option maxHeartbeats 4000000 in
theorem ereads_20 (wd dst src base disp imm cc:Int) (W:World) (hm:mayX ⟨20,wd,dst,src,base,disp,imm,cc⟩=true) (hw:-128 ≤ wd ∧ wd < 128) (hd:0 ≤ dst ∧ dst < 16) (hs:0 ≤ src ∧ src < 16) (hb:0 ≤ base ∧ base < 16):
    Calls Tryd.prog 16 #[.agg #[.int .i8 20,.int .i8 wd,.int .i8 dst,.int .i8 src,.int .i8 base,.int .i64 disp,.int .i64 imm,.int .i8 cc]] W fun e w'=>e=.returned (.int .i64 (bits .or .i64 ((2:Int) ^ (dst:Int).toNat) (2))) ∧ Below W.heap.size W w':=by
  have MY:=Lib.hid (fun W=>show Calls Tryd.prog 12 #[.agg #[.int .i8 20,.int .i8 wd,.int .i8 dst,.int .i8 src,.int .i8 base,.int .i64 disp,.int .i64 imm,.int .i8 cc]] W fun e w'=>e=.returned (.bool true) ∧ Below W.heap.size W w' by have h:=emay_n ⟨20,wd,dst,src,base,disp,imm,cc⟩ W hw;rw [hm] at h;exact h)
  have CL:=Lib.hid (fun W=>cls_is (show clsI 20=4 by decide) W)
  have B_dst:=Lib.hid (fun W=>ebit_n dst hd W)
  have B_1:=Lib.hid (fun W=>show Calls Tryd.prog 43 #[.int .i8 1] W fun e w'=>e=.returned (.int .i64 2) ∧ W=w' from ebit_n 1 (by decide) W)
  clear hm hw hd hs hb
  generalize (2:Int) ^ dst.toNat=p_dst at *
  go_enter Tryd.func16,Tryd.ntmps16
  go_wp2_with fail
  refine (MY.out _).mono ?_
  rintro e w1 ⟨rfl,b1⟩
  have B1:=Lib.hid b1
  clear b1
  obtain ⟨c0_1,c1_1,c2_1,c3_1,c4_1,c5_1,c6_1,c7_1⟩:=xcells B1.out
  go_wp2_with fail
  refine (B_dst.out _).mono ?_
  rintro e y ⟨rfl,rfl⟩
  go_wp2_with fail
  refine (B_1.out _).mono ?_
  rintro e y ⟨rfl,rfl⟩
  go_wp2_with fail
  go_ret
  exact ⟨rfl,below_boxed B1.out⟩
set_option maxHeartbeats 4000000 in
theorem ewrites_20 (wd dst src base disp imm cc:Int) (W:World) (hm:mayX ⟨20,wd,dst,src,base,disp,imm,cc⟩=true) (hw:-128 ≤ wd ∧ wd < 128) (hd:0 ≤ dst ∧ dst < 16) (hs:0 ≤ src ∧ src < 16) (hb:0 ≤ base ∧ base < 16):
    Calls Tryd.prog 18 #[.agg #[.int .i8 20,.int .i8 wd,.int .i8 dst,.int .i8 src,.int .i8 base,.int .i64 disp,.int .i64 imm,.int .i8 cc]] W fun e w'=>e=.returned (.int .i64 ((2:Int) ^ (dst:Int).toNat)) ∧ Below W.heap.size W w':=by
  have MY:=Lib.hid (fun W=>show Calls Tryd.prog 12 #[.agg #[.int .i8 20,.int .i8 wd,.int .i8 dst,.int .i8 src,.int .i8 base,.int .i64 disp,.int .i64 imm,.int .i8 cc]] W fun e w'=>e=.returned (.bool true) ∧ Below W.heap.size W w' by have h:=emay_n ⟨20,wd,dst,src,base,disp,imm,cc⟩ W hw;rw [hm] at h;exact h)
  have CL:=Lib.hid (fun W=>cls_is (show clsI 20=4 by decide) W)
  have B_dst:=Lib.hid (fun W=>ebit_n dst hd W)
  clear hm hw hd hs hb
  generalize (2:Int) ^ dst.toNat=p_dst at *
  go_enter Tryd.func18,Tryd.ntmps18
  go_wp2_with fail
  refine (MY.out _).mono ?_
  rintro e w1 ⟨rfl,b1⟩
  have B1:=Lib.hid b1
  clear b1
  obtain ⟨c0_1,c1_1,c2_1,c3_1,c4_1,c5_1,c6_1,c7_1⟩:=xcells B1.out
  go_wp2_with fail
  refine (B_dst.out _).mono ?_
  rintro e y ⟨rfl,rfl⟩
  go_wp2_with fail
  go_ret
  exact ⟨rfl,below_boxed B1.out⟩
set_option maxHeartbeats 4000000 in
theorem ereads_21 (wd dst src base disp imm cc:Int) (W:World) (hm:mayX ⟨21,wd,dst,src,base,disp,imm,cc⟩=true) (hw:-128 ≤ wd ∧ wd < 128) (hd:0 ≤ dst ∧ dst < 16) (hs:0 ≤ src ∧ src < 16) (hb:0 ≤ base ∧ base < 16):
    Calls Tryd.prog 16 #[.agg #[.int .i8 21,.int .i8 wd,.int .i8 dst,.int .i8 src,.int .i8 base,.int .i64 disp,.int .i64 imm,.int .i8 cc]] W fun e w'=>e=.returned (.int .i64 (bits .or .i64 ((2:Int) ^ (dst:Int).toNat) (2))) ∧ Below W.heap.size W w':=by
  have MY:=Lib.hid (fun W=>show Calls Tryd.prog 12 #[.agg #[.int .i8 21,.int .i8 wd,.int .i8 dst,.int .i8 src,.int .i8 base,.int .i64 disp,.int .i64 imm,.int .i8 cc]] W fun e w'=>e=.returned (.bool true) ∧ Below W.heap.size W w' by have h:=emay_n ⟨21,wd,dst,src,base,disp,imm,cc⟩ W hw;rw [hm] at h;exact h)
  have CL:=Lib.hid (fun W=>cls_is (show clsI 21=4 by decide) W)
  have B_dst:=Lib.hid (fun W=>ebit_n dst hd W)
  have B_1:=Lib.hid (fun W=>show Calls Tryd.prog 43 #[.int .i8 1] W fun e w'=>e=.returned (.int .i64 2) ∧ W=w' from ebit_n 1 (by decide) W)
  clear hm hw hd hs hb
  generalize (2:Int) ^ dst.toNat=p_dst at *
  go_enter Tryd.func16,Tryd.ntmps16
  go_wp2_with fail
  refine (MY.out _).mono ?_
  rintro e w1 ⟨rfl,b1⟩
  have B1:=Lib.hid b1
  clear b1
  obtain ⟨c0_1,c1_1,c2_1,c3_1,c4_1,c5_1,c6_1,c7_1⟩:=xcells B1.out
  go_wp2_with fail
  refine (B_dst.out _).mono ?_
  rintro e y ⟨rfl,rfl⟩
  go_wp2_with fail
  refine (B_1.out _).mono ?_
  rintro e y ⟨rfl,rfl⟩
  go_wp2_with fail
  go_ret
  exact ⟨rfl,below_boxed B1.out⟩
set_option maxHeartbeats 4000000 in
theorem ewrites_21 (wd dst src base disp imm cc:Int) (W:World) (hm:mayX ⟨21,wd,dst,src,base,disp,imm,cc⟩=true) (hw:-128 ≤ wd ∧ wd < 128) (hd:0 ≤ dst ∧ dst < 16) (hs:0 ≤ src ∧ src < 16) (hb:0 ≤ base ∧ base < 16):
    Calls Tryd.prog 18 #[.agg #[.int .i8 21,.int .i8 wd,.int .i8 dst,.int .i8 src,.int .i8 base,.int .i64 disp,.int .i64 imm,.int .i8 cc]] W fun e w'=>e=.returned (.int .i64 ((2:Int) ^ (dst:Int).toNat)) ∧ Below W.heap.size W w':=by
  have MY:=Lib.hid (fun W=>show Calls Tryd.prog 12 #[.agg #[.int .i8 21,.int .i8 wd,.int .i8 dst,.int .i8 src,.int .i8 base,.int .i64 disp,.int .i64 imm,.int .i8 cc]] W fun e w'=>e=.returned (.bool true) ∧ Below W.heap.size W w' by have h:=emay_n ⟨21,wd,dst,src,base,disp,imm,cc⟩ W hw;rw [hm] at h;exact h)
  have CL:=Lib.hid (fun W=>cls_is (show clsI 21=4 by decide) W)
  have B_dst:=Lib.hid (fun W=>ebit_n dst hd W)
  clear hm hw hd hs hb
  generalize (2:Int) ^ dst.toNat=p_dst at *
  go_enter Tryd.func18,Tryd.ntmps18
  go_wp2_with fail
  refine (MY.out _).mono ?_
  rintro e w1 ⟨rfl,b1⟩
  have B1:=Lib.hid b1
  clear b1
  obtain ⟨c0_1,c1_1,c2_1,c3_1,c4_1,c5_1,c6_1,c7_1⟩:=xcells B1.out
  go_wp2_with fail
  refine (B_dst.out _).mono ?_
  rintro e y ⟨rfl,rfl⟩
  go_wp2_with fail
  go_ret
  exact ⟨rfl,below_boxed B1.out⟩
set_option maxHeartbeats 4000000 in
theorem ereads_22 (wd dst src base disp imm cc:Int) (W:World) (hm:mayX ⟨22,wd,dst,src,base,disp,imm,cc⟩=true) (hw:-128 ≤ wd ∧ wd < 128) (hd:0 ≤ dst ∧ dst < 16) (hs:0 ≤ src ∧ src < 16) (hb:0 ≤ base ∧ base < 16):
    Calls Tryd.prog 16 #[.agg #[.int .i8 22,.int .i8 wd,.int .i8 dst,.int .i8 src,.int .i8 base,.int .i64 disp,.int .i64 imm,.int .i8 cc]] W fun e w'=>e=.returned (.int .i64 (bits .or .i64 ((2:Int) ^ (dst:Int).toNat) (2))) ∧ Below W.heap.size W w':=by
  have MY:=Lib.hid (fun W=>show Calls Tryd.prog 12 #[.agg #[.int .i8 22,.int .i8 wd,.int .i8 dst,.int .i8 src,.int .i8 base,.int .i64 disp,.int .i64 imm,.int .i8 cc]] W fun e w'=>e=.returned (.bool true) ∧ Below W.heap.size W w' by have h:=emay_n ⟨22,wd,dst,src,base,disp,imm,cc⟩ W hw;rw [hm] at h;exact h)
  have CL:=Lib.hid (fun W=>cls_is (show clsI 22=4 by decide) W)
  have B_dst:=Lib.hid (fun W=>ebit_n dst hd W)
  have B_1:=Lib.hid (fun W=>show Calls Tryd.prog 43 #[.int .i8 1] W fun e w'=>e=.returned (.int .i64 2) ∧ W=w' from ebit_n 1 (by decide) W)
  clear hm hw hd hs hb
  generalize (2:Int) ^ dst.toNat=p_dst at *
  go_enter Tryd.func16,Tryd.ntmps16
  go_wp2_with fail
  refine (MY.out _).mono ?_
  rintro e w1 ⟨rfl,b1⟩
  have B1:=Lib.hid b1
  clear b1
  obtain ⟨c0_1,c1_1,c2_1,c3_1,c4_1,c5_1,c6_1,c7_1⟩:=xcells B1.out
  go_wp2_with fail
  refine (B_dst.out _).mono ?_
  rintro e y ⟨rfl,rfl⟩
  go_wp2_with fail
  refine (B_1.out _).mono ?_
  rintro e y ⟨rfl,rfl⟩
  go_wp2_with fail
  go_ret
  exact ⟨rfl,below_boxed B1.out⟩
set_option maxHeartbeats 4000000 in
theorem ewrites_22 (wd dst src base disp imm cc:Int) (W:World) (hm:mayX ⟨22,wd,dst,src,base,disp,imm,cc⟩=true) (hw:-128 ≤ wd ∧ wd < 128) (hd:0 ≤ dst ∧ dst < 16) (hs:0 ≤ src ∧ src < 16) (hb:0 ≤ base ∧ base < 16):
    Calls Tryd.prog 18 #[.agg #[.int .i8 22,.int .i8 wd,.int .i8 dst,.int .i8 src,.int .i8 base,.int .i64 disp,.int .i64 imm,.int .i8 cc]] W fun e w'=>e=.returned (.int .i64 ((2:Int) ^ (dst:Int).toNat)) ∧ Below W.heap.size W w':=by
  have MY:=Lib.hid (fun W=>show Calls Tryd.prog 12 #[.agg #[.int .i8 22,.int .i8 wd,.int .i8 dst,.int .i8 src,.int .i8 base,.int .i64 disp,.int .i64 imm,.int .i8 cc]] W fun e w'=>e=.returned (.bool true) ∧ Below W.heap.size W w' by have h:=emay_n ⟨22,wd,dst,src,base,disp,imm,cc⟩ W hw;rw [hm] at h;exact h)
  have CL:=Lib.hid (fun W=>cls_is (show clsI 22=4 by decide) W)
  have B_dst:=Lib.hid (fun W=>ebit_n dst hd W)
  clear hm hw hd hs hb
  generalize (2:Int) ^ dst.toNat=p_dst at *
  go_enter Tryd.func18,Tryd.ntmps18
  go_wp2_with fail
  refine (MY.out _).mono ?_
  rintro e w1 ⟨rfl,b1⟩
  have B1:=Lib.hid b1
  clear b1
  obtain ⟨c0_1,c1_1,c2_1,c3_1,c4_1,c5_1,c6_1,c7_1⟩:=xcells B1.out
  go_wp2_with fail
  refine (B_dst.out _).mono ?_
  rintro e y ⟨rfl,rfl⟩
  go_wp2_with fail
  go_ret
  exact ⟨rfl,below_boxed B1.out⟩
set_option maxHeartbeats 4000000 in
theorem ereads_23 (wd dst src base disp imm cc:Int) (W:World) (hm:mayX ⟨23,wd,dst,src,base,disp,imm,cc⟩=true) (hw:-128 ≤ wd ∧ wd < 128) (hd:0 ≤ dst ∧ dst < 16) (hs:0 ≤ src ∧ src < 16) (hb:0 ≤ base ∧ base < 16):
    Calls Tryd.prog 16 #[.agg #[.int .i8 23,.int .i8 wd,.int .i8 dst,.int .i8 src,.int .i8 base,.int .i64 disp,.int .i64 imm,.int .i8 cc]] W fun e w'=>e=.returned (.int .i64 ((2:Int) ^ (dst:Int).toNat)) ∧ Below W.heap.size W w':=by
  have MY:=Lib.hid (fun W=>show Calls Tryd.prog 12 #[.agg #[.int .i8 23,.int .i8 wd,.int .i8 dst,.int .i8 src,.int .i8 base,.int .i64 disp,.int .i64 imm,.int .i8 cc]] W fun e w'=>e=.returned (.bool true) ∧ Below W.heap.size W w' by have h:=emay_n ⟨23,wd,dst,src,base,disp,imm,cc⟩ W hw;rw [hm] at h;exact h)
  have CL:=Lib.hid (fun W=>cls_is (show clsI 23=4 by decide) W)
  have B_dst:=Lib.hid (fun W=>ebit_n dst hd W)
  clear hm hw hd hs hb
  generalize (2:Int) ^ dst.toNat=p_dst at *
  go_enter Tryd.func16,Tryd.ntmps16
  go_wp2_with fail
  refine (MY.out _).mono ?_
  rintro e w1 ⟨rfl,b1⟩
  have B1:=Lib.hid b1
  clear b1
  obtain ⟨c0_1,c1_1,c2_1,c3_1,c4_1,c5_1,c6_1,c7_1⟩:=xcells B1.out
  go_wp2_with fail
  refine (CL.out _).mono ?_
  rintro e y ⟨rfl,rfl⟩
  go_wp2_with fail
  refine (B_dst.out _).mono ?_
  rintro e y ⟨rfl,rfl⟩
  go_wp2_with fail
  go_ret
  exact ⟨rfl,below_boxed B1.out⟩
set_option maxHeartbeats 4000000 in
theorem ewrites_23 (wd dst src base disp imm cc:Int) (W:World) (hm:mayX ⟨23,wd,dst,src,base,disp,imm,cc⟩=true) (hw:-128 ≤ wd ∧ wd < 128) (hd:0 ≤ dst ∧ dst < 16) (hs:0 ≤ src ∧ src < 16) (hb:0 ≤ base ∧ base < 16):
    Calls Tryd.prog 18 #[.agg #[.int .i8 23,.int .i8 wd,.int .i8 dst,.int .i8 src,.int .i8 base,.int .i64 disp,.int .i64 imm,.int .i8 cc]] W fun e w'=>e=.returned (.int .i64 ((2:Int) ^ (dst:Int).toNat)) ∧ Below W.heap.size W w':=by
  have MY:=Lib.hid (fun W=>show Calls Tryd.prog 12 #[.agg #[.int .i8 23,.int .i8 wd,.int .i8 dst,.int .i8 src,.int .i8 base,.int .i64 disp,.int .i64 imm,.int .i8 cc]] W fun e w'=>e=.returned (.bool true) ∧ Below W.heap.size W w' by have h:=emay_n ⟨23,wd,dst,src,base,disp,imm,cc⟩ W hw;rw [hm] at h;exact h)
  have CL:=Lib.hid (fun W=>cls_is (show clsI 23=4 by decide) W)
  have B_dst:=Lib.hid (fun W=>ebit_n dst hd W)
  clear hm hw hd hs hb
  generalize (2:Int) ^ dst.toNat=p_dst at *
  go_enter Tryd.func18,Tryd.ntmps18
  go_wp2_with fail
  refine (MY.out _).mono ?_
  rintro e w1 ⟨rfl,b1⟩
  have B1:=Lib.hid b1
  clear b1
  obtain ⟨c0_1,c1_1,c2_1,c3_1,c4_1,c5_1,c6_1,c7_1⟩:=xcells B1.out
  go_wp2_with fail
  refine (B_dst.out _).mono ?_
  rintro e y ⟨rfl,rfl⟩
  go_wp2_with fail
  go_ret
  exact ⟨rfl,below_boxed B1.out⟩
set_option maxHeartbeats 4000000 in
theorem ereads_24 (wd dst src base disp imm cc:Int) (W:World) (hm:mayX ⟨24,wd,dst,src,base,disp,imm,cc⟩=true) (hw:-128 ≤ wd ∧ wd < 128) (hd:0 ≤ dst ∧ dst < 16) (hs:0 ≤ src ∧ src < 16) (hb:0 ≤ base ∧ base < 16):
    Calls Tryd.prog 16 #[.agg #[.int .i8 24,.int .i8 wd,.int .i8 dst,.int .i8 src,.int .i8 base,.int .i64 disp,.int .i64 imm,.int .i8 cc]] W fun e w'=>e=.returned (.int .i64 (bits .or .i64 (bits .or .i64 ((2:Int) ^ (dst:Int).toNat) (1)) (4))) ∧ Below W.heap.size W w':=by
  have MY:=Lib.hid (fun W=>show Calls Tryd.prog 12 #[.agg #[.int .i8 24,.int .i8 wd,.int .i8 dst,.int .i8 src,.int .i8 base,.int .i64 disp,.int .i64 imm,.int .i8 cc]] W fun e w'=>e=.returned (.bool true) ∧ Below W.heap.size W w' by have h:=emay_n ⟨24,wd,dst,src,base,disp,imm,cc⟩ W hw;rw [hm] at h;exact h)
  have CL:=Lib.hid (fun W=>cls_is (show clsI 24=4 by decide) W)
  have B_dst:=Lib.hid (fun W=>ebit_n dst hd W)
  have B_0:=Lib.hid (fun W=>show Calls Tryd.prog 43 #[.int .i8 0] W fun e w'=>e=.returned (.int .i64 1) ∧ W=w' from ebit_n 0 (by decide) W)
  have B_2:=Lib.hid (fun W=>show Calls Tryd.prog 43 #[.int .i8 2] W fun e w'=>e=.returned (.int .i64 4) ∧ W=w' from ebit_n 2 (by decide) W)
  clear hm hw hd hs hb
  generalize (2:Int) ^ dst.toNat=p_dst at *
  go_enter Tryd.func16,Tryd.ntmps16
  go_wp2_with fail
  refine (MY.out _).mono ?_
  rintro e w1 ⟨rfl,b1⟩
  have B1:=Lib.hid b1
  clear b1
  obtain ⟨c0_1,c1_1,c2_1,c3_1,c4_1,c5_1,c6_1,c7_1⟩:=xcells B1.out
  go_wp2_with fail
  refine (B_dst.out _).mono ?_
  rintro e y ⟨rfl,rfl⟩
  go_wp2_with fail
  refine (B_0.out _).mono ?_
  rintro e y ⟨rfl,rfl⟩
  go_wp2_with fail
  refine (B_2.out _).mono ?_
  rintro e y ⟨rfl,rfl⟩
  go_wp2_with fail
  go_ret
  exact ⟨rfl,below_boxed B1.out⟩
set_option maxHeartbeats 4000000 in
theorem ewrites_24 (wd dst src base disp imm cc:Int) (W:World) (hm:mayX ⟨24,wd,dst,src,base,disp,imm,cc⟩=true) (hw:-128 ≤ wd ∧ wd < 128) (hd:0 ≤ dst ∧ dst < 16) (hs:0 ≤ src ∧ src < 16) (hb:0 ≤ base ∧ base < 16):
    Calls Tryd.prog 18 #[.agg #[.int .i8 24,.int .i8 wd,.int .i8 dst,.int .i8 src,.int .i8 base,.int .i64 disp,.int .i64 imm,.int .i8 cc]] W fun e w'=>e=.returned (.int .i64 (5)) ∧ Below W.heap.size W w':=by
  have MY:=Lib.hid (fun W=>show Calls Tryd.prog 12 #[.agg #[.int .i8 24,.int .i8 wd,.int .i8 dst,.int .i8 src,.int .i8 base,.int .i64 disp,.int .i64 imm,.int .i8 cc]] W fun e w'=>e=.returned (.bool true) ∧ Below W.heap.size W w' by have h:=emay_n ⟨24,wd,dst,src,base,disp,imm,cc⟩ W hw;rw [hm] at h;exact h)
  have CL:=Lib.hid (fun W=>cls_is (show clsI 24=4 by decide) W)
  have B_0:=Lib.hid (fun W=>show Calls Tryd.prog 43 #[.int .i8 0] W fun e w'=>e=.returned (.int .i64 1) ∧ W=w' from ebit_n 0 (by decide) W)
  have B_2:=Lib.hid (fun W=>show Calls Tryd.prog 43 #[.int .i8 2] W fun e w'=>e=.returned (.int .i64 4) ∧ W=w' from ebit_n 2 (by decide) W)
  clear hm hw hd hs hb
  go_enter Tryd.func18,Tryd.ntmps18
  go_wp2_with fail
  refine (MY.out _).mono ?_
  rintro e w1 ⟨rfl,b1⟩
  have B1:=Lib.hid b1
  clear b1
  obtain ⟨c0_1,c1_1,c2_1,c3_1,c4_1,c5_1,c6_1,c7_1⟩:=xcells B1.out
  go_wp2_with fail
  refine (B_0.out _).mono ?_
  rintro e y ⟨rfl,rfl⟩
  go_wp2_with fail
  refine (B_2.out _).mono ?_
  rintro e y ⟨rfl,rfl⟩
  go_wp2_with fail
  go_ret
  exact ⟨rfl,below_boxed B1.out⟩
set_option maxHeartbeats 4000000 in
theorem ereads_25 (wd dst src base disp imm cc:Int) (W:World) (hm:mayX ⟨25,wd,dst,src,base,disp,imm,cc⟩=true) (hw:-128 ≤ wd ∧ wd < 128) (hd:0 ≤ dst ∧ dst < 16) (hs:0 ≤ src ∧ src < 16) (hb:0 ≤ base ∧ base < 16):
    Calls Tryd.prog 16 #[.agg #[.int .i8 25,.int .i8 wd,.int .i8 dst,.int .i8 src,.int .i8 base,.int .i64 disp,.int .i64 imm,.int .i8 cc]] W fun e w'=>e=.returned (.int .i64 (bits .or .i64 ((2:Int) ^ (dst:Int).toNat) ((2:Int) ^ (src:Int).toNat))) ∧ Below W.heap.size W w':=by
  have MY:=Lib.hid (fun W=>show Calls Tryd.prog 12 #[.agg #[.int .i8 25,.int .i8 wd,.int .i8 dst,.int .i8 src,.int .i8 base,.int .i64 disp,.int .i64 imm,.int .i8 cc]] W fun e w'=>e=.returned (.bool true) ∧ Below W.heap.size W w' by have h:=emay_n ⟨25,wd,dst,src,base,disp,imm,cc⟩ W hw;rw [hm] at h;exact h)
  have CL:=Lib.hid (fun W=>cls_is (show clsI 25=5 by decide) W)
  have B_dst:=Lib.hid (fun W=>ebit_n dst hd W)
  have B_src:=Lib.hid (fun W=>ebit_n src hs W)
  clear hm hw hd hs hb
  generalize (2:Int) ^ dst.toNat=p_dst at *
  generalize (2:Int) ^ src.toNat=p_src at *
  go_enter Tryd.func16,Tryd.ntmps16
  go_wp2_with fail
  refine (MY.out _).mono ?_
  rintro e w1 ⟨rfl,b1⟩
  have B1:=Lib.hid b1
  clear b1
  obtain ⟨c0_1,c1_1,c2_1,c3_1,c4_1,c5_1,c6_1,c7_1⟩:=xcells B1.out
  go_wp2_with fail
  refine (CL.out _).mono ?_
  rintro e y ⟨rfl,rfl⟩
  go_wp2_with fail
  have KS:=Lib.hid (fun w' (b:Below (W.alloc (.cells #[.int .i8 25,.int .i8 wd,.int .i8 dst,.int .i8 src,.int .i8 base,.int .i64 disp,.int .i64 imm,.int .i8 cc] 24)).heap.size (W.alloc (.cells #[.int .i8 25,.int .i8 wd,.int .i8 dst,.int .i8 src,.int .i8 base,.int .i64 disp,.int .i64 imm,.int .i8 cc] 24)) w')=>show w'.cell? ⟨W.heap.size,2,none⟩=some (.int .i8 dst) ∧ w'.cell? ⟨W.heap.size,3,none⟩=some (.int .i8 src) ∧ Below (W.alloc (.cells #[.int .i8 25,.int .i8 wd,.int .i8 dst,.int .i8 src,.int .i8 base,.int .i64 disp,.int .i64 imm,.int .i8 cc] 24)).heap.size (W.alloc (.cells #[.int .i8 25,.int .i8 wd,.int .i8 dst,.int .i8 src,.int .i8 base,.int .i64 disp,.int .i64 imm,.int .i8 cc] 24)) w' from by obtain ⟨h0,h1,h2,h3,h4,h5,h6,h7⟩:=xcells b;exact ⟨h2,h3,b⟩)
  go_region_held3 (fun w'=>w'.cell? ⟨W.heap.size,2,none⟩=some (.int .i8 dst) ∧ w'.cell? ⟨W.heap.size,3,none⟩=some (.int .i8 src) ∧ Below (W.alloc (.cells #[.int .i8 25,.int .i8 wd,.int .i8 dst,.int .i8 src,.int .i8 base,.int .i64 disp,.int .i64 imm,.int .i8 cc] 24)).heap.size (W.alloc (.cells #[.int .i8 25,.int .i8 wd,.int .i8 dst,.int .i8 src,.int .i8 base,.int .i64 disp,.int .i64 imm,.int .i8 cc] 24)) w') ((go_split_ands;refine KS.out _ ?_;repeat' (first | assumption | exact B1.out | apply Below.drew | apply below_new))) (first
    | (go_at_call 43;refine (B_dst.out _).mono ?_;rintro e y ⟨rfl,rfl⟩)
    | (go_at_call 43;refine (B_src.out _).mono ?_;rintro e y ⟨rfl,rfl⟩))
  all_goals (
    go_wp2_with fail
    go_ret
    exact ⟨rfl,by repeat (first | exact below_boxed B1.out | apply Below.drew)⟩)
set_option maxHeartbeats 4000000 in
theorem ewrites_25 (wd dst src base disp imm cc:Int) (W:World) (hm:mayX ⟨25,wd,dst,src,base,disp,imm,cc⟩=true) (hw:-128 ≤ wd ∧ wd < 128) (hd:0 ≤ dst ∧ dst < 16) (hs:0 ≤ src ∧ src < 16) (hb:0 ≤ base ∧ base < 16):
    Calls Tryd.prog 18 #[.agg #[.int .i8 25,.int .i8 wd,.int .i8 dst,.int .i8 src,.int .i8 base,.int .i64 disp,.int .i64 imm,.int .i8 cc]] W fun e w'=>e=.returned (.int .i64 ((2:Int) ^ (dst:Int).toNat)) ∧ Below W.heap.size W w':=by
  have MY:=Lib.hid (fun W=>show Calls Tryd.prog 12 #[.agg #[.int .i8 25,.int .i8 wd,.int .i8 dst,.int .i8 src,.int .i8 base,.int .i64 disp,.int .i64 imm,.int .i8 cc]] W fun e w'=>e=.returned (.bool true) ∧ Below W.heap.size W w' by have h:=emay_n ⟨25,wd,dst,src,base,disp,imm,cc⟩ W hw;rw [hm] at h;exact h)
  have CL:=Lib.hid (fun W=>cls_is (show clsI 25=5 by decide) W)
  have B_dst:=Lib.hid (fun W=>ebit_n dst hd W)
  clear hm hw hd hs hb
  generalize (2:Int) ^ dst.toNat=p_dst at *
  go_enter Tryd.func18,Tryd.ntmps18
  go_wp2_with fail
  refine (MY.out _).mono ?_
  rintro e w1 ⟨rfl,b1⟩
  have B1:=Lib.hid b1
  clear b1
  obtain ⟨c0_1,c1_1,c2_1,c3_1,c4_1,c5_1,c6_1,c7_1⟩:=xcells B1.out
  go_wp2_with fail
  refine (B_dst.out _).mono ?_
  rintro e y ⟨rfl,rfl⟩
  go_wp2_with fail
  go_ret
  exact ⟨rfl,below_boxed B1.out⟩
set_option maxHeartbeats 4000000 in
theorem ereads_26 (wd dst src base disp imm cc:Int) (W:World) (hm:mayX ⟨26,wd,dst,src,base,disp,imm,cc⟩=true) (hw:-128 ≤ wd ∧ wd < 128) (hd:0 ≤ dst ∧ dst < 16) (hs:0 ≤ src ∧ src < 16) (hb:0 ≤ base ∧ base < 16):
    Calls Tryd.prog 16 #[.agg #[.int .i8 26,.int .i8 wd,.int .i8 dst,.int .i8 src,.int .i8 base,.int .i64 disp,.int .i64 imm,.int .i8 cc]] W fun e w'=>e=.returned (.int .i64 ((2:Int) ^ (base:Int).toNat)) ∧ Below W.heap.size W w':=by
  have MY:=Lib.hid (fun W=>show Calls Tryd.prog 12 #[.agg #[.int .i8 26,.int .i8 wd,.int .i8 dst,.int .i8 src,.int .i8 base,.int .i64 disp,.int .i64 imm,.int .i8 cc]] W fun e w'=>e=.returned (.bool true) ∧ Below W.heap.size W w' by have h:=emay_n ⟨26,wd,dst,src,base,disp,imm,cc⟩ W hw;rw [hm] at h;exact h)
  have CL:=Lib.hid (fun W=>cls_is (show clsI 26=6 by decide) W)
  have B_base:=Lib.hid (fun W=>ebit_n base hb W)
  clear hm hw hd hs hb
  generalize (2:Int) ^ base.toNat=p_base at *
  go_enter Tryd.func16,Tryd.ntmps16
  go_wp2_with fail
  refine (MY.out _).mono ?_
  rintro e w1 ⟨rfl,b1⟩
  have B1:=Lib.hid b1
  clear b1
  obtain ⟨c0_1,c1_1,c2_1,c3_1,c4_1,c5_1,c6_1,c7_1⟩:=xcells B1.out
  go_wp2_with fail
  refine (B_base.out _).mono ?_
  rintro e y ⟨rfl,rfl⟩
  go_wp2_with fail
  go_ret
  exact ⟨rfl,below_boxed B1.out⟩
set_option maxHeartbeats 4000000 in
theorem ewrites_26 (wd dst src base disp imm cc:Int) (W:World) (hm:mayX ⟨26,wd,dst,src,base,disp,imm,cc⟩=true) (hw:-128 ≤ wd ∧ wd < 128) (hd:0 ≤ dst ∧ dst < 16) (hs:0 ≤ src ∧ src < 16) (hb:0 ≤ base ∧ base < 16):
    Calls Tryd.prog 18 #[.agg #[.int .i8 26,.int .i8 wd,.int .i8 dst,.int .i8 src,.int .i8 base,.int .i64 disp,.int .i64 imm,.int .i8 cc]] W fun e w'=>e=.returned (.int .i64 ((2:Int) ^ (dst:Int).toNat)) ∧ Below W.heap.size W w':=by
  have MY:=Lib.hid (fun W=>show Calls Tryd.prog 12 #[.agg #[.int .i8 26,.int .i8 wd,.int .i8 dst,.int .i8 src,.int .i8 base,.int .i64 disp,.int .i64 imm,.int .i8 cc]] W fun e w'=>e=.returned (.bool true) ∧ Below W.heap.size W w' by have h:=emay_n ⟨26,wd,dst,src,base,disp,imm,cc⟩ W hw;rw [hm] at h;exact h)
  have CL:=Lib.hid (fun W=>cls_is (show clsI 26=6 by decide) W)
  have B_dst:=Lib.hid (fun W=>ebit_n dst hd W)
  clear hm hw hd hs hb
  generalize (2:Int) ^ dst.toNat=p_dst at *
  go_enter Tryd.func18,Tryd.ntmps18
  go_wp2_with fail
  refine (MY.out _).mono ?_
  rintro e w1 ⟨rfl,b1⟩
  have B1:=Lib.hid b1
  clear b1
  obtain ⟨c0_1,c1_1,c2_1,c3_1,c4_1,c5_1,c6_1,c7_1⟩:=xcells B1.out
  go_wp2_with fail
  refine (B_dst.out _).mono ?_
  rintro e y ⟨rfl,rfl⟩
  go_wp2_with fail
  go_ret
  exact ⟨rfl,below_boxed B1.out⟩
set_option maxHeartbeats 4000000 in
theorem ereads_27 (wd dst src base disp imm cc:Int) (W:World) (hm:mayX ⟨27,wd,dst,src,base,disp,imm,cc⟩=true) (hw:-128 ≤ wd ∧ wd < 128) (hd:0 ≤ dst ∧ dst < 16) (hs:0 ≤ src ∧ src < 16) (hb:0 ≤ base ∧ base < 16):
    Calls Tryd.prog 16 #[.agg #[.int .i8 27,.int .i8 wd,.int .i8 dst,.int .i8 src,.int .i8 base,.int .i64 disp,.int .i64 imm,.int .i8 cc]] W fun e w'=>e=.returned (.int .i64 (bits .or .i64 ((2:Int) ^ (base:Int).toNat) ((2:Int) ^ (src:Int).toNat))) ∧ Below W.heap.size W w':=by
  have MY:=Lib.hid (fun W=>show Calls Tryd.prog 12 #[.agg #[.int .i8 27,.int .i8 wd,.int .i8 dst,.int .i8 src,.int .i8 base,.int .i64 disp,.int .i64 imm,.int .i8 cc]] W fun e w'=>e=.returned (.bool true) ∧ Below W.heap.size W w' by have h:=emay_n ⟨27,wd,dst,src,base,disp,imm,cc⟩ W hw;rw [hm] at h;exact h)
  have CL:=Lib.hid (fun W=>cls_is (show clsI 27=7 by decide) W)
  have B_base:=Lib.hid (fun W=>ebit_n base hb W)
  have B_src:=Lib.hid (fun W=>ebit_n src hs W)
  clear hm hw hd hs hb
  generalize (2:Int) ^ base.toNat=p_base at *
  generalize (2:Int) ^ src.toNat=p_src at *
  go_enter Tryd.func16,Tryd.ntmps16
  go_wp2_with fail
  refine (MY.out _).mono ?_
  rintro e w1 ⟨rfl,b1⟩
  have B1:=Lib.hid b1
  clear b1
  obtain ⟨c0_1,c1_1,c2_1,c3_1,c4_1,c5_1,c6_1,c7_1⟩:=xcells B1.out
  go_wp2_with fail
  have KS:=Lib.hid (fun w' (b:Below (W.alloc (.cells #[.int .i8 27,.int .i8 wd,.int .i8 dst,.int .i8 src,.int .i8 base,.int .i64 disp,.int .i64 imm,.int .i8 cc] 24)).heap.size (W.alloc (.cells #[.int .i8 27,.int .i8 wd,.int .i8 dst,.int .i8 src,.int .i8 base,.int .i64 disp,.int .i64 imm,.int .i8 cc] 24)) w')=>show w'.cell? ⟨W.heap.size,4,none⟩=some (.int .i8 base) ∧ w'.cell? ⟨W.heap.size,3,none⟩=some (.int .i8 src) ∧ Below (W.alloc (.cells #[.int .i8 27,.int .i8 wd,.int .i8 dst,.int .i8 src,.int .i8 base,.int .i64 disp,.int .i64 imm,.int .i8 cc] 24)).heap.size (W.alloc (.cells #[.int .i8 27,.int .i8 wd,.int .i8 dst,.int .i8 src,.int .i8 base,.int .i64 disp,.int .i64 imm,.int .i8 cc] 24)) w' from by obtain ⟨h0,h1,h2,h3,h4,h5,h6,h7⟩:=xcells b;exact ⟨h4,h3,b⟩)
  go_region_held3 (fun w'=>w'.cell? ⟨W.heap.size,4,none⟩=some (.int .i8 base) ∧ w'.cell? ⟨W.heap.size,3,none⟩=some (.int .i8 src) ∧ Below (W.alloc (.cells #[.int .i8 27,.int .i8 wd,.int .i8 dst,.int .i8 src,.int .i8 base,.int .i64 disp,.int .i64 imm,.int .i8 cc] 24)).heap.size (W.alloc (.cells #[.int .i8 27,.int .i8 wd,.int .i8 dst,.int .i8 src,.int .i8 base,.int .i64 disp,.int .i64 imm,.int .i8 cc] 24)) w') ((go_split_ands;refine KS.out _ ?_;repeat' (first | assumption | exact B1.out | apply Below.drew | apply below_new))) (first
    | (go_at_call 43;refine (B_base.out _).mono ?_;rintro e y ⟨rfl,rfl⟩)
    | (go_at_call 43;refine (B_src.out _).mono ?_;rintro e y ⟨rfl,rfl⟩))
  all_goals (
    go_wp2_with fail
    go_ret
    exact ⟨rfl,by repeat (first | exact below_boxed B1.out | apply Below.drew)⟩)
set_option maxHeartbeats 4000000 in
theorem ewrites_27 (wd dst src base disp imm cc:Int) (W:World) (hm:mayX ⟨27,wd,dst,src,base,disp,imm,cc⟩=true) (hw:-128 ≤ wd ∧ wd < 128) (hd:0 ≤ dst ∧ dst < 16) (hs:0 ≤ src ∧ src < 16) (hb:0 ≤ base ∧ base < 16):
    Calls Tryd.prog 18 #[.agg #[.int .i8 27,.int .i8 wd,.int .i8 dst,.int .i8 src,.int .i8 base,.int .i64 disp,.int .i64 imm,.int .i8 cc]] W fun e w'=>e=.returned (.int .i64 (0)) ∧ Below W.heap.size W w':=by
  have MY:=Lib.hid (fun W=>show Calls Tryd.prog 12 #[.agg #[.int .i8 27,.int .i8 wd,.int .i8 dst,.int .i8 src,.int .i8 base,.int .i64 disp,.int .i64 imm,.int .i8 cc]] W fun e w'=>e=.returned (.bool true) ∧ Below W.heap.size W w' by have h:=emay_n ⟨27,wd,dst,src,base,disp,imm,cc⟩ W hw;rw [hm] at h;exact h)
  have CL:=Lib.hid (fun W=>cls_is (show clsI 27=7 by decide) W)
  clear hm hw hd hs hb
  go_enter Tryd.func18,Tryd.ntmps18
  go_wp2_with fail
  refine (MY.out _).mono ?_
  rintro e w1 ⟨rfl,b1⟩
  have B1:=Lib.hid b1
  clear b1
  obtain ⟨c0_1,c1_1,c2_1,c3_1,c4_1,c5_1,c6_1,c7_1⟩:=xcells B1.out
  go_wp2_with fail
  go_ret
  exact ⟨rfl,below_boxed B1.out⟩
set_option maxHeartbeats 4000000 in
theorem ereads_28 (wd dst src base disp imm cc:Int) (W:World) (hm:mayX ⟨28,wd,dst,src,base,disp,imm,cc⟩=true) (hw:-128 ≤ wd ∧ wd < 128) (hd:0 ≤ dst ∧ dst < 16) (hs:0 ≤ src ∧ src < 16) (hb:0 ≤ base ∧ base < 16):
    Calls Tryd.prog 16 #[.agg #[.int .i8 28,.int .i8 wd,.int .i8 dst,.int .i8 src,.int .i8 base,.int .i64 disp,.int .i64 imm,.int .i8 cc]] W fun e w'=>e=.returned (.int .i64 (0)) ∧ Below W.heap.size W w':=by
  have MY:=Lib.hid (fun W=>show Calls Tryd.prog 12 #[.agg #[.int .i8 28,.int .i8 wd,.int .i8 dst,.int .i8 src,.int .i8 base,.int .i64 disp,.int .i64 imm,.int .i8 cc]] W fun e w'=>e=.returned (.bool true) ∧ Below W.heap.size W w' by have h:=emay_n ⟨28,wd,dst,src,base,disp,imm,cc⟩ W hw;rw [hm] at h;exact h)
  have CL:=Lib.hid (fun W=>cls_is (show clsI 28=8 by decide) W)
  clear hm hw hd hs hb
  go_enter Tryd.func16,Tryd.ntmps16
  go_wp2_with fail
  refine (MY.out _).mono ?_
  rintro e w1 ⟨rfl,b1⟩
  have B1:=Lib.hid b1
  clear b1
  obtain ⟨c0_1,c1_1,c2_1,c3_1,c4_1,c5_1,c6_1,c7_1⟩:=xcells B1.out
  go_wp2_with fail
  go_ret
  exact ⟨rfl,below_boxed B1.out⟩
set_option maxHeartbeats 4000000 in
theorem ewrites_28 (wd dst src base disp imm cc:Int) (W:World) (hm:mayX ⟨28,wd,dst,src,base,disp,imm,cc⟩=true) (hw:-128 ≤ wd ∧ wd < 128) (hd:0 ≤ dst ∧ dst < 16) (hs:0 ≤ src ∧ src < 16) (hb:0 ≤ base ∧ base < 16):
    Calls Tryd.prog 18 #[.agg #[.int .i8 28,.int .i8 wd,.int .i8 dst,.int .i8 src,.int .i8 base,.int .i64 disp,.int .i64 imm,.int .i8 cc]] W fun e w'=>e=.returned (.int .i64 (0)) ∧ Below W.heap.size W w':=by
  have MY:=Lib.hid (fun W=>show Calls Tryd.prog 12 #[.agg #[.int .i8 28,.int .i8 wd,.int .i8 dst,.int .i8 src,.int .i8 base,.int .i64 disp,.int .i64 imm,.int .i8 cc]] W fun e w'=>e=.returned (.bool true) ∧ Below W.heap.size W w' by have h:=emay_n ⟨28,wd,dst,src,base,disp,imm,cc⟩ W hw;rw [hm] at h;exact h)
  have CL:=Lib.hid (fun W=>cls_is (show clsI 28=8 by decide) W)
  clear hm hw hd hs hb
  go_enter Tryd.func18,Tryd.ntmps18
  go_wp2_with fail
  refine (MY.out _).mono ?_
  rintro e w1 ⟨rfl,b1⟩
  have B1:=Lib.hid b1
  clear b1
  obtain ⟨c0_1,c1_1,c2_1,c3_1,c4_1,c5_1,c6_1,c7_1⟩:=xcells B1.out
  go_wp2_with fail
  go_ret
  exact ⟨rfl,below_boxed B1.out⟩
set_option maxHeartbeats 4000000 in
theorem ereads_29 (wd dst src base disp imm cc:Int) (W:World) (hm:mayX ⟨29,wd,dst,src,base,disp,imm,cc⟩=true) (hw:-128 ≤ wd ∧ wd < 128) (hd:0 ≤ dst ∧ dst < 16) (hs:0 ≤ src ∧ src < 16) (hb:0 ≤ base ∧ base < 16):
    Calls Tryd.prog 16 #[.agg #[.int .i8 29,.int .i8 wd,.int .i8 dst,.int .i8 src,.int .i8 base,.int .i64 disp,.int .i64 imm,.int .i8 cc]] W fun e w'=>e=.returned (.int .i64 (0)) ∧ Below W.heap.size W w':=by
  have MY:=Lib.hid (fun W=>show Calls Tryd.prog 12 #[.agg #[.int .i8 29,.int .i8 wd,.int .i8 dst,.int .i8 src,.int .i8 base,.int .i64 disp,.int .i64 imm,.int .i8 cc]] W fun e w'=>e=.returned (.bool true) ∧ Below W.heap.size W w' by have h:=emay_n ⟨29,wd,dst,src,base,disp,imm,cc⟩ W hw;rw [hm] at h;exact h)
  have CL:=Lib.hid (fun W=>cls_is (show clsI 29=9 by decide) W)
  clear hm hw hd hs hb
  go_enter Tryd.func16,Tryd.ntmps16
  go_wp2_with fail
  refine (MY.out _).mono ?_
  rintro e w1 ⟨rfl,b1⟩
  have B1:=Lib.hid b1
  clear b1
  obtain ⟨c0_1,c1_1,c2_1,c3_1,c4_1,c5_1,c6_1,c7_1⟩:=xcells B1.out
  go_wp2_with fail
  go_ret
  exact ⟨rfl,below_boxed B1.out⟩
set_option maxHeartbeats 4000000 in
theorem ewrites_29 (wd dst src base disp imm cc:Int) (W:World) (hm:mayX ⟨29,wd,dst,src,base,disp,imm,cc⟩=true) (hw:-128 ≤ wd ∧ wd < 128) (hd:0 ≤ dst ∧ dst < 16) (hs:0 ≤ src ∧ src < 16) (hb:0 ≤ base ∧ base < 16):
    Calls Tryd.prog 18 #[.agg #[.int .i8 29,.int .i8 wd,.int .i8 dst,.int .i8 src,.int .i8 base,.int .i64 disp,.int .i64 imm,.int .i8 cc]] W fun e w'=>e=.returned (.int .i64 (0)) ∧ Below W.heap.size W w':=by
  have MY:=Lib.hid (fun W=>show Calls Tryd.prog 12 #[.agg #[.int .i8 29,.int .i8 wd,.int .i8 dst,.int .i8 src,.int .i8 base,.int .i64 disp,.int .i64 imm,.int .i8 cc]] W fun e w'=>e=.returned (.bool true) ∧ Below W.heap.size W w' by have h:=emay_n ⟨29,wd,dst,src,base,disp,imm,cc⟩ W hw;rw [hm] at h;exact h)
  have CL:=Lib.hid (fun W=>cls_is (show clsI 29=9 by decide) W)
  clear hm hw hd hs hb
  go_enter Tryd.func18,Tryd.ntmps18
  go_wp2_with fail
  refine (MY.out _).mono ?_
  rintro e w1 ⟨rfl,b1⟩
  have B1:=Lib.hid b1
  clear b1
  obtain ⟨c0_1,c1_1,c2_1,c3_1,c4_1,c5_1,c6_1,c7_1⟩:=xcells B1.out
  go_wp2_with fail
  go_ret
  exact ⟨rfl,below_boxed B1.out⟩
set_option maxHeartbeats 4000000 in
theorem ereads_30 (wd dst src base disp imm cc:Int) (W:World) (hm:mayX ⟨30,wd,dst,src,base,disp,imm,cc⟩=true) (hw:-128 ≤ wd ∧ wd < 128) (hd:0 ≤ dst ∧ dst < 16) (hs:0 ≤ src ∧ src < 16) (hb:0 ≤ base ∧ base < 16):
    Calls Tryd.prog 16 #[.agg #[.int .i8 30,.int .i8 wd,.int .i8 dst,.int .i8 src,.int .i8 base,.int .i64 disp,.int .i64 imm,.int .i8 cc]] W fun e w'=>e=.returned (.int .i64 (17)) ∧ Below W.heap.size W w':=by
  have MY:=Lib.hid (fun W=>show Calls Tryd.prog 12 #[.agg #[.int .i8 30,.int .i8 wd,.int .i8 dst,.int .i8 src,.int .i8 base,.int .i64 disp,.int .i64 imm,.int .i8 cc]] W fun e w'=>e=.returned (.bool true) ∧ Below W.heap.size W w' by have h:=emay_n ⟨30,wd,dst,src,base,disp,imm,cc⟩ W hw;rw [hm] at h;exact h)
  have CL:=Lib.hid (fun W=>cls_is (show clsI 30=10 by decide) W)
  have B_4:=Lib.hid (fun W=>show Calls Tryd.prog 43 #[.int .i8 4] W fun e w'=>e=.returned (.int .i64 16) ∧ W=w' from ebit_n 4 (by decide) W)
  have B_0:=Lib.hid (fun W=>show Calls Tryd.prog 43 #[.int .i8 0] W fun e w'=>e=.returned (.int .i64 1) ∧ W=w' from ebit_n 0 (by decide) W)
  clear hm hw hd hs hb
  go_enter Tryd.func16,Tryd.ntmps16
  go_wp2_with fail
  refine (MY.out _).mono ?_
  rintro e w1 ⟨rfl,b1⟩
  have B1:=Lib.hid b1
  clear b1
  obtain ⟨c0_1,c1_1,c2_1,c3_1,c4_1,c5_1,c6_1,c7_1⟩:=xcells B1.out
  go_wp2_with fail
  refine (B_4.out _).mono ?_
  rintro e y ⟨rfl,rfl⟩
  go_wp2_with fail
  refine (B_0.out _).mono ?_
  rintro e y ⟨rfl,rfl⟩
  go_wp2_with fail
  go_ret
  exact ⟨rfl,below_boxed B1.out⟩
set_option maxHeartbeats 4000000 in
theorem ewrites_30 (wd dst src base disp imm cc:Int) (W:World) (hm:mayX ⟨30,wd,dst,src,base,disp,imm,cc⟩=true) (hw:-128 ≤ wd ∧ wd < 128) (hd:0 ≤ dst ∧ dst < 16) (hs:0 ≤ src ∧ src < 16) (hb:0 ≤ base ∧ base < 16):
    Calls Tryd.prog 18 #[.agg #[.int .i8 30,.int .i8 wd,.int .i8 dst,.int .i8 src,.int .i8 base,.int .i64 disp,.int .i64 imm,.int .i8 cc]] W fun e w'=>e=.returned (.int .i64 (16)) ∧ Below W.heap.size W w':=by
  have MY:=Lib.hid (fun W=>show Calls Tryd.prog 12 #[.agg #[.int .i8 30,.int .i8 wd,.int .i8 dst,.int .i8 src,.int .i8 base,.int .i64 disp,.int .i64 imm,.int .i8 cc]] W fun e w'=>e=.returned (.bool true) ∧ Below W.heap.size W w' by have h:=emay_n ⟨30,wd,dst,src,base,disp,imm,cc⟩ W hw;rw [hm] at h;exact h)
  have CL:=Lib.hid (fun W=>cls_is (show clsI 30=10 by decide) W)
  have B_4:=Lib.hid (fun W=>show Calls Tryd.prog 43 #[.int .i8 4] W fun e w'=>e=.returned (.int .i64 16) ∧ W=w' from ebit_n 4 (by decide) W)
  clear hm hw hd hs hb
  go_enter Tryd.func18,Tryd.ntmps18
  go_wp2_with fail
  refine (MY.out _).mono ?_
  rintro e w1 ⟨rfl,b1⟩
  have B1:=Lib.hid b1
  clear b1
  obtain ⟨c0_1,c1_1,c2_1,c3_1,c4_1,c5_1,c6_1,c7_1⟩:=xcells B1.out
  go_wp2_with fail
  refine (B_4.out _).mono ?_
  rintro e y ⟨rfl,rfl⟩
  go_wp2_with fail
  go_ret
  exact ⟨rfl,below_boxed B1.out⟩
set_option maxHeartbeats 4000000 in
theorem ereads_31 (wd dst src base disp imm cc:Int) (W:World) (hm:mayX ⟨31,wd,dst,src,base,disp,imm,cc⟩=true) (hw:-128 ≤ wd ∧ wd < 128) (hd:0 ≤ dst ∧ dst < 16) (hs:0 ≤ src ∧ src < 16) (hb:0 ≤ base ∧ base < 16):
    Calls Tryd.prog 16 #[.agg #[.int .i8 31,.int .i8 wd,.int .i8 dst,.int .i8 src,.int .i8 base,.int .i64 disp,.int .i64 imm,.int .i8 cc]] W fun e w'=>e=.returned (.int .i64 (1477)) ∧ Below W.heap.size W w':=by
  have MY:=Lib.hid (fun W=>show Calls Tryd.prog 12 #[.agg #[.int .i8 31,.int .i8 wd,.int .i8 dst,.int .i8 src,.int .i8 base,.int .i64 disp,.int .i64 imm,.int .i8 cc]] W fun e w'=>e=.returned (.bool true) ∧ Below W.heap.size W w' by have h:=emay_n ⟨31,wd,dst,src,base,disp,imm,cc⟩ W hw;rw [hm] at h;exact h)
  have CL:=Lib.hid (fun W=>cls_is (show clsI 31=10 by decide) W)
  have B_0:=Lib.hid (fun W=>show Calls Tryd.prog 43 #[.int .i8 0] W fun e w'=>e=.returned (.int .i64 1) ∧ W=w' from ebit_n 0 (by decide) W)
  have B_7:=Lib.hid (fun W=>show Calls Tryd.prog 43 #[.int .i8 7] W fun e w'=>e=.returned (.int .i64 128) ∧ W=w' from ebit_n 7 (by decide) W)
  have B_6:=Lib.hid (fun W=>show Calls Tryd.prog 43 #[.int .i8 6] W fun e w'=>e=.returned (.int .i64 64) ∧ W=w' from ebit_n 6 (by decide) W)
  have B_2:=Lib.hid (fun W=>show Calls Tryd.prog 43 #[.int .i8 2] W fun e w'=>e=.returned (.int .i64 4) ∧ W=w' from ebit_n 2 (by decide) W)
  have B_10:=Lib.hid (fun W=>show Calls Tryd.prog 43 #[.int .i8 10] W fun e w'=>e=.returned (.int .i64 1024) ∧ W=w' from ebit_n 10 (by decide) W)
  have B_8:=Lib.hid (fun W=>show Calls Tryd.prog 43 #[.int .i8 8] W fun e w'=>e=.returned (.int .i64 256) ∧ W=w' from ebit_n 8 (by decide) W)
  clear hm hw hd hs hb
  go_enter Tryd.func16,Tryd.ntmps16
  go_wp2_with fail
  refine (MY.out _).mono ?_
  rintro e w1 ⟨rfl,b1⟩
  have B1:=Lib.hid b1
  clear b1
  obtain ⟨c0_1,c1_1,c2_1,c3_1,c4_1,c5_1,c6_1,c7_1⟩:=xcells B1.out
  go_wp2_with fail
  refine (B_0.out _).mono ?_
  rintro e y ⟨rfl,rfl⟩
  go_wp2_with fail
  refine (B_7.out _).mono ?_
  rintro e y ⟨rfl,rfl⟩
  go_wp2_with fail
  refine (B_6.out _).mono ?_
  rintro e y ⟨rfl,rfl⟩
  go_wp2_with fail
  refine (B_2.out _).mono ?_
  rintro e y ⟨rfl,rfl⟩
  go_wp2_with fail
  refine (B_10.out _).mono ?_
  rintro e y ⟨rfl,rfl⟩
  go_wp2_with fail
  refine (B_8.out _).mono ?_
  rintro e y ⟨rfl,rfl⟩
  go_wp2_with fail
  go_ret
  exact ⟨rfl,below_boxed B1.out⟩
set_option maxHeartbeats 4000000 in
theorem ewrites_31 (wd dst src base disp imm cc:Int) (W:World) (hm:mayX ⟨31,wd,dst,src,base,disp,imm,cc⟩=true) (hw:-128 ≤ wd ∧ wd < 128) (hd:0 ≤ dst ∧ dst < 16) (hs:0 ≤ src ∧ src < 16) (hb:0 ≤ base ∧ base < 16):
    Calls Tryd.prog 18 #[.agg #[.int .i8 31,.int .i8 wd,.int .i8 dst,.int .i8 src,.int .i8 base,.int .i64 disp,.int .i64 imm,.int .i8 cc]] W fun e w'=>e=.returned (.int .i64 (2051)) ∧ Below W.heap.size W w':=by
  have MY:=Lib.hid (fun W=>show Calls Tryd.prog 12 #[.agg #[.int .i8 31,.int .i8 wd,.int .i8 dst,.int .i8 src,.int .i8 base,.int .i64 disp,.int .i64 imm,.int .i8 cc]] W fun e w'=>e=.returned (.bool true) ∧ Below W.heap.size W w' by have h:=emay_n ⟨31,wd,dst,src,base,disp,imm,cc⟩ W hw;rw [hm] at h;exact h)
  have CL:=Lib.hid (fun W=>cls_is (show clsI 31=10 by decide) W)
  have B_0:=Lib.hid (fun W=>show Calls Tryd.prog 43 #[.int .i8 0] W fun e w'=>e=.returned (.int .i64 1) ∧ W=w' from ebit_n 0 (by decide) W)
  have B_1:=Lib.hid (fun W=>show Calls Tryd.prog 43 #[.int .i8 1] W fun e w'=>e=.returned (.int .i64 2) ∧ W=w' from ebit_n 1 (by decide) W)
  have B_11:=Lib.hid (fun W=>show Calls Tryd.prog 43 #[.int .i8 11] W fun e w'=>e=.returned (.int .i64 2048) ∧ W=w' from ebit_n 11 (by decide) W)
  clear hm hw hd hs hb
  go_enter Tryd.func18,Tryd.ntmps18
  go_wp2_with fail
  refine (MY.out _).mono ?_
  rintro e w1 ⟨rfl,b1⟩
  have B1:=Lib.hid b1
  clear b1
  obtain ⟨c0_1,c1_1,c2_1,c3_1,c4_1,c5_1,c6_1,c7_1⟩:=xcells B1.out
  go_wp2_with fail
  refine (B_0.out _).mono ?_
  rintro e y ⟨rfl,rfl⟩
  go_wp2_with fail
  refine (B_1.out _).mono ?_
  rintro e y ⟨rfl,rfl⟩
  go_wp2_with fail
  refine (B_11.out _).mono ?_
  rintro e y ⟨rfl,rfl⟩
  go_wp2_with fail
  go_ret
  exact ⟨rfl,below_boxed B1.out⟩
def readsX (x:Xi):Int:=
  if x.op=0 then (2:Int) ^ x.src.toNat else
  if x.op=24 then bits .or .i64 (bits .or .i64 ((2:Int) ^ x.dst.toNat) (1)) (4) else
  if x.op=26 then (2:Int) ^ x.base.toNat else
  if x.op=27 then bits .or .i64 ((2:Int) ^ x.base.toNat) ((2:Int) ^ x.src.toNat) else
  if x.op=30 then 17 else
  if x.op=31 then 1477 else
  if x.op=1 ∨ x.op=28 ∨ x.op=29 then 0 else
  if x.op=20 ∨ x.op=21 ∨ x.op=22 then bits .or .i64 ((2:Int) ^ x.dst.toNat) (2) else
  if x.op=2 ∨ x.op=3 ∨ x.op=4 ∨ x.op=5 ∨ x.op=6 ∨ x.op=7 ∨ x.op=8 ∨ x.op=16 ∨ x.op=25 then bits .or .i64 ((2:Int) ^ x.dst.toNat) ((2:Int) ^ x.src.toNat) else
  (2:Int) ^ x.dst.toNat
def writesX (x:Xi):Int:=
  if x.op=24 then 5 else
  if x.op=30 then 16 else
  if x.op=31 then 2051 else
  if x.op=7 ∨ x.op=8 ∨ x.op=14 ∨ x.op=15 ∨ x.op=27 ∨ x.op=28 ∨ x.op=29 then 0 else
  (2:Int) ^ x.dst.toNat
theorem may_parts {x:Xi} (h:mayX x=true):(0 ≤ x.op ∧ x.op < 32) ∧ (0 ≤ x.dst ∧ x.dst < 16) ∧ (0 ≤ x.src ∧ x.src < 16) ∧ (0 ≤ x.base ∧ x.base < 16):=by
  unfold mayX regB at h
  simp only [Bool.and_eq_true,bne_iff_ne,ne_eq,decide_eq_true_eq] at h
  obtain ⟨h0,h1,h2,h3,h4,h5,h6,h7⟩:=h
  refine ⟨?_,by omega,by omega,by omega⟩
  by_cases hh:0 ≤ x.op ∧ x.op < 32
  · exact hh
  · exact absurd (by unfold clsI;rw [if_neg hh]) h0
set_option maxHeartbeats 2000000 in
theorem ereads_no (x:Xi) (W:World) (h:mayX x=false) (hw:-128 ≤ x.w ∧ x.w < 128):Calls Tryd.prog 16 #[.agg (xC x)] W fun e w'=>e=.returned (.int .i64 0) ∧ Below W.heap.size W w':=by
  have MY:=Lib.hid (fun W=>show Calls Tryd.prog 12 #[.agg (xC x)] W fun e w'=>e=.returned (.bool false) ∧ Below W.heap.size W w' by have q:=emay_n x W hw;rw [h] at q;exact q)
  clear h hw
  go_enter Tryd.func16,Tryd.ntmps16
  go_wp2_with fail
  refine (MY.out _).mono ?_
  rintro e w1 ⟨rfl,b1⟩
  have B1:=Lib.hid b1
  clear b1
  go_wp2_with fail
  go_ret
  exact ⟨rfl,below_boxed B1.out⟩
theorem ereads_n (x:Xi) (W:World) (hw:-128 ≤ x.w ∧ x.w < 128):Calls Tryd.prog 16 #[.agg (xC x)] W fun e w'=>e=.returned (.int .i64 (bif mayX x then readsX x else 0)) ∧ Below W.heap.size W w':=by
  cases h:mayX x
  · exact ereads_no x W h hw
  · obtain ⟨ho,hd,hs,hb⟩:=may_parts h
    obtain ⟨op,wd,dst,src,base,disp,imm,cc⟩:=x
    simp only at ho hd hs hb hw
    obtain rfl | rfl | rfl | rfl | rfl | rfl | rfl | rfl | rfl | rfl | rfl | rfl | rfl | rfl | rfl | rfl | rfl | rfl | rfl | rfl | rfl | rfl | rfl | rfl | rfl | rfl | rfl | rfl | rfl | rfl | rfl | rfl:=lt32 ho
    · exact ereads_0 wd dst src base disp imm cc W h hw hd hs hb
    · exact ereads_1 wd dst src base disp imm cc W h hw hd hs hb
    · exact ereads_2 wd dst src base disp imm cc W h hw hd hs hb
    · exact ereads_3 wd dst src base disp imm cc W h hw hd hs hb
    · exact ereads_4 wd dst src base disp imm cc W h hw hd hs hb
    · exact ereads_5 wd dst src base disp imm cc W h hw hd hs hb
    · exact ereads_6 wd dst src base disp imm cc W h hw hd hs hb
    · exact ereads_7 wd dst src base disp imm cc W h hw hd hs hb
    · exact ereads_8 wd dst src base disp imm cc W h hw hd hs hb
    · exact ereads_9 wd dst src base disp imm cc W h hw hd hs hb
    · exact ereads_10 wd dst src base disp imm cc W h hw hd hs hb
    · exact ereads_11 wd dst src base disp imm cc W h hw hd hs hb
    · exact ereads_12 wd dst src base disp imm cc W h hw hd hs hb
    · exact ereads_13 wd dst src base disp imm cc W h hw hd hs hb
    · exact ereads_14 wd dst src base disp imm cc W h hw hd hs hb
    · exact ereads_15 wd dst src base disp imm cc W h hw hd hs hb
    · exact ereads_16 wd dst src base disp imm cc W h hw hd hs hb
    · exact ereads_17 wd dst src base disp imm cc W h hw hd hs hb
    · exact ereads_18 wd dst src base disp imm cc W h hw hd hs hb
    · exact ereads_19 wd dst src base disp imm cc W h hw hd hs hb
    · exact ereads_20 wd dst src base disp imm cc W h hw hd hs hb
    · exact ereads_21 wd dst src base disp imm cc W h hw hd hs hb
    · exact ereads_22 wd dst src base disp imm cc W h hw hd hs hb
    · exact ereads_23 wd dst src base disp imm cc W h hw hd hs hb
    · exact ereads_24 wd dst src base disp imm cc W h hw hd hs hb
    · exact ereads_25 wd dst src base disp imm cc W h hw hd hs hb
    · exact ereads_26 wd dst src base disp imm cc W h hw hd hs hb
    · exact ereads_27 wd dst src base disp imm cc W h hw hd hs hb
    · exact ereads_28 wd dst src base disp imm cc W h hw hd hs hb
    · exact ereads_29 wd dst src base disp imm cc W h hw hd hs hb
    · exact ereads_30 wd dst src base disp imm cc W h hw hd hs hb
    · exact ereads_31 wd dst src base disp imm cc W h hw hd hs hb
set_option maxHeartbeats 2000000 in
theorem ewrites_no (x:Xi) (W:World) (h:mayX x=false) (hw:-128 ≤ x.w ∧ x.w < 128):Calls Tryd.prog 18 #[.agg (xC x)] W fun e w'=>e=.returned (.int .i64 0) ∧ Below W.heap.size W w':=by
  have MY:=Lib.hid (fun W=>show Calls Tryd.prog 12 #[.agg (xC x)] W fun e w'=>e=.returned (.bool false) ∧ Below W.heap.size W w' by have q:=emay_n x W hw;rw [h] at q;exact q)
  clear h hw
  go_enter Tryd.func18,Tryd.ntmps18
  go_wp2_with fail
  refine (MY.out _).mono ?_
  rintro e w1 ⟨rfl,b1⟩
  have B1:=Lib.hid b1
  clear b1
  go_wp2_with fail
  go_ret
  exact ⟨rfl,below_boxed B1.out⟩
theorem ewrites_n (x:Xi) (W:World) (hw:-128 ≤ x.w ∧ x.w < 128):Calls Tryd.prog 18 #[.agg (xC x)] W fun e w'=>e=.returned (.int .i64 (bif mayX x then writesX x else 0)) ∧ Below W.heap.size W w':=by
  cases h:mayX x
  · exact ewrites_no x W h hw
  · obtain ⟨ho,hd,hs,hb⟩:=may_parts h
    obtain ⟨op,wd,dst,src,base,disp,imm,cc⟩:=x
    simp only at ho hd hs hb hw
    obtain rfl | rfl | rfl | rfl | rfl | rfl | rfl | rfl | rfl | rfl | rfl | rfl | rfl | rfl | rfl | rfl | rfl | rfl | rfl | rfl | rfl | rfl | rfl | rfl | rfl | rfl | rfl | rfl | rfl | rfl | rfl | rfl:=lt32 ho
    · exact ewrites_0 wd dst src base disp imm cc W h hw hd hs hb
    · exact ewrites_1 wd dst src base disp imm cc W h hw hd hs hb
    · exact ewrites_2 wd dst src base disp imm cc W h hw hd hs hb
    · exact ewrites_3 wd dst src base disp imm cc W h hw hd hs hb
    · exact ewrites_4 wd dst src base disp imm cc W h hw hd hs hb
    · exact ewrites_5 wd dst src base disp imm cc W h hw hd hs hb
    · exact ewrites_6 wd dst src base disp imm cc W h hw hd hs hb
    · exact ewrites_7 wd dst src base disp imm cc W h hw hd hs hb
    · exact ewrites_8 wd dst src base disp imm cc W h hw hd hs hb
    · exact ewrites_9 wd dst src base disp imm cc W h hw hd hs hb
    · exact ewrites_10 wd dst src base disp imm cc W h hw hd hs hb
    · exact ewrites_11 wd dst src base disp imm cc W h hw hd hs hb
    · exact ewrites_12 wd dst src base disp imm cc W h hw hd hs hb
    · exact ewrites_13 wd dst src base disp imm cc W h hw hd hs hb
    · exact ewrites_14 wd dst src base disp imm cc W h hw hd hs hb
    · exact ewrites_15 wd dst src base disp imm cc W h hw hd hs hb
    · exact ewrites_16 wd dst src base disp imm cc W h hw hd hs hb
    · exact ewrites_17 wd dst src base disp imm cc W h hw hd hs hb
    · exact ewrites_18 wd dst src base disp imm cc W h hw hd hs hb
    · exact ewrites_19 wd dst src base disp imm cc W h hw hd hs hb
    · exact ewrites_20 wd dst src base disp imm cc W h hw hd hs hb
    · exact ewrites_21 wd dst src base disp imm cc W h hw hd hs hb
    · exact ewrites_22 wd dst src base disp imm cc W h hw hd hs hb
    · exact ewrites_23 wd dst src base disp imm cc W h hw hd hs hb
    · exact ewrites_24 wd dst src base disp imm cc W h hw hd hs hb
    · exact ewrites_25 wd dst src base disp imm cc W h hw hd hs hb
    · exact ewrites_26 wd dst src base disp imm cc W h hw hd hs hb
    · exact ewrites_27 wd dst src base disp imm cc W h hw hd hs hb
    · exact ewrites_28 wd dst src base disp imm cc W h hw hd hs hb
    · exact ewrites_29 wd dst src base disp imm cc W h hw hd hs hb
    · exact ewrites_30 wd dst src base disp imm cc W h hw hd hs hb
    · exact ewrites_31 wd dst src base disp imm cc W h hw hd hs hb
end Go.Proofs.YtjhjpllgoakncaaDoor.Mrm
