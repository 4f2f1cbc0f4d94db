import Derived.Test.YtbpehbeakhocnaaGreatDoorIRm16
import Derived.Test.YtbpehbeakhocnaaGreatDoorIRm02
import Derived.BigRegion
import Derived.Deep.QuietTactic
import Derived.BigQuiet
set_option maxHeartbeats 4000000
set_option linter.unusedVariables false
set_option linter.unusedSimpArgs false
set_option linter.unnecessarySimpa false
namespace Go.Proofs.YtbpehbeakhocnaaGreatDoor.Mrm
open Go Go.RowKit
set_option maxRecDepth 100000
theorem ah_0_64_x_cc1 (op wd dst src base disp imm cc sh at_ va dg lo reg rm pdisp pimm pcc z q r:Int) (W:World) (es:(sh == 8)=false) (e64:(wd == 64)=true) (hb:bothB reg rm=true) (el:(lo == 15)=true) (e6:(sh == 6)=false) (ez:bits .or .u16 va (IntKind.u16.wrap pcc)=z) (eq:IntKind.u8.wrap (z / 256)=q) (er:IntKind.u8.wrap z=r) (ef:(q != 0)=true) (hq:0 ≤ q ∧ q < 256) (hr:0 ≤ r ∧ r < 256):
    Calls Tryz.prog 136 #[.agg #[.int .i8 op,.int .i8 wd,.int .i8 dst,.int .i8 src,.int .i8 base,.int .i64 disp,.int .i64 imm,.int .i8 cc],.agg #[.int .i8 sh,.int .i8 at_,.int .u16 va,.int .i8 dg,.int .u16 lo],.agg #[.int .i8 reg,.int .i8 rm,.int .i64 pdisp,.int .i64 pimm,.int .i8 pcc]] W (RetV (([rexI true reg rm] ++ [q]) ++ [r]) W):=by
  have RX:=Lib.hid (fun W=>rex_n true reg rm W)
  rw [hb] at RX
  simp only [cond_true] at RX
  have hk:=Lib.hid (rexI_bd true reg rm)
  generalize rexI true reg rm=k at *
  clear hb
  have hq1:=Lib.hid hq
  have hr1:=Lib.hid hr
  clear hq hr
  unfold RetV
  go_enter Tryz.func136,Tryz.ntmps136
  go_wp2_with fail
  go_region
  have B0:=Lib.hid (show Below (W.heap.size + 3) (((W.alloc (.cells #[.int .i8 op,.int .i8 wd,.int .i8 dst,.int .i8 src,.int .i8 base,.int .i64 disp,.int .i64 imm,.int .i8 cc] 38)).alloc (.cells #[.int .i8 sh,.int .i8 at_,.int .u16 va,.int .i8 dg,.int .u16 lo] 106)).alloc (.cells #[.int .i8 reg,.int .i8 rm,.int .i64 pdisp,.int .i64 pimm,.int .i8 pcc] 111)) ((((W.alloc (.cells #[.int .i8 op,.int .i8 wd,.int .i8 dst,.int .i8 src,.int .i8 base,.int .i64 disp,.int .i64 imm,.int .i8 cc] 38)).alloc (.cells #[.int .i8 sh,.int .i8 at_,.int .u16 va,.int .i8 dg,.int .u16 lo] 106)).alloc (.cells #[.int .i8 reg,.int .i8 rm,.int .i64 pdisp,.int .i64 pimm,.int .i8 pcc] 111)).drew) from (Below.refl _ _).drew)
  have O0:=Lib.hid (show Bts (W.heap.size + 3) ((((W.alloc (.cells #[.int .i8 op,.int .i8 wd,.int .i8 dst,.int .i8 src,.int .i8 base,.int .i64 disp,.int .i64 imm,.int .i8 cc] 38)).alloc (.cells #[.int .i8 sh,.int .i8 at_,.int .u16 va,.int .i8 dg,.int .u16 lo] 106)).alloc (.cells #[.int .i8 reg,.int .i8 rm,.int .i64 pdisp,.int .i64 pimm,.int .i8 pcc] 111)).drew) (.slice none 0 0) [] from Bts.nil _ _)
  obtain ⟨c0_0,c1_0,c2_0,c3_0,c4_0,c5_0,c6_0⟩:=acells B0.out
  generalize (((W.alloc (.cells #[.int .i8 op,.int .i8 wd,.int .i8 dst,.int .i8 src,.int .i8 base,.int .i64 disp,.int .i64 imm,.int .i8 cc] 38)).alloc (.cells #[.int .i8 sh,.int .i8 at_,.int .u16 va,.int .i8 dg,.int .u16 lo] 106)).alloc (.cells #[.int .i8 reg,.int .i8 rm,.int .i64 pdisp,.int .i64 pimm,.int .i8 pcc] 111)).drew=w0 at *
  generalize Value.slice none 0 0=v0 at *
  go_wp2_with fail
  refine (RX.out _).mono ?_
  rintro e y ⟨rfl,rfl⟩
  go_wp2_with (at_builtin;refine wpList_append_b rfl _ _ rfl (W.heap.size + 3) _ [] rfl (O0.out.below (below_new (Below.refl _ _) _)) _ 1 1 [k] rfl (one_at _ k hk.out) (by simp) (Nat.le_trans (size3 B0.out) (by rw [size_alloc];omega)) ?_)
  intro v1 w1 o1 g1
  have O1:=Lib.hid (show Bts (W.heap.size + 3) w1 v1 [k] from o1)
  have B1:=Lib.hid (below_grownN (below_new3 B0.out _) (size3 (below_new3 B0.out _)) g1 (fun j hj=>O0.out.lt j hj))
  clear o1 g1
  obtain ⟨c0_1,c1_1,c2_1,c3_1,c4_1,c5_1,c6_1⟩:=acells B1.out
  clear c0_0 c1_0 c2_0 c3_0 c4_0 c5_0 c6_0
  go_wp2_with (at_builtin;refine wpList_append_b rfl _ _ rfl (W.heap.size + 3) _ [k] rfl (O1.out.below (below_new (Below.refl _ _) _)) _ 1 1 [q] rfl (one_at _ q hq1.out) (by simp) (Nat.le_trans (size3 B1.out) (by rw [size_alloc];omega)) ?_)
  intro v2 w2 o2 g2
  have O2:=Lib.hid (show Bts (W.heap.size + 3) w2 v2 ([k] ++ [q]) from o2)
  have B2:=Lib.hid (below_grownN (below_new3 B1.out _) (size3 (below_new3 B1.out _)) g2 (fun j hj=>O1.out.lt j hj))
  clear o2 g2
  obtain ⟨c0_2,c1_2,c2_2,c3_2,c4_2,c5_2,c6_2⟩:=acells B2.out
  clear c0_1 c1_1 c2_1 c3_1 c4_1 c5_1 c6_1
  go_wp2_with (at_builtin;refine wpList_append_b rfl _ _ rfl (W.heap.size + 3) _ ([k] ++ [q]) rfl (O2.out.below (below_new (Below.refl _ _) _)) _ 1 1 [r] rfl (one_at _ r hr1.out) (by simp) (Nat.le_trans (size3 B2.out) (by rw [size_alloc];omega)) ?_)
  intro v3 w3 o3 g3
  have O3:=Lib.hid (show Bts (W.heap.size + 3) w3 v3 (([k] ++ [q]) ++ [r]) from o3)
  have B3:=Lib.hid (below_grownN (below_new3 B2.out _) (size3 (below_new3 B2.out _)) g3 (fun j hj=>O2.out.lt j hj))
  clear o3 g3
  obtain ⟨c0_3,c1_3,c2_3,c3_3,c4_3,c5_3,c6_3⟩:=acells B3.out
  clear c0_2 c1_2 c2_2 c3_2 c4_2 c5_2 c6_2
  go_wp2_with fail
  go_ret
  exact ⟨_,rfl,O3.out.mono (Nat.le_add_right _ _),below3 B3.out⟩
theorem ah_0_0_r_cc1 (op wd dst src base disp imm cc sh at_ va dg lo reg rm pdisp pimm pcc z q r:Int) (W:World) (es:(sh == 8)=false) (e64:(wd == 64)=false) (nd:needB reg rm=true) (hb:bothB reg rm=true) (el:(lo == 15)=true) (e6:(sh == 6)=false) (ez:bits .or .u16 va (IntKind.u16.wrap pcc)=z) (eq:IntKind.u8.wrap (z / 256)=q) (er:IntKind.u8.wrap z=r) (ef:(q != 0)=true) (hq:0 ≤ q ∧ q < 256) (hr:0 ≤ r ∧ r < 256):
    Calls Tryz.prog 136 #[.agg #[.int .i8 op,.int .i8 wd,.int .i8 dst,.int .i8 src,.int .i8 base,.int .i64 disp,.int .i64 imm,.int .i8 cc],.agg #[.int .i8 sh,.int .i8 at_,.int .u16 va,.int .i8 dg,.int .u16 lo],.agg #[.int .i8 reg,.int .i8 rm,.int .i64 pdisp,.int .i64 pimm,.int .i8 pcc]] W (RetV (([rexI false reg rm] ++ [q]) ++ [r]) W):=by
  have ND:=Lib.hid (fun W=>needs_n reg rm W)
  rw [nd] at ND
  have RX:=Lib.hid (fun W=>rex_n false reg rm W)
  rw [hb] at RX
  simp only [cond_true] at RX
  have hk:=Lib.hid (rexI_bd false reg rm)
  generalize rexI false reg rm=k at *
  clear hb nd
  have hq1:=Lib.hid hq
  have hr1:=Lib.hid hr
  clear hq hr
  unfold RetV
  go_enter Tryz.func136,Tryz.ntmps136
  go_wp2_with fail
  go_region
  have B0:=Lib.hid (show Below (W.heap.size + 3) (((W.alloc (.cells #[.int .i8 op,.int .i8 wd,.int .i8 dst,.int .i8 src,.int .i8 base,.int .i64 disp,.int .i64 imm,.int .i8 cc] 38)).alloc (.cells #[.int .i8 sh,.int .i8 at_,.int .u16 va,.int .i8 dg,.int .u16 lo] 106)).alloc (.cells #[.int .i8 reg,.int .i8 rm,.int .i64 pdisp,.int .i64 pimm,.int .i8 pcc] 111)) ((((W.alloc (.cells #[.int .i8 op,.int .i8 wd,.int .i8 dst,.int .i8 src,.int .i8 base,.int .i64 disp,.int .i64 imm,.int .i8 cc] 38)).alloc (.cells #[.int .i8 sh,.int .i8 at_,.int .u16 va,.int .i8 dg,.int .u16 lo] 106)).alloc (.cells #[.int .i8 reg,.int .i8 rm,.int .i64 pdisp,.int .i64 pimm,.int .i8 pcc] 111)).drew) from (Below.refl _ _).drew)
  have O0:=Lib.hid (show Bts (W.heap.size + 3) ((((W.alloc (.cells #[.int .i8 op,.int .i8 wd,.int .i8 dst,.int .i8 src,.int .i8 base,.int .i64 disp,.int .i64 imm,.int .i8 cc] 38)).alloc (.cells #[.int .i8 sh,.int .i8 at_,.int .u16 va,.int .i8 dg,.int .u16 lo] 106)).alloc (.cells #[.int .i8 reg,.int .i8 rm,.int .i64 pdisp,.int .i64 pimm,.int .i8 pcc] 111)).drew) (.slice none 0 0) [] from Bts.nil _ _)
  obtain ⟨c0_0,c1_0,c2_0,c3_0,c4_0,c5_0,c6_0⟩:=acells B0.out
  generalize (((W.alloc (.cells #[.int .i8 op,.int .i8 wd,.int .i8 dst,.int .i8 src,.int .i8 base,.int .i64 disp,.int .i64 imm,.int .i8 cc] 38)).alloc (.cells #[.int .i8 sh,.int .i8 at_,.int .u16 va,.int .i8 dg,.int .u16 lo] 106)).alloc (.cells #[.int .i8 reg,.int .i8 rm,.int .i64 pdisp,.int .i64 pimm,.int .i8 pcc] 111)).drew=w0 at *
  generalize Value.slice none 0 0=v0 at *
  go_wp2_with fail
  refine (ND.out _).mono ?_
  rintro e y ⟨rfl,rfl⟩
  go_wp2_with fail
  refine (RX.out _).mono ?_
  rintro e y ⟨rfl,rfl⟩
  go_wp2_with (at_builtin;refine wpList_append_b rfl _ _ rfl (W.heap.size + 3) _ [] rfl (O0.out.below (below_new (Below.refl _ _) _)) _ 1 1 [k] rfl (one_at _ k hk.out) (by simp) (Nat.le_trans (size3 B0.out) (by rw [size_alloc];omega)) ?_)
  intro v1 w1 o1 g1
  have O1:=Lib.hid (show Bts (W.heap.size + 3) w1 v1 [k] from o1)
  have B1:=Lib.hid (below_grownN (below_new3 B0.out _) (size3 (below_new3 B0.out _)) g1 (fun j hj=>O0.out.lt j hj))
  clear o1 g1
  obtain ⟨c0_1,c1_1,c2_1,c3_1,c4_1,c5_1,c6_1⟩:=acells B1.out
  clear c0_0 c1_0 c2_0 c3_0 c4_0 c5_0 c6_0
  go_wp2_with (at_builtin;refine wpList_append_b rfl _ _ rfl (W.heap.size + 3) _ [k] rfl (O1.out.below (below_new (Below.refl _ _) _)) _ 1 1 [q] rfl (one_at _ q hq1.out) (by simp) (Nat.le_trans (size3 B1.out) (by rw [size_alloc];omega)) ?_)
  intro v2 w2 o2 g2
  have O2:=Lib.hid (show Bts (W.heap.size + 3) w2 v2 ([k] ++ [q]) from o2)
  have B2:=Lib.hid (below_grownN (below_new3 B1.out _) (size3 (below_new3 B1.out _)) g2 (fun j hj=>O1.out.lt j hj))
  clear o2 g2
  obtain ⟨c0_2,c1_2,c2_2,c3_2,c4_2,c5_2,c6_2⟩:=acells B2.out
  clear c0_1 c1_1 c2_1 c3_1 c4_1 c5_1 c6_1
  go_wp2_with (at_builtin;refine wpList_append_b rfl _ _ rfl (W.heap.size + 3) _ ([k] ++ [q]) rfl (O2.out.below (below_new (Below.refl _ _) _)) _ 1 1 [r] rfl (one_at _ r hr1.out) (by simp) (Nat.le_trans (size3 B2.out) (by rw [size_alloc];omega)) ?_)
  intro v3 w3 o3 g3
  have O3:=Lib.hid (show Bts (W.heap.size + 3) w3 v3 (([k] ++ [q]) ++ [r]) from o3)
  have B3:=Lib.hid (below_grownN (below_new3 B2.out _) (size3 (below_new3 B2.out _)) g3 (fun j hj=>O2.out.lt j hj))
  clear o3 g3
  obtain ⟨c0_3,c1_3,c2_3,c3_3,c4_3,c5_3,c6_3⟩:=acells B3.out
  clear c0_2 c1_2 c2_2 c3_2 c4_2 c5_2 c6_2
  go_wp2_with fail
  go_ret
  exact ⟨_,rfl,O3.out.mono (Nat.le_add_right _ _),below3 B3.out⟩
theorem ah_0_0_n_cc1 (op wd dst src base disp imm cc sh at_ va dg lo reg rm pdisp pimm pcc z q r:Int) (W:World) (es:(sh == 8)=false) (e64:(wd == 64)=false) (nd:needB reg rm=false) (hb:bothB reg rm=true) (el:(lo == 15)=true) (e6:(sh == 6)=false) (ez:bits .or .u16 va (IntKind.u16.wrap pcc)=z) (eq:IntKind.u8.wrap (z / 256)=q) (er:IntKind.u8.wrap z=r) (ef:(q != 0)=true) (hq:0 ≤ q ∧ q < 256) (hr:0 ≤ r ∧ r < 256):
    Calls Tryz.prog 136 #[.agg #[.int .i8 op,.int .i8 wd,.int .i8 dst,.int .i8 src,.int .i8 base,.int .i64 disp,.int .i64 imm,.int .i8 cc],.agg #[.int .i8 sh,.int .i8 at_,.int .u16 va,.int .i8 dg,.int .u16 lo],.agg #[.int .i8 reg,.int .i8 rm,.int .i64 pdisp,.int .i64 pimm,.int .i8 pcc]] W (RetV ([q] ++ [r]) W):=by
  have ND:=Lib.hid (fun W=>needs_n reg rm W)
  rw [nd] at ND
  clear hb nd
  have hq1:=Lib.hid hq
  have hr1:=Lib.hid hr
  clear hq hr
  unfold RetV
  go_enter Tryz.func136,Tryz.ntmps136
  go_wp2_with fail
  go_region
  have B0:=Lib.hid (show Below (W.heap.size + 3) (((W.alloc (.cells #[.int .i8 op,.int .i8 wd,.int .i8 dst,.int .i8 src,.int .i8 base,.int .i64 disp,.int .i64 imm,.int .i8 cc] 38)).alloc (.cells #[.int .i8 sh,.int .i8 at_,.int .u16 va,.int .i8 dg,.int .u16 lo] 106)).alloc (.cells #[.int .i8 reg,.int .i8 rm,.int .i64 pdisp,.int .i64 pimm,.int .i8 pcc] 111)) ((((W.alloc (.cells #[.int .i8 op,.int .i8 wd,.int .i8 dst,.int .i8 src,.int .i8 base,.int .i64 disp,.int .i64 imm,.int .i8 cc] 38)).alloc (.cells #[.int .i8 sh,.int .i8 at_,.int .u16 va,.int .i8 dg,.int .u16 lo] 106)).alloc (.cells #[.int .i8 reg,.int .i8 rm,.int .i64 pdisp,.int .i64 pimm,.int .i8 pcc] 111)).drew) from (Below.refl _ _).drew)
  have O0:=Lib.hid (show Bts (W.heap.size + 3) ((((W.alloc (.cells #[.int .i8 op,.int .i8 wd,.int .i8 dst,.int .i8 src,.int .i8 base,.int .i64 disp,.int .i64 imm,.int .i8 cc] 38)).alloc (.cells #[.int .i8 sh,.int .i8 at_,.int .u16 va,.int .i8 dg,.int .u16 lo] 106)).alloc (.cells #[.int .i8 reg,.int .i8 rm,.int .i64 pdisp,.int .i64 pimm,.int .i8 pcc] 111)).drew) (.slice none 0 0) [] from Bts.nil _ _)
  obtain ⟨c0_0,c1_0,c2_0,c3_0,c4_0,c5_0,c6_0⟩:=acells B0.out
  generalize (((W.alloc (.cells #[.int .i8 op,.int .i8 wd,.int .i8 dst,.int .i8 src,.int .i8 base,.int .i64 disp,.int .i64 imm,.int .i8 cc] 38)).alloc (.cells #[.int .i8 sh,.int .i8 at_,.int .u16 va,.int .i8 dg,.int .u16 lo] 106)).alloc (.cells #[.int .i8 reg,.int .i8 rm,.int .i64 pdisp,.int .i64 pimm,.int .i8 pcc] 111)).drew=w0 at *
  generalize Value.slice none 0 0=v0 at *
  go_wp2_with fail
  refine (ND.out _).mono ?_
  rintro e y ⟨rfl,rfl⟩
  go_wp2_with (at_builtin;refine wpList_append_b rfl _ _ rfl (W.heap.size + 3) _ [] rfl (O0.out.below (below_new (Below.refl _ _) _)) _ 1 1 [q] rfl (one_at _ q hq1.out) (by simp) (Nat.le_trans (size3 B0.out) (by rw [size_alloc];omega)) ?_)
  intro v1 w1 o1 g1
  have O1:=Lib.hid (show Bts (W.heap.size + 3) w1 v1 [q] from o1)
  have B1:=Lib.hid (below_grownN (below_new3 B0.out _) (size3 (below_new3 B0.out _)) g1 (fun j hj=>O0.out.lt j hj))
  clear o1 g1
  obtain ⟨c0_1,c1_1,c2_1,c3_1,c4_1,c5_1,c6_1⟩:=acells B1.out
  clear c0_0 c1_0 c2_0 c3_0 c4_0 c5_0 c6_0
  go_wp2_with (at_builtin;refine wpList_append_b rfl _ _ rfl (W.heap.size + 3) _ [q] rfl (O1.out.below (below_new (Below.refl _ _) _)) _ 1 1 [r] rfl (one_at _ r hr1.out) (by simp) (Nat.le_trans (size3 B1.out) (by rw [size_alloc];omega)) ?_)
  intro v2 w2 o2 g2
  have O2:=Lib.hid (show Bts (W.heap.size + 3) w2 v2 ([q] ++ [r]) from o2)
  have B2:=Lib.hid (below_grownN (below_new3 B1.out _) (size3 (below_new3 B1.out _)) g2 (fun j hj=>O1.out.lt j hj))
  clear o2 g2
  obtain ⟨c0_2,c1_2,c2_2,c3_2,c4_2,c5_2,c6_2⟩:=acells B2.out
  clear c0_1 c1_1 c2_1 c3_1 c4_1 c5_1 c6_1
  go_wp2_with fail
  go_ret
  exact ⟨_,rfl,O2.out.mono (Nat.le_add_right _ _),below3 B2.out⟩
theorem ah_0_64_x_cc0 (op wd dst src base disp imm cc sh at_ va dg lo reg rm pdisp pimm pcc z q r:Int) (W:World) (es:(sh == 8)=false) (e64:(wd == 64)=true) (hb:bothB reg rm=true) (el:(lo == 15)=true) (e6:(sh == 6)=false) (ez:bits .or .u16 va (IntKind.u16.wrap pcc)=z) (eq:IntKind.u8.wrap (z / 256)=q) (er:IntKind.u8.wrap z=r) (ef:(q != 0)=false) (hq:0 ≤ q ∧ q < 256) (hr:0 ≤ r ∧ r < 256):
    Calls Tryz.prog 136 #[.agg #[.int .i8 op,.int .i8 wd,.int .i8 dst,.int .i8 src,.int .i8 base,.int .i64 disp,.int .i64 imm,.int .i8 cc],.agg #[.int .i8 sh,.int .i8 at_,.int .u16 va,.int .i8 dg,.int .u16 lo],.agg #[.int .i8 reg,.int .i8 rm,.int .i64 pdisp,.int .i64 pimm,.int .i8 pcc]] W (RetV ([rexI true reg rm] ++ [r]) W):=by
  have RX:=Lib.hid (fun W=>rex_n true reg rm W)
  rw [hb] at RX
  simp only [cond_true] at RX
  have hk:=Lib.hid (rexI_bd true reg rm)
  generalize rexI true reg rm=k at *
  clear hb
  have hq1:=Lib.hid hq
  have hr1:=Lib.hid hr
  clear hq hr
  unfold RetV
  go_enter Tryz.func136,Tryz.ntmps136
  go_wp2_with fail
  go_region
  have B0:=Lib.hid (show Below (W.heap.size + 3) (((W.alloc (.cells #[.int .i8 op,.int .i8 wd,.int .i8 dst,.int .i8 src,.int .i8 base,.int .i64 disp,.int .i64 imm,.int .i8 cc] 38)).alloc (.cells #[.int .i8 sh,.int .i8 at_,.int .u16 va,.int .i8 dg,.int .u16 lo] 106)).alloc (.cells #[.int .i8 reg,.int .i8 rm,.int .i64 pdisp,.int .i64 pimm,.int .i8 pcc] 111)) ((((W.alloc (.cells #[.int .i8 op,.int .i8 wd,.int .i8 dst,.int .i8 src,.int .i8 base,.int .i64 disp,.int .i64 imm,.int .i8 cc] 38)).alloc (.cells #[.int .i8 sh,.int .i8 at_,.int .u16 va,.int .i8 dg,.int .u16 lo] 106)).alloc (.cells #[.int .i8 reg,.int .i8 rm,.int .i64 pdisp,.int .i64 pimm,.int .i8 pcc] 111)).drew) from (Below.refl _ _).drew)
  have O0:=Lib.hid (show Bts (W.heap.size + 3) ((((W.alloc (.cells #[.int .i8 op,.int .i8 wd,.int .i8 dst,.int .i8 src,.int .i8 base,.int .i64 disp,.int .i64 imm,.int .i8 cc] 38)).alloc (.cells #[.int .i8 sh,.int .i8 at_,.int .u16 va,.int .i8 dg,.int .u16 lo] 106)).alloc (.cells #[.int .i8 reg,.int .i8 rm,.int .i64 pdisp,.int .i64 pimm,.int .i8 pcc] 111)).drew) (.slice none 0 0) [] from Bts.nil _ _)
  obtain ⟨c0_0,c1_0,c2_0,c3_0,c4_0,c5_0,c6_0⟩:=acells B0.out
  generalize (((W.alloc (.cells #[.int .i8 op,.int .i8 wd,.int .i8 dst,.int .i8 src,.int .i8 base,.int .i64 disp,.int .i64 imm,.int .i8 cc] 38)).alloc (.cells #[.int .i8 sh,.int .i8 at_,.int .u16 va,.int .i8 dg,.int .u16 lo] 106)).alloc (.cells #[.int .i8 reg,.int .i8 rm,.int .i64 pdisp,.int .i64 pimm,.int .i8 pcc] 111)).drew=w0 at *
  generalize Value.slice none 0 0=v0 at *
  go_wp2_with fail
  refine (RX.out _).mono ?_
  rintro e y ⟨rfl,rfl⟩
  go_wp2_with (at_builtin;refine wpList_append_b rfl _ _ rfl (W.heap.size + 3) _ [] rfl (O0.out.below (below_new (Below.refl _ _) _)) _ 1 1 [k] rfl (one_at _ k hk.out) (by simp) (Nat.le_trans (size3 B0.out) (by rw [size_alloc];omega)) ?_)
  intro v1 w1 o1 g1
  have O1:=Lib.hid (show Bts (W.heap.size + 3) w1 v1 [k] from o1)
  have B1:=Lib.hid (below_grownN (below_new3 B0.out _) (size3 (below_new3 B0.out _)) g1 (fun j hj=>O0.out.lt j hj))
  clear o1 g1
  obtain ⟨c0_1,c1_1,c2_1,c3_1,c4_1,c5_1,c6_1⟩:=acells B1.out
  clear c0_0 c1_0 c2_0 c3_0 c4_0 c5_0 c6_0
  go_wp2_with (at_builtin;refine wpList_append_b rfl _ _ rfl (W.heap.size + 3) _ [k] rfl (O1.out.below (below_new (Below.refl _ _) _)) _ 1 1 [r] rfl (one_at _ r hr1.out) (by simp) (Nat.le_trans (size3 B1.out) (by rw [size_alloc];omega)) ?_)
  intro v2 w2 o2 g2
  have O2:=Lib.hid (show Bts (W.heap.size + 3) w2 v2 ([k] ++ [r]) from o2)
  have B2:=Lib.hid (below_grownN (below_new3 B1.out _) (size3 (below_new3 B1.out _)) g2 (fun j hj=>O1.out.lt j hj))
  clear o2 g2
  obtain ⟨c0_2,c1_2,c2_2,c3_2,c4_2,c5_2,c6_2⟩:=acells B2.out
  clear c0_1 c1_1 c2_1 c3_1 c4_1 c5_1 c6_1
  go_wp2_with fail
  go_ret
  exact ⟨_,rfl,O2.out.mono (Nat.le_add_right _ _),below3 B2.out⟩
theorem ah_0_0_r_cc0 (op wd dst src base disp imm cc sh at_ va dg lo reg rm pdisp pimm pcc z q r:Int) (W:World) (es:(sh == 8)=false) (e64:(wd == 64)=false) (nd:needB reg rm=true) (hb:bothB reg rm=true) (el:(lo == 15)=true) (e6:(sh == 6)=false) (ez:bits .or .u16 va (IntKind.u16.wrap pcc)=z) (eq:IntKind.u8.wrap (z / 256)=q) (er:IntKind.u8.wrap z=r) (ef:(q != 0)=false) (hq:0 ≤ q ∧ q < 256) (hr:0 ≤ r ∧ r < 256):
    Calls Tryz.prog 136 #[.agg #[.int .i8 op,.int .i8 wd,.int .i8 dst,.int .i8 src,.int .i8 base,.int .i64 disp,.int .i64 imm,.int .i8 cc],.agg #[.int .i8 sh,.int .i8 at_,.int .u16 va,.int .i8 dg,.int .u16 lo],.agg #[.int .i8 reg,.int .i8 rm,.int .i64 pdisp,.int .i64 pimm,.int .i8 pcc]] W (RetV ([rexI false reg rm] ++ [r]) W):=by
  have ND:=Lib.hid (fun W=>needs_n reg rm W)
  rw [nd] at ND
  have RX:=Lib.hid (fun W=>rex_n false reg rm W)
  rw [hb] at RX
  simp only [cond_true] at RX
  have hk:=Lib.hid (rexI_bd false reg rm)
  generalize rexI false reg rm=k at *
  clear hb nd
  have hq1:=Lib.hid hq
  have hr1:=Lib.hid hr
  clear hq hr
  unfold RetV
  go_enter Tryz.func136,Tryz.ntmps136
  go_wp2_with fail
  go_region
  have B0:=Lib.hid (show Below (W.heap.size + 3) (((W.alloc (.cells #[.int .i8 op,.int .i8 wd,.int .i8 dst,.int .i8 src,.int .i8 base,.int .i64 disp,.int .i64 imm,.int .i8 cc] 38)).alloc (.cells #[.int .i8 sh,.int .i8 at_,.int .u16 va,.int .i8 dg,.int .u16 lo] 106)).alloc (.cells #[.int .i8 reg,.int .i8 rm,.int .i64 pdisp,.int .i64 pimm,.int .i8 pcc] 111)) ((((W.alloc (.cells #[.int .i8 op,.int .i8 wd,.int .i8 dst,.int .i8 src,.int .i8 base,.int .i64 disp,.int .i64 imm,.int .i8 cc] 38)).alloc (.cells #[.int .i8 sh,.int .i8 at_,.int .u16 va,.int .i8 dg,.int .u16 lo] 106)).alloc (.cells #[.int .i8 reg,.int .i8 rm,.int .i64 pdisp,.int .i64 pimm,.int .i8 pcc] 111)).drew) from (Below.refl _ _).drew)
  have O0:=Lib.hid (show Bts (W.heap.size + 3) ((((W.alloc (.cells #[.int .i8 op,.int .i8 wd,.int .i8 dst,.int .i8 src,.int .i8 base,.int .i64 disp,.int .i64 imm,.int .i8 cc] 38)).alloc (.cells #[.int .i8 sh,.int .i8 at_,.int .u16 va,.int .i8 dg,.int .u16 lo] 106)).alloc (.cells #[.int .i8 reg,.int .i8 rm,.int .i64 pdisp,.int .i64 pimm,.int .i8 pcc] 111)).drew) (.slice none 0 0) [] from Bts.nil _ _)
  obtain ⟨c0_0,c1_0,c2_0,c3_0,c4_0,c5_0,c6_0⟩:=acells B0.out
  generalize (((W.alloc (.cells #[.int .i8 op,.int .i8 wd,.int .i8 dst,.int .i8 src,.int .i8 base,.int .i64 disp,.int .i64 imm,.int .i8 cc] 38)).alloc (.cells #[.int .i8 sh,.int .i8 at_,.int .u16 va,.int .i8 dg,.int .u16 lo] 106)).alloc (.cells #[.int .i8 reg,.int .i8 rm,.int .i64 pdisp,.int .i64 pimm,.int .i8 pcc] 111)).drew=w0 at *
  generalize Value.slice none 0 0=v0 at *
  go_wp2_with fail
  refine (ND.out _).mono ?_
  rintro e y ⟨rfl,rfl⟩
  go_wp2_with fail
  refine (RX.out _).mono ?_
  rintro e y ⟨rfl,rfl⟩
  go_wp2_with (at_builtin;refine wpList_append_b rfl _ _ rfl (W.heap.size + 3) _ [] rfl (O0.out.below (below_new (Below.refl _ _) _)) _ 1 1 [k] rfl (one_at _ k hk.out) (by simp) (Nat.le_trans (size3 B0.out) (by rw [size_alloc];omega)) ?_)
  intro v1 w1 o1 g1
  have O1:=Lib.hid (show Bts (W.heap.size + 3) w1 v1 [k] from o1)
  have B1:=Lib.hid (below_grownN (below_new3 B0.out _) (size3 (below_new3 B0.out _)) g1 (fun j hj=>O0.out.lt j hj))
  clear o1 g1
  obtain ⟨c0_1,c1_1,c2_1,c3_1,c4_1,c5_1,c6_1⟩:=acells B1.out
  clear c0_0 c1_0 c2_0 c3_0 c4_0 c5_0 c6_0
  go_wp2_with (at_builtin;refine wpList_append_b rfl _ _ rfl (W.heap.size + 3) _ [k] rfl (O1.out.below (below_new (Below.refl _ _) _)) _ 1 1 [r] rfl (one_at _ r hr1.out) (by simp) (Nat.le_trans (size3 B1.out) (by rw [size_alloc];omega)) ?_)
  intro v2 w2 o2 g2
  have O2:=Lib.hid (show Bts (W.heap.size + 3) w2 v2 ([k] ++ [r]) from o2)
  have B2:=Lib.hid (below_grownN (below_new3 B1.out _) (size3 (below_new3 B1.out _)) g2 (fun j hj=>O1.out.lt j hj))
  clear o2 g2
  obtain ⟨c0_2,c1_2,c2_2,c3_2,c4_2,c5_2,c6_2⟩:=acells B2.out
  clear c0_1 c1_1 c2_1 c3_1 c4_1 c5_1 c6_1
  go_wp2_with fail
  go_ret
  exact ⟨_,rfl,O2.out.mono (Nat.le_add_right _ _),below3 B2.out⟩
theorem ah_0_0_n_cc0 (op wd dst src base disp imm cc sh at_ va dg lo reg rm pdisp pimm pcc z q r:Int) (W:World) (es:(sh == 8)=false) (e64:(wd == 64)=false) (nd:needB reg rm=false) (hb:bothB reg rm=true) (el:(lo == 15)=true) (e6:(sh == 6)=false) (ez:bits .or .u16 va (IntKind.u16.wrap pcc)=z) (eq:IntKind.u8.wrap (z / 256)=q) (er:IntKind.u8.wrap z=r) (ef:(q != 0)=false) (hq:0 ≤ q ∧ q < 256) (hr:0 ≤ r ∧ r < 256):
    Calls Tryz.prog 136 #[.agg #[.int .i8 op,.int .i8 wd,.int .i8 dst,.int .i8 src,.int .i8 base,.int .i64 disp,.int .i64 imm,.int .i8 cc],.agg #[.int .i8 sh,.int .i8 at_,.int .u16 va,.int .i8 dg,.int .u16 lo],.agg #[.int .i8 reg,.int .i8 rm,.int .i64 pdisp,.int .i64 pimm,.int .i8 pcc]] W (RetV [r] W):=by
  have ND:=Lib.hid (fun W=>needs_n reg rm W)
  rw [nd] at ND
  clear hb nd
  have hq1:=Lib.hid hq
  have hr1:=Lib.hid hr
  clear hq hr
  unfold RetV
  go_enter Tryz.func136,Tryz.ntmps136
  go_wp2_with fail
  go_region
  have B0:=Lib.hid (show Below (W.heap.size + 3) (((W.alloc (.cells #[.int .i8 op,.int .i8 wd,.int .i8 dst,.int .i8 src,.int .i8 base,.int .i64 disp,.int .i64 imm,.int .i8 cc] 38)).alloc (.cells #[.int .i8 sh,.int .i8 at_,.int .u16 va,.int .i8 dg,.int .u16 lo] 106)).alloc (.cells #[.int .i8 reg,.int .i8 rm,.int .i64 pdisp,.int .i64 pimm,.int .i8 pcc] 111)) ((((W.alloc (.cells #[.int .i8 op,.int .i8 wd,.int .i8 dst,.int .i8 src,.int .i8 base,.int .i64 disp,.int .i64 imm,.int .i8 cc] 38)).alloc (.cells #[.int .i8 sh,.int .i8 at_,.int .u16 va,.int .i8 dg,.int .u16 lo] 106)).alloc (.cells #[.int .i8 reg,.int .i8 rm,.int .i64 pdisp,.int .i64 pimm,.int .i8 pcc] 111)).drew) from (Below.refl _ _).drew)
  have O0:=Lib.hid (show Bts (W.heap.size + 3) ((((W.alloc (.cells #[.int .i8 op,.int .i8 wd,.int .i8 dst,.int .i8 src,.int .i8 base,.int .i64 disp,.int .i64 imm,.int .i8 cc] 38)).alloc (.cells #[.int .i8 sh,.int .i8 at_,.int .u16 va,.int .i8 dg,.int .u16 lo] 106)).alloc (.cells #[.int .i8 reg,.int .i8 rm,.int .i64 pdisp,.int .i64 pimm,.int .i8 pcc] 111)).drew) (.slice none 0 0) [] from Bts.nil _ _)
  obtain ⟨c0_0,c1_0,c2_0,c3_0,c4_0,c5_0,c6_0⟩:=acells B0.out
  generalize (((W.alloc (.cells #[.int .i8 op,.int .i8 wd,.int .i8 dst,.int .i8 src,.int .i8 base,.int .i64 disp,.int .i64 imm,.int .i8 cc] 38)).alloc (.cells #[.int .i8 sh,.int .i8 at_,.int .u16 va,.int .i8 dg,.int .u16 lo] 106)).alloc (.cells #[.int .i8 reg,.int .i8 rm,.int .i64 pdisp,.int .i64 pimm,.int .i8 pcc] 111)).drew=w0 at *
  generalize Value.slice none 0 0=v0 at *
  go_wp2_with fail
  refine (ND.out _).mono ?_
  rintro e y ⟨rfl,rfl⟩
  go_wp2_with (at_builtin;refine wpList_append_b rfl _ _ rfl (W.heap.size + 3) _ [] rfl (O0.out.below (below_new (Below.refl _ _) _)) _ 1 1 [r] rfl (one_at _ r hr1.out) (by simp) (Nat.le_trans (size3 B0.out) (by rw [size_alloc];omega)) ?_)
  intro v1 w1 o1 g1
  have O1:=Lib.hid (show Bts (W.heap.size + 3) w1 v1 [r] from o1)
  have B1:=Lib.hid (below_grownN (below_new3 B0.out _) (size3 (below_new3 B0.out _)) g1 (fun j hj=>O0.out.lt j hj))
  clear o1 g1
  obtain ⟨c0_1,c1_1,c2_1,c3_1,c4_1,c5_1,c6_1⟩:=acells B1.out
  clear c0_0 c1_0 c2_0 c3_0 c4_0 c5_0 c6_0
  go_wp2_with fail
  go_ret
  exact ⟨_,rfl,O1.out.mono (Nat.le_add_right _ _),below3 B1.out⟩
end Go.Proofs.YtbpehbeakhocnaaGreatDoor.Mrm
