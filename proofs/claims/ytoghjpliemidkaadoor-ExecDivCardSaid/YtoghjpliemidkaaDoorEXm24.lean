import Derived.Test.YtoghjpliemidkaaDoorEXm23
import Derived.Test.YtoghjpliemidkaaDoorEXm02
import Derived.BigRegion
import Derived.Deep.QuietTactic
import Derived.BigQuiet
set_option linter.unusedVariables false
set_option linter.unusedSimpArgs false
set_option linter.unnecessarySimpa false
namespace Go.Proofs.YtoghjpliemidkaaDoor.Mrm
open Go Go.RowKit
set_option linter.unusedVariables false
set_option linter.unusedSimpArgs false
set_option linter.unnecessarySimpa false
set_option maxRecDepth 100000
theorem cells3 {W w:World} {A B D:Array Value} {T U V:TypeId} {n:Nat} (b:Below n (((W.alloc (.cells A T)).alloc (.cells B U)).alloc (.cells D V)) w) (hn:W.heap.size + 3 ≤ n):
    w.heap[W.heap.size]?=some (.cells A T (0,0)) ∧ w.heap[W.heap.size + 1]?=some (.cells B U (0,0)) ∧ w.heap[W.heap.size + 2]?=some (.cells D V (0,0)):=
  ⟨(b.block _ (by omega)).trans ((heap_past _ _ _ (by simp only [size_alloc];omega)).trans ((heap_past _ _ _ (by simp only [size_alloc];omega)).trans (heap_last _ _ _ rfl))),
   (b.block _ (by omega)).trans ((heap_past _ _ _ (by simp only [size_alloc];omega)).trans (heap_last _ _ _ (by simp only [size_alloc]))),
   (b.block _ (by omega)).trans (heap_last _ _ _ (by simp only [size_alloc]))⟩
theorem acells {W w:World} {op wd dst src base disp imm cc sh at_ va dg lo reg rm pdisp pimm pcc:Int} (b:Below (W.heap.size + 3) (((W.alloc (.cells #[.int .i8 op,.int .i8 wd,.int .i8 dst,.int .i8 src,.int .i8 base,.int .i64 disp,.int .i64 imm,.int .i8 cc] 26)).alloc (.cells #[.int .i8 sh,.int .i8 at_,.int .u16 va,.int .i8 dg,.int .u16 lo] 80)).alloc (.cells #[.int .i8 reg,.int .i8 rm,.int .i64 pdisp,.int .i64 pimm,.int .i8 pcc] 86)) w):
    w.cell? ⟨W.heap.size,1,none⟩=some (.int .i8 wd) ∧ w.cell? ⟨W.heap.size + 1,0,none⟩=some (.int .i8 sh) ∧ w.cell? ⟨W.heap.size + 1,2,none⟩=some (.int .u16 va) ∧ w.cell? ⟨W.heap.size + 1,4,none⟩=some (.int .u16 lo) ∧
    w.cell? ⟨W.heap.size + 2,0,none⟩=some (.int .i8 reg) ∧ w.cell? ⟨W.heap.size + 2,1,none⟩=some (.int .i8 rm) ∧ w.cell? ⟨W.heap.size + 2,4,none⟩=some (.int .i8 pcc):=by
  obtain ⟨h1,h2,h3⟩:=cells3 b (Nat.le_refl _)
  simp only [World.cell?,h1,h2,h3]
  exact ⟨rfl,rfl,rfl,rfl,rfl,rfl,rfl⟩
theorem below3 {W w:World} {A B D:Obj} (b:Below (W.heap.size + 3) (((W.alloc A).alloc B).alloc D) w):Below W.heap.size W w:=
  (below_new (below_new (below_new (Below.refl _ _) _) _) _).trans (b.mono (by omega))
theorem size3 {W w:World} {A B D:Obj} (b:Below (W.heap.size + 3) (((W.alloc A).alloc B).alloc D) w):W.heap.size + 3 ≤ w.heap.size:=by have:=b.size;simpa only [size_alloc] using this
theorem below_grownN {W w w':World} {row:Option Nat} {n:Nat} (h:Below n W w) (hn:n ≤ w.heap.size) (g:w.grownBy w' row) (hr:∀ k,row=some k → n ≤ k):Below n W w':=h.grown g hn hr
theorem below_new3 {W w:World} {A B D:Obj} (b:Below (W.heap.size + 3) (((W.alloc A).alloc B).alloc D) w) (o:Obj):Below (W.heap.size + 3) (((W.alloc A).alloc B).alloc D) (w.alloc o):=b.alloc (size3 b) o
theorem rexI_bd (w:Bool) (r m:Int):0 ≤ rexI w r m ∧ rexI w r m < 256:=by
  unfold rexI
  cases w <;> cases decide (8 ≤ r) <;> cases decide (8 ≤ m) <;> decide
set_option maxHeartbeats 4000000 in
theorem ah_1_8_x_p0 (op wd dst src base disp imm cc sh at_ va dg lo reg rm pdisp pimm pcc q r:Int) (W:World) (es:(sh == 8)=true) (e8:(wd == 8)=true) (e16:(wd == 16)=false) (e64:(wd == 64)=false) (hb:bothB reg rm=true) (el:(lo == 15)=false) (e6:(sh == 6)=false) (eq:IntKind.u8.wrap (va / 256)=q) (er:IntKind.u8.wrap va=r) (ef:(q != 0)=false) (hq:0 ≤ q ∧ q < 256) (hr:0 ≤ r ∧ r < 256):
    Calls Tryd.prog 103 #[.agg #[.int .i8 op,.int .i8 wd,.int .i8 dst,.int .i8 src,.int .i8 base,.int .i64 disp,.int .i64 imm,.int .i8 cc],.agg #[.int .i8 sh,.int .i8 at_,.int .u16 va,.int .i8 dg,.int .u16 lo],.agg #[.int .i8 reg,.int .i8 rm,.int .i64 pdisp,.int .i64 pimm,.int .i8 pcc]] W (RetV ([rexI false reg rm] ++ [r]) W):=by
  have RX:=Lib.hid (fun W=>rex_n false reg rm W)
  rw [hb] at RX
  simp only [cond_true] at RX
  have hk:=Lib.hid (rexI_bd false reg rm)
  generalize rexI false reg rm=k at *
  clear hb
  have hq1:=Lib.hid hq
  have hr1:=Lib.hid hr
  clear hq hr
  unfold RetV
  go_enter Tryd.func103,Tryd.ntmps103
  go_wp2_with fail
  go_region
  have B0:=Lib.hid (show Below (W.heap.size + 3) (((W.alloc (.cells #[.int .i8 op,.int .i8 wd,.int .i8 dst,.int .i8 src,.int .i8 base,.int .i64 disp,.int .i64 imm,.int .i8 cc] 26)).alloc (.cells #[.int .i8 sh,.int .i8 at_,.int .u16 va,.int .i8 dg,.int .u16 lo] 80)).alloc (.cells #[.int .i8 reg,.int .i8 rm,.int .i64 pdisp,.int .i64 pimm,.int .i8 pcc] 86)) ((((W.alloc (.cells #[.int .i8 op,.int .i8 wd,.int .i8 dst,.int .i8 src,.int .i8 base,.int .i64 disp,.int .i64 imm,.int .i8 cc] 26)).alloc (.cells #[.int .i8 sh,.int .i8 at_,.int .u16 va,.int .i8 dg,.int .u16 lo] 80)).alloc (.cells #[.int .i8 reg,.int .i8 rm,.int .i64 pdisp,.int .i64 pimm,.int .i8 pcc] 86)).drew) from (Below.refl _ _).drew)
  have O0:=Lib.hid (show Bts (W.heap.size + 3) ((((W.alloc (.cells #[.int .i8 op,.int .i8 wd,.int .i8 dst,.int .i8 src,.int .i8 base,.int .i64 disp,.int .i64 imm,.int .i8 cc] 26)).alloc (.cells #[.int .i8 sh,.int .i8 at_,.int .u16 va,.int .i8 dg,.int .u16 lo] 80)).alloc (.cells #[.int .i8 reg,.int .i8 rm,.int .i64 pdisp,.int .i64 pimm,.int .i8 pcc] 86)).drew) (.slice none 0 0) [] from Bts.nil _ _)
  obtain ⟨c0_0,c1_0,c2_0,c3_0,c4_0,c5_0,c6_0⟩:=acells B0.out
  generalize (((W.alloc (.cells #[.int .i8 op,.int .i8 wd,.int .i8 dst,.int .i8 src,.int .i8 base,.int .i64 disp,.int .i64 imm,.int .i8 cc] 26)).alloc (.cells #[.int .i8 sh,.int .i8 at_,.int .u16 va,.int .i8 dg,.int .u16 lo] 80)).alloc (.cells #[.int .i8 reg,.int .i8 rm,.int .i64 pdisp,.int .i64 pimm,.int .i8 pcc] 86)).drew=w0 at *
  generalize Value.slice none 0 0=v0 at *
  go_wp2_with fail
  refine (RX.out _).mono ?_
  rintro e y ⟨rfl,rfl⟩
  go_wp2_with (at_builtin;refine wpList_append_b rfl _ _ rfl (W.heap.size + 3) _ [] rfl (O0.out.below (below_new (Below.refl _ _) _)) _ 1 1 [k] rfl (one_at _ k hk.out) (by simp) (Nat.le_trans (size3 B0.out) (by rw [size_alloc];omega)) ?_)
  intro v1 w1 o1 g1
  have O1:=Lib.hid (show Bts (W.heap.size + 3) w1 v1 [k] from o1)
  have B1:=Lib.hid (below_grownN (below_new3 B0.out _) (size3 (below_new3 B0.out _)) g1 (fun j hj=>O0.out.lt j hj))
  clear o1 g1
  obtain ⟨c0_1,c1_1,c2_1,c3_1,c4_1,c5_1,c6_1⟩:=acells B1.out
  clear c0_0 c1_0 c2_0 c3_0 c4_0 c5_0 c6_0
  go_wp2_with (at_builtin;refine wpList_append_b rfl _ _ rfl (W.heap.size + 3) _ [k] rfl (O1.out.below (below_new (Below.refl _ _) _)) _ 1 1 [r] rfl (one_at _ r hr1.out) (by simp) (Nat.le_trans (size3 B1.out) (by rw [size_alloc];omega)) ?_)
  intro v2 w2 o2 g2
  have O2:=Lib.hid (show Bts (W.heap.size + 3) w2 v2 ([k] ++ [r]) from o2)
  have B2:=Lib.hid (below_grownN (below_new3 B1.out _) (size3 (below_new3 B1.out _)) g2 (fun j hj=>O1.out.lt j hj))
  clear o2 g2
  obtain ⟨c0_2,c1_2,c2_2,c3_2,c4_2,c5_2,c6_2⟩:=acells B2.out
  clear c0_1 c1_1 c2_1 c3_1 c4_1 c5_1 c6_1
  go_wp2_with fail
  go_ret
  exact ⟨_,rfl,O2.out.mono (Nat.le_add_right _ _),below3 B2.out⟩
set_option maxHeartbeats 4000000 in
theorem ah_1_16_r_p0 (op wd dst src base disp imm cc sh at_ va dg lo reg rm pdisp pimm pcc q r:Int) (W:World) (es:(sh == 8)=true) (e8:(wd == 8)=false) (e16:(wd == 16)=true) (e64:(wd == 64)=false) (nd:needB reg rm=true) (hb:bothB reg rm=true) (el:(lo == 15)=false) (e6:(sh == 6)=false) (eq:IntKind.u8.wrap (va / 256)=q) (er:IntKind.u8.wrap va=r) (ef:(q != 0)=false) (hq:0 ≤ q ∧ q < 256) (hr:0 ≤ r ∧ r < 256):
    Calls Tryd.prog 103 #[.agg #[.int .i8 op,.int .i8 wd,.int .i8 dst,.int .i8 src,.int .i8 base,.int .i64 disp,.int .i64 imm,.int .i8 cc],.agg #[.int .i8 sh,.int .i8 at_,.int .u16 va,.int .i8 dg,.int .u16 lo],.agg #[.int .i8 reg,.int .i8 rm,.int .i64 pdisp,.int .i64 pimm,.int .i8 pcc]] W (RetV (([102] ++ [rexI false reg rm]) ++ [r]) W):=by
  have ND:=Lib.hid (fun W=>needs_n reg rm W)
  rw [nd] at ND
  have RX:=Lib.hid (fun W=>rex_n false reg rm W)
  rw [hb] at RX
  simp only [cond_true] at RX
  have hk:=Lib.hid (rexI_bd false reg rm)
  generalize rexI false reg rm=k at *
  clear hb nd
  have hq1:=Lib.hid hq
  have hr1:=Lib.hid hr
  clear hq hr
  unfold RetV
  go_enter Tryd.func103,Tryd.ntmps103
  go_wp2_with fail
  go_region
  have B0:=Lib.hid (show Below (W.heap.size + 3) (((W.alloc (.cells #[.int .i8 op,.int .i8 wd,.int .i8 dst,.int .i8 src,.int .i8 base,.int .i64 disp,.int .i64 imm,.int .i8 cc] 26)).alloc (.cells #[.int .i8 sh,.int .i8 at_,.int .u16 va,.int .i8 dg,.int .u16 lo] 80)).alloc (.cells #[.int .i8 reg,.int .i8 rm,.int .i64 pdisp,.int .i64 pimm,.int .i8 pcc] 86)) ((((W.alloc (.cells #[.int .i8 op,.int .i8 wd,.int .i8 dst,.int .i8 src,.int .i8 base,.int .i64 disp,.int .i64 imm,.int .i8 cc] 26)).alloc (.cells #[.int .i8 sh,.int .i8 at_,.int .u16 va,.int .i8 dg,.int .u16 lo] 80)).alloc (.cells #[.int .i8 reg,.int .i8 rm,.int .i64 pdisp,.int .i64 pimm,.int .i8 pcc] 86)).drew) from (Below.refl _ _).drew)
  have O0:=Lib.hid (show Bts (W.heap.size + 3) ((((W.alloc (.cells #[.int .i8 op,.int .i8 wd,.int .i8 dst,.int .i8 src,.int .i8 base,.int .i64 disp,.int .i64 imm,.int .i8 cc] 26)).alloc (.cells #[.int .i8 sh,.int .i8 at_,.int .u16 va,.int .i8 dg,.int .u16 lo] 80)).alloc (.cells #[.int .i8 reg,.int .i8 rm,.int .i64 pdisp,.int .i64 pimm,.int .i8 pcc] 86)).drew) (.slice none 0 0) [] from Bts.nil _ _)
  obtain ⟨c0_0,c1_0,c2_0,c3_0,c4_0,c5_0,c6_0⟩:=acells B0.out
  generalize (((W.alloc (.cells #[.int .i8 op,.int .i8 wd,.int .i8 dst,.int .i8 src,.int .i8 base,.int .i64 disp,.int .i64 imm,.int .i8 cc] 26)).alloc (.cells #[.int .i8 sh,.int .i8 at_,.int .u16 va,.int .i8 dg,.int .u16 lo] 80)).alloc (.cells #[.int .i8 reg,.int .i8 rm,.int .i64 pdisp,.int .i64 pimm,.int .i8 pcc] 86)).drew=w0 at *
  generalize Value.slice none 0 0=v0 at *
  go_wp2_with (at_builtin;refine wpList_append_b rfl _ _ rfl (W.heap.size + 3) _ [] rfl (O0.out.below (below_new (Below.refl _ _) _)) _ 1 1 [102] rfl (one_at _ 102 (by omega)) (by simp) (Nat.le_trans (size3 B0.out) (by rw [size_alloc];omega)) ?_)
  intro v1 w1 o1 g1
  have O1:=Lib.hid (show Bts (W.heap.size + 3) w1 v1 [102] from o1)
  have B1:=Lib.hid (below_grownN (below_new3 B0.out _) (size3 (below_new3 B0.out _)) g1 (fun j hj=>O0.out.lt j hj))
  clear o1 g1
  obtain ⟨c0_1,c1_1,c2_1,c3_1,c4_1,c5_1,c6_1⟩:=acells B1.out
  clear c0_0 c1_0 c2_0 c3_0 c4_0 c5_0 c6_0
  go_wp2_with fail
  refine (ND.out _).mono ?_
  rintro e y ⟨rfl,rfl⟩
  go_wp2_with fail
  refine (RX.out _).mono ?_
  rintro e y ⟨rfl,rfl⟩
  go_wp2_with (at_builtin;refine wpList_append_b rfl _ _ rfl (W.heap.size + 3) _ [102] rfl (O1.out.below (below_new (Below.refl _ _) _)) _ 1 1 [k] rfl (one_at _ k hk.out) (by simp) (Nat.le_trans (size3 B1.out) (by rw [size_alloc];omega)) ?_)
  intro v2 w2 o2 g2
  have O2:=Lib.hid (show Bts (W.heap.size + 3) w2 v2 ([102] ++ [k]) from o2)
  have B2:=Lib.hid (below_grownN (below_new3 B1.out _) (size3 (below_new3 B1.out _)) g2 (fun j hj=>O1.out.lt j hj))
  clear o2 g2
  obtain ⟨c0_2,c1_2,c2_2,c3_2,c4_2,c5_2,c6_2⟩:=acells B2.out
  clear c0_1 c1_1 c2_1 c3_1 c4_1 c5_1 c6_1
  go_wp2_with (at_builtin;refine wpList_append_b rfl _ _ rfl (W.heap.size + 3) _ ([102] ++ [k]) rfl (O2.out.below (below_new (Below.refl _ _) _)) _ 1 1 [r] rfl (one_at _ r hr1.out) (by simp) (Nat.le_trans (size3 B2.out) (by rw [size_alloc];omega)) ?_)
  intro v3 w3 o3 g3
  have O3:=Lib.hid (show Bts (W.heap.size + 3) w3 v3 (([102] ++ [k]) ++ [r]) from o3)
  have B3:=Lib.hid (below_grownN (below_new3 B2.out _) (size3 (below_new3 B2.out _)) g3 (fun j hj=>O2.out.lt j hj))
  clear o3 g3
  obtain ⟨c0_3,c1_3,c2_3,c3_3,c4_3,c5_3,c6_3⟩:=acells B3.out
  clear c0_2 c1_2 c2_2 c3_2 c4_2 c5_2 c6_2
  go_wp2_with fail
  go_ret
  exact ⟨_,rfl,O3.out.mono (Nat.le_add_right _ _),below3 B3.out⟩
set_option maxHeartbeats 4000000 in
theorem ah_1_16_n_p0 (op wd dst src base disp imm cc sh at_ va dg lo reg rm pdisp pimm pcc q r:Int) (W:World) (es:(sh == 8)=true) (e8:(wd == 8)=false) (e16:(wd == 16)=true) (e64:(wd == 64)=false) (nd:needB reg rm=false) (hb:bothB reg rm=true) (el:(lo == 15)=false) (e6:(sh == 6)=false) (eq:IntKind.u8.wrap (va / 256)=q) (er:IntKind.u8.wrap va=r) (ef:(q != 0)=false) (hq:0 ≤ q ∧ q < 256) (hr:0 ≤ r ∧ r < 256):
    Calls Tryd.prog 103 #[.agg #[.int .i8 op,.int .i8 wd,.int .i8 dst,.int .i8 src,.int .i8 base,.int .i64 disp,.int .i64 imm,.int .i8 cc],.agg #[.int .i8 sh,.int .i8 at_,.int .u16 va,.int .i8 dg,.int .u16 lo],.agg #[.int .i8 reg,.int .i8 rm,.int .i64 pdisp,.int .i64 pimm,.int .i8 pcc]] W (RetV ([102] ++ [r]) W):=by
  have ND:=Lib.hid (fun W=>needs_n reg rm W)
  rw [nd] at ND
  clear hb nd
  have hq1:=Lib.hid hq
  have hr1:=Lib.hid hr
  clear hq hr
  unfold RetV
  go_enter Tryd.func103,Tryd.ntmps103
  go_wp2_with fail
  go_region
  have B0:=Lib.hid (show Below (W.heap.size + 3) (((W.alloc (.cells #[.int .i8 op,.int .i8 wd,.int .i8 dst,.int .i8 src,.int .i8 base,.int .i64 disp,.int .i64 imm,.int .i8 cc] 26)).alloc (.cells #[.int .i8 sh,.int .i8 at_,.int .u16 va,.int .i8 dg,.int .u16 lo] 80)).alloc (.cells #[.int .i8 reg,.int .i8 rm,.int .i64 pdisp,.int .i64 pimm,.int .i8 pcc] 86)) ((((W.alloc (.cells #[.int .i8 op,.int .i8 wd,.int .i8 dst,.int .i8 src,.int .i8 base,.int .i64 disp,.int .i64 imm,.int .i8 cc] 26)).alloc (.cells #[.int .i8 sh,.int .i8 at_,.int .u16 va,.int .i8 dg,.int .u16 lo] 80)).alloc (.cells #[.int .i8 reg,.int .i8 rm,.int .i64 pdisp,.int .i64 pimm,.int .i8 pcc] 86)).drew) from (Below.refl _ _).drew)
  have O0:=Lib.hid (show Bts (W.heap.size + 3) ((((W.alloc (.cells #[.int .i8 op,.int .i8 wd,.int .i8 dst,.int .i8 src,.int .i8 base,.int .i64 disp,.int .i64 imm,.int .i8 cc] 26)).alloc (.cells #[.int .i8 sh,.int .i8 at_,.int .u16 va,.int .i8 dg,.int .u16 lo] 80)).alloc (.cells #[.int .i8 reg,.int .i8 rm,.int .i64 pdisp,.int .i64 pimm,.int .i8 pcc] 86)).drew) (.slice none 0 0) [] from Bts.nil _ _)
  obtain ⟨c0_0,c1_0,c2_0,c3_0,c4_0,c5_0,c6_0⟩:=acells B0.out
  generalize (((W.alloc (.cells #[.int .i8 op,.int .i8 wd,.int .i8 dst,.int .i8 src,.int .i8 base,.int .i64 disp,.int .i64 imm,.int .i8 cc] 26)).alloc (.cells #[.int .i8 sh,.int .i8 at_,.int .u16 va,.int .i8 dg,.int .u16 lo] 80)).alloc (.cells #[.int .i8 reg,.int .i8 rm,.int .i64 pdisp,.int .i64 pimm,.int .i8 pcc] 86)).drew=w0 at *
  generalize Value.slice none 0 0=v0 at *
  go_wp2_with (at_builtin;refine wpList_append_b rfl _ _ rfl (W.heap.size + 3) _ [] rfl (O0.out.below (below_new (Below.refl _ _) _)) _ 1 1 [102] rfl (one_at _ 102 (by omega)) (by simp) (Nat.le_trans (size3 B0.out) (by rw [size_alloc];omega)) ?_)
  intro v1 w1 o1 g1
  have O1:=Lib.hid (show Bts (W.heap.size + 3) w1 v1 [102] from o1)
  have B1:=Lib.hid (below_grownN (below_new3 B0.out _) (size3 (below_new3 B0.out _)) g1 (fun j hj=>O0.out.lt j hj))
  clear o1 g1
  obtain ⟨c0_1,c1_1,c2_1,c3_1,c4_1,c5_1,c6_1⟩:=acells B1.out
  clear c0_0 c1_0 c2_0 c3_0 c4_0 c5_0 c6_0
  go_wp2_with fail
  refine (ND.out _).mono ?_
  rintro e y ⟨rfl,rfl⟩
  go_wp2_with (at_builtin;refine wpList_append_b rfl _ _ rfl (W.heap.size + 3) _ [102] rfl (O1.out.below (below_new (Below.refl _ _) _)) _ 1 1 [r] rfl (one_at _ r hr1.out) (by simp) (Nat.le_trans (size3 B1.out) (by rw [size_alloc];omega)) ?_)
  intro v2 w2 o2 g2
  have O2:=Lib.hid (show Bts (W.heap.size + 3) w2 v2 ([102] ++ [r]) from o2)
  have B2:=Lib.hid (below_grownN (below_new3 B1.out _) (size3 (below_new3 B1.out _)) g2 (fun j hj=>O1.out.lt j hj))
  clear o2 g2
  obtain ⟨c0_2,c1_2,c2_2,c3_2,c4_2,c5_2,c6_2⟩:=acells B2.out
  clear c0_1 c1_1 c2_1 c3_1 c4_1 c5_1 c6_1
  go_wp2_with fail
  go_ret
  exact ⟨_,rfl,O2.out.mono (Nat.le_add_right _ _),below3 B2.out⟩
set_option maxHeartbeats 4000000 in
theorem ah_1_64_x_p0 (op wd dst src base disp imm cc sh at_ va dg lo reg rm pdisp pimm pcc q r:Int) (W:World) (es:(sh == 8)=true) (e8:(wd == 8)=false) (e16:(wd == 16)=false) (e64:(wd == 64)=true) (hb:bothB reg rm=true) (el:(lo == 15)=false) (e6:(sh == 6)=false) (eq:IntKind.u8.wrap (va / 256)=q) (er:IntKind.u8.wrap va=r) (ef:(q != 0)=false) (hq:0 ≤ q ∧ q < 256) (hr:0 ≤ r ∧ r < 256):
    Calls Tryd.prog 103 #[.agg #[.int .i8 op,.int .i8 wd,.int .i8 dst,.int .i8 src,.int .i8 base,.int .i64 disp,.int .i64 imm,.int .i8 cc],.agg #[.int .i8 sh,.int .i8 at_,.int .u16 va,.int .i8 dg,.int .u16 lo],.agg #[.int .i8 reg,.int .i8 rm,.int .i64 pdisp,.int .i64 pimm,.int .i8 pcc]] W (RetV ([rexI true reg rm] ++ [r]) W):=by
  have RX:=Lib.hid (fun W=>rex_n true reg rm W)
  rw [hb] at RX
  simp only [cond_true] at RX
  have hk:=Lib.hid (rexI_bd true reg rm)
  generalize rexI true reg rm=k at *
  clear hb
  have hq1:=Lib.hid hq
  have hr1:=Lib.hid hr
  clear hq hr
  unfold RetV
  go_enter Tryd.func103,Tryd.ntmps103
  go_wp2_with fail
  go_region
  have B0:=Lib.hid (show Below (W.heap.size + 3) (((W.alloc (.cells #[.int .i8 op,.int .i8 wd,.int .i8 dst,.int .i8 src,.int .i8 base,.int .i64 disp,.int .i64 imm,.int .i8 cc] 26)).alloc (.cells #[.int .i8 sh,.int .i8 at_,.int .u16 va,.int .i8 dg,.int .u16 lo] 80)).alloc (.cells #[.int .i8 reg,.int .i8 rm,.int .i64 pdisp,.int .i64 pimm,.int .i8 pcc] 86)) ((((W.alloc (.cells #[.int .i8 op,.int .i8 wd,.int .i8 dst,.int .i8 src,.int .i8 base,.int .i64 disp,.int .i64 imm,.int .i8 cc] 26)).alloc (.cells #[.int .i8 sh,.int .i8 at_,.int .u16 va,.int .i8 dg,.int .u16 lo] 80)).alloc (.cells #[.int .i8 reg,.int .i8 rm,.int .i64 pdisp,.int .i64 pimm,.int .i8 pcc] 86)).drew) from (Below.refl _ _).drew)
  have O0:=Lib.hid (show Bts (W.heap.size + 3) ((((W.alloc (.cells #[.int .i8 op,.int .i8 wd,.int .i8 dst,.int .i8 src,.int .i8 base,.int .i64 disp,.int .i64 imm,.int .i8 cc] 26)).alloc (.cells #[.int .i8 sh,.int .i8 at_,.int .u16 va,.int .i8 dg,.int .u16 lo] 80)).alloc (.cells #[.int .i8 reg,.int .i8 rm,.int .i64 pdisp,.int .i64 pimm,.int .i8 pcc] 86)).drew) (.slice none 0 0) [] from Bts.nil _ _)
  obtain ⟨c0_0,c1_0,c2_0,c3_0,c4_0,c5_0,c6_0⟩:=acells B0.out
  generalize (((W.alloc (.cells #[.int .i8 op,.int .i8 wd,.int .i8 dst,.int .i8 src,.int .i8 base,.int .i64 disp,.int .i64 imm,.int .i8 cc] 26)).alloc (.cells #[.int .i8 sh,.int .i8 at_,.int .u16 va,.int .i8 dg,.int .u16 lo] 80)).alloc (.cells #[.int .i8 reg,.int .i8 rm,.int .i64 pdisp,.int .i64 pimm,.int .i8 pcc] 86)).drew=w0 at *
  generalize Value.slice none 0 0=v0 at *
  go_wp2_with fail
  refine (RX.out _).mono ?_
  rintro e y ⟨rfl,rfl⟩
  go_wp2_with (at_builtin;refine wpList_append_b rfl _ _ rfl (W.heap.size + 3) _ [] rfl (O0.out.below (below_new (Below.refl _ _) _)) _ 1 1 [k] rfl (one_at _ k hk.out) (by simp) (Nat.le_trans (size3 B0.out) (by rw [size_alloc];omega)) ?_)
  intro v1 w1 o1 g1
  have O1:=Lib.hid (show Bts (W.heap.size + 3) w1 v1 [k] from o1)
  have B1:=Lib.hid (below_grownN (below_new3 B0.out _) (size3 (below_new3 B0.out _)) g1 (fun j hj=>O0.out.lt j hj))
  clear o1 g1
  obtain ⟨c0_1,c1_1,c2_1,c3_1,c4_1,c5_1,c6_1⟩:=acells B1.out
  clear c0_0 c1_0 c2_0 c3_0 c4_0 c5_0 c6_0
  go_wp2_with (at_builtin;refine wpList_append_b rfl _ _ rfl (W.heap.size + 3) _ [k] rfl (O1.out.below (below_new (Below.refl _ _) _)) _ 1 1 [r] rfl (one_at _ r hr1.out) (by simp) (Nat.le_trans (size3 B1.out) (by rw [size_alloc];omega)) ?_)
  intro v2 w2 o2 g2
  have O2:=Lib.hid (show Bts (W.heap.size + 3) w2 v2 ([k] ++ [r]) from o2)
  have B2:=Lib.hid (below_grownN (below_new3 B1.out _) (size3 (below_new3 B1.out _)) g2 (fun j hj=>O1.out.lt j hj))
  clear o2 g2
  obtain ⟨c0_2,c1_2,c2_2,c3_2,c4_2,c5_2,c6_2⟩:=acells B2.out
  clear c0_1 c1_1 c2_1 c3_1 c4_1 c5_1 c6_1
  go_wp2_with fail
  go_ret
  exact ⟨_,rfl,O2.out.mono (Nat.le_add_right _ _),below3 B2.out⟩
set_option maxHeartbeats 4000000 in
theorem ah_1_0_r_p0 (op wd dst src base disp imm cc sh at_ va dg lo reg rm pdisp pimm pcc q r:Int) (W:World) (es:(sh == 8)=true) (e8:(wd == 8)=false) (e16:(wd == 16)=false) (e64:(wd == 64)=false) (nd:needB reg rm=true) (hb:bothB reg rm=true) (el:(lo == 15)=false) (e6:(sh == 6)=false) (eq:IntKind.u8.wrap (va / 256)=q) (er:IntKind.u8.wrap va=r) (ef:(q != 0)=false) (hq:0 ≤ q ∧ q < 256) (hr:0 ≤ r ∧ r < 256):
    Calls Tryd.prog 103 #[.agg #[.int .i8 op,.int .i8 wd,.int .i8 dst,.int .i8 src,.int .i8 base,.int .i64 disp,.int .i64 imm,.int .i8 cc],.agg #[.int .i8 sh,.int .i8 at_,.int .u16 va,.int .i8 dg,.int .u16 lo],.agg #[.int .i8 reg,.int .i8 rm,.int .i64 pdisp,.int .i64 pimm,.int .i8 pcc]] W (RetV ([rexI false reg rm] ++ [r]) W):=by
  have ND:=Lib.hid (fun W=>needs_n reg rm W)
  rw [nd] at ND
  have RX:=Lib.hid (fun W=>rex_n false reg rm W)
  rw [hb] at RX
  simp only [cond_true] at RX
  have hk:=Lib.hid (rexI_bd false reg rm)
  generalize rexI false reg rm=k at *
  clear hb nd
  have hq1:=Lib.hid hq
  have hr1:=Lib.hid hr
  clear hq hr
  unfold RetV
  go_enter Tryd.func103,Tryd.ntmps103
  go_wp2_with fail
  go_region
  have B0:=Lib.hid (show Below (W.heap.size + 3) (((W.alloc (.cells #[.int .i8 op,.int .i8 wd,.int .i8 dst,.int .i8 src,.int .i8 base,.int .i64 disp,.int .i64 imm,.int .i8 cc] 26)).alloc (.cells #[.int .i8 sh,.int .i8 at_,.int .u16 va,.int .i8 dg,.int .u16 lo] 80)).alloc (.cells #[.int .i8 reg,.int .i8 rm,.int .i64 pdisp,.int .i64 pimm,.int .i8 pcc] 86)) ((((W.alloc (.cells #[.int .i8 op,.int .i8 wd,.int .i8 dst,.int .i8 src,.int .i8 base,.int .i64 disp,.int .i64 imm,.int .i8 cc] 26)).alloc (.cells #[.int .i8 sh,.int .i8 at_,.int .u16 va,.int .i8 dg,.int .u16 lo] 80)).alloc (.cells #[.int .i8 reg,.int .i8 rm,.int .i64 pdisp,.int .i64 pimm,.int .i8 pcc] 86)).drew) from (Below.refl _ _).drew)
  have O0:=Lib.hid (show Bts (W.heap.size + 3) ((((W.alloc (.cells #[.int .i8 op,.int .i8 wd,.int .i8 dst,.int .i8 src,.int .i8 base,.int .i64 disp,.int .i64 imm,.int .i8 cc] 26)).alloc (.cells #[.int .i8 sh,.int .i8 at_,.int .u16 va,.int .i8 dg,.int .u16 lo] 80)).alloc (.cells #[.int .i8 reg,.int .i8 rm,.int .i64 pdisp,.int .i64 pimm,.int .i8 pcc] 86)).drew) (.slice none 0 0) [] from Bts.nil _ _)
  obtain ⟨c0_0,c1_0,c2_0,c3_0,c4_0,c5_0,c6_0⟩:=acells B0.out
  generalize (((W.alloc (.cells #[.int .i8 op,.int .i8 wd,.int .i8 dst,.int .i8 src,.int .i8 base,.int .i64 disp,.int .i64 imm,.int .i8 cc] 26)).alloc (.cells #[.int .i8 sh,.int .i8 at_,.int .u16 va,.int .i8 dg,.int .u16 lo] 80)).alloc (.cells #[.int .i8 reg,.int .i8 rm,.int .i64 pdisp,.int .i64 pimm,.int .i8 pcc] 86)).drew=w0 at *
  generalize Value.slice none 0 0=v0 at *
  go_wp2_with fail
  refine (ND.out _).mono ?_
  rintro e y ⟨rfl,rfl⟩
  go_wp2_with fail
  refine (RX.out _).mono ?_
  rintro e y ⟨rfl,rfl⟩
  go_wp2_with (at_builtin;refine wpList_append_b rfl _ _ rfl (W.heap.size + 3) _ [] rfl (O0.out.below (below_new (Below.refl _ _) _)) _ 1 1 [k] rfl (one_at _ k hk.out) (by simp) (Nat.le_trans (size3 B0.out) (by rw [size_alloc];omega)) ?_)
  intro v1 w1 o1 g1
  have O1:=Lib.hid (show Bts (W.heap.size + 3) w1 v1 [k] from o1)
  have B1:=Lib.hid (below_grownN (below_new3 B0.out _) (size3 (below_new3 B0.out _)) g1 (fun j hj=>O0.out.lt j hj))
  clear o1 g1
  obtain ⟨c0_1,c1_1,c2_1,c3_1,c4_1,c5_1,c6_1⟩:=acells B1.out
  clear c0_0 c1_0 c2_0 c3_0 c4_0 c5_0 c6_0
  go_wp2_with (at_builtin;refine wpList_append_b rfl _ _ rfl (W.heap.size + 3) _ [k] rfl (O1.out.below (below_new (Below.refl _ _) _)) _ 1 1 [r] rfl (one_at _ r hr1.out) (by simp) (Nat.le_trans (size3 B1.out) (by rw [size_alloc];omega)) ?_)
  intro v2 w2 o2 g2
  have O2:=Lib.hid (show Bts (W.heap.size + 3) w2 v2 ([k] ++ [r]) from o2)
  have B2:=Lib.hid (below_grownN (below_new3 B1.out _) (size3 (below_new3 B1.out _)) g2 (fun j hj=>O1.out.lt j hj))
  clear o2 g2
  obtain ⟨c0_2,c1_2,c2_2,c3_2,c4_2,c5_2,c6_2⟩:=acells B2.out
  clear c0_1 c1_1 c2_1 c3_1 c4_1 c5_1 c6_1
  go_wp2_with fail
  go_ret
  exact ⟨_,rfl,O2.out.mono (Nat.le_add_right _ _),below3 B2.out⟩
set_option maxHeartbeats 4000000 in
theorem ah_1_0_n_p0 (op wd dst src base disp imm cc sh at_ va dg lo reg rm pdisp pimm pcc q r:Int) (W:World) (es:(sh == 8)=true) (e8:(wd == 8)=false) (e16:(wd == 16)=false) (e64:(wd == 64)=false) (nd:needB reg rm=false) (hb:bothB reg rm=true) (el:(lo == 15)=false) (e6:(sh == 6)=false) (eq:IntKind.u8.wrap (va / 256)=q) (er:IntKind.u8.wrap va=r) (ef:(q != 0)=false) (hq:0 ≤ q ∧ q < 256) (hr:0 ≤ r ∧ r < 256):
    Calls Tryd.prog 103 #[.agg #[.int .i8 op,.int .i8 wd,.int .i8 dst,.int .i8 src,.int .i8 base,.int .i64 disp,.int .i64 imm,.int .i8 cc],.agg #[.int .i8 sh,.int .i8 at_,.int .u16 va,.int .i8 dg,.int .u16 lo],.agg #[.int .i8 reg,.int .i8 rm,.int .i64 pdisp,.int .i64 pimm,.int .i8 pcc]] W (RetV [r] W):=by
  have ND:=Lib.hid (fun W=>needs_n reg rm W)
  rw [nd] at ND
  clear hb nd
  have hq1:=Lib.hid hq
  have hr1:=Lib.hid hr
  clear hq hr
  unfold RetV
  go_enter Tryd.func103,Tryd.ntmps103
  go_wp2_with fail
  go_region
  have B0:=Lib.hid (show Below (W.heap.size + 3) (((W.alloc (.cells #[.int .i8 op,.int .i8 wd,.int .i8 dst,.int .i8 src,.int .i8 base,.int .i64 disp,.int .i64 imm,.int .i8 cc] 26)).alloc (.cells #[.int .i8 sh,.int .i8 at_,.int .u16 va,.int .i8 dg,.int .u16 lo] 80)).alloc (.cells #[.int .i8 reg,.int .i8 rm,.int .i64 pdisp,.int .i64 pimm,.int .i8 pcc] 86)) ((((W.alloc (.cells #[.int .i8 op,.int .i8 wd,.int .i8 dst,.int .i8 src,.int .i8 base,.int .i64 disp,.int .i64 imm,.int .i8 cc] 26)).alloc (.cells #[.int .i8 sh,.int .i8 at_,.int .u16 va,.int .i8 dg,.int .u16 lo] 80)).alloc (.cells #[.int .i8 reg,.int .i8 rm,.int .i64 pdisp,.int .i64 pimm,.int .i8 pcc] 86)).drew) from (Below.refl _ _).drew)
  have O0:=Lib.hid (show Bts (W.heap.size + 3) ((((W.alloc (.cells #[.int .i8 op,.int .i8 wd,.int .i8 dst,.int .i8 src,.int .i8 base,.int .i64 disp,.int .i64 imm,.int .i8 cc] 26)).alloc (.cells #[.int .i8 sh,.int .i8 at_,.int .u16 va,.int .i8 dg,.int .u16 lo] 80)).alloc (.cells #[.int .i8 reg,.int .i8 rm,.int .i64 pdisp,.int .i64 pimm,.int .i8 pcc] 86)).drew) (.slice none 0 0) [] from Bts.nil _ _)
  obtain ⟨c0_0,c1_0,c2_0,c3_0,c4_0,c5_0,c6_0⟩:=acells B0.out
  generalize (((W.alloc (.cells #[.int .i8 op,.int .i8 wd,.int .i8 dst,.int .i8 src,.int .i8 base,.int .i64 disp,.int .i64 imm,.int .i8 cc] 26)).alloc (.cells #[.int .i8 sh,.int .i8 at_,.int .u16 va,.int .i8 dg,.int .u16 lo] 80)).alloc (.cells #[.int .i8 reg,.int .i8 rm,.int .i64 pdisp,.int .i64 pimm,.int .i8 pcc] 86)).drew=w0 at *
  generalize Value.slice none 0 0=v0 at *
  go_wp2_with fail
  refine (ND.out _).mono ?_
  rintro e y ⟨rfl,rfl⟩
  go_wp2_with (at_builtin;refine wpList_append_b rfl _ _ rfl (W.heap.size + 3) _ [] rfl (O0.out.below (below_new (Below.refl _ _) _)) _ 1 1 [r] rfl (one_at _ r hr1.out) (by simp) (Nat.le_trans (size3 B0.out) (by rw [size_alloc];omega)) ?_)
  intro v1 w1 o1 g1
  have O1:=Lib.hid (show Bts (W.heap.size + 3) w1 v1 [r] from o1)
  have B1:=Lib.hid (below_grownN (below_new3 B0.out _) (size3 (below_new3 B0.out _)) g1 (fun j hj=>O0.out.lt j hj))
  clear o1 g1
  obtain ⟨c0_1,c1_1,c2_1,c3_1,c4_1,c5_1,c6_1⟩:=acells B1.out
  clear c0_0 c1_0 c2_0 c3_0 c4_0 c5_0 c6_0
  go_wp2_with fail
  go_ret
  exact ⟨_,rfl,O1.out.mono (Nat.le_add_right _ _),below3 B1.out⟩
end Go.Proofs.YtoghjpliemidkaaDoor.Mrm
