import Derived.Test.YtjhedldplmhmjaaDoorERd15
import Derived.Test.YtjhedldplmhmjaaDoorERd06
import Derived.Test.YtjhedldplmhmjaaDoorERd10
import Derived.Test.YtjhedldplmhmjaaDoorERd02
set_option linter.unusedVariables false
set_option linter.unusedSimpArgs false
set_option linter.unnecessarySimpa false
namespace Go.Proofs.YtjhedldplmhmjaaDoor.Mrm
open Go Go.RowKit
set_option linter.unusedVariables false
set_option linter.unnecessarySimpa false
set_option linter.unusedSimpArgs false
set_option maxRecDepth 100000
set_option maxHeartbeats 2000000 in
theorem rbh_mul (g:Nat) (a:Option Addr) (len c:Nat) (l:List Int) (s:Rdr) (x:Xi) (W:World) (h:RdAt g a len c l s W) (hr:0 ≤ s.r ∧ s.r ≤ 1) (hm:0 ≤ s.m ∧ s.m ≤ 1) (hn:byteV l s=175):
    Calls Tryd.prog 17 #[.pointer (some ⟨g,0,none⟩),.agg (xC x)] W fun e w'=>e=.returned (.agg (xC { x with op:=16,dst:=(byteV l (byteS l s) / 8 % 8 + 8 * (byteS l s).r),src:=(byteV l (byteS l s) % 8 + 8 * (byteS l s).m) })) ∧ Red g a len c l (twoS l (byteS l s)) W w':=by
  have HH:=Lib.hid h
  have hg:=(Array.getElem?_eq_some_iff.1 h.blk).1
  have BY:=Lib.hid (fun w (h:RdAt g a len c l s w)=>rbyte_n g a len c l s w h)
  obtain ⟨er,em,-⟩:=byteS_r l s
  rw [← er] at hr
  rw [← em] at hm
  have CA:=Lib.hid (fun w (h:RdAt g a len c l (byteS l s) w)=>rtwo_n g a len c l (byteS l s) w h hr hm)
  clear er em
  generalize (byteV l (byteS l s) / 8 % 8 + 8 * (byteS l s).r)=v1 at *
  generalize (byteV l (byteS l s) % 8 + 8 * (byteS l s).m)=v2 at *
  generalize twoS l (byteS l s)=s2 at *
  clear h hr hm
  generalize byteS l s=s1 at *
  generalize byteV l s=n at *
  have t0:(n == 175)=true:=by simp;omega
  clear hn
  obtain ⟨op,wd,dst,src,base,disp,imm,cc⟩:=x
  go_enter Tryd.func17,Tryd.ntmps17
  go_wp2_with fail
  refine (BY.out _ (HH.out.below (two_alloc W _ _))).mono ?_
  rintro e w1 ⟨rfl,rd⟩
  have RD:=Lib.hid (show Red g a len c l s1 W w1 from ⟨rd.1,(Gx.of (two_alloc W _ _)).trans rd.2⟩)
  have bx:w1.heap[W.heap.size]?=some (.cells (xC ⟨op,wd,dst,src,base,disp,imm,cc⟩) 26 (0,0)):=(rd.2.block W.heap.size (two_sz W _ _).1 (by omega)).trans (heap_two W _ _)
  have br:w1.heap[W.heap.size + 1]?=some (.cells (xC zX) 26 (0,0)):=(rd.2.block (W.heap.size + 1) (two_sz W _ _).2 (by omega)).trans (heap_alloc2_new W _ _)
  obtain ⟨c0,c1,c2,c3,c4,c5,c6,c7,fx⟩:=xcells8 bx
  have f0:=fx 0
  have R2:=Lib.hid (show Red g a len c l s1 W (w1.setCell ⟨W.heap.size,0,none⟩ (.int .i8 (16))) from (Red.fresh HH.out RD.out (Nat.le_refl _) 0 (.int .i8 (16))))
  have B2:=Lib.hid (show (w1.setCell ⟨W.heap.size,0,none⟩ (.int .i8 (16))).heap[W.heap.size]?=some (.cells (xC ⟨16,wd,dst,src,base,disp,imm,cc⟩) 26 (0,0)) from (setCell_row bx 0 (.int .i8 (16))))
  have E2:=Lib.hid (show (w1.setCell ⟨W.heap.size,0,none⟩ (.int .i8 (16))).heap[W.heap.size + 1]?=some (.cells (xC zX) 26 (0,0)) from ((setCell_past _ _ _ _ (show W.heap.size + 1 ≠ W.heap.size by omega)).trans br))
  clear fx bx br rd BY RD
  go_wp2_with fail
  refine (CA.out _ R2.out.1).mono ?_
  rintro e w2 ⟨rfl,rd2⟩
  have R3:=Lib.hid (R2.out.trans rd2)
  have bx3:=(rd2.2.block _ (Array.getElem?_eq_some_iff.1 B2.out).1 (by omega)).trans B2.out
  have br3:=(rd2.2.block _ (Array.getElem?_eq_some_iff.1 E2.out).1 (by omega)).trans E2.out
  clear c0 c1 c2 c3 c4 c5 c6 c7 f0
  obtain ⟨c0,c1,c2,c3,c4,c5,c6,c7,fx⟩:=xcells8 (x:=⟨16,wd,dst,src,base,disp,imm,cc⟩) bx3
  have f2:=fx 2
  have f3:=fx 3
  have B3:=Lib.hid br3
  obtain ⟨d0,d1,d2,d3,d4,d5,d6,d7,fr⟩:=xcells8 (x:=zX) br3
  have r0:=fr 0
  have r1:=fr 1
  have r2:=fr 2
  have r3:=fr 3
  have r4:=fr 4
  have r5:=fr 5
  have r6:=fr 6
  have r7:=fr 7
  simp only at c0 c1 c2 c3 c4 c5 c6 c7
  clear fx fr rd2 R2 B2 E2 bx3 br3 CA
  go_wp2_with fail
  exact bodyPost_ret (results_cell_row rfl _ _ (W.heap.size + 1) _ _ _ _ rfl (row8 (x:=zX) (y:=⟨16,wd,v1,v2,base,disp,imm,cc⟩) ((setCell_past _ _ _ _ (show W.heap.size + 1 ≠ W.heap.size by omega)).trans ((setCell_past _ _ _ _ (show W.heap.size + 1 ≠ W.heap.size by omega)).trans B3.out))) Tryd.underlying26 rfl (by kernel_rfl)) rfl ⟨rfl,Red.fresh8 HH.out (Red.fresh HH.out (Red.fresh HH.out R3.out (Nat.le_refl _) 2 (.int .i8 v1)) (Nat.le_refl _) 3 (.int .i8 v2)) (by omega) _ _ _ _ _ _ _ _⟩
set_option maxHeartbeats 2000000 in
theorem rbh_host (g:Nat) (a:Option Addr) (len c:Nat) (l:List Int) (s:Rdr) (x:Xi) (W:World) (h:RdAt g a len c l s W) (hr:0 ≤ s.r ∧ s.r ≤ 1) (hm:0 ≤ s.m ∧ s.m ≤ 1) (hn:byteV l s=5):
    Calls Tryd.prog 17 #[.pointer (some ⟨g,0,none⟩),.agg (xC x)] W fun e w'=>e=.returned (.agg (xC { x with op:=31,w:=0 })) ∧ Red g a len c l (byteS l s) W w':=by
  have HH:=Lib.hid h
  have hg:=(Array.getElem?_eq_some_iff.1 h.blk).1
  have BY:=Lib.hid (fun w (h:RdAt g a len c l s w)=>rbyte_n g a len c l s w h)
  clear h hr hm
  generalize byteS l s=s1 at *
  generalize byteV l s=n at *
  have t0:(n == 175)=false:=by simp;omega
  have t1:(n == 5)=true:=by simp;omega
  clear hn
  obtain ⟨op,wd,dst,src,base,disp,imm,cc⟩:=x
  go_enter Tryd.func17,Tryd.ntmps17
  go_wp2_with fail
  refine (BY.out _ (HH.out.below (two_alloc W _ _))).mono ?_
  rintro e w1 ⟨rfl,rd⟩
  have RD:=Lib.hid (show Red g a len c l s1 W w1 from ⟨rd.1,(Gx.of (two_alloc W _ _)).trans rd.2⟩)
  have bx:w1.heap[W.heap.size]?=some (.cells (xC ⟨op,wd,dst,src,base,disp,imm,cc⟩) 26 (0,0)):=(rd.2.block W.heap.size (two_sz W _ _).1 (by omega)).trans (heap_two W _ _)
  have br:w1.heap[W.heap.size + 1]?=some (.cells (xC zX) 26 (0,0)):=(rd.2.block (W.heap.size + 1) (two_sz W _ _).2 (by omega)).trans (heap_alloc2_new W _ _)
  obtain ⟨c0,c1,c2,c3,c4,c5,c6,c7,fx⟩:=xcells8 bx
  have f0:=fx 0
  have f1:=fx 1
  have R2:=Lib.hid (show Red g a len c l s1 W ((w1.setCell ⟨W.heap.size,0,none⟩ (.int .i8 (31))).setCell ⟨W.heap.size,1,none⟩ (.int .i8 (0))) from (Red.fresh HH.out (Red.fresh HH.out RD.out (Nat.le_refl _) 0 (.int .i8 (31))) (Nat.le_refl _) 1 (.int .i8 (0))))
  have B2:=Lib.hid (show ((w1.setCell ⟨W.heap.size,0,none⟩ (.int .i8 (31))).setCell ⟨W.heap.size,1,none⟩ (.int .i8 (0))).heap[W.heap.size]?=some (.cells (xC ⟨31,0,dst,src,base,disp,imm,cc⟩) 26 (0,0)) from (setCell_row (setCell_row bx 0 (.int .i8 (31))) 1 (.int .i8 (0))))
  have E2:=Lib.hid (show ((w1.setCell ⟨W.heap.size,0,none⟩ (.int .i8 (31))).setCell ⟨W.heap.size,1,none⟩ (.int .i8 (0))).heap[W.heap.size + 1]?=some (.cells (xC zX) 26 (0,0)) from ((setCell_past _ _ _ _ (show W.heap.size + 1 ≠ W.heap.size by omega)).trans ((setCell_past _ _ _ _ (show W.heap.size + 1 ≠ W.heap.size by omega)).trans br)))
  have B3:=Lib.hid br
  obtain ⟨d0,d1,d2,d3,d4,d5,d6,d7,fr⟩:=xcells8 (x:=zX) br
  have r0:=fr 0
  have r1:=fr 1
  have r2:=fr 2
  have r3:=fr 3
  have r4:=fr 4
  have r5:=fr 5
  have r6:=fr 6
  have r7:=fr 7
  simp only at c0 c1 c2 c3 c4 c5 c6 c7
  clear fx fr rd BY RD bx br
  go_wp2_with fail
  exact bodyPost_ret (results_cell_row rfl _ _ (W.heap.size + 1) _ _ _ _ rfl (row8 (x:=zX) (y:=⟨31,0,dst,src,base,disp,imm,cc⟩) E2.out) Tryd.underlying26 rfl (by kernel_rfl)) rfl ⟨rfl,Red.fresh8 HH.out R2.out (by omega) _ _ _ _ _ _ _ _⟩
set_option maxHeartbeats 2000000 in
theorem rbh_cmov (g:Nat) (a:Option Addr) (len c:Nat) (l:List Int) (s:Rdr) (x:Xi) (W:World) (h:RdAt g a len c l s W) (hr:0 ≤ s.r ∧ s.r ≤ 1) (hm:0 ≤ s.m ∧ s.m ≤ 1) (hn:64 ≤ byteV l s ∧ byteV l s < 80):
    Calls Tryd.prog 17 #[.pointer (some ⟨g,0,none⟩),.agg (xC x)] W fun e w'=>e=.returned (.agg (xC { x with op:=25,cc:=byteV l s - 64,dst:=(byteV l (byteS l s) / 8 % 8 + 8 * (byteS l s).r),src:=(byteV l (byteS l s) % 8 + 8 * (byteS l s).m) })) ∧ Red g a len c l (twoS l (byteS l s)) W w':=by
  have HH:=Lib.hid h
  have hg:=(Array.getElem?_eq_some_iff.1 h.blk).1
  have BY:=Lib.hid (fun w (h:RdAt g a len c l s w)=>rbyte_n g a len c l s w h)
  obtain ⟨er,em,-⟩:=byteS_r l s
  rw [← er] at hr
  rw [← em] at hm
  have CA:=Lib.hid (fun w (h:RdAt g a len c l (byteS l s) w)=>rtwo_n g a len c l (byteS l s) w h hr hm)
  clear er em
  generalize (byteV l (byteS l s) / 8 % 8 + 8 * (byteS l s).r)=v1 at *
  generalize (byteV l (byteS l s) % 8 + 8 * (byteS l s).m)=v2 at *
  generalize twoS l (byteS l s)=s2 at *
  clear h hr hm
  generalize byteS l s=s1 at *
  generalize byteV l s=n at *
  have t0:(n == 175)=false:=by simp;omega
  have t1:(n == 5)=false:=by simp;omega
  have t2:decide (64 ≤ n)=true:=by simp;omega
  have t3:decide (n < 80)=true:=by simp;omega
  have t4:IntKind.i8.wrap (n - 64)=n - 64:=by simp only [IntKind.wrap,IntKind.signed,IntKind.bits];simp;omega
  obtain ⟨n0,n1⟩:=hn
  obtain ⟨op,wd,dst,src,base,disp,imm,cc⟩:=x
  go_enter Tryd.func17,Tryd.ntmps17
  go_wp2_with fail
  refine (BY.out _ (HH.out.below (two_alloc W _ _))).mono ?_
  rintro e w1 ⟨rfl,rd⟩
  have RD:=Lib.hid (show Red g a len c l s1 W w1 from ⟨rd.1,(Gx.of (two_alloc W _ _)).trans rd.2⟩)
  have bx:w1.heap[W.heap.size]?=some (.cells (xC ⟨op,wd,dst,src,base,disp,imm,cc⟩) 26 (0,0)):=(rd.2.block W.heap.size (two_sz W _ _).1 (by omega)).trans (heap_two W _ _)
  have br:w1.heap[W.heap.size + 1]?=some (.cells (xC zX) 26 (0,0)):=(rd.2.block (W.heap.size + 1) (two_sz W _ _).2 (by omega)).trans (heap_alloc2_new W _ _)
  obtain ⟨c0,c1,c2,c3,c4,c5,c6,c7,fx⟩:=xcells8 bx
  have f0:=fx 0
  have f7:=fx 7
  have R2:=Lib.hid (show Red g a len c l s1 W ((w1.setCell ⟨W.heap.size,0,none⟩ (.int .i8 (25))).setCell ⟨W.heap.size,7,none⟩ (.int .i8 (n - 64))) from (Red.fresh HH.out (Red.fresh HH.out RD.out (Nat.le_refl _) 0 (.int .i8 (25))) (Nat.le_refl _) 7 (.int .i8 (n - 64))))
  have B2:=Lib.hid (show ((w1.setCell ⟨W.heap.size,0,none⟩ (.int .i8 (25))).setCell ⟨W.heap.size,7,none⟩ (.int .i8 (n - 64))).heap[W.heap.size]?=some (.cells (xC ⟨25,wd,dst,src,base,disp,imm,n - 64⟩) 26 (0,0)) from (setCell_row (setCell_row bx 0 (.int .i8 (25))) 7 (.int .i8 (n - 64))))
  have E2:=Lib.hid (show ((w1.setCell ⟨W.heap.size,0,none⟩ (.int .i8 (25))).setCell ⟨W.heap.size,7,none⟩ (.int .i8 (n - 64))).heap[W.heap.size + 1]?=some (.cells (xC zX) 26 (0,0)) from ((setCell_past _ _ _ _ (show W.heap.size + 1 ≠ W.heap.size by omega)).trans ((setCell_past _ _ _ _ (show W.heap.size + 1 ≠ W.heap.size by omega)).trans br)))
  clear fx bx br rd BY RD
  go_wp2_with fail
  refine (CA.out _ R2.out.1).mono ?_
  rintro e w2 ⟨rfl,rd2⟩
  have R3:=Lib.hid (R2.out.trans rd2)
  have bx3:=(rd2.2.block _ (Array.getElem?_eq_some_iff.1 B2.out).1 (by omega)).trans B2.out
  have br3:=(rd2.2.block _ (Array.getElem?_eq_some_iff.1 E2.out).1 (by omega)).trans E2.out
  clear c0 c1 c2 c3 c4 c5 c6 c7 f0 f7
  obtain ⟨c0,c1,c2,c3,c4,c5,c6,c7,fx⟩:=xcells8 (x:=⟨25,wd,dst,src,base,disp,imm,n - 64⟩) bx3
  have f2:=fx 2
  have f3:=fx 3
  have B3:=Lib.hid br3
  obtain ⟨d0,d1,d2,d3,d4,d5,d6,d7,fr⟩:=xcells8 (x:=zX) br3
  have r0:=fr 0
  have r1:=fr 1
  have r2:=fr 2
  have r3:=fr 3
  have r4:=fr 4
  have r5:=fr 5
  have r6:=fr 6
  have r7:=fr 7
  simp only at c0 c1 c2 c3 c4 c5 c6 c7
  clear fx fr rd2 R2 B2 E2 bx3 br3 CA
  go_wp2_with fail
  exact bodyPost_ret (results_cell_row rfl _ _ (W.heap.size + 1) _ _ _ _ rfl (row8 (x:=zX) (y:=⟨25,wd,v1,v2,base,disp,imm,n - 64⟩) ((setCell_past _ _ _ _ (show W.heap.size + 1 ≠ W.heap.size by omega)).trans ((setCell_past _ _ _ _ (show W.heap.size + 1 ≠ W.heap.size by omega)).trans B3.out))) Tryd.underlying26 rfl (by kernel_rfl)) rfl ⟨rfl,Red.fresh8 HH.out (Red.fresh HH.out (Red.fresh HH.out R3.out (Nat.le_refl _) 2 (.int .i8 v1)) (Nat.le_refl _) 3 (.int .i8 v2)) (by omega) _ _ _ _ _ _ _ _⟩
set_option maxHeartbeats 2000000 in
theorem rbh_jcc (g:Nat) (a:Option Addr) (len c:Nat) (l:List Int) (s:Rdr) (x:Xi) (W:World) (h:RdAt g a len c l s W) (hr:0 ≤ s.r ∧ s.r ≤ 1) (hm:0 ≤ s.m ∧ s.m ≤ 1) (hn:128 ≤ byteV l s ∧ byteV l s < 144):
    Calls Tryd.prog 17 #[.pointer (some ⟨g,0,none⟩),.agg (xC x)] W fun e w'=>e=.returned (.agg (xC { x with op:=29,cc:=byteV l s - 128,imm:=sg32 (numA l (byteS l s) 4) })) ∧ Red g a len c l (numS l (byteS l s) 4) W w':=by
  have HH:=Lib.hid h
  have hg:=(Array.getElem?_eq_some_iff.1 h.blk).1
  have BY:=Lib.hid (fun w (h:RdAt g a len c l s w)=>rbyte_n g a len c l s w h)
  have CA:=Lib.hid (fun w (h:RdAt g a len c l (byteS l s) w)=>rnum_4 g a len c l (byteS l s) w h)
  generalize sg32 (numA l (byteS l s) 4)=v1 at *
  generalize numS l (byteS l s) 4=s2 at *
  clear h hr hm
  generalize byteS l s=s1 at *
  generalize byteV l s=n at *
  have t0:(n == 175)=false:=by simp;omega
  have t1:(n == 5)=false:=by simp;omega
  have t2:decide (64 ≤ n)=true:=by simp;omega
  have t3:decide (n < 80)=false:=by simp;omega
  have t4:decide (128 ≤ n)=true:=by simp;omega
  have t5:decide (n < 144)=true:=by simp;omega
  have t6:IntKind.i8.wrap (n - 128)=n - 128:=by simp only [IntKind.wrap,IntKind.signed,IntKind.bits];simp;omega
  obtain ⟨n0,n1⟩:=hn
  obtain ⟨op,wd,dst,src,base,disp,imm,cc⟩:=x
  go_enter Tryd.func17,Tryd.ntmps17
  go_wp2_with fail
  refine (BY.out _ (HH.out.below (two_alloc W _ _))).mono ?_
  rintro e w1 ⟨rfl,rd⟩
  have RD:=Lib.hid (show Red g a len c l s1 W w1 from ⟨rd.1,(Gx.of (two_alloc W _ _)).trans rd.2⟩)
  have bx:w1.heap[W.heap.size]?=some (.cells (xC ⟨op,wd,dst,src,base,disp,imm,cc⟩) 26 (0,0)):=(rd.2.block W.heap.size (two_sz W _ _).1 (by omega)).trans (heap_two W _ _)
  have br:w1.heap[W.heap.size + 1]?=some (.cells (xC zX) 26 (0,0)):=(rd.2.block (W.heap.size + 1) (two_sz W _ _).2 (by omega)).trans (heap_alloc2_new W _ _)
  obtain ⟨c0,c1,c2,c3,c4,c5,c6,c7,fx⟩:=xcells8 bx
  have f0:=fx 0
  have f7:=fx 7
  have R2:=Lib.hid (show Red g a len c l s1 W ((w1.setCell ⟨W.heap.size,0,none⟩ (.int .i8 (29))).setCell ⟨W.heap.size,7,none⟩ (.int .i8 (n - 128))) from (Red.fresh HH.out (Red.fresh HH.out RD.out (Nat.le_refl _) 0 (.int .i8 (29))) (Nat.le_refl _) 7 (.int .i8 (n - 128))))
  have B2:=Lib.hid (show ((w1.setCell ⟨W.heap.size,0,none⟩ (.int .i8 (29))).setCell ⟨W.heap.size,7,none⟩ (.int .i8 (n - 128))).heap[W.heap.size]?=some (.cells (xC ⟨29,wd,dst,src,base,disp,imm,n - 128⟩) 26 (0,0)) from (setCell_row (setCell_row bx 0 (.int .i8 (29))) 7 (.int .i8 (n - 128))))
  have E2:=Lib.hid (show ((w1.setCell ⟨W.heap.size,0,none⟩ (.int .i8 (29))).setCell ⟨W.heap.size,7,none⟩ (.int .i8 (n - 128))).heap[W.heap.size + 1]?=some (.cells (xC zX) 26 (0,0)) from ((setCell_past _ _ _ _ (show W.heap.size + 1 ≠ W.heap.size by omega)).trans ((setCell_past _ _ _ _ (show W.heap.size + 1 ≠ W.heap.size by omega)).trans br)))
  clear fx bx br rd BY RD
  go_wp2_with fail
  refine (CA.out _ R2.out.1).mono ?_
  rintro e w2 ⟨rfl,rd2⟩
  have R3:=Lib.hid (R2.out.trans rd2)
  have bx3:=(rd2.2.block _ (Array.getElem?_eq_some_iff.1 B2.out).1 (by omega)).trans B2.out
  have br3:=(rd2.2.block _ (Array.getElem?_eq_some_iff.1 E2.out).1 (by omega)).trans E2.out
  clear c0 c1 c2 c3 c4 c5 c6 c7 f0 f7
  obtain ⟨c0,c1,c2,c3,c4,c5,c6,c7,fx⟩:=xcells8 (x:=⟨29,wd,dst,src,base,disp,imm,n - 128⟩) bx3
  have f6:=fx 6
  have B3:=Lib.hid br3
  obtain ⟨d0,d1,d2,d3,d4,d5,d6,d7,fr⟩:=xcells8 (x:=zX) br3
  have r0:=fr 0
  have r1:=fr 1
  have r2:=fr 2
  have r3:=fr 3
  have r4:=fr 4
  have r5:=fr 5
  have r6:=fr 6
  have r7:=fr 7
  simp only at c0 c1 c2 c3 c4 c5 c6 c7
  clear fx fr rd2 R2 B2 E2 bx3 br3 CA
  go_wp2_with fail
  exact bodyPost_ret (results_cell_row rfl _ _ (W.heap.size + 1) _ _ _ _ rfl (row8 (x:=zX) (y:=⟨29,wd,dst,src,base,disp,v1,n - 128⟩) ((setCell_past _ _ _ _ (show W.heap.size + 1 ≠ W.heap.size by omega)).trans B3.out)) Tryd.underlying26 rfl (by kernel_rfl)) rfl ⟨rfl,Red.fresh8 HH.out (Red.fresh HH.out R3.out (Nat.le_refl _) 6 (.int .i64 v1)) (by omega) _ _ _ _ _ _ _ _⟩
set_option maxHeartbeats 2000000 in
theorem rbh_l8 (g:Nat) (a:Option Addr) (len c:Nat) (l:List Int) (s:Rdr) (x:Xi) (W:World) (h:RdAt g a len c l s W) (hr:0 ≤ s.r ∧ s.r ≤ 1) (hm:0 ≤ s.m ∧ s.m ≤ 1) (hn:byteV l s=182):
    Calls Tryd.prog 17 #[.pointer (some ⟨g,0,none⟩),.agg (xC x)] W fun e w'=>e=.returned (.agg (xC { x with op:=26,w:=8,dst:=(byteV l (byteS l s) / 8 % 8 + 8 * (byteS l s).r),base:=(byteV l (byteS l s) % 8 + 8 * (byteS l s).m),disp:=sg32 (numA l (mem2S l (byteS l s)) 4) })) ∧ Red g a len c l (numS l (mem2S l (byteS l s)) 4) W w':=by
  have HH:=Lib.hid h
  have hg:=(Array.getElem?_eq_some_iff.1 h.blk).1
  have BY:=Lib.hid (fun w (h:RdAt g a len c l s w)=>rbyte_n g a len c l s w h)
  obtain ⟨er,em,-⟩:=byteS_r l s
  rw [← er] at hr
  rw [← em] at hm
  have CA:=Lib.hid (fun w (h:RdAt g a len c l (byteS l s) w)=>rmem_n g a len c l (byteS l s) w h hr hm)
  clear er em
  generalize (byteV l (byteS l s) / 8 % 8 + 8 * (byteS l s).r)=v1 at *
  generalize (byteV l (byteS l s) % 8 + 8 * (byteS l s).m)=v2 at *
  generalize sg32 (numA l (mem2S l (byteS l s)) 4)=v3 at *
  generalize numS l (mem2S l (byteS l s)) 4=s2 at *
  clear h hr hm
  generalize byteS l s=s1 at *
  generalize byteV l s=n at *
  have t0:(n == 175)=false:=by simp;omega
  have t1:(n == 5)=false:=by simp;omega
  have t2:decide (64 ≤ n)=true:=by simp;omega
  have t3:decide (n < 80)=false:=by simp;omega
  have t4:decide (128 ≤ n)=true:=by simp;omega
  have t5:decide (n < 144)=false:=by simp;omega
  have t6:(n == 182)=true:=by simp;omega
  have t7:(n == 183)=false:=by simp;omega
  clear hn
  obtain ⟨op,wd,dst,src,base,disp,imm,cc⟩:=x
  go_enter Tryd.func17,Tryd.ntmps17
  go_wp2_with fail
  refine (BY.out _ (HH.out.below (two_alloc W _ _))).mono ?_
  rintro e w1 ⟨rfl,rd⟩
  have RD:=Lib.hid (show Red g a len c l s1 W w1 from ⟨rd.1,(Gx.of (two_alloc W _ _)).trans rd.2⟩)
  have bx:w1.heap[W.heap.size]?=some (.cells (xC ⟨op,wd,dst,src,base,disp,imm,cc⟩) 26 (0,0)):=(rd.2.block W.heap.size (two_sz W _ _).1 (by omega)).trans (heap_two W _ _)
  have br:w1.heap[W.heap.size + 1]?=some (.cells (xC zX) 26 (0,0)):=(rd.2.block (W.heap.size + 1) (two_sz W _ _).2 (by omega)).trans (heap_alloc2_new W _ _)
  obtain ⟨c0,c1,c2,c3,c4,c5,c6,c7,fx⟩:=xcells8 bx
  have f0:=fx 0
  have f1:=fx 1
  have R2:=Lib.hid (show Red g a len c l s1 W ((w1.setCell ⟨W.heap.size,0,none⟩ (.int .i8 (26))).setCell ⟨W.heap.size,1,none⟩ (.int .i8 (8))) from (Red.fresh HH.out (Red.fresh HH.out RD.out (Nat.le_refl _) 0 (.int .i8 (26))) (Nat.le_refl _) 1 (.int .i8 (8))))
  have B2:=Lib.hid (show ((w1.setCell ⟨W.heap.size,0,none⟩ (.int .i8 (26))).setCell ⟨W.heap.size,1,none⟩ (.int .i8 (8))).heap[W.heap.size]?=some (.cells (xC ⟨26,8,dst,src,base,disp,imm,cc⟩) 26 (0,0)) from (setCell_row (setCell_row bx 0 (.int .i8 (26))) 1 (.int .i8 (8))))
  have E2:=Lib.hid (show ((w1.setCell ⟨W.heap.size,0,none⟩ (.int .i8 (26))).setCell ⟨W.heap.size,1,none⟩ (.int .i8 (8))).heap[W.heap.size + 1]?=some (.cells (xC zX) 26 (0,0)) from ((setCell_past _ _ _ _ (show W.heap.size + 1 ≠ W.heap.size by omega)).trans ((setCell_past _ _ _ _ (show W.heap.size + 1 ≠ W.heap.size by omega)).trans br)))
  clear fx bx br rd BY RD
  go_wp2_with fail
  refine (CA.out _ R2.out.1).mono ?_
  rintro e w2 ⟨rfl,rd2⟩
  have R3:=Lib.hid (R2.out.trans rd2)
  have bx3:=(rd2.2.block _ (Array.getElem?_eq_some_iff.1 B2.out).1 (by omega)).trans B2.out
  have br3:=(rd2.2.block _ (Array.getElem?_eq_some_iff.1 E2.out).1 (by omega)).trans E2.out
  clear c0 c1 c2 c3 c4 c5 c6 c7 f0 f1
  obtain ⟨c0,c1,c2,c3,c4,c5,c6,c7,fx⟩:=xcells8 (x:=⟨26,8,dst,src,base,disp,imm,cc⟩) bx3
  have f2:=fx 2
  have f4:=fx 4
  have f5:=fx 5
  have B3:=Lib.hid br3
  obtain ⟨d0,d1,d2,d3,d4,d5,d6,d7,fr⟩:=xcells8 (x:=zX) br3
  have r0:=fr 0
  have r1:=fr 1
  have r2:=fr 2
  have r3:=fr 3
  have r4:=fr 4
  have r5:=fr 5
  have r6:=fr 6
  have r7:=fr 7
  simp only at c0 c1 c2 c3 c4 c5 c6 c7
  clear fx fr rd2 R2 B2 E2 bx3 br3 CA
  go_wp2_with fail
  exact bodyPost_ret (results_cell_row rfl _ _ (W.heap.size + 1) _ _ _ _ rfl (row8 (x:=zX) (y:=⟨26,8,v1,src,v2,v3,imm,cc⟩) ((setCell_past _ _ _ _ (show W.heap.size + 1 ≠ W.heap.size by omega)).trans ((setCell_past _ _ _ _ (show W.heap.size + 1 ≠ W.heap.size by omega)).trans ((setCell_past _ _ _ _ (show W.heap.size + 1 ≠ W.heap.size by omega)).trans B3.out)))) Tryd.underlying26 rfl (by kernel_rfl)) rfl ⟨rfl,Red.fresh8 HH.out (Red.fresh HH.out (Red.fresh HH.out (Red.fresh HH.out R3.out (Nat.le_refl _) 2 (.int .i8 v1)) (Nat.le_refl _) 4 (.int .i8 v2)) (Nat.le_refl _) 5 (.int .i64 v3)) (by omega) _ _ _ _ _ _ _ _⟩
set_option maxHeartbeats 2000000 in
theorem rbh_l16 (g:Nat) (a:Option Addr) (len c:Nat) (l:List Int) (s:Rdr) (x:Xi) (W:World) (h:RdAt g a len c l s W) (hr:0 ≤ s.r ∧ s.r ≤ 1) (hm:0 ≤ s.m ∧ s.m ≤ 1) (hn:byteV l s=183):
    Calls Tryd.prog 17 #[.pointer (some ⟨g,0,none⟩),.agg (xC x)] W fun e w'=>e=.returned (.agg (xC { x with op:=26,w:=16,dst:=(byteV l (byteS l s) / 8 % 8 + 8 * (byteS l s).r),base:=(byteV l (byteS l s) % 8 + 8 * (byteS l s).m),disp:=sg32 (numA l (mem2S l (byteS l s)) 4) })) ∧ Red g a len c l (numS l (mem2S l (byteS l s)) 4) W w':=by
  have HH:=Lib.hid h
  have hg:=(Array.getElem?_eq_some_iff.1 h.blk).1
  have BY:=Lib.hid (fun w (h:RdAt g a len c l s w)=>rbyte_n g a len c l s w h)
  obtain ⟨er,em,-⟩:=byteS_r l s
  rw [← er] at hr
  rw [← em] at hm
  have CA:=Lib.hid (fun w (h:RdAt g a len c l (byteS l s) w)=>rmem_n g a len c l (byteS l s) w h hr hm)
  clear er em
  generalize (byteV l (byteS l s) / 8 % 8 + 8 * (byteS l s).r)=v1 at *
  generalize (byteV l (byteS l s) % 8 + 8 * (byteS l s).m)=v2 at *
  generalize sg32 (numA l (mem2S l (byteS l s)) 4)=v3 at *
  generalize numS l (mem2S l (byteS l s)) 4=s2 at *
  clear h hr hm
  generalize byteS l s=s1 at *
  generalize byteV l s=n at *
  have t0:(n == 175)=false:=by simp;omega
  have t1:(n == 5)=false:=by simp;omega
  have t2:decide (64 ≤ n)=true:=by simp;omega
  have t3:decide (n < 80)=false:=by simp;omega
  have t4:decide (128 ≤ n)=true:=by simp;omega
  have t5:decide (n < 144)=false:=by simp;omega
  have t6:(n == 182)=false:=by simp;omega
  have t7:(n == 183)=true:=by simp;omega
  clear hn
  obtain ⟨op,wd,dst,src,base,disp,imm,cc⟩:=x
  go_enter Tryd.func17,Tryd.ntmps17
  go_wp2_with fail
  refine (BY.out _ (HH.out.below (two_alloc W _ _))).mono ?_
  rintro e w1 ⟨rfl,rd⟩
  have RD:=Lib.hid (show Red g a len c l s1 W w1 from ⟨rd.1,(Gx.of (two_alloc W _ _)).trans rd.2⟩)
  have bx:w1.heap[W.heap.size]?=some (.cells (xC ⟨op,wd,dst,src,base,disp,imm,cc⟩) 26 (0,0)):=(rd.2.block W.heap.size (two_sz W _ _).1 (by omega)).trans (heap_two W _ _)
  have br:w1.heap[W.heap.size + 1]?=some (.cells (xC zX) 26 (0,0)):=(rd.2.block (W.heap.size + 1) (two_sz W _ _).2 (by omega)).trans (heap_alloc2_new W _ _)
  obtain ⟨c0,c1,c2,c3,c4,c5,c6,c7,fx⟩:=xcells8 bx
  have f0:=fx 0
  have f1:=fx 1
  have R2:=Lib.hid (show Red g a len c l s1 W (((w1.setCell ⟨W.heap.size,0,none⟩ (.int .i8 (26))).setCell ⟨W.heap.size,1,none⟩ (.int .i8 (8))).setCell ⟨W.heap.size,1,none⟩ (.int .i8 (16))) from (Red.fresh HH.out (Red.fresh HH.out (Red.fresh HH.out RD.out (Nat.le_refl _) 0 (.int .i8 (26))) (Nat.le_refl _) 1 (.int .i8 (8))) (Nat.le_refl _) 1 (.int .i8 (16))))
  have B2:=Lib.hid (show (((w1.setCell ⟨W.heap.size,0,none⟩ (.int .i8 (26))).setCell ⟨W.heap.size,1,none⟩ (.int .i8 (8))).setCell ⟨W.heap.size,1,none⟩ (.int .i8 (16))).heap[W.heap.size]?=some (.cells (xC ⟨26,16,dst,src,base,disp,imm,cc⟩) 26 (0,0)) from (setCell_row (setCell_row (setCell_row bx 0 (.int .i8 (26))) 1 (.int .i8 (8))) 1 (.int .i8 (16))))
  have E2:=Lib.hid (show (((w1.setCell ⟨W.heap.size,0,none⟩ (.int .i8 (26))).setCell ⟨W.heap.size,1,none⟩ (.int .i8 (8))).setCell ⟨W.heap.size,1,none⟩ (.int .i8 (16))).heap[W.heap.size + 1]?=some (.cells (xC zX) 26 (0,0)) from ((setCell_past _ _ _ _ (show W.heap.size + 1 ≠ W.heap.size by omega)).trans ((setCell_past _ _ _ _ (show W.heap.size + 1 ≠ W.heap.size by omega)).trans ((setCell_past _ _ _ _ (show W.heap.size + 1 ≠ W.heap.size by omega)).trans br))))
  clear fx bx br rd BY RD
  go_wp2_with fail
  refine (CA.out _ R2.out.1).mono ?_
  rintro e w2 ⟨rfl,rd2⟩
  have R3:=Lib.hid (R2.out.trans rd2)
  have bx3:=(rd2.2.block _ (Array.getElem?_eq_some_iff.1 B2.out).1 (by omega)).trans B2.out
  have br3:=(rd2.2.block _ (Array.getElem?_eq_some_iff.1 E2.out).1 (by omega)).trans E2.out
  clear c0 c1 c2 c3 c4 c5 c6 c7 f0 f1
  obtain ⟨c0,c1,c2,c3,c4,c5,c6,c7,fx⟩:=xcells8 (x:=⟨26,16,dst,src,base,disp,imm,cc⟩) bx3
  have f2:=fx 2
  have f4:=fx 4
  have f5:=fx 5
  have B3:=Lib.hid br3
  obtain ⟨d0,d1,d2,d3,d4,d5,d6,d7,fr⟩:=xcells8 (x:=zX) br3
  have r0:=fr 0
  have r1:=fr 1
  have r2:=fr 2
  have r3:=fr 3
  have r4:=fr 4
  have r5:=fr 5
  have r6:=fr 6
  have r7:=fr 7
  simp only at c0 c1 c2 c3 c4 c5 c6 c7
  clear fx fr rd2 R2 B2 E2 bx3 br3 CA
  go_wp2_with fail
  exact bodyPost_ret (results_cell_row rfl _ _ (W.heap.size + 1) _ _ _ _ rfl (row8 (x:=zX) (y:=⟨26,16,v1,src,v2,v3,imm,cc⟩) ((setCell_past _ _ _ _ (show W.heap.size + 1 ≠ W.heap.size by omega)).trans ((setCell_past _ _ _ _ (show W.heap.size + 1 ≠ W.heap.size by omega)).trans ((setCell_past _ _ _ _ (show W.heap.size + 1 ≠ W.heap.size by omega)).trans B3.out)))) Tryd.underlying26 rfl (by kernel_rfl)) rfl ⟨rfl,Red.fresh8 HH.out (Red.fresh HH.out (Red.fresh HH.out (Red.fresh HH.out R3.out (Nat.le_refl _) 2 (.int .i8 v1)) (Nat.le_refl _) 4 (.int .i8 v2)) (Nat.le_refl _) 5 (.int .i64 v3)) (by omega) _ _ _ _ _ _ _ _⟩
set_option maxHeartbeats 4000000 in
theorem rbh_no (g:Nat) (a:Option Addr) (len c:Nat) (l:List Int) (s:Rdr) (x:Xi) (W:World) (h:RdAt g a len c l s W) (hn:byteV l s ≠ 175 ∧ byteV l s ≠ 5 ∧ ¬ (64 ≤ byteV l s ∧ byteV l s < 80) ∧ ¬ (128 ≤ byteV l s ∧ byteV l s < 144) ∧ byteV l s ≠ 182 ∧ byteV l s ≠ 183):
    Calls Tryd.prog 17 #[.pointer (some ⟨g,0,none⟩),.agg (xC x)] W fun e w'=>e=.returned (.agg (xC x)) ∧ Red g a len c l (byteS l s) W w':=by
  have HH:=Lib.hid h
  have hg:=(Array.getElem?_eq_some_iff.1 h.blk).1
  have BY:=Lib.hid (fun w (h:RdAt g a len c l s w)=>rbyte_n g a len c l s w h)
  clear h
  generalize byteS l s=s1 at *
  generalize byteV l s=n at *
  have t0:(n == 175)=false:=by simp;omega
  have t1:(n == 5)=false:=by simp;omega
  have t2:(n == 182)=false:=by simp;omega
  have t3:(n == 183)=false:=by simp;omega
  obtain ⟨b1,hb1⟩:∃ b,decide (64 ≤ n)=b:=⟨_,rfl⟩
  obtain ⟨b2,hb2⟩:∃ b,decide (n < 80)=b:=⟨_,rfl⟩
  obtain ⟨b3,hb3⟩:∃ b,decide (128 ≤ n)=b:=⟨_,rfl⟩
  obtain ⟨b4,hb4⟩:∃ b,decide (n < 144)=b:=⟨_,rfl⟩
  have j1:b1=false ∨ b2=false:=by
    rcases b1 <;> rcases b2 <;> simp at hb1 hb2 ⊢
    omega
  have j2:b3=false ∨ b4=false:=by
    rcases b3 <;> rcases b4 <;> simp at hb3 hb4 ⊢
    omega
  clear hn
  obtain ⟨op,wd,dst,src,base,disp,imm,cc⟩:=x
  rcases b1 <;> rcases b2 <;> rcases b3 <;> rcases b4 <;> simp only [Bool.true_eq_false,or_self] at j1 j2
  all_goals (
    go_enter Tryd.func17,Tryd.ntmps17
    go_wp2_with fail
    refine (BY.out _ (HH.out.below (two_alloc W _ _))).mono ?_
    rintro e w1 ⟨rfl,rd⟩
    have R2:=Lib.hid (show Red g a len c l s1 W w1 from ⟨rd.1,(Gx.of (two_alloc W _ _)).trans rd.2⟩)
    have bx:w1.heap[W.heap.size]?=some (.cells (xC ⟨op,wd,dst,src,base,disp,imm,cc⟩) 26 (0,0)):=(rd.2.block W.heap.size (two_sz W _ _).1 (by omega)).trans (heap_two W _ _)
    have br:w1.heap[W.heap.size + 1]?=some (.cells (xC zX) 26 (0,0)):=(rd.2.block (W.heap.size + 1) (two_sz W _ _).2 (by omega)).trans (heap_alloc2_new W _ _)
    have E2:=Lib.hid br
    obtain ⟨c0,c1,c2,c3,c4,c5,c6,c7,fx⟩:=xcells8 bx
    obtain ⟨d0,d1,d2,d3,d4,d5,d6,d7,fr⟩:=xcells8 (x:=zX) br
    have r0:=fr 0
    have r1:=fr 1
    have r2:=fr 2
    have r3:=fr 3
    have r4:=fr 4
    have r5:=fr 5
    have r6:=fr 6
    have r7:=fr 7
    simp only at c0 c1 c2 c3 c4 c5 c6 c7
    clear fx fr rd BY bx br
    go_wp2_with fail
    exact bodyPost_ret (results_cell_row rfl _ _ (W.heap.size + 1) _ _ _ _ rfl (row8 (x:=zX) (y:=⟨op,wd,dst,src,base,disp,imm,cc⟩) E2.out) Tryd.underlying26 rfl (by kernel_rfl)) rfl ⟨rfl,Red.fresh8 HH.out R2.out (by omega) _ _ _ _ _ _ _ _⟩)
def bhX (l:List Int) (s:Rdr) (x:Xi):Xi:=
  if byteV l s=175 then { x with op:=16,dst:=byteV l (byteS l s) / 8 % 8 + 8 * (byteS l s).r,src:=byteV l (byteS l s) % 8 + 8 * (byteS l s).m }
  else if byteV l s=5 then { x with op:=31,w:=0 }
  else if 64 ≤ byteV l s ∧ byteV l s < 80 then { x with op:=25,cc:=byteV l s - 64,dst:=byteV l (byteS l s) / 8 % 8 + 8 * (byteS l s).r,src:=byteV l (byteS l s) % 8 + 8 * (byteS l s).m }
  else if 128 ≤ byteV l s ∧ byteV l s < 144 then { x with op:=29,cc:=byteV l s - 128,imm:=sg32 (numA l (byteS l s) 4) }
  else if byteV l s=182 then { x with op:=26,w:=8,dst:=byteV l (byteS l s) / 8 % 8 + 8 * (byteS l s).r,base:=byteV l (byteS l s) % 8 + 8 * (byteS l s).m,disp:=sg32 (numA l (mem2S l (byteS l s)) 4) }
  else if byteV l s=183 then { x with op:=26,w:=16,dst:=byteV l (byteS l s) / 8 % 8 + 8 * (byteS l s).r,base:=byteV l (byteS l s) % 8 + 8 * (byteS l s).m,disp:=sg32 (numA l (mem2S l (byteS l s)) 4) }
  else x
def bhS (l:List Int) (s:Rdr):Rdr:=
  if byteV l s=175 then twoS l (byteS l s)
  else if byteV l s=5 then byteS l s
  else if 64 ≤ byteV l s ∧ byteV l s < 80 then twoS l (byteS l s)
  else if 128 ≤ byteV l s ∧ byteV l s < 144 then numS l (byteS l s) 4
  else if byteV l s=182 then numS l (mem2S l (byteS l s)) 4
  else if byteV l s=183 then numS l (mem2S l (byteS l s)) 4
  else byteS l s
theorem rbh_n (g:Nat) (a:Option Addr) (len c:Nat) (l:List Int) (s:Rdr) (x:Xi) (W:World) (h:RdAt g a len c l s W) (hr:0 ≤ s.r ∧ s.r ≤ 1) (hm:0 ≤ s.m ∧ s.m ≤ 1):
    Calls Tryd.prog 17 #[.pointer (some ⟨g,0,none⟩),.agg (xC x)] W fun e w'=>e=.returned (.agg (xC (bhX l s x))) ∧ Red g a len c l (bhS l s) W w':=by
  unfold bhX bhS
  by_cases h1:byteV l s=175
  · rw [if_pos h1,if_pos h1];exact rbh_mul g a len c l s x W h hr hm h1
  · rw [if_neg h1,if_neg h1]
    by_cases h2:byteV l s=5
    · rw [if_pos h2,if_pos h2];exact rbh_host g a len c l s x W h hr hm h2
    · rw [if_neg h2,if_neg h2]
      by_cases h3:64 ≤ byteV l s ∧ byteV l s < 80
      · rw [if_pos h3,if_pos h3];exact rbh_cmov g a len c l s x W h hr hm h3
      · rw [if_neg h3,if_neg h3]
        by_cases h4:128 ≤ byteV l s ∧ byteV l s < 144
        · rw [if_pos h4,if_pos h4];exact rbh_jcc g a len c l s x W h hr hm h4
        · rw [if_neg h4,if_neg h4]
          by_cases h5:byteV l s=182
          · rw [if_pos h5,if_pos h5];exact rbh_l8 g a len c l s x W h hr hm h5
          · rw [if_neg h5,if_neg h5]
            by_cases h6:byteV l s=183
            · rw [if_pos h6,if_pos h6];exact rbh_l16 g a len c l s x W h hr hm h6
            · rw [if_neg h6,if_neg h6];exact rbh_no g a len c l s x W h ⟨h1,h2,h3,h4,h5,h6⟩
end Go.Proofs.YtjhedldplmhmjaaDoor.Mrm
namespace Go.Proofs.YtjhedldplmhmjaaDoor.Mrm
open Go Go.RowKit
set_option linter.unusedVariables false
set_option linter.unusedSimpArgs false
set_option maxRecDepth 100000
def rd0:Rdr:=⟨0,false,false,0,0⟩
def rgD (l:List Int) (s:Rdr):Int:=byteV l s / 8 % 8 + 8 * s.r
def rgM (l:List Int) (s:Rdr):Int:=byteV l s % 8 + 8 * s.m
def memD (l:List Int) (s:Rdr):Int:=sg32 (numA l (mem2S l s) 4)
def memS (l:List Int) (s:Rdr):Rdr:=numS l (mem2S l s) 4
def twoOp (n:Int):Int:=if n=1 then 2 else if n=9 then 3 else if n=33 then 4 else if n=41 then 5 else if n=49 then 6 else if n=57 then 7 else 8
def grpR (l:List Int) (n:Int) (x:Xi) (s:Rdr):Xi × Rdr:=
  let op:=grpI n (byteV l s / 8 % 8)
  let x1:Xi:={ x with op:=op,dst:=rgM l s }
  let s1:=twoS l s
  if n=129 ∨ op=15 then ({ x1 with imm:=sg32 (numA l s1 4) },numS l s1 4)
  else if n=193 then ({ x1 with imm:=byteV l s1 },byteS l s1) else (x1,s1)
def codeR (l:List Int) (n:Int) (half:Bool) (x:Xi) (s:Rdr):Xi × Rdr:=
  if n=137 then
    (if s.pos < l.length ∧ byteV l s < 192 then ({ x with op:=27,src:=rgD l s,base:=rgM l s,disp:=memD l s,w:=if half then 16 else x.w },memS l s)
     else ({ x with op:=0,src:=rgD l s,dst:=rgM l s },twoS l s))
  else if n=1 ∨ n=9 ∨ n=33 ∨ n=41 ∨ n=49 ∨ n=57 ∨ n=133 then ({ x with op:=twoOp n,src:=rgD l s,dst:=rgM l s },twoS l s)
  else if n=129 ∨ n=193 ∨ n=211 ∨ n=247 then grpR l n x s
  else if n=199 then ({ x with op:=1,dst:=rgM l s,imm:=sg32 (numA l (twoS l s) 4) },numS l (twoS l s) 4)
  else if n=139 then ({ x with op:=26,dst:=rgD l s,base:=rgM l s,disp:=memD l s },memS l s)
  else if n=136 then ({ x with op:=27,w:=8,src:=rgD l s,base:=rgM l s,disp:=memD l s },memS l s)
  else if n=235 then ({ x with op:=28,w:=8,imm:=sg8 (numA l s 1) },numS l s 1)
  else if n=233 then ({ x with op:=28,imm:=sg32 (numA l s 4) },numS l s 4)
  else if n=195 then ({ x with op:=30,w:=0 },s)
  else if n=15 then (bhX l s x,bhS l s)
  else (rngX l s x n,rngS l s n)
def docR (l:List Int):Xi × Rdr:=codeR l (preV l rd0) (decide (byteV l rd0=102)) ⟨-1,if (preS l rd0).wide then 64 else 32,0,0,0,0,0,0⟩ (preS l rd0)
def docA (l:List Int):Option (Xi × Int):=
  let p:=docR l
  if p.2.bad=true ∨ mayX p.1=false then none
  else if bytesX p.1=l.take p.2.pos.toNat then some (p.1,p.2.pos) else none
end Go.Proofs.YtjhedldplmhmjaaDoor.Mrm
namespace Go.Proofs.YtjhedldplmhmjaaDoor.Mrm
open Go Go.RowKit
set_option linter.unusedVariables false
set_option linter.unusedSimpArgs false
set_option linter.unnecessarySimpa false
set_option maxRecDepth 100000
structure Cd where
  sh:Int
  wd:Int
  va:Int
  dg:Int
  lo:Int
deriving DecidableEq
structure Pt where
  reg:Int
  rm:Int
  disp:Int
  imm:Int
  cc:Int
deriving DecidableEq
def zCd:Cd:=⟨0,0,0,0,0⟩
def codesL:List Cd:=[⟨1,96,137,0,0⟩,⟨3,64,199,0,0⟩,⟨1,96,1,0,0⟩,⟨1,96,9,0,0⟩,⟨1,96,33,0,0⟩,⟨1,96,41,0,0⟩,⟨1,96,49,0,0⟩,⟨1,96,57,0,0⟩,⟨1,96,133,0,0⟩,⟨3,96,129,0,0⟩,⟨3,96,129,1,0⟩,⟨3,96,129,4,0⟩,⟨3,96,129,5,0⟩,⟨3,96,129,6,0⟩,⟨3,96,129,7,0⟩,⟨3,96,247,0,0⟩,⟨2,96,4015,0,0⟩,⟨4,96,193,4,0⟩,⟨4,96,193,5,0⟩,⟨4,96,193,7,0⟩,⟨5,96,211,4,0⟩,⟨5,96,211,5,0⟩,⟨5,96,211,7,0⟩,⟨5,96,247,3,0⟩,⟨5,96,247,6,0⟩,⟨2,96,3904,0,15⟩,⟨7,96,139,0,0⟩,⟨8,112,137,0,0⟩,⟨9,32,233,0,0⟩,⟨9,32,3968,0,15⟩,⟨0,0,195,0,0⟩,⟨0,0,3845,0,0⟩]
def othersL:List (Int × Cd):=[(1,⟨6,32,184,0,7⟩),(26,⟨7,8,4022,0,0⟩),(26,⟨7,16,4023,0,0⟩),(27,⟨8,8,136,0,0⟩),(28,⟨10,8,235,0,0⟩),(29,⟨10,8,112,0,15⟩)]
def codeA (op:Int):Cd:=codesL.getD op.toNat zCd
def hasB (c:Cd) (w:Int):Bool:=bif c.wd == 0 then w == 0 else (widB w && (bits .and .i8 c.wd w != 0))
def ofO:Option (Int × Cd) → Cd × Bool
  | some o=>(o.2,true)
  | none=>(zCd,false)
def codeOfP (op w:Int):Cd × Bool:=
  if op < 0 ∨ 32 ≤ op then (zCd,false) else
  if hasB (codeA op) w then (codeA op,true) else
  ofO (othersL.find? (fun o=>o.1 == op && hasB o.2 w))
def partsP (x:Xi) (c:Cd):Pt:=
  bif c.sh == 1 then ⟨x.src,x.dst,x.disp,x.imm,x.cc⟩ else
  bif c.sh == 2 then ⟨x.dst,x.src,x.disp,x.imm,x.cc⟩ else
  bif c.sh == 3 then ⟨c.dg,x.dst,x.disp,x.imm,x.cc⟩ else
  bif c.sh == 4 then ⟨c.dg,x.dst,x.disp,x.imm,x.cc⟩ else
  bif c.sh == 5 then ⟨c.dg,x.dst,x.disp,x.imm,x.cc⟩ else
  bif c.sh == 6 then ⟨c.dg,x.dst,x.disp,x.imm,x.cc⟩ else
  bif c.sh == 7 then ⟨x.dst,x.base,x.disp,x.imm,x.cc⟩ else
  bif c.sh == 8 then ⟨x.src,x.base,x.disp,x.imm,x.cc⟩ else ⟨0,0,x.disp,x.imm,x.cc⟩
def fillCc (c:Cd) (p:Pt):Int:=bif c.lo == 15 then p.cc else 0
def filledP (op w:Int) (c:Cd) (p:Pt):Xi:=
  bif c.sh == 1 then ⟨op,w,p.rm,p.reg,0,0,0,fillCc c p⟩ else
  bif c.sh == 2 then ⟨op,w,p.reg,p.rm,0,0,0,fillCc c p⟩ else
  bif c.sh == 3 then ⟨op,w,p.rm,0,0,0,p.imm,fillCc c p⟩ else
  bif c.sh == 4 then ⟨op,w,p.rm,0,0,0,p.imm,fillCc c p⟩ else
  bif c.sh == 6 then ⟨op,w,p.rm,0,0,0,p.imm,fillCc c p⟩ else
  bif c.sh == 5 then ⟨op,w,p.rm,0,0,0,0,fillCc c p⟩ else
  bif c.sh == 7 then ⟨op,w,p.reg,0,p.rm,p.disp,0,fillCc c p⟩ else
  bif c.sh == 8 then ⟨op,w,0,p.reg,p.rm,p.disp,0,fillCc c p⟩ else
  bif c.sh == 9 then ⟨op,w,0,0,0,0,p.imm,fillCc c p⟩ else
  bif c.sh == 10 then ⟨op,w,0,0,0,0,p.imm,fillCc c p⟩ else ⟨op,w,0,0,0,0,0,fillCc c p⟩
def fitsP (x:Xi) (c:Cd):Bool:=
  regB x.dst && (regB x.src && (regB x.base && (!(c.lo == 15 && !(ccB x.cc)) &&
  (bif c.sh == 4 then (decide (0 ≤ x.imm) && decide (x.imm < x.w)) else bif c.sh == 10 then oneB x.imm else (fourB x.imm && fourB x.disp)))))
def mayP (x:Xi):Bool:=(codeOfP x.op x.w).2 && (eqX x (filledP x.op x.w (codeOfP x.op x.w).1 (partsP x (codeOfP x.op x.w).1)) && fitsP x (codeOfP x.op x.w).1)
def valP (c:Cd) (p:Pt):Int:=bif c.lo == 15 then c.va + p.cc else bif c.sh == 6 then c.va + p.rm % 8 else c.va
def halfP (w:Int) (c:Cd):Bool:=c.sh == 8 && w == 16
def rexP (w:Int) (c:Cd) (p:Pt):Bool:=(c.sh == 8 && w == 8) || (w == 64 || needB p.reg p.rm)
def aheadP (w:Int) (c:Cd) (p:Pt):List Int:=
  (bif halfP w c then [102] else []) ++ ((bif rexP w c p then [rexI (w == 64) p.reg p.rm] else []) ++ ((bif valP c p / 256 % 256 != 0 then [valP c p / 256 % 256] else []) ++ [valP c p % 256]))
def inMemB (s:Int):Bool:=s == 7 || s == 8
def inOpB (s:Int):Bool:=s == 1 || (s == 2 || (s == 3 || (s == 4 || (s == 5 || (s == 7 || s == 8)))))
def immN (s:Int):Int:=bif (s == 3 || (s == 6 || s == 9)) then 4 else bif (s == 4 || s == 10) then 1 else 0
def operandP (c:Cd) (p:Pt):List Int:=bif inMemB c.sh then memL p.reg p.rm p.disp else bif inOpB c.sh then regL p.reg p.rm else []
def immP (c:Cd) (p:Pt):List Int:=numL p.imm (immN c.sh).toNat
def encP (w:Int) (c:Cd) (p:Pt):List Int:=(aheadP w c p ++ operandP c p) ++ immP c p
def encX (x:Xi):List Int:=encP x.w (codeOfP x.op x.w).1 (partsP x (codeOfP x.op x.w).1)
end Go.Proofs.YtjhedldplmhmjaaDoor.Mrm
