import Derived.Test.YtbpehbeakhocnaaGreatDoorIRm38
set_option maxHeartbeats 4000000
set_option linter.unusedVariables false
set_option linter.unusedSimpArgs false
set_option linter.unnecessarySimpa false
namespace Go.Proofs.YtbpehbeakhocnaaGreatDoor.Irn
open Go Go.RowKit
open Mrm (Xi xC xL zX eqX mayX readsX writesX XOk heap_below)
open Flg (Fl fC zF mayC holF)
open Exe
set_option maxRecDepth 100000
theorem faIrC40_2_0 (g:Nat) (w:World):(Instr.fieldAt 40 (.pointer (some ⟨g,0,none⟩)) 2).run Tryz.prog w=.ok (.pointer (some ⟨g,9,none⟩)) w:=by simp [go_sem]
theorem faIrC40_3_0 (g:Nat) (w:World):(Instr.fieldAt 40 (.pointer (some ⟨g,0,none⟩)) 3).run Tryz.prog w=.ok (.pointer (some ⟨g,10,none⟩)) w:=by simp [go_sem]
theorem faIrC40_1_0 (g:Nat) (w:World):(Instr.fieldAt 40 (.pointer (some ⟨g,0,none⟩)) 1).run Tryz.prog w=.ok (.pointer (some ⟨g,1,none⟩)) w:=by simp [go_sem]
theorem faIrC40_4_0 (g:Nat) (w:World):(Instr.fieldAt 40 (.pointer (some ⟨g,0,none⟩)) 4).run Tryz.prog w=.ok (.pointer (some ⟨g,11,none⟩)) w:=by simp [go_sem]
theorem faIrC38_7_1 (g:Nat) (w:World):(Instr.fieldAt 38 (.pointer (some ⟨g,1,none⟩)) 7).run Tryz.prog w=.ok (.pointer (some ⟨g,8,none⟩)) w:=by simp [go_sem]
theorem faIrC40_5_0 (g:Nat) (w:World):(Instr.fieldAt 40 (.pointer (some ⟨g,0,none⟩)) 5).run Tryz.prog w=.ok (.pointer (some ⟨g,12,none⟩)) w:=by simp [go_sem]
theorem faIrC40_0_0 (g:Nat) (w:World):(Instr.fieldAt 40 (.pointer (some ⟨g,0,none⟩)) 0).run Tryz.prog w=.ok (.pointer (some ⟨g,0,none⟩)) w:=by simp [go_sem]
theorem kind_1 (i:Ii) (W:World) (hT:Tb W):Calls Tryz.prog 52 #[.agg (iC i)] W fun e w'=>e=.returned (.tuple #[.agg (iC ⟨0,zX,i.r,i.p,0,0⟩),.bool (srcB i.r && scrB i.p)]) ∧ Below W.heap.size W w':=by
  refine calls_abs Tryz.func52 rfl (Nat.le_of_ble_eq_true rfl) ?_
  intro a0 d0 z0 h0
  replace z0:a0.tmps.size=17:=z0
  have s0_0:a0.tmps.getD 0 undef=.agg (iC i):=h0 0 (Nat.le_of_ble_eq_true rfl)
  refine wp_seq ?_
  refine go_reg [] [⟨0,1,40,(iC i),none,#[]⟩,⟨1,2,40,(iC zI),none,#[]⟩] [none,none,oF] mo d0 z0 (Below.refl _ _) (by kernel_rfl) trivial (
   hk (fun cx=>cx.al (wn rfl) 0 rfl (ex_box rfl (cx.rq 0 s0_0) rfl) rfl rfl rfl rfl rfl trivial) <|
   hk (fun cx=>cx.al (wn rfl) 1 rfl (al_i rfl) rfl rfl rfl rfl rfl trivial) <|
   hk (fun cx=>cx.q (ex_as rfl rfl)) <|
   hn) ?_
  intro a1 w1 f1
  obtain ⟨g1,u_g1,q_g1,b_g1⟩:=f1.al.1
  obtain ⟨g2,u_g2,q_g2,b_g2⟩:=f1.al.2.1
  refine wp_seq ?_
  cases fk1:srcB i.r
  case false=>
   have Ffk1:=Lib.hid fk1;clear fk1
   refine go_reg [bx g1 40 (iC i),⟨g2,40,(iC zI),some 13,(iC ⟨0,zX,i.r,i.p,0,0⟩)⟩] [] [some (pt g1 9),some (.int .i8 i.r),some (pt g1 10),some (.int .i8 i.p),some (.agg (iC ⟨0,zX,i.r,i.p,0,0⟩)),some (pt g1 9),some (.int .i8 i.r),oF,oF,oU,oU,oU,oF,none,oF] mo f1.d f1.z f1.b (by kernel_rfl) ⟨b_g1,b_g2,trivial⟩ (
    hk (fun cx=>cx.q (ex_fa rfl (cx.rq 1 u_g1) (faIrC40_2_0 _ _))) <|
    hk (fun cx=>cx.q (ex_ld rfl (cx.u 0 rfl) (cx.rn 0 rfl) rfl Tryz.isAgg36)) <|
    hk (fun cx=>cx.q (ex_fa rfl (cx.rq 1 u_g1) (faIrC40_3_0 _ _))) <|
    hk (fun cx=>cx.q (ex_ld rfl (cx.u 0 rfl) (cx.rn 0 rfl) rfl Tryz.isAgg36)) <|
    hk (fun cx=>cx.q (exec_build rfl (parts2 (cx.u 0 rfl) (cx.u 1 rfl)) (by kernel_rfl))) <|
    hk (fun cx=>cx.q (ex_fa rfl (cx.rq 1 u_g1) (faIrC40_2_0 _ _))) <|
    hk (fun cx=>cx.q (ex_ld rfl (cx.u 0 rfl) (cx.rn 0 rfl) rfl Tryz.isAgg36)) <|
    hc (fun _ _ wx cx=>cx.c rfl (args1 (cx.u 0 rfl)) Tryz.func53 (by decide +kernel) (source_n i.r wx) rfl (congrArg Value.bool Ffk1.out)) <|
    kmu 0 <|
    kno 0 <|
    kno 1 <|
    kno 1 <|
    hk (fun cx=>cx.q (ex_pf rfl (cx.u 0 rfl) rfl)) <|
    hk (fun cx=>cx.stR (wn rfl) rfl rfl 1 rfl (cx.rq 2 u_g2) (cx.u 0 rfl) (by kernel_rfl) (Eq.refl 13) (by simp [Value.oneCell']) q_g2 rfl ⟨(ne_ptr (pairAt f1.ps 0 1 (by decide) rfl rfl) u_g1 u_g2),trivial⟩ trivial) <|
    kmu 0 <|
    hn) ?_
   intro a2 w2 f2
   refine wp_ret ?_
   have s2_1:=f2.q 2 u_g2
   try simp only [Exit.inBlock,Exit.then]
   refine bodyPost_ret (res_ct (fn:=Tryz.f52) rfl s2_1 (load_row 40 f2.rows.2.1 Tryz.underlying40 rfl (by kernel_rfl)) (f2.v 14 rfl rfl rfl)) f2.d ?_
   exact ⟨rfl,f2.b⟩
  have Ffk1:=Lib.hid fk1;clear fk1
  refine go_reg [bx g1 40 (iC i),⟨g2,40,(iC zI),some 13,(iC ⟨0,zX,i.r,i.p,0,0⟩)⟩] [] [some (pt g1 9),some (.int .i8 i.r),some (pt g1 10),some (.int .i8 i.p),some (.agg (iC ⟨0,zX,i.r,i.p,0,0⟩)),some (pt g1 9),some (.int .i8 i.r),oT,oT,some (pt g1 10),some (.int .i8 i.p),some (.bool (scrB i.p)),some (.bool (scrB i.p)),none,some (.bool (scrB i.p))] mo f1.d f1.z f1.b (by kernel_rfl) ⟨b_g1,b_g2,trivial⟩ (
   hk (fun cx=>cx.q (ex_fa rfl (cx.rq 1 u_g1) (faIrC40_2_0 _ _))) <|
   hk (fun cx=>cx.q (ex_ld rfl (cx.u 0 rfl) (cx.rn 0 rfl) rfl Tryz.isAgg36)) <|
   hk (fun cx=>cx.q (ex_fa rfl (cx.rq 1 u_g1) (faIrC40_3_0 _ _))) <|
   hk (fun cx=>cx.q (ex_ld rfl (cx.u 0 rfl) (cx.rn 0 rfl) rfl Tryz.isAgg36)) <|
   hk (fun cx=>cx.q (exec_build rfl (parts2 (cx.u 0 rfl) (cx.u 1 rfl)) (by kernel_rfl))) <|
   hk (fun cx=>cx.q (ex_fa rfl (cx.rq 1 u_g1) (faIrC40_2_0 _ _))) <|
   hk (fun cx=>cx.q (ex_ld rfl (cx.u 0 rfl) (cx.rn 0 rfl) rfl Tryz.isAgg36)) <|
   hc (fun _ _ wx cx=>cx.c rfl (args1 (cx.u 0 rfl)) Tryz.func53 (by decide +kernel) (source_n i.r wx) rfl (congrArg Value.bool Ffk1.out)) <|
   kmu 0 <|
   hk (fun cx=>cx.vy 0 (ex_fa rfl (cx.rq 1 u_g1) (faIrC40_3_0 _ _))) <|
   hk (fun cx=>cx.vy 1 (ex_ld rfl (cx.u 0 rfl) (cx.rn 0 rfl) rfl Tryz.isAgg36)) <|
   hc (fun _ _ wx cx=>cx.call (cx.wy rfl rfl rfl rfl (cx.u 1 rfl)) rfl rfl (args1 (cx.u 0 rfl)) Tryz.func54 (by decide +kernel) rfl (((scratch_n i.p wx (hT.below cx.S.1.1 (Nat.le_refl _))).mono (by rintro e w' ⟨rfl,rfl⟩;exact ⟨rfl,Below.refl _ _⟩))) rfl rfl rfl rfl) <|
   hk (fun cx=>cx.q (ex_pt rfl (cx.u 0 rfl) (cx.u 1 rfl))) <|
   hk (fun cx=>cx.stR (wn rfl) rfl rfl 1 rfl (cx.rq 2 u_g2) (cx.u 0 rfl) (by kernel_rfl) (Eq.refl 13) (by simp [Value.oneCell']) q_g2 rfl ⟨(ne_ptr (pairAt f1.ps 0 1 (by decide) rfl rfl) u_g1 u_g2),trivial⟩ trivial) <|
   kmu 0 <|
   hn) ?_
  intro a3 w3 f3
  refine wp_ret ?_
  have s2_2:=f3.q 2 u_g2
  try simp only [Exit.inBlock,Exit.then]
  refine bodyPost_ret (res_ct (fn:=Tryz.f52) rfl s2_2 (load_row 40 f3.rows.2.1 Tryz.underlying40 rfl (by kernel_rfl)) (f3.v 14 rfl rfl rfl)) f3.d ?_
  exact ⟨rfl,f3.b⟩
theorem kind_2 (i:Ii) (W:World) (hT:Tb W) (hX:XOk i.x):Calls Tryz.prog 55 #[.agg (iC i)] W fun e w'=>e=.returned (.tuple #[.agg (iC ⟨0,i.x,0,0,0,0⟩),.bool (cmpX i.x)]) ∧ Below W.heap.size W w':=by
  refine calls_abs Tryz.func55 rfl (Nat.le_of_ble_eq_true rfl) ?_
  intro a0 d0 z0 h0
  replace z0:a0.tmps.size=10:=z0
  have s0_0:a0.tmps.getD 0 undef=.agg (iC i):=h0 0 (Nat.le_of_ble_eq_true rfl)
  refine wp_seq ?_
  refine go_reg [] [⟨0,1,40,(iC i),none,#[]⟩,⟨1,2,40,(iC zI),none,#[]⟩] [none,none,oF] mo d0 z0 (Below.refl _ _) (by kernel_rfl) trivial (
   hk (fun cx=>cx.al (wn rfl) 0 rfl (ex_box rfl (cx.rq 0 s0_0) rfl) rfl rfl rfl rfl rfl trivial) <|
   hk (fun cx=>cx.al (wn rfl) 1 rfl (al_i rfl) rfl rfl rfl rfl rfl trivial) <|
   hk (fun cx=>cx.q (ex_as rfl rfl)) <|
   hn) ?_
  intro a1 w1 f1
  obtain ⟨g1,u_g1,q_g1,b_g1⟩:=f1.al.1
  obtain ⟨g2,u_g2,q_g2,b_g2⟩:=f1.al.2.1
  refine wp_seq ?_
  refine go_reg [bx g1 40 (iC i),⟨g2,40,(iC zI),some 6,(iC ⟨0,i.x,0,0,0,0⟩)⟩] [] [some (pt g1 1),some (.agg (xC i.x)),some (.agg (iC ⟨0,i.x,0,0,0,0⟩)),some (pt g1 1),some (.agg (xC i.x)),some (.bool (cmpX i.x)),none,some (.bool (cmpX i.x))] mo f1.d f1.z f1.b (by kernel_rfl) ⟨b_g1,b_g2,trivial⟩ (
   hk (fun cx=>cx.q (ex_fa rfl (cx.rq 1 u_g1) (faIrC40_1_0 _ _))) <|
   hk (fun cx=>cx.q (exec_loadR 38 _ rfl g1 1 (cx.u 0 rfl) (cx.rn 0 rfl) [.int .i8 i.x.op,.int .i8 i.x.w,.int .i8 i.x.dst,.int .i8 i.x.src,.int .i8 i.x.base,.int .i64 i.x.disp,.int .i64 i.x.imm,.int .i8 i.x.cc] rfl _ Tryz.underlying38 rfl (by kernel_rfl))) <|
   hk (fun cx=>cx.q (exec_build rfl (parts1 (cx.u 0 rfl)) (by kernel_rfl))) <|
   hk (fun cx=>cx.q (ex_fa rfl (cx.rq 1 u_g1) (faIrC40_1_0 _ _))) <|
   hk (fun cx=>cx.q (exec_loadR 38 _ rfl g1 1 (cx.u 0 rfl) (cx.rn 0 rfl) [.int .i8 i.x.op,.int .i8 i.x.w,.int .i8 i.x.dst,.int .i8 i.x.src,.int .i8 i.x.base,.int .i64 i.x.disp,.int .i64 i.x.imm,.int .i8 i.x.cc] rfl _ Tryz.underlying38 rfl (by kernel_rfl))) <|
   hc (fun _ _ wx cx=>cx.c rfl (args1 (cx.u 0 rfl)) Tryz.func56 (by decide +kernel) (computes_n i.x wx hX (hT.below cx.S.1.1 (Nat.le_refl _))) rfl rfl) <|
   hk (fun cx=>cx.stR (wn rfl) rfl rfl 1 rfl (cx.rq 2 u_g2) (cx.u 0 rfl) (by kernel_rfl) (Eq.refl 13) (by simp [Value.oneCell']) q_g2 rfl ⟨(ne_ptr (pairAt f1.ps 0 1 (by decide) rfl rfl) u_g1 u_g2),trivial⟩ trivial) <|
   kmu 0 <|
   hn) ?_
  intro a2 w2 f2
  refine wp_ret ?_
  have s2_1:=f2.q 2 u_g2
  try simp only [Exit.inBlock,Exit.then]
  refine bodyPost_ret (res_ct (fn:=Tryz.f55) rfl s2_1 (load_row 40 f2.rows.2.1 Tryz.underlying40 rfl (by kernel_rfl)) (f2.v 7 rfl rfl rfl)) f2.d ?_
  exact ⟨rfl,f2.b⟩
theorem kind_3 (i:Ii) (W:World):Calls Tryz.prog 57 #[.agg (iC i)] W fun e w'=>e=.returned (.tuple #[.agg (iC ⟨0,zX,0,0,i.n,0⟩),.bool (decide (0 ≤ i.n) && decide (i.n < 16))]) ∧ Below W.heap.size W w':=by
  refine calls_abs Tryz.func57 rfl (Nat.le_of_ble_eq_true rfl) ?_
  intro a0 d0 z0 h0
  replace z0:a0.tmps.size=15:=z0
  have s0_0:a0.tmps.getD 0 undef=.agg (iC i):=h0 0 (Nat.le_of_ble_eq_true rfl)
  refine wp_seq ?_
  refine go_reg [] [⟨0,1,40,(iC i),none,#[]⟩,⟨1,2,40,(iC zI),none,#[]⟩] [none,none,oF] mo d0 z0 (Below.refl _ _) (by kernel_rfl) trivial (
   hk (fun cx=>cx.al (wn rfl) 0 rfl (ex_box rfl (cx.rq 0 s0_0) rfl) rfl rfl rfl rfl rfl trivial) <|
   hk (fun cx=>cx.al (wn rfl) 1 rfl (al_i rfl) rfl rfl rfl rfl rfl trivial) <|
   hk (fun cx=>cx.q (ex_as rfl rfl)) <|
   hn) ?_
  intro a1 w1 f1
  obtain ⟨g1,u_g1,q_g1,b_g1⟩:=f1.al.1
  obtain ⟨g2,u_g2,q_g2,b_g2⟩:=f1.al.2.1
  refine wp_seq ?_
  cases fk1:decide (0 ≤ i.n)
  case false=>
   have Ffk1:=Lib.hid fk1;clear fk1
   refine go_reg [bx g1 40 (iC i),⟨g2,40,(iC zI),some 11,(iC ⟨0,zX,0,0,i.n,0⟩)⟩] [] [some (pt g1 11),some (.int .i64 i.n),some (.agg (iC ⟨0,zX,0,0,i.n,0⟩)),some (pt g1 11),some (.int .i64 i.n),oF,oF,oU,oU,oU,oF,none,oF] mo f1.d f1.z f1.b (by kernel_rfl) ⟨b_g1,b_g2,trivial⟩ (
    hk (fun cx=>cx.q (ex_fa rfl (cx.rq 1 u_g1) (faIrC40_4_0 _ _))) <|
    hk (fun cx=>cx.q (ex_ld rfl (cx.u 0 rfl) (cx.rn 0 rfl) rfl Tryz.isAgg3)) <|
    hk (fun cx=>cx.q (exec_build rfl (parts1 (cx.u 0 rfl)) (by kernel_rfl))) <|
    hk (fun cx=>cx.q (ex_fa rfl (cx.rq 1 u_g1) (faIrC40_4_0 _ _))) <|
    hk (fun cx=>cx.q (ex_ld rfl (cx.u 0 rfl) (cx.rn 0 rfl) rfl Tryz.isAgg3)) <|
    hk (fun cx=>cx.v (ex_ge (x:=.tmp 8) rfl (cx.u 0 rfl) rfl) rfl (congrArg Value.bool Ffk1.out)) <|
    kmu 0 <|
    kno 0 <|
    kno 1 <|
    kno 1 <|
    hk (fun cx=>cx.q (ex_pf rfl (cx.u 0 rfl) rfl)) <|
    hk (fun cx=>cx.stR (wn rfl) rfl rfl 1 rfl (cx.rq 2 u_g2) (cx.u 0 rfl) (by kernel_rfl) (Eq.refl 13) (by simp [Value.oneCell']) q_g2 rfl ⟨(ne_ptr (pairAt f1.ps 0 1 (by decide) rfl rfl) u_g1 u_g2),trivial⟩ trivial) <|
    kmu 0 <|
    hn) ?_
   intro a2 w2 f2
   refine wp_ret ?_
   have s2_1:=f2.q 2 u_g2
   try simp only [Exit.inBlock,Exit.then]
   refine bodyPost_ret (res_ct (fn:=Tryz.f57) rfl s2_1 (load_row 40 f2.rows.2.1 Tryz.underlying40 rfl (by kernel_rfl)) (f2.v 12 rfl rfl rfl)) f2.d ?_
   exact ⟨rfl,f2.b⟩
  have Ffk1:=Lib.hid fk1;clear fk1
  refine go_reg [bx g1 40 (iC i),⟨g2,40,(iC zI),some 11,(iC ⟨0,zX,0,0,i.n,0⟩)⟩] [] [some (pt g1 11),some (.int .i64 i.n),some (.agg (iC ⟨0,zX,0,0,i.n,0⟩)),some (pt g1 11),some (.int .i64 i.n),oT,oT,some (pt g1 11),some (.int .i64 i.n),some (.bool (decide (i.n < 16))),some (.bool (decide (i.n < 16))),none,some (.bool (decide (i.n < 16)))] mo f1.d f1.z f1.b (by kernel_rfl) ⟨b_g1,b_g2,trivial⟩ (
   hk (fun cx=>cx.q (ex_fa rfl (cx.rq 1 u_g1) (faIrC40_4_0 _ _))) <|
   hk (fun cx=>cx.q (ex_ld rfl (cx.u 0 rfl) (cx.rn 0 rfl) rfl Tryz.isAgg3)) <|
   hk (fun cx=>cx.q (exec_build rfl (parts1 (cx.u 0 rfl)) (by kernel_rfl))) <|
   hk (fun cx=>cx.q (ex_fa rfl (cx.rq 1 u_g1) (faIrC40_4_0 _ _))) <|
   hk (fun cx=>cx.q (ex_ld rfl (cx.u 0 rfl) (cx.rn 0 rfl) rfl Tryz.isAgg3)) <|
   hk (fun cx=>cx.v (ex_ge (x:=.tmp 8) rfl (cx.u 0 rfl) rfl) rfl (congrArg Value.bool Ffk1.out)) <|
   kmu 0 <|
   hk (fun cx=>cx.vy 0 (ex_fa rfl (cx.rq 1 u_g1) (faIrC40_4_0 _ _))) <|
   hk (fun cx=>cx.vy 1 (ex_ld rfl (cx.u 0 rfl) (cx.rn 0 rfl) rfl Tryz.isAgg3)) <|
   hk (fun cx=>cx.vy 1 (ex_lt (x:=.tmp 12) rfl (cx.u 0 rfl) rfl)) <|
   hk (fun cx=>cx.q (ex_pt rfl (cx.u 0 rfl) (cx.u 1 rfl))) <|
   hk (fun cx=>cx.stR (wn rfl) rfl rfl 1 rfl (cx.rq 2 u_g2) (cx.u 0 rfl) (by kernel_rfl) (Eq.refl 13) (by simp [Value.oneCell']) q_g2 rfl ⟨(ne_ptr (pairAt f1.ps 0 1 (by decide) rfl rfl) u_g1 u_g2),trivial⟩ trivial) <|
   kmu 0 <|
   hn) ?_
  intro a3 w3 f3
  refine wp_ret ?_
  have s2_2:=f3.q 2 u_g2
  try simp only [Exit.inBlock,Exit.then]
  refine bodyPost_ret (res_ct (fn:=Tryz.f57) rfl s2_2 (load_row 40 f3.rows.2.1 Tryz.underlying40 rfl (by kernel_rfl)) (f3.v 12 rfl rfl rfl)) f3.d ?_
  exact ⟨rfl,f3.b⟩
theorem kind_4 (i:Ii) (W:World) (h127:i.x.cc ≤ 127):Calls Tryz.prog 58 #[.agg (iC i)] W fun e w'=>e=.returned (.tuple #[.agg (iC ⟨0,⟨29,0,0,0,0,0,0,i.x.cc⟩,0,0,0,i.t⟩),.bool (mayC i.x.cc && blkB i.t)]) ∧ Below W.heap.size W w':=by
  refine calls_abs Tryz.func58 rfl (Nat.le_of_ble_eq_true rfl) ?_
  intro a0 d0 z0 h0
  replace z0:a0.tmps.size=20:=z0
  have s0_0:a0.tmps.getD 0 undef=.agg (iC i):=h0 0 (Nat.le_of_ble_eq_true rfl)
  refine wp_seq ?_
  refine go_reg [] [⟨0,1,40,(iC i),none,#[]⟩,⟨1,2,40,(iC zI),none,#[]⟩] [none,none,oF] mo d0 z0 (Below.refl _ _) (by kernel_rfl) trivial (
   hk (fun cx=>cx.al (wn rfl) 0 rfl (ex_box rfl (cx.rq 0 s0_0) rfl) rfl rfl rfl rfl rfl trivial) <|
   hk (fun cx=>cx.al (wn rfl) 1 rfl (al_i rfl) rfl rfl rfl rfl rfl trivial) <|
   hk (fun cx=>cx.q (ex_as rfl rfl)) <|
   hn) ?_
  intro a1 w1 f1
  obtain ⟨g1,u_g1,q_g1,b_g1⟩:=f1.al.1
  obtain ⟨g2,u_g2,q_g2,b_g2⟩:=f1.al.2.1
  refine wp_seq ?_
  cases fk1:mayC i.x.cc
  case false=>
   have Ffk1:=Lib.hid fk1;clear fk1
   refine go_reg [bx g1 40 (iC i),⟨g2,40,(iC zI),some 16,(iC ⟨0,⟨29,0,0,0,0,0,0,i.x.cc⟩,0,0,0,i.t⟩)⟩] [] [some (pt g1 1),some (pt g1 8),some (.int .i8 i.x.cc),some (.agg (xC ⟨29,0,0,0,0,0,0,i.x.cc⟩)),some (pt g1 12),some (.int .i64 i.t),some (.agg (iC ⟨0,⟨29,0,0,0,0,0,0,i.x.cc⟩,0,0,0,i.t⟩)),some (pt g1 1),some (pt g1 8),some (.int .i8 i.x.cc),oF,oF,oU,oU,oU,oF,none,oF] mo f1.d f1.z f1.b (by kernel_rfl) ⟨b_g1,b_g2,trivial⟩ (
    hk (fun cx=>cx.q (ex_fa rfl (cx.rq 1 u_g1) (faIrC40_1_0 _ _))) <|
    hk (fun cx=>cx.q (ex_fa rfl (cx.u 0 rfl) (faIrC38_7_1 _ _))) <|
    hk (fun cx=>cx.q (ex_ld rfl (cx.u 0 rfl) (cx.rn 0 rfl) rfl Tryz.isAgg36)) <|
    hk (fun cx=>cx.q (exec_build rfl (parts2 rfl (cx.u 0 rfl)) (by kernel_rfl))) <|
    hk (fun cx=>cx.q (ex_fa rfl (cx.rq 1 u_g1) (faIrC40_5_0 _ _))) <|
    hk (fun cx=>cx.q (ex_ld rfl (cx.u 0 rfl) (cx.rn 0 rfl) rfl Tryz.isAgg3)) <|
    hk (fun cx=>cx.q (exec_build rfl (parts2 (cx.u 0 rfl) (cx.u 1 rfl)) (by kernel_rfl))) <|
    hk (fun cx=>cx.q (ex_fa rfl (cx.rq 1 u_g1) (faIrC40_1_0 _ _))) <|
    hk (fun cx=>cx.q (ex_fa rfl (cx.u 0 rfl) (faIrC38_7_1 _ _))) <|
    hk (fun cx=>cx.q (ex_ld rfl (cx.u 0 rfl) (cx.rn 0 rfl) rfl Tryz.isAgg36)) <|
    hc (fun _ _ wx cx=>cx.c rfl (args1 (cx.u 0 rfl)) Tryz.func59 (by decide +kernel) (fmay_n i.x.cc h127 wx) rfl (congrArg Value.bool Ffk1.out)) <|
    kmu 0 <|
    kno 0 <|
    kno 1 <|
    kno 1 <|
    hk (fun cx=>cx.q (ex_pf rfl (cx.u 0 rfl) rfl)) <|
    hk (fun cx=>cx.stR (wn rfl) rfl rfl 1 rfl (cx.rq 2 u_g2) (cx.u 0 rfl) (by kernel_rfl) (Eq.refl 13) (by simp [Value.oneCell']) q_g2 rfl ⟨(ne_ptr (pairAt f1.ps 0 1 (by decide) rfl rfl) u_g1 u_g2),trivial⟩ trivial) <|
    kmu 0 <|
    hn) ?_
   intro a2 w2 f2
   refine wp_ret ?_
   have s2_1:=f2.q 2 u_g2
   try simp only [Exit.inBlock,Exit.then]
   refine bodyPost_ret (res_ct (fn:=Tryz.f58) rfl s2_1 (load_row 40 f2.rows.2.1 Tryz.underlying40 rfl (by kernel_rfl)) (f2.v 17 rfl rfl rfl)) f2.d ?_
   exact ⟨rfl,f2.b⟩
  have Ffk1:=Lib.hid fk1;clear fk1
  refine go_reg [bx g1 40 (iC i),⟨g2,40,(iC zI),some 16,(iC ⟨0,⟨29,0,0,0,0,0,0,i.x.cc⟩,0,0,0,i.t⟩)⟩] [] [some (pt g1 1),some (pt g1 8),some (.int .i8 i.x.cc),some (.agg (xC ⟨29,0,0,0,0,0,0,i.x.cc⟩)),some (pt g1 12),some (.int .i64 i.t),some (.agg (iC ⟨0,⟨29,0,0,0,0,0,0,i.x.cc⟩,0,0,0,i.t⟩)),some (pt g1 1),some (pt g1 8),some (.int .i8 i.x.cc),oT,oT,some (pt g1 12),some (.int .i64 i.t),some (.bool (blkB i.t)),some (.bool (blkB i.t)),none,some (.bool (blkB i.t))] mo f1.d f1.z f1.b (by kernel_rfl) ⟨b_g1,b_g2,trivial⟩ (
   hk (fun cx=>cx.q (ex_fa rfl (cx.rq 1 u_g1) (faIrC40_1_0 _ _))) <|
   hk (fun cx=>cx.q (ex_fa rfl (cx.u 0 rfl) (faIrC38_7_1 _ _))) <|
   hk (fun cx=>cx.q (ex_ld rfl (cx.u 0 rfl) (cx.rn 0 rfl) rfl Tryz.isAgg36)) <|
   hk (fun cx=>cx.q (exec_build rfl (parts2 rfl (cx.u 0 rfl)) (by kernel_rfl))) <|
   hk (fun cx=>cx.q (ex_fa rfl (cx.rq 1 u_g1) (faIrC40_5_0 _ _))) <|
   hk (fun cx=>cx.q (ex_ld rfl (cx.u 0 rfl) (cx.rn 0 rfl) rfl Tryz.isAgg3)) <|
   hk (fun cx=>cx.q (exec_build rfl (parts2 (cx.u 0 rfl) (cx.u 1 rfl)) (by kernel_rfl))) <|
   hk (fun cx=>cx.q (ex_fa rfl (cx.rq 1 u_g1) (faIrC40_1_0 _ _))) <|
   hk (fun cx=>cx.q (ex_fa rfl (cx.u 0 rfl) (faIrC38_7_1 _ _))) <|
   hk (fun cx=>cx.q (ex_ld rfl (cx.u 0 rfl) (cx.rn 0 rfl) rfl Tryz.isAgg36)) <|
   hc (fun _ _ wx cx=>cx.c rfl (args1 (cx.u 0 rfl)) Tryz.func59 (by decide +kernel) (fmay_n i.x.cc h127 wx) rfl (congrArg Value.bool Ffk1.out)) <|
   kmu 0 <|
   hk (fun cx=>cx.vy 0 (ex_fa rfl (cx.rq 1 u_g1) (faIrC40_5_0 _ _))) <|
   hk (fun cx=>cx.vy 1 (ex_ld rfl (cx.u 0 rfl) (cx.rn 0 rfl) rfl Tryz.isAgg3)) <|
   hc (fun _ _ wx cx=>cx.call (cx.wy rfl rfl rfl rfl (cx.u 1 rfl)) rfl rfl (args1 (cx.u 0 rfl)) Tryz.func60 (by decide +kernel) rfl (block_n i.t wx) rfl rfl rfl rfl) <|
   hk (fun cx=>cx.q (ex_pt rfl (cx.u 0 rfl) (cx.u 1 rfl))) <|
   hk (fun cx=>cx.stR (wn rfl) rfl rfl 1 rfl (cx.rq 2 u_g2) (cx.u 0 rfl) (by kernel_rfl) (Eq.refl 13) (by simp [Value.oneCell']) q_g2 rfl ⟨(ne_ptr (pairAt f1.ps 0 1 (by decide) rfl rfl) u_g1 u_g2),trivial⟩ trivial) <|
   kmu 0 <|
   hn) ?_
  intro a3 w3 f3
  refine wp_ret ?_
  have s2_2:=f3.q 2 u_g2
  try simp only [Exit.inBlock,Exit.then]
  refine bodyPost_ret (res_ct (fn:=Tryz.f58) rfl s2_2 (load_row 40 f3.rows.2.1 Tryz.underlying40 rfl (by kernel_rfl)) (f3.v 17 rfl rfl rfl)) f3.d ?_
  exact ⟨rfl,f3.b⟩
theorem kind_5 (i:Ii) (W:World):Calls Tryz.prog 61 #[.agg (iC i)] W fun e w'=>e=.returned (.tuple #[.agg (iC ⟨0,zX,0,0,0,i.t⟩),.bool (blkB i.t)]) ∧ Below W.heap.size W w':=by
  refine calls_abs Tryz.func61 rfl (Nat.le_of_ble_eq_true rfl) ?_
  intro a0 d0 z0 h0
  replace z0:a0.tmps.size=10:=z0
  have s0_0:a0.tmps.getD 0 undef=.agg (iC i):=h0 0 (Nat.le_of_ble_eq_true rfl)
  refine wp_seq ?_
  refine go_reg [] [⟨0,1,40,(iC i),none,#[]⟩,⟨1,2,40,(iC zI),none,#[]⟩] [none,none,oF] mo d0 z0 (Below.refl _ _) (by kernel_rfl) trivial (
   hk (fun cx=>cx.al (wn rfl) 0 rfl (ex_box rfl (cx.rq 0 s0_0) rfl) rfl rfl rfl rfl rfl trivial) <|
   hk (fun cx=>cx.al (wn rfl) 1 rfl (al_i rfl) rfl rfl rfl rfl rfl trivial) <|
   hk (fun cx=>cx.q (ex_as rfl rfl)) <|
   hn) ?_
  intro a1 w1 f1
  obtain ⟨g1,u_g1,q_g1,b_g1⟩:=f1.al.1
  obtain ⟨g2,u_g2,q_g2,b_g2⟩:=f1.al.2.1
  refine wp_seq ?_
  refine go_reg [bx g1 40 (iC i),⟨g2,40,(iC zI),some 6,(iC ⟨0,zX,0,0,0,i.t⟩)⟩] [] [some (pt g1 12),some (.int .i64 i.t),some (.agg (iC ⟨0,zX,0,0,0,i.t⟩)),some (pt g1 12),some (.int .i64 i.t),some (.bool (blkB i.t)),none,some (.bool (blkB i.t))] mo f1.d f1.z f1.b (by kernel_rfl) ⟨b_g1,b_g2,trivial⟩ (
   hk (fun cx=>cx.q (ex_fa rfl (cx.rq 1 u_g1) (faIrC40_5_0 _ _))) <|
   hk (fun cx=>cx.q (ex_ld rfl (cx.u 0 rfl) (cx.rn 0 rfl) rfl Tryz.isAgg3)) <|
   hk (fun cx=>cx.q (exec_build rfl (parts1 (cx.u 0 rfl)) (by kernel_rfl))) <|
   hk (fun cx=>cx.q (ex_fa rfl (cx.rq 1 u_g1) (faIrC40_5_0 _ _))) <|
   hk (fun cx=>cx.q (ex_ld rfl (cx.u 0 rfl) (cx.rn 0 rfl) rfl Tryz.isAgg3)) <|
   hc (fun _ _ wx cx=>cx.c rfl (args1 (cx.u 0 rfl)) Tryz.func60 (by decide +kernel) (block_n i.t wx) rfl rfl) <|
   hk (fun cx=>cx.stR (wn rfl) rfl rfl 1 rfl (cx.rq 2 u_g2) (cx.u 0 rfl) (by kernel_rfl) (Eq.refl 13) (by simp [Value.oneCell']) q_g2 rfl ⟨(ne_ptr (pairAt f1.ps 0 1 (by decide) rfl rfl) u_g1 u_g2),trivial⟩ trivial) <|
   kmu 0 <|
   hn) ?_
  intro a2 w2 f2
  refine wp_ret ?_
  have s2_1:=f2.q 2 u_g2
  try simp only [Exit.inBlock,Exit.then]
  refine bodyPost_ret (res_ct (fn:=Tryz.f61) rfl s2_1 (load_row 40 f2.rows.2.1 Tryz.underlying40 rfl (by kernel_rfl)) (f2.v 7 rfl rfl rfl)) f2.d ?_
  exact ⟨rfl,f2.b⟩
theorem kind_6 (i:Ii) (W:World):Calls Tryz.prog 62 #[.agg (iC i)] W fun e w'=>e=.returned (.tuple #[.agg (iC zI),.bool true]) ∧ Below W.heap.size W w':=by
  refine calls_abs Tryz.func62 rfl (Nat.le_of_ble_eq_true rfl) ?_
  intro a0 d0 z0 h0
  replace z0:a0.tmps.size=5:=z0
  have s0_0:a0.tmps.getD 0 undef=.agg (iC i):=h0 0 (Nat.le_of_ble_eq_true rfl)
  refine wp_seq ?_
  refine go_reg [] [⟨0,1,40,(iC i),none,#[]⟩,⟨1,2,40,(iC zI),none,#[]⟩] [none,none,oF] mo d0 z0 (Below.refl _ _) (by kernel_rfl) trivial (
   hk (fun cx=>cx.al (wn rfl) 0 rfl (ex_box rfl (cx.rq 0 s0_0) rfl) rfl rfl rfl rfl rfl trivial) <|
   hk (fun cx=>cx.al (wn rfl) 1 rfl (al_i rfl) rfl rfl rfl rfl rfl trivial) <|
   hk (fun cx=>cx.q (ex_as rfl rfl)) <|
   hn) ?_
  intro a1 w1 f1
  obtain ⟨g1,u_g1,q_g1,b_g1⟩:=f1.al.1
  obtain ⟨g2,u_g2,q_g2,b_g2⟩:=f1.al.2.1
  refine wp_seq ?_
  refine go_reg [⟨g2,40,(iC zI),some 1,(iC zI)⟩] [] [some (.agg (iC zI)),none,oT] mo f1.d f1.z f1.b (by kernel_rfl) ⟨b_g2,trivial⟩ (
   hk (fun cx=>cx.q (ex_z13 rfl)) <|
   hk (fun cx=>cx.stR (wn rfl) rfl rfl 0 rfl (cx.rq 2 u_g2) (cx.u 0 rfl) (by kernel_rfl) (Eq.refl 13) (by simp [Value.oneCell']) q_g2 rfl trivial trivial) <|
   hk (fun cx=>cx.q (ex_as rfl rfl)) <|
   hn) ?_
  intro a2 w2 f2
  refine wp_ret ?_
  have s2_1:=f2.q 2 u_g2
  try simp only [Exit.inBlock,Exit.then]
  refine bodyPost_ret (res_ct (fn:=Tryz.f62) rfl s2_1 (load_row 40 f2.rows.1 Tryz.underlying40 rfl (by kernel_rfl)) (f2.v 2 rfl rfl rfl)) f2.d ?_
  exact ⟨rfl,f2.b⟩
theorem kof_0 (W:World):Calls Tryz.prog 27 #[.int .i8 0] W fun e w'=>e=.returned (.func (.func 55) #[] #[]) ∧ Below W.heap.size W w':=by
  go_enter Tryz.func27,Tryz.ntmps27
  go_wp2
  go_ret
  exact ⟨rfl,below_new (Below.refl _ _) _⟩
theorem kof_1 (W:World):Calls Tryz.prog 27 #[.int .i8 1] W fun e w'=>e=.returned (.func (.func 52) #[] #[]) ∧ Below W.heap.size W w':=by
  go_enter Tryz.func27,Tryz.ntmps27
  go_wp2
  go_ret
  exact ⟨rfl,below_new (Below.refl _ _) _⟩
theorem kof_2 (W:World):Calls Tryz.prog 27 #[.int .i8 2] W fun e w'=>e=.returned (.func (.func 52) #[] #[]) ∧ Below W.heap.size W w':=by
  go_enter Tryz.func27,Tryz.ntmps27
  go_wp2
  go_ret
  exact ⟨rfl,below_new (Below.refl _ _) _⟩
theorem kof_3 (W:World):Calls Tryz.prog 27 #[.int .i8 3] W fun e w'=>e=.returned (.func (.func 57) #[] #[]) ∧ Below W.heap.size W w':=by
  go_enter Tryz.func27,Tryz.ntmps27
  go_wp2
  go_ret
  exact ⟨rfl,below_new (Below.refl _ _) _⟩
theorem kof_4 (W:World):Calls Tryz.prog 27 #[.int .i8 4] W fun e w'=>e=.returned (.func (.func 58) #[] #[]) ∧ Below W.heap.size W w':=by
  go_enter Tryz.func27,Tryz.ntmps27
  go_wp2
  go_ret
  exact ⟨rfl,below_new (Below.refl _ _) _⟩
theorem kof_5 (W:World):Calls Tryz.prog 27 #[.int .i8 5] W fun e w'=>e=.returned (.func (.func 61) #[] #[]) ∧ Below W.heap.size W w':=by
  go_enter Tryz.func27,Tryz.ntmps27
  go_wp2
  go_ret
  exact ⟨rfl,below_new (Below.refl _ _) _⟩
theorem kof_6 (W:World):Calls Tryz.prog 27 #[.int .i8 6] W fun e w'=>e=.returned (.func (.func 62) #[] #[]) ∧ Below W.heap.size W w':=by
  go_enter Tryz.func27,Tryz.ntmps27
  go_wp2
  go_ret
  exact ⟨rfl,below_new (Below.refl _ _) _⟩
theorem kof_none (k:Int) (h:k < 0 ∨ 6 < k) (hk:I8 k) (W:World):Calls Tryz.prog 27 #[.int .i8 k] W fun e w'=>e=.returned .nilFunc ∧ Below W.heap.size W w':=by
  obtain ⟨h1,h2⟩:=hk
  rcases h with h | h
  · have e:decide (k < 0)=true:=by simp;omega
    clear h h1 h2
    go_enter Tryz.func27,Tryz.ntmps27
    go_wp2
    go_ret
    exact ⟨rfl,below_new (Below.refl _ _) _⟩
  · have e:decide (k < 0)=false:=by simp;omega
    have e2:IntKind.i64.wrap k=k:=by rw [IntKind.wrap_i64];omega
    have e3:decide (7 ≤ k)=true:=by simp;omega
    clear h h1 h2
    go_enter Tryz.func27,Tryz.ntmps27
    go_wp2
    go_ret
    exact ⟨rfl,below_new (Below.refl _ _) _⟩
theorem ex_fzn {ρ:Operand → Value} {o:Oper} {w:World} {x y:Operand} {u:TypeId} {n:FuncId} (ho:o.op=.binOp .eql 54 x y u) (hx:ρ x=.func (.func n) #[] #[]) (hy:ρ y=.nilFunc):(execOp ρ o).run Tryz.prog w=.ok (.value (.bool false)) w:=by
  simp [execOp,ho,hx,hy,go_sem]
  rfl
theorem ex_fzy {ρ:Operand → Value} {o:Oper} {w:World} {x y:Operand} {u:TypeId} (ho:o.op=.binOp .eql 54 x y u) (hx:ρ x=.nilFunc) (hy:ρ y=.nilFunc):(execOp ρ o).run Tryz.prog w=.ok (.value (.bool true)) w:=by
  simp [execOp,ho,hx,hy,go_sem]
  rfl
theorem mayg (i:Ii) (W:World) (hT:Tb W) (F:FuncId) (fn:Func) (nm:Ii) (rg:Bool) (hko:∀ wx,Calls Tryz.prog 27 #[.int .i8 i.k] wx fun e w'=>e=.returned (.func (.func F) #[] #[]) ∧ Below wx.heap.size wx w') (hf:Tryz.prog.funcs[F]?=some fn) (hok:okF fn=true) (clo:∀ wx,Tb wx → Calls Tryz.prog F #[.agg (iC i)] wx fun e w'=>e=.returned (.tuple #[.agg (iC nm),.bool rg]) ∧ Below wx.heap.size wx w'):Calls Tryz.prog 13 #[.agg (iC i)] W fun e w'=>e=.returned (.bool (rg && eqI i ⟨i.k,nm.x,nm.r,nm.p,nm.n,nm.t⟩)) ∧ Below W.heap.size W w':=by
  refine calls_abs Tryz.func13 rfl (Nat.le_of_ble_eq_true rfl) ?_
  intro a0 d0 z0 h0
  replace z0:a0.tmps.size=26:=z0
  have s0_0:a0.tmps.getD 0 undef=.agg (iC i):=h0 0 (Nat.le_of_ble_eq_true rfl)
  refine wp_seq ?_
  refine go_reg [] [⟨0,1,40,(iC i),none,#[]⟩] [none,oF] mo d0 z0 (Below.refl _ _) (by kernel_rfl) trivial (
   hk (fun cx=>cx.al (wn rfl) 0 rfl (ex_box rfl (cx.rq 0 s0_0) rfl) rfl rfl rfl rfl rfl trivial) <|
   hk (fun cx=>cx.q (ex_as rfl rfl)) <|
   hn) ?_
  intro a1 w1 f1
  obtain ⟨g1,u_g1,q_g1,b_g1⟩:=f1.al.1
  refine wp_seq ?_
  refine go_reg [bx g1 40 (iC i)] [] [some (pt g1 0),some (.int .i8 i.k),some (.func (.func F) #[] #[]),some (.func (.func F) #[] #[])] mo f1.d f1.z f1.b (by kernel_rfl) ⟨b_g1,trivial⟩ (
   hk (fun cx=>cx.q (ex_fa rfl (cx.rq 1 u_g1) (faIrC40_0_0 _ _))) <|
   hk (fun cx=>cx.q (ex_ld rfl (cx.u 0 rfl) (cx.rn 0 rfl) rfl Tryz.isAgg36)) <|
   hc (fun _ _ wx cx=>cx.c rfl (args1 (cx.u 0 rfl)) Tryz.func27 (by decide +kernel) (hko wx) rfl rfl) <|
   kmu 0 <|
   hn) ?_
  intro a2 w2 f2
  refine wp_seq ?_
  refine wp_seq ?_
  refine go_reg [] [] [some (.func (.func F) #[] #[]),oF] mo f2.d f2.z f2.b (by kernel_rfl) trivial (
   hk (fun cx=>cx.q (ex_mv rfl (cx.rq 3 (f2.v 3 rfl rfl rfl)))) <|
   hk (fun cx=>cx.q (ex_fzn rfl (cx.u 0 rfl) rfl)) <|
   hn) ?_
  intro a3 w3 f3
  refine wp_cond_false (f3.v 1 rfl rfl rfl) ?_
  refine wp_skip ?_
  refine wp_seq ?_
  cases fk1:rg
  case false=>
   have Ffk1:=Lib.hid fk1;clear fk1
   have b_g1_1:=f3.k (f2.k b_g1)
   have s3_2:=f3.q 3 (f2.v 3 rfl rfl rfl)
   have s1_3:=f3.q 1 (f2.q 1 u_g1)
   refine go_reg [bx g1 40 (iC i)] [⟨6,4,40,(iC zI),some 7,(iC nm)⟩] [some (.func (.func F) #[] #[]),some (.agg (iC i)),some (.tuple #[.agg (iC nm),.bool rg]),some (.tuple #[.agg (iC nm),.bool rg]),some (.agg (iC nm)),oF,none,none,oF] mo f3.d f3.z f3.b (by kernel_rfl) ⟨b_g1_1,trivial⟩ (
    hk (fun cx=>cx.q (ex_mv rfl (cx.rq 3 s3_2))) <|
    hk (fun cx=>cx.q (ldI rfl (cx.rq 1 s1_3) (cx.rn 0 rfl))) <|
    hc (fun _ _ wx cx=>cx.callv (wn rfl) rfl rfl (cx.u 0 rfl) (args1 (cx.u 1 rfl)) hf hok (clo wx (hT.below cx.S.1.1 (Nat.le_refl _))) rfl rfl rfl rfl) <|
    kmu 0 <|
    hk (fun cx=>cx.q (ex_ext (x:=.tmp 11) rfl (cx.u 0 rfl) rfl)) <|
    hk (fun cx=>cx.v (ex_ext (x:=.tmp 11) rfl (cx.u 0 rfl) rfl) rfl (congrArg Value.bool Ffk1.out)) <|
    hk (fun cx=>cx.al (wn rfl) 0 rfl (al_i rfl) rfl rfl rfl rfl (by kernel_rfl) trivial) <|
    hk (fun cx=>cx.stA (wn rfl) rfl rfl 0 0 rfl rfl rfl rfl (cx.u 1 rfl) (by kernel_rfl) (Eq.refl 13) (by simp [Value.oneCell']) f3.b.size rfl rfl trivial) <|
    kmu 0 <|
    hn) ?_
   intro a4 w4 f4
   obtain ⟨g2,u_g2,q_g2,b_g2⟩:=f4.al.1
   refine wp_seq ?_
   have b_g1_4:=f4.k b_g1_1
   have s1_5:=f4.q 1 s1_3
   refine go_reg [bx g1 40 (iC i),⟨g2,40,(iC nm),some 3,(iC ⟨i.k,nm.x,nm.r,nm.p,nm.n,nm.t⟩)⟩] [] [some (pt g1 0),some (.int .i8 i.k),some (pt g2 0),none] mo f4.d f4.z f4.b (by kernel_rfl) ⟨b_g1_4,b_g2,trivial⟩ (
    hk (fun cx=>cx.q (ex_fa rfl (cx.rq 1 s1_5) (faIrC40_0_0 _ _))) <|
    hk (fun cx=>cx.q (ex_ld rfl (cx.u 0 rfl) (cx.rn 0 rfl) rfl Tryz.isAgg36)) <|
    hk (fun cx=>cx.q (ex_fa rfl (cx.rq 4 u_g2) (faIrC40_0_0 _ _))) <|
    hk (fun cx=>cx.stC (wn rfl) rfl rfl 1 rfl (cx.u 0 rfl) (cx.u 1 rfl) rfl rfl (by kernel_rfl) rfl rfl (Nat.le_trans f3.b.size q_g2) rfl ⟨(ne_row b_g1_1 q_g2),trivial⟩ trivial) <|
    hn) ?_
   intro a5 w5 f5
   refine wp_seq ?_
   have s5_6:=f5.q 5 (f4.v 8 rfl rfl rfl)
   refine go_reg [] [] [oF,oF,oU,oU,oU,oF,oF] mo f5.d f5.z f5.b (by kernel_rfl) trivial (
    hk (fun cx=>cx.q (ex_mv rfl (cx.rq 5 s5_6))) <|
    kmu 0 <|
    kno 0 <|
    kno 0 <|
    kno 2 <|
    hk (fun cx=>cx.q (ex_pf rfl (cx.u 0 rfl) rfl)) <|
    kmu 0 <|
    hn) ?_
   intro a6 w6 f6
   refine wp_ret ?_
   try simp only [Exit.inBlock,Exit.then]
   refine bodyPost_ret (res_t (fn:=Tryz.f13) rfl (f6.v 6 rfl rfl rfl)) f6.d ?_
   exact ⟨rfl,f6.b⟩
  have Ffk1:=Lib.hid fk1;clear fk1
  have b_g1_7:=f3.k (f2.k b_g1)
  have s3_8:=f3.q 3 (f2.v 3 rfl rfl rfl)
  have s1_9:=f3.q 1 (f2.q 1 u_g1)
  refine go_reg [bx g1 40 (iC i)] [⟨6,4,40,(iC zI),some 7,(iC nm)⟩] [some (.func (.func F) #[] #[]),some (.agg (iC i)),some (.tuple #[.agg (iC nm),.bool rg]),some (.tuple #[.agg (iC nm),.bool rg]),some (.agg (iC nm)),oT,none,none,oT] mo f3.d f3.z f3.b (by kernel_rfl) ⟨b_g1_7,trivial⟩ (
   hk (fun cx=>cx.q (ex_mv rfl (cx.rq 3 s3_8))) <|
   hk (fun cx=>cx.q (ldI rfl (cx.rq 1 s1_9) (cx.rn 0 rfl))) <|
   hc (fun _ _ wx cx=>cx.callv (wn rfl) rfl rfl (cx.u 0 rfl) (args1 (cx.u 1 rfl)) hf hok (clo wx (hT.below cx.S.1.1 (Nat.le_refl _))) rfl rfl rfl rfl) <|
   kmu 0 <|
   hk (fun cx=>cx.q (ex_ext (x:=.tmp 11) rfl (cx.u 0 rfl) rfl)) <|
   hk (fun cx=>cx.v (ex_ext (x:=.tmp 11) rfl (cx.u 0 rfl) rfl) rfl (congrArg Value.bool Ffk1.out)) <|
   hk (fun cx=>cx.al (wn rfl) 0 rfl (al_i rfl) rfl rfl rfl rfl (by kernel_rfl) trivial) <|
   hk (fun cx=>cx.stA (wn rfl) rfl rfl 0 0 rfl rfl rfl rfl (cx.u 1 rfl) (by kernel_rfl) (Eq.refl 13) (by simp [Value.oneCell']) f3.b.size rfl rfl trivial) <|
   kmu 0 <|
   hn) ?_
  intro a7 w7 f7
  obtain ⟨g2,u_g2,q_g2,b_g2⟩:=f7.al.1
  refine wp_seq ?_
  have b_g1_10:=f7.k b_g1_7
  have s1_11:=f7.q 1 s1_9
  refine go_reg [bx g1 40 (iC i),⟨g2,40,(iC nm),some 3,(iC ⟨i.k,nm.x,nm.r,nm.p,nm.n,nm.t⟩)⟩] [] [some (pt g1 0),some (.int .i8 i.k),some (pt g2 0),none] mo f7.d f7.z f7.b (by kernel_rfl) ⟨b_g1_10,b_g2,trivial⟩ (
   hk (fun cx=>cx.q (ex_fa rfl (cx.rq 1 s1_11) (faIrC40_0_0 _ _))) <|
   hk (fun cx=>cx.q (ex_ld rfl (cx.u 0 rfl) (cx.rn 0 rfl) rfl Tryz.isAgg36)) <|
   hk (fun cx=>cx.q (ex_fa rfl (cx.rq 4 u_g2) (faIrC40_0_0 _ _))) <|
   hk (fun cx=>cx.stC (wn rfl) rfl rfl 1 rfl (cx.u 0 rfl) (cx.u 1 rfl) rfl rfl (by kernel_rfl) rfl rfl (Nat.le_trans f3.b.size q_g2) rfl ⟨(ne_row b_g1_7 q_g2),trivial⟩ trivial) <|
   hn) ?_
  intro a8 w8 f8
  refine wp_seq ?_
  have b_g1_12:=f8.kp b_g1_10 ⟨.inl rfl,.inr (ne_row b_g1_7 q_g2),trivial⟩
  have s5_13:=f8.q 5 (f7.v 8 rfl rfl rfl)
  have s1_14:=f8.q 1 s1_11
  have s4_15:=f8.q 4 u_g2
  refine go_reg [bx g1 40 (iC i),bx g2 40 (iC ⟨i.k,nm.x,nm.r,nm.p,nm.n,nm.t⟩)] [] [oT,oT,some (.agg (iC i)),some (.agg (iC ⟨i.k,nm.x,nm.r,nm.p,nm.n,nm.t⟩)),some (.bool (eqI i ⟨i.k,nm.x,nm.r,nm.p,nm.n,nm.t⟩)),some (.bool (eqI i ⟨i.k,nm.x,nm.r,nm.p,nm.n,nm.t⟩)),some (.bool (eqI i ⟨i.k,nm.x,nm.r,nm.p,nm.n,nm.t⟩))] mo f8.d f8.z f8.b (by kernel_rfl) ⟨b_g1_12,f8.rows.2.1,trivial⟩ (
   hk (fun cx=>cx.q (ex_mv rfl (cx.rq 5 s5_13))) <|
   kmu 0 <|
   hk (fun cx=>cx.vy 0 (ldI rfl (cx.rq 1 s1_14) (cx.rn 0 rfl))) <|
   hk (fun cx=>cx.vy 0 (ldI rfl (cx.rq 4 s4_15) (cx.rn 1 rfl))) <|
   hk (fun cx=>cx.vy 2 (exec_eql (x:=.tmp 22) (y:=.tmp 23) rfl (cx.u 0 rfl) (cx.u 1 rfl) (by kernel_rfl) (eq_i i ⟨i.k,nm.x,nm.r,nm.p,nm.n,nm.t⟩ _))) <|
   hk (fun cx=>cx.q (ex_pt rfl (cx.u 0 rfl) (cx.u 1 rfl))) <|
   kmu 0 <|
   hn) ?_
  intro a9 w9 f9
  refine wp_ret ?_
  try simp only [Exit.inBlock,Exit.then]
  refine bodyPost_ret (res_t (fn:=Tryz.f13) rfl (f9.v 6 rfl rfl rfl)) f9.d ?_
  exact ⟨rfl,f9.b⟩
theorem mayk_none (k:Int) (x:Xi) (r p n t:Int) (W:World) (h06:k < 0 ∨ 6 < k) (hi:I8 k):Calls Tryz.prog 13 #[.agg (iC ⟨k,x,r,p,n,t⟩)] W fun e w'=>e=.returned (.bool false) ∧ Below W.heap.size W w':=by
  refine calls_abs Tryz.func13 rfl (Nat.le_of_ble_eq_true rfl) ?_
  intro a0 d0 z0 h0
  replace z0:a0.tmps.size=26:=z0
  have s0_0:a0.tmps.getD 0 undef=.agg (iC ⟨k,x,r,p,n,t⟩):=h0 0 (Nat.le_of_ble_eq_true rfl)
  refine wp_seq ?_
  refine go_reg [] [⟨0,1,40,(iC ⟨k,x,r,p,n,t⟩),none,#[]⟩] [none,oF] mo d0 z0 (Below.refl _ _) (by kernel_rfl) trivial (
   hk (fun cx=>cx.al (wn rfl) 0 rfl (ex_box rfl (cx.rq 0 s0_0) rfl) rfl rfl rfl rfl rfl trivial) <|
   hk (fun cx=>cx.q (ex_as rfl rfl)) <|
   hn) ?_
  intro a1 w1 f1
  obtain ⟨g1,u_g1,q_g1,b_g1⟩:=f1.al.1
  refine wp_seq ?_
  refine go_reg [bx g1 40 (iC ⟨k,x,r,p,n,t⟩)] [] [some (pt g1 0),some (.int .i8 k),some (.nilFunc),some (.nilFunc)] mo f1.d f1.z f1.b (by kernel_rfl) ⟨b_g1,trivial⟩ (
   hk (fun cx=>cx.q (ex_fa rfl (cx.rq 1 u_g1) (faIrC40_0_0 _ _))) <|
   hk (fun cx=>cx.q (ex_ld rfl (cx.u 0 rfl) (cx.rn 0 rfl) rfl Tryz.isAgg36)) <|
   hc (fun _ _ wx cx=>cx.c rfl (args1 (cx.u 0 rfl)) Tryz.func27 (by decide +kernel) (kof_none k h06 hi wx) rfl rfl) <|
   kmu 0 <|
   hn) ?_
  intro a2 w2 f2
  refine wp_seq ?_
  refine wp_seq ?_
  refine go_reg [] [] [some (.nilFunc),oT] mo f2.d f2.z f2.b (by kernel_rfl) trivial (
   hk (fun cx=>cx.q (ex_mv rfl (cx.rq 3 (f2.v 3 rfl rfl rfl)))) <|
   hk (fun cx=>cx.q (ex_fzy rfl (cx.u 0 rfl) rfl)) <|
   hn) ?_
  intro a3 w3 f3
  refine wp_cond_true (f3.v 1 rfl rfl rfl) ?_
  refine wp_seq ?_
  refine go_reg [] [] [oF] mo f3.d f3.z f3.b (by kernel_rfl) trivial (
   hk (fun cx=>cx.q (ex_as rfl rfl)) <|
   hn) ?_
  intro a4 w4 f4
  refine wp_ret ?_
  try simp only [Exit.inBlock,Exit.then]
  refine bodyPost_ret (res_t (fn:=Tryz.f13) rfl (f4.v 0 rfl rfl rfl)) f4.d ?_
  exact ⟨rfl,f4.b⟩
theorem imay_n (i:Ii) (W:World) (hT:Tb W) (hI:IOk i):Calls Tryz.prog 13 #[.agg (iC i)] W fun e w'=>e=.returned (.bool (mayI i)) ∧ Below W.heap.size W w':=by
  have h8:=hI.k
  have hX:=hI.x
  have h127:i.x.cc ≤ 127:=by have:=hX.cc;omega
  obtain ⟨k,x,r,p,n,t⟩:=i
  simp only at h8 hX h127
  by_cases hk:k < 0 ∨ 6 < k
  · rw [show mayI ⟨k,x,r,p,n,t⟩=false by
      cases h:mayI ⟨k,x,r,p,n,t⟩
      · rfl
      · have:=may_kind h
        simp only at this
        omega]
    exact mayk_none k x r p n t W hk h8
  · rcases (show k=0 ∨ k=1 ∨ k=2 ∨ k=3 ∨ k=4 ∨ k=5 ∨ k=6 by omega) with rfl | rfl | rfl | rfl | rfl | rfl | rfl
    · have E:mayI ⟨0,x,r,p,n,t⟩=((cmpX x) && eqI ⟨0,x,r,p,n,t⟩ ⟨0,x,0,0,0,0⟩):=rfl
      rw [E]
      exact mayg ⟨0,x,r,p,n,t⟩ W hT 55 _ ⟨0,x,0,0,0,0⟩ (cmpX x) kof_0 Tryz.func55 (by decide +kernel) (fun wx hTx=>kind_2 _ wx hTx hX)
    · have E:mayI ⟨1,x,r,p,n,t⟩=((srcB r && scrB p) && eqI ⟨1,x,r,p,n,t⟩ ⟨1,zX,r,p,0,0⟩):=rfl
      rw [E]
      exact mayg ⟨1,x,r,p,n,t⟩ W hT 52 _ ⟨0,zX,r,p,0,0⟩ (srcB r && scrB p) kof_1 Tryz.func52 (by decide +kernel) (fun wx hTx=>kind_1 _ wx hTx)
    · have E:mayI ⟨2,x,r,p,n,t⟩=((srcB r && scrB p) && eqI ⟨2,x,r,p,n,t⟩ ⟨2,zX,r,p,0,0⟩):=rfl
      rw [E]
      exact mayg ⟨2,x,r,p,n,t⟩ W hT 52 _ ⟨0,zX,r,p,0,0⟩ (srcB r && scrB p) kof_2 Tryz.func52 (by decide +kernel) (fun wx hTx=>kind_1 _ wx hTx)
    · have E:mayI ⟨3,x,r,p,n,t⟩=((decide (0 ≤ n) && decide (n < 16)) && eqI ⟨3,x,r,p,n,t⟩ ⟨3,zX,0,0,n,0⟩):=rfl
      rw [E]
      exact mayg ⟨3,x,r,p,n,t⟩ W hT 57 _ ⟨0,zX,0,0,n,0⟩ (decide (0 ≤ n) && decide (n < 16)) kof_3 Tryz.func57 (by decide +kernel) (fun wx _=>kind_3 _ wx)
    · have E:mayI ⟨4,x,r,p,n,t⟩=((mayC x.cc && blkB t) && eqI ⟨4,x,r,p,n,t⟩ ⟨4,⟨29,0,0,0,0,0,0,x.cc⟩,0,0,0,t⟩):=rfl
      rw [E]
      exact mayg ⟨4,x,r,p,n,t⟩ W hT 58 _ ⟨0,⟨29,0,0,0,0,0,0,x.cc⟩,0,0,0,t⟩ (mayC x.cc && blkB t) kof_4 Tryz.func58 (by decide +kernel) (fun wx _=>kind_4 _ wx h127)
    · have E:mayI ⟨5,x,r,p,n,t⟩=((blkB t) && eqI ⟨5,x,r,p,n,t⟩ ⟨5,zX,0,0,0,t⟩):=rfl
      rw [E]
      exact mayg ⟨5,x,r,p,n,t⟩ W hT 61 _ ⟨0,zX,0,0,0,t⟩ (blkB t) kof_5 Tryz.func61 (by decide +kernel) (fun wx _=>kind_5 _ wx)
    · have E:mayI ⟨6,x,r,p,n,t⟩=((true) && eqI ⟨6,x,r,p,n,t⟩ ⟨6,zX,0,0,0,0⟩):=rfl
      rw [E]
      exact mayg ⟨6,x,r,p,n,t⟩ W hT 62 _ zI (true) kof_6 Tryz.func62 (by decide +kernel) (fun wx _=>kind_6 _ wx)
end Go.Proofs.YtbpehbeakhocnaaGreatDoor.Irn
