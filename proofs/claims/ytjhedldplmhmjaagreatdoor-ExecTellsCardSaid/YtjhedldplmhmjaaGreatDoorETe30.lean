import Derived.Test.YtjhedldplmhmjaaGreatDoorETe29
set_option maxHeartbeats 4000000
set_option linter.unusedVariables false
set_option linter.unusedSimpArgs false
set_option linter.unnecessarySimpa false
namespace Go.Proofs.YtjhedldplmhmjaaGreatDoor.Exe
open Go Go.RowKit
open Mrm (Xi xC zX mayX bytesX)
open Flg (Fl fC zF addF subF ofF holF holE mayC)
set_option maxRecDepth 100000
theorem faExJ26_0_0 (g:Nat)(w:World):(Instr.fieldAt 30 (.pointer (some ⟨g,0,none⟩)) 0).run Tryz.prog w=.ok (.pointer (some ⟨g,0,none⟩)) w:=by simp [go_sem]
theorem faExJ26_4_0 (g:Nat)(w:World):(Instr.fieldAt 30 (.pointer (some ⟨g,0,none⟩)) 4).run Tryz.prog w=.ok (.pointer (some ⟨g,4,none⟩)) w:=by simp [go_sem]
theorem faExJ36_0_0 (g:Nat)(w:World):(Instr.fieldAt 27 (.pointer (some ⟨g,0,none⟩)) 0).run Tryz.prog w=.ok (.pointer (some ⟨g,0,none⟩)) w:=by simp [go_sem]
theorem faExJ26_5_0 (g:Nat)(w:World):(Instr.fieldAt 30 (.pointer (some ⟨g,0,none⟩)) 5).run Tryz.prog w=.ok (.pointer (some ⟨g,5,none⟩)) w:=by simp [go_sem]
theorem faExJ26_1_0 (g:Nat)(w:World):(Instr.fieldAt 30 (.pointer (some ⟨g,0,none⟩)) 1).run Tryz.prog w=.ok (.pointer (some ⟨g,1,none⟩)) w:=by simp [go_sem]
theorem faExJ26_3_0 (g:Nat)(w:World):(Instr.fieldAt 30 (.pointer (some ⟨g,0,none⟩)) 3).run Tryz.prog w=.ok (.pointer (some ⟨g,3,none⟩)) w:=by simp [go_sem]
theorem res_ttt {P:Program}{fn:Func}{w:World}{tmps:Array Value}{d e f:Tmp}{v x y:Value}(h:fn.results=#[.tmp d,.tmp e,.tmp f])(hs:tmps.getD d undef=v)(hx:tmps.getD e undef=x)(hy:tmps.getD f undef=y):(results fn tmps).run P w=.ok (.tuple #[v,x,y]) w:=by
 subst hs hx hy
 simp [results,h]
theorem wrap_w8 {x:Xi}(hX:Mrm.XOk x):IntKind.i64.wrap x.w=x.w:=by
 have:=hX.w
 rw [IntKind.wrap_i64];omega
theorem adr_26 (m:Mc)(x:Xi)(W:World)(hT:Mrm.Tabs W)(hX:Mrm.XOk x)(hM:MOk m)(hm:mayX x=true)(hO:x.op=26):Calls Tryz.prog 6 #[.agg (mcC m),.agg (xC x)] W fun e w'=>e=.returned (.tuple #[.int .u64 (IntKind.u64.wrap (m.r x.base.toNat+IntKind.u64.wrap x.disp)),.int .i64 (x.w / 8),.bool true])∧Below W.heap.size W w':=by
 have hb:=(Mrm.may_parts' hm).2.2.2
 refine calls_abs Tryz.func6 rfl (Nat.le_of_ble_eq_true rfl) ?_
 intro a0 d0 z0 h0
 replace z0:a0.tmps.size=33:=z0
 have s0_0:a0.tmps.getD 0 undef=.agg (mcC m):=h0 0 (Nat.le_of_ble_eq_true rfl)
 have s1_0:a0.tmps.getD 1 undef=.agg (xC x):=h0 1 (Nat.le_of_ble_eq_true rfl)
 refine wp_seq ?_
 refine go_reg [] [⟨0,2,27,(mcC m),none,#[]⟩,⟨1,3,30,(xC x),none,#[]⟩] [none,none,some (.int .u64 0),some (.int .i64 0),oF] mo d0 z0 (Below.refl _ _) (by kernel_rfl) trivial (
  hk (fun cx=>cx.al (wn rfl) 0 rfl (ex_box rfl (cx.rq 0 s0_0) rfl) rfl rfl rfl rfl rfl trivial) <|
  hk (fun cx=>cx.al (wn rfl) 1 rfl (ex_box rfl (cx.rq 1 s1_0) rfl) rfl rfl rfl rfl rfl trivial) <|
  kq (fun cx=>ex_as rfl rfl) <|
  kq (fun cx=>ex_as rfl rfl) <|
  kq (fun cx=>ex_as rfl rfl) <|
  hn) ?_
 intro a1 w1 f1
 obtain ⟨g1,u_g1,q_g1,b_g1⟩:=f1.al.1
 obtain ⟨g2,u_g2,q_g2,b_g2⟩:=f1.al.2.1
 refine wp_seq ?_
 refine wp_seq ?_
 refine go_reg [bx g2 30 (xC x)] [] [some (.agg (xC x)),oT,oF] mo f1.d f1.z f1.b (by kernel_rfl) ⟨b_g2,trivial⟩ (
  kq (fun cx=>Mrm.ldX rfl (cx.rq 3 u_g2) (cx.rn 0 rfl)) <|
  hc (fun _ _ wx cx=>cx.c rfl (args1 cx.u0) Tryz.func32 (by decide +kernel) (Mrm.may_n x hX wx (hT.below cx.S.1.1 (Nat.le_refl _))) rfl (congrArg Value.bool hm)) <|
  kq (fun cx=>ex_not (x:=.tmp 8) rfl cx.u0) <|
  hn) ?_
 intro a2 w2 f2
 refine wp_cond_false (f2.vv 2) ?_
 refine wp_skip ?_
 refine wp_seq ?_
 refine wp_seq ?_
 have b_g2_1:=f2.k b_g2
 have s3_2:=f2.q 3 u_g2
 refine go_reg [bx g2 30 (xC x)] [] [some (pt g2 0),some (.int .i8 26)] mo f2.d f2.z f2.b (by kernel_rfl) ⟨b_g2_1,trivial⟩ (
  kq (fun cx=>ex_fa rfl (cx.rq 3 s3_2) (faExJ26_0_0 _ _)) <|
  hk (fun cx=>cx.v (ex_ld rfl (cx.u 0 rfl) (cx.rn 0 rfl) rfl Tryz.isAgg28) rfl (congrArg (Value.int .i8) hO)) <|
  hn) ?_
 intro a3 w3 f3
 refine wp_block ?_
 refine wp_seq ?_
 refine wp_seq ?_
 refine go_reg [] [] [oT,oT] mo f3.d f3.z f3.b (by kernel_rfl) trivial (
  hk (fun cx=>cx.v (ex_eq (x:=.tmp 11) rfl (cx.rq 11 (f3.vv 1)) rfl) rfl (congrArg Value.bool (by decide))) <|
  kmu 0 <|
  hn) ?_
 intro a4 w4 f4
 refine wp_cond_true (f4.vv 1) ?_
 refine wp_skip ?_
 refine wp_cond_true (f4.vv 1) ?_
 refine wp_seq ?_
 have b_g2_3:=f4.k (f3.k b_g2_1)
 have b_g1_4:=f4.k (f3.k (f2.k b_g1))
 have s3_5:=f4.q 3 (f3.q 3 s3_2)
 have s2_6:=f4.q 2 (f3.q 2 (f2.q 2 u_g1))
 refine go_reg [bx g2 30 (xC x),bx g1 27 (mcC m)] [] [some (pt g2 4),some (.int .i8 x.base),some (pt g1 0),some (pt g1 (x.base.toNat)),some (.int .u64 (m.r x.base.toNat)),some (pt g2 5),some (.int .i64 x.disp),some (.int .u64 (IntKind.u64.wrap x.disp)),some (.int .u64 (IntKind.u64.wrap ((m.r x.base.toNat)+(IntKind.u64.wrap x.disp)))),some (pt g2 1),some (.int .i8 x.w),some (.int .i64 x.w),some (.int .i64 (x.w / 8)),some (.int .u64 (IntKind.u64.wrap ((m.r x.base.toNat)+(IntKind.u64.wrap x.disp)))),some (.int .i64 (x.w / 8)),oT] mo f4.d f4.z f4.b (by kernel_rfl) ⟨b_g2_3,b_g1_4,trivial⟩ (
  kq (fun cx=>ex_fa rfl (cx.rq 3 s3_5) (faExJ26_4_0 _ _)) <|
  kq (fun cx=>ex_ld rfl (cx.u 0 rfl) (cx.rn 0 rfl) rfl Tryz.isAgg28) <|
  kq (fun cx=>ex_fa rfl (cx.rq 2 s2_6) (faExJ36_0_0 _ _)) <|
  hk (fun cx=>cx.v (ex_ia (n:=16) (sz:=1) rfl (cx.u 0 rfl) (cx.u 1 rfl) Tryz.underlying23 (by kernel_rfl) (by omega) (by omega) (by omega)) rfl rfl) <|
  hk (fun cx=>cx.v (ldMcR (by omega) rfl (cx.u 0 rfl) (cx.rn 1 rfl)) rfl rfl) <|
  kq (fun cx=>ex_fa rfl (cx.rq 3 s3_5) (faExJ26_5_0 _ _)) <|
  kq (fun cx=>ex_ld rfl (cx.u 0 rfl) (cx.rn 0 rfl) rfl Tryz.isAgg3) <|
  kq (fun cx=>ex_conv (x:=.tmp 21) rfl cx.u0 Tryz.underlying3 Tryz.underlying22) <|
  kq (fun cx=>ex_add (x:=.tmp 19) (y:=.tmp 22) rfl cx.u0 cx.u1) <|
  kq (fun cx=>ex_fa rfl (cx.rq 3 s3_5) (faExJ26_1_0 _ _)) <|
  kq (fun cx=>ex_ld rfl (cx.u 0 rfl) (cx.rn 0 rfl) rfl Tryz.isAgg28) <|
  hk (fun cx=>cx.v (ex_conv (x:=.tmp 25) rfl cx.u0 Tryz.underlying28 Tryz.underlying3) rfl (congrArg (Value.int .i64) (wrap_w8 hX))) <|
  hc (fun _ ax _ cx=>cx.q (v:=.int .i64 (x.w / 8)) (by simp [execOp,Act.eval,(show ax.tmps.getD 26 undef=.int .i64 x.w from cx.u0),go_sem])) <|
  kmu 0 <|
  kmu 0 <|
  kq (fun cx=>ex_as rfl rfl) <|
  hn) ?_
 intro a5 w5 f5
 refine wp_ret ?_
 try simp only [Exit.inBlock,Exit.then]
 refine bodyPost_ret (res_ttt (fn:=Tryz.f6) rfl (f5.vv 13) (f5.vv 14) (f5.vv 15)) f5.d ?_
 have HE:(.tuple #[.int .u64 (IntKind.u64.wrap ((m.r x.base.toNat)+(IntKind.u64.wrap x.disp))),.int .i64 (x.w / 8),.bool true]:Value)=.tuple #[.int .u64 (IntKind.u64.wrap (m.r x.base.toNat+IntKind.u64.wrap x.disp)),.int .i64 (x.w / 8),.bool true]:=rfl
 exact ⟨retV HE,f5.b⟩
theorem adr_27 (m:Mc)(x:Xi)(W:World)(hT:Mrm.Tabs W)(hX:Mrm.XOk x)(hM:MOk m)(hm:mayX x=true)(hO:x.op=27):Calls Tryz.prog 6 #[.agg (mcC m),.agg (xC x)] W fun e w'=>e=.returned (.tuple #[.int .u64 (IntKind.u64.wrap (m.r x.base.toNat+IntKind.u64.wrap x.disp)),.int .i64 (x.w / 8),.bool true])∧Below W.heap.size W w':=by
 have hb:=(Mrm.may_parts' hm).2.2.2
 refine calls_abs Tryz.func6 rfl (Nat.le_of_ble_eq_true rfl) ?_
 intro a0 d0 z0 h0
 replace z0:a0.tmps.size=33:=z0
 have s0_0:a0.tmps.getD 0 undef=.agg (mcC m):=h0 0 (Nat.le_of_ble_eq_true rfl)
 have s1_0:a0.tmps.getD 1 undef=.agg (xC x):=h0 1 (Nat.le_of_ble_eq_true rfl)
 refine wp_seq ?_
 refine go_reg [] [⟨0,2,27,(mcC m),none,#[]⟩,⟨1,3,30,(xC x),none,#[]⟩] [none,none,some (.int .u64 0),some (.int .i64 0),oF] mo d0 z0 (Below.refl _ _) (by kernel_rfl) trivial (
  hk (fun cx=>cx.al (wn rfl) 0 rfl (ex_box rfl (cx.rq 0 s0_0) rfl) rfl rfl rfl rfl rfl trivial) <|
  hk (fun cx=>cx.al (wn rfl) 1 rfl (ex_box rfl (cx.rq 1 s1_0) rfl) rfl rfl rfl rfl rfl trivial) <|
  kq (fun cx=>ex_as rfl rfl) <|
  kq (fun cx=>ex_as rfl rfl) <|
  kq (fun cx=>ex_as rfl rfl) <|
  hn) ?_
 intro a1 w1 f1
 obtain ⟨g1,u_g1,q_g1,b_g1⟩:=f1.al.1
 obtain ⟨g2,u_g2,q_g2,b_g2⟩:=f1.al.2.1
 refine wp_seq ?_
 refine wp_seq ?_
 refine go_reg [bx g2 30 (xC x)] [] [some (.agg (xC x)),oT,oF] mo f1.d f1.z f1.b (by kernel_rfl) ⟨b_g2,trivial⟩ (
  kq (fun cx=>Mrm.ldX rfl (cx.rq 3 u_g2) (cx.rn 0 rfl)) <|
  hc (fun _ _ wx cx=>cx.c rfl (args1 cx.u0) Tryz.func32 (by decide +kernel) (Mrm.may_n x hX wx (hT.below cx.S.1.1 (Nat.le_refl _))) rfl (congrArg Value.bool hm)) <|
  kq (fun cx=>ex_not (x:=.tmp 8) rfl cx.u0) <|
  hn) ?_
 intro a2 w2 f2
 refine wp_cond_false (f2.vv 2) ?_
 refine wp_skip ?_
 refine wp_seq ?_
 refine wp_seq ?_
 have b_g2_1:=f2.k b_g2
 have s3_2:=f2.q 3 u_g2
 refine go_reg [bx g2 30 (xC x)] [] [some (pt g2 0),some (.int .i8 27)] mo f2.d f2.z f2.b (by kernel_rfl) ⟨b_g2_1,trivial⟩ (
  kq (fun cx=>ex_fa rfl (cx.rq 3 s3_2) (faExJ26_0_0 _ _)) <|
  hk (fun cx=>cx.v (ex_ld rfl (cx.u 0 rfl) (cx.rn 0 rfl) rfl Tryz.isAgg28) rfl (congrArg (Value.int .i8) hO)) <|
  hn) ?_
 intro a3 w3 f3
 refine wp_block ?_
 refine wp_seq ?_
 refine wp_seq ?_
 refine go_reg [] [] [oF,oF] mo f3.d f3.z f3.b (by kernel_rfl) trivial (
  hk (fun cx=>cx.v (ex_eq (x:=.tmp 11) rfl (cx.rq 11 (f3.vv 1)) rfl) rfl (congrArg Value.bool (by decide))) <|
  kmu 0 <|
  hn) ?_
 intro a4 w4 f4
 refine wp_cond_false (f4.vv 1) ?_
 have s11_3:=f4.q 11 (f3.vv 1)
 refine go_reg [] [] [oT,oT] mo f4.d f4.z f4.b (by kernel_rfl) trivial (
  hk (fun cx=>cx.v (ex_eq (x:=.tmp 11) rfl (cx.rq 11 s11_3) rfl) rfl (congrArg Value.bool (by decide))) <|
  kmu 0 <|
  hn) ?_
 intro a5 w5 f5
 refine wp_cond_true (f5.vv 1) ?_
 refine wp_seq ?_
 have b_g2_4:=f5.k (f4.k (f3.k b_g2_1))
 have b_g1_5:=f5.k (f4.k (f3.k (f2.k b_g1)))
 have s3_6:=f5.q 3 (f4.q 3 (f3.q 3 s3_2))
 have s2_7:=f5.q 2 (f4.q 2 (f3.q 2 (f2.q 2 u_g1)))
 refine go_reg [bx g2 30 (xC x),bx g1 27 (mcC m)] [] [some (pt g2 4),some (.int .i8 x.base),some (pt g1 0),some (pt g1 (x.base.toNat)),some (.int .u64 (m.r x.base.toNat)),some (pt g2 5),some (.int .i64 x.disp),some (.int .u64 (IntKind.u64.wrap x.disp)),some (.int .u64 (IntKind.u64.wrap ((m.r x.base.toNat)+(IntKind.u64.wrap x.disp)))),some (pt g2 1),some (.int .i8 x.w),some (.int .i64 x.w),some (.int .i64 (x.w / 8)),some (.int .u64 (IntKind.u64.wrap ((m.r x.base.toNat)+(IntKind.u64.wrap x.disp)))),some (.int .i64 (x.w / 8)),oT] mo f5.d f5.z f5.b (by kernel_rfl) ⟨b_g2_4,b_g1_5,trivial⟩ (
  kq (fun cx=>ex_fa rfl (cx.rq 3 s3_6) (faExJ26_4_0 _ _)) <|
  kq (fun cx=>ex_ld rfl (cx.u 0 rfl) (cx.rn 0 rfl) rfl Tryz.isAgg28) <|
  kq (fun cx=>ex_fa rfl (cx.rq 2 s2_7) (faExJ36_0_0 _ _)) <|
  hk (fun cx=>cx.v (ex_ia (n:=16) (sz:=1) rfl (cx.u 0 rfl) (cx.u 1 rfl) Tryz.underlying23 (by kernel_rfl) (by omega) (by omega) (by omega)) rfl rfl) <|
  hk (fun cx=>cx.v (ldMcR (by omega) rfl (cx.u 0 rfl) (cx.rn 1 rfl)) rfl rfl) <|
  kq (fun cx=>ex_fa rfl (cx.rq 3 s3_6) (faExJ26_5_0 _ _)) <|
  kq (fun cx=>ex_ld rfl (cx.u 0 rfl) (cx.rn 0 rfl) rfl Tryz.isAgg3) <|
  kq (fun cx=>ex_conv (x:=.tmp 21) rfl cx.u0 Tryz.underlying3 Tryz.underlying22) <|
  kq (fun cx=>ex_add (x:=.tmp 19) (y:=.tmp 22) rfl cx.u0 cx.u1) <|
  kq (fun cx=>ex_fa rfl (cx.rq 3 s3_6) (faExJ26_1_0 _ _)) <|
  kq (fun cx=>ex_ld rfl (cx.u 0 rfl) (cx.rn 0 rfl) rfl Tryz.isAgg28) <|
  hk (fun cx=>cx.v (ex_conv (x:=.tmp 25) rfl cx.u0 Tryz.underlying28 Tryz.underlying3) rfl (congrArg (Value.int .i64) (wrap_w8 hX))) <|
  hc (fun _ ax _ cx=>cx.q (v:=.int .i64 (x.w / 8)) (by simp [execOp,Act.eval,(show ax.tmps.getD 26 undef=.int .i64 x.w from cx.u0),go_sem])) <|
  kmu 0 <|
  kmu 0 <|
  kq (fun cx=>ex_as rfl rfl) <|
  hn) ?_
 intro a6 w6 f6
 refine wp_ret ?_
 try simp only [Exit.inBlock,Exit.then]
 refine bodyPost_ret (res_ttt (fn:=Tryz.f6) rfl (f6.vv 13) (f6.vv 14) (f6.vv 15)) f6.d ?_
 have HE:(.tuple #[.int .u64 (IntKind.u64.wrap ((m.r x.base.toNat)+(IntKind.u64.wrap x.disp))),.int .i64 (x.w / 8),.bool true]:Value)=.tuple #[.int .u64 (IntKind.u64.wrap (m.r x.base.toNat+IntKind.u64.wrap x.disp)),.int .i64 (x.w / 8),.bool true]:=rfl
 exact ⟨retV HE,f6.b⟩
theorem adr_30 (m:Mc)(x:Xi)(W:World)(hT:Mrm.Tabs W)(hX:Mrm.XOk x)(hM:MOk m)(hm:mayX x=true)(hO:x.op=30):Calls Tryz.prog 6 #[.agg (mcC m),.agg (xC x)] W fun e w'=>e=.returned (.tuple #[.int .u64 (m.r 4),.int .i64 8,.bool true])∧Below W.heap.size W w':=by
 refine calls_abs Tryz.func6 rfl (Nat.le_of_ble_eq_true rfl) ?_
 intro a0 d0 z0 h0
 replace z0:a0.tmps.size=33:=z0
 have s0_0:a0.tmps.getD 0 undef=.agg (mcC m):=h0 0 (Nat.le_of_ble_eq_true rfl)
 have s1_0:a0.tmps.getD 1 undef=.agg (xC x):=h0 1 (Nat.le_of_ble_eq_true rfl)
 refine wp_seq ?_
 refine go_reg [] [⟨0,2,27,(mcC m),none,#[]⟩,⟨1,3,30,(xC x),none,#[]⟩] [none,none,some (.int .u64 0),some (.int .i64 0),oF] mo d0 z0 (Below.refl _ _) (by kernel_rfl) trivial (
  hk (fun cx=>cx.al (wn rfl) 0 rfl (ex_box rfl (cx.rq 0 s0_0) rfl) rfl rfl rfl rfl rfl trivial) <|
  hk (fun cx=>cx.al (wn rfl) 1 rfl (ex_box rfl (cx.rq 1 s1_0) rfl) rfl rfl rfl rfl rfl trivial) <|
  kq (fun cx=>ex_as rfl rfl) <|
  kq (fun cx=>ex_as rfl rfl) <|
  kq (fun cx=>ex_as rfl rfl) <|
  hn) ?_
 intro a1 w1 f1
 obtain ⟨g1,u_g1,q_g1,b_g1⟩:=f1.al.1
 obtain ⟨g2,u_g2,q_g2,b_g2⟩:=f1.al.2.1
 refine wp_seq ?_
 refine wp_seq ?_
 refine go_reg [bx g2 30 (xC x)] [] [some (.agg (xC x)),oT,oF] mo f1.d f1.z f1.b (by kernel_rfl) ⟨b_g2,trivial⟩ (
  kq (fun cx=>Mrm.ldX rfl (cx.rq 3 u_g2) (cx.rn 0 rfl)) <|
  hc (fun _ _ wx cx=>cx.c rfl (args1 cx.u0) Tryz.func32 (by decide +kernel) (Mrm.may_n x hX wx (hT.below cx.S.1.1 (Nat.le_refl _))) rfl (congrArg Value.bool hm)) <|
  kq (fun cx=>ex_not (x:=.tmp 8) rfl cx.u0) <|
  hn) ?_
 intro a2 w2 f2
 refine wp_cond_false (f2.vv 2) ?_
 refine wp_skip ?_
 refine wp_seq ?_
 refine wp_seq ?_
 have b_g2_1:=f2.k b_g2
 have s3_2:=f2.q 3 u_g2
 refine go_reg [bx g2 30 (xC x)] [] [some (pt g2 0),some (.int .i8 30)] mo f2.d f2.z f2.b (by kernel_rfl) ⟨b_g2_1,trivial⟩ (
  kq (fun cx=>ex_fa rfl (cx.rq 3 s3_2) (faExJ26_0_0 _ _)) <|
  hk (fun cx=>cx.v (ex_ld rfl (cx.u 0 rfl) (cx.rn 0 rfl) rfl Tryz.isAgg28) rfl (congrArg (Value.int .i8) hO)) <|
  hn) ?_
 intro a3 w3 f3
 refine wp_block ?_
 refine wp_seq ?_
 refine wp_seq ?_
 refine go_reg [] [] [oF,oF] mo f3.d f3.z f3.b (by kernel_rfl) trivial (
  hk (fun cx=>cx.v (ex_eq (x:=.tmp 11) rfl (cx.rq 11 (f3.vv 1)) rfl) rfl (congrArg Value.bool (by decide))) <|
  kmu 0 <|
  hn) ?_
 intro a4 w4 f4
 refine wp_cond_false (f4.vv 1) ?_
 have s11_3:=f4.q 11 (f3.vv 1)
 refine go_reg [] [] [oF,oF] mo f4.d f4.z f4.b (by kernel_rfl) trivial (
  hk (fun cx=>cx.v (ex_eq (x:=.tmp 11) rfl (cx.rq 11 s11_3) rfl) rfl (congrArg Value.bool (by decide))) <|
  kmu 0 <|
  hn) ?_
 intro a5 w5 f5
 refine wp_cond_false (f5.vv 1) ?_
 refine wp_seq ?_
 have s11_4:=f5.q 11 s11_3
 refine go_reg [] [] [oT,oT] mo f5.d f5.z f5.b (by kernel_rfl) trivial (
  hk (fun cx=>cx.v (ex_eq (x:=.tmp 11) rfl (cx.rq 11 s11_4) rfl) rfl (congrArg Value.bool (by decide))) <|
  kmu 0 <|
  hn) ?_
 intro a6 w6 f6
 refine wp_cond_true (f6.vv 1) ?_
 refine wp_seq ?_
 have b_g1_5:=f6.k (f5.k (f4.k (f3.k (f2.k b_g1))))
 have s2_6:=f6.q 2 (f5.q 2 (f4.q 2 (f3.q 2 (f2.q 2 u_g1))))
 refine go_reg [bx g1 27 (mcC m)] [] [some (pt g1 0),some (pt g1 (4)),some (.int .u64 (m.r 4)),some (.int .u64 (m.r 4)),some (.int .i64 8),oT] mo f6.d f6.z f6.b (by kernel_rfl) ⟨b_g1_5,trivial⟩ (
  kq (fun cx=>ex_fa rfl (cx.rq 2 s2_6) (faExJ36_0_0 _ _)) <|
  hk (fun cx=>cx.v (ex_ia (n:=16) (sz:=1) rfl (cx.u 0 rfl) rfl Tryz.underlying23 (by kernel_rfl) (by omega) (by omega) (by omega)) rfl rfl) <|
  hk (fun cx=>cx.v (ldMcR (by omega) rfl (cx.u 0 rfl) (cx.rn 0 rfl)) rfl rfl) <|
  kmu 0 <|
  kq (fun cx=>ex_as rfl rfl) <|
  kq (fun cx=>ex_as rfl rfl) <|
  hn) ?_
 intro a7 w7 f7
 refine wp_ret ?_
 try simp only [Exit.inBlock,Exit.then]
 refine bodyPost_ret (res_ttt (fn:=Tryz.f6) rfl (f7.vv 3) (f7.vv 4) (f7.vv 5)) f7.d ?_
 exact ⟨rfl,f7.b⟩
theorem adr_no (m:Mc)(x:Xi)(W:World)(hT:Mrm.Tabs W)(hX:Mrm.XOk x)(hM:MOk m)(hm:mayX x=false):Calls Tryz.prog 6 #[.agg (mcC m),.agg (xC x)] W fun e w'=>e=.returned (.tuple #[.int .u64 0,.int .i64 0,.bool false])∧Below W.heap.size W w':=by
 refine calls_abs Tryz.func6 rfl (Nat.le_of_ble_eq_true rfl) ?_
 intro a0 d0 z0 h0
 replace z0:a0.tmps.size=33:=z0
 have s0_0:a0.tmps.getD 0 undef=.agg (mcC m):=h0 0 (Nat.le_of_ble_eq_true rfl)
 have s1_0:a0.tmps.getD 1 undef=.agg (xC x):=h0 1 (Nat.le_of_ble_eq_true rfl)
 refine wp_seq ?_
 refine go_reg [] [⟨0,2,27,(mcC m),none,#[]⟩,⟨1,3,30,(xC x),none,#[]⟩] [none,none,some (.int .u64 0),some (.int .i64 0),oF] mo d0 z0 (Below.refl _ _) (by kernel_rfl) trivial (
  hk (fun cx=>cx.al (wn rfl) 0 rfl (ex_box rfl (cx.rq 0 s0_0) rfl) rfl rfl rfl rfl rfl trivial) <|
  hk (fun cx=>cx.al (wn rfl) 1 rfl (ex_box rfl (cx.rq 1 s1_0) rfl) rfl rfl rfl rfl rfl trivial) <|
  kq (fun cx=>ex_as rfl rfl) <|
  kq (fun cx=>ex_as rfl rfl) <|
  kq (fun cx=>ex_as rfl rfl) <|
  hn) ?_
 intro a1 w1 f1
 obtain ⟨g1,u_g1,q_g1,b_g1⟩:=f1.al.1
 obtain ⟨g2,u_g2,q_g2,b_g2⟩:=f1.al.2.1
 refine wp_seq ?_
 refine wp_seq ?_
 refine go_reg [bx g2 30 (xC x)] [] [some (.agg (xC x)),oF,oT] mo f1.d f1.z f1.b (by kernel_rfl) ⟨b_g2,trivial⟩ (
  kq (fun cx=>Mrm.ldX rfl (cx.rq 3 u_g2) (cx.rn 0 rfl)) <|
  hc (fun _ _ wx cx=>cx.c rfl (args1 cx.u0) Tryz.func32 (by decide +kernel) (Mrm.may_n x hX wx (hT.below cx.S.1.1 (Nat.le_refl _))) rfl (congrArg Value.bool hm)) <|
  kq (fun cx=>ex_not (x:=.tmp 8) rfl cx.u0) <|
  hn) ?_
 intro a2 w2 f2
 refine wp_cond_true (f2.vv 2) ?_
 refine wp_seq ?_
 refine go_reg [] [] [some (.int .u64 0),some (.int .i64 0),oF] mo f2.d f2.z f2.b (by kernel_rfl) trivial (
  kq (fun cx=>ex_as rfl rfl) <|
  kq (fun cx=>ex_as rfl rfl) <|
  kq (fun cx=>ex_as rfl rfl) <|
  hn) ?_
 intro a3 w3 f3
 refine wp_ret ?_
 try simp only [Exit.inBlock,Exit.then]
 refine bodyPost_ret (res_ttt (fn:=Tryz.f6) rfl (f3.vv 0) (f3.vv 1) (f3.vv 2)) f3.d ?_
 exact ⟨rfl,f3.b⟩
theorem adr_oth (m:Mc)(x:Xi)(W:World)(hT:Mrm.Tabs W)(hX:Mrm.XOk x)(hM:MOk m)(hm:mayX x=true)(n26:(x.op == 26)=false)(n27:(x.op == 27)=false)(n30:(x.op == 30)=false):Calls Tryz.prog 6 #[.agg (mcC m),.agg (xC x)] W fun e w'=>e=.returned (.tuple #[.int .u64 0,.int .i64 0,.bool false])∧Below W.heap.size W w':=by
 refine calls_abs Tryz.func6 rfl (Nat.le_of_ble_eq_true rfl) ?_
 intro a0 d0 z0 h0
 replace z0:a0.tmps.size=33:=z0
 have s0_0:a0.tmps.getD 0 undef=.agg (mcC m):=h0 0 (Nat.le_of_ble_eq_true rfl)
 have s1_0:a0.tmps.getD 1 undef=.agg (xC x):=h0 1 (Nat.le_of_ble_eq_true rfl)
 refine wp_seq ?_
 refine go_reg [] [⟨0,2,27,(mcC m),none,#[]⟩,⟨1,3,30,(xC x),none,#[]⟩] [none,none,some (.int .u64 0),some (.int .i64 0),oF] mo d0 z0 (Below.refl _ _) (by kernel_rfl) trivial (
  hk (fun cx=>cx.al (wn rfl) 0 rfl (ex_box rfl (cx.rq 0 s0_0) rfl) rfl rfl rfl rfl rfl trivial) <|
  hk (fun cx=>cx.al (wn rfl) 1 rfl (ex_box rfl (cx.rq 1 s1_0) rfl) rfl rfl rfl rfl rfl trivial) <|
  kq (fun cx=>ex_as rfl rfl) <|
  kq (fun cx=>ex_as rfl rfl) <|
  kq (fun cx=>ex_as rfl rfl) <|
  hn) ?_
 intro a1 w1 f1
 obtain ⟨g1,u_g1,q_g1,b_g1⟩:=f1.al.1
 obtain ⟨g2,u_g2,q_g2,b_g2⟩:=f1.al.2.1
 refine wp_seq ?_
 refine wp_seq ?_
 refine go_reg [bx g2 30 (xC x)] [] [some (.agg (xC x)),oT,oF] mo f1.d f1.z f1.b (by kernel_rfl) ⟨b_g2,trivial⟩ (
  kq (fun cx=>Mrm.ldX rfl (cx.rq 3 u_g2) (cx.rn 0 rfl)) <|
  hc (fun _ _ wx cx=>cx.c rfl (args1 cx.u0) Tryz.func32 (by decide +kernel) (Mrm.may_n x hX wx (hT.below cx.S.1.1 (Nat.le_refl _))) rfl (congrArg Value.bool hm)) <|
  kq (fun cx=>ex_not (x:=.tmp 8) rfl cx.u0) <|
  hn) ?_
 intro a2 w2 f2
 refine wp_cond_false (f2.vv 2) ?_
 refine wp_skip ?_
 refine wp_seq ?_
 refine wp_seq ?_
 have b_g2_1:=f2.k b_g2
 have s3_2:=f2.q 3 u_g2
 refine go_reg [bx g2 30 (xC x)] [] [some (pt g2 0),some (.int .i8 x.op)] mo f2.d f2.z f2.b (by kernel_rfl) ⟨b_g2_1,trivial⟩ (
  kq (fun cx=>ex_fa rfl (cx.rq 3 s3_2) (faExJ26_0_0 _ _)) <|
  kq (fun cx=>ex_ld rfl (cx.u 0 rfl) (cx.rn 0 rfl) rfl Tryz.isAgg28) <|
  hn) ?_
 intro a3 w3 f3
 refine wp_block ?_
 refine wp_seq ?_
 refine wp_seq ?_
 refine go_reg [] [] [oF,oF] mo f3.d f3.z f3.b (by kernel_rfl) trivial (
  hk (fun cx=>cx.v (ex_eq (x:=.tmp 11) rfl (cx.rq 11 (f3.vv 1)) rfl) rfl (congrArg Value.bool n26)) <|
  kmu 0 <|
  hn) ?_
 intro a4 w4 f4
 refine wp_cond_false (f4.vv 1) ?_
 have s11_3:=f4.q 11 (f3.vv 1)
 refine go_reg [] [] [oF,oF] mo f4.d f4.z f4.b (by kernel_rfl) trivial (
  hk (fun cx=>cx.v (ex_eq (x:=.tmp 11) rfl (cx.rq 11 s11_3) rfl) rfl (congrArg Value.bool n27)) <|
  kmu 0 <|
  hn) ?_
 intro a5 w5 f5
 refine wp_cond_false (f5.vv 1) ?_
 refine wp_seq ?_
 have s11_4:=f5.q 11 s11_3
 refine go_reg [] [] [oF,oF] mo f5.d f5.z f5.b (by kernel_rfl) trivial (
  hk (fun cx=>cx.v (ex_eq (x:=.tmp 11) rfl (cx.rq 11 s11_4) rfl) rfl (congrArg Value.bool n30)) <|
  kmu 0 <|
  hn) ?_
 intro a6 w6 f6
 refine wp_cond_false (f6.vv 1) ?_
 refine wp_skip ?_
 refine wp_seq ?_
 refine go_reg [] [] [some (.int .u64 0),some (.int .i64 0),oF] mo f6.d f6.z f6.b (by kernel_rfl) trivial (
  kq (fun cx=>ex_as rfl rfl) <|
  kq (fun cx=>ex_as rfl rfl) <|
  kq (fun cx=>ex_as rfl rfl) <|
  hn) ?_
 intro a7 w7 f7
 refine wp_ret ?_
 try simp only [Exit.inBlock,Exit.then]
 refine bodyPost_ret (res_ttt (fn:=Tryz.f6) rfl (f7.vv 0) (f7.vv 1) (f7.vv 2)) f7.d ?_
 exact ⟨rfl,f7.b⟩
theorem sto_yes (m:Mc)(x:Xi)(W:World)(hT:Mrm.Tabs W)(hX:Mrm.XOk x)(hM:MOk m)(hm:mayX x=true)(hO:x.op=27):Calls Tryz.prog 14 #[.agg (mcC m),.agg (xC x)] W fun e w'=>e=.returned (.int .u64 (cutI (m.r x.src.toNat) x.w))∧Below W.heap.size W w':=by
 have hs:=(Mrm.may_parts' hm).2.2.1
 refine calls_abs Tryz.func14 rfl (Nat.le_of_ble_eq_true rfl) ?_
 intro a0 d0 z0 h0
 replace z0:a0.tmps.size=21:=z0
 have s0_0:a0.tmps.getD 0 undef=.agg (mcC m):=h0 0 (Nat.le_of_ble_eq_true rfl)
 have s1_0:a0.tmps.getD 1 undef=.agg (xC x):=h0 1 (Nat.le_of_ble_eq_true rfl)
 refine wp_seq ?_
 refine go_reg [] [⟨0,2,27,(mcC m),none,#[]⟩,⟨1,3,30,(xC x),none,#[]⟩] [none,none,some (.int .u64 0)] mo d0 z0 (Below.refl _ _) (by kernel_rfl) trivial (
  hk (fun cx=>cx.al (wn rfl) 0 rfl (ex_box rfl (cx.rq 0 s0_0) rfl) rfl rfl rfl rfl rfl trivial) <|
  hk (fun cx=>cx.al (wn rfl) 1 rfl (ex_box rfl (cx.rq 1 s1_0) rfl) rfl rfl rfl rfl rfl trivial) <|
  kq (fun cx=>ex_as rfl rfl) <|
  hn) ?_
 intro a1 w1 f1
 obtain ⟨g1,u_g1,q_g1,b_g1⟩:=f1.al.1
 obtain ⟨g2,u_g2,q_g2,b_g2⟩:=f1.al.2.1
 refine wp_seq ?_
 refine wp_seq ?_
 refine go_reg [bx g2 30 (xC x)] [] [some (pt g2 0),some (.int .i8 27),oF,oF,some (.agg (xC x)),oT,oF,oF] mo f1.d f1.z f1.b (by kernel_rfl) ⟨b_g2,trivial⟩ (
  kq (fun cx=>ex_fa rfl (cx.rq 3 u_g2) (faExJ26_0_0 _ _)) <|
  hk (fun cx=>cx.v (ex_ld rfl (cx.u 0 rfl) (cx.rn 0 rfl) rfl Tryz.isAgg28) rfl (congrArg (Value.int .i8) hO)) <|
  hk (fun cx=>cx.v (ex_ne (x:=.tmp 6) rfl cx.u0 rfl) rfl (congrArg Value.bool (by decide))) <|
  kmu 0 <|
  hk (fun cx=>cx.vy 0 (Mrm.ldX rfl (cx.rq 3 u_g2) (cx.rn 0 rfl))) <|
  hc (fun _ _ wx cx=>cx.call (cx.wy rfl rfl rfl rfl cx.u1) rfl rfl (args1 cx.u0) Tryz.func32 (by decide +kernel) rfl (Mrm.may_n x hX wx (hT.below cx.S.1.1 (Nat.le_refl _))) rfl rfl (congrArg Value.bool hm) rfl) <|
  hk (fun cx=>cx.vy 1 (ex_not (x:=.tmp 10) rfl cx.u0)) <|
  kq (fun cx=>ex_pf rfl cx.u0 cx.u1) <|
  hn) ?_
 intro a2 w2 f2
 refine wp_cond_false (f2.vv 7) ?_
 refine wp_skip ?_
 refine wp_seq ?_
 have b_g2_1:=f2.k b_g2
 have b_g1_2:=f2.k b_g1
 have s3_3:=f2.q 3 u_g2
 have s2_4:=f2.q 2 u_g1
 refine go_reg [bx g2 30 (xC x),bx g1 27 (mcC m)] [] [some (pt g2 3),some (.int .i8 x.src),some (pt g1 0),some (pt g1 (x.src.toNat)),some (.int .u64 (m.r x.src.toNat)),some (pt g2 1),some (.int .i8 x.w),some (.int .u64 (cutI (m.r x.src.toNat) x.w)),some (.int .u64 (cutI (m.r x.src.toNat) x.w))] mo f2.d f2.z f2.b (by kernel_rfl) ⟨b_g2_1,b_g1_2,trivial⟩ (
  kq (fun cx=>ex_fa rfl (cx.rq 3 s3_3) (faExJ26_3_0 _ _)) <|
  kq (fun cx=>ex_ld rfl (cx.u 0 rfl) (cx.rn 0 rfl) rfl Tryz.isAgg28) <|
  kq (fun cx=>ex_fa rfl (cx.rq 2 s2_4) (faExJ36_0_0 _ _)) <|
  hk (fun cx=>cx.v (ex_ia (n:=16) (sz:=1) rfl (cx.u 0 rfl) (cx.u 1 rfl) Tryz.underlying23 (by kernel_rfl) (by omega) (by omega) (by omega)) rfl rfl) <|
  hk (fun cx=>cx.v (ldMcR (by omega) rfl (cx.u 0 rfl) (cx.rn 1 rfl)) rfl rfl) <|
  kq (fun cx=>ex_fa rfl (cx.rq 3 s3_3) (faExJ26_1_0 _ _)) <|
  kq (fun cx=>ex_ld rfl (cx.u 0 rfl) (cx.rn 0 rfl) rfl Tryz.isAgg28) <|
  hc (fun _ _ wx cx=>cx.c rfl (args2 cx.u0 cx.u1) Tryz.func34 (by decide +kernel) (((cut_any (m.r x.src.toNat) x.w wx).mono (by rintro e w' ⟨rfl,rfl⟩;exact ⟨rfl,Below.refl _ _⟩))) rfl rfl) <|
  kmu 0 <|
  hn) ?_
 intro a3 w3 f3
 refine wp_ret ?_
 try simp only [Exit.inBlock,Exit.then]
 refine bodyPost_ret (res_t (fn:=Tryz.f14) rfl (f3.vv 8)) f3.d ?_
 exact ⟨rfl,f3.b⟩
theorem sto_no (m:Mc)(x:Xi)(W:World)(hT:Mrm.Tabs W)(hX:Mrm.XOk x)(hM:MOk m)(hm:mayX x=false)(hO:x.op=27):Calls Tryz.prog 14 #[.agg (mcC m),.agg (xC x)] W fun e w'=>e=.returned (.int .u64 0)∧Below W.heap.size W w':=by
 refine calls_abs Tryz.func14 rfl (Nat.le_of_ble_eq_true rfl) ?_
 intro a0 d0 z0 h0
 replace z0:a0.tmps.size=21:=z0
 have s0_0:a0.tmps.getD 0 undef=.agg (mcC m):=h0 0 (Nat.le_of_ble_eq_true rfl)
 have s1_0:a0.tmps.getD 1 undef=.agg (xC x):=h0 1 (Nat.le_of_ble_eq_true rfl)
 refine wp_seq ?_
 refine go_reg [] [⟨0,2,27,(mcC m),none,#[]⟩,⟨1,3,30,(xC x),none,#[]⟩] [none,none,some (.int .u64 0)] mo d0 z0 (Below.refl _ _) (by kernel_rfl) trivial (
  hk (fun cx=>cx.al (wn rfl) 0 rfl (ex_box rfl (cx.rq 0 s0_0) rfl) rfl rfl rfl rfl rfl trivial) <|
  hk (fun cx=>cx.al (wn rfl) 1 rfl (ex_box rfl (cx.rq 1 s1_0) rfl) rfl rfl rfl rfl rfl trivial) <|
  kq (fun cx=>ex_as rfl rfl) <|
  hn) ?_
 intro a1 w1 f1
 obtain ⟨g1,u_g1,q_g1,b_g1⟩:=f1.al.1
 obtain ⟨g2,u_g2,q_g2,b_g2⟩:=f1.al.2.1
 refine wp_seq ?_
 refine wp_seq ?_
 refine go_reg [bx g2 30 (xC x)] [] [some (pt g2 0),some (.int .i8 27),oF,oF,some (.agg (xC x)),oF,oT,oT] mo f1.d f1.z f1.b (by kernel_rfl) ⟨b_g2,trivial⟩ (
  kq (fun cx=>ex_fa rfl (cx.rq 3 u_g2) (faExJ26_0_0 _ _)) <|
  hk (fun cx=>cx.v (ex_ld rfl (cx.u 0 rfl) (cx.rn 0 rfl) rfl Tryz.isAgg28) rfl (congrArg (Value.int .i8) hO)) <|
  hk (fun cx=>cx.v (ex_ne (x:=.tmp 6) rfl cx.u0 rfl) rfl (congrArg Value.bool (by decide))) <|
  kmu 0 <|
  hk (fun cx=>cx.vy 0 (Mrm.ldX rfl (cx.rq 3 u_g2) (cx.rn 0 rfl))) <|
  hc (fun _ _ wx cx=>cx.call (cx.wy rfl rfl rfl rfl cx.u1) rfl rfl (args1 cx.u0) Tryz.func32 (by decide +kernel) rfl (Mrm.may_n x hX wx (hT.below cx.S.1.1 (Nat.le_refl _))) rfl rfl (congrArg Value.bool hm) rfl) <|
  hk (fun cx=>cx.vy 1 (ex_not (x:=.tmp 10) rfl cx.u0)) <|
  kq (fun cx=>ex_pf rfl cx.u0 cx.u1) <|
  hn) ?_
 intro a2 w2 f2
 refine wp_cond_true (f2.vv 7) ?_
 refine wp_seq ?_
 refine go_reg [] [] [some (.int .u64 0)] mo f2.d f2.z f2.b (by kernel_rfl) trivial (
  kq (fun cx=>ex_as rfl rfl) <|
  hn) ?_
 intro a3 w3 f3
 refine wp_ret ?_
 try simp only [Exit.inBlock,Exit.then]
 refine bodyPost_ret (res_t (fn:=Tryz.f14) rfl (f3.vv 0)) f3.d ?_
 exact ⟨rfl,f3.b⟩
theorem sto_oth (m:Mc)(x:Xi)(W:World)(hT:Mrm.Tabs W)(hX:Mrm.XOk x)(hM:MOk m)(n27:(x.op != 27)=true):Calls Tryz.prog 14 #[.agg (mcC m),.agg (xC x)] W fun e w'=>e=.returned (.int .u64 0)∧Below W.heap.size W w':=by
 refine calls_abs Tryz.func14 rfl (Nat.le_of_ble_eq_true rfl) ?_
 intro a0 d0 z0 h0
 replace z0:a0.tmps.size=21:=z0
 have s0_0:a0.tmps.getD 0 undef=.agg (mcC m):=h0 0 (Nat.le_of_ble_eq_true rfl)
 have s1_0:a0.tmps.getD 1 undef=.agg (xC x):=h0 1 (Nat.le_of_ble_eq_true rfl)
 refine wp_seq ?_
 refine go_reg [] [⟨0,2,27,(mcC m),none,#[]⟩,⟨1,3,30,(xC x),none,#[]⟩] [none,none,some (.int .u64 0)] mo d0 z0 (Below.refl _ _) (by kernel_rfl) trivial (
  hk (fun cx=>cx.al (wn rfl) 0 rfl (ex_box rfl (cx.rq 0 s0_0) rfl) rfl rfl rfl rfl rfl trivial) <|
  hk (fun cx=>cx.al (wn rfl) 1 rfl (ex_box rfl (cx.rq 1 s1_0) rfl) rfl rfl rfl rfl rfl trivial) <|
  kq (fun cx=>ex_as rfl rfl) <|
  hn) ?_
 intro a1 w1 f1
 obtain ⟨g1,u_g1,q_g1,b_g1⟩:=f1.al.1
 obtain ⟨g2,u_g2,q_g2,b_g2⟩:=f1.al.2.1
 refine wp_seq ?_
 refine wp_seq ?_
 refine go_reg [bx g2 30 (xC x)] [] [some (pt g2 0),some (.int .i8 x.op),oT,oT,oU,oU,oU,oT] mo f1.d f1.z f1.b (by kernel_rfl) ⟨b_g2,trivial⟩ (
  kq (fun cx=>ex_fa rfl (cx.rq 3 u_g2) (faExJ26_0_0 _ _)) <|
  kq (fun cx=>ex_ld rfl (cx.u 0 rfl) (cx.rn 0 rfl) rfl Tryz.isAgg28) <|
  hk (fun cx=>cx.v (ex_ne (x:=.tmp 6) rfl cx.u0 rfl) rfl (congrArg Value.bool n27)) <|
  kmu 0 <|
  kno 0 <|
  kno 1 <|
  kno 1 <|
  kq (fun cx=>ex_pt rfl cx.u0 rfl) <|
  hn) ?_
 intro a2 w2 f2
 refine wp_cond_true (f2.vv 7) ?_
 refine wp_seq ?_
 refine go_reg [] [] [some (.int .u64 0)] mo f2.d f2.z f2.b (by kernel_rfl) trivial (
  kq (fun cx=>ex_as rfl rfl) <|
  hn) ?_
 intro a3 w3 f3
 refine wp_ret ?_
 try simp only [Exit.inBlock,Exit.then]
 refine bodyPost_ret (res_t (fn:=Tryz.f14) rfl (f3.vv 0)) f3.d ?_
 exact ⟨rfl,f3.b⟩
theorem address_n (m:Mc)(x:Xi)(W:World)(hT:Mrm.Tabs W)(hX:Mrm.XOk x)(hM:MOk m):Calls Tryz.prog 6 #[.agg (mcC m),.agg (xC x)] W fun e w'=>e=.returned (.tuple #[.int .u64 (adrX m x),.int .i64 (sizX x),.bool (hasX x)])∧Below W.heap.size W w':=by
 cases hm:mayX x
 ·rw [show adrX m x=0 from if_neg (by rw [hm];exact Bool.false_ne_true),show sizX x=0 from if_neg (by rw [hm];exact Bool.false_ne_true),show hasX x=false by unfold hasX;rw [hm];rfl]
  exact adr_no m x W hT hX hM hm
 ·have e1:adrX m x=if x.op=26∨x.op=27 then IntKind.u64.wrap (m.r x.base.toNat+IntKind.u64.wrap x.disp) else if x.op=30 then m.r 4 else 0:=if_pos hm
  have e2:sizX x=if x.op=26∨x.op=27 then x.w / 8 else if x.op=30 then 8 else 0:=if_pos hm
  have e3:hasX x=(x.op == 26 || x.op == 27 || x.op == 30):=by unfold hasX;rw [hm];rfl
  by_cases h26:x.op=26
  ·rw [e1,e2,e3,if_pos (.inl h26),if_pos (.inl h26),show (x.op == 26)=true from beq_iff_eq.2 h26]
   exact adr_26 m x W hT hX hM hm h26
  ·by_cases h27:x.op=27
   ·rw [e1,e2,e3,if_pos (.inr h27),if_pos (.inr h27),show (x.op == 27)=true from beq_iff_eq.2 h27,Bool.or_true]
    exact adr_27 m x W hT hX hM hm h27
   ·have hn:¬ (x.op=26∨x.op=27):=by omega
    by_cases h30:x.op=30
    ·rw [e1,e2,e3,if_neg hn,if_neg hn,if_pos h30,if_pos h30,show (x.op == 30)=true from beq_iff_eq.2 h30,Bool.or_true]
     exact adr_30 m x W hT hX hM hm h30
    ·have n26:(x.op == 26)=false:=beq_eq_false_iff_ne.2 h26
     have n27:(x.op == 27)=false:=beq_eq_false_iff_ne.2 h27
     have n30:(x.op == 30)=false:=beq_eq_false_iff_ne.2 h30
     rw [e1,e2,e3,if_neg hn,if_neg hn,if_neg h30,if_neg h30,n26,n27,n30]
     exact adr_oth m x W hT hX hM hm n26 n27 n30
theorem stored_n (m:Mc)(x:Xi)(W:World)(hT:Mrm.Tabs W)(hX:Mrm.XOk x)(hM:MOk m):Calls Tryz.prog 14 #[.agg (mcC m),.agg (xC x)] W fun e w'=>e=.returned (.int .u64 (stoX m x))∧Below W.heap.size W w':=by
 by_cases h27:x.op=27
 ·cases hm:mayX x
  ·rw [show stoX m x=0 from if_neg (by rw [hm];simp)]
   exact sto_no m x W hT hX hM hm h27
  ·rw [show stoX m x=_ from if_pos ⟨hm,h27⟩]
   exact sto_yes m x W hT hX hM hm h27
 ·rw [show stoX m x=0 from if_neg (by simp [h27])]
  exact sto_oth m x W hT hX hM (bne_iff_ne.2 h27)
end Go.Proofs.YtjhedldplmhmjaaGreatDoor.Exe
