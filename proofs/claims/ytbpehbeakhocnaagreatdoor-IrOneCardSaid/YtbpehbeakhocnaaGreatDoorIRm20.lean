import Derived.Test.YtbpehbeakhocnaaGreatDoorIRm19
set_option maxHeartbeats 4000000
set_option linter.unusedVariables false
set_option linter.unusedSimpArgs false
set_option linter.unnecessarySimpa false
namespace Go.Proofs.YtbpehbeakhocnaaGreatDoor.Mrm
open Go Go.RowKit
set_option maxRecDepth 100000
theorem cinMem_n (n:Int) (W:World):Calls Tryz.prog 137 #[.int .i8 n] W fun e w'=>e=.returned (.bool (inMemB n)) ∧ Below W.heap.size W w':=by
  refine calls_abs Tryz.func137 rfl (Nat.le_of_ble_eq_true rfl) ?_
  intro a0 d0 z0 h0
  replace z0:a0.tmps.size=9:=z0
  have s0_0:a0.tmps.getD 0 undef=.int .i8 n:=h0 0 (Nat.le_of_ble_eq_true rfl)
  refine wp_seq ?_
  refine go_reg [] [] [oF] mo d0 z0 (Below.refl _ _) (by kernel_rfl) trivial (
   hk (fun cx=>cx.q (ex_as rfl rfl)) <|
   hn) ?_
  intro a1 w1 f1
  refine wp_seq ?_
  cases fk1:n == 7
  case true=>
   have Ffk1:=Lib.hid fk1;clear fk1
   have s0_1:=f1.q 0 s0_0
   refine go_reg [] [] [some (.int .i8 n),oT,oT,oU,oU,oT,oT] mo f1.d f1.z f1.b (by kernel_rfl) trivial (
    hk (fun cx=>cx.q (ex_mv rfl (cx.rq 0 s0_1))) <|
    hk (fun cx=>cx.v (ex_eq (x:=.tmp 3) rfl (cx.u 0 rfl) rfl) rfl (congrArg Value.bool Ffk1.out)) <|
    kmu 0 <|
    kno 0 <|
    kno 1 <|
    hk (fun cx=>cx.q (ex_pt rfl (cx.u 0 rfl) rfl)) <|
    kmu 0 <|
    hn) ?_
   intro a2 w2 f2
   refine wp_ret ?_
   try simp only [Exit.inBlock,Exit.then]
   refine bodyPost_ret (res_t (fn:=Tryz.f137) rfl (f2.v 6 rfl rfl rfl)) f2.d ?_
   have HE:(.bool true:Value)=.bool (inMemB n):=by unfold inMemB;simp only [Ffk1.out,Bool.true_and,Bool.and_true,Bool.false_and,Bool.and_false,Bool.or_false,Bool.false_or,Bool.true_or,Bool.or_true,Bool.not_true,Bool.not_false,if_true,if_false,Bool.false_eq_true,Bool.true_eq_false,reduceCtorEq];try rfl
   exact ⟨retV HE,f2.b⟩
  have Ffk1:=Lib.hid fk1;clear fk1
  cases fk2:n == 8
  case true=>
   have Ffk2:=Lib.hid fk2;clear fk2
   have s0_2:=f1.q 0 s0_0
   refine go_reg [] [] [some (.int .i8 n),oF,oF,some (.int .i8 n),oT,oT,oT] mo f1.d f1.z f1.b (by kernel_rfl) trivial (
    hk (fun cx=>cx.q (ex_mv rfl (cx.rq 0 s0_2))) <|
    hk (fun cx=>cx.v (ex_eq (x:=.tmp 3) rfl (cx.u 0 rfl) rfl) rfl (congrArg Value.bool Ffk1.out)) <|
    kmu 0 <|
    hk (fun cx=>cx.vy 0 (ex_mv rfl (cx.rq 0 s0_2))) <|
    hk (fun cx=>cx.vy 1 (ex_eq (x:=.tmp 6) rfl (cx.u 0 rfl) rfl) (congrArg Value.bool Ffk2.out)) <|
    hk (fun cx=>cx.q (ex_pf rfl (cx.u 0 rfl) (cx.u 1 rfl))) <|
    kmu 0 <|
    hn) ?_
   intro a3 w3 f3
   refine wp_ret ?_
   try simp only [Exit.inBlock,Exit.then]
   refine bodyPost_ret (res_t (fn:=Tryz.f137) rfl (f3.v 6 rfl rfl rfl)) f3.d ?_
   have HE:(.bool true:Value)=.bool (inMemB n):=by unfold inMemB;simp only [Ffk1.out,Ffk2.out,Bool.true_and,Bool.and_true,Bool.false_and,Bool.and_false,Bool.or_false,Bool.false_or,Bool.true_or,Bool.or_true,Bool.not_true,Bool.not_false,if_true,if_false,Bool.false_eq_true,Bool.true_eq_false,reduceCtorEq];try rfl
   exact ⟨retV HE,f3.b⟩
  have Ffk2:=Lib.hid fk2;clear fk2
  have s0_3:=f1.q 0 s0_0
  refine go_reg [] [] [some (.int .i8 n),oF,oF,some (.int .i8 n),oF,oF,oF] mo f1.d f1.z f1.b (by kernel_rfl) trivial (
   hk (fun cx=>cx.q (ex_mv rfl (cx.rq 0 s0_3))) <|
   hk (fun cx=>cx.v (ex_eq (x:=.tmp 3) rfl (cx.u 0 rfl) rfl) rfl (congrArg Value.bool Ffk1.out)) <|
   kmu 0 <|
   hk (fun cx=>cx.vy 0 (ex_mv rfl (cx.rq 0 s0_3))) <|
   hk (fun cx=>cx.vy 1 (ex_eq (x:=.tmp 6) rfl (cx.u 0 rfl) rfl) (congrArg Value.bool Ffk2.out)) <|
   hk (fun cx=>cx.q (ex_pf rfl (cx.u 0 rfl) (cx.u 1 rfl))) <|
   kmu 0 <|
   hn) ?_
  intro a4 w4 f4
  refine wp_ret ?_
  try simp only [Exit.inBlock,Exit.then]
  refine bodyPost_ret (res_t (fn:=Tryz.f137) rfl (f4.v 6 rfl rfl rfl)) f4.d ?_
  have HE:(.bool false:Value)=.bool (inMemB n):=by unfold inMemB;simp only [Ffk1.out,Ffk2.out,Bool.true_and,Bool.and_true,Bool.false_and,Bool.and_false,Bool.or_false,Bool.false_or,Bool.true_or,Bool.or_true,Bool.not_true,Bool.not_false,if_true,if_false,Bool.false_eq_true,Bool.true_eq_false,reduceCtorEq];try rfl
  exact ⟨retV HE,f4.b⟩
theorem cinOp_n (n:Int) (W:World):Calls Tryz.prog 139 #[.int .i8 n] W fun e w'=>e=.returned (.bool (inOpB n)) ∧ Below W.heap.size W w':=by
  refine calls_abs Tryz.func139 rfl (Nat.le_of_ble_eq_true rfl) ?_
  intro a0 d0 z0 h0
  replace z0:a0.tmps.size=12:=z0
  have s0_0:a0.tmps.getD 0 undef=.int .i8 n:=h0 0 (Nat.le_of_ble_eq_true rfl)
  refine wp_seq ?_
  refine go_reg [] [] [oF] mo d0 z0 (Below.refl _ _) (by kernel_rfl) trivial (
   hk (fun cx=>cx.q (ex_as rfl rfl)) <|
   hn) ?_
  intro a1 w1 f1
  refine wp_seq ?_
  refine wp_seq ?_
  have s0_1:=f1.q 0 s0_0
  refine go_reg [] [] [some (.int .i8 n)] mo f1.d f1.z f1.b (by kernel_rfl) trivial (
   hk (fun cx=>cx.q (ex_mv rfl (cx.rq 0 s0_1))) <|
   hn) ?_
  intro a2 w2 f2
  refine wp_block ?_
  refine wp_seq ?_
  refine wp_seq ?_
  cases fk1:n == 1
  case true=>
   have Ffk1:=Lib.hid fk1;clear fk1
   refine go_reg [] [] [oT,oT] mo f2.d f2.z f2.b (by kernel_rfl) trivial (
    hk (fun cx=>cx.v (ex_eq (x:=.tmp 3) rfl (cx.rq 3 (f2.v 0 rfl rfl rfl)) rfl) rfl (congrArg Value.bool Ffk1.out)) <|
    kmu 0 <|
    hn) ?_
   intro a3 w3 f3
   refine wp_cond_true (f3.v 1 rfl rfl rfl) ?_
   refine wp_skip ?_
   refine wp_cond_true (f3.v 1 rfl rfl rfl) ?_
   refine wp_seq ?_
   refine go_reg [] [] [oT] mo f3.d f3.z f3.b (by kernel_rfl) trivial (
    hk (fun cx=>cx.q (ex_as rfl rfl)) <|
    hn) ?_
   intro a4 w4 f4
   refine wp_ret ?_
   try simp only [Exit.inBlock,Exit.then]
   refine bodyPost_ret (res_t (fn:=Tryz.f139) rfl (f4.v 0 rfl rfl rfl)) f4.d ?_
   have HE:(.bool true:Value)=.bool (inOpB n):=by unfold inOpB;simp only [Ffk1.out,Bool.true_and,Bool.and_true,Bool.false_and,Bool.and_false,Bool.or_false,Bool.false_or,Bool.true_or,Bool.or_true,Bool.not_true,Bool.not_false,if_true,if_false,Bool.false_eq_true,Bool.true_eq_false,reduceCtorEq];try rfl
   exact ⟨retV HE,f4.b⟩
  have Ffk1:=Lib.hid fk1;clear fk1
  refine go_reg [] [] [oF,oF] mo f2.d f2.z f2.b (by kernel_rfl) trivial (
   hk (fun cx=>cx.v (ex_eq (x:=.tmp 3) rfl (cx.rq 3 (f2.v 0 rfl rfl rfl)) rfl) rfl (congrArg Value.bool Ffk1.out)) <|
   kmu 0 <|
   hn) ?_
  intro a5 w5 f5
  refine wp_cond_false (f5.v 1 rfl rfl rfl) ?_
  refine wp_seq ?_
  cases fk2:n == 2
  case true=>
   have Ffk2:=Lib.hid fk2;clear fk2
   have s3_2:=f5.q 3 (f2.v 0 rfl rfl rfl)
   refine go_reg [] [] [oT,oT] mo f5.d f5.z f5.b (by kernel_rfl) trivial (
    hk (fun cx=>cx.v (ex_eq (x:=.tmp 3) rfl (cx.rq 3 s3_2) rfl) rfl (congrArg Value.bool Ffk2.out)) <|
    kmu 0 <|
    hn) ?_
   intro a6 w6 f6
   refine wp_cond_true (f6.v 1 rfl rfl rfl) ?_
   refine wp_skip ?_
   refine wp_cond_true (f6.v 1 rfl rfl rfl) ?_
   refine wp_seq ?_
   refine go_reg [] [] [oT] mo f6.d f6.z f6.b (by kernel_rfl) trivial (
    hk (fun cx=>cx.q (ex_as rfl rfl)) <|
    hn) ?_
   intro a7 w7 f7
   refine wp_ret ?_
   try simp only [Exit.inBlock,Exit.then]
   refine bodyPost_ret (res_t (fn:=Tryz.f139) rfl (f7.v 0 rfl rfl rfl)) f7.d ?_
   have HE:(.bool true:Value)=.bool (inOpB n):=by unfold inOpB;simp only [Ffk1.out,Ffk2.out,Bool.true_and,Bool.and_true,Bool.false_and,Bool.and_false,Bool.or_false,Bool.false_or,Bool.true_or,Bool.or_true,Bool.not_true,Bool.not_false,if_true,if_false,Bool.false_eq_true,Bool.true_eq_false,reduceCtorEq];try rfl
   exact ⟨retV HE,f7.b⟩
  have Ffk2:=Lib.hid fk2;clear fk2
  have s3_3:=f5.q 3 (f2.v 0 rfl rfl rfl)
  refine go_reg [] [] [oF,oF] mo f5.d f5.z f5.b (by kernel_rfl) trivial (
   hk (fun cx=>cx.v (ex_eq (x:=.tmp 3) rfl (cx.rq 3 s3_3) rfl) rfl (congrArg Value.bool Ffk2.out)) <|
   kmu 0 <|
   hn) ?_
  intro a8 w8 f8
  refine wp_cond_false (f8.v 1 rfl rfl rfl) ?_
  refine wp_seq ?_
  cases fk3:n == 3
  case true=>
   have Ffk3:=Lib.hid fk3;clear fk3
   have s3_4:=f8.q 3 s3_3
   refine go_reg [] [] [oT,oT] mo f8.d f8.z f8.b (by kernel_rfl) trivial (
    hk (fun cx=>cx.v (ex_eq (x:=.tmp 3) rfl (cx.rq 3 s3_4) rfl) rfl (congrArg Value.bool Ffk3.out)) <|
    kmu 0 <|
    hn) ?_
   intro a9 w9 f9
   refine wp_cond_true (f9.v 1 rfl rfl rfl) ?_
   refine wp_skip ?_
   refine wp_cond_true (f9.v 1 rfl rfl rfl) ?_
   refine wp_seq ?_
   refine go_reg [] [] [oT] mo f9.d f9.z f9.b (by kernel_rfl) trivial (
    hk (fun cx=>cx.q (ex_as rfl rfl)) <|
    hn) ?_
   intro a10 w10 f10
   refine wp_ret ?_
   try simp only [Exit.inBlock,Exit.then]
   refine bodyPost_ret (res_t (fn:=Tryz.f139) rfl (f10.v 0 rfl rfl rfl)) f10.d ?_
   have HE:(.bool true:Value)=.bool (inOpB n):=by unfold inOpB;simp only [Ffk1.out,Ffk2.out,Ffk3.out,Bool.true_and,Bool.and_true,Bool.false_and,Bool.and_false,Bool.or_false,Bool.false_or,Bool.true_or,Bool.or_true,Bool.not_true,Bool.not_false,if_true,if_false,Bool.false_eq_true,Bool.true_eq_false,reduceCtorEq];try rfl
   exact ⟨retV HE,f10.b⟩
  have Ffk3:=Lib.hid fk3;clear fk3
  have s3_5:=f8.q 3 s3_3
  refine go_reg [] [] [oF,oF] mo f8.d f8.z f8.b (by kernel_rfl) trivial (
   hk (fun cx=>cx.v (ex_eq (x:=.tmp 3) rfl (cx.rq 3 s3_5) rfl) rfl (congrArg Value.bool Ffk3.out)) <|
   kmu 0 <|
   hn) ?_
  intro a11 w11 f11
  refine wp_cond_false (f11.v 1 rfl rfl rfl) ?_
  refine wp_seq ?_
  cases fk4:n == 4
  case true=>
   have Ffk4:=Lib.hid fk4;clear fk4
   have s3_6:=f11.q 3 s3_5
   refine go_reg [] [] [oT,oT] mo f11.d f11.z f11.b (by kernel_rfl) trivial (
    hk (fun cx=>cx.v (ex_eq (x:=.tmp 3) rfl (cx.rq 3 s3_6) rfl) rfl (congrArg Value.bool Ffk4.out)) <|
    kmu 0 <|
    hn) ?_
   intro a12 w12 f12
   refine wp_cond_true (f12.v 1 rfl rfl rfl) ?_
   refine wp_skip ?_
   refine wp_cond_true (f12.v 1 rfl rfl rfl) ?_
   refine wp_seq ?_
   refine go_reg [] [] [oT] mo f12.d f12.z f12.b (by kernel_rfl) trivial (
    hk (fun cx=>cx.q (ex_as rfl rfl)) <|
    hn) ?_
   intro a13 w13 f13
   refine wp_ret ?_
   try simp only [Exit.inBlock,Exit.then]
   refine bodyPost_ret (res_t (fn:=Tryz.f139) rfl (f13.v 0 rfl rfl rfl)) f13.d ?_
   have HE:(.bool true:Value)=.bool (inOpB n):=by unfold inOpB;simp only [Ffk1.out,Ffk2.out,Ffk3.out,Ffk4.out,Bool.true_and,Bool.and_true,Bool.false_and,Bool.and_false,Bool.or_false,Bool.false_or,Bool.true_or,Bool.or_true,Bool.not_true,Bool.not_false,if_true,if_false,Bool.false_eq_true,Bool.true_eq_false,reduceCtorEq];try rfl
   exact ⟨retV HE,f13.b⟩
  have Ffk4:=Lib.hid fk4;clear fk4
  have s3_7:=f11.q 3 s3_5
  refine go_reg [] [] [oF,oF] mo f11.d f11.z f11.b (by kernel_rfl) trivial (
   hk (fun cx=>cx.v (ex_eq (x:=.tmp 3) rfl (cx.rq 3 s3_7) rfl) rfl (congrArg Value.bool Ffk4.out)) <|
   kmu 0 <|
   hn) ?_
  intro a14 w14 f14
  refine wp_cond_false (f14.v 1 rfl rfl rfl) ?_
  refine wp_seq ?_
  cases fk5:n == 5
  case true=>
   have Ffk5:=Lib.hid fk5;clear fk5
   have s3_8:=f14.q 3 s3_7
   refine go_reg [] [] [oT,oT] mo f14.d f14.z f14.b (by kernel_rfl) trivial (
    hk (fun cx=>cx.v (ex_eq (x:=.tmp 3) rfl (cx.rq 3 s3_8) rfl) rfl (congrArg Value.bool Ffk5.out)) <|
    kmu 0 <|
    hn) ?_
   intro a15 w15 f15
   refine wp_cond_true (f15.v 1 rfl rfl rfl) ?_
   refine wp_skip ?_
   refine wp_cond_true (f15.v 1 rfl rfl rfl) ?_
   refine wp_seq ?_
   refine go_reg [] [] [oT] mo f15.d f15.z f15.b (by kernel_rfl) trivial (
    hk (fun cx=>cx.q (ex_as rfl rfl)) <|
    hn) ?_
   intro a16 w16 f16
   refine wp_ret ?_
   try simp only [Exit.inBlock,Exit.then]
   refine bodyPost_ret (res_t (fn:=Tryz.f139) rfl (f16.v 0 rfl rfl rfl)) f16.d ?_
   have HE:(.bool true:Value)=.bool (inOpB n):=by unfold inOpB;simp only [Ffk1.out,Ffk2.out,Ffk3.out,Ffk4.out,Ffk5.out,Bool.true_and,Bool.and_true,Bool.false_and,Bool.and_false,Bool.or_false,Bool.false_or,Bool.true_or,Bool.or_true,Bool.not_true,Bool.not_false,if_true,if_false,Bool.false_eq_true,Bool.true_eq_false,reduceCtorEq];try rfl
   exact ⟨retV HE,f16.b⟩
  have Ffk5:=Lib.hid fk5;clear fk5
  have s3_9:=f14.q 3 s3_7
  refine go_reg [] [] [oF,oF] mo f14.d f14.z f14.b (by kernel_rfl) trivial (
   hk (fun cx=>cx.v (ex_eq (x:=.tmp 3) rfl (cx.rq 3 s3_9) rfl) rfl (congrArg Value.bool Ffk5.out)) <|
   kmu 0 <|
   hn) ?_
  intro a17 w17 f17
  refine wp_cond_false (f17.v 1 rfl rfl rfl) ?_
  refine wp_seq ?_
  cases fk6:n == 7
  case true=>
   have Ffk6:=Lib.hid fk6;clear fk6
   have s3_10:=f17.q 3 s3_9
   refine go_reg [] [] [oT,oT] mo f17.d f17.z f17.b (by kernel_rfl) trivial (
    hk (fun cx=>cx.v (ex_eq (x:=.tmp 3) rfl (cx.rq 3 s3_10) rfl) rfl (congrArg Value.bool Ffk6.out)) <|
    kmu 0 <|
    hn) ?_
   intro a18 w18 f18
   refine wp_cond_true (f18.v 1 rfl rfl rfl) ?_
   refine wp_skip ?_
   refine wp_cond_true (f18.v 1 rfl rfl rfl) ?_
   refine wp_seq ?_
   refine go_reg [] [] [oT] mo f18.d f18.z f18.b (by kernel_rfl) trivial (
    hk (fun cx=>cx.q (ex_as rfl rfl)) <|
    hn) ?_
   intro a19 w19 f19
   refine wp_ret ?_
   try simp only [Exit.inBlock,Exit.then]
   refine bodyPost_ret (res_t (fn:=Tryz.f139) rfl (f19.v 0 rfl rfl rfl)) f19.d ?_
   have HE:(.bool true:Value)=.bool (inOpB n):=by unfold inOpB;simp only [Ffk1.out,Ffk2.out,Ffk3.out,Ffk4.out,Ffk5.out,Ffk6.out,Bool.true_and,Bool.and_true,Bool.false_and,Bool.and_false,Bool.or_false,Bool.false_or,Bool.true_or,Bool.or_true,Bool.not_true,Bool.not_false,if_true,if_false,Bool.false_eq_true,Bool.true_eq_false,reduceCtorEq];try rfl
   exact ⟨retV HE,f19.b⟩
  have Ffk6:=Lib.hid fk6;clear fk6
  have s3_11:=f17.q 3 s3_9
  refine go_reg [] [] [oF,oF] mo f17.d f17.z f17.b (by kernel_rfl) trivial (
   hk (fun cx=>cx.v (ex_eq (x:=.tmp 3) rfl (cx.rq 3 s3_11) rfl) rfl (congrArg Value.bool Ffk6.out)) <|
   kmu 0 <|
   hn) ?_
  intro a20 w20 f20
  refine wp_cond_false (f20.v 1 rfl rfl rfl) ?_
  cases fk7:n == 8
  case true=>
   have Ffk7:=Lib.hid fk7;clear fk7
   have s3_12:=f20.q 3 s3_11
   refine go_reg [] [] [oT,oT] mo f20.d f20.z f20.b (by kernel_rfl) trivial (
    hk (fun cx=>cx.v (ex_eq (x:=.tmp 3) rfl (cx.rq 3 s3_12) rfl) rfl (congrArg Value.bool Ffk7.out)) <|
    kmu 0 <|
    hn) ?_
   intro a21 w21 f21
   refine wp_cond_true (f21.v 1 rfl rfl rfl) ?_
   refine wp_seq ?_
   refine go_reg [] [] [oT] mo f21.d f21.z f21.b (by kernel_rfl) trivial (
    hk (fun cx=>cx.q (ex_as rfl rfl)) <|
    hn) ?_
   intro a22 w22 f22
   refine wp_ret ?_
   try simp only [Exit.inBlock,Exit.then]
   refine bodyPost_ret (res_t (fn:=Tryz.f139) rfl (f22.v 0 rfl rfl rfl)) f22.d ?_
   have HE:(.bool true:Value)=.bool (inOpB n):=by unfold inOpB;simp only [Ffk1.out,Ffk2.out,Ffk3.out,Ffk4.out,Ffk5.out,Ffk6.out,Ffk7.out,Bool.true_and,Bool.and_true,Bool.false_and,Bool.and_false,Bool.or_false,Bool.false_or,Bool.true_or,Bool.or_true,Bool.not_true,Bool.not_false,if_true,if_false,Bool.false_eq_true,Bool.true_eq_false,reduceCtorEq];try rfl
   exact ⟨retV HE,f22.b⟩
  have Ffk7:=Lib.hid fk7;clear fk7
  have s3_13:=f20.q 3 s3_11
  refine go_reg [] [] [oF,oF] mo f20.d f20.z f20.b (by kernel_rfl) trivial (
   hk (fun cx=>cx.v (ex_eq (x:=.tmp 3) rfl (cx.rq 3 s3_13) rfl) rfl (congrArg Value.bool Ffk7.out)) <|
   kmu 0 <|
   hn) ?_
  intro a23 w23 f23
  refine wp_cond_false (f23.v 1 rfl rfl rfl) ?_
  refine wp_skip ?_
  refine wp_seq ?_
  refine go_reg [] [] [oF] mo f23.d f23.z f23.b (by kernel_rfl) trivial (
   hk (fun cx=>cx.q (ex_as rfl rfl)) <|
   hn) ?_
  intro a24 w24 f24
  refine wp_ret ?_
  try simp only [Exit.inBlock,Exit.then]
  refine bodyPost_ret (res_t (fn:=Tryz.f139) rfl (f24.v 0 rfl rfl rfl)) f24.d ?_
  have HE:(.bool false:Value)=.bool (inOpB n):=by unfold inOpB;simp only [Ffk1.out,Ffk2.out,Ffk3.out,Ffk4.out,Ffk5.out,Ffk6.out,Ffk7.out,Bool.true_and,Bool.and_true,Bool.false_and,Bool.and_false,Bool.or_false,Bool.false_or,Bool.true_or,Bool.or_true,Bool.not_true,Bool.not_false,if_true,if_false,Bool.false_eq_true,Bool.true_eq_false,reduceCtorEq];try rfl
  exact ⟨retV HE,f24.b⟩
theorem cimm_n (n:Int) (W:World):Calls Tryz.prog 141 #[.int .i8 n] W fun e w'=>e=.returned (.int .i64 (immN n)) ∧ Below W.heap.size W w':=by
  refine calls_abs Tryz.func141 rfl (Nat.le_of_ble_eq_true rfl) ?_
  intro a0 d0 z0 h0
  replace z0:a0.tmps.size=11:=z0
  have s0_0:a0.tmps.getD 0 undef=.int .i8 n:=h0 0 (Nat.le_of_ble_eq_true rfl)
  refine wp_seq ?_
  refine go_reg [] [] [some (.int .i64 0)] mo d0 z0 (Below.refl _ _) (by kernel_rfl) trivial (
   hk (fun cx=>cx.q (ex_as rfl rfl)) <|
   hn) ?_
  intro a1 w1 f1
  refine wp_seq ?_
  refine wp_seq ?_
  have s0_1:=f1.q 0 s0_0
  refine go_reg [] [] [some (.int .i8 n)] mo f1.d f1.z f1.b (by kernel_rfl) trivial (
   hk (fun cx=>cx.q (ex_mv rfl (cx.rq 0 s0_1))) <|
   hn) ?_
  intro a2 w2 f2
  refine wp_block ?_
  refine wp_seq ?_
  refine wp_seq ?_
  cases fk1:n == 3
  case true=>
   have Ffk1:=Lib.hid fk1;clear fk1
   refine go_reg [] [] [oT,oT] mo f2.d f2.z f2.b (by kernel_rfl) trivial (
    hk (fun cx=>cx.v (ex_eq (x:=.tmp 3) rfl (cx.rq 3 (f2.v 0 rfl rfl rfl)) rfl) rfl (congrArg Value.bool Ffk1.out)) <|
    kmu 0 <|
    hn) ?_
   intro a3 w3 f3
   refine wp_cond_true (f3.v 1 rfl rfl rfl) ?_
   refine wp_skip ?_
   refine wp_cond_true (f3.v 1 rfl rfl rfl) ?_
   refine wp_seq ?_
   refine go_reg [] [] [some (.int .i64 4)] mo f3.d f3.z f3.b (by kernel_rfl) trivial (
    hk (fun cx=>cx.q (ex_as rfl rfl)) <|
    hn) ?_
   intro a4 w4 f4
   refine wp_ret ?_
   try simp only [Exit.inBlock,Exit.then]
   refine bodyPost_ret (res_t (fn:=Tryz.f141) rfl (f4.v 0 rfl rfl rfl)) f4.d ?_
   have HE:(.int .i64 4:Value)=.int .i64 (immN n):=by unfold immN;simp only [Ffk1.out,cond_true,cond_false,Bool.true_and,Bool.and_true,Bool.false_and,Bool.and_false,Bool.or_false,Bool.false_or,Bool.true_or,Bool.or_true,Bool.not_true,Bool.not_false,if_true,if_false,Bool.false_eq_true,Bool.true_eq_false,reduceCtorEq];try rfl
   exact ⟨retV HE,f4.b⟩
  have Ffk1:=Lib.hid fk1;clear fk1
  refine go_reg [] [] [oF,oF] mo f2.d f2.z f2.b (by kernel_rfl) trivial (
   hk (fun cx=>cx.v (ex_eq (x:=.tmp 3) rfl (cx.rq 3 (f2.v 0 rfl rfl rfl)) rfl) rfl (congrArg Value.bool Ffk1.out)) <|
   kmu 0 <|
   hn) ?_
  intro a5 w5 f5
  refine wp_cond_false (f5.v 1 rfl rfl rfl) ?_
  refine wp_seq ?_
  cases fk2:n == 6
  case true=>
   have Ffk2:=Lib.hid fk2;clear fk2
   have s3_2:=f5.q 3 (f2.v 0 rfl rfl rfl)
   refine go_reg [] [] [oT,oT] mo f5.d f5.z f5.b (by kernel_rfl) trivial (
    hk (fun cx=>cx.v (ex_eq (x:=.tmp 3) rfl (cx.rq 3 s3_2) rfl) rfl (congrArg Value.bool Ffk2.out)) <|
    kmu 0 <|
    hn) ?_
   intro a6 w6 f6
   refine wp_cond_true (f6.v 1 rfl rfl rfl) ?_
   refine wp_skip ?_
   refine wp_cond_true (f6.v 1 rfl rfl rfl) ?_
   refine wp_seq ?_
   refine go_reg [] [] [some (.int .i64 4)] mo f6.d f6.z f6.b (by kernel_rfl) trivial (
    hk (fun cx=>cx.q (ex_as rfl rfl)) <|
    hn) ?_
   intro a7 w7 f7
   refine wp_ret ?_
   try simp only [Exit.inBlock,Exit.then]
   refine bodyPost_ret (res_t (fn:=Tryz.f141) rfl (f7.v 0 rfl rfl rfl)) f7.d ?_
   have HE:(.int .i64 4:Value)=.int .i64 (immN n):=by unfold immN;simp only [Ffk1.out,Ffk2.out,cond_true,cond_false,Bool.true_and,Bool.and_true,Bool.false_and,Bool.and_false,Bool.or_false,Bool.false_or,Bool.true_or,Bool.or_true,Bool.not_true,Bool.not_false,if_true,if_false,Bool.false_eq_true,Bool.true_eq_false,reduceCtorEq];try rfl
   exact ⟨retV HE,f7.b⟩
  have Ffk2:=Lib.hid fk2;clear fk2
  have s3_3:=f5.q 3 (f2.v 0 rfl rfl rfl)
  refine go_reg [] [] [oF,oF] mo f5.d f5.z f5.b (by kernel_rfl) trivial (
   hk (fun cx=>cx.v (ex_eq (x:=.tmp 3) rfl (cx.rq 3 s3_3) rfl) rfl (congrArg Value.bool Ffk2.out)) <|
   kmu 0 <|
   hn) ?_
  intro a8 w8 f8
  refine wp_cond_false (f8.v 1 rfl rfl rfl) ?_
  cases fk3:n == 9
  case true=>
   have Ffk3:=Lib.hid fk3;clear fk3
   have s3_4:=f8.q 3 s3_3
   refine go_reg [] [] [oT,oT] mo f8.d f8.z f8.b (by kernel_rfl) trivial (
    hk (fun cx=>cx.v (ex_eq (x:=.tmp 3) rfl (cx.rq 3 s3_4) rfl) rfl (congrArg Value.bool Ffk3.out)) <|
    kmu 0 <|
    hn) ?_
   intro a9 w9 f9
   refine wp_cond_true (f9.v 1 rfl rfl rfl) ?_
   refine wp_seq ?_
   refine go_reg [] [] [some (.int .i64 4)] mo f9.d f9.z f9.b (by kernel_rfl) trivial (
    hk (fun cx=>cx.q (ex_as rfl rfl)) <|
    hn) ?_
   intro a10 w10 f10
   refine wp_ret ?_
   try simp only [Exit.inBlock,Exit.then]
   refine bodyPost_ret (res_t (fn:=Tryz.f141) rfl (f10.v 0 rfl rfl rfl)) f10.d ?_
   have HE:(.int .i64 4:Value)=.int .i64 (immN n):=by unfold immN;simp only [Ffk1.out,Ffk2.out,Ffk3.out,cond_true,cond_false,Bool.true_and,Bool.and_true,Bool.false_and,Bool.and_false,Bool.or_false,Bool.false_or,Bool.true_or,Bool.or_true,Bool.not_true,Bool.not_false,if_true,if_false,Bool.false_eq_true,Bool.true_eq_false,reduceCtorEq];try rfl
   exact ⟨retV HE,f10.b⟩
  have Ffk3:=Lib.hid fk3;clear fk3
  have s3_5:=f8.q 3 s3_3
  refine go_reg [] [] [oF,oF] mo f8.d f8.z f8.b (by kernel_rfl) trivial (
   hk (fun cx=>cx.v (ex_eq (x:=.tmp 3) rfl (cx.rq 3 s3_5) rfl) rfl (congrArg Value.bool Ffk3.out)) <|
   kmu 0 <|
   hn) ?_
  intro a11 w11 f11
  refine wp_cond_false (f11.v 1 rfl rfl rfl) ?_
  refine wp_seq ?_
  refine wp_seq ?_
  cases fk4:n == 4
  case true=>
   have Ffk4:=Lib.hid fk4;clear fk4
   have s3_6:=f11.q 3 s3_5
   refine go_reg [] [] [oT,oT] mo f11.d f11.z f11.b (by kernel_rfl) trivial (
    hk (fun cx=>cx.v (ex_eq (x:=.tmp 3) rfl (cx.rq 3 s3_6) rfl) rfl (congrArg Value.bool Ffk4.out)) <|
    kmu 0 <|
    hn) ?_
   intro a12 w12 f12
   refine wp_cond_true (f12.v 1 rfl rfl rfl) ?_
   refine wp_skip ?_
   refine wp_cond_true (f12.v 1 rfl rfl rfl) ?_
   refine wp_seq ?_
   refine go_reg [] [] [some (.int .i64 1)] mo f12.d f12.z f12.b (by kernel_rfl) trivial (
    hk (fun cx=>cx.q (ex_as rfl rfl)) <|
    hn) ?_
   intro a13 w13 f13
   refine wp_ret ?_
   try simp only [Exit.inBlock,Exit.then]
   refine bodyPost_ret (res_t (fn:=Tryz.f141) rfl (f13.v 0 rfl rfl rfl)) f13.d ?_
   have HE:(.int .i64 1:Value)=.int .i64 (immN n):=by unfold immN;simp only [Ffk1.out,Ffk4.out,Ffk2.out,Ffk3.out,cond_true,cond_false,Bool.true_and,Bool.and_true,Bool.false_and,Bool.and_false,Bool.or_false,Bool.false_or,Bool.true_or,Bool.or_true,Bool.not_true,Bool.not_false,if_true,if_false,Bool.false_eq_true,Bool.true_eq_false,reduceCtorEq];try rfl
   exact ⟨retV HE,f13.b⟩
  have Ffk4:=Lib.hid fk4;clear fk4
  have s3_7:=f11.q 3 s3_5
  refine go_reg [] [] [oF,oF] mo f11.d f11.z f11.b (by kernel_rfl) trivial (
   hk (fun cx=>cx.v (ex_eq (x:=.tmp 3) rfl (cx.rq 3 s3_7) rfl) rfl (congrArg Value.bool Ffk4.out)) <|
   kmu 0 <|
   hn) ?_
  intro a14 w14 f14
  refine wp_cond_false (f14.v 1 rfl rfl rfl) ?_
  cases fk5:n == 10
  case true=>
   have Ffk5:=Lib.hid fk5;clear fk5
   have s3_8:=f14.q 3 s3_7
   refine go_reg [] [] [oT,oT] mo f14.d f14.z f14.b (by kernel_rfl) trivial (
    hk (fun cx=>cx.v (ex_eq (x:=.tmp 3) rfl (cx.rq 3 s3_8) rfl) rfl (congrArg Value.bool Ffk5.out)) <|
    kmu 0 <|
    hn) ?_
   intro a15 w15 f15
   refine wp_cond_true (f15.v 1 rfl rfl rfl) ?_
   refine wp_seq ?_
   refine go_reg [] [] [some (.int .i64 1)] mo f15.d f15.z f15.b (by kernel_rfl) trivial (
    hk (fun cx=>cx.q (ex_as rfl rfl)) <|
    hn) ?_
   intro a16 w16 f16
   refine wp_ret ?_
   try simp only [Exit.inBlock,Exit.then]
   refine bodyPost_ret (res_t (fn:=Tryz.f141) rfl (f16.v 0 rfl rfl rfl)) f16.d ?_
   have HE:(.int .i64 1:Value)=.int .i64 (immN n):=by unfold immN;simp only [Ffk1.out,Ffk4.out,Ffk2.out,Ffk3.out,Ffk5.out,cond_true,cond_false,Bool.true_and,Bool.and_true,Bool.false_and,Bool.and_false,Bool.or_false,Bool.false_or,Bool.true_or,Bool.or_true,Bool.not_true,Bool.not_false,if_true,if_false,Bool.false_eq_true,Bool.true_eq_false,reduceCtorEq];try rfl
   exact ⟨retV HE,f16.b⟩
  have Ffk5:=Lib.hid fk5;clear fk5
  have s3_9:=f14.q 3 s3_7
  refine go_reg [] [] [oF,oF] mo f14.d f14.z f14.b (by kernel_rfl) trivial (
   hk (fun cx=>cx.v (ex_eq (x:=.tmp 3) rfl (cx.rq 3 s3_9) rfl) rfl (congrArg Value.bool Ffk5.out)) <|
   kmu 0 <|
   hn) ?_
  intro a17 w17 f17
  refine wp_cond_false (f17.v 1 rfl rfl rfl) ?_
  refine wp_skip ?_
  refine wp_seq ?_
  refine go_reg [] [] [some (.int .i64 0)] mo f17.d f17.z f17.b (by kernel_rfl) trivial (
   hk (fun cx=>cx.q (ex_as rfl rfl)) <|
   hn) ?_
  intro a18 w18 f18
  refine wp_ret ?_
  try simp only [Exit.inBlock,Exit.then]
  refine bodyPost_ret (res_t (fn:=Tryz.f141) rfl (f18.v 0 rfl rfl rfl)) f18.d ?_
  have HE:(.int .i64 0:Value)=.int .i64 (immN n):=by unfold immN;simp only [Ffk1.out,Ffk4.out,Ffk2.out,Ffk3.out,Ffk5.out,cond_true,cond_false,Bool.true_and,Bool.and_true,Bool.false_and,Bool.and_false,Bool.or_false,Bool.false_or,Bool.true_or,Bool.or_true,Bool.not_true,Bool.not_false,if_true,if_false,Bool.false_eq_true,Bool.true_eq_false,reduceCtorEq];try rfl
  exact ⟨retV HE,f18.b⟩
end Go.Proofs.YtbpehbeakhocnaaGreatDoor.Mrm
