import Derived.Test.YtbpehbeakhocnaaGreatDoorIRm10
import Derived.Test.YtbpehbeakhocnaaGreatDoorIRm06
import Derived.Test.YtbpehbeakhocnaaGreatDoorIRm07
set_option maxHeartbeats 4000000
set_option linter.unusedVariables false
set_option linter.unusedSimpArgs false
set_option linter.unnecessarySimpa false
namespace Go.Proofs.YtbpehbeakhocnaaGreatDoor.Mrm
open Go Go.RowKit
set_option maxRecDepth 100000
theorem faEcA55_1_0 (g:Nat) (w:World):(Instr.fieldAt 106 (.pointer (some ⟨g,0,none⟩)) 1).run Tryz.prog w=.ok (.pointer (some ⟨g,1,none⟩)) w:=by simp [go_sem]
theorem faEcA24_2_0 (g:Nat) (w:World):(Instr.fieldAt 38 (.pointer (some ⟨g,0,none⟩)) 2).run Tryz.prog w=.ok (.pointer (some ⟨g,2,none⟩)) w:=by simp [go_sem]
theorem faEcA24_3_0 (g:Nat) (w:World):(Instr.fieldAt 38 (.pointer (some ⟨g,0,none⟩)) 3).run Tryz.prog w=.ok (.pointer (some ⟨g,3,none⟩)) w:=by simp [go_sem]
theorem faEcA24_4_0 (g:Nat) (w:World):(Instr.fieldAt 38 (.pointer (some ⟨g,0,none⟩)) 4).run Tryz.prog w=.ok (.pointer (some ⟨g,4,none⟩)) w:=by simp [go_sem]
theorem faEcA55_4_0 (g:Nat) (w:World):(Instr.fieldAt 106 (.pointer (some ⟨g,0,none⟩)) 4).run Tryz.prog w=.ok (.pointer (some ⟨g,4,none⟩)) w:=by simp [go_sem]
theorem faEcA55_0_0 (g:Nat) (w:World):(Instr.fieldAt 106 (.pointer (some ⟨g,0,none⟩)) 0).run Tryz.prog w=.ok (.pointer (some ⟨g,0,none⟩)) w:=by simp [go_sem]
theorem faEcA24_6_0 (g:Nat) (w:World):(Instr.fieldAt 38 (.pointer (some ⟨g,0,none⟩)) 6).run Tryz.prog w=.ok (.pointer (some ⟨g,6,none⟩)) w:=by simp [go_sem]
theorem faEcA24_1_0 (g:Nat) (w:World):(Instr.fieldAt 38 (.pointer (some ⟨g,0,none⟩)) 1).run Tryz.prog w=.ok (.pointer (some ⟨g,1,none⟩)) w:=by simp [go_sem]
theorem faEcA24_5_0 (g:Nat) (w:World):(Instr.fieldAt 38 (.pointer (some ⟨g,0,none⟩)) 5).run Tryz.prog w=.ok (.pointer (some ⟨g,5,none⟩)) w:=by simp [go_sem]
theorem faEcA24_7_0 (g:Nat) (w:World):(Instr.fieldAt 38 (.pointer (some ⟨g,0,none⟩)) 7).run Tryz.prog w=.ok (.pointer (some ⟨g,7,none⟩)) w:=by simp [go_sem]
theorem cregister_n (n:Int) (W:World):Calls Tryz.prog 150 #[.int .i8 n] W fun e w'=>e=.returned (.bool (regB n)) ∧ Below W.heap.size W w':=by
  refine calls_abs Tryz.func150 rfl (Nat.le_of_ble_eq_true rfl) ?_
  intro a0 d0 z0 h0
  replace z0:a0.tmps.size=9:=z0
  have s0_0:a0.tmps.getD 0 undef=.int .i8 n:=h0 0 (Nat.le_of_ble_eq_true rfl)
  refine wp_seq ?_
  refine go_reg [] [] [oF] mo d0 z0 (Below.refl _ _) (by kernel_rfl) trivial (
   hk (fun cx=>cx.q (ex_as rfl rfl)) <|
   hn) ?_
  intro a1 w1 f1
  refine wp_seq ?_
  cases fk1:decide (0 ≤ n)
  case false=>
   have Ffk1:=Lib.hid fk1;clear fk1
   have s0_1:=f1.q 0 s0_0
   refine go_reg [] [] [some (.int .i8 n),oF,oF,oU,oU,oF,oF] mo f1.d f1.z f1.b (by kernel_rfl) trivial (
    hk (fun cx=>cx.q (ex_mv rfl (cx.rq 0 s0_1))) <|
    hk (fun cx=>cx.v (ex_ge (x:=.tmp 3) rfl (cx.u 0 rfl) rfl) rfl (congrArg Value.bool Ffk1.out)) <|
    kmu 0 <|
    kno 0 <|
    kno 1 <|
    hk (fun cx=>cx.q (ex_pf rfl (cx.u 0 rfl) rfl)) <|
    kmu 0 <|
    hn) ?_
   intro a2 w2 f2
   refine wp_ret ?_
   try simp only [Exit.inBlock,Exit.then]
   refine bodyPost_ret (res_t (fn:=Tryz.f150) rfl (f2.v 6 rfl rfl rfl)) f2.d ?_
   have HE:(.bool false:Value)=.bool (regB n):=by unfold regB;simp only [Ffk1.out,Bool.true_and,Bool.and_true,Bool.false_and,Bool.and_false,Bool.or_false,Bool.false_or,Bool.true_or,Bool.or_true,Bool.not_true,Bool.not_false,if_true,if_false,Bool.false_eq_true,Bool.true_eq_false,reduceCtorEq];try rfl
   exact ⟨retV HE,f2.b⟩
  have Ffk1:=Lib.hid fk1;clear fk1
  have s0_2:=f1.q 0 s0_0
  refine go_reg [] [] [some (.int .i8 n),oT,oT,some (.int .i8 n),some (.bool (decide (n < 16))),some (.bool (decide (n < 16))),some (.bool (decide (n < 16)))] mo f1.d f1.z f1.b (by kernel_rfl) trivial (
   hk (fun cx=>cx.q (ex_mv rfl (cx.rq 0 s0_2))) <|
   hk (fun cx=>cx.v (ex_ge (x:=.tmp 3) rfl (cx.u 0 rfl) rfl) rfl (congrArg Value.bool Ffk1.out)) <|
   kmu 0 <|
   hk (fun cx=>cx.vy 0 (ex_mv rfl (cx.rq 0 s0_2))) <|
   hk (fun cx=>cx.vy 1 (ex_lt (x:=.tmp 6) rfl (cx.u 0 rfl) rfl)) <|
   hk (fun cx=>cx.q (ex_pt rfl (cx.u 0 rfl) (cx.u 1 rfl))) <|
   kmu 0 <|
   hn) ?_
  intro a3 w3 f3
  refine wp_ret ?_
  try simp only [Exit.inBlock,Exit.then]
  refine bodyPost_ret (res_t (fn:=Tryz.f150) rfl (f3.v 6 rfl rfl rfl)) f3.d ?_
  have HE:(.bool (decide (n < 16)):Value)=.bool (regB n):=by unfold regB;simp only [Ffk1.out,Bool.true_and,Bool.and_true,Bool.false_and,Bool.and_false,Bool.or_false,Bool.false_or,Bool.true_or,Bool.or_true,Bool.not_true,Bool.not_false,if_true,if_false,Bool.false_eq_true,Bool.true_eq_false,reduceCtorEq];try rfl
  exact ⟨retV HE,f3.b⟩
theorem ccond_n (n:Int) (W:World):Calls Tryz.prog 151 #[.int .i8 n] W fun e w'=>e=.returned (.bool (ccB n)) ∧ Below W.heap.size W w':=by
  refine calls_abs Tryz.func151 rfl (Nat.le_of_ble_eq_true rfl) ?_
  intro a0 d0 z0 h0
  replace z0:a0.tmps.size=17:=z0
  have s0_0:a0.tmps.getD 0 undef=.int .i8 n:=h0 0 (Nat.le_of_ble_eq_true rfl)
  refine wp_seq ?_
  refine go_reg [] [] [oF] mo d0 z0 (Below.refl _ _) (by kernel_rfl) trivial (
   hk (fun cx=>cx.q (ex_as rfl rfl)) <|
   hn) ?_
  intro a1 w1 f1
  refine wp_seq ?_
  cases fk1:decide (2 ≤ n)
  case false=>
   have Ffk1:=Lib.hid fk1;clear fk1
   cases fk2:decide (12 ≤ n)
   case false=>
    have Ffk2:=Lib.hid fk2;clear fk2
    have s0_1:=f1.q 0 s0_0
    refine go_reg [] [] [some (.int .i8 n),oF,oF,oU,oU,oF,oF,some (.int .i8 n),oF,oF,oU,oU,oF,oF,oF] mo f1.d f1.z f1.b (by kernel_rfl) trivial (
     hk (fun cx=>cx.q (ex_mv rfl (cx.rq 0 s0_1))) <|
     hk (fun cx=>cx.v (ex_ge (x:=.tmp 3) rfl (cx.u 0 rfl) rfl) rfl (congrArg Value.bool Ffk1.out)) <|
     kmu 0 <|
     kno 0 <|
     kno 1 <|
     hk (fun cx=>cx.q (ex_pf rfl (cx.u 0 rfl) rfl)) <|
     kmu 0 <|
     hk (fun cx=>cx.vy 0 (ex_mv rfl (cx.rq 0 s0_1))) <|
     hk (fun cx=>cx.vy 1 (ex_ge (x:=.tmp 10) rfl (cx.u 0 rfl) rfl) (congrArg Value.bool Ffk2.out)) <|
     hk (fun cx=>cx.vy 1 (ex_mv rfl (cx.u 0 rfl))) <|
     kno 0 <|
     kno 1 <|
     hk (fun cx=>cx.vy 2 (ex_pf rfl (cx.u 0 rfl) rfl)) <|
     hk (fun cx=>cx.q (ex_pf rfl (cx.u 0 rfl) (cx.u 1 rfl))) <|
     kmu 0 <|
     hn) ?_
    intro a2 w2 f2
    refine wp_ret ?_
    try simp only [Exit.inBlock,Exit.then]
    refine bodyPost_ret (res_t (fn:=Tryz.f151) rfl (f2.v 14 rfl rfl rfl)) f2.d ?_
    have HE:(.bool false:Value)=.bool (ccB n):=by unfold ccB;simp only [Ffk1.out,Ffk2.out,Bool.true_and,Bool.and_true,Bool.false_and,Bool.and_false,Bool.or_false,Bool.false_or,Bool.true_or,Bool.or_true,Bool.not_true,Bool.not_false,if_true,if_false,Bool.false_eq_true,Bool.true_eq_false,reduceCtorEq];try rfl
    exact ⟨retV HE,f2.b⟩
   have Ffk2:=Lib.hid fk2;clear fk2
   have s0_2:=f1.q 0 s0_0
   refine go_reg [] [] [some (.int .i8 n),oF,oF,oU,oU,oF,oF,some (.int .i8 n),oT,oT,some (.int .i8 n),some (.bool (decide (n ≤ 15))),some (.bool (decide (n ≤ 15))),some (.bool (decide (n ≤ 15))),some (.bool (decide (n ≤ 15)))] mo f1.d f1.z f1.b (by kernel_rfl) trivial (
    hk (fun cx=>cx.q (ex_mv rfl (cx.rq 0 s0_2))) <|
    hk (fun cx=>cx.v (ex_ge (x:=.tmp 3) rfl (cx.u 0 rfl) rfl) rfl (congrArg Value.bool Ffk1.out)) <|
    kmu 0 <|
    kno 0 <|
    kno 1 <|
    hk (fun cx=>cx.q (ex_pf rfl (cx.u 0 rfl) rfl)) <|
    kmu 0 <|
    hk (fun cx=>cx.vy 0 (ex_mv rfl (cx.rq 0 s0_2))) <|
    hk (fun cx=>cx.vy 1 (ex_ge (x:=.tmp 10) rfl (cx.u 0 rfl) rfl) (congrArg Value.bool Ffk2.out)) <|
    hk (fun cx=>cx.vy 1 (ex_mv rfl (cx.u 0 rfl))) <|
    hk (fun cx=>cx.vy 0 (ex_mv rfl (cx.rq 0 s0_2))) <|
    hk (fun cx=>cx.vy 1 (ex_le (x:=.tmp 13) rfl (cx.u 0 rfl) rfl)) <|
    hk (fun cx=>cx.vy 2 (ex_pt rfl (cx.u 0 rfl) (cx.u 1 rfl))) <|
    hk (fun cx=>cx.q (ex_pf rfl (cx.u 0 rfl) (cx.u 1 rfl))) <|
    kmu 0 <|
    hn) ?_
   intro a3 w3 f3
   refine wp_ret ?_
   try simp only [Exit.inBlock,Exit.then]
   refine bodyPost_ret (res_t (fn:=Tryz.f151) rfl (f3.v 14 rfl rfl rfl)) f3.d ?_
   have HE:(.bool (decide (n ≤ 15)):Value)=.bool (ccB n):=by unfold ccB;simp only [Ffk1.out,Ffk2.out,Bool.true_and,Bool.and_true,Bool.false_and,Bool.and_false,Bool.or_false,Bool.false_or,Bool.true_or,Bool.or_true,Bool.not_true,Bool.not_false,if_true,if_false,Bool.false_eq_true,Bool.true_eq_false,reduceCtorEq];try rfl
   exact ⟨retV HE,f3.b⟩
  have Ffk1:=Lib.hid fk1;clear fk1
  cases fk3:decide (n ≤ 7)
  case true=>
   have Ffk3:=Lib.hid fk3;clear fk3
   have s0_3:=f1.q 0 s0_0
   refine go_reg [] [] [some (.int .i8 n),oT,oT,some (.int .i8 n),oT,oT,oT,oU,oU,oU,oU,oU,oU,oT,oT] mo f1.d f1.z f1.b (by kernel_rfl) trivial (
    hk (fun cx=>cx.q (ex_mv rfl (cx.rq 0 s0_3))) <|
    hk (fun cx=>cx.v (ex_ge (x:=.tmp 3) rfl (cx.u 0 rfl) rfl) rfl (congrArg Value.bool Ffk1.out)) <|
    kmu 0 <|
    hk (fun cx=>cx.vy 0 (ex_mv rfl (cx.rq 0 s0_3))) <|
    hk (fun cx=>cx.vy 1 (ex_le (x:=.tmp 6) rfl (cx.u 0 rfl) rfl) (congrArg Value.bool Ffk3.out)) <|
    hk (fun cx=>cx.q (ex_pt rfl (cx.u 0 rfl) (cx.u 1 rfl))) <|
    kmu 0 <|
    kno 0 <|
    kno 1 <|
    kno 1 <|
    kno 0 <|
    kno 1 <|
    kno 2 <|
    hk (fun cx=>cx.q (ex_pt rfl (cx.u 0 rfl) rfl)) <|
    kmu 0 <|
    hn) ?_
   intro a4 w4 f4
   refine wp_ret ?_
   try simp only [Exit.inBlock,Exit.then]
   refine bodyPost_ret (res_t (fn:=Tryz.f151) rfl (f4.v 14 rfl rfl rfl)) f4.d ?_
   have HE:(.bool true:Value)=.bool (ccB n):=by unfold ccB;simp only [Ffk1.out,Ffk3.out,Bool.true_and,Bool.and_true,Bool.false_and,Bool.and_false,Bool.or_false,Bool.false_or,Bool.true_or,Bool.or_true,Bool.not_true,Bool.not_false,if_true,if_false,Bool.false_eq_true,Bool.true_eq_false,reduceCtorEq];try rfl
   exact ⟨retV HE,f4.b⟩
  have Ffk3:=Lib.hid fk3;clear fk3
  cases fk4:decide (12 ≤ n)
  case false=>
   have Ffk4:=Lib.hid fk4;clear fk4
   have s0_4:=f1.q 0 s0_0
   refine go_reg [] [] [some (.int .i8 n),oT,oT,some (.int .i8 n),oF,oF,oF,some (.int .i8 n),oF,oF,oU,oU,oF,oF,oF] mo f1.d f1.z f1.b (by kernel_rfl) trivial (
    hk (fun cx=>cx.q (ex_mv rfl (cx.rq 0 s0_4))) <|
    hk (fun cx=>cx.v (ex_ge (x:=.tmp 3) rfl (cx.u 0 rfl) rfl) rfl (congrArg Value.bool Ffk1.out)) <|
    kmu 0 <|
    hk (fun cx=>cx.vy 0 (ex_mv rfl (cx.rq 0 s0_4))) <|
    hk (fun cx=>cx.vy 1 (ex_le (x:=.tmp 6) rfl (cx.u 0 rfl) rfl) (congrArg Value.bool Ffk3.out)) <|
    hk (fun cx=>cx.q (ex_pt rfl (cx.u 0 rfl) (cx.u 1 rfl))) <|
    kmu 0 <|
    hk (fun cx=>cx.vy 0 (ex_mv rfl (cx.rq 0 s0_4))) <|
    hk (fun cx=>cx.vy 1 (ex_ge (x:=.tmp 10) rfl (cx.u 0 rfl) rfl) (congrArg Value.bool Ffk4.out)) <|
    hk (fun cx=>cx.vy 1 (ex_mv rfl (cx.u 0 rfl))) <|
    kno 0 <|
    kno 1 <|
    hk (fun cx=>cx.vy 2 (ex_pf rfl (cx.u 0 rfl) rfl)) <|
    hk (fun cx=>cx.q (ex_pf rfl (cx.u 0 rfl) (cx.u 1 rfl))) <|
    kmu 0 <|
    hn) ?_
   intro a5 w5 f5
   refine wp_ret ?_
   try simp only [Exit.inBlock,Exit.then]
   refine bodyPost_ret (res_t (fn:=Tryz.f151) rfl (f5.v 14 rfl rfl rfl)) f5.d ?_
   have HE:(.bool false:Value)=.bool (ccB n):=by unfold ccB;simp only [Ffk1.out,Ffk3.out,Ffk4.out,Bool.true_and,Bool.and_true,Bool.false_and,Bool.and_false,Bool.or_false,Bool.false_or,Bool.true_or,Bool.or_true,Bool.not_true,Bool.not_false,if_true,if_false,Bool.false_eq_true,Bool.true_eq_false,reduceCtorEq];try rfl
   exact ⟨retV HE,f5.b⟩
  have Ffk4:=Lib.hid fk4;clear fk4
  have s0_5:=f1.q 0 s0_0
  refine go_reg [] [] [some (.int .i8 n),oT,oT,some (.int .i8 n),oF,oF,oF,some (.int .i8 n),oT,oT,some (.int .i8 n),some (.bool (decide (n ≤ 15))),some (.bool (decide (n ≤ 15))),some (.bool (decide (n ≤ 15))),some (.bool (decide (n ≤ 15)))] mo f1.d f1.z f1.b (by kernel_rfl) trivial (
   hk (fun cx=>cx.q (ex_mv rfl (cx.rq 0 s0_5))) <|
   hk (fun cx=>cx.v (ex_ge (x:=.tmp 3) rfl (cx.u 0 rfl) rfl) rfl (congrArg Value.bool Ffk1.out)) <|
   kmu 0 <|
   hk (fun cx=>cx.vy 0 (ex_mv rfl (cx.rq 0 s0_5))) <|
   hk (fun cx=>cx.vy 1 (ex_le (x:=.tmp 6) rfl (cx.u 0 rfl) rfl) (congrArg Value.bool Ffk3.out)) <|
   hk (fun cx=>cx.q (ex_pt rfl (cx.u 0 rfl) (cx.u 1 rfl))) <|
   kmu 0 <|
   hk (fun cx=>cx.vy 0 (ex_mv rfl (cx.rq 0 s0_5))) <|
   hk (fun cx=>cx.vy 1 (ex_ge (x:=.tmp 10) rfl (cx.u 0 rfl) rfl) (congrArg Value.bool Ffk4.out)) <|
   hk (fun cx=>cx.vy 1 (ex_mv rfl (cx.u 0 rfl))) <|
   hk (fun cx=>cx.vy 0 (ex_mv rfl (cx.rq 0 s0_5))) <|
   hk (fun cx=>cx.vy 1 (ex_le (x:=.tmp 13) rfl (cx.u 0 rfl) rfl)) <|
   hk (fun cx=>cx.vy 2 (ex_pt rfl (cx.u 0 rfl) (cx.u 1 rfl))) <|
   hk (fun cx=>cx.q (ex_pf rfl (cx.u 0 rfl) (cx.u 1 rfl))) <|
   kmu 0 <|
   hn) ?_
  intro a6 w6 f6
  refine wp_ret ?_
  try simp only [Exit.inBlock,Exit.then]
  refine bodyPost_ret (res_t (fn:=Tryz.f151) rfl (f6.v 14 rfl rfl rfl)) f6.d ?_
  have HE:(.bool (decide (n ≤ 15)):Value)=.bool (ccB n):=by unfold ccB;simp only [Ffk1.out,Ffk3.out,Ffk4.out,Bool.true_and,Bool.and_true,Bool.false_and,Bool.and_false,Bool.or_false,Bool.false_or,Bool.true_or,Bool.or_true,Bool.not_true,Bool.not_false,if_true,if_false,Bool.false_eq_true,Bool.true_eq_false,reduceCtorEq];try rfl
  exact ⟨retV HE,f6.b⟩
theorem bwid_n (n:Int) (W:World):Calls Tryz.prog 173 #[.int .i8 n] W fun e w'=>e=.returned (.bool (widB n)) ∧ Below W.heap.size W w':=by
  refine calls_abs Tryz.func173 rfl (Nat.le_of_ble_eq_true rfl) ?_
  intro a0 d0 z0 h0
  replace z0:a0.tmps.size=17:=z0
  have s0_0:a0.tmps.getD 0 undef=.int .i8 n:=h0 0 (Nat.le_of_ble_eq_true rfl)
  refine wp_seq ?_
  refine go_reg [] [] [oF] mo d0 z0 (Below.refl _ _) (by kernel_rfl) trivial (
   hk (fun cx=>cx.q (ex_as rfl rfl)) <|
   hn) ?_
  intro a1 w1 f1
  refine wp_seq ?_
  cases fk1:n == 8
  case true=>
   have Ffk1:=Lib.hid fk1;clear fk1
   have s0_1:=f1.q 0 s0_0
   refine go_reg [] [] [some (.int .i8 n),oT,oT,oU,oU,oT,oT,oU,oU,oT,oT,oU,oU,oT,oT] mo f1.d f1.z f1.b (by kernel_rfl) trivial (
    hk (fun cx=>cx.q (ex_mv rfl (cx.rq 0 s0_1))) <|
    hk (fun cx=>cx.v (ex_eq (x:=.tmp 3) rfl (cx.u 0 rfl) rfl) rfl (congrArg Value.bool Ffk1.out)) <|
    kmu 0 <|
    kno 0 <|
    kno 1 <|
    hk (fun cx=>cx.q (ex_pt rfl (cx.u 0 rfl) rfl)) <|
    kmu 0 <|
    kno 0 <|
    kno 1 <|
    hk (fun cx=>cx.q (ex_pt rfl (cx.u 0 rfl) rfl)) <|
    kmu 0 <|
    kno 0 <|
    kno 1 <|
    hk (fun cx=>cx.q (ex_pt rfl (cx.u 0 rfl) rfl)) <|
    kmu 0 <|
    hn) ?_
   intro a2 w2 f2
   refine wp_ret ?_
   try simp only [Exit.inBlock,Exit.then]
   refine bodyPost_ret (res_t (fn:=Tryz.f173) rfl (f2.v 14 rfl rfl rfl)) f2.d ?_
   have HE:(.bool true:Value)=.bool (widB n):=by unfold widB;simp only [Ffk1.out,Bool.true_and,Bool.and_true,Bool.false_and,Bool.and_false,Bool.or_false,Bool.false_or,Bool.true_or,Bool.or_true,Bool.not_true,Bool.not_false,if_true,if_false,Bool.false_eq_true,Bool.true_eq_false,reduceCtorEq];try rfl
   exact ⟨retV HE,f2.b⟩
  have Ffk1:=Lib.hid fk1;clear fk1
  cases fk2:n == 16
  case true=>
   have Ffk2:=Lib.hid fk2;clear fk2
   have s0_2:=f1.q 0 s0_0
   refine go_reg [] [] [some (.int .i8 n),oF,oF,some (.int .i8 n),oT,oT,oT,oU,oU,oT,oT,oU,oU,oT,oT] mo f1.d f1.z f1.b (by kernel_rfl) trivial (
    hk (fun cx=>cx.q (ex_mv rfl (cx.rq 0 s0_2))) <|
    hk (fun cx=>cx.v (ex_eq (x:=.tmp 3) rfl (cx.u 0 rfl) rfl) rfl (congrArg Value.bool Ffk1.out)) <|
    kmu 0 <|
    hk (fun cx=>cx.vy 0 (ex_mv rfl (cx.rq 0 s0_2))) <|
    hk (fun cx=>cx.vy 1 (ex_eq (x:=.tmp 6) rfl (cx.u 0 rfl) rfl) (congrArg Value.bool Ffk2.out)) <|
    hk (fun cx=>cx.q (ex_pf rfl (cx.u 0 rfl) (cx.u 1 rfl))) <|
    kmu 0 <|
    kno 0 <|
    kno 1 <|
    hk (fun cx=>cx.q (ex_pt rfl (cx.u 0 rfl) rfl)) <|
    kmu 0 <|
    kno 0 <|
    kno 1 <|
    hk (fun cx=>cx.q (ex_pt rfl (cx.u 0 rfl) rfl)) <|
    kmu 0 <|
    hn) ?_
   intro a3 w3 f3
   refine wp_ret ?_
   try simp only [Exit.inBlock,Exit.then]
   refine bodyPost_ret (res_t (fn:=Tryz.f173) rfl (f3.v 14 rfl rfl rfl)) f3.d ?_
   have HE:(.bool true:Value)=.bool (widB n):=by unfold widB;simp only [Ffk1.out,Ffk2.out,Bool.true_and,Bool.and_true,Bool.false_and,Bool.and_false,Bool.or_false,Bool.false_or,Bool.true_or,Bool.or_true,Bool.not_true,Bool.not_false,if_true,if_false,Bool.false_eq_true,Bool.true_eq_false,reduceCtorEq];try rfl
   exact ⟨retV HE,f3.b⟩
  have Ffk2:=Lib.hid fk2;clear fk2
  cases fk3:n == 32
  case true=>
   have Ffk3:=Lib.hid fk3;clear fk3
   have s0_3:=f1.q 0 s0_0
   refine go_reg [] [] [some (.int .i8 n),oF,oF,some (.int .i8 n),oF,oF,oF,some (.int .i8 n),oT,oT,oT,oU,oU,oT,oT] mo f1.d f1.z f1.b (by kernel_rfl) trivial (
    hk (fun cx=>cx.q (ex_mv rfl (cx.rq 0 s0_3))) <|
    hk (fun cx=>cx.v (ex_eq (x:=.tmp 3) rfl (cx.u 0 rfl) rfl) rfl (congrArg Value.bool Ffk1.out)) <|
    kmu 0 <|
    hk (fun cx=>cx.vy 0 (ex_mv rfl (cx.rq 0 s0_3))) <|
    hk (fun cx=>cx.vy 1 (ex_eq (x:=.tmp 6) rfl (cx.u 0 rfl) rfl) (congrArg Value.bool Ffk2.out)) <|
    hk (fun cx=>cx.q (ex_pf rfl (cx.u 0 rfl) (cx.u 1 rfl))) <|
    kmu 0 <|
    hk (fun cx=>cx.vy 0 (ex_mv rfl (cx.rq 0 s0_3))) <|
    hk (fun cx=>cx.vy 1 (ex_eq (x:=.tmp 10) rfl (cx.u 0 rfl) rfl) (congrArg Value.bool Ffk3.out)) <|
    hk (fun cx=>cx.q (ex_pf rfl (cx.u 0 rfl) (cx.u 1 rfl))) <|
    kmu 0 <|
    kno 0 <|
    kno 1 <|
    hk (fun cx=>cx.q (ex_pt rfl (cx.u 0 rfl) rfl)) <|
    kmu 0 <|
    hn) ?_
   intro a4 w4 f4
   refine wp_ret ?_
   try simp only [Exit.inBlock,Exit.then]
   refine bodyPost_ret (res_t (fn:=Tryz.f173) rfl (f4.v 14 rfl rfl rfl)) f4.d ?_
   have HE:(.bool true:Value)=.bool (widB n):=by unfold widB;simp only [Ffk1.out,Ffk2.out,Ffk3.out,Bool.true_and,Bool.and_true,Bool.false_and,Bool.and_false,Bool.or_false,Bool.false_or,Bool.true_or,Bool.or_true,Bool.not_true,Bool.not_false,if_true,if_false,Bool.false_eq_true,Bool.true_eq_false,reduceCtorEq];try rfl
   exact ⟨retV HE,f4.b⟩
  have Ffk3:=Lib.hid fk3;clear fk3
  cases fk4:n == 64
  case true=>
   have Ffk4:=Lib.hid fk4;clear fk4
   have s0_4:=f1.q 0 s0_0
   refine go_reg [] [] [some (.int .i8 n),oF,oF,some (.int .i8 n),oF,oF,oF,some (.int .i8 n),oF,oF,oF,some (.int .i8 n),oT,oT,oT] mo f1.d f1.z f1.b (by kernel_rfl) trivial (
    hk (fun cx=>cx.q (ex_mv rfl (cx.rq 0 s0_4))) <|
    hk (fun cx=>cx.v (ex_eq (x:=.tmp 3) rfl (cx.u 0 rfl) rfl) rfl (congrArg Value.bool Ffk1.out)) <|
    kmu 0 <|
    hk (fun cx=>cx.vy 0 (ex_mv rfl (cx.rq 0 s0_4))) <|
    hk (fun cx=>cx.vy 1 (ex_eq (x:=.tmp 6) rfl (cx.u 0 rfl) rfl) (congrArg Value.bool Ffk2.out)) <|
    hk (fun cx=>cx.q (ex_pf rfl (cx.u 0 rfl) (cx.u 1 rfl))) <|
    kmu 0 <|
    hk (fun cx=>cx.vy 0 (ex_mv rfl (cx.rq 0 s0_4))) <|
    hk (fun cx=>cx.vy 1 (ex_eq (x:=.tmp 10) rfl (cx.u 0 rfl) rfl) (congrArg Value.bool Ffk3.out)) <|
    hk (fun cx=>cx.q (ex_pf rfl (cx.u 0 rfl) (cx.u 1 rfl))) <|
    kmu 0 <|
    hk (fun cx=>cx.vy 0 (ex_mv rfl (cx.rq 0 s0_4))) <|
    hk (fun cx=>cx.vy 1 (ex_eq (x:=.tmp 14) rfl (cx.u 0 rfl) rfl) (congrArg Value.bool Ffk4.out)) <|
    hk (fun cx=>cx.q (ex_pf rfl (cx.u 0 rfl) (cx.u 1 rfl))) <|
    kmu 0 <|
    hn) ?_
   intro a5 w5 f5
   refine wp_ret ?_
   try simp only [Exit.inBlock,Exit.then]
   refine bodyPost_ret (res_t (fn:=Tryz.f173) rfl (f5.v 14 rfl rfl rfl)) f5.d ?_
   have HE:(.bool true:Value)=.bool (widB n):=by unfold widB;simp only [Ffk1.out,Ffk2.out,Ffk3.out,Ffk4.out,Bool.true_and,Bool.and_true,Bool.false_and,Bool.and_false,Bool.or_false,Bool.false_or,Bool.true_or,Bool.or_true,Bool.not_true,Bool.not_false,if_true,if_false,Bool.false_eq_true,Bool.true_eq_false,reduceCtorEq];try rfl
   exact ⟨retV HE,f5.b⟩
  have Ffk4:=Lib.hid fk4;clear fk4
  have s0_5:=f1.q 0 s0_0
  refine go_reg [] [] [some (.int .i8 n),oF,oF,some (.int .i8 n),oF,oF,oF,some (.int .i8 n),oF,oF,oF,some (.int .i8 n),oF,oF,oF] mo f1.d f1.z f1.b (by kernel_rfl) trivial (
   hk (fun cx=>cx.q (ex_mv rfl (cx.rq 0 s0_5))) <|
   hk (fun cx=>cx.v (ex_eq (x:=.tmp 3) rfl (cx.u 0 rfl) rfl) rfl (congrArg Value.bool Ffk1.out)) <|
   kmu 0 <|
   hk (fun cx=>cx.vy 0 (ex_mv rfl (cx.rq 0 s0_5))) <|
   hk (fun cx=>cx.vy 1 (ex_eq (x:=.tmp 6) rfl (cx.u 0 rfl) rfl) (congrArg Value.bool Ffk2.out)) <|
   hk (fun cx=>cx.q (ex_pf rfl (cx.u 0 rfl) (cx.u 1 rfl))) <|
   kmu 0 <|
   hk (fun cx=>cx.vy 0 (ex_mv rfl (cx.rq 0 s0_5))) <|
   hk (fun cx=>cx.vy 1 (ex_eq (x:=.tmp 10) rfl (cx.u 0 rfl) rfl) (congrArg Value.bool Ffk3.out)) <|
   hk (fun cx=>cx.q (ex_pf rfl (cx.u 0 rfl) (cx.u 1 rfl))) <|
   kmu 0 <|
   hk (fun cx=>cx.vy 0 (ex_mv rfl (cx.rq 0 s0_5))) <|
   hk (fun cx=>cx.vy 1 (ex_eq (x:=.tmp 14) rfl (cx.u 0 rfl) rfl) (congrArg Value.bool Ffk4.out)) <|
   hk (fun cx=>cx.q (ex_pf rfl (cx.u 0 rfl) (cx.u 1 rfl))) <|
   kmu 0 <|
   hn) ?_
  intro a6 w6 f6
  refine wp_ret ?_
  try simp only [Exit.inBlock,Exit.then]
  refine bodyPost_ret (res_t (fn:=Tryz.f173) rfl (f6.v 14 rfl rfl rfl)) f6.d ?_
  have HE:(.bool false:Value)=.bool (widB n):=by unfold widB;simp only [Ffk1.out,Ffk2.out,Ffk3.out,Ffk4.out,Bool.true_and,Bool.and_true,Bool.false_and,Bool.and_false,Bool.or_false,Bool.false_or,Bool.true_or,Bool.or_true,Bool.not_true,Bool.not_false,if_true,if_false,Bool.false_eq_true,Bool.true_eq_false,reduceCtorEq];try rfl
  exact ⟨retV HE,f6.b⟩
theorem chas_n (c:Cd) (w:Int) (W:World):Calls Tryz.prog 149 #[.agg #[.int .i8 c.sh,.int .i8 c.wd,.int .u16 c.va,.int .i8 c.dg,.int .u16 c.lo],.int .i8 w] W fun e w'=>e=.returned (.bool (hasB c w)) ∧ Below W.heap.size W w':=by
  refine calls_abs Tryz.func149 rfl (Nat.le_of_ble_eq_true rfl) ?_
  intro a0 d0 z0 h0
  replace z0:a0.tmps.size=19:=z0
  have s0_0:a0.tmps.getD 0 undef=.agg #[.int .i8 c.sh,.int .i8 c.wd,.int .u16 c.va,.int .i8 c.dg,.int .u16 c.lo]:=h0 0 (Nat.le_of_ble_eq_true rfl)
  have s1_0:a0.tmps.getD 1 undef=.int .i8 w:=h0 1 (Nat.le_of_ble_eq_true rfl)
  refine wp_seq ?_
  refine go_reg [] [⟨0,2,106,#[.int .i8 c.sh,.int .i8 c.wd,.int .u16 c.va,.int .i8 c.dg,.int .u16 c.lo],none,#[]⟩] [none,oF] mo d0 z0 (Below.refl _ _) (by kernel_rfl) trivial (
   hk (fun cx=>cx.al (wn rfl) 0 rfl (ex_box rfl (cx.rq 0 s0_0) rfl) rfl rfl rfl rfl rfl trivial) <|
   hk (fun cx=>cx.q (ex_as rfl rfl)) <|
   hn) ?_
  intro a1 w1 f1
  obtain ⟨g1,u_g1,q_g1,b_g1⟩:=f1.al.1
  refine wp_seq ?_
  refine wp_seq ?_
  cases fk1:c.wd == 0
  case true=>
   have Ffk1:=Lib.hid fk1;clear fk1
   refine go_reg [bx g1 106 #[.int .i8 c.sh,.int .i8 c.wd,.int .u16 c.va,.int .i8 c.dg,.int .u16 c.lo]] [] [some (pt g1 1),some (.int .i8 c.wd),oT] mo f1.d f1.z f1.b (by kernel_rfl) ⟨b_g1,trivial⟩ (
    hk (fun cx=>cx.q (ex_fa rfl (cx.rq 2 u_g1) (faEcA55_1_0 _ _))) <|
    hk (fun cx=>cx.q (ex_ld rfl (cx.u 0 rfl) (cx.rn 0 rfl) rfl Tryz.isAgg36)) <|
    hk (fun cx=>cx.v (ex_eq (x:=.tmp 6) rfl (cx.u 0 rfl) rfl) rfl (congrArg Value.bool Ffk1.out)) <|
    hn) ?_
   intro a2 w2 f2
   refine wp_cond_true (f2.v 2 rfl rfl rfl) ?_
   refine wp_seq ?_
   have s1_1:=f2.q 1 (f1.q 1 s1_0)
   refine go_reg [] [] [some (.int .i8 w),some (.bool (w == 0)),some (.bool (w == 0))] mo f2.d f2.z f2.b (by kernel_rfl) trivial (
    hk (fun cx=>cx.q (ex_mv rfl (cx.rq 1 s1_1))) <|
    hk (fun cx=>cx.q (ex_eq (x:=.tmp 8) rfl (cx.u 0 rfl) rfl)) <|
    kmu 0 <|
    hn) ?_
   intro a3 w3 f3
   refine wp_ret ?_
   try simp only [Exit.inBlock,Exit.then]
   refine bodyPost_ret (res_t (fn:=Tryz.f149) rfl (f3.v 2 rfl rfl rfl)) f3.d ?_
   have HE:(.bool (w == 0):Value)=.bool (hasB c w):=by unfold hasB;simp only [Ffk1.out,cond_true,cond_false,Bool.true_and,Bool.and_true,Bool.false_and,Bool.and_false,Bool.or_false,Bool.false_or,Bool.true_or,Bool.or_true,Bool.not_true,Bool.not_false,if_true,if_false,Bool.false_eq_true,Bool.true_eq_false,reduceCtorEq];try rfl
   exact ⟨retV HE,f3.b⟩
  have Ffk1:=Lib.hid fk1;clear fk1
  refine go_reg [bx g1 106 #[.int .i8 c.sh,.int .i8 c.wd,.int .u16 c.va,.int .i8 c.dg,.int .u16 c.lo]] [] [some (pt g1 1),some (.int .i8 c.wd),oF] mo f1.d f1.z f1.b (by kernel_rfl) ⟨b_g1,trivial⟩ (
   hk (fun cx=>cx.q (ex_fa rfl (cx.rq 2 u_g1) (faEcA55_1_0 _ _))) <|
   hk (fun cx=>cx.q (ex_ld rfl (cx.u 0 rfl) (cx.rn 0 rfl) rfl Tryz.isAgg36)) <|
   hk (fun cx=>cx.v (ex_eq (x:=.tmp 6) rfl (cx.u 0 rfl) rfl) rfl (congrArg Value.bool Ffk1.out)) <|
   hn) ?_
  intro a4 w4 f4
  refine wp_cond_false (f4.v 2 rfl rfl rfl) ?_
  refine wp_skip ?_
  refine wp_seq ?_
  cases fk2:widB w
  case false=>
   have Ffk2:=Lib.hid fk2;clear fk2
   have s1_2:=f4.q 1 (f1.q 1 s1_0)
   refine go_reg [] [] [some (.int .i8 w),oF,oF,oU,oU,oU,oU,oU,oF,oF] mo f4.d f4.z f4.b (by kernel_rfl) trivial (
    hk (fun cx=>cx.q (ex_mv rfl (cx.rq 1 s1_2))) <|
    hc (fun _ _ wx cx=>cx.c rfl (args1 (cx.u 0 rfl)) Tryz.func173 (by decide +kernel) (bwid_n w wx) rfl (congrArg Value.bool Ffk2.out)) <|
    kmu 0 <|
    kno 0 <|
    kno 1 <|
    kno 0 <|
    kno 2 <|
    kno 1 <|
    hk (fun cx=>cx.q (ex_pf rfl (cx.u 0 rfl) rfl)) <|
    kmu 0 <|
    hn) ?_
   intro a5 w5 f5
   refine wp_ret ?_
   try simp only [Exit.inBlock,Exit.then]
   refine bodyPost_ret (res_t (fn:=Tryz.f149) rfl (f5.v 9 rfl rfl rfl)) f5.d ?_
   have HE:(.bool false:Value)=.bool (hasB c w):=by unfold hasB;simp only [Ffk1.out,Ffk2.out,cond_true,cond_false,Bool.true_and,Bool.and_true,Bool.false_and,Bool.and_false,Bool.or_false,Bool.false_or,Bool.true_or,Bool.or_true,Bool.not_true,Bool.not_false,if_true,if_false,Bool.false_eq_true,Bool.true_eq_false,reduceCtorEq];try rfl
   exact ⟨retV HE,f5.b⟩
  have Ffk2:=Lib.hid fk2;clear fk2
  have b_g1_3:=f4.k b_g1
  have s1_4:=f4.q 1 (f1.q 1 s1_0)
  have s2_5:=f4.q 2 u_g1
  refine go_reg [bx g1 106 #[.int .i8 c.sh,.int .i8 c.wd,.int .u16 c.va,.int .i8 c.dg,.int .u16 c.lo]] [] [some (.int .i8 w),oT,oT,some (pt g1 1),some (.int .i8 c.wd),some (.int .i8 w),some (.int .i8 (bits .and .i8 c.wd w)),some (.bool ((bits .and .i8 c.wd w) != 0)),some (.bool ((bits .and .i8 c.wd w) != 0)),some (.bool ((bits .and .i8 c.wd w) != 0))] mo f4.d f4.z f4.b (by kernel_rfl) ⟨b_g1_3,trivial⟩ (
   hk (fun cx=>cx.q (ex_mv rfl (cx.rq 1 s1_4))) <|
   hc (fun _ _ wx cx=>cx.c rfl (args1 (cx.u 0 rfl)) Tryz.func173 (by decide +kernel) (bwid_n w wx) rfl (congrArg Value.bool Ffk2.out)) <|
   kmu 0 <|
   hk (fun cx=>cx.vy 0 (ex_fa rfl (cx.rq 2 s2_5) (faEcA55_1_0 _ _))) <|
   hk (fun cx=>cx.vy 1 (ex_ld rfl (cx.u 0 rfl) (cx.rn 0 rfl) rfl Tryz.isAgg36)) <|
   hk (fun cx=>cx.vy 0 (ex_mv rfl (cx.rq 1 s1_4))) <|
   hk (fun cx=>cx.vy 2 (ex_and (x:=.tmp 14) (y:=.tmp 15) rfl (cx.u 0 rfl) (cx.u 1 rfl))) <|
   hk (fun cx=>cx.vy 1 (ex_ne (x:=.tmp 16) rfl (cx.u 0 rfl) rfl)) <|
   hk (fun cx=>cx.q (ex_pt rfl (cx.u 0 rfl) (cx.u 1 rfl))) <|
   kmu 0 <|
   hn) ?_
  intro a6 w6 f6
  refine wp_ret ?_
  try simp only [Exit.inBlock,Exit.then]
  refine bodyPost_ret (res_t (fn:=Tryz.f149) rfl (f6.v 9 rfl rfl rfl)) f6.d ?_
  have HE:(.bool ((bits .and .i8 c.wd w) != 0):Value)=.bool (hasB c w):=by unfold hasB;simp only [Ffk1.out,Ffk2.out,cond_true,cond_false,Bool.true_and,Bool.and_true,Bool.false_and,Bool.and_false,Bool.or_false,Bool.false_or,Bool.true_or,Bool.or_true,Bool.not_true,Bool.not_false,if_true,if_false,Bool.false_eq_true,Bool.true_eq_false,reduceCtorEq];try rfl
  exact ⟨retV HE,f6.b⟩
theorem wrap8 (n:Int):IntKind.i8.wrap n=(n + 128) % 256 - 128:=by simp [IntKind.wrap,IntKind.signed,IntKind.bits];split <;> omega
theorem wrap32 (n:Int):IntKind.i32.wrap n=(n + 2147483648) % 4294967296 - 2147483648:=by simp [IntKind.wrap,IntKind.signed,IntKind.bits];split <;> omega
theorem wrap_i8_one (n:Int) (h0:-9223372036854775808 ≤ n) (h1:n ≤ 9223372036854775807):(IntKind.i64.wrap (IntKind.i8.wrap n) == n)=oneB n:=by
  rw [IntKind.wrap_i64,wrap8]
  unfold oneB
  rw [Bool.eq_iff_iff]
  simp only [beq_iff_eq,Bool.and_eq_true,decide_eq_true_eq]
  omega
theorem wrap_i32_four (n:Int) (h0:-9223372036854775808 ≤ n) (h1:n ≤ 9223372036854775807):(IntKind.i64.wrap (IntKind.i32.wrap n) == n)=fourB n:=by
  rw [IntKind.wrap_i64,wrap32]
  unfold fourB
  rw [Bool.eq_iff_iff]
  simp only [beq_iff_eq,Bool.and_eq_true,decide_eq_true_eq]
  omega
theorem cfits_n (x:Xi) (c:Cd) (W:World) (hw:-128 ≤ x.w ∧ x.w < 128) (hi:-9223372036854775808 ≤ x.imm ∧ x.imm ≤ 9223372036854775807) (hd:-9223372036854775808 ≤ x.disp ∧ x.disp ≤ 9223372036854775807):Calls Tryz.prog 124 #[.agg (xC x),.agg #[.int .i8 c.sh,.int .i8 c.wd,.int .u16 c.va,.int .i8 c.dg,.int .u16 c.lo]] W fun e w'=>e=.returned (.bool (fitsP x c)) ∧ Below W.heap.size W w':=by
  refine calls_abs Tryz.func124 rfl (Nat.le_of_ble_eq_true rfl) ?_
  intro a0 d0 z0 h0
  replace z0:a0.tmps.size=72:=z0
  have s0_0:a0.tmps.getD 0 undef=.agg (xC x):=h0 0 (Nat.le_of_ble_eq_true rfl)
  have s1_0:a0.tmps.getD 1 undef=.agg #[.int .i8 c.sh,.int .i8 c.wd,.int .u16 c.va,.int .i8 c.dg,.int .u16 c.lo]:=h0 1 (Nat.le_of_ble_eq_true rfl)
  refine wp_seq ?_
  refine go_reg [] [⟨0,2,38,(xC x),none,#[]⟩,⟨1,3,106,#[.int .i8 c.sh,.int .i8 c.wd,.int .u16 c.va,.int .i8 c.dg,.int .u16 c.lo],none,#[]⟩] [none,none,oF] mo d0 z0 (Below.refl _ _) (by kernel_rfl) trivial (
   hk (fun cx=>cx.al (wn rfl) 0 rfl (ex_box rfl (cx.rq 0 s0_0) rfl) rfl rfl rfl rfl rfl trivial) <|
   hk (fun cx=>cx.al (wn rfl) 1 rfl (ex_box rfl (cx.rq 1 s1_0) rfl) rfl rfl rfl rfl rfl trivial) <|
   hk (fun cx=>cx.q (ex_as rfl rfl)) <|
   hn) ?_
  intro a1 w1 f1
  obtain ⟨g1,u_g1,q_g1,b_g1⟩:=f1.al.1
  obtain ⟨g2,u_g2,q_g2,b_g2⟩:=f1.al.2.1
  refine wp_seq ?_
  refine wp_seq ?_
  cases fk1:regB x.dst
  case false=>
   have Ffk1:=Lib.hid fk1;clear fk1
   refine go_reg [bx g1 38 (xC x)] [] (tabs [some (pt g1 2),some (.int .i8 x.dst),oF,oT,oT,oU,oU,oU,oU,oT,oT,oU,oU,oU,oU,oT,oT,oU,oU,oU] [oU,oU,oU,oU,oU,oU,oT]) mo f1.d f1.z f1.b (by kernel_rfl) ⟨b_g1,trivial⟩ (
    hk (fun cx=>cx.q (ex_fa rfl (cx.rq 2 u_g1) (faEcA24_2_0 _ _))) <|
    hk (fun cx=>cx.q (ex_ld rfl (cx.u 0 rfl) (cx.rn 0 rfl) rfl Tryz.isAgg36)) <|
    hc (fun _ _ wx cx=>cx.c rfl (args1 (cx.u 0 rfl)) Tryz.func150 (by decide +kernel) (cregister_n x.dst wx) rfl (congrArg Value.bool Ffk1.out)) <|
    hk (fun cx=>cx.q (ex_not (x:=.tmp 7) rfl (cx.u 0 rfl))) <|
    kmu 0 <|
    kno 0 <|
    kno 1 <|
    kno 1 <|
    kno 1 <|
    hk (fun cx=>cx.q (ex_pt rfl (cx.u 0 rfl) rfl)) <|
    kmu 0 <|
    kno 0 <|
    kno 1 <|
    kno 1 <|
    kno 1 <|
    hk (fun cx=>cx.q (ex_pt rfl (cx.u 0 rfl) rfl)) <|
    kmu 0 <|
    kno 0 <|
    kno 1 <|
    kno 1 <|
    kno 1 <|
    kno 0 <|
    kno 1 <|
    kno 1 <|
    kno 1 <|
    kno 2 <|
    hk (fun cx=>cx.q (ex_pt rfl (cx.u 0 rfl) rfl)) <|
    hn) ?_
   intro a2 w2 f2
   refine wp_cond_true (f2.v 26 rfl rfl rfl) ?_
   refine wp_seq ?_
   refine go_reg [] [] [oF] mo f2.d f2.z f2.b (by kernel_rfl) trivial (
    hk (fun cx=>cx.q (ex_as rfl rfl)) <|
    hn) ?_
   intro a3 w3 f3
   refine wp_ret ?_
   try simp only [Exit.inBlock,Exit.then]
   refine bodyPost_ret (res_t (fn:=Tryz.f124) rfl (f3.v 0 rfl rfl rfl)) f3.d ?_
   have HE:(.bool false:Value)=.bool (fitsP x c):=by unfold fitsP;simp only [Ffk1.out,cond_true,cond_false,Bool.true_and,Bool.and_true,Bool.false_and,Bool.and_false,Bool.or_false,Bool.false_or,Bool.true_or,Bool.or_true,Bool.not_true,Bool.not_false,if_true,if_false,Bool.false_eq_true,Bool.true_eq_false,reduceCtorEq];try rfl
   exact ⟨retV HE,f3.b⟩
  have Ffk1:=Lib.hid fk1;clear fk1
  cases fk2:regB x.src
  case false=>
   have Ffk2:=Lib.hid fk2;clear fk2
   refine go_reg [bx g1 38 (xC x)] [] (tabs [some (pt g1 2),some (.int .i8 x.dst),oT,oF,oF,some (pt g1 3),some (.int .i8 x.src),oF,oT,oT,oT,oU,oU,oU,oU,oT,oT,oU,oU,oU] [oU,oU,oU,oU,oU,oU,oT]) mo f1.d f1.z f1.b (by kernel_rfl) ⟨b_g1,trivial⟩ (
    hk (fun cx=>cx.q (ex_fa rfl (cx.rq 2 u_g1) (faEcA24_2_0 _ _))) <|
    hk (fun cx=>cx.q (ex_ld rfl (cx.u 0 rfl) (cx.rn 0 rfl) rfl Tryz.isAgg36)) <|
    hc (fun _ _ wx cx=>cx.c rfl (args1 (cx.u 0 rfl)) Tryz.func150 (by decide +kernel) (cregister_n x.dst wx) rfl (congrArg Value.bool Ffk1.out)) <|
    hk (fun cx=>cx.q (ex_not (x:=.tmp 7) rfl (cx.u 0 rfl))) <|
    kmu 0 <|
    hk (fun cx=>cx.vy 0 (ex_fa rfl (cx.rq 2 u_g1) (faEcA24_3_0 _ _))) <|
    hk (fun cx=>cx.vy 1 (ex_ld rfl (cx.u 0 rfl) (cx.rn 0 rfl) rfl Tryz.isAgg36)) <|
    hc (fun _ _ wx cx=>cx.call (cx.wy rfl rfl rfl rfl (cx.u 1 rfl)) rfl rfl (args1 (cx.u 0 rfl)) Tryz.func150 (by decide +kernel) rfl (cregister_n x.src wx) rfl rfl (congrArg Value.bool Ffk2.out) rfl) <|
    hk (fun cx=>cx.vy 1 (ex_not (x:=.tmp 12) rfl (cx.u 0 rfl))) <|
    hk (fun cx=>cx.q (ex_pf rfl (cx.u 0 rfl) (cx.u 1 rfl))) <|
    kmu 0 <|
    kno 0 <|
    kno 1 <|
    kno 1 <|
    kno 1 <|
    hk (fun cx=>cx.q (ex_pt rfl (cx.u 0 rfl) rfl)) <|
    kmu 0 <|
    kno 0 <|
    kno 1 <|
    kno 1 <|
    kno 1 <|
    kno 0 <|
    kno 1 <|
    kno 1 <|
    kno 1 <|
    kno 2 <|
    hk (fun cx=>cx.q (ex_pt rfl (cx.u 0 rfl) rfl)) <|
    hn) ?_
   intro a4 w4 f4
   refine wp_cond_true (f4.v 26 rfl rfl rfl) ?_
   refine wp_seq ?_
   refine go_reg [] [] [oF] mo f4.d f4.z f4.b (by kernel_rfl) trivial (
    hk (fun cx=>cx.q (ex_as rfl rfl)) <|
    hn) ?_
   intro a5 w5 f5
   refine wp_ret ?_
   try simp only [Exit.inBlock,Exit.then]
   refine bodyPost_ret (res_t (fn:=Tryz.f124) rfl (f5.v 0 rfl rfl rfl)) f5.d ?_
   have HE:(.bool false:Value)=.bool (fitsP x c):=by unfold fitsP;simp only [Ffk1.out,Ffk2.out,cond_true,cond_false,Bool.true_and,Bool.and_true,Bool.false_and,Bool.and_false,Bool.or_false,Bool.false_or,Bool.true_or,Bool.or_true,Bool.not_true,Bool.not_false,if_true,if_false,Bool.false_eq_true,Bool.true_eq_false,reduceCtorEq];try rfl
   exact ⟨retV HE,f5.b⟩
  have Ffk2:=Lib.hid fk2;clear fk2
  cases fk3:regB x.base
  case false=>
   have Ffk3:=Lib.hid fk3;clear fk3
   refine go_reg [bx g1 38 (xC x)] [] (tabs [some (pt g1 2),some (.int .i8 x.dst),oT,oF,oF,some (pt g1 3),some (.int .i8 x.src),oT,oF,oF,oF,some (pt g1 4),some (.int .i8 x.base),oF,oT,oT,oT,oU,oU,oU] [oU,oU,oU,oU,oU,oU,oT]) mo f1.d f1.z f1.b (by kernel_rfl) ⟨b_g1,trivial⟩ (
    hk (fun cx=>cx.q (ex_fa rfl (cx.rq 2 u_g1) (faEcA24_2_0 _ _))) <|
    hk (fun cx=>cx.q (ex_ld rfl (cx.u 0 rfl) (cx.rn 0 rfl) rfl Tryz.isAgg36)) <|
    hc (fun _ _ wx cx=>cx.c rfl (args1 (cx.u 0 rfl)) Tryz.func150 (by decide +kernel) (cregister_n x.dst wx) rfl (congrArg Value.bool Ffk1.out)) <|
    hk (fun cx=>cx.q (ex_not (x:=.tmp 7) rfl (cx.u 0 rfl))) <|
    kmu 0 <|
    hk (fun cx=>cx.vy 0 (ex_fa rfl (cx.rq 2 u_g1) (faEcA24_3_0 _ _))) <|
    hk (fun cx=>cx.vy 1 (ex_ld rfl (cx.u 0 rfl) (cx.rn 0 rfl) rfl Tryz.isAgg36)) <|
    hc (fun _ _ wx cx=>cx.call (cx.wy rfl rfl rfl rfl (cx.u 1 rfl)) rfl rfl (args1 (cx.u 0 rfl)) Tryz.func150 (by decide +kernel) rfl (cregister_n x.src wx) rfl rfl (congrArg Value.bool Ffk2.out) rfl) <|
    hk (fun cx=>cx.vy 1 (ex_not (x:=.tmp 12) rfl (cx.u 0 rfl))) <|
    hk (fun cx=>cx.q (ex_pf rfl (cx.u 0 rfl) (cx.u 1 rfl))) <|
    kmu 0 <|
    hk (fun cx=>cx.vy 0 (ex_fa rfl (cx.rq 2 u_g1) (faEcA24_4_0 _ _))) <|
    hk (fun cx=>cx.vy 1 (ex_ld rfl (cx.u 0 rfl) (cx.rn 0 rfl) rfl Tryz.isAgg36)) <|
    hc (fun _ _ wx cx=>cx.call (cx.wy rfl rfl rfl rfl (cx.u 1 rfl)) rfl rfl (args1 (cx.u 0 rfl)) Tryz.func150 (by decide +kernel) rfl (cregister_n x.base wx) rfl rfl (congrArg Value.bool Ffk3.out) rfl) <|
    hk (fun cx=>cx.vy 1 (ex_not (x:=.tmp 18) rfl (cx.u 0 rfl))) <|
    hk (fun cx=>cx.q (ex_pf rfl (cx.u 0 rfl) (cx.u 1 rfl))) <|
    kmu 0 <|
    kno 0 <|
    kno 1 <|
    kno 1 <|
    kno 1 <|
    kno 0 <|
    kno 1 <|
    kno 1 <|
    kno 1 <|
    kno 2 <|
    hk (fun cx=>cx.q (ex_pt rfl (cx.u 0 rfl) rfl)) <|
    hn) ?_
   intro a6 w6 f6
   refine wp_cond_true (f6.v 26 rfl rfl rfl) ?_
   refine wp_seq ?_
   refine go_reg [] [] [oF] mo f6.d f6.z f6.b (by kernel_rfl) trivial (
    hk (fun cx=>cx.q (ex_as rfl rfl)) <|
    hn) ?_
   intro a7 w7 f7
   refine wp_ret ?_
   try simp only [Exit.inBlock,Exit.then]
   refine bodyPost_ret (res_t (fn:=Tryz.f124) rfl (f7.v 0 rfl rfl rfl)) f7.d ?_
   have HE:(.bool false:Value)=.bool (fitsP x c):=by unfold fitsP;simp only [Ffk1.out,Ffk2.out,Ffk3.out,cond_true,cond_false,Bool.true_and,Bool.and_true,Bool.false_and,Bool.and_false,Bool.or_false,Bool.false_or,Bool.true_or,Bool.or_true,Bool.not_true,Bool.not_false,if_true,if_false,Bool.false_eq_true,Bool.true_eq_false,reduceCtorEq];try rfl
   exact ⟨retV HE,f7.b⟩
  have Ffk3:=Lib.hid fk3;clear fk3
  cases fk4:c.lo == 15
  case false=>
   have Ffk4:=Lib.hid fk4;clear fk4
   refine go_reg [bx g1 38 (xC x),bx g2 106 #[.int .i8 c.sh,.int .i8 c.wd,.int .u16 c.va,.int .i8 c.dg,.int .u16 c.lo]] [] (tabs [some (pt g1 2),some (.int .i8 x.dst),oT,oF,oF,some (pt g1 3),some (.int .i8 x.src),oT,oF,oF,oF,some (pt g1 4),some (.int .i8 x.base),oT,oF,oF,oF,some (pt g2 4),some (.int .u16 c.lo),oF] [oF,oU,oU,oU,oU,oF,oF]) mo f1.d f1.z f1.b (by kernel_rfl) ⟨b_g1,b_g2,trivial⟩ (
    hk (fun cx=>cx.q (ex_fa rfl (cx.rq 2 u_g1) (faEcA24_2_0 _ _))) <|
    hk (fun cx=>cx.q (ex_ld rfl (cx.u 0 rfl) (cx.rn 0 rfl) rfl Tryz.isAgg36)) <|
    hc (fun _ _ wx cx=>cx.c rfl (args1 (cx.u 0 rfl)) Tryz.func150 (by decide +kernel) (cregister_n x.dst wx) rfl (congrArg Value.bool Ffk1.out)) <|
    hk (fun cx=>cx.q (ex_not (x:=.tmp 7) rfl (cx.u 0 rfl))) <|
    kmu 0 <|
    hk (fun cx=>cx.vy 0 (ex_fa rfl (cx.rq 2 u_g1) (faEcA24_3_0 _ _))) <|
    hk (fun cx=>cx.vy 1 (ex_ld rfl (cx.u 0 rfl) (cx.rn 0 rfl) rfl Tryz.isAgg36)) <|
    hc (fun _ _ wx cx=>cx.call (cx.wy rfl rfl rfl rfl (cx.u 1 rfl)) rfl rfl (args1 (cx.u 0 rfl)) Tryz.func150 (by decide +kernel) rfl (cregister_n x.src wx) rfl rfl (congrArg Value.bool Ffk2.out) rfl) <|
    hk (fun cx=>cx.vy 1 (ex_not (x:=.tmp 12) rfl (cx.u 0 rfl))) <|
    hk (fun cx=>cx.q (ex_pf rfl (cx.u 0 rfl) (cx.u 1 rfl))) <|
    kmu 0 <|
    hk (fun cx=>cx.vy 0 (ex_fa rfl (cx.rq 2 u_g1) (faEcA24_4_0 _ _))) <|
    hk (fun cx=>cx.vy 1 (ex_ld rfl (cx.u 0 rfl) (cx.rn 0 rfl) rfl Tryz.isAgg36)) <|
    hc (fun _ _ wx cx=>cx.call (cx.wy rfl rfl rfl rfl (cx.u 1 rfl)) rfl rfl (args1 (cx.u 0 rfl)) Tryz.func150 (by decide +kernel) rfl (cregister_n x.base wx) rfl rfl (congrArg Value.bool Ffk3.out) rfl) <|
    hk (fun cx=>cx.vy 1 (ex_not (x:=.tmp 18) rfl (cx.u 0 rfl))) <|
    hk (fun cx=>cx.q (ex_pf rfl (cx.u 0 rfl) (cx.u 1 rfl))) <|
    kmu 0 <|
    hk (fun cx=>cx.vy 0 (ex_fa rfl (cx.rq 3 u_g2) (faEcA55_4_0 _ _))) <|
    hk (fun cx=>cx.vy 1 (ex_ld rfl (cx.u 0 rfl) (cx.rn 1 rfl) rfl Tryz.isAgg104)) <|
    hk (fun cx=>cx.vy 1 (ex_eq (x:=.tmp 23) rfl (cx.u 0 rfl) rfl) (congrArg Value.bool Ffk4.out)) <|
    hk (fun cx=>cx.vy 1 (ex_mv rfl (cx.u 0 rfl))) <|
    kno 0 <|
    kno 1 <|
    kno 1 <|
    kno 1 <|
    hk (fun cx=>cx.vy 2 (ex_pf rfl (cx.u 0 rfl) rfl)) <|
    hk (fun cx=>cx.q (ex_pf rfl (cx.u 0 rfl) (cx.u 1 rfl))) <|
    hn) ?_
   intro a8 w8 f8
   refine wp_cond_false (f8.v 26 rfl rfl rfl) ?_
   refine wp_skip ?_
   refine wp_seq ?_
   refine wp_seq ?_
   have b_g2_1:=f8.k b_g2
   have s3_2:=f8.q 3 u_g2
   refine go_reg [bx g2 106 #[.int .i8 c.sh,.int .i8 c.wd,.int .u16 c.va,.int .i8 c.dg,.int .u16 c.lo]] [] [some (pt g2 0),some (.int .i8 c.sh)] mo f8.d f8.z f8.b (by kernel_rfl) ⟨b_g2_1,trivial⟩ (
    hk (fun cx=>cx.q (ex_fa rfl (cx.rq 3 s3_2) (faEcA55_0_0 _ _))) <|
    hk (fun cx=>cx.q (ex_ld rfl (cx.u 0 rfl) (cx.rn 0 rfl) rfl Tryz.isAgg36)) <|
    hn) ?_
   intro a9 w9 f9
   refine wp_block ?_
   refine wp_seq ?_
   cases fk5:c.sh == 4
   case true=>
    have Ffk5:=Lib.hid fk5;clear fk5
    refine go_reg [] [] [oT,oT] mo f9.d f9.z f9.b (by kernel_rfl) trivial (
     hk (fun cx=>cx.v (ex_eq (x:=.tmp 33) rfl (cx.rq 33 (f9.v 1 rfl rfl rfl)) rfl) rfl (congrArg Value.bool Ffk5.out)) <|
     kmu 0 <|
     hn) ?_
    intro a10 w10 f10
    refine wp_cond_true (f10.v 1 rfl rfl rfl) ?_
    refine wp_seq ?_
    cases fk6:decide (0 ≤ x.imm)
    case false=>
     have Ffk6:=Lib.hid fk6;clear fk6
     have b_g1_3:=f10.k (f9.k (f8.k b_g1))
     have s2_4:=f10.q 2 (f9.q 2 (f8.q 2 u_g1))
     refine go_reg [bx g1 38 (xC x)] [] [some (pt g1 6),some (.int .i64 x.imm),oF,oF,oU,oU,oU,oU,oU,oU,oF,oF] mo f10.d f10.z f10.b (by kernel_rfl) ⟨b_g1_3,trivial⟩ (
      hk (fun cx=>cx.q (ex_fa rfl (cx.rq 2 s2_4) (faEcA24_6_0 _ _))) <|
      hk (fun cx=>cx.q (ex_ld rfl (cx.u 0 rfl) (cx.rn 0 rfl) rfl Tryz.isAgg3)) <|
      hk (fun cx=>cx.v (ex_ge (x:=.tmp 37) rfl (cx.u 0 rfl) rfl) rfl (congrArg Value.bool Ffk6.out)) <|
      kmu 0 <|
      kno 0 <|
      kno 1 <|
      kno 0 <|
      kno 1 <|
      kno 1 <|
      kno 2 <|
      hk (fun cx=>cx.q (ex_pf rfl (cx.u 0 rfl) rfl)) <|
      kmu 0 <|
      hn) ?_
     intro a11 w11 f11
     refine wp_ret ?_
     try simp only [Exit.inBlock,Exit.then]
     refine bodyPost_ret (res_t (fn:=Tryz.f124) rfl (f11.v 11 rfl rfl rfl)) f11.d ?_
     have HE:(.bool false:Value)=.bool (fitsP x c):=by unfold fitsP;simp only [Ffk1.out,Ffk2.out,Ffk3.out,Ffk4.out,Ffk5.out,Ffk6.out,cond_true,cond_false,Bool.true_and,Bool.and_true,Bool.false_and,Bool.and_false,Bool.or_false,Bool.false_or,Bool.true_or,Bool.or_true,Bool.not_true,Bool.not_false,if_true,if_false,Bool.false_eq_true,Bool.true_eq_false,reduceCtorEq];try rfl
     exact ⟨retV HE,f11.b⟩
    have Ffk6:=Lib.hid fk6;clear fk6
    have b_g1_5:=f10.k (f9.k (f8.k b_g1))
    have s2_6:=f10.q 2 (f9.q 2 (f8.q 2 u_g1))
    refine go_reg [bx g1 38 (xC x)] [] [some (pt g1 6),some (.int .i64 x.imm),oT,oT,some (pt g1 6),some (.int .i64 x.imm),some (pt g1 1),some (.int .i8 x.w),some (.int .i64 x.w),some (.bool (decide (x.imm < x.w))),some (.bool (decide (x.imm < x.w))),some (.bool (decide (x.imm < x.w)))] mo f10.d f10.z f10.b (by kernel_rfl) ⟨b_g1_5,trivial⟩ (
     hk (fun cx=>cx.q (ex_fa rfl (cx.rq 2 s2_6) (faEcA24_6_0 _ _))) <|
     hk (fun cx=>cx.q (ex_ld rfl (cx.u 0 rfl) (cx.rn 0 rfl) rfl Tryz.isAgg3)) <|
     hk (fun cx=>cx.v (ex_ge (x:=.tmp 37) rfl (cx.u 0 rfl) rfl) rfl (congrArg Value.bool Ffk6.out)) <|
     kmu 0 <|
     hk (fun cx=>cx.vy 0 (ex_fa rfl (cx.rq 2 s2_6) (faEcA24_6_0 _ _))) <|
     hk (fun cx=>cx.vy 1 (ex_ld rfl (cx.u 0 rfl) (cx.rn 0 rfl) rfl Tryz.isAgg3)) <|
     hk (fun cx=>cx.vy 0 (ex_fa rfl (cx.rq 2 s2_6) (faEcA24_1_0 _ _))) <|
     hk (fun cx=>cx.vy 1 (ex_ld rfl (cx.u 0 rfl) (cx.rn 0 rfl) rfl Tryz.isAgg36)) <|
     hk (fun cx=>cx.vy 1 (ex_conv (x:=.tmp 43) rfl (cx.u 0 rfl) Tryz.underlying36 Tryz.underlying3) (congrArg (Value.int .i64) (wrap_w hw))) <|
     hk (fun cx=>cx.vy 2 (ex_lt (x:=.tmp 41) (y:=.tmp 44) rfl (cx.u 0 rfl) (cx.u 1 rfl))) <|
     hk (fun cx=>cx.q (ex_pt rfl (cx.u 0 rfl) (cx.u 1 rfl))) <|
     kmu 0 <|
     hn) ?_
    intro a12 w12 f12
    refine wp_ret ?_
    try simp only [Exit.inBlock,Exit.then]
    refine bodyPost_ret (res_t (fn:=Tryz.f124) rfl (f12.v 11 rfl rfl rfl)) f12.d ?_
    have HE:(.bool (decide (x.imm < x.w)):Value)=.bool (fitsP x c):=by unfold fitsP;simp only [Ffk1.out,Ffk2.out,Ffk3.out,Ffk4.out,Ffk5.out,Ffk6.out,cond_true,cond_false,Bool.true_and,Bool.and_true,Bool.false_and,Bool.and_false,Bool.or_false,Bool.false_or,Bool.true_or,Bool.or_true,Bool.not_true,Bool.not_false,if_true,if_false,Bool.false_eq_true,Bool.true_eq_false,reduceCtorEq];try rfl
    exact ⟨retV HE,f12.b⟩
   have Ffk5:=Lib.hid fk5;clear fk5
   refine go_reg [] [] [oF,oF] mo f9.d f9.z f9.b (by kernel_rfl) trivial (
    hk (fun cx=>cx.v (ex_eq (x:=.tmp 33) rfl (cx.rq 33 (f9.v 1 rfl rfl rfl)) rfl) rfl (congrArg Value.bool Ffk5.out)) <|
    kmu 0 <|
    hn) ?_
   intro a13 w13 f13
   refine wp_cond_false (f13.v 1 rfl rfl rfl) ?_
   refine wp_seq ?_
   cases fk7:c.sh == 10
   case true=>
    have Ffk7:=Lib.hid fk7;clear fk7
    have s33_7:=f13.q 33 (f9.v 1 rfl rfl rfl)
    refine go_reg [] [] [oT,oT] mo f13.d f13.z f13.b (by kernel_rfl) trivial (
     hk (fun cx=>cx.v (ex_eq (x:=.tmp 33) rfl (cx.rq 33 s33_7) rfl) rfl (congrArg Value.bool Ffk7.out)) <|
     kmu 0 <|
     hn) ?_
    intro a14 w14 f14
    refine wp_cond_true (f14.v 1 rfl rfl rfl) ?_
    refine wp_seq ?_
    have b_g1_8:=f14.k (f13.k (f9.k (f8.k b_g1)))
    have s2_9:=f14.q 2 (f13.q 2 (f9.q 2 (f8.q 2 u_g1)))
    refine go_reg [bx g1 38 (xC x)] [] [some (pt g1 6),some (.int .i64 x.imm),some (.int .i8 (IntKind.i8.wrap x.imm)),some (.int .i64 (IntKind.i64.wrap (IntKind.i8.wrap x.imm))),some (pt g1 6),some (.int .i64 x.imm),some (.bool (oneB x.imm)),some (.bool (oneB x.imm))] mo f14.d f14.z f14.b (by kernel_rfl) ⟨b_g1_8,trivial⟩ (
     hk (fun cx=>cx.q (ex_fa rfl (cx.rq 2 s2_9) (faEcA24_6_0 _ _))) <|
     hk (fun cx=>cx.q (ex_ld rfl (cx.u 0 rfl) (cx.rn 0 rfl) rfl Tryz.isAgg3)) <|
     hk (fun cx=>cx.q (ex_conv (x:=.tmp 50) rfl (cx.u 0 rfl) Tryz.underlying3 Tryz.underlying36)) <|
     hk (fun cx=>cx.q (ex_conv (x:=.tmp 51) rfl (cx.u 0 rfl) Tryz.underlying36 Tryz.underlying3)) <|
     hk (fun cx=>cx.q (ex_fa rfl (cx.rq 2 s2_9) (faEcA24_6_0 _ _))) <|
     hk (fun cx=>cx.q (ex_ld rfl (cx.u 0 rfl) (cx.rn 0 rfl) rfl Tryz.isAgg3)) <|
     hk (fun cx=>cx.v (ex_eq (x:=.tmp 52) (y:=.tmp 54) rfl (cx.u 0 rfl) (cx.u 1 rfl)) rfl (congrArg Value.bool (wrap_i8_one _ hi.1 hi.2))) <|
     kmu 0 <|
     hn) ?_
    intro a15 w15 f15
    refine wp_ret ?_
    try simp only [Exit.inBlock,Exit.then]
    refine bodyPost_ret (res_t (fn:=Tryz.f124) rfl (f15.v 7 rfl rfl rfl)) f15.d ?_
    have HE:(.bool (oneB x.imm):Value)=.bool (fitsP x c):=by unfold fitsP;simp only [Ffk1.out,Ffk2.out,Ffk3.out,Ffk4.out,Ffk5.out,Ffk7.out,cond_true,cond_false,Bool.true_and,Bool.and_true,Bool.false_and,Bool.and_false,Bool.or_false,Bool.false_or,Bool.true_or,Bool.or_true,Bool.not_true,Bool.not_false,if_true,if_false,Bool.false_eq_true,Bool.true_eq_false,reduceCtorEq];try rfl
    exact ⟨retV HE,f15.b⟩
   have Ffk7:=Lib.hid fk7;clear fk7
   have s33_10:=f13.q 33 (f9.v 1 rfl rfl rfl)
   refine go_reg [] [] [oF,oF] mo f13.d f13.z f13.b (by kernel_rfl) trivial (
    hk (fun cx=>cx.v (ex_eq (x:=.tmp 33) rfl (cx.rq 33 s33_10) rfl) rfl (congrArg Value.bool Ffk7.out)) <|
    kmu 0 <|
    hn) ?_
   intro a16 w16 f16
   refine wp_cond_false (f16.v 1 rfl rfl rfl) ?_
   refine wp_skip ?_
   refine wp_seq ?_
   cases fk8:fourB x.imm
   case false=>
    have Ffk8:=Lib.hid fk8;clear fk8
    have b_g1_11:=f16.k (f13.k (f9.k (f8.k b_g1)))
    have s2_12:=f16.q 2 (f13.q 2 (f9.q 2 (f8.q 2 u_g1)))
    refine go_reg [bx g1 38 (xC x)] [] [some (pt g1 6),some (.int .i64 x.imm),some (.int .i32 (IntKind.i32.wrap x.imm)),some (.int .i64 (IntKind.i64.wrap (IntKind.i32.wrap x.imm))),some (pt g1 6),some (.int .i64 x.imm),some (.bool (fourB x.imm)),oF,oU,oU,oU,oU,oU,oU,oU,oF,oF] mo f16.d f16.z f16.b (by kernel_rfl) ⟨b_g1_11,trivial⟩ (
     hk (fun cx=>cx.q (ex_fa rfl (cx.rq 2 s2_12) (faEcA24_6_0 _ _))) <|
     hk (fun cx=>cx.q (ex_ld rfl (cx.u 0 rfl) (cx.rn 0 rfl) rfl Tryz.isAgg3)) <|
     hk (fun cx=>cx.q (ex_conv (x:=.tmp 57) rfl (cx.u 0 rfl) Tryz.underlying3 Tryz.underlying21)) <|
     hk (fun cx=>cx.q (ex_conv (x:=.tmp 58) rfl (cx.u 0 rfl) Tryz.underlying21 Tryz.underlying3)) <|
     hk (fun cx=>cx.q (ex_fa rfl (cx.rq 2 s2_12) (faEcA24_6_0 _ _))) <|
     hk (fun cx=>cx.q (ex_ld rfl (cx.u 0 rfl) (cx.rn 0 rfl) rfl Tryz.isAgg3)) <|
     hk (fun cx=>cx.v (ex_eq (x:=.tmp 59) (y:=.tmp 61) rfl (cx.u 0 rfl) (cx.u 1 rfl)) rfl (congrArg Value.bool (wrap_i32_four _ hi.1 hi.2))) <|
     hk (fun cx=>cx.v (ex_mv rfl (cx.u 0 rfl)) rfl (congrArg Value.bool Ffk8.out)) <|
     kno 0 <|
     kno 1 <|
     kno 1 <|
     kno 1 <|
     kno 0 <|
     kno 1 <|
     kno 2 <|
     hk (fun cx=>cx.q (ex_pf rfl (cx.u 0 rfl) rfl)) <|
     kmu 0 <|
     hn) ?_
    intro a17 w17 f17
    refine wp_ret ?_
    try simp only [Exit.inBlock,Exit.then]
    refine bodyPost_ret (res_t (fn:=Tryz.f124) rfl (f17.v 16 rfl rfl rfl)) f17.d ?_
    have HE:(.bool false:Value)=.bool (fitsP x c):=by unfold fitsP;simp only [Ffk1.out,Ffk2.out,Ffk3.out,Ffk4.out,Ffk5.out,Ffk7.out,Ffk8.out,cond_true,cond_false,Bool.true_and,Bool.and_true,Bool.false_and,Bool.and_false,Bool.or_false,Bool.false_or,Bool.true_or,Bool.or_true,Bool.not_true,Bool.not_false,if_true,if_false,Bool.false_eq_true,Bool.true_eq_false,reduceCtorEq];try rfl
    exact ⟨retV HE,f17.b⟩
   have Ffk8:=Lib.hid fk8;clear fk8
   have b_g1_13:=f16.k (f13.k (f9.k (f8.k b_g1)))
   have s2_14:=f16.q 2 (f13.q 2 (f9.q 2 (f8.q 2 u_g1)))
   refine go_reg [bx g1 38 (xC x)] [] [some (pt g1 6),some (.int .i64 x.imm),some (.int .i32 (IntKind.i32.wrap x.imm)),some (.int .i64 (IntKind.i64.wrap (IntKind.i32.wrap x.imm))),some (pt g1 6),some (.int .i64 x.imm),some (.bool (fourB x.imm)),oT,some (pt g1 5),some (.int .i64 x.disp),some (.int .i32 (IntKind.i32.wrap x.disp)),some (.int .i64 (IntKind.i64.wrap (IntKind.i32.wrap x.disp))),some (pt g1 5),some (.int .i64 x.disp),some (.bool (fourB x.disp)),some (.bool (fourB x.disp)),some (.bool (fourB x.disp))] mo f16.d f16.z f16.b (by kernel_rfl) ⟨b_g1_13,trivial⟩ (
    hk (fun cx=>cx.q (ex_fa rfl (cx.rq 2 s2_14) (faEcA24_6_0 _ _))) <|
    hk (fun cx=>cx.q (ex_ld rfl (cx.u 0 rfl) (cx.rn 0 rfl) rfl Tryz.isAgg3)) <|
    hk (fun cx=>cx.q (ex_conv (x:=.tmp 57) rfl (cx.u 0 rfl) Tryz.underlying3 Tryz.underlying21)) <|
    hk (fun cx=>cx.q (ex_conv (x:=.tmp 58) rfl (cx.u 0 rfl) Tryz.underlying21 Tryz.underlying3)) <|
    hk (fun cx=>cx.q (ex_fa rfl (cx.rq 2 s2_14) (faEcA24_6_0 _ _))) <|
    hk (fun cx=>cx.q (ex_ld rfl (cx.u 0 rfl) (cx.rn 0 rfl) rfl Tryz.isAgg3)) <|
    hk (fun cx=>cx.v (ex_eq (x:=.tmp 59) (y:=.tmp 61) rfl (cx.u 0 rfl) (cx.u 1 rfl)) rfl (congrArg Value.bool (wrap_i32_four _ hi.1 hi.2))) <|
    hk (fun cx=>cx.v (ex_mv rfl (cx.u 0 rfl)) rfl (congrArg Value.bool Ffk8.out)) <|
    hk (fun cx=>cx.vy 0 (ex_fa rfl (cx.rq 2 s2_14) (faEcA24_5_0 _ _))) <|
    hk (fun cx=>cx.vy 1 (ex_ld rfl (cx.u 0 rfl) (cx.rn 0 rfl) rfl Tryz.isAgg3)) <|
    hk (fun cx=>cx.vy 1 (ex_conv (x:=.tmp 65) rfl (cx.u 0 rfl) Tryz.underlying3 Tryz.underlying21)) <|
    hk (fun cx=>cx.vy 1 (ex_conv (x:=.tmp 66) rfl (cx.u 0 rfl) Tryz.underlying21 Tryz.underlying3)) <|
    hk (fun cx=>cx.vy 0 (ex_fa rfl (cx.rq 2 s2_14) (faEcA24_5_0 _ _))) <|
    hk (fun cx=>cx.vy 1 (ex_ld rfl (cx.u 0 rfl) (cx.rn 0 rfl) rfl Tryz.isAgg3)) <|
    hk (fun cx=>cx.vy 2 (ex_eq (x:=.tmp 67) (y:=.tmp 69) rfl (cx.u 0 rfl) (cx.u 1 rfl)) (congrArg Value.bool (wrap_i32_four _ hd.1 hd.2))) <|
    hk (fun cx=>cx.q (ex_pt rfl (cx.u 0 rfl) (cx.u 1 rfl))) <|
    kmu 0 <|
    hn) ?_
   intro a18 w18 f18
   refine wp_ret ?_
   try simp only [Exit.inBlock,Exit.then]
   refine bodyPost_ret (res_t (fn:=Tryz.f124) rfl (f18.v 16 rfl rfl rfl)) f18.d ?_
   have HE:(.bool (fourB x.disp):Value)=.bool (fitsP x c):=by unfold fitsP;simp only [Ffk1.out,Ffk2.out,Ffk3.out,Ffk4.out,Ffk5.out,Ffk7.out,Ffk8.out,cond_true,cond_false,Bool.true_and,Bool.and_true,Bool.false_and,Bool.and_false,Bool.or_false,Bool.false_or,Bool.true_or,Bool.or_true,Bool.not_true,Bool.not_false,if_true,if_false,Bool.false_eq_true,Bool.true_eq_false,reduceCtorEq];try rfl
   exact ⟨retV HE,f18.b⟩
  have Ffk4:=Lib.hid fk4;clear fk4
  cases fk9:ccB x.cc
  case false=>
   have Ffk9:=Lib.hid fk9;clear fk9
   refine go_reg [bx g1 38 (xC x),bx g2 106 #[.int .i8 c.sh,.int .i8 c.wd,.int .u16 c.va,.int .i8 c.dg,.int .u16 c.lo]] [] (tabs [some (pt g1 2),some (.int .i8 x.dst),oT,oF,oF,some (pt g1 3),some (.int .i8 x.src),oT,oF,oF,oF,some (pt g1 4),some (.int .i8 x.base),oT,oF,oF,oF,some (pt g2 4),some (.int .u16 c.lo),oT] [oT,some (pt g1 7),some (.int .i8 x.cc),oF,oT,oT,oT]) mo f1.d f1.z f1.b (by kernel_rfl) ⟨b_g1,b_g2,trivial⟩ (
    hk (fun cx=>cx.q (ex_fa rfl (cx.rq 2 u_g1) (faEcA24_2_0 _ _))) <|
    hk (fun cx=>cx.q (ex_ld rfl (cx.u 0 rfl) (cx.rn 0 rfl) rfl Tryz.isAgg36)) <|
    hc (fun _ _ wx cx=>cx.c rfl (args1 (cx.u 0 rfl)) Tryz.func150 (by decide +kernel) (cregister_n x.dst wx) rfl (congrArg Value.bool Ffk1.out)) <|
    hk (fun cx=>cx.q (ex_not (x:=.tmp 7) rfl (cx.u 0 rfl))) <|
    kmu 0 <|
    hk (fun cx=>cx.vy 0 (ex_fa rfl (cx.rq 2 u_g1) (faEcA24_3_0 _ _))) <|
    hk (fun cx=>cx.vy 1 (ex_ld rfl (cx.u 0 rfl) (cx.rn 0 rfl) rfl Tryz.isAgg36)) <|
    hc (fun _ _ wx cx=>cx.call (cx.wy rfl rfl rfl rfl (cx.u 1 rfl)) rfl rfl (args1 (cx.u 0 rfl)) Tryz.func150 (by decide +kernel) rfl (cregister_n x.src wx) rfl rfl (congrArg Value.bool Ffk2.out) rfl) <|
    hk (fun cx=>cx.vy 1 (ex_not (x:=.tmp 12) rfl (cx.u 0 rfl))) <|
    hk (fun cx=>cx.q (ex_pf rfl (cx.u 0 rfl) (cx.u 1 rfl))) <|
    kmu 0 <|
    hk (fun cx=>cx.vy 0 (ex_fa rfl (cx.rq 2 u_g1) (faEcA24_4_0 _ _))) <|
    hk (fun cx=>cx.vy 1 (ex_ld rfl (cx.u 0 rfl) (cx.rn 0 rfl) rfl Tryz.isAgg36)) <|
    hc (fun _ _ wx cx=>cx.call (cx.wy rfl rfl rfl rfl (cx.u 1 rfl)) rfl rfl (args1 (cx.u 0 rfl)) Tryz.func150 (by decide +kernel) rfl (cregister_n x.base wx) rfl rfl (congrArg Value.bool Ffk3.out) rfl) <|
    hk (fun cx=>cx.vy 1 (ex_not (x:=.tmp 18) rfl (cx.u 0 rfl))) <|
    hk (fun cx=>cx.q (ex_pf rfl (cx.u 0 rfl) (cx.u 1 rfl))) <|
    kmu 0 <|
    hk (fun cx=>cx.vy 0 (ex_fa rfl (cx.rq 3 u_g2) (faEcA55_4_0 _ _))) <|
    hk (fun cx=>cx.vy 1 (ex_ld rfl (cx.u 0 rfl) (cx.rn 1 rfl) rfl Tryz.isAgg104)) <|
    hk (fun cx=>cx.vy 1 (ex_eq (x:=.tmp 23) rfl (cx.u 0 rfl) rfl) (congrArg Value.bool Ffk4.out)) <|
    hk (fun cx=>cx.vy 1 (ex_mv rfl (cx.u 0 rfl))) <|
    hk (fun cx=>cx.vy 0 (ex_fa rfl (cx.rq 2 u_g1) (faEcA24_7_0 _ _))) <|
    hk (fun cx=>cx.vy 1 (ex_ld rfl (cx.u 0 rfl) (cx.rn 0 rfl) rfl Tryz.isAgg36)) <|
    hc (fun _ _ wx cx=>cx.call (cx.wy rfl rfl rfl rfl (cx.u 1 rfl)) rfl rfl (args1 (cx.u 0 rfl)) Tryz.func151 (by decide +kernel) rfl (ccond_n x.cc wx) rfl rfl (congrArg Value.bool Ffk9.out) rfl) <|
    hk (fun cx=>cx.vy 1 (ex_not (x:=.tmp 28) rfl (cx.u 0 rfl))) <|
    hk (fun cx=>cx.vy 2 (ex_pt rfl (cx.u 0 rfl) (cx.u 1 rfl))) <|
    hk (fun cx=>cx.q (ex_pf rfl (cx.u 0 rfl) (cx.u 1 rfl))) <|
    hn) ?_
   intro a19 w19 f19
   refine wp_cond_true (f19.v 26 rfl rfl rfl) ?_
   refine wp_seq ?_
   refine go_reg [] [] [oF] mo f19.d f19.z f19.b (by kernel_rfl) trivial (
    hk (fun cx=>cx.q (ex_as rfl rfl)) <|
    hn) ?_
   intro a20 w20 f20
   refine wp_ret ?_
   try simp only [Exit.inBlock,Exit.then]
   refine bodyPost_ret (res_t (fn:=Tryz.f124) rfl (f20.v 0 rfl rfl rfl)) f20.d ?_
   have HE:(.bool false:Value)=.bool (fitsP x c):=by unfold fitsP;simp only [Ffk1.out,Ffk2.out,Ffk3.out,Ffk4.out,Ffk9.out,cond_true,cond_false,Bool.true_and,Bool.and_true,Bool.false_and,Bool.and_false,Bool.or_false,Bool.false_or,Bool.true_or,Bool.or_true,Bool.not_true,Bool.not_false,if_true,if_false,Bool.false_eq_true,Bool.true_eq_false,reduceCtorEq];try rfl
   exact ⟨retV HE,f20.b⟩
  have Ffk9:=Lib.hid fk9;clear fk9
  refine go_reg [bx g1 38 (xC x),bx g2 106 #[.int .i8 c.sh,.int .i8 c.wd,.int .u16 c.va,.int .i8 c.dg,.int .u16 c.lo]] [] (tabs [some (pt g1 2),some (.int .i8 x.dst),oT,oF,oF,some (pt g1 3),some (.int .i8 x.src),oT,oF,oF,oF,some (pt g1 4),some (.int .i8 x.base),oT,oF,oF,oF,some (pt g2 4),some (.int .u16 c.lo),oT] [oT,some (pt g1 7),some (.int .i8 x.cc),oT,oF,oF,oF]) mo f1.d f1.z f1.b (by kernel_rfl) ⟨b_g1,b_g2,trivial⟩ (
   hk (fun cx=>cx.q (ex_fa rfl (cx.rq 2 u_g1) (faEcA24_2_0 _ _))) <|
   hk (fun cx=>cx.q (ex_ld rfl (cx.u 0 rfl) (cx.rn 0 rfl) rfl Tryz.isAgg36)) <|
   hc (fun _ _ wx cx=>cx.c rfl (args1 (cx.u 0 rfl)) Tryz.func150 (by decide +kernel) (cregister_n x.dst wx) rfl (congrArg Value.bool Ffk1.out)) <|
   hk (fun cx=>cx.q (ex_not (x:=.tmp 7) rfl (cx.u 0 rfl))) <|
   kmu 0 <|
   hk (fun cx=>cx.vy 0 (ex_fa rfl (cx.rq 2 u_g1) (faEcA24_3_0 _ _))) <|
   hk (fun cx=>cx.vy 1 (ex_ld rfl (cx.u 0 rfl) (cx.rn 0 rfl) rfl Tryz.isAgg36)) <|
   hc (fun _ _ wx cx=>cx.call (cx.wy rfl rfl rfl rfl (cx.u 1 rfl)) rfl rfl (args1 (cx.u 0 rfl)) Tryz.func150 (by decide +kernel) rfl (cregister_n x.src wx) rfl rfl (congrArg Value.bool Ffk2.out) rfl) <|
   hk (fun cx=>cx.vy 1 (ex_not (x:=.tmp 12) rfl (cx.u 0 rfl))) <|
   hk (fun cx=>cx.q (ex_pf rfl (cx.u 0 rfl) (cx.u 1 rfl))) <|
   kmu 0 <|
   hk (fun cx=>cx.vy 0 (ex_fa rfl (cx.rq 2 u_g1) (faEcA24_4_0 _ _))) <|
   hk (fun cx=>cx.vy 1 (ex_ld rfl (cx.u 0 rfl) (cx.rn 0 rfl) rfl Tryz.isAgg36)) <|
   hc (fun _ _ wx cx=>cx.call (cx.wy rfl rfl rfl rfl (cx.u 1 rfl)) rfl rfl (args1 (cx.u 0 rfl)) Tryz.func150 (by decide +kernel) rfl (cregister_n x.base wx) rfl rfl (congrArg Value.bool Ffk3.out) rfl) <|
   hk (fun cx=>cx.vy 1 (ex_not (x:=.tmp 18) rfl (cx.u 0 rfl))) <|
   hk (fun cx=>cx.q (ex_pf rfl (cx.u 0 rfl) (cx.u 1 rfl))) <|
   kmu 0 <|
   hk (fun cx=>cx.vy 0 (ex_fa rfl (cx.rq 3 u_g2) (faEcA55_4_0 _ _))) <|
   hk (fun cx=>cx.vy 1 (ex_ld rfl (cx.u 0 rfl) (cx.rn 1 rfl) rfl Tryz.isAgg104)) <|
   hk (fun cx=>cx.vy 1 (ex_eq (x:=.tmp 23) rfl (cx.u 0 rfl) rfl) (congrArg Value.bool Ffk4.out)) <|
   hk (fun cx=>cx.vy 1 (ex_mv rfl (cx.u 0 rfl))) <|
   hk (fun cx=>cx.vy 0 (ex_fa rfl (cx.rq 2 u_g1) (faEcA24_7_0 _ _))) <|
   hk (fun cx=>cx.vy 1 (ex_ld rfl (cx.u 0 rfl) (cx.rn 0 rfl) rfl Tryz.isAgg36)) <|
   hc (fun _ _ wx cx=>cx.call (cx.wy rfl rfl rfl rfl (cx.u 1 rfl)) rfl rfl (args1 (cx.u 0 rfl)) Tryz.func151 (by decide +kernel) rfl (ccond_n x.cc wx) rfl rfl (congrArg Value.bool Ffk9.out) rfl) <|
   hk (fun cx=>cx.vy 1 (ex_not (x:=.tmp 28) rfl (cx.u 0 rfl))) <|
   hk (fun cx=>cx.vy 2 (ex_pt rfl (cx.u 0 rfl) (cx.u 1 rfl))) <|
   hk (fun cx=>cx.q (ex_pf rfl (cx.u 0 rfl) (cx.u 1 rfl))) <|
   hn) ?_
  intro a21 w21 f21
  refine wp_cond_false (f21.v 26 rfl rfl rfl) ?_
  refine wp_skip ?_
  refine wp_seq ?_
  refine wp_seq ?_
  have b_g2_15:=f21.k b_g2
  have s3_16:=f21.q 3 u_g2
  refine go_reg [bx g2 106 #[.int .i8 c.sh,.int .i8 c.wd,.int .u16 c.va,.int .i8 c.dg,.int .u16 c.lo]] [] [some (pt g2 0),some (.int .i8 c.sh)] mo f21.d f21.z f21.b (by kernel_rfl) ⟨b_g2_15,trivial⟩ (
   hk (fun cx=>cx.q (ex_fa rfl (cx.rq 3 s3_16) (faEcA55_0_0 _ _))) <|
   hk (fun cx=>cx.q (ex_ld rfl (cx.u 0 rfl) (cx.rn 0 rfl) rfl Tryz.isAgg36)) <|
   hn) ?_
  intro a22 w22 f22
  refine wp_block ?_
  refine wp_seq ?_
  cases fk10:c.sh == 4
  case true=>
   have Ffk10:=Lib.hid fk10;clear fk10
   refine go_reg [] [] [oT,oT] mo f22.d f22.z f22.b (by kernel_rfl) trivial (
    hk (fun cx=>cx.v (ex_eq (x:=.tmp 33) rfl (cx.rq 33 (f22.v 1 rfl rfl rfl)) rfl) rfl (congrArg Value.bool Ffk10.out)) <|
    kmu 0 <|
    hn) ?_
   intro a23 w23 f23
   refine wp_cond_true (f23.v 1 rfl rfl rfl) ?_
   refine wp_seq ?_
   cases fk11:decide (0 ≤ x.imm)
   case false=>
    have Ffk11:=Lib.hid fk11;clear fk11
    have b_g1_17:=f23.k (f22.k (f21.k b_g1))
    have s2_18:=f23.q 2 (f22.q 2 (f21.q 2 u_g1))
    refine go_reg [bx g1 38 (xC x)] [] [some (pt g1 6),some (.int .i64 x.imm),oF,oF,oU,oU,oU,oU,oU,oU,oF,oF] mo f23.d f23.z f23.b (by kernel_rfl) ⟨b_g1_17,trivial⟩ (
     hk (fun cx=>cx.q (ex_fa rfl (cx.rq 2 s2_18) (faEcA24_6_0 _ _))) <|
     hk (fun cx=>cx.q (ex_ld rfl (cx.u 0 rfl) (cx.rn 0 rfl) rfl Tryz.isAgg3)) <|
     hk (fun cx=>cx.v (ex_ge (x:=.tmp 37) rfl (cx.u 0 rfl) rfl) rfl (congrArg Value.bool Ffk11.out)) <|
     kmu 0 <|
     kno 0 <|
     kno 1 <|
     kno 0 <|
     kno 1 <|
     kno 1 <|
     kno 2 <|
     hk (fun cx=>cx.q (ex_pf rfl (cx.u 0 rfl) rfl)) <|
     kmu 0 <|
     hn) ?_
    intro a24 w24 f24
    refine wp_ret ?_
    try simp only [Exit.inBlock,Exit.then]
    refine bodyPost_ret (res_t (fn:=Tryz.f124) rfl (f24.v 11 rfl rfl rfl)) f24.d ?_
    have HE:(.bool false:Value)=.bool (fitsP x c):=by unfold fitsP;simp only [Ffk1.out,Ffk2.out,Ffk3.out,Ffk4.out,Ffk9.out,Ffk10.out,Ffk11.out,cond_true,cond_false,Bool.true_and,Bool.and_true,Bool.false_and,Bool.and_false,Bool.or_false,Bool.false_or,Bool.true_or,Bool.or_true,Bool.not_true,Bool.not_false,if_true,if_false,Bool.false_eq_true,Bool.true_eq_false,reduceCtorEq];try rfl
    exact ⟨retV HE,f24.b⟩
   have Ffk11:=Lib.hid fk11;clear fk11
   have b_g1_19:=f23.k (f22.k (f21.k b_g1))
   have s2_20:=f23.q 2 (f22.q 2 (f21.q 2 u_g1))
   refine go_reg [bx g1 38 (xC x)] [] [some (pt g1 6),some (.int .i64 x.imm),oT,oT,some (pt g1 6),some (.int .i64 x.imm),some (pt g1 1),some (.int .i8 x.w),some (.int .i64 x.w),some (.bool (decide (x.imm < x.w))),some (.bool (decide (x.imm < x.w))),some (.bool (decide (x.imm < x.w)))] mo f23.d f23.z f23.b (by kernel_rfl) ⟨b_g1_19,trivial⟩ (
    hk (fun cx=>cx.q (ex_fa rfl (cx.rq 2 s2_20) (faEcA24_6_0 _ _))) <|
    hk (fun cx=>cx.q (ex_ld rfl (cx.u 0 rfl) (cx.rn 0 rfl) rfl Tryz.isAgg3)) <|
    hk (fun cx=>cx.v (ex_ge (x:=.tmp 37) rfl (cx.u 0 rfl) rfl) rfl (congrArg Value.bool Ffk11.out)) <|
    kmu 0 <|
    hk (fun cx=>cx.vy 0 (ex_fa rfl (cx.rq 2 s2_20) (faEcA24_6_0 _ _))) <|
    hk (fun cx=>cx.vy 1 (ex_ld rfl (cx.u 0 rfl) (cx.rn 0 rfl) rfl Tryz.isAgg3)) <|
    hk (fun cx=>cx.vy 0 (ex_fa rfl (cx.rq 2 s2_20) (faEcA24_1_0 _ _))) <|
    hk (fun cx=>cx.vy 1 (ex_ld rfl (cx.u 0 rfl) (cx.rn 0 rfl) rfl Tryz.isAgg36)) <|
    hk (fun cx=>cx.vy 1 (ex_conv (x:=.tmp 43) rfl (cx.u 0 rfl) Tryz.underlying36 Tryz.underlying3) (congrArg (Value.int .i64) (wrap_w hw))) <|
    hk (fun cx=>cx.vy 2 (ex_lt (x:=.tmp 41) (y:=.tmp 44) rfl (cx.u 0 rfl) (cx.u 1 rfl))) <|
    hk (fun cx=>cx.q (ex_pt rfl (cx.u 0 rfl) (cx.u 1 rfl))) <|
    kmu 0 <|
    hn) ?_
   intro a25 w25 f25
   refine wp_ret ?_
   try simp only [Exit.inBlock,Exit.then]
   refine bodyPost_ret (res_t (fn:=Tryz.f124) rfl (f25.v 11 rfl rfl rfl)) f25.d ?_
   have HE:(.bool (decide (x.imm < x.w)):Value)=.bool (fitsP x c):=by unfold fitsP;simp only [Ffk1.out,Ffk2.out,Ffk3.out,Ffk4.out,Ffk9.out,Ffk10.out,Ffk11.out,cond_true,cond_false,Bool.true_and,Bool.and_true,Bool.false_and,Bool.and_false,Bool.or_false,Bool.false_or,Bool.true_or,Bool.or_true,Bool.not_true,Bool.not_false,if_true,if_false,Bool.false_eq_true,Bool.true_eq_false,reduceCtorEq];try rfl
   exact ⟨retV HE,f25.b⟩
  have Ffk10:=Lib.hid fk10;clear fk10
  refine go_reg [] [] [oF,oF] mo f22.d f22.z f22.b (by kernel_rfl) trivial (
   hk (fun cx=>cx.v (ex_eq (x:=.tmp 33) rfl (cx.rq 33 (f22.v 1 rfl rfl rfl)) rfl) rfl (congrArg Value.bool Ffk10.out)) <|
   kmu 0 <|
   hn) ?_
  intro a26 w26 f26
  refine wp_cond_false (f26.v 1 rfl rfl rfl) ?_
  refine wp_seq ?_
  cases fk12:c.sh == 10
  case true=>
   have Ffk12:=Lib.hid fk12;clear fk12
   have s33_21:=f26.q 33 (f22.v 1 rfl rfl rfl)
   refine go_reg [] [] [oT,oT] mo f26.d f26.z f26.b (by kernel_rfl) trivial (
    hk (fun cx=>cx.v (ex_eq (x:=.tmp 33) rfl (cx.rq 33 s33_21) rfl) rfl (congrArg Value.bool Ffk12.out)) <|
    kmu 0 <|
    hn) ?_
   intro a27 w27 f27
   refine wp_cond_true (f27.v 1 rfl rfl rfl) ?_
   refine wp_seq ?_
   have b_g1_22:=f27.k (f26.k (f22.k (f21.k b_g1)))
   have s2_23:=f27.q 2 (f26.q 2 (f22.q 2 (f21.q 2 u_g1)))
   refine go_reg [bx g1 38 (xC x)] [] [some (pt g1 6),some (.int .i64 x.imm),some (.int .i8 (IntKind.i8.wrap x.imm)),some (.int .i64 (IntKind.i64.wrap (IntKind.i8.wrap x.imm))),some (pt g1 6),some (.int .i64 x.imm),some (.bool (oneB x.imm)),some (.bool (oneB x.imm))] mo f27.d f27.z f27.b (by kernel_rfl) ⟨b_g1_22,trivial⟩ (
    hk (fun cx=>cx.q (ex_fa rfl (cx.rq 2 s2_23) (faEcA24_6_0 _ _))) <|
    hk (fun cx=>cx.q (ex_ld rfl (cx.u 0 rfl) (cx.rn 0 rfl) rfl Tryz.isAgg3)) <|
    hk (fun cx=>cx.q (ex_conv (x:=.tmp 50) rfl (cx.u 0 rfl) Tryz.underlying3 Tryz.underlying36)) <|
    hk (fun cx=>cx.q (ex_conv (x:=.tmp 51) rfl (cx.u 0 rfl) Tryz.underlying36 Tryz.underlying3)) <|
    hk (fun cx=>cx.q (ex_fa rfl (cx.rq 2 s2_23) (faEcA24_6_0 _ _))) <|
    hk (fun cx=>cx.q (ex_ld rfl (cx.u 0 rfl) (cx.rn 0 rfl) rfl Tryz.isAgg3)) <|
    hk (fun cx=>cx.v (ex_eq (x:=.tmp 52) (y:=.tmp 54) rfl (cx.u 0 rfl) (cx.u 1 rfl)) rfl (congrArg Value.bool (wrap_i8_one _ hi.1 hi.2))) <|
    kmu 0 <|
    hn) ?_
   intro a28 w28 f28
   refine wp_ret ?_
   try simp only [Exit.inBlock,Exit.then]
   refine bodyPost_ret (res_t (fn:=Tryz.f124) rfl (f28.v 7 rfl rfl rfl)) f28.d ?_
   have HE:(.bool (oneB x.imm):Value)=.bool (fitsP x c):=by unfold fitsP;simp only [Ffk1.out,Ffk2.out,Ffk3.out,Ffk4.out,Ffk9.out,Ffk10.out,Ffk12.out,cond_true,cond_false,Bool.true_and,Bool.and_true,Bool.false_and,Bool.and_false,Bool.or_false,Bool.false_or,Bool.true_or,Bool.or_true,Bool.not_true,Bool.not_false,if_true,if_false,Bool.false_eq_true,Bool.true_eq_false,reduceCtorEq];try rfl
   exact ⟨retV HE,f28.b⟩
  have Ffk12:=Lib.hid fk12;clear fk12
  have s33_24:=f26.q 33 (f22.v 1 rfl rfl rfl)
  refine go_reg [] [] [oF,oF] mo f26.d f26.z f26.b (by kernel_rfl) trivial (
   hk (fun cx=>cx.v (ex_eq (x:=.tmp 33) rfl (cx.rq 33 s33_24) rfl) rfl (congrArg Value.bool Ffk12.out)) <|
   kmu 0 <|
   hn) ?_
  intro a29 w29 f29
  refine wp_cond_false (f29.v 1 rfl rfl rfl) ?_
  refine wp_skip ?_
  refine wp_seq ?_
  cases fk13:fourB x.imm
  case false=>
   have Ffk13:=Lib.hid fk13;clear fk13
   have b_g1_25:=f29.k (f26.k (f22.k (f21.k b_g1)))
   have s2_26:=f29.q 2 (f26.q 2 (f22.q 2 (f21.q 2 u_g1)))
   refine go_reg [bx g1 38 (xC x)] [] [some (pt g1 6),some (.int .i64 x.imm),some (.int .i32 (IntKind.i32.wrap x.imm)),some (.int .i64 (IntKind.i64.wrap (IntKind.i32.wrap x.imm))),some (pt g1 6),some (.int .i64 x.imm),some (.bool (fourB x.imm)),oF,oU,oU,oU,oU,oU,oU,oU,oF,oF] mo f29.d f29.z f29.b (by kernel_rfl) ⟨b_g1_25,trivial⟩ (
    hk (fun cx=>cx.q (ex_fa rfl (cx.rq 2 s2_26) (faEcA24_6_0 _ _))) <|
    hk (fun cx=>cx.q (ex_ld rfl (cx.u 0 rfl) (cx.rn 0 rfl) rfl Tryz.isAgg3)) <|
    hk (fun cx=>cx.q (ex_conv (x:=.tmp 57) rfl (cx.u 0 rfl) Tryz.underlying3 Tryz.underlying21)) <|
    hk (fun cx=>cx.q (ex_conv (x:=.tmp 58) rfl (cx.u 0 rfl) Tryz.underlying21 Tryz.underlying3)) <|
    hk (fun cx=>cx.q (ex_fa rfl (cx.rq 2 s2_26) (faEcA24_6_0 _ _))) <|
    hk (fun cx=>cx.q (ex_ld rfl (cx.u 0 rfl) (cx.rn 0 rfl) rfl Tryz.isAgg3)) <|
    hk (fun cx=>cx.v (ex_eq (x:=.tmp 59) (y:=.tmp 61) rfl (cx.u 0 rfl) (cx.u 1 rfl)) rfl (congrArg Value.bool (wrap_i32_four _ hi.1 hi.2))) <|
    hk (fun cx=>cx.v (ex_mv rfl (cx.u 0 rfl)) rfl (congrArg Value.bool Ffk13.out)) <|
    kno 0 <|
    kno 1 <|
    kno 1 <|
    kno 1 <|
    kno 0 <|
    kno 1 <|
    kno 2 <|
    hk (fun cx=>cx.q (ex_pf rfl (cx.u 0 rfl) rfl)) <|
    kmu 0 <|
    hn) ?_
   intro a30 w30 f30
   refine wp_ret ?_
   try simp only [Exit.inBlock,Exit.then]
   refine bodyPost_ret (res_t (fn:=Tryz.f124) rfl (f30.v 16 rfl rfl rfl)) f30.d ?_
   have HE:(.bool false:Value)=.bool (fitsP x c):=by unfold fitsP;simp only [Ffk1.out,Ffk2.out,Ffk3.out,Ffk4.out,Ffk9.out,Ffk10.out,Ffk12.out,Ffk13.out,cond_true,cond_false,Bool.true_and,Bool.and_true,Bool.false_and,Bool.and_false,Bool.or_false,Bool.false_or,Bool.true_or,Bool.or_true,Bool.not_true,Bool.not_false,if_true,if_false,Bool.false_eq_true,Bool.true_eq_false,reduceCtorEq];try rfl
   exact ⟨retV HE,f30.b⟩
  have Ffk13:=Lib.hid fk13;clear fk13
  have b_g1_27:=f29.k (f26.k (f22.k (f21.k b_g1)))
  have s2_28:=f29.q 2 (f26.q 2 (f22.q 2 (f21.q 2 u_g1)))
  refine go_reg [bx g1 38 (xC x)] [] [some (pt g1 6),some (.int .i64 x.imm),some (.int .i32 (IntKind.i32.wrap x.imm)),some (.int .i64 (IntKind.i64.wrap (IntKind.i32.wrap x.imm))),some (pt g1 6),some (.int .i64 x.imm),some (.bool (fourB x.imm)),oT,some (pt g1 5),some (.int .i64 x.disp),some (.int .i32 (IntKind.i32.wrap x.disp)),some (.int .i64 (IntKind.i64.wrap (IntKind.i32.wrap x.disp))),some (pt g1 5),some (.int .i64 x.disp),some (.bool (fourB x.disp)),some (.bool (fourB x.disp)),some (.bool (fourB x.disp))] mo f29.d f29.z f29.b (by kernel_rfl) ⟨b_g1_27,trivial⟩ (
   hk (fun cx=>cx.q (ex_fa rfl (cx.rq 2 s2_28) (faEcA24_6_0 _ _))) <|
   hk (fun cx=>cx.q (ex_ld rfl (cx.u 0 rfl) (cx.rn 0 rfl) rfl Tryz.isAgg3)) <|
   hk (fun cx=>cx.q (ex_conv (x:=.tmp 57) rfl (cx.u 0 rfl) Tryz.underlying3 Tryz.underlying21)) <|
   hk (fun cx=>cx.q (ex_conv (x:=.tmp 58) rfl (cx.u 0 rfl) Tryz.underlying21 Tryz.underlying3)) <|
   hk (fun cx=>cx.q (ex_fa rfl (cx.rq 2 s2_28) (faEcA24_6_0 _ _))) <|
   hk (fun cx=>cx.q (ex_ld rfl (cx.u 0 rfl) (cx.rn 0 rfl) rfl Tryz.isAgg3)) <|
   hk (fun cx=>cx.v (ex_eq (x:=.tmp 59) (y:=.tmp 61) rfl (cx.u 0 rfl) (cx.u 1 rfl)) rfl (congrArg Value.bool (wrap_i32_four _ hi.1 hi.2))) <|
   hk (fun cx=>cx.v (ex_mv rfl (cx.u 0 rfl)) rfl (congrArg Value.bool Ffk13.out)) <|
   hk (fun cx=>cx.vy 0 (ex_fa rfl (cx.rq 2 s2_28) (faEcA24_5_0 _ _))) <|
   hk (fun cx=>cx.vy 1 (ex_ld rfl (cx.u 0 rfl) (cx.rn 0 rfl) rfl Tryz.isAgg3)) <|
   hk (fun cx=>cx.vy 1 (ex_conv (x:=.tmp 65) rfl (cx.u 0 rfl) Tryz.underlying3 Tryz.underlying21)) <|
   hk (fun cx=>cx.vy 1 (ex_conv (x:=.tmp 66) rfl (cx.u 0 rfl) Tryz.underlying21 Tryz.underlying3)) <|
   hk (fun cx=>cx.vy 0 (ex_fa rfl (cx.rq 2 s2_28) (faEcA24_5_0 _ _))) <|
   hk (fun cx=>cx.vy 1 (ex_ld rfl (cx.u 0 rfl) (cx.rn 0 rfl) rfl Tryz.isAgg3)) <|
   hk (fun cx=>cx.vy 2 (ex_eq (x:=.tmp 67) (y:=.tmp 69) rfl (cx.u 0 rfl) (cx.u 1 rfl)) (congrArg Value.bool (wrap_i32_four _ hd.1 hd.2))) <|
   hk (fun cx=>cx.q (ex_pt rfl (cx.u 0 rfl) (cx.u 1 rfl))) <|
   kmu 0 <|
   hn) ?_
  intro a31 w31 f31
  refine wp_ret ?_
  try simp only [Exit.inBlock,Exit.then]
  refine bodyPost_ret (res_t (fn:=Tryz.f124) rfl (f31.v 16 rfl rfl rfl)) f31.d ?_
  have HE:(.bool (fourB x.disp):Value)=.bool (fitsP x c):=by unfold fitsP;simp only [Ffk1.out,Ffk2.out,Ffk3.out,Ffk4.out,Ffk9.out,Ffk10.out,Ffk12.out,Ffk13.out,cond_true,cond_false,Bool.true_and,Bool.and_true,Bool.false_and,Bool.and_false,Bool.or_false,Bool.false_or,Bool.true_or,Bool.or_true,Bool.not_true,Bool.not_false,if_true,if_false,Bool.false_eq_true,Bool.true_eq_false,reduceCtorEq];try rfl
  exact ⟨retV HE,f31.b⟩
end Go.Proofs.YtbpehbeakhocnaaGreatDoor.Mrm
