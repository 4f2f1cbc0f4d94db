import Derived.Test.YtjhjpllgoakncaaDoorETl04
set_option linter.unusedVariables false
set_option linter.unusedSimpArgs false
set_option linter.unnecessarySimpa false
namespace Go.Proofs.YtjhjpllgoakncaaDoor.Mrm
open Go Go.RowKit
set_option linter.unusedVariables false
set_option linter.unusedSimpArgs false
set_option linter.unnecessarySimpa false
set_option maxRecDepth 100000
theorem faEnC24_0_0 (g:Nat) (w:World):(Instr.fieldAt 24 (.pointer (some ⟨g,0,none⟩)) 0).run Tryd.prog w=.ok (.pointer (some ⟨g,0,none⟩)) w:=by simp [go_sem]
theorem faEnC24_1_0 (g:Nat) (w:World):(Instr.fieldAt 24 (.pointer (some ⟨g,0,none⟩)) 1).run Tryd.prog w=.ok (.pointer (some ⟨g,1,none⟩)) w:=by simp [go_sem]
theorem faEnC24_2_0 (g:Nat) (w:World):(Instr.fieldAt 24 (.pointer (some ⟨g,0,none⟩)) 2).run Tryd.prog w=.ok (.pointer (some ⟨g,2,none⟩)) w:=by simp [go_sem]
theorem faEnC24_3_0 (g:Nat) (w:World):(Instr.fieldAt 24 (.pointer (some ⟨g,0,none⟩)) 3).run Tryd.prog w=.ok (.pointer (some ⟨g,3,none⟩)) w:=by simp [go_sem]
theorem faEnC24_6_0 (g:Nat) (w:World):(Instr.fieldAt 24 (.pointer (some ⟨g,0,none⟩)) 6).run Tryd.prog w=.ok (.pointer (some ⟨g,6,none⟩)) w:=by simp [go_sem]
theorem faEnC24_7_0 (g:Nat) (w:World):(Instr.fieldAt 24 (.pointer (some ⟨g,0,none⟩)) 7).run Tryd.prog w=.ok (.pointer (some ⟨g,7,none⟩)) w:=by simp [go_sem]
theorem faEnC24_4_0 (g:Nat) (w:World):(Instr.fieldAt 24 (.pointer (some ⟨g,0,none⟩)) 4).run Tryd.prog w=.ok (.pointer (some ⟨g,4,none⟩)) w:=by simp [go_sem]
theorem faEnC24_5_0 (g:Nat) (w:World):(Instr.fieldAt 24 (.pointer (some ⟨g,0,none⟩)) 5).run Tryd.prog w=.ok (.pointer (some ⟨g,5,none⟩)) w:=by simp [go_sem]
set_option maxHeartbeats 4000000 in
theorem ereg_n (n:Int) (W:World):Calls Tryd.prog 36 #[.int .i8 n] W fun e w'=>e=.returned (.bool (regB n)) ∧ Below W.heap.size W w':=by
  refine calls_abs Tryd.func36 rfl (Nat.le_of_ble_eq_true rfl) ?_
  intro a0 d0 z0 h0
  replace z0:a0.tmps.size=9:=z0
  have s0_0:a0.tmps.getD 0 undef=.int .i8 n:=h0 0 (Nat.le_of_ble_eq_true rfl)
  refine wp_seq ?_
  refine go_reg [] [] [oF] mo d0 z0 (Below.refl _ _) (by kernel_rfl) trivial (
   hk (fun cx=>cx.q (ex_as rfl rfl)) <|
   hn) ?_
  intro a1 w1 f1
  refine wp_seq ?_
  cases fk1:decide (0 ≤ n)
  case false=>
   have Ffk1:=Lib.hid fk1;clear fk1
   have s0_1:=f1.q 0 s0_0
   refine go_reg [] [] [some (.int .i8 n),oF,oF,oU,oU,oF,oF] mo f1.d f1.z f1.b (by kernel_rfl) trivial (
    hk (fun cx=>cx.q (ex_mv rfl (cx.rq 0 s0_1))) <|
    hk (fun cx=>cx.v (ex_ge (x:=.tmp 3) rfl (cx.u 0 rfl) rfl) rfl (congrArg Value.bool Ffk1.out)) <|
    kmu 0 <|
    kno 0 <|
    kno 1 <|
    hk (fun cx=>cx.q (ex_pf rfl (cx.u 0 rfl) rfl)) <|
    kmu 0 <|
    hn) ?_
   intro a2 w2 f2
   refine wp_ret ?_
   try simp only [Exit.inBlock,Exit.then]
   refine bodyPost_ret (res_t (fn:=Tryd.f36) rfl (f2.v 6 rfl rfl rfl)) f2.d ?_
   have HE:(.bool false:Value)=.bool (regB n):=by unfold regB;simp only [Ffk1.out,Bool.true_and,Bool.and_true,Bool.false_and,Bool.and_false,Bool.or_false,Bool.false_or,Bool.true_or,Bool.or_true,Bool.not_true,Bool.not_false,if_true,if_false,Bool.false_eq_true,Bool.true_eq_false,reduceCtorEq];try rfl
   exact ⟨retV HE,f2.b⟩
  have Ffk1:=Lib.hid fk1;clear fk1
  have s0_2:=f1.q 0 s0_0
  refine go_reg [] [] [some (.int .i8 n),oT,oT,some (.int .i8 n),some (.bool (decide (n < 16))),some (.bool (decide (n < 16))),some (.bool (decide (n < 16)))] mo f1.d f1.z f1.b (by kernel_rfl) trivial (
   hk (fun cx=>cx.q (ex_mv rfl (cx.rq 0 s0_2))) <|
   hk (fun cx=>cx.v (ex_ge (x:=.tmp 3) rfl (cx.u 0 rfl) rfl) rfl (congrArg Value.bool Ffk1.out)) <|
   kmu 0 <|
   hk (fun cx=>cx.vy 0 (ex_mv rfl (cx.rq 0 s0_2))) <|
   hk (fun cx=>cx.vy 1 (ex_lt (x:=.tmp 6) rfl (cx.u 0 rfl) rfl)) <|
   hk (fun cx=>cx.q (ex_pt rfl (cx.u 0 rfl) (cx.u 1 rfl))) <|
   kmu 0 <|
   hn) ?_
  intro a3 w3 f3
  refine wp_ret ?_
  try simp only [Exit.inBlock,Exit.then]
  refine bodyPost_ret (res_t (fn:=Tryd.f36) rfl (f3.v 6 rfl rfl rfl)) f3.d ?_
  have HE:(.bool (decide (n < 16)):Value)=.bool (regB n):=by unfold regB;simp only [Ffk1.out,Bool.true_and,Bool.and_true,Bool.false_and,Bool.and_false,Bool.or_false,Bool.false_or,Bool.true_or,Bool.or_true,Bool.not_true,Bool.not_false,if_true,if_false,Bool.false_eq_true,Bool.true_eq_false,reduceCtorEq];try rfl
  exact ⟨retV HE,f3.b⟩
set_option maxHeartbeats 4000000 in
theorem elong_n (n:Int) (W:World):Calls Tryd.prog 38 #[.int .i8 n] W fun e w'=>e=.returned (.bool (longB n)) ∧ Below W.heap.size W w':=by
  refine calls_abs Tryd.func38 rfl (Nat.le_of_ble_eq_true rfl) ?_
  intro a0 d0 z0 h0
  replace z0:a0.tmps.size=9:=z0
  have s0_0:a0.tmps.getD 0 undef=.int .i8 n:=h0 0 (Nat.le_of_ble_eq_true rfl)
  refine wp_seq ?_
  refine go_reg [] [] [oF] mo d0 z0 (Below.refl _ _) (by kernel_rfl) trivial (
   hk (fun cx=>cx.q (ex_as rfl rfl)) <|
   hn) ?_
  intro a1 w1 f1
  refine wp_seq ?_
  cases fk1:n == 32
  case true=>
   have Ffk1:=Lib.hid fk1;clear fk1
   have s0_1:=f1.q 0 s0_0
   refine go_reg [] [] [some (.int .i8 n),oT,oT,oU,oU,oT,oT] mo f1.d f1.z f1.b (by kernel_rfl) trivial (
    hk (fun cx=>cx.q (ex_mv rfl (cx.rq 0 s0_1))) <|
    hk (fun cx=>cx.v (ex_eq (x:=.tmp 3) rfl (cx.u 0 rfl) rfl) rfl (congrArg Value.bool Ffk1.out)) <|
    kmu 0 <|
    kno 0 <|
    kno 1 <|
    hk (fun cx=>cx.q (ex_pt rfl (cx.u 0 rfl) rfl)) <|
    kmu 0 <|
    hn) ?_
   intro a2 w2 f2
   refine wp_ret ?_
   try simp only [Exit.inBlock,Exit.then]
   refine bodyPost_ret (res_t (fn:=Tryd.f38) rfl (f2.v 6 rfl rfl rfl)) f2.d ?_
   have HE:(.bool true:Value)=.bool (longB n):=by unfold longB;simp only [Ffk1.out,Bool.true_and,Bool.and_true,Bool.false_and,Bool.and_false,Bool.or_false,Bool.false_or,Bool.true_or,Bool.or_true,Bool.not_true,Bool.not_false,if_true,if_false,Bool.false_eq_true,Bool.true_eq_false,reduceCtorEq];try rfl
   exact ⟨retV HE,f2.b⟩
  have Ffk1:=Lib.hid fk1;clear fk1
  have s0_2:=f1.q 0 s0_0
  refine go_reg [] [] [some (.int .i8 n),oF,oF,some (.int .i8 n),some (.bool (n == 64)),some (.bool (n == 64)),some (.bool (n == 64))] mo f1.d f1.z f1.b (by kernel_rfl) trivial (
   hk (fun cx=>cx.q (ex_mv rfl (cx.rq 0 s0_2))) <|
   hk (fun cx=>cx.v (ex_eq (x:=.tmp 3) rfl (cx.u 0 rfl) rfl) rfl (congrArg Value.bool Ffk1.out)) <|
   kmu 0 <|
   hk (fun cx=>cx.vy 0 (ex_mv rfl (cx.rq 0 s0_2))) <|
   hk (fun cx=>cx.vy 1 (ex_eq (x:=.tmp 6) rfl (cx.u 0 rfl) rfl)) <|
   hk (fun cx=>cx.q (ex_pf rfl (cx.u 0 rfl) (cx.u 1 rfl))) <|
   kmu 0 <|
   hn) ?_
  intro a3 w3 f3
  refine wp_ret ?_
  try simp only [Exit.inBlock,Exit.then]
  refine bodyPost_ret (res_t (fn:=Tryd.f38) rfl (f3.v 6 rfl rfl rfl)) f3.d ?_
  have HE:(.bool (n == 64):Value)=.bool (longB n):=by unfold longB;simp only [Ffk1.out,Bool.true_and,Bool.and_true,Bool.false_and,Bool.and_false,Bool.or_false,Bool.false_or,Bool.true_or,Bool.or_true,Bool.not_true,Bool.not_false,if_true,if_false,Bool.false_eq_true,Bool.true_eq_false,reduceCtorEq];try rfl
  exact ⟨retV HE,f3.b⟩
set_option maxHeartbeats 4000000 in
theorem efour_n (n:Int) (W:World):Calls Tryd.prog 37 #[.int .i64 n] W fun e w'=>e=.returned (.bool (fourB n)) ∧ Below W.heap.size W w':=by
  refine calls_abs Tryd.func37 rfl (Nat.le_of_ble_eq_true rfl) ?_
  intro a0 d0 z0 h0
  replace z0:a0.tmps.size=9:=z0
  have s0_0:a0.tmps.getD 0 undef=.int .i64 n:=h0 0 (Nat.le_of_ble_eq_true rfl)
  refine wp_seq ?_
  refine go_reg [] [] [oF] mo d0 z0 (Below.refl _ _) (by kernel_rfl) trivial (
   hk (fun cx=>cx.q (ex_as rfl rfl)) <|
   hn) ?_
  intro a1 w1 f1
  refine wp_seq ?_
  cases fk1:decide ((-2147483648) ≤ n)
  case false=>
   have Ffk1:=Lib.hid fk1;clear fk1
   have s0_1:=f1.q 0 s0_0
   refine go_reg [] [] [some (.int .i64 n),oF,oF,oU,oU,oF,oF] mo f1.d f1.z f1.b (by kernel_rfl) trivial (
    hk (fun cx=>cx.q (ex_mv rfl (cx.rq 0 s0_1))) <|
    hk (fun cx=>cx.v (ex_ge (x:=.tmp 3) rfl (cx.u 0 rfl) rfl) rfl (congrArg Value.bool Ffk1.out)) <|
    kmu 0 <|
    kno 0 <|
    kno 1 <|
    hk (fun cx=>cx.q (ex_pf rfl (cx.u 0 rfl) rfl)) <|
    kmu 0 <|
    hn) ?_
   intro a2 w2 f2
   refine wp_ret ?_
   try simp only [Exit.inBlock,Exit.then]
   refine bodyPost_ret (res_t (fn:=Tryd.f37) rfl (f2.v 6 rfl rfl rfl)) f2.d ?_
   have HE:(.bool false:Value)=.bool (fourB n):=by unfold fourB;simp only [Ffk1.out,Bool.true_and,Bool.and_true,Bool.false_and,Bool.and_false,Bool.or_false,Bool.false_or,Bool.true_or,Bool.or_true,Bool.not_true,Bool.not_false,if_true,if_false,Bool.false_eq_true,Bool.true_eq_false,reduceCtorEq];try rfl
   exact ⟨retV HE,f2.b⟩
  have Ffk1:=Lib.hid fk1;clear fk1
  have s0_2:=f1.q 0 s0_0
  refine go_reg [] [] [some (.int .i64 n),oT,oT,some (.int .i64 n),some (.bool (decide (n < 2147483648))),some (.bool (decide (n < 2147483648))),some (.bool (decide (n < 2147483648)))] mo f1.d f1.z f1.b (by kernel_rfl) trivial (
   hk (fun cx=>cx.q (ex_mv rfl (cx.rq 0 s0_2))) <|
   hk (fun cx=>cx.v (ex_ge (x:=.tmp 3) rfl (cx.u 0 rfl) rfl) rfl (congrArg Value.bool Ffk1.out)) <|
   kmu 0 <|
   hk (fun cx=>cx.vy 0 (ex_mv rfl (cx.rq 0 s0_2))) <|
   hk (fun cx=>cx.vy 1 (ex_lt (x:=.tmp 6) rfl (cx.u 0 rfl) rfl)) <|
   hk (fun cx=>cx.q (ex_pt rfl (cx.u 0 rfl) (cx.u 1 rfl))) <|
   kmu 0 <|
   hn) ?_
  intro a3 w3 f3
  refine wp_ret ?_
  try simp only [Exit.inBlock,Exit.then]
  refine bodyPost_ret (res_t (fn:=Tryd.f37) rfl (f3.v 6 rfl rfl rfl)) f3.d ?_
  have HE:(.bool (decide (n < 2147483648)):Value)=.bool (fourB n):=by unfold fourB;simp only [Ffk1.out,Bool.true_and,Bool.and_true,Bool.false_and,Bool.and_false,Bool.or_false,Bool.false_or,Bool.true_or,Bool.or_true,Bool.not_true,Bool.not_false,if_true,if_false,Bool.false_eq_true,Bool.true_eq_false,reduceCtorEq];try rfl
  exact ⟨retV HE,f3.b⟩
set_option maxHeartbeats 4000000 in
theorem eone_n (n:Int) (W:World):Calls Tryd.prog 41 #[.int .i64 n] W fun e w'=>e=.returned (.bool (oneB n)) ∧ Below W.heap.size W w':=by
  refine calls_abs Tryd.func41 rfl (Nat.le_of_ble_eq_true rfl) ?_
  intro a0 d0 z0 h0
  replace z0:a0.tmps.size=9:=z0
  have s0_0:a0.tmps.getD 0 undef=.int .i64 n:=h0 0 (Nat.le_of_ble_eq_true rfl)
  refine wp_seq ?_
  refine go_reg [] [] [oF] mo d0 z0 (Below.refl _ _) (by kernel_rfl) trivial (
   hk (fun cx=>cx.q (ex_as rfl rfl)) <|
   hn) ?_
  intro a1 w1 f1
  refine wp_seq ?_
  cases fk1:decide ((-128) ≤ n)
  case false=>
   have Ffk1:=Lib.hid fk1;clear fk1
   have s0_1:=f1.q 0 s0_0
   refine go_reg [] [] [some (.int .i64 n),oF,oF,oU,oU,oF,oF] mo f1.d f1.z f1.b (by kernel_rfl) trivial (
    hk (fun cx=>cx.q (ex_mv rfl (cx.rq 0 s0_1))) <|
    hk (fun cx=>cx.v (ex_ge (x:=.tmp 3) rfl (cx.u 0 rfl) rfl) rfl (congrArg Value.bool Ffk1.out)) <|
    kmu 0 <|
    kno 0 <|
    kno 1 <|
    hk (fun cx=>cx.q (ex_pf rfl (cx.u 0 rfl) rfl)) <|
    kmu 0 <|
    hn) ?_
   intro a2 w2 f2
   refine wp_ret ?_
   try simp only [Exit.inBlock,Exit.then]
   refine bodyPost_ret (res_t (fn:=Tryd.f41) rfl (f2.v 6 rfl rfl rfl)) f2.d ?_
   have HE:(.bool false:Value)=.bool (oneB n):=by unfold oneB;simp only [Ffk1.out,Bool.true_and,Bool.and_true,Bool.false_and,Bool.and_false,Bool.or_false,Bool.false_or,Bool.true_or,Bool.or_true,Bool.not_true,Bool.not_false,if_true,if_false,Bool.false_eq_true,Bool.true_eq_false,reduceCtorEq];try rfl
   exact ⟨retV HE,f2.b⟩
  have Ffk1:=Lib.hid fk1;clear fk1
  have s0_2:=f1.q 0 s0_0
  refine go_reg [] [] [some (.int .i64 n),oT,oT,some (.int .i64 n),some (.bool (decide (n < 128))),some (.bool (decide (n < 128))),some (.bool (decide (n < 128)))] mo f1.d f1.z f1.b (by kernel_rfl) trivial (
   hk (fun cx=>cx.q (ex_mv rfl (cx.rq 0 s0_2))) <|
   hk (fun cx=>cx.v (ex_ge (x:=.tmp 3) rfl (cx.u 0 rfl) rfl) rfl (congrArg Value.bool Ffk1.out)) <|
   kmu 0 <|
   hk (fun cx=>cx.vy 0 (ex_mv rfl (cx.rq 0 s0_2))) <|
   hk (fun cx=>cx.vy 1 (ex_lt (x:=.tmp 6) rfl (cx.u 0 rfl) rfl)) <|
   hk (fun cx=>cx.q (ex_pt rfl (cx.u 0 rfl) (cx.u 1 rfl))) <|
   kmu 0 <|
   hn) ?_
  intro a3 w3 f3
  refine wp_ret ?_
  try simp only [Exit.inBlock,Exit.then]
  refine bodyPost_ret (res_t (fn:=Tryd.f41) rfl (f3.v 6 rfl rfl rfl)) f3.d ?_
  have HE:(.bool (decide (n < 128)):Value)=.bool (oneB n):=by unfold oneB;simp only [Ffk1.out,Bool.true_and,Bool.and_true,Bool.false_and,Bool.and_false,Bool.or_false,Bool.false_or,Bool.true_or,Bool.or_true,Bool.not_true,Bool.not_false,if_true,if_false,Bool.false_eq_true,Bool.true_eq_false,reduceCtorEq];try rfl
  exact ⟨retV HE,f3.b⟩
set_option maxHeartbeats 4000000 in
theorem ecc_n (n:Int) (W:World):Calls Tryd.prog 39 #[.int .i8 n] W fun e w'=>e=.returned (.bool (ccB n)) ∧ Below W.heap.size W w':=by
  refine calls_abs Tryd.func39 rfl (Nat.le_of_ble_eq_true rfl) ?_
  intro a0 d0 z0 h0
  replace z0:a0.tmps.size=17:=z0
  have s0_0:a0.tmps.getD 0 undef=.int .i8 n:=h0 0 (Nat.le_of_ble_eq_true rfl)
  refine wp_seq ?_
  refine go_reg [] [] [oF] mo d0 z0 (Below.refl _ _) (by kernel_rfl) trivial (
   hk (fun cx=>cx.q (ex_as rfl rfl)) <|
   hn) ?_
  intro a1 w1 f1
  refine wp_seq ?_
  cases fk1:decide (2 ≤ n)
  case false=>
   have Ffk1:=Lib.hid fk1;clear fk1
   cases fk2:decide (12 ≤ n)
   case false=>
    have Ffk2:=Lib.hid fk2;clear fk2
    have s0_1:=f1.q 0 s0_0
    refine go_reg [] [] [some (.int .i8 n),oF,oF,oU,oU,oF,oF,some (.int .i8 n),oF,oF,oU,oU,oF,oF,oF] mo f1.d f1.z f1.b (by kernel_rfl) trivial (
     hk (fun cx=>cx.q (ex_mv rfl (cx.rq 0 s0_1))) <|
     hk (fun cx=>cx.v (ex_ge (x:=.tmp 3) rfl (cx.u 0 rfl) rfl) rfl (congrArg Value.bool Ffk1.out)) <|
     kmu 0 <|
     kno 0 <|
     kno 1 <|
     hk (fun cx=>cx.q (ex_pf rfl (cx.u 0 rfl) rfl)) <|
     kmu 0 <|
     hk (fun cx=>cx.vy 0 (ex_mv rfl (cx.rq 0 s0_1))) <|
     hk (fun cx=>cx.vy 1 (ex_ge (x:=.tmp 10) rfl (cx.u 0 rfl) rfl) (congrArg Value.bool Ffk2.out)) <|
     hk (fun cx=>cx.vy 1 (ex_mv rfl (cx.u 0 rfl))) <|
     kno 0 <|
     kno 1 <|
     hk (fun cx=>cx.vy 2 (ex_pf rfl (cx.u 0 rfl) rfl)) <|
     hk (fun cx=>cx.q (ex_pf rfl (cx.u 0 rfl) (cx.u 1 rfl))) <|
     kmu 0 <|
     hn) ?_
    intro a2 w2 f2
    refine wp_ret ?_
    try simp only [Exit.inBlock,Exit.then]
    refine bodyPost_ret (res_t (fn:=Tryd.f39) rfl (f2.v 14 rfl rfl rfl)) f2.d ?_
    have HE:(.bool false:Value)=.bool (ccB n):=by unfold ccB;simp only [Ffk1.out,Ffk2.out,Bool.true_and,Bool.and_true,Bool.false_and,Bool.and_false,Bool.or_false,Bool.false_or,Bool.true_or,Bool.or_true,Bool.not_true,Bool.not_false,if_true,if_false,Bool.false_eq_true,Bool.true_eq_false,reduceCtorEq];try rfl
    exact ⟨retV HE,f2.b⟩
   have Ffk2:=Lib.hid fk2;clear fk2
   have s0_2:=f1.q 0 s0_0
   refine go_reg [] [] [some (.int .i8 n),oF,oF,oU,oU,oF,oF,some (.int .i8 n),oT,oT,some (.int .i8 n),some (.bool (decide (n ≤ 15))),some (.bool (decide (n ≤ 15))),some (.bool (decide (n ≤ 15))),some (.bool (decide (n ≤ 15)))] mo f1.d f1.z f1.b (by kernel_rfl) trivial (
    hk (fun cx=>cx.q (ex_mv rfl (cx.rq 0 s0_2))) <|
    hk (fun cx=>cx.v (ex_ge (x:=.tmp 3) rfl (cx.u 0 rfl) rfl) rfl (congrArg Value.bool Ffk1.out)) <|
    kmu 0 <|
    kno 0 <|
    kno 1 <|
    hk (fun cx=>cx.q (ex_pf rfl (cx.u 0 rfl) rfl)) <|
    kmu 0 <|
    hk (fun cx=>cx.vy 0 (ex_mv rfl (cx.rq 0 s0_2))) <|
    hk (fun cx=>cx.vy 1 (ex_ge (x:=.tmp 10) rfl (cx.u 0 rfl) rfl) (congrArg Value.bool Ffk2.out)) <|
    hk (fun cx=>cx.vy 1 (ex_mv rfl (cx.u 0 rfl))) <|
    hk (fun cx=>cx.vy 0 (ex_mv rfl (cx.rq 0 s0_2))) <|
    hk (fun cx=>cx.vy 1 (ex_le (x:=.tmp 13) rfl (cx.u 0 rfl) rfl)) <|
    hk (fun cx=>cx.vy 2 (ex_pt rfl (cx.u 0 rfl) (cx.u 1 rfl))) <|
    hk (fun cx=>cx.q (ex_pf rfl (cx.u 0 rfl) (cx.u 1 rfl))) <|
    kmu 0 <|
    hn) ?_
   intro a3 w3 f3
   refine wp_ret ?_
   try simp only [Exit.inBlock,Exit.then]
   refine bodyPost_ret (res_t (fn:=Tryd.f39) rfl (f3.v 14 rfl rfl rfl)) f3.d ?_
   have HE:(.bool (decide (n ≤ 15)):Value)=.bool (ccB n):=by unfold ccB;simp only [Ffk1.out,Ffk2.out,Bool.true_and,Bool.and_true,Bool.false_and,Bool.and_false,Bool.or_false,Bool.false_or,Bool.true_or,Bool.or_true,Bool.not_true,Bool.not_false,if_true,if_false,Bool.false_eq_true,Bool.true_eq_false,reduceCtorEq];try rfl
   exact ⟨retV HE,f3.b⟩
  have Ffk1:=Lib.hid fk1;clear fk1
  cases fk3:decide (n ≤ 7)
  case true=>
   have Ffk3:=Lib.hid fk3;clear fk3
   have s0_3:=f1.q 0 s0_0
   refine go_reg [] [] [some (.int .i8 n),oT,oT,some (.int .i8 n),oT,oT,oT,oU,oU,oU,oU,oU,oU,oT,oT] mo f1.d f1.z f1.b (by kernel_rfl) trivial (
    hk (fun cx=>cx.q (ex_mv rfl (cx.rq 0 s0_3))) <|
    hk (fun cx=>cx.v (ex_ge (x:=.tmp 3) rfl (cx.u 0 rfl) rfl) rfl (congrArg Value.bool Ffk1.out)) <|
    kmu 0 <|
    hk (fun cx=>cx.vy 0 (ex_mv rfl (cx.rq 0 s0_3))) <|
    hk (fun cx=>cx.vy 1 (ex_le (x:=.tmp 6) rfl (cx.u 0 rfl) rfl) (congrArg Value.bool Ffk3.out)) <|
    hk (fun cx=>cx.q (ex_pt rfl (cx.u 0 rfl) (cx.u 1 rfl))) <|
    kmu 0 <|
    kno 0 <|
    kno 1 <|
    kno 1 <|
    kno 0 <|
    kno 1 <|
    kno 2 <|
    hk (fun cx=>cx.q (ex_pt rfl (cx.u 0 rfl) rfl)) <|
    kmu 0 <|
    hn) ?_
   intro a4 w4 f4
   refine wp_ret ?_
   try simp only [Exit.inBlock,Exit.then]
   refine bodyPost_ret (res_t (fn:=Tryd.f39) rfl (f4.v 14 rfl rfl rfl)) f4.d ?_
   have HE:(.bool true:Value)=.bool (ccB n):=by unfold ccB;simp only [Ffk1.out,Ffk3.out,Bool.true_and,Bool.and_true,Bool.false_and,Bool.and_false,Bool.or_false,Bool.false_or,Bool.true_or,Bool.or_true,Bool.not_true,Bool.not_false,if_true,if_false,Bool.false_eq_true,Bool.true_eq_false,reduceCtorEq];try rfl
   exact ⟨retV HE,f4.b⟩
  have Ffk3:=Lib.hid fk3;clear fk3
  cases fk4:decide (12 ≤ n)
  case false=>
   have Ffk4:=Lib.hid fk4;clear fk4
   have s0_4:=f1.q 0 s0_0
   refine go_reg [] [] [some (.int .i8 n),oT,oT,some (.int .i8 n),oF,oF,oF,some (.int .i8 n),oF,oF,oU,oU,oF,oF,oF] mo f1.d f1.z f1.b (by kernel_rfl) trivial (
    hk (fun cx=>cx.q (ex_mv rfl (cx.rq 0 s0_4))) <|
    hk (fun cx=>cx.v (ex_ge (x:=.tmp 3) rfl (cx.u 0 rfl) rfl) rfl (congrArg Value.bool Ffk1.out)) <|
    kmu 0 <|
    hk (fun cx=>cx.vy 0 (ex_mv rfl (cx.rq 0 s0_4))) <|
    hk (fun cx=>cx.vy 1 (ex_le (x:=.tmp 6) rfl (cx.u 0 rfl) rfl) (congrArg Value.bool Ffk3.out)) <|
    hk (fun cx=>cx.q (ex_pt rfl (cx.u 0 rfl) (cx.u 1 rfl))) <|
    kmu 0 <|
    hk (fun cx=>cx.vy 0 (ex_mv rfl (cx.rq 0 s0_4))) <|
    hk (fun cx=>cx.vy 1 (ex_ge (x:=.tmp 10) rfl (cx.u 0 rfl) rfl) (congrArg Value.bool Ffk4.out)) <|
    hk (fun cx=>cx.vy 1 (ex_mv rfl (cx.u 0 rfl))) <|
    kno 0 <|
    kno 1 <|
    hk (fun cx=>cx.vy 2 (ex_pf rfl (cx.u 0 rfl) rfl)) <|
    hk (fun cx=>cx.q (ex_pf rfl (cx.u 0 rfl) (cx.u 1 rfl))) <|
    kmu 0 <|
    hn) ?_
   intro a5 w5 f5
   refine wp_ret ?_
   try simp only [Exit.inBlock,Exit.then]
   refine bodyPost_ret (res_t (fn:=Tryd.f39) rfl (f5.v 14 rfl rfl rfl)) f5.d ?_
   have HE:(.bool false:Value)=.bool (ccB n):=by unfold ccB;simp only [Ffk1.out,Ffk3.out,Ffk4.out,Bool.true_and,Bool.and_true,Bool.false_and,Bool.and_false,Bool.or_false,Bool.false_or,Bool.true_or,Bool.or_true,Bool.not_true,Bool.not_false,if_true,if_false,Bool.false_eq_true,Bool.true_eq_false,reduceCtorEq];try rfl
   exact ⟨retV HE,f5.b⟩
  have Ffk4:=Lib.hid fk4;clear fk4
  have s0_5:=f1.q 0 s0_0
  refine go_reg [] [] [some (.int .i8 n),oT,oT,some (.int .i8 n),oF,oF,oF,some (.int .i8 n),oT,oT,some (.int .i8 n),some (.bool (decide (n ≤ 15))),some (.bool (decide (n ≤ 15))),some (.bool (decide (n ≤ 15))),some (.bool (decide (n ≤ 15)))] mo f1.d f1.z f1.b (by kernel_rfl) trivial (
   hk (fun cx=>cx.q (ex_mv rfl (cx.rq 0 s0_5))) <|
   hk (fun cx=>cx.v (ex_ge (x:=.tmp 3) rfl (cx.u 0 rfl) rfl) rfl (congrArg Value.bool Ffk1.out)) <|
   kmu 0 <|
   hk (fun cx=>cx.vy 0 (ex_mv rfl (cx.rq 0 s0_5))) <|
   hk (fun cx=>cx.vy 1 (ex_le (x:=.tmp 6) rfl (cx.u 0 rfl) rfl) (congrArg Value.bool Ffk3.out)) <|
   hk (fun cx=>cx.q (ex_pt rfl (cx.u 0 rfl) (cx.u 1 rfl))) <|
   kmu 0 <|
   hk (fun cx=>cx.vy 0 (ex_mv rfl (cx.rq 0 s0_5))) <|
   hk (fun cx=>cx.vy 1 (ex_ge (x:=.tmp 10) rfl (cx.u 0 rfl) rfl) (congrArg Value.bool Ffk4.out)) <|
   hk (fun cx=>cx.vy 1 (ex_mv rfl (cx.u 0 rfl))) <|
   hk (fun cx=>cx.vy 0 (ex_mv rfl (cx.rq 0 s0_5))) <|
   hk (fun cx=>cx.vy 1 (ex_le (x:=.tmp 13) rfl (cx.u 0 rfl) rfl)) <|
   hk (fun cx=>cx.vy 2 (ex_pt rfl (cx.u 0 rfl) (cx.u 1 rfl))) <|
   hk (fun cx=>cx.q (ex_pf rfl (cx.u 0 rfl) (cx.u 1 rfl))) <|
   kmu 0 <|
   hn) ?_
  intro a6 w6 f6
  refine wp_ret ?_
  try simp only [Exit.inBlock,Exit.then]
  refine bodyPost_ret (res_t (fn:=Tryd.f39) rfl (f6.v 14 rfl rfl rfl)) f6.d ?_
  have HE:(.bool (decide (n ≤ 15)):Value)=.bool (ccB n):=by unfold ccB;simp only [Ffk1.out,Ffk3.out,Ffk4.out,Bool.true_and,Bool.and_true,Bool.false_and,Bool.and_false,Bool.or_false,Bool.false_or,Bool.true_or,Bool.or_true,Bool.not_true,Bool.not_false,if_true,if_false,Bool.false_eq_true,Bool.true_eq_false,reduceCtorEq];try rfl
  exact ⟨retV HE,f6.b⟩
set_option maxHeartbeats 4000000 in
theorem ewid_n (n:Int) (W:World):Calls Tryd.prog 40 #[.int .i8 n] W fun e w'=>e=.returned (.bool (widB n)) ∧ Below W.heap.size W w':=by
  refine calls_abs Tryd.func40 rfl (Nat.le_of_ble_eq_true rfl) ?_
  intro a0 d0 z0 h0
  replace z0:a0.tmps.size=17:=z0
  have s0_0:a0.tmps.getD 0 undef=.int .i8 n:=h0 0 (Nat.le_of_ble_eq_true rfl)
  refine wp_seq ?_
  refine go_reg [] [] [oF] mo d0 z0 (Below.refl _ _) (by kernel_rfl) trivial (
   hk (fun cx=>cx.q (ex_as rfl rfl)) <|
   hn) ?_
  intro a1 w1 f1
  refine wp_seq ?_
  cases fk1:n == 8
  case true=>
   have Ffk1:=Lib.hid fk1;clear fk1
   have s0_1:=f1.q 0 s0_0
   refine go_reg [] [] [some (.int .i8 n),oT,oT,oU,oU,oT,oT,oU,oU,oT,oT,oU,oU,oT,oT] mo f1.d f1.z f1.b (by kernel_rfl) trivial (
    hk (fun cx=>cx.q (ex_mv rfl (cx.rq 0 s0_1))) <|
    hk (fun cx=>cx.v (ex_eq (x:=.tmp 3) rfl (cx.u 0 rfl) rfl) rfl (congrArg Value.bool Ffk1.out)) <|
    kmu 0 <|
    kno 0 <|
    kno 1 <|
    hk (fun cx=>cx.q (ex_pt rfl (cx.u 0 rfl) rfl)) <|
    kmu 0 <|
    kno 0 <|
    kno 1 <|
    hk (fun cx=>cx.q (ex_pt rfl (cx.u 0 rfl) rfl)) <|
    kmu 0 <|
    kno 0 <|
    kno 1 <|
    hk (fun cx=>cx.q (ex_pt rfl (cx.u 0 rfl) rfl)) <|
    kmu 0 <|
    hn) ?_
   intro a2 w2 f2
   refine wp_ret ?_
   try simp only [Exit.inBlock,Exit.then]
   refine bodyPost_ret (res_t (fn:=Tryd.f40) rfl (f2.v 14 rfl rfl rfl)) f2.d ?_
   have HE:(.bool true:Value)=.bool (widB n):=by unfold widB;simp only [Ffk1.out,Bool.true_and,Bool.and_true,Bool.false_and,Bool.and_false,Bool.or_false,Bool.false_or,Bool.true_or,Bool.or_true,Bool.not_true,Bool.not_false,if_true,if_false,Bool.false_eq_true,Bool.true_eq_false,reduceCtorEq];try rfl
   exact ⟨retV HE,f2.b⟩
  have Ffk1:=Lib.hid fk1;clear fk1
  cases fk2:n == 16
  case true=>
   have Ffk2:=Lib.hid fk2;clear fk2
   have s0_2:=f1.q 0 s0_0
   refine go_reg [] [] [some (.int .i8 n),oF,oF,some (.int .i8 n),oT,oT,oT,oU,oU,oT,oT,oU,oU,oT,oT] mo f1.d f1.z f1.b (by kernel_rfl) trivial (
    hk (fun cx=>cx.q (ex_mv rfl (cx.rq 0 s0_2))) <|
    hk (fun cx=>cx.v (ex_eq (x:=.tmp 3) rfl (cx.u 0 rfl) rfl) rfl (congrArg Value.bool Ffk1.out)) <|
    kmu 0 <|
    hk (fun cx=>cx.vy 0 (ex_mv rfl (cx.rq 0 s0_2))) <|
    hk (fun cx=>cx.vy 1 (ex_eq (x:=.tmp 6) rfl (cx.u 0 rfl) rfl) (congrArg Value.bool Ffk2.out)) <|
    hk (fun cx=>cx.q (ex_pf rfl (cx.u 0 rfl) (cx.u 1 rfl))) <|
    kmu 0 <|
    kno 0 <|
    kno 1 <|
    hk (fun cx=>cx.q (ex_pt rfl (cx.u 0 rfl) rfl)) <|
    kmu 0 <|
    kno 0 <|
    kno 1 <|
    hk (fun cx=>cx.q (ex_pt rfl (cx.u 0 rfl) rfl)) <|
    kmu 0 <|
    hn) ?_
   intro a3 w3 f3
   refine wp_ret ?_
   try simp only [Exit.inBlock,Exit.then]
   refine bodyPost_ret (res_t (fn:=Tryd.f40) rfl (f3.v 14 rfl rfl rfl)) f3.d ?_
   have HE:(.bool true:Value)=.bool (widB n):=by unfold widB;simp only [Ffk1.out,Ffk2.out,Bool.true_and,Bool.and_true,Bool.false_and,Bool.and_false,Bool.or_false,Bool.false_or,Bool.true_or,Bool.or_true,Bool.not_true,Bool.not_false,if_true,if_false,Bool.false_eq_true,Bool.true_eq_false,reduceCtorEq];try rfl
   exact ⟨retV HE,f3.b⟩
  have Ffk2:=Lib.hid fk2;clear fk2
  cases fk3:n == 32
  case true=>
   have Ffk3:=Lib.hid fk3;clear fk3
   have s0_3:=f1.q 0 s0_0
   refine go_reg [] [] [some (.int .i8 n),oF,oF,some (.int .i8 n),oF,oF,oF,some (.int .i8 n),oT,oT,oT,oU,oU,oT,oT] mo f1.d f1.z f1.b (by kernel_rfl) trivial (
    hk (fun cx=>cx.q (ex_mv rfl (cx.rq 0 s0_3))) <|
    hk (fun cx=>cx.v (ex_eq (x:=.tmp 3) rfl (cx.u 0 rfl) rfl) rfl (congrArg Value.bool Ffk1.out)) <|
    kmu 0 <|
    hk (fun cx=>cx.vy 0 (ex_mv rfl (cx.rq 0 s0_3))) <|
    hk (fun cx=>cx.vy 1 (ex_eq (x:=.tmp 6) rfl (cx.u 0 rfl) rfl) (congrArg Value.bool Ffk2.out)) <|
    hk (fun cx=>cx.q (ex_pf rfl (cx.u 0 rfl) (cx.u 1 rfl))) <|
    kmu 0 <|
    hk (fun cx=>cx.vy 0 (ex_mv rfl (cx.rq 0 s0_3))) <|
    hk (fun cx=>cx.vy 1 (ex_eq (x:=.tmp 10) rfl (cx.u 0 rfl) rfl) (congrArg Value.bool Ffk3.out)) <|
    hk (fun cx=>cx.q (ex_pf rfl (cx.u 0 rfl) (cx.u 1 rfl))) <|
    kmu 0 <|
    kno 0 <|
    kno 1 <|
    hk (fun cx=>cx.q (ex_pt rfl (cx.u 0 rfl) rfl)) <|
    kmu 0 <|
    hn) ?_
   intro a4 w4 f4
   refine wp_ret ?_
   try simp only [Exit.inBlock,Exit.then]
   refine bodyPost_ret (res_t (fn:=Tryd.f40) rfl (f4.v 14 rfl rfl rfl)) f4.d ?_
   have HE:(.bool true:Value)=.bool (widB n):=by unfold widB;simp only [Ffk1.out,Ffk2.out,Ffk3.out,Bool.true_and,Bool.and_true,Bool.false_and,Bool.and_false,Bool.or_false,Bool.false_or,Bool.true_or,Bool.or_true,Bool.not_true,Bool.not_false,if_true,if_false,Bool.false_eq_true,Bool.true_eq_false,reduceCtorEq];try rfl
   exact ⟨retV HE,f4.b⟩
  have Ffk3:=Lib.hid fk3;clear fk3
  cases fk4:n == 64
  case true=>
   have Ffk4:=Lib.hid fk4;clear fk4
   have s0_4:=f1.q 0 s0_0
   refine go_reg [] [] [some (.int .i8 n),oF,oF,some (.int .i8 n),oF,oF,oF,some (.int .i8 n),oF,oF,oF,some (.int .i8 n),oT,oT,oT] mo f1.d f1.z f1.b (by kernel_rfl) trivial (
    hk (fun cx=>cx.q (ex_mv rfl (cx.rq 0 s0_4))) <|
    hk (fun cx=>cx.v (ex_eq (x:=.tmp 3) rfl (cx.u 0 rfl) rfl) rfl (congrArg Value.bool Ffk1.out)) <|
    kmu 0 <|
    hk (fun cx=>cx.vy 0 (ex_mv rfl (cx.rq 0 s0_4))) <|
    hk (fun cx=>cx.vy 1 (ex_eq (x:=.tmp 6) rfl (cx.u 0 rfl) rfl) (congrArg Value.bool Ffk2.out)) <|
    hk (fun cx=>cx.q (ex_pf rfl (cx.u 0 rfl) (cx.u 1 rfl))) <|
    kmu 0 <|
    hk (fun cx=>cx.vy 0 (ex_mv rfl (cx.rq 0 s0_4))) <|
    hk (fun cx=>cx.vy 1 (ex_eq (x:=.tmp 10) rfl (cx.u 0 rfl) rfl) (congrArg Value.bool Ffk3.out)) <|
    hk (fun cx=>cx.q (ex_pf rfl (cx.u 0 rfl) (cx.u 1 rfl))) <|
    kmu 0 <|
    hk (fun cx=>cx.vy 0 (ex_mv rfl (cx.rq 0 s0_4))) <|
    hk (fun cx=>cx.vy 1 (ex_eq (x:=.tmp 14) rfl (cx.u 0 rfl) rfl) (congrArg Value.bool Ffk4.out)) <|
    hk (fun cx=>cx.q (ex_pf rfl (cx.u 0 rfl) (cx.u 1 rfl))) <|
    kmu 0 <|
    hn) ?_
   intro a5 w5 f5
   refine wp_ret ?_
   try simp only [Exit.inBlock,Exit.then]
   refine bodyPost_ret (res_t (fn:=Tryd.f40) rfl (f5.v 14 rfl rfl rfl)) f5.d ?_
   have HE:(.bool true:Value)=.bool (widB n):=by unfold widB;simp only [Ffk1.out,Ffk2.out,Ffk3.out,Ffk4.out,Bool.true_and,Bool.and_true,Bool.false_and,Bool.and_false,Bool.or_false,Bool.false_or,Bool.true_or,Bool.or_true,Bool.not_true,Bool.not_false,if_true,if_false,Bool.false_eq_true,Bool.true_eq_false,reduceCtorEq];try rfl
   exact ⟨retV HE,f5.b⟩
  have Ffk4:=Lib.hid fk4;clear fk4
  have s0_5:=f1.q 0 s0_0
  refine go_reg [] [] [some (.int .i8 n),oF,oF,some (.int .i8 n),oF,oF,oF,some (.int .i8 n),oF,oF,oF,some (.int .i8 n),oF,oF,oF] mo f1.d f1.z f1.b (by kernel_rfl) trivial (
   hk (fun cx=>cx.q (ex_mv rfl (cx.rq 0 s0_5))) <|
   hk (fun cx=>cx.v (ex_eq (x:=.tmp 3) rfl (cx.u 0 rfl) rfl) rfl (congrArg Value.bool Ffk1.out)) <|
   kmu 0 <|
   hk (fun cx=>cx.vy 0 (ex_mv rfl (cx.rq 0 s0_5))) <|
   hk (fun cx=>cx.vy 1 (ex_eq (x:=.tmp 6) rfl (cx.u 0 rfl) rfl) (congrArg Value.bool Ffk2.out)) <|
   hk (fun cx=>cx.q (ex_pf rfl (cx.u 0 rfl) (cx.u 1 rfl))) <|
   kmu 0 <|
   hk (fun cx=>cx.vy 0 (ex_mv rfl (cx.rq 0 s0_5))) <|
   hk (fun cx=>cx.vy 1 (ex_eq (x:=.tmp 10) rfl (cx.u 0 rfl) rfl) (congrArg Value.bool Ffk3.out)) <|
   hk (fun cx=>cx.q (ex_pf rfl (cx.u 0 rfl) (cx.u 1 rfl))) <|
   kmu 0 <|
   hk (fun cx=>cx.vy 0 (ex_mv rfl (cx.rq 0 s0_5))) <|
   hk (fun cx=>cx.vy 1 (ex_eq (x:=.tmp 14) rfl (cx.u 0 rfl) rfl) (congrArg Value.bool Ffk4.out)) <|
   hk (fun cx=>cx.q (ex_pf rfl (cx.u 0 rfl) (cx.u 1 rfl))) <|
   kmu 0 <|
   hn) ?_
  intro a6 w6 f6
  refine wp_ret ?_
  try simp only [Exit.inBlock,Exit.then]
  refine bodyPost_ret (res_t (fn:=Tryd.f40) rfl (f6.v 14 rfl rfl rfl)) f6.d ?_
  have HE:(.bool false:Value)=.bool (widB n):=by unfold widB;simp only [Ffk1.out,Ffk2.out,Ffk3.out,Ffk4.out,Bool.true_and,Bool.and_true,Bool.false_and,Bool.and_false,Bool.or_false,Bool.false_or,Bool.true_or,Bool.or_true,Bool.not_true,Bool.not_false,if_true,if_false,Bool.false_eq_true,Bool.true_eq_false,reduceCtorEq];try rfl
  exact ⟨retV HE,f6.b⟩
theorem fld_0 (x:Xi):fldX 0 x=⟨x.op,x.w,x.dst,0,0,0,0,0⟩:=by unfold fldX;simp
set_option maxHeartbeats 4000000 in
theorem efld0 (x:Xi) (W:World) (eK:clsI x.op=0):Calls Tryd.prog 35 #[.agg (xC x)] W fun e w'=>e=.returned (.agg (xC ⟨x.op,x.w,x.dst,0,0,0,0,0⟩)) ∧ Below W.heap.size W w':=by
  refine calls_abs Tryd.func35 rfl (Nat.le_of_ble_eq_true rfl) ?_
  intro a0 d0 z0 h0
  replace z0:a0.tmps.size=73:=z0
  have s0_0:a0.tmps.getD 0 undef=.agg (xC x):=h0 0 (Nat.le_of_ble_eq_true rfl)
  refine wp_seq ?_
  refine go_reg [] [⟨0,1,24,(xC x),none,#[]⟩,⟨1,2,24,(xC zX),none,#[]⟩] [none,none] mo d0 z0 (Below.refl _ _) (by kernel_rfl) trivial (
   hk (fun cx=>cx.al (wn rfl) 0 rfl (ex_box rfl (cx.rq 0 s0_0) rfl) rfl rfl rfl rfl rfl trivial) <|
   hk (fun cx=>cx.al (wn rfl) 1 rfl (al_x rfl) rfl rfl rfl rfl rfl trivial) <|
   hn) ?_
  intro a1 w1 f1
  obtain ⟨g1,u_g1,q_g1,b_g1⟩:=f1.al.1
  obtain ⟨g2,u_g2,q_g2,b_g2⟩:=f1.al.2.1
  refine wp_seq ?_
  refine go_reg [bx g1 24 (xC x)] [⟨3,3,24,(xC zX),some 4,(xC ⟨x.op,0,0,0,0,0,0,0⟩)⟩] [some (pt g1 0),some (.int .i8 x.op),some (.agg (xC ⟨x.op,0,0,0,0,0,0,0⟩)),none,none] mo f1.d f1.z f1.b (by kernel_rfl) ⟨b_g1,trivial⟩ (
   hk (fun cx=>cx.q (ex_fa rfl (cx.rq 1 u_g1) (faEnC24_0_0 _ _))) <|
   hk (fun cx=>cx.q (ex_ld rfl (cx.u 0 rfl) (cx.rn 0 rfl) rfl Tryd.isAgg22)) <|
   hk (fun cx=>cx.q (exec_build rfl (parts1 (cx.u 0 rfl)) (by kernel_rfl))) <|
   hk (fun cx=>cx.al (wn rfl) 0 rfl (al_x rfl) rfl rfl rfl rfl (by kernel_rfl) trivial) <|
   hk (fun cx=>cx.stA (wn rfl) rfl rfl 0 0 rfl rfl rfl rfl (cx.u 1 rfl) (by kernel_rfl) (Eq.refl 8) (by simp [Value.oneCell']) f1.b.size rfl rfl trivial) <|
   hn) ?_
  intro a2 w2 f2
  obtain ⟨g3,u_g3,q_g3,b_g3⟩:=f2.al.1
  refine wp_seq ?_
  have b_g1_1:=f2.k b_g1
  have s1_2:=f2.q 1 u_g1
  refine go_reg [bx g1 24 (xC x)] [] [some (pt g1 0),some (.int .i8 x.op),some (.int .i64 0),some (.int .i64 0)] mo f2.d f2.z f2.b (by kernel_rfl) ⟨b_g1_1,trivial⟩ (
   hk (fun cx=>cx.q (ex_fa rfl (cx.rq 1 s1_2) (faEnC24_0_0 _ _))) <|
   hk (fun cx=>cx.q (ex_ld rfl (cx.u 0 rfl) (cx.rn 0 rfl) rfl Tryd.isAgg22)) <|
   hc (fun _ _ wx cx=>cx.c rfl (args1 (cx.u 0 rfl)) Tryd.func27 (by decide +kernel) (((cls_n x.op wx).mono (by rintro e w' ⟨rfl,rfl⟩;exact ⟨rfl,Below.refl _ _⟩))) rfl (congrArg (Value.int .i64) eK)) <|
   kmu 0 <|
   hn) ?_
  intro a3 w3 f3
  refine wp_seq ?_
  refine wp_seq ?_
  refine go_reg [] [] [some (.int .i64 0),oT] mo f3.d f3.z f3.b (by kernel_rfl) trivial (
   hk (fun cx=>cx.q (ex_mv rfl (cx.rq 4 (f3.v 3 rfl rfl rfl)))) <|
   hk (fun cx=>cx.v (ex_lt (x:=.tmp 11) rfl (cx.u 0 rfl) rfl) rfl (congrArg Value.bool (by decide))) <|
   hn) ?_
  intro a4 w4 f4
  refine wp_cond_true (f4.v 1 rfl rfl rfl) ?_
  have b_g1_3:=f4.k (f3.k b_g1_1)
  have b_g3_4:=f4.k (f3.k b_g3)
  have s1_5:=f4.q 1 (f3.q 1 s1_2)
  have s3_6:=f4.q 3 (f3.q 3 u_g3)
  refine go_reg [bx g1 24 (xC x),⟨g3,24,(xC ⟨x.op,0,0,0,0,0,0,0⟩),some 3,(xC ⟨x.op,x.w,0,0,0,0,0,0⟩)⟩] [] [some (pt g1 1),some (.int .i8 x.w),some (pt g3 1),none] mo f4.d f4.z f4.b (by kernel_rfl) ⟨b_g1_3,b_g3_4,trivial⟩ (
   hk (fun cx=>cx.q (ex_fa rfl (cx.rq 1 s1_5) (faEnC24_1_0 _ _))) <|
   hk (fun cx=>cx.q (ex_ld rfl (cx.u 0 rfl) (cx.rn 0 rfl) rfl Tryd.isAgg22)) <|
   hk (fun cx=>cx.q (ex_fa rfl (cx.rq 3 s3_6) (faEnC24_1_0 _ _))) <|
   hk (fun cx=>cx.stC (wn rfl) rfl rfl 1 rfl (cx.u 0 rfl) (cx.u 1 rfl) rfl rfl (by kernel_rfl) rfl rfl (Nat.le_trans f1.b.size q_g3) rfl ⟨(ne_row b_g1 q_g3),trivial⟩ trivial) <|
   hn) ?_
  intro a5 w5 f5
  refine wp_seq ?_
  refine wp_seq ?_
  have s4_7:=f5.q 4 (f4.q 4 (f3.v 3 rfl rfl rfl))
  refine go_reg [] [] [some (.int .i64 0),oT] mo f5.d f5.z f5.b (by kernel_rfl) trivial (
   hk (fun cx=>cx.q (ex_mv rfl (cx.rq 4 s4_7))) <|
   hk (fun cx=>cx.v (ex_le (x:=.tmp 16) rfl (cx.u 0 rfl) rfl) rfl (congrArg Value.bool (by decide))) <|
   hn) ?_
  intro a6 w6 f6
  refine wp_cond_true (f6.v 1 rfl rfl rfl) ?_
  have b_g1_8:=f6.k (f5.kp b_g1_3 ⟨.inl rfl,.inr (ne_row b_g1 q_g3),trivial⟩)
  have b_g3_9:=f6.k f5.rows.2.1
  have s1_10:=f6.q 1 (f5.q 1 s1_5)
  have s3_11:=f6.q 3 (f5.q 3 s3_6)
  refine go_reg [bx g1 24 (xC x),⟨g3,24,(xC ⟨x.op,x.w,0,0,0,0,0,0⟩),some 3,(xC ⟨x.op,x.w,x.dst,0,0,0,0,0⟩)⟩] [] [some (pt g1 2),some (.int .i8 x.dst),some (pt g3 2),none] mo f6.d f6.z f6.b (by kernel_rfl) ⟨b_g1_8,b_g3_9,trivial⟩ (
   hk (fun cx=>cx.q (ex_fa rfl (cx.rq 1 s1_10) (faEnC24_2_0 _ _))) <|
   hk (fun cx=>cx.q (ex_ld rfl (cx.u 0 rfl) (cx.rn 0 rfl) rfl Tryd.isAgg22)) <|
   hk (fun cx=>cx.q (ex_fa rfl (cx.rq 3 s3_11) (faEnC24_2_0 _ _))) <|
   hk (fun cx=>cx.stC (wn rfl) rfl rfl 1 rfl (cx.u 0 rfl) (cx.u 1 rfl) rfl rfl (by kernel_rfl) rfl rfl (Nat.le_trans f1.b.size q_g3) rfl ⟨(ne_row b_g1 q_g3),trivial⟩ trivial) <|
   hn) ?_
  intro a7 w7 f7
  refine wp_seq ?_
  refine wp_seq ?_
  have s4_12:=f7.q 4 (f6.q 4 s4_7)
  refine go_reg [] [] [some (.int .i64 0),oF,oF,some (.int .i64 0),oF,oF,oF,some (.int .i64 0),oF,oF] mo f7.d f7.z f7.b (by kernel_rfl) trivial (
   hk (fun cx=>cx.q (ex_mv rfl (cx.rq 4 s4_12))) <|
   hk (fun cx=>cx.v (ex_eq (x:=.tmp 21) rfl (cx.u 0 rfl) rfl) rfl (congrArg Value.bool (by decide))) <|
   kmu 0 <|
   hk (fun cx=>cx.vy 0 (ex_mv rfl (cx.rq 4 s4_12))) <|
   hk (fun cx=>cx.vy 1 (ex_eq (x:=.tmp 24) rfl (cx.u 0 rfl) rfl) (congrArg Value.bool (by decide))) <|
   hk (fun cx=>cx.q (ex_pf rfl (cx.u 0 rfl) (cx.u 1 rfl))) <|
   kmu 0 <|
   hk (fun cx=>cx.vy 0 (ex_mv rfl (cx.rq 4 s4_12))) <|
   hk (fun cx=>cx.vy 1 (ex_eq (x:=.tmp 28) rfl (cx.u 0 rfl) rfl) (congrArg Value.bool (by decide))) <|
   hk (fun cx=>cx.q (ex_pf rfl (cx.u 0 rfl) (cx.u 1 rfl))) <|
   hn) ?_
  intro a8 w8 f8
  refine wp_cond_false (f8.v 9 rfl rfl rfl) ?_
  refine wp_skip ?_
  refine wp_seq ?_
  refine wp_seq ?_
  have s4_13:=f8.q 4 s4_12
  refine go_reg [] [] [some (.int .i64 0),oF,oF,some (.int .i64 0),oF,oF,oF,some (.int .i64 0),oF,oF,oF,some (.int .i64 0),oF,oF] mo f8.d f8.z f8.b (by kernel_rfl) trivial (
   hk (fun cx=>cx.q (ex_mv rfl (cx.rq 4 s4_13))) <|
   hk (fun cx=>cx.v (ex_eq (x:=.tmp 34) rfl (cx.u 0 rfl) rfl) rfl (congrArg Value.bool (by decide))) <|
   kmu 0 <|
   hk (fun cx=>cx.vy 0 (ex_mv rfl (cx.rq 4 s4_13))) <|
   hk (fun cx=>cx.vy 1 (ex_eq (x:=.tmp 37) rfl (cx.u 0 rfl) rfl) (congrArg Value.bool (by decide))) <|
   hk (fun cx=>cx.q (ex_pf rfl (cx.u 0 rfl) (cx.u 1 rfl))) <|
   kmu 0 <|
   hk (fun cx=>cx.vy 0 (ex_mv rfl (cx.rq 4 s4_13))) <|
   hk (fun cx=>cx.vy 1 (ex_eq (x:=.tmp 41) rfl (cx.u 0 rfl) rfl) (congrArg Value.bool (by decide))) <|
   hk (fun cx=>cx.q (ex_pf rfl (cx.u 0 rfl) (cx.u 1 rfl))) <|
   kmu 0 <|
   hk (fun cx=>cx.vy 0 (ex_mv rfl (cx.rq 4 s4_13))) <|
   hk (fun cx=>cx.vy 1 (ex_eq (x:=.tmp 45) rfl (cx.u 0 rfl) rfl) (congrArg Value.bool (by decide))) <|
   hk (fun cx=>cx.q (ex_pf rfl (cx.u 0 rfl) (cx.u 1 rfl))) <|
   hn) ?_
  intro a9 w9 f9
  refine wp_cond_false (f9.v 13 rfl rfl rfl) ?_
  refine wp_skip ?_
  refine wp_seq ?_
  refine wp_seq ?_
  have s4_14:=f9.q 4 s4_13
  refine go_reg [] [] [some (.int .i64 0),oF,oF,some (.int .i64 0),oF,oF] mo f9.d f9.z f9.b (by kernel_rfl) trivial (
   hk (fun cx=>cx.q (ex_mv rfl (cx.rq 4 s4_14))) <|
   hk (fun cx=>cx.v (ex_eq (x:=.tmp 51) rfl (cx.u 0 rfl) rfl) rfl (congrArg Value.bool (by decide))) <|
   kmu 0 <|
   hk (fun cx=>cx.vy 0 (ex_mv rfl (cx.rq 4 s4_14))) <|
   hk (fun cx=>cx.vy 1 (ex_eq (x:=.tmp 54) rfl (cx.u 0 rfl) rfl) (congrArg Value.bool (by decide))) <|
   hk (fun cx=>cx.q (ex_pf rfl (cx.u 0 rfl) (cx.u 1 rfl))) <|
   hn) ?_
  intro a10 w10 f10
  refine wp_cond_false (f10.v 5 rfl rfl rfl) ?_
  refine wp_skip ?_
  refine wp_seq ?_
  refine wp_seq ?_
  have s4_15:=f10.q 4 s4_14
  refine go_reg [] [] [some (.int .i64 0),oF,oF,some (.int .i64 0),oF,oF] mo f10.d f10.z f10.b (by kernel_rfl) trivial (
   hk (fun cx=>cx.q (ex_mv rfl (cx.rq 4 s4_15))) <|
   hk (fun cx=>cx.v (ex_eq (x:=.tmp 60) rfl (cx.u 0 rfl) rfl) rfl (congrArg Value.bool (by decide))) <|
   kmu 0 <|
   hk (fun cx=>cx.vy 0 (ex_mv rfl (cx.rq 4 s4_15))) <|
   hk (fun cx=>cx.vy 1 (ex_eq (x:=.tmp 63) rfl (cx.u 0 rfl) rfl) (congrArg Value.bool (by decide))) <|
   hk (fun cx=>cx.q (ex_pf rfl (cx.u 0 rfl) (cx.u 1 rfl))) <|
   hn) ?_
  intro a11 w11 f11
  refine wp_cond_false (f11.v 5 rfl rfl rfl) ?_
  refine wp_skip ?_
  refine wp_seq ?_
  have b_g3_16:=f11.k (f10.k (f9.k (f8.k f7.rows.2.1)))
  have b_g2_17:=f11.k (f10.k (f9.k (f8.k (f7.kp (f6.k (f5.kp (f4.k (f3.k (f2.k b_g2))) ⟨.inl rfl,.inr (ne_row b_g2 q_g3),trivial⟩)) ⟨.inl rfl,.inr (ne_row b_g2 q_g3),trivial⟩))))
  have s3_18:=f11.q 3 (f10.q 3 (f9.q 3 (f8.q 3 (f7.q 3 s3_11))))
  have s2_19:=f11.q 2 (f10.q 2 (f9.q 2 (f8.q 2 (f7.q 2 (f6.q 2 (f5.q 2 (f4.q 2 (f3.q 2 (f2.q 2 u_g2)))))))))
  refine go_reg [bx g3 24 (xC ⟨x.op,x.w,x.dst,0,0,0,0,0⟩),⟨g2,24,(xC zX),some 1,(xC ⟨x.op,x.w,x.dst,0,0,0,0,0⟩)⟩] [] [some (.agg (xC ⟨x.op,x.w,x.dst,0,0,0,0,0⟩)),none] mo f11.d f11.z f11.b (by kernel_rfl) ⟨b_g3_16,b_g2_17,trivial⟩ (
   hk (fun cx=>cx.q (ldX rfl (cx.rq 3 s3_18) (cx.rn 0 rfl))) <|
   hk (fun cx=>cx.stR (wn rfl) rfl rfl 1 rfl (cx.rq 2 s2_19) (cx.u 0 rfl) (by kernel_rfl) (Eq.refl 8) (by simp [Value.oneCell']) q_g2 rfl ⟨(ne_row b_g2 q_g3).symm,trivial⟩ trivial) <|
   hn) ?_
  intro a12 w12 f12
  refine wp_ret ?_
  have s2_20:=f12.q 2 s2_19
  try simp only [Exit.inBlock,Exit.then]
  refine bodyPost_ret (res_c (fn:=Tryd.f35) rfl s2_20 (load_row 24 f12.rows.2.1 Tryd.underlying24 rfl (by kernel_rfl))) f12.d ?_
  exact ⟨rfl,f12.b⟩
theorem fld_1 (x:Xi):fldX 1 x=⟨x.op,x.w,x.dst,x.src,0,0,0,0⟩:=by unfold fldX;simp
set_option maxHeartbeats 4000000 in
theorem efld1 (x:Xi) (W:World) (eK:clsI x.op=1):Calls Tryd.prog 35 #[.agg (xC x)] W fun e w'=>e=.returned (.agg (xC ⟨x.op,x.w,x.dst,x.src,0,0,0,0⟩)) ∧ Below W.heap.size W w':=by
  refine calls_abs Tryd.func35 rfl (Nat.le_of_ble_eq_true rfl) ?_
  intro a0 d0 z0 h0
  replace z0:a0.tmps.size=73:=z0
  have s0_0:a0.tmps.getD 0 undef=.agg (xC x):=h0 0 (Nat.le_of_ble_eq_true rfl)
  refine wp_seq ?_
  refine go_reg [] [⟨0,1,24,(xC x),none,#[]⟩,⟨1,2,24,(xC zX),none,#[]⟩] [none,none] mo d0 z0 (Below.refl _ _) (by kernel_rfl) trivial (
   hk (fun cx=>cx.al (wn rfl) 0 rfl (ex_box rfl (cx.rq 0 s0_0) rfl) rfl rfl rfl rfl rfl trivial) <|
   hk (fun cx=>cx.al (wn rfl) 1 rfl (al_x rfl) rfl rfl rfl rfl rfl trivial) <|
   hn) ?_
  intro a1 w1 f1
  obtain ⟨g1,u_g1,q_g1,b_g1⟩:=f1.al.1
  obtain ⟨g2,u_g2,q_g2,b_g2⟩:=f1.al.2.1
  refine wp_seq ?_
  refine go_reg [bx g1 24 (xC x)] [⟨3,3,24,(xC zX),some 4,(xC ⟨x.op,0,0,0,0,0,0,0⟩)⟩] [some (pt g1 0),some (.int .i8 x.op),some (.agg (xC ⟨x.op,0,0,0,0,0,0,0⟩)),none,none] mo f1.d f1.z f1.b (by kernel_rfl) ⟨b_g1,trivial⟩ (
   hk (fun cx=>cx.q (ex_fa rfl (cx.rq 1 u_g1) (faEnC24_0_0 _ _))) <|
   hk (fun cx=>cx.q (ex_ld rfl (cx.u 0 rfl) (cx.rn 0 rfl) rfl Tryd.isAgg22)) <|
   hk (fun cx=>cx.q (exec_build rfl (parts1 (cx.u 0 rfl)) (by kernel_rfl))) <|
   hk (fun cx=>cx.al (wn rfl) 0 rfl (al_x rfl) rfl rfl rfl rfl (by kernel_rfl) trivial) <|
   hk (fun cx=>cx.stA (wn rfl) rfl rfl 0 0 rfl rfl rfl rfl (cx.u 1 rfl) (by kernel_rfl) (Eq.refl 8) (by simp [Value.oneCell']) f1.b.size rfl rfl trivial) <|
   hn) ?_
  intro a2 w2 f2
  obtain ⟨g3,u_g3,q_g3,b_g3⟩:=f2.al.1
  refine wp_seq ?_
  have b_g1_1:=f2.k b_g1
  have s1_2:=f2.q 1 u_g1
  refine go_reg [bx g1 24 (xC x)] [] [some (pt g1 0),some (.int .i8 x.op),some (.int .i64 1),some (.int .i64 1)] mo f2.d f2.z f2.b (by kernel_rfl) ⟨b_g1_1,trivial⟩ (
   hk (fun cx=>cx.q (ex_fa rfl (cx.rq 1 s1_2) (faEnC24_0_0 _ _))) <|
   hk (fun cx=>cx.q (ex_ld rfl (cx.u 0 rfl) (cx.rn 0 rfl) rfl Tryd.isAgg22)) <|
   hc (fun _ _ wx cx=>cx.c rfl (args1 (cx.u 0 rfl)) Tryd.func27 (by decide +kernel) (((cls_n x.op wx).mono (by rintro e w' ⟨rfl,rfl⟩;exact ⟨rfl,Below.refl _ _⟩))) rfl (congrArg (Value.int .i64) eK)) <|
   kmu 0 <|
   hn) ?_
  intro a3 w3 f3
  refine wp_seq ?_
  refine wp_seq ?_
  refine go_reg [] [] [some (.int .i64 1),oT] mo f3.d f3.z f3.b (by kernel_rfl) trivial (
   hk (fun cx=>cx.q (ex_mv rfl (cx.rq 4 (f3.v 3 rfl rfl rfl)))) <|
   hk (fun cx=>cx.v (ex_lt (x:=.tmp 11) rfl (cx.u 0 rfl) rfl) rfl (congrArg Value.bool (by decide))) <|
   hn) ?_
  intro a4 w4 f4
  refine wp_cond_true (f4.v 1 rfl rfl rfl) ?_
  have b_g1_3:=f4.k (f3.k b_g1_1)
  have b_g3_4:=f4.k (f3.k b_g3)
  have s1_5:=f4.q 1 (f3.q 1 s1_2)
  have s3_6:=f4.q 3 (f3.q 3 u_g3)
  refine go_reg [bx g1 24 (xC x),⟨g3,24,(xC ⟨x.op,0,0,0,0,0,0,0⟩),some 3,(xC ⟨x.op,x.w,0,0,0,0,0,0⟩)⟩] [] [some (pt g1 1),some (.int .i8 x.w),some (pt g3 1),none] mo f4.d f4.z f4.b (by kernel_rfl) ⟨b_g1_3,b_g3_4,trivial⟩ (
   hk (fun cx=>cx.q (ex_fa rfl (cx.rq 1 s1_5) (faEnC24_1_0 _ _))) <|
   hk (fun cx=>cx.q (ex_ld rfl (cx.u 0 rfl) (cx.rn 0 rfl) rfl Tryd.isAgg22)) <|
   hk (fun cx=>cx.q (ex_fa rfl (cx.rq 3 s3_6) (faEnC24_1_0 _ _))) <|
   hk (fun cx=>cx.stC (wn rfl) rfl rfl 1 rfl (cx.u 0 rfl) (cx.u 1 rfl) rfl rfl (by kernel_rfl) rfl rfl (Nat.le_trans f1.b.size q_g3) rfl ⟨(ne_row b_g1 q_g3),trivial⟩ trivial) <|
   hn) ?_
  intro a5 w5 f5
  refine wp_seq ?_
  refine wp_seq ?_
  have s4_7:=f5.q 4 (f4.q 4 (f3.v 3 rfl rfl rfl))
  refine go_reg [] [] [some (.int .i64 1),oT] mo f5.d f5.z f5.b (by kernel_rfl) trivial (
   hk (fun cx=>cx.q (ex_mv rfl (cx.rq 4 s4_7))) <|
   hk (fun cx=>cx.v (ex_le (x:=.tmp 16) rfl (cx.u 0 rfl) rfl) rfl (congrArg Value.bool (by decide))) <|
   hn) ?_
  intro a6 w6 f6
  refine wp_cond_true (f6.v 1 rfl rfl rfl) ?_
  have b_g1_8:=f6.k (f5.kp b_g1_3 ⟨.inl rfl,.inr (ne_row b_g1 q_g3),trivial⟩)
  have b_g3_9:=f6.k f5.rows.2.1
  have s1_10:=f6.q 1 (f5.q 1 s1_5)
  have s3_11:=f6.q 3 (f5.q 3 s3_6)
  refine go_reg [bx g1 24 (xC x),⟨g3,24,(xC ⟨x.op,x.w,0,0,0,0,0,0⟩),some 3,(xC ⟨x.op,x.w,x.dst,0,0,0,0,0⟩)⟩] [] [some (pt g1 2),some (.int .i8 x.dst),some (pt g3 2),none] mo f6.d f6.z f6.b (by kernel_rfl) ⟨b_g1_8,b_g3_9,trivial⟩ (
   hk (fun cx=>cx.q (ex_fa rfl (cx.rq 1 s1_10) (faEnC24_2_0 _ _))) <|
   hk (fun cx=>cx.q (ex_ld rfl (cx.u 0 rfl) (cx.rn 0 rfl) rfl Tryd.isAgg22)) <|
   hk (fun cx=>cx.q (ex_fa rfl (cx.rq 3 s3_11) (faEnC24_2_0 _ _))) <|
   hk (fun cx=>cx.stC (wn rfl) rfl rfl 1 rfl (cx.u 0 rfl) (cx.u 1 rfl) rfl rfl (by kernel_rfl) rfl rfl (Nat.le_trans f1.b.size q_g3) rfl ⟨(ne_row b_g1 q_g3),trivial⟩ trivial) <|
   hn) ?_
  intro a7 w7 f7
  refine wp_seq ?_
  refine wp_seq ?_
  have s4_12:=f7.q 4 (f6.q 4 s4_7)
  refine go_reg [] [] [some (.int .i64 1),oT,oT,oU,oU,oT,oT,oU,oU,oT] mo f7.d f7.z f7.b (by kernel_rfl) trivial (
   hk (fun cx=>cx.q (ex_mv rfl (cx.rq 4 s4_12))) <|
   hk (fun cx=>cx.v (ex_eq (x:=.tmp 21) rfl (cx.u 0 rfl) rfl) rfl (congrArg Value.bool (by decide))) <|
   kmu 0 <|
   kno 0 <|
   kno 1 <|
   hk (fun cx=>cx.q (ex_pt rfl (cx.u 0 rfl) rfl)) <|
   kmu 0 <|
   kno 0 <|
   kno 1 <|
   hk (fun cx=>cx.q (ex_pt rfl (cx.u 0 rfl) rfl)) <|
   hn) ?_
  intro a8 w8 f8
  refine wp_cond_true (f8.v 9 rfl rfl rfl) ?_
  have b_g1_13:=f8.k (f7.kp b_g1_8 ⟨.inl rfl,.inr (ne_row b_g1 q_g3),trivial⟩)
  have b_g3_14:=f8.k f7.rows.2.1
  have s1_15:=f8.q 1 (f7.q 1 s1_10)
  have s3_16:=f8.q 3 (f7.q 3 s3_11)
  refine go_reg [bx g1 24 (xC x),⟨g3,24,(xC ⟨x.op,x.w,x.dst,0,0,0,0,0⟩),some 3,(xC ⟨x.op,x.w,x.dst,x.src,0,0,0,0⟩)⟩] [] [some (pt g1 3),some (.int .i8 x.src),some (pt g3 3),none] mo f8.d f8.z f8.b (by kernel_rfl) ⟨b_g1_13,b_g3_14,trivial⟩ (
   hk (fun cx=>cx.q (ex_fa rfl (cx.rq 1 s1_15) (faEnC24_3_0 _ _))) <|
   hk (fun cx=>cx.q (ex_ld rfl (cx.u 0 rfl) (cx.rn 0 rfl) rfl Tryd.isAgg22)) <|
   hk (fun cx=>cx.q (ex_fa rfl (cx.rq 3 s3_16) (faEnC24_3_0 _ _))) <|
   hk (fun cx=>cx.stC (wn rfl) rfl rfl 1 rfl (cx.u 0 rfl) (cx.u 1 rfl) rfl rfl (by kernel_rfl) rfl rfl (Nat.le_trans f1.b.size q_g3) rfl ⟨(ne_row b_g1 q_g3),trivial⟩ trivial) <|
   hn) ?_
  intro a9 w9 f9
  refine wp_seq ?_
  refine wp_seq ?_
  have s4_17:=f9.q 4 (f8.q 4 s4_12)
  refine go_reg [] [] [some (.int .i64 1),oF,oF,some (.int .i64 1),oF,oF,oF,some (.int .i64 1),oF,oF,oF,some (.int .i64 1),oF,oF] mo f9.d f9.z f9.b (by kernel_rfl) trivial (
   hk (fun cx=>cx.q (ex_mv rfl (cx.rq 4 s4_17))) <|
   hk (fun cx=>cx.v (ex_eq (x:=.tmp 34) rfl (cx.u 0 rfl) rfl) rfl (congrArg Value.bool (by decide))) <|
   kmu 0 <|
   hk (fun cx=>cx.vy 0 (ex_mv rfl (cx.rq 4 s4_17))) <|
   hk (fun cx=>cx.vy 1 (ex_eq (x:=.tmp 37) rfl (cx.u 0 rfl) rfl) (congrArg Value.bool (by decide))) <|
   hk (fun cx=>cx.q (ex_pf rfl (cx.u 0 rfl) (cx.u 1 rfl))) <|
   kmu 0 <|
   hk (fun cx=>cx.vy 0 (ex_mv rfl (cx.rq 4 s4_17))) <|
   hk (fun cx=>cx.vy 1 (ex_eq (x:=.tmp 41) rfl (cx.u 0 rfl) rfl) (congrArg Value.bool (by decide))) <|
   hk (fun cx=>cx.q (ex_pf rfl (cx.u 0 rfl) (cx.u 1 rfl))) <|
   kmu 0 <|
   hk (fun cx=>cx.vy 0 (ex_mv rfl (cx.rq 4 s4_17))) <|
   hk (fun cx=>cx.vy 1 (ex_eq (x:=.tmp 45) rfl (cx.u 0 rfl) rfl) (congrArg Value.bool (by decide))) <|
   hk (fun cx=>cx.q (ex_pf rfl (cx.u 0 rfl) (cx.u 1 rfl))) <|
   hn) ?_
  intro a10 w10 f10
  refine wp_cond_false (f10.v 13 rfl rfl rfl) ?_
  refine wp_skip ?_
  refine wp_seq ?_
  refine wp_seq ?_
  have s4_18:=f10.q 4 s4_17
  refine go_reg [] [] [some (.int .i64 1),oF,oF,some (.int .i64 1),oF,oF] mo f10.d f10.z f10.b (by kernel_rfl) trivial (
   hk (fun cx=>cx.q (ex_mv rfl (cx.rq 4 s4_18))) <|
   hk (fun cx=>cx.v (ex_eq (x:=.tmp 51) rfl (cx.u 0 rfl) rfl) rfl (congrArg Value.bool (by decide))) <|
   kmu 0 <|
   hk (fun cx=>cx.vy 0 (ex_mv rfl (cx.rq 4 s4_18))) <|
   hk (fun cx=>cx.vy 1 (ex_eq (x:=.tmp 54) rfl (cx.u 0 rfl) rfl) (congrArg Value.bool (by decide))) <|
   hk (fun cx=>cx.q (ex_pf rfl (cx.u 0 rfl) (cx.u 1 rfl))) <|
   hn) ?_
  intro a11 w11 f11
  refine wp_cond_false (f11.v 5 rfl rfl rfl) ?_
  refine wp_skip ?_
  refine wp_seq ?_
  refine wp_seq ?_
  have s4_19:=f11.q 4 s4_18
  refine go_reg [] [] [some (.int .i64 1),oF,oF,some (.int .i64 1),oF,oF] mo f11.d f11.z f11.b (by kernel_rfl) trivial (
   hk (fun cx=>cx.q (ex_mv rfl (cx.rq 4 s4_19))) <|
   hk (fun cx=>cx.v (ex_eq (x:=.tmp 60) rfl (cx.u 0 rfl) rfl) rfl (congrArg Value.bool (by decide))) <|
   kmu 0 <|
   hk (fun cx=>cx.vy 0 (ex_mv rfl (cx.rq 4 s4_19))) <|
   hk (fun cx=>cx.vy 1 (ex_eq (x:=.tmp 63) rfl (cx.u 0 rfl) rfl) (congrArg Value.bool (by decide))) <|
   hk (fun cx=>cx.q (ex_pf rfl (cx.u 0 rfl) (cx.u 1 rfl))) <|
   hn) ?_
  intro a12 w12 f12
  refine wp_cond_false (f12.v 5 rfl rfl rfl) ?_
  refine wp_skip ?_
  refine wp_seq ?_
  have b_g3_20:=f12.k (f11.k (f10.k f9.rows.2.1))
  have b_g2_21:=f12.k (f11.k (f10.k (f9.kp (f8.k (f7.kp (f6.k (f5.kp (f4.k (f3.k (f2.k b_g2))) ⟨.inl rfl,.inr (ne_row b_g2 q_g3),trivial⟩)) ⟨.inl rfl,.inr (ne_row b_g2 q_g3),trivial⟩)) ⟨.inl rfl,.inr (ne_row b_g2 q_g3),trivial⟩)))
  have s3_22:=f12.q 3 (f11.q 3 (f10.q 3 (f9.q 3 s3_16)))
  have s2_23:=f12.q 2 (f11.q 2 (f10.q 2 (f9.q 2 (f8.q 2 (f7.q 2 (f6.q 2 (f5.q 2 (f4.q 2 (f3.q 2 (f2.q 2 u_g2))))))))))
  refine go_reg [bx g3 24 (xC ⟨x.op,x.w,x.dst,x.src,0,0,0,0⟩),⟨g2,24,(xC zX),some 1,(xC ⟨x.op,x.w,x.dst,x.src,0,0,0,0⟩)⟩] [] [some (.agg (xC ⟨x.op,x.w,x.dst,x.src,0,0,0,0⟩)),none] mo f12.d f12.z f12.b (by kernel_rfl) ⟨b_g3_20,b_g2_21,trivial⟩ (
   hk (fun cx=>cx.q (ldX rfl (cx.rq 3 s3_22) (cx.rn 0 rfl))) <|
   hk (fun cx=>cx.stR (wn rfl) rfl rfl 1 rfl (cx.rq 2 s2_23) (cx.u 0 rfl) (by kernel_rfl) (Eq.refl 8) (by simp [Value.oneCell']) q_g2 rfl ⟨(ne_row b_g2 q_g3).symm,trivial⟩ trivial) <|
   hn) ?_
  intro a13 w13 f13
  refine wp_ret ?_
  have s2_24:=f13.q 2 s2_23
  try simp only [Exit.inBlock,Exit.then]
  refine bodyPost_ret (res_c (fn:=Tryd.f35) rfl s2_24 (load_row 24 f13.rows.2.1 Tryd.underlying24 rfl (by kernel_rfl))) f13.d ?_
  exact ⟨rfl,f13.b⟩
theorem fld_2 (x:Xi):fldX 2 x=⟨x.op,x.w,x.dst,0,0,0,x.imm,0⟩:=by unfold fldX;simp
set_option maxHeartbeats 4000000 in
theorem efld2 (x:Xi) (W:World) (eK:clsI x.op=2):Calls Tryd.prog 35 #[.agg (xC x)] W fun e w'=>e=.returned (.agg (xC ⟨x.op,x.w,x.dst,0,0,0,x.imm,0⟩)) ∧ Below W.heap.size W w':=by
  refine calls_abs Tryd.func35 rfl (Nat.le_of_ble_eq_true rfl) ?_
  intro a0 d0 z0 h0
  replace z0:a0.tmps.size=73:=z0
  have s0_0:a0.tmps.getD 0 undef=.agg (xC x):=h0 0 (Nat.le_of_ble_eq_true rfl)
  refine wp_seq ?_
  refine go_reg [] [⟨0,1,24,(xC x),none,#[]⟩,⟨1,2,24,(xC zX),none,#[]⟩] [none,none] mo d0 z0 (Below.refl _ _) (by kernel_rfl) trivial (
   hk (fun cx=>cx.al (wn rfl) 0 rfl (ex_box rfl (cx.rq 0 s0_0) rfl) rfl rfl rfl rfl rfl trivial) <|
   hk (fun cx=>cx.al (wn rfl) 1 rfl (al_x rfl) rfl rfl rfl rfl rfl trivial) <|
   hn) ?_
  intro a1 w1 f1
  obtain ⟨g1,u_g1,q_g1,b_g1⟩:=f1.al.1
  obtain ⟨g2,u_g2,q_g2,b_g2⟩:=f1.al.2.1
  refine wp_seq ?_
  refine go_reg [bx g1 24 (xC x)] [⟨3,3,24,(xC zX),some 4,(xC ⟨x.op,0,0,0,0,0,0,0⟩)⟩] [some (pt g1 0),some (.int .i8 x.op),some (.agg (xC ⟨x.op,0,0,0,0,0,0,0⟩)),none,none] mo f1.d f1.z f1.b (by kernel_rfl) ⟨b_g1,trivial⟩ (
   hk (fun cx=>cx.q (ex_fa rfl (cx.rq 1 u_g1) (faEnC24_0_0 _ _))) <|
   hk (fun cx=>cx.q (ex_ld rfl (cx.u 0 rfl) (cx.rn 0 rfl) rfl Tryd.isAgg22)) <|
   hk (fun cx=>cx.q (exec_build rfl (parts1 (cx.u 0 rfl)) (by kernel_rfl))) <|
   hk (fun cx=>cx.al (wn rfl) 0 rfl (al_x rfl) rfl rfl rfl rfl (by kernel_rfl) trivial) <|
   hk (fun cx=>cx.stA (wn rfl) rfl rfl 0 0 rfl rfl rfl rfl (cx.u 1 rfl) (by kernel_rfl) (Eq.refl 8) (by simp [Value.oneCell']) f1.b.size rfl rfl trivial) <|
   hn) ?_
  intro a2 w2 f2
  obtain ⟨g3,u_g3,q_g3,b_g3⟩:=f2.al.1
  refine wp_seq ?_
  have b_g1_1:=f2.k b_g1
  have s1_2:=f2.q 1 u_g1
  refine go_reg [bx g1 24 (xC x)] [] [some (pt g1 0),some (.int .i8 x.op),some (.int .i64 2),some (.int .i64 2)] mo f2.d f2.z f2.b (by kernel_rfl) ⟨b_g1_1,trivial⟩ (
   hk (fun cx=>cx.q (ex_fa rfl (cx.rq 1 s1_2) (faEnC24_0_0 _ _))) <|
   hk (fun cx=>cx.q (ex_ld rfl (cx.u 0 rfl) (cx.rn 0 rfl) rfl Tryd.isAgg22)) <|
   hc (fun _ _ wx cx=>cx.c rfl (args1 (cx.u 0 rfl)) Tryd.func27 (by decide +kernel) (((cls_n x.op wx).mono (by rintro e w' ⟨rfl,rfl⟩;exact ⟨rfl,Below.refl _ _⟩))) rfl (congrArg (Value.int .i64) eK)) <|
   kmu 0 <|
   hn) ?_
  intro a3 w3 f3
  refine wp_seq ?_
  refine wp_seq ?_
  refine go_reg [] [] [some (.int .i64 2),oT] mo f3.d f3.z f3.b (by kernel_rfl) trivial (
   hk (fun cx=>cx.q (ex_mv rfl (cx.rq 4 (f3.v 3 rfl rfl rfl)))) <|
   hk (fun cx=>cx.v (ex_lt (x:=.tmp 11) rfl (cx.u 0 rfl) rfl) rfl (congrArg Value.bool (by decide))) <|
   hn) ?_
  intro a4 w4 f4
  refine wp_cond_true (f4.v 1 rfl rfl rfl) ?_
  have b_g1_3:=f4.k (f3.k b_g1_1)
  have b_g3_4:=f4.k (f3.k b_g3)
  have s1_5:=f4.q 1 (f3.q 1 s1_2)
  have s3_6:=f4.q 3 (f3.q 3 u_g3)
  refine go_reg [bx g1 24 (xC x),⟨g3,24,(xC ⟨x.op,0,0,0,0,0,0,0⟩),some 3,(xC ⟨x.op,x.w,0,0,0,0,0,0⟩)⟩] [] [some (pt g1 1),some (.int .i8 x.w),some (pt g3 1),none] mo f4.d f4.z f4.b (by kernel_rfl) ⟨b_g1_3,b_g3_4,trivial⟩ (
   hk (fun cx=>cx.q (ex_fa rfl (cx.rq 1 s1_5) (faEnC24_1_0 _ _))) <|
   hk (fun cx=>cx.q (ex_ld rfl (cx.u 0 rfl) (cx.rn 0 rfl) rfl Tryd.isAgg22)) <|
   hk (fun cx=>cx.q (ex_fa rfl (cx.rq 3 s3_6) (faEnC24_1_0 _ _))) <|
   hk (fun cx=>cx.stC (wn rfl) rfl rfl 1 rfl (cx.u 0 rfl) (cx.u 1 rfl) rfl rfl (by kernel_rfl) rfl rfl (Nat.le_trans f1.b.size q_g3) rfl ⟨(ne_row b_g1 q_g3),trivial⟩ trivial) <|
   hn) ?_
  intro a5 w5 f5
  refine wp_seq ?_
  refine wp_seq ?_
  have s4_7:=f5.q 4 (f4.q 4 (f3.v 3 rfl rfl rfl))
  refine go_reg [] [] [some (.int .i64 2),oT] mo f5.d f5.z f5.b (by kernel_rfl) trivial (
   hk (fun cx=>cx.q (ex_mv rfl (cx.rq 4 s4_7))) <|
   hk (fun cx=>cx.v (ex_le (x:=.tmp 16) rfl (cx.u 0 rfl) rfl) rfl (congrArg Value.bool (by decide))) <|
   hn) ?_
  intro a6 w6 f6
  refine wp_cond_true (f6.v 1 rfl rfl rfl) ?_
  have b_g1_8:=f6.k (f5.kp b_g1_3 ⟨.inl rfl,.inr (ne_row b_g1 q_g3),trivial⟩)
  have b_g3_9:=f6.k f5.rows.2.1
  have s1_10:=f6.q 1 (f5.q 1 s1_5)
  have s3_11:=f6.q 3 (f5.q 3 s3_6)
  refine go_reg [bx g1 24 (xC x),⟨g3,24,(xC ⟨x.op,x.w,0,0,0,0,0,0⟩),some 3,(xC ⟨x.op,x.w,x.dst,0,0,0,0,0⟩)⟩] [] [some (pt g1 2),some (.int .i8 x.dst),some (pt g3 2),none] mo f6.d f6.z f6.b (by kernel_rfl) ⟨b_g1_8,b_g3_9,trivial⟩ (
   hk (fun cx=>cx.q (ex_fa rfl (cx.rq 1 s1_10) (faEnC24_2_0 _ _))) <|
   hk (fun cx=>cx.q (ex_ld rfl (cx.u 0 rfl) (cx.rn 0 rfl) rfl Tryd.isAgg22)) <|
   hk (fun cx=>cx.q (ex_fa rfl (cx.rq 3 s3_11) (faEnC24_2_0 _ _))) <|
   hk (fun cx=>cx.stC (wn rfl) rfl rfl 1 rfl (cx.u 0 rfl) (cx.u 1 rfl) rfl rfl (by kernel_rfl) rfl rfl (Nat.le_trans f1.b.size q_g3) rfl ⟨(ne_row b_g1 q_g3),trivial⟩ trivial) <|
   hn) ?_
  intro a7 w7 f7
  refine wp_seq ?_
  refine wp_seq ?_
  have s4_12:=f7.q 4 (f6.q 4 s4_7)
  refine go_reg [] [] [some (.int .i64 2),oF,oF,some (.int .i64 2),oF,oF,oF,some (.int .i64 2),oF,oF] mo f7.d f7.z f7.b (by kernel_rfl) trivial (
   hk (fun cx=>cx.q (ex_mv rfl (cx.rq 4 s4_12))) <|
   hk (fun cx=>cx.v (ex_eq (x:=.tmp 21) rfl (cx.u 0 rfl) rfl) rfl (congrArg Value.bool (by decide))) <|
   kmu 0 <|
   hk (fun cx=>cx.vy 0 (ex_mv rfl (cx.rq 4 s4_12))) <|
   hk (fun cx=>cx.vy 1 (ex_eq (x:=.tmp 24) rfl (cx.u 0 rfl) rfl) (congrArg Value.bool (by decide))) <|
   hk (fun cx=>cx.q (ex_pf rfl (cx.u 0 rfl) (cx.u 1 rfl))) <|
   kmu 0 <|
   hk (fun cx=>cx.vy 0 (ex_mv rfl (cx.rq 4 s4_12))) <|
   hk (fun cx=>cx.vy 1 (ex_eq (x:=.tmp 28) rfl (cx.u 0 rfl) rfl) (congrArg Value.bool (by decide))) <|
   hk (fun cx=>cx.q (ex_pf rfl (cx.u 0 rfl) (cx.u 1 rfl))) <|
   hn) ?_
  intro a8 w8 f8
  refine wp_cond_false (f8.v 9 rfl rfl rfl) ?_
  refine wp_skip ?_
  refine wp_seq ?_
  refine wp_seq ?_
  have s4_13:=f8.q 4 s4_12
  refine go_reg [] [] [some (.int .i64 2),oT,oT,oU,oU,oT,oT,oU,oU,oT,oT,oU,oU,oT] mo f8.d f8.z f8.b (by kernel_rfl) trivial (
   hk (fun cx=>cx.q (ex_mv rfl (cx.rq 4 s4_13))) <|
   hk (fun cx=>cx.v (ex_eq (x:=.tmp 34) rfl (cx.u 0 rfl) rfl) rfl (congrArg Value.bool (by decide))) <|
   kmu 0 <|
   kno 0 <|
   kno 1 <|
   hk (fun cx=>cx.q (ex_pt rfl (cx.u 0 rfl) rfl)) <|
   kmu 0 <|
   kno 0 <|
   kno 1 <|
   hk (fun cx=>cx.q (ex_pt rfl (cx.u 0 rfl) rfl)) <|
   kmu 0 <|
   kno 0 <|
   kno 1 <|
   hk (fun cx=>cx.q (ex_pt rfl (cx.u 0 rfl) rfl)) <|
   hn) ?_
  intro a9 w9 f9
  refine wp_cond_true (f9.v 13 rfl rfl rfl) ?_
  have b_g1_14:=f9.k (f8.k (f7.kp b_g1_8 ⟨.inl rfl,.inr (ne_row b_g1 q_g3),trivial⟩))
  have b_g3_15:=f9.k (f8.k f7.rows.2.1)
  have s1_16:=f9.q 1 (f8.q 1 (f7.q 1 s1_10))
  have s3_17:=f9.q 3 (f8.q 3 (f7.q 3 s3_11))
  refine go_reg [bx g1 24 (xC x),⟨g3,24,(xC ⟨x.op,x.w,x.dst,0,0,0,0,0⟩),some 3,(xC ⟨x.op,x.w,x.dst,0,0,0,x.imm,0⟩)⟩] [] [some (pt g1 6),some (.int .i64 x.imm),some (pt g3 6),none] mo f9.d f9.z f9.b (by kernel_rfl) ⟨b_g1_14,b_g3_15,trivial⟩ (
   hk (fun cx=>cx.q (ex_fa rfl (cx.rq 1 s1_16) (faEnC24_6_0 _ _))) <|
   hk (fun cx=>cx.q (ex_ld rfl (cx.u 0 rfl) (cx.rn 0 rfl) rfl Tryd.isAgg3)) <|
   hk (fun cx=>cx.q (ex_fa rfl (cx.rq 3 s3_17) (faEnC24_6_0 _ _))) <|
   hk (fun cx=>cx.stC (wn rfl) rfl rfl 1 rfl (cx.u 0 rfl) (cx.u 1 rfl) rfl rfl (by kernel_rfl) rfl rfl (Nat.le_trans f1.b.size q_g3) rfl ⟨(ne_row b_g1 q_g3),trivial⟩ trivial) <|
   hn) ?_
  intro a10 w10 f10
  refine wp_seq ?_
  refine wp_seq ?_
  have s4_18:=f10.q 4 (f9.q 4 s4_13)
  refine go_reg [] [] [some (.int .i64 2),oF,oF,some (.int .i64 2),oF,oF] mo f10.d f10.z f10.b (by kernel_rfl) trivial (
   hk (fun cx=>cx.q (ex_mv rfl (cx.rq 4 s4_18))) <|
   hk (fun cx=>cx.v (ex_eq (x:=.tmp 51) rfl (cx.u 0 rfl) rfl) rfl (congrArg Value.bool (by decide))) <|
   kmu 0 <|
   hk (fun cx=>cx.vy 0 (ex_mv rfl (cx.rq 4 s4_18))) <|
   hk (fun cx=>cx.vy 1 (ex_eq (x:=.tmp 54) rfl (cx.u 0 rfl) rfl) (congrArg Value.bool (by decide))) <|
   hk (fun cx=>cx.q (ex_pf rfl (cx.u 0 rfl) (cx.u 1 rfl))) <|
   hn) ?_
  intro a11 w11 f11
  refine wp_cond_false (f11.v 5 rfl rfl rfl) ?_
  refine wp_skip ?_
  refine wp_seq ?_
  refine wp_seq ?_
  have s4_19:=f11.q 4 s4_18
  refine go_reg [] [] [some (.int .i64 2),oF,oF,some (.int .i64 2),oF,oF] mo f11.d f11.z f11.b (by kernel_rfl) trivial (
   hk (fun cx=>cx.q (ex_mv rfl (cx.rq 4 s4_19))) <|
   hk (fun cx=>cx.v (ex_eq (x:=.tmp 60) rfl (cx.u 0 rfl) rfl) rfl (congrArg Value.bool (by decide))) <|
   kmu 0 <|
   hk (fun cx=>cx.vy 0 (ex_mv rfl (cx.rq 4 s4_19))) <|
   hk (fun cx=>cx.vy 1 (ex_eq (x:=.tmp 63) rfl (cx.u 0 rfl) rfl) (congrArg Value.bool (by decide))) <|
   hk (fun cx=>cx.q (ex_pf rfl (cx.u 0 rfl) (cx.u 1 rfl))) <|
   hn) ?_
  intro a12 w12 f12
  refine wp_cond_false (f12.v 5 rfl rfl rfl) ?_
  refine wp_skip ?_
  refine wp_seq ?_
  have b_g3_20:=f12.k (f11.k f10.rows.2.1)
  have b_g2_21:=f12.k (f11.k (f10.kp (f9.k (f8.k (f7.kp (f6.k (f5.kp (f4.k (f3.k (f2.k b_g2))) ⟨.inl rfl,.inr (ne_row b_g2 q_g3),trivial⟩)) ⟨.inl rfl,.inr (ne_row b_g2 q_g3),trivial⟩))) ⟨.inl rfl,.inr (ne_row b_g2 q_g3),trivial⟩))
  have s3_22:=f12.q 3 (f11.q 3 (f10.q 3 s3_17))
  have s2_23:=f12.q 2 (f11.q 2 (f10.q 2 (f9.q 2 (f8.q 2 (f7.q 2 (f6.q 2 (f5.q 2 (f4.q 2 (f3.q 2 (f2.q 2 u_g2))))))))))
  refine go_reg [bx g3 24 (xC ⟨x.op,x.w,x.dst,0,0,0,x.imm,0⟩),⟨g2,24,(xC zX),some 1,(xC ⟨x.op,x.w,x.dst,0,0,0,x.imm,0⟩)⟩] [] [some (.agg (xC ⟨x.op,x.w,x.dst,0,0,0,x.imm,0⟩)),none] mo f12.d f12.z f12.b (by kernel_rfl) ⟨b_g3_20,b_g2_21,trivial⟩ (
   hk (fun cx=>cx.q (ldX rfl (cx.rq 3 s3_22) (cx.rn 0 rfl))) <|
   hk (fun cx=>cx.stR (wn rfl) rfl rfl 1 rfl (cx.rq 2 s2_23) (cx.u 0 rfl) (by kernel_rfl) (Eq.refl 8) (by simp [Value.oneCell']) q_g2 rfl ⟨(ne_row b_g2 q_g3).symm,trivial⟩ trivial) <|
   hn) ?_
  intro a13 w13 f13
  refine wp_ret ?_
  have s2_24:=f13.q 2 s2_23
  try simp only [Exit.inBlock,Exit.then]
  refine bodyPost_ret (res_c (fn:=Tryd.f35) rfl s2_24 (load_row 24 f13.rows.2.1 Tryd.underlying24 rfl (by kernel_rfl))) f13.d ?_
  exact ⟨rfl,f13.b⟩
theorem fld_3 (x:Xi):fldX 3 x=⟨x.op,x.w,x.dst,0,0,0,x.imm,0⟩:=by unfold fldX;simp
set_option maxHeartbeats 4000000 in
theorem efld3 (x:Xi) (W:World) (eK:clsI x.op=3):Calls Tryd.prog 35 #[.agg (xC x)] W fun e w'=>e=.returned (.agg (xC ⟨x.op,x.w,x.dst,0,0,0,x.imm,0⟩)) ∧ Below W.heap.size W w':=by
  refine calls_abs Tryd.func35 rfl (Nat.le_of_ble_eq_true rfl) ?_
  intro a0 d0 z0 h0
  replace z0:a0.tmps.size=73:=z0
  have s0_0:a0.tmps.getD 0 undef=.agg (xC x):=h0 0 (Nat.le_of_ble_eq_true rfl)
  refine wp_seq ?_
  refine go_reg [] [⟨0,1,24,(xC x),none,#[]⟩,⟨1,2,24,(xC zX),none,#[]⟩] [none,none] mo d0 z0 (Below.refl _ _) (by kernel_rfl) trivial (
   hk (fun cx=>cx.al (wn rfl) 0 rfl (ex_box rfl (cx.rq 0 s0_0) rfl) rfl rfl rfl rfl rfl trivial) <|
   hk (fun cx=>cx.al (wn rfl) 1 rfl (al_x rfl) rfl rfl rfl rfl rfl trivial) <|
   hn) ?_
  intro a1 w1 f1
  obtain ⟨g1,u_g1,q_g1,b_g1⟩:=f1.al.1
  obtain ⟨g2,u_g2,q_g2,b_g2⟩:=f1.al.2.1
  refine wp_seq ?_
  refine go_reg [bx g1 24 (xC x)] [⟨3,3,24,(xC zX),some 4,(xC ⟨x.op,0,0,0,0,0,0,0⟩)⟩] [some (pt g1 0),some (.int .i8 x.op),some (.agg (xC ⟨x.op,0,0,0,0,0,0,0⟩)),none,none] mo f1.d f1.z f1.b (by kernel_rfl) ⟨b_g1,trivial⟩ (
   hk (fun cx=>cx.q (ex_fa rfl (cx.rq 1 u_g1) (faEnC24_0_0 _ _))) <|
   hk (fun cx=>cx.q (ex_ld rfl (cx.u 0 rfl) (cx.rn 0 rfl) rfl Tryd.isAgg22)) <|
   hk (fun cx=>cx.q (exec_build rfl (parts1 (cx.u 0 rfl)) (by kernel_rfl))) <|
   hk (fun cx=>cx.al (wn rfl) 0 rfl (al_x rfl) rfl rfl rfl rfl (by kernel_rfl) trivial) <|
   hk (fun cx=>cx.stA (wn rfl) rfl rfl 0 0 rfl rfl rfl rfl (cx.u 1 rfl) (by kernel_rfl) (Eq.refl 8) (by simp [Value.oneCell']) f1.b.size rfl rfl trivial) <|
   hn) ?_
  intro a2 w2 f2
  obtain ⟨g3,u_g3,q_g3,b_g3⟩:=f2.al.1
  refine wp_seq ?_
  have b_g1_1:=f2.k b_g1
  have s1_2:=f2.q 1 u_g1
  refine go_reg [bx g1 24 (xC x)] [] [some (pt g1 0),some (.int .i8 x.op),some (.int .i64 3),some (.int .i64 3)] mo f2.d f2.z f2.b (by kernel_rfl) ⟨b_g1_1,trivial⟩ (
   hk (fun cx=>cx.q (ex_fa rfl (cx.rq 1 s1_2) (faEnC24_0_0 _ _))) <|
   hk (fun cx=>cx.q (ex_ld rfl (cx.u 0 rfl) (cx.rn 0 rfl) rfl Tryd.isAgg22)) <|
   hc (fun _ _ wx cx=>cx.c rfl (args1 (cx.u 0 rfl)) Tryd.func27 (by decide +kernel) (((cls_n x.op wx).mono (by rintro e w' ⟨rfl,rfl⟩;exact ⟨rfl,Below.refl _ _⟩))) rfl (congrArg (Value.int .i64) eK)) <|
   kmu 0 <|
   hn) ?_
  intro a3 w3 f3
  refine wp_seq ?_
  refine wp_seq ?_
  refine go_reg [] [] [some (.int .i64 3),oT] mo f3.d f3.z f3.b (by kernel_rfl) trivial (
   hk (fun cx=>cx.q (ex_mv rfl (cx.rq 4 (f3.v 3 rfl rfl rfl)))) <|
   hk (fun cx=>cx.v (ex_lt (x:=.tmp 11) rfl (cx.u 0 rfl) rfl) rfl (congrArg Value.bool (by decide))) <|
   hn) ?_
  intro a4 w4 f4
  refine wp_cond_true (f4.v 1 rfl rfl rfl) ?_
  have b_g1_3:=f4.k (f3.k b_g1_1)
  have b_g3_4:=f4.k (f3.k b_g3)
  have s1_5:=f4.q 1 (f3.q 1 s1_2)
  have s3_6:=f4.q 3 (f3.q 3 u_g3)
  refine go_reg [bx g1 24 (xC x),⟨g3,24,(xC ⟨x.op,0,0,0,0,0,0,0⟩),some 3,(xC ⟨x.op,x.w,0,0,0,0,0,0⟩)⟩] [] [some (pt g1 1),some (.int .i8 x.w),some (pt g3 1),none] mo f4.d f4.z f4.b (by kernel_rfl) ⟨b_g1_3,b_g3_4,trivial⟩ (
   hk (fun cx=>cx.q (ex_fa rfl (cx.rq 1 s1_5) (faEnC24_1_0 _ _))) <|
   hk (fun cx=>cx.q (ex_ld rfl (cx.u 0 rfl) (cx.rn 0 rfl) rfl Tryd.isAgg22)) <|
   hk (fun cx=>cx.q (ex_fa rfl (cx.rq 3 s3_6) (faEnC24_1_0 _ _))) <|
   hk (fun cx=>cx.stC (wn rfl) rfl rfl 1 rfl (cx.u 0 rfl) (cx.u 1 rfl) rfl rfl (by kernel_rfl) rfl rfl (Nat.le_trans f1.b.size q_g3) rfl ⟨(ne_row b_g1 q_g3),trivial⟩ trivial) <|
   hn) ?_
  intro a5 w5 f5
  refine wp_seq ?_
  refine wp_seq ?_
  have s4_7:=f5.q 4 (f4.q 4 (f3.v 3 rfl rfl rfl))
  refine go_reg [] [] [some (.int .i64 3),oT] mo f5.d f5.z f5.b (by kernel_rfl) trivial (
   hk (fun cx=>cx.q (ex_mv rfl (cx.rq 4 s4_7))) <|
   hk (fun cx=>cx.v (ex_le (x:=.tmp 16) rfl (cx.u 0 rfl) rfl) rfl (congrArg Value.bool (by decide))) <|
   hn) ?_
  intro a6 w6 f6
  refine wp_cond_true (f6.v 1 rfl rfl rfl) ?_
  have b_g1_8:=f6.k (f5.kp b_g1_3 ⟨.inl rfl,.inr (ne_row b_g1 q_g3),trivial⟩)
  have b_g3_9:=f6.k f5.rows.2.1
  have s1_10:=f6.q 1 (f5.q 1 s1_5)
  have s3_11:=f6.q 3 (f5.q 3 s3_6)
  refine go_reg [bx g1 24 (xC x),⟨g3,24,(xC ⟨x.op,x.w,0,0,0,0,0,0⟩),some 3,(xC ⟨x.op,x.w,x.dst,0,0,0,0,0⟩)⟩] [] [some (pt g1 2),some (.int .i8 x.dst),some (pt g3 2),none] mo f6.d f6.z f6.b (by kernel_rfl) ⟨b_g1_8,b_g3_9,trivial⟩ (
   hk (fun cx=>cx.q (ex_fa rfl (cx.rq 1 s1_10) (faEnC24_2_0 _ _))) <|
   hk (fun cx=>cx.q (ex_ld rfl (cx.u 0 rfl) (cx.rn 0 rfl) rfl Tryd.isAgg22)) <|
   hk (fun cx=>cx.q (ex_fa rfl (cx.rq 3 s3_11) (faEnC24_2_0 _ _))) <|
   hk (fun cx=>cx.stC (wn rfl) rfl rfl 1 rfl (cx.u 0 rfl) (cx.u 1 rfl) rfl rfl (by kernel_rfl) rfl rfl (Nat.le_trans f1.b.size q_g3) rfl ⟨(ne_row b_g1 q_g3),trivial⟩ trivial) <|
   hn) ?_
  intro a7 w7 f7
  refine wp_seq ?_
  refine wp_seq ?_
  have s4_12:=f7.q 4 (f6.q 4 s4_7)
  refine go_reg [] [] [some (.int .i64 3),oF,oF,some (.int .i64 3),oF,oF,oF,some (.int .i64 3),oF,oF] mo f7.d f7.z f7.b (by kernel_rfl) trivial (
   hk (fun cx=>cx.q (ex_mv rfl (cx.rq 4 s4_12))) <|
   hk (fun cx=>cx.v (ex_eq (x:=.tmp 21) rfl (cx.u 0 rfl) rfl) rfl (congrArg Value.bool (by decide))) <|
   kmu 0 <|
   hk (fun cx=>cx.vy 0 (ex_mv rfl (cx.rq 4 s4_12))) <|
   hk (fun cx=>cx.vy 1 (ex_eq (x:=.tmp 24) rfl (cx.u 0 rfl) rfl) (congrArg Value.bool (by decide))) <|
   hk (fun cx=>cx.q (ex_pf rfl (cx.u 0 rfl) (cx.u 1 rfl))) <|
   kmu 0 <|
   hk (fun cx=>cx.vy 0 (ex_mv rfl (cx.rq 4 s4_12))) <|
   hk (fun cx=>cx.vy 1 (ex_eq (x:=.tmp 28) rfl (cx.u 0 rfl) rfl) (congrArg Value.bool (by decide))) <|
   hk (fun cx=>cx.q (ex_pf rfl (cx.u 0 rfl) (cx.u 1 rfl))) <|
   hn) ?_
  intro a8 w8 f8
  refine wp_cond_false (f8.v 9 rfl rfl rfl) ?_
  refine wp_skip ?_
  refine wp_seq ?_
  refine wp_seq ?_
  have s4_13:=f8.q 4 s4_12
  refine go_reg [] [] [some (.int .i64 3),oF,oF,some (.int .i64 3),oT,oT,oT,oU,oU,oT,oT,oU,oU,oT] mo f8.d f8.z f8.b (by kernel_rfl) trivial (
   hk (fun cx=>cx.q (ex_mv rfl (cx.rq 4 s4_13))) <|
   hk (fun cx=>cx.v (ex_eq (x:=.tmp 34) rfl (cx.u 0 rfl) rfl) rfl (congrArg Value.bool (by decide))) <|
   kmu 0 <|
   hk (fun cx=>cx.vy 0 (ex_mv rfl (cx.rq 4 s4_13))) <|
   hk (fun cx=>cx.vy 1 (ex_eq (x:=.tmp 37) rfl (cx.u 0 rfl) rfl) (congrArg Value.bool (by decide))) <|
   hk (fun cx=>cx.q (ex_pf rfl (cx.u 0 rfl) (cx.u 1 rfl))) <|
   kmu 0 <|
   kno 0 <|
   kno 1 <|
   hk (fun cx=>cx.q (ex_pt rfl (cx.u 0 rfl) rfl)) <|
   kmu 0 <|
   kno 0 <|
   kno 1 <|
   hk (fun cx=>cx.q (ex_pt rfl (cx.u 0 rfl) rfl)) <|
   hn) ?_
  intro a9 w9 f9
  refine wp_cond_true (f9.v 13 rfl rfl rfl) ?_
  have b_g1_14:=f9.k (f8.k (f7.kp b_g1_8 ⟨.inl rfl,.inr (ne_row b_g1 q_g3),trivial⟩))
  have b_g3_15:=f9.k (f8.k f7.rows.2.1)
  have s1_16:=f9.q 1 (f8.q 1 (f7.q 1 s1_10))
  have s3_17:=f9.q 3 (f8.q 3 (f7.q 3 s3_11))
  refine go_reg [bx g1 24 (xC x),⟨g3,24,(xC ⟨x.op,x.w,x.dst,0,0,0,0,0⟩),some 3,(xC ⟨x.op,x.w,x.dst,0,0,0,x.imm,0⟩)⟩] [] [some (pt g1 6),some (.int .i64 x.imm),some (pt g3 6),none] mo f9.d f9.z f9.b (by kernel_rfl) ⟨b_g1_14,b_g3_15,trivial⟩ (
   hk (fun cx=>cx.q (ex_fa rfl (cx.rq 1 s1_16) (faEnC24_6_0 _ _))) <|
   hk (fun cx=>cx.q (ex_ld rfl (cx.u 0 rfl) (cx.rn 0 rfl) rfl Tryd.isAgg3)) <|
   hk (fun cx=>cx.q (ex_fa rfl (cx.rq 3 s3_17) (faEnC24_6_0 _ _))) <|
   hk (fun cx=>cx.stC (wn rfl) rfl rfl 1 rfl (cx.u 0 rfl) (cx.u 1 rfl) rfl rfl (by kernel_rfl) rfl rfl (Nat.le_trans f1.b.size q_g3) rfl ⟨(ne_row b_g1 q_g3),trivial⟩ trivial) <|
   hn) ?_
  intro a10 w10 f10
  refine wp_seq ?_
  refine wp_seq ?_
  have s4_18:=f10.q 4 (f9.q 4 s4_13)
  refine go_reg [] [] [some (.int .i64 3),oF,oF,some (.int .i64 3),oF,oF] mo f10.d f10.z f10.b (by kernel_rfl) trivial (
   hk (fun cx=>cx.q (ex_mv rfl (cx.rq 4 s4_18))) <|
   hk (fun cx=>cx.v (ex_eq (x:=.tmp 51) rfl (cx.u 0 rfl) rfl) rfl (congrArg Value.bool (by decide))) <|
   kmu 0 <|
   hk (fun cx=>cx.vy 0 (ex_mv rfl (cx.rq 4 s4_18))) <|
   hk (fun cx=>cx.vy 1 (ex_eq (x:=.tmp 54) rfl (cx.u 0 rfl) rfl) (congrArg Value.bool (by decide))) <|
   hk (fun cx=>cx.q (ex_pf rfl (cx.u 0 rfl) (cx.u 1 rfl))) <|
   hn) ?_
  intro a11 w11 f11
  refine wp_cond_false (f11.v 5 rfl rfl rfl) ?_
  refine wp_skip ?_
  refine wp_seq ?_
  refine wp_seq ?_
  have s4_19:=f11.q 4 s4_18
  refine go_reg [] [] [some (.int .i64 3),oF,oF,some (.int .i64 3),oF,oF] mo f11.d f11.z f11.b (by kernel_rfl) trivial (
   hk (fun cx=>cx.q (ex_mv rfl (cx.rq 4 s4_19))) <|
   hk (fun cx=>cx.v (ex_eq (x:=.tmp 60) rfl (cx.u 0 rfl) rfl) rfl (congrArg Value.bool (by decide))) <|
   kmu 0 <|
   hk (fun cx=>cx.vy 0 (ex_mv rfl (cx.rq 4 s4_19))) <|
   hk (fun cx=>cx.vy 1 (ex_eq (x:=.tmp 63) rfl (cx.u 0 rfl) rfl) (congrArg Value.bool (by decide))) <|
   hk (fun cx=>cx.q (ex_pf rfl (cx.u 0 rfl) (cx.u 1 rfl))) <|
   hn) ?_
  intro a12 w12 f12
  refine wp_cond_false (f12.v 5 rfl rfl rfl) ?_
  refine wp_skip ?_
  refine wp_seq ?_
  have b_g3_20:=f12.k (f11.k f10.rows.2.1)
  have b_g2_21:=f12.k (f11.k (f10.kp (f9.k (f8.k (f7.kp (f6.k (f5.kp (f4.k (f3.k (f2.k b_g2))) ⟨.inl rfl,.inr (ne_row b_g2 q_g3),trivial⟩)) ⟨.inl rfl,.inr (ne_row b_g2 q_g3),trivial⟩))) ⟨.inl rfl,.inr (ne_row b_g2 q_g3),trivial⟩))
  have s3_22:=f12.q 3 (f11.q 3 (f10.q 3 s3_17))
  have s2_23:=f12.q 2 (f11.q 2 (f10.q 2 (f9.q 2 (f8.q 2 (f7.q 2 (f6.q 2 (f5.q 2 (f4.q 2 (f3.q 2 (f2.q 2 u_g2))))))))))
  refine go_reg [bx g3 24 (xC ⟨x.op,x.w,x.dst,0,0,0,x.imm,0⟩),⟨g2,24,(xC zX),some 1,(xC ⟨x.op,x.w,x.dst,0,0,0,x.imm,0⟩)⟩] [] [some (.agg (xC ⟨x.op,x.w,x.dst,0,0,0,x.imm,0⟩)),none] mo f12.d f12.z f12.b (by kernel_rfl) ⟨b_g3_20,b_g2_21,trivial⟩ (
   hk (fun cx=>cx.q (ldX rfl (cx.rq 3 s3_22) (cx.rn 0 rfl))) <|
   hk (fun cx=>cx.stR (wn rfl) rfl rfl 1 rfl (cx.rq 2 s2_23) (cx.u 0 rfl) (by kernel_rfl) (Eq.refl 8) (by simp [Value.oneCell']) q_g2 rfl ⟨(ne_row b_g2 q_g3).symm,trivial⟩ trivial) <|
   hn) ?_
  intro a13 w13 f13
  refine wp_ret ?_
  have s2_24:=f13.q 2 s2_23
  try simp only [Exit.inBlock,Exit.then]
  refine bodyPost_ret (res_c (fn:=Tryd.f35) rfl s2_24 (load_row 24 f13.rows.2.1 Tryd.underlying24 rfl (by kernel_rfl))) f13.d ?_
  exact ⟨rfl,f13.b⟩
theorem fld_4 (x:Xi):fldX 4 x=⟨x.op,x.w,x.dst,0,0,0,0,0⟩:=by unfold fldX;simp
set_option maxHeartbeats 4000000 in
theorem efld4 (x:Xi) (W:World) (eK:clsI x.op=4):Calls Tryd.prog 35 #[.agg (xC x)] W fun e w'=>e=.returned (.agg (xC ⟨x.op,x.w,x.dst,0,0,0,0,0⟩)) ∧ Below W.heap.size W w':=by
  refine calls_abs Tryd.func35 rfl (Nat.le_of_ble_eq_true rfl) ?_
  intro a0 d0 z0 h0
  replace z0:a0.tmps.size=73:=z0
  have s0_0:a0.tmps.getD 0 undef=.agg (xC x):=h0 0 (Nat.le_of_ble_eq_true rfl)
  refine wp_seq ?_
  refine go_reg [] [⟨0,1,24,(xC x),none,#[]⟩,⟨1,2,24,(xC zX),none,#[]⟩] [none,none] mo d0 z0 (Below.refl _ _) (by kernel_rfl) trivial (
   hk (fun cx=>cx.al (wn rfl) 0 rfl (ex_box rfl (cx.rq 0 s0_0) rfl) rfl rfl rfl rfl rfl trivial) <|
   hk (fun cx=>cx.al (wn rfl) 1 rfl (al_x rfl) rfl rfl rfl rfl rfl trivial) <|
   hn) ?_
  intro a1 w1 f1
  obtain ⟨g1,u_g1,q_g1,b_g1⟩:=f1.al.1
  obtain ⟨g2,u_g2,q_g2,b_g2⟩:=f1.al.2.1
  refine wp_seq ?_
  refine go_reg [bx g1 24 (xC x)] [⟨3,3,24,(xC zX),some 4,(xC ⟨x.op,0,0,0,0,0,0,0⟩)⟩] [some (pt g1 0),some (.int .i8 x.op),some (.agg (xC ⟨x.op,0,0,0,0,0,0,0⟩)),none,none] mo f1.d f1.z f1.b (by kernel_rfl) ⟨b_g1,trivial⟩ (
   hk (fun cx=>cx.q (ex_fa rfl (cx.rq 1 u_g1) (faEnC24_0_0 _ _))) <|
   hk (fun cx=>cx.q (ex_ld rfl (cx.u 0 rfl) (cx.rn 0 rfl) rfl Tryd.isAgg22)) <|
   hk (fun cx=>cx.q (exec_build rfl (parts1 (cx.u 0 rfl)) (by kernel_rfl))) <|
   hk (fun cx=>cx.al (wn rfl) 0 rfl (al_x rfl) rfl rfl rfl rfl (by kernel_rfl) trivial) <|
   hk (fun cx=>cx.stA (wn rfl) rfl rfl 0 0 rfl rfl rfl rfl (cx.u 1 rfl) (by kernel_rfl) (Eq.refl 8) (by simp [Value.oneCell']) f1.b.size rfl rfl trivial) <|
   hn) ?_
  intro a2 w2 f2
  obtain ⟨g3,u_g3,q_g3,b_g3⟩:=f2.al.1
  refine wp_seq ?_
  have b_g1_1:=f2.k b_g1
  have s1_2:=f2.q 1 u_g1
  refine go_reg [bx g1 24 (xC x)] [] [some (pt g1 0),some (.int .i8 x.op),some (.int .i64 4),some (.int .i64 4)] mo f2.d f2.z f2.b (by kernel_rfl) ⟨b_g1_1,trivial⟩ (
   hk (fun cx=>cx.q (ex_fa rfl (cx.rq 1 s1_2) (faEnC24_0_0 _ _))) <|
   hk (fun cx=>cx.q (ex_ld rfl (cx.u 0 rfl) (cx.rn 0 rfl) rfl Tryd.isAgg22)) <|
   hc (fun _ _ wx cx=>cx.c rfl (args1 (cx.u 0 rfl)) Tryd.func27 (by decide +kernel) (((cls_n x.op wx).mono (by rintro e w' ⟨rfl,rfl⟩;exact ⟨rfl,Below.refl _ _⟩))) rfl (congrArg (Value.int .i64) eK)) <|
   kmu 0 <|
   hn) ?_
  intro a3 w3 f3
  refine wp_seq ?_
  refine wp_seq ?_
  refine go_reg [] [] [some (.int .i64 4),oT] mo f3.d f3.z f3.b (by kernel_rfl) trivial (
   hk (fun cx=>cx.q (ex_mv rfl (cx.rq 4 (f3.v 3 rfl rfl rfl)))) <|
   hk (fun cx=>cx.v (ex_lt (x:=.tmp 11) rfl (cx.u 0 rfl) rfl) rfl (congrArg Value.bool (by decide))) <|
   hn) ?_
  intro a4 w4 f4
  refine wp_cond_true (f4.v 1 rfl rfl rfl) ?_
  have b_g1_3:=f4.k (f3.k b_g1_1)
  have b_g3_4:=f4.k (f3.k b_g3)
  have s1_5:=f4.q 1 (f3.q 1 s1_2)
  have s3_6:=f4.q 3 (f3.q 3 u_g3)
  refine go_reg [bx g1 24 (xC x),⟨g3,24,(xC ⟨x.op,0,0,0,0,0,0,0⟩),some 3,(xC ⟨x.op,x.w,0,0,0,0,0,0⟩)⟩] [] [some (pt g1 1),some (.int .i8 x.w),some (pt g3 1),none] mo f4.d f4.z f4.b (by kernel_rfl) ⟨b_g1_3,b_g3_4,trivial⟩ (
   hk (fun cx=>cx.q (ex_fa rfl (cx.rq 1 s1_5) (faEnC24_1_0 _ _))) <|
   hk (fun cx=>cx.q (ex_ld rfl (cx.u 0 rfl) (cx.rn 0 rfl) rfl Tryd.isAgg22)) <|
   hk (fun cx=>cx.q (ex_fa rfl (cx.rq 3 s3_6) (faEnC24_1_0 _ _))) <|
   hk (fun cx=>cx.stC (wn rfl) rfl rfl 1 rfl (cx.u 0 rfl) (cx.u 1 rfl) rfl rfl (by kernel_rfl) rfl rfl (Nat.le_trans f1.b.size q_g3) rfl ⟨(ne_row b_g1 q_g3),trivial⟩ trivial) <|
   hn) ?_
  intro a5 w5 f5
  refine wp_seq ?_
  refine wp_seq ?_
  have s4_7:=f5.q 4 (f4.q 4 (f3.v 3 rfl rfl rfl))
  refine go_reg [] [] [some (.int .i64 4),oT] mo f5.d f5.z f5.b (by kernel_rfl) trivial (
   hk (fun cx=>cx.q (ex_mv rfl (cx.rq 4 s4_7))) <|
   hk (fun cx=>cx.v (ex_le (x:=.tmp 16) rfl (cx.u 0 rfl) rfl) rfl (congrArg Value.bool (by decide))) <|
   hn) ?_
  intro a6 w6 f6
  refine wp_cond_true (f6.v 1 rfl rfl rfl) ?_
  have b_g1_8:=f6.k (f5.kp b_g1_3 ⟨.inl rfl,.inr (ne_row b_g1 q_g3),trivial⟩)
  have b_g3_9:=f6.k f5.rows.2.1
  have s1_10:=f6.q 1 (f5.q 1 s1_5)
  have s3_11:=f6.q 3 (f5.q 3 s3_6)
  refine go_reg [bx g1 24 (xC x),⟨g3,24,(xC ⟨x.op,x.w,0,0,0,0,0,0⟩),some 3,(xC ⟨x.op,x.w,x.dst,0,0,0,0,0⟩)⟩] [] [some (pt g1 2),some (.int .i8 x.dst),some (pt g3 2),none] mo f6.d f6.z f6.b (by kernel_rfl) ⟨b_g1_8,b_g3_9,trivial⟩ (
   hk (fun cx=>cx.q (ex_fa rfl (cx.rq 1 s1_10) (faEnC24_2_0 _ _))) <|
   hk (fun cx=>cx.q (ex_ld rfl (cx.u 0 rfl) (cx.rn 0 rfl) rfl Tryd.isAgg22)) <|
   hk (fun cx=>cx.q (ex_fa rfl (cx.rq 3 s3_11) (faEnC24_2_0 _ _))) <|
   hk (fun cx=>cx.stC (wn rfl) rfl rfl 1 rfl (cx.u 0 rfl) (cx.u 1 rfl) rfl rfl (by kernel_rfl) rfl rfl (Nat.le_trans f1.b.size q_g3) rfl ⟨(ne_row b_g1 q_g3),trivial⟩ trivial) <|
   hn) ?_
  intro a7 w7 f7
  refine wp_seq ?_
  refine wp_seq ?_
  have s4_12:=f7.q 4 (f6.q 4 s4_7)
  refine go_reg [] [] [some (.int .i64 4),oF,oF,some (.int .i64 4),oF,oF,oF,some (.int .i64 4),oF,oF] mo f7.d f7.z f7.b (by kernel_rfl) trivial (
   hk (fun cx=>cx.q (ex_mv rfl (cx.rq 4 s4_12))) <|
   hk (fun cx=>cx.v (ex_eq (x:=.tmp 21) rfl (cx.u 0 rfl) rfl) rfl (congrArg Value.bool (by decide))) <|
   kmu 0 <|
   hk (fun cx=>cx.vy 0 (ex_mv rfl (cx.rq 4 s4_12))) <|
   hk (fun cx=>cx.vy 1 (ex_eq (x:=.tmp 24) rfl (cx.u 0 rfl) rfl) (congrArg Value.bool (by decide))) <|
   hk (fun cx=>cx.q (ex_pf rfl (cx.u 0 rfl) (cx.u 1 rfl))) <|
   kmu 0 <|
   hk (fun cx=>cx.vy 0 (ex_mv rfl (cx.rq 4 s4_12))) <|
   hk (fun cx=>cx.vy 1 (ex_eq (x:=.tmp 28) rfl (cx.u 0 rfl) rfl) (congrArg Value.bool (by decide))) <|
   hk (fun cx=>cx.q (ex_pf rfl (cx.u 0 rfl) (cx.u 1 rfl))) <|
   hn) ?_
  intro a8 w8 f8
  refine wp_cond_false (f8.v 9 rfl rfl rfl) ?_
  refine wp_skip ?_
  refine wp_seq ?_
  refine wp_seq ?_
  have s4_13:=f8.q 4 s4_12
  refine go_reg [] [] [some (.int .i64 4),oF,oF,some (.int .i64 4),oF,oF,oF,some (.int .i64 4),oF,oF,oF,some (.int .i64 4),oF,oF] mo f8.d f8.z f8.b (by kernel_rfl) trivial (
   hk (fun cx=>cx.q (ex_mv rfl (cx.rq 4 s4_13))) <|
   hk (fun cx=>cx.v (ex_eq (x:=.tmp 34) rfl (cx.u 0 rfl) rfl) rfl (congrArg Value.bool (by decide))) <|
   kmu 0 <|
   hk (fun cx=>cx.vy 0 (ex_mv rfl (cx.rq 4 s4_13))) <|
   hk (fun cx=>cx.vy 1 (ex_eq (x:=.tmp 37) rfl (cx.u 0 rfl) rfl) (congrArg Value.bool (by decide))) <|
   hk (fun cx=>cx.q (ex_pf rfl (cx.u 0 rfl) (cx.u 1 rfl))) <|
   kmu 0 <|
   hk (fun cx=>cx.vy 0 (ex_mv rfl (cx.rq 4 s4_13))) <|
   hk (fun cx=>cx.vy 1 (ex_eq (x:=.tmp 41) rfl (cx.u 0 rfl) rfl) (congrArg Value.bool (by decide))) <|
   hk (fun cx=>cx.q (ex_pf rfl (cx.u 0 rfl) (cx.u 1 rfl))) <|
   kmu 0 <|
   hk (fun cx=>cx.vy 0 (ex_mv rfl (cx.rq 4 s4_13))) <|
   hk (fun cx=>cx.vy 1 (ex_eq (x:=.tmp 45) rfl (cx.u 0 rfl) rfl) (congrArg Value.bool (by decide))) <|
   hk (fun cx=>cx.q (ex_pf rfl (cx.u 0 rfl) (cx.u 1 rfl))) <|
   hn) ?_
  intro a9 w9 f9
  refine wp_cond_false (f9.v 13 rfl rfl rfl) ?_
  refine wp_skip ?_
  refine wp_seq ?_
  refine wp_seq ?_
  have s4_14:=f9.q 4 s4_13
  refine go_reg [] [] [some (.int .i64 4),oF,oF,some (.int .i64 4),oF,oF] mo f9.d f9.z f9.b (by kernel_rfl) trivial (
   hk (fun cx=>cx.q (ex_mv rfl (cx.rq 4 s4_14))) <|
   hk (fun cx=>cx.v (ex_eq (x:=.tmp 51) rfl (cx.u 0 rfl) rfl) rfl (congrArg Value.bool (by decide))) <|
   kmu 0 <|
   hk (fun cx=>cx.vy 0 (ex_mv rfl (cx.rq 4 s4_14))) <|
   hk (fun cx=>cx.vy 1 (ex_eq (x:=.tmp 54) rfl (cx.u 0 rfl) rfl) (congrArg Value.bool (by decide))) <|
   hk (fun cx=>cx.q (ex_pf rfl (cx.u 0 rfl) (cx.u 1 rfl))) <|
   hn) ?_
  intro a10 w10 f10
  refine wp_cond_false (f10.v 5 rfl rfl rfl) ?_
  refine wp_skip ?_
  refine wp_seq ?_
  refine wp_seq ?_
  have s4_15:=f10.q 4 s4_14
  refine go_reg [] [] [some (.int .i64 4),oF,oF,some (.int .i64 4),oF,oF] mo f10.d f10.z f10.b (by kernel_rfl) trivial (
   hk (fun cx=>cx.q (ex_mv rfl (cx.rq 4 s4_15))) <|
   hk (fun cx=>cx.v (ex_eq (x:=.tmp 60) rfl (cx.u 0 rfl) rfl) rfl (congrArg Value.bool (by decide))) <|
   kmu 0 <|
   hk (fun cx=>cx.vy 0 (ex_mv rfl (cx.rq 4 s4_15))) <|
   hk (fun cx=>cx.vy 1 (ex_eq (x:=.tmp 63) rfl (cx.u 0 rfl) rfl) (congrArg Value.bool (by decide))) <|
   hk (fun cx=>cx.q (ex_pf rfl (cx.u 0 rfl) (cx.u 1 rfl))) <|
   hn) ?_
  intro a11 w11 f11
  refine wp_cond_false (f11.v 5 rfl rfl rfl) ?_
  refine wp_skip ?_
  refine wp_seq ?_
  have b_g3_16:=f11.k (f10.k (f9.k (f8.k f7.rows.2.1)))
  have b_g2_17:=f11.k (f10.k (f9.k (f8.k (f7.kp (f6.k (f5.kp (f4.k (f3.k (f2.k b_g2))) ⟨.inl rfl,.inr (ne_row b_g2 q_g3),trivial⟩)) ⟨.inl rfl,.inr (ne_row b_g2 q_g3),trivial⟩))))
  have s3_18:=f11.q 3 (f10.q 3 (f9.q 3 (f8.q 3 (f7.q 3 s3_11))))
  have s2_19:=f11.q 2 (f10.q 2 (f9.q 2 (f8.q 2 (f7.q 2 (f6.q 2 (f5.q 2 (f4.q 2 (f3.q 2 (f2.q 2 u_g2)))))))))
  refine go_reg [bx g3 24 (xC ⟨x.op,x.w,x.dst,0,0,0,0,0⟩),⟨g2,24,(xC zX),some 1,(xC ⟨x.op,x.w,x.dst,0,0,0,0,0⟩)⟩] [] [some (.agg (xC ⟨x.op,x.w,x.dst,0,0,0,0,0⟩)),none] mo f11.d f11.z f11.b (by kernel_rfl) ⟨b_g3_16,b_g2_17,trivial⟩ (
   hk (fun cx=>cx.q (ldX rfl (cx.rq 3 s3_18) (cx.rn 0 rfl))) <|
   hk (fun cx=>cx.stR (wn rfl) rfl rfl 1 rfl (cx.rq 2 s2_19) (cx.u 0 rfl) (by kernel_rfl) (Eq.refl 8) (by simp [Value.oneCell']) q_g2 rfl ⟨(ne_row b_g2 q_g3).symm,trivial⟩ trivial) <|
   hn) ?_
  intro a12 w12 f12
  refine wp_ret ?_
  have s2_20:=f12.q 2 s2_19
  try simp only [Exit.inBlock,Exit.then]
  refine bodyPost_ret (res_c (fn:=Tryd.f35) rfl s2_20 (load_row 24 f12.rows.2.1 Tryd.underlying24 rfl (by kernel_rfl))) f12.d ?_
  exact ⟨rfl,f12.b⟩
theorem fld_5 (x:Xi):fldX 5 x=⟨x.op,x.w,x.dst,x.src,0,0,0,x.cc⟩:=by unfold fldX;simp
set_option maxHeartbeats 4000000 in
theorem efld5 (x:Xi) (W:World) (eK:clsI x.op=5):Calls Tryd.prog 35 #[.agg (xC x)] W fun e w'=>e=.returned (.agg (xC ⟨x.op,x.w,x.dst,x.src,0,0,0,x.cc⟩)) ∧ Below W.heap.size W w':=by
  refine calls_abs Tryd.func35 rfl (Nat.le_of_ble_eq_true rfl) ?_
  intro a0 d0 z0 h0
  replace z0:a0.tmps.size=73:=z0
  have s0_0:a0.tmps.getD 0 undef=.agg (xC x):=h0 0 (Nat.le_of_ble_eq_true rfl)
  refine wp_seq ?_
  refine go_reg [] [⟨0,1,24,(xC x),none,#[]⟩,⟨1,2,24,(xC zX),none,#[]⟩] [none,none] mo d0 z0 (Below.refl _ _) (by kernel_rfl) trivial (
   hk (fun cx=>cx.al (wn rfl) 0 rfl (ex_box rfl (cx.rq 0 s0_0) rfl) rfl rfl rfl rfl rfl trivial) <|
   hk (fun cx=>cx.al (wn rfl) 1 rfl (al_x rfl) rfl rfl rfl rfl rfl trivial) <|
   hn) ?_
  intro a1 w1 f1
  obtain ⟨g1,u_g1,q_g1,b_g1⟩:=f1.al.1
  obtain ⟨g2,u_g2,q_g2,b_g2⟩:=f1.al.2.1
  refine wp_seq ?_
  refine go_reg [bx g1 24 (xC x)] [⟨3,3,24,(xC zX),some 4,(xC ⟨x.op,0,0,0,0,0,0,0⟩)⟩] [some (pt g1 0),some (.int .i8 x.op),some (.agg (xC ⟨x.op,0,0,0,0,0,0,0⟩)),none,none] mo f1.d f1.z f1.b (by kernel_rfl) ⟨b_g1,trivial⟩ (
   hk (fun cx=>cx.q (ex_fa rfl (cx.rq 1 u_g1) (faEnC24_0_0 _ _))) <|
   hk (fun cx=>cx.q (ex_ld rfl (cx.u 0 rfl) (cx.rn 0 rfl) rfl Tryd.isAgg22)) <|
   hk (fun cx=>cx.q (exec_build rfl (parts1 (cx.u 0 rfl)) (by kernel_rfl))) <|
   hk (fun cx=>cx.al (wn rfl) 0 rfl (al_x rfl) rfl rfl rfl rfl (by kernel_rfl) trivial) <|
   hk (fun cx=>cx.stA (wn rfl) rfl rfl 0 0 rfl rfl rfl rfl (cx.u 1 rfl) (by kernel_rfl) (Eq.refl 8) (by simp [Value.oneCell']) f1.b.size rfl rfl trivial) <|
   hn) ?_
  intro a2 w2 f2
  obtain ⟨g3,u_g3,q_g3,b_g3⟩:=f2.al.1
  refine wp_seq ?_
  have b_g1_1:=f2.k b_g1
  have s1_2:=f2.q 1 u_g1
  refine go_reg [bx g1 24 (xC x)] [] [some (pt g1 0),some (.int .i8 x.op),some (.int .i64 5),some (.int .i64 5)] mo f2.d f2.z f2.b (by kernel_rfl) ⟨b_g1_1,trivial⟩ (
   hk (fun cx=>cx.q (ex_fa rfl (cx.rq 1 s1_2) (faEnC24_0_0 _ _))) <|
   hk (fun cx=>cx.q (ex_ld rfl (cx.u 0 rfl) (cx.rn 0 rfl) rfl Tryd.isAgg22)) <|
   hc (fun _ _ wx cx=>cx.c rfl (args1 (cx.u 0 rfl)) Tryd.func27 (by decide +kernel) (((cls_n x.op wx).mono (by rintro e w' ⟨rfl,rfl⟩;exact ⟨rfl,Below.refl _ _⟩))) rfl (congrArg (Value.int .i64) eK)) <|
   kmu 0 <|
   hn) ?_
  intro a3 w3 f3
  refine wp_seq ?_
  refine wp_seq ?_
  refine go_reg [] [] [some (.int .i64 5),oT] mo f3.d f3.z f3.b (by kernel_rfl) trivial (
   hk (fun cx=>cx.q (ex_mv rfl (cx.rq 4 (f3.v 3 rfl rfl rfl)))) <|
   hk (fun cx=>cx.v (ex_lt (x:=.tmp 11) rfl (cx.u 0 rfl) rfl) rfl (congrArg Value.bool (by decide))) <|
   hn) ?_
  intro a4 w4 f4
  refine wp_cond_true (f4.v 1 rfl rfl rfl) ?_
  have b_g1_3:=f4.k (f3.k b_g1_1)
  have b_g3_4:=f4.k (f3.k b_g3)
  have s1_5:=f4.q 1 (f3.q 1 s1_2)
  have s3_6:=f4.q 3 (f3.q 3 u_g3)
  refine go_reg [bx g1 24 (xC x),⟨g3,24,(xC ⟨x.op,0,0,0,0,0,0,0⟩),some 3,(xC ⟨x.op,x.w,0,0,0,0,0,0⟩)⟩] [] [some (pt g1 1),some (.int .i8 x.w),some (pt g3 1),none] mo f4.d f4.z f4.b (by kernel_rfl) ⟨b_g1_3,b_g3_4,trivial⟩ (
   hk (fun cx=>cx.q (ex_fa rfl (cx.rq 1 s1_5) (faEnC24_1_0 _ _))) <|
   hk (fun cx=>cx.q (ex_ld rfl (cx.u 0 rfl) (cx.rn 0 rfl) rfl Tryd.isAgg22)) <|
   hk (fun cx=>cx.q (ex_fa rfl (cx.rq 3 s3_6) (faEnC24_1_0 _ _))) <|
   hk (fun cx=>cx.stC (wn rfl) rfl rfl 1 rfl (cx.u 0 rfl) (cx.u 1 rfl) rfl rfl (by kernel_rfl) rfl rfl (Nat.le_trans f1.b.size q_g3) rfl ⟨(ne_row b_g1 q_g3),trivial⟩ trivial) <|
   hn) ?_
  intro a5 w5 f5
  refine wp_seq ?_
  refine wp_seq ?_
  have s4_7:=f5.q 4 (f4.q 4 (f3.v 3 rfl rfl rfl))
  refine go_reg [] [] [some (.int .i64 5),oT] mo f5.d f5.z f5.b (by kernel_rfl) trivial (
   hk (fun cx=>cx.q (ex_mv rfl (cx.rq 4 s4_7))) <|
   hk (fun cx=>cx.v (ex_le (x:=.tmp 16) rfl (cx.u 0 rfl) rfl) rfl (congrArg Value.bool (by decide))) <|
   hn) ?_
  intro a6 w6 f6
  refine wp_cond_true (f6.v 1 rfl rfl rfl) ?_
  have b_g1_8:=f6.k (f5.kp b_g1_3 ⟨.inl rfl,.inr (ne_row b_g1 q_g3),trivial⟩)
  have b_g3_9:=f6.k f5.rows.2.1
  have s1_10:=f6.q 1 (f5.q 1 s1_5)
  have s3_11:=f6.q 3 (f5.q 3 s3_6)
  refine go_reg [bx g1 24 (xC x),⟨g3,24,(xC ⟨x.op,x.w,0,0,0,0,0,0⟩),some 3,(xC ⟨x.op,x.w,x.dst,0,0,0,0,0⟩)⟩] [] [some (pt g1 2),some (.int .i8 x.dst),some (pt g3 2),none] mo f6.d f6.z f6.b (by kernel_rfl) ⟨b_g1_8,b_g3_9,trivial⟩ (
   hk (fun cx=>cx.q (ex_fa rfl (cx.rq 1 s1_10) (faEnC24_2_0 _ _))) <|
   hk (fun cx=>cx.q (ex_ld rfl (cx.u 0 rfl) (cx.rn 0 rfl) rfl Tryd.isAgg22)) <|
   hk (fun cx=>cx.q (ex_fa rfl (cx.rq 3 s3_11) (faEnC24_2_0 _ _))) <|
   hk (fun cx=>cx.stC (wn rfl) rfl rfl 1 rfl (cx.u 0 rfl) (cx.u 1 rfl) rfl rfl (by kernel_rfl) rfl rfl (Nat.le_trans f1.b.size q_g3) rfl ⟨(ne_row b_g1 q_g3),trivial⟩ trivial) <|
   hn) ?_
  intro a7 w7 f7
  refine wp_seq ?_
  refine wp_seq ?_
  have s4_12:=f7.q 4 (f6.q 4 s4_7)
  refine go_reg [] [] [some (.int .i64 5),oF,oF,some (.int .i64 5),oT,oT,oT,oU,oU,oT] mo f7.d f7.z f7.b (by kernel_rfl) trivial (
   hk (fun cx=>cx.q (ex_mv rfl (cx.rq 4 s4_12))) <|
   hk (fun cx=>cx.v (ex_eq (x:=.tmp 21) rfl (cx.u 0 rfl) rfl) rfl (congrArg Value.bool (by decide))) <|
   kmu 0 <|
   hk (fun cx=>cx.vy 0 (ex_mv rfl (cx.rq 4 s4_12))) <|
   hk (fun cx=>cx.vy 1 (ex_eq (x:=.tmp 24) rfl (cx.u 0 rfl) rfl) (congrArg Value.bool (by decide))) <|
   hk (fun cx=>cx.q (ex_pf rfl (cx.u 0 rfl) (cx.u 1 rfl))) <|
   kmu 0 <|
   kno 0 <|
   kno 1 <|
   hk (fun cx=>cx.q (ex_pt rfl (cx.u 0 rfl) rfl)) <|
   hn) ?_
  intro a8 w8 f8
  refine wp_cond_true (f8.v 9 rfl rfl rfl) ?_
  have b_g1_13:=f8.k (f7.kp b_g1_8 ⟨.inl rfl,.inr (ne_row b_g1 q_g3),trivial⟩)
  have b_g3_14:=f8.k f7.rows.2.1
  have s1_15:=f8.q 1 (f7.q 1 s1_10)
  have s3_16:=f8.q 3 (f7.q 3 s3_11)
  refine go_reg [bx g1 24 (xC x),⟨g3,24,(xC ⟨x.op,x.w,x.dst,0,0,0,0,0⟩),some 3,(xC ⟨x.op,x.w,x.dst,x.src,0,0,0,0⟩)⟩] [] [some (pt g1 3),some (.int .i8 x.src),some (pt g3 3),none] mo f8.d f8.z f8.b (by kernel_rfl) ⟨b_g1_13,b_g3_14,trivial⟩ (
   hk (fun cx=>cx.q (ex_fa rfl (cx.rq 1 s1_15) (faEnC24_3_0 _ _))) <|
   hk (fun cx=>cx.q (ex_ld rfl (cx.u 0 rfl) (cx.rn 0 rfl) rfl Tryd.isAgg22)) <|
   hk (fun cx=>cx.q (ex_fa rfl (cx.rq 3 s3_16) (faEnC24_3_0 _ _))) <|
   hk (fun cx=>cx.stC (wn rfl) rfl rfl 1 rfl (cx.u 0 rfl) (cx.u 1 rfl) rfl rfl (by kernel_rfl) rfl rfl (Nat.le_trans f1.b.size q_g3) rfl ⟨(ne_row b_g1 q_g3),trivial⟩ trivial) <|
   hn) ?_
  intro a9 w9 f9
  refine wp_seq ?_
  refine wp_seq ?_
  have s4_17:=f9.q 4 (f8.q 4 s4_12)
  refine go_reg [] [] [some (.int .i64 5),oF,oF,some (.int .i64 5),oF,oF,oF,some (.int .i64 5),oF,oF,oF,some (.int .i64 5),oF,oF] mo f9.d f9.z f9.b (by kernel_rfl) trivial (
   hk (fun cx=>cx.q (ex_mv rfl (cx.rq 4 s4_17))) <|
   hk (fun cx=>cx.v (ex_eq (x:=.tmp 34) rfl (cx.u 0 rfl) rfl) rfl (congrArg Value.bool (by decide))) <|
   kmu 0 <|
   hk (fun cx=>cx.vy 0 (ex_mv rfl (cx.rq 4 s4_17))) <|
   hk (fun cx=>cx.vy 1 (ex_eq (x:=.tmp 37) rfl (cx.u 0 rfl) rfl) (congrArg Value.bool (by decide))) <|
   hk (fun cx=>cx.q (ex_pf rfl (cx.u 0 rfl) (cx.u 1 rfl))) <|
   kmu 0 <|
   hk (fun cx=>cx.vy 0 (ex_mv rfl (cx.rq 4 s4_17))) <|
   hk (fun cx=>cx.vy 1 (ex_eq (x:=.tmp 41) rfl (cx.u 0 rfl) rfl) (congrArg Value.bool (by decide))) <|
   hk (fun cx=>cx.q (ex_pf rfl (cx.u 0 rfl) (cx.u 1 rfl))) <|
   kmu 0 <|
   hk (fun cx=>cx.vy 0 (ex_mv rfl (cx.rq 4 s4_17))) <|
   hk (fun cx=>cx.vy 1 (ex_eq (x:=.tmp 45) rfl (cx.u 0 rfl) rfl) (congrArg Value.bool (by decide))) <|
   hk (fun cx=>cx.q (ex_pf rfl (cx.u 0 rfl) (cx.u 1 rfl))) <|
   hn) ?_
  intro a10 w10 f10
  refine wp_cond_false (f10.v 13 rfl rfl rfl) ?_
  refine wp_skip ?_
  refine wp_seq ?_
  refine wp_seq ?_
  have s4_18:=f10.q 4 s4_17
  refine go_reg [] [] [some (.int .i64 5),oT,oT,oU,oU,oT] mo f10.d f10.z f10.b (by kernel_rfl) trivial (
   hk (fun cx=>cx.q (ex_mv rfl (cx.rq 4 s4_18))) <|
   hk (fun cx=>cx.v (ex_eq (x:=.tmp 51) rfl (cx.u 0 rfl) rfl) rfl (congrArg Value.bool (by decide))) <|
   kmu 0 <|
   kno 0 <|
   kno 1 <|
   hk (fun cx=>cx.q (ex_pt rfl (cx.u 0 rfl) rfl)) <|
   hn) ?_
  intro a11 w11 f11
  refine wp_cond_true (f11.v 5 rfl rfl rfl) ?_
  have b_g1_19:=f11.k (f10.k (f9.kp b_g1_13 ⟨.inl rfl,.inr (ne_row b_g1 q_g3),trivial⟩))
  have b_g3_20:=f11.k (f10.k f9.rows.2.1)
  have s1_21:=f11.q 1 (f10.q 1 (f9.q 1 s1_15))
  have s3_22:=f11.q 3 (f10.q 3 (f9.q 3 s3_16))
  refine go_reg [bx g1 24 (xC x),⟨g3,24,(xC ⟨x.op,x.w,x.dst,x.src,0,0,0,0⟩),some 3,(xC ⟨x.op,x.w,x.dst,x.src,0,0,0,x.cc⟩)⟩] [] [some (pt g1 7),some (.int .i8 x.cc),some (pt g3 7),none] mo f11.d f11.z f11.b (by kernel_rfl) ⟨b_g1_19,b_g3_20,trivial⟩ (
   hk (fun cx=>cx.q (ex_fa rfl (cx.rq 1 s1_21) (faEnC24_7_0 _ _))) <|
   hk (fun cx=>cx.q (ex_ld rfl (cx.u 0 rfl) (cx.rn 0 rfl) rfl Tryd.isAgg22)) <|
   hk (fun cx=>cx.q (ex_fa rfl (cx.rq 3 s3_22) (faEnC24_7_0 _ _))) <|
   hk (fun cx=>cx.stC (wn rfl) rfl rfl 1 rfl (cx.u 0 rfl) (cx.u 1 rfl) rfl rfl (by kernel_rfl) rfl rfl (Nat.le_trans f1.b.size q_g3) rfl ⟨(ne_row b_g1 q_g3),trivial⟩ trivial) <|
   hn) ?_
  intro a12 w12 f12
  refine wp_seq ?_
  refine wp_seq ?_
  have s4_23:=f12.q 4 (f11.q 4 s4_18)
  refine go_reg [] [] [some (.int .i64 5),oF,oF,some (.int .i64 5),oF,oF] mo f12.d f12.z f12.b (by kernel_rfl) trivial (
   hk (fun cx=>cx.q (ex_mv rfl (cx.rq 4 s4_23))) <|
   hk (fun cx=>cx.v (ex_eq (x:=.tmp 60) rfl (cx.u 0 rfl) rfl) rfl (congrArg Value.bool (by decide))) <|
   kmu 0 <|
   hk (fun cx=>cx.vy 0 (ex_mv rfl (cx.rq 4 s4_23))) <|
   hk (fun cx=>cx.vy 1 (ex_eq (x:=.tmp 63) rfl (cx.u 0 rfl) rfl) (congrArg Value.bool (by decide))) <|
   hk (fun cx=>cx.q (ex_pf rfl (cx.u 0 rfl) (cx.u 1 rfl))) <|
   hn) ?_
  intro a13 w13 f13
  refine wp_cond_false (f13.v 5 rfl rfl rfl) ?_
  refine wp_skip ?_
  refine wp_seq ?_
  have b_g3_24:=f13.k f12.rows.2.1
  have b_g2_25:=f13.k (f12.kp (f11.k (f10.k (f9.kp (f8.k (f7.kp (f6.k (f5.kp (f4.k (f3.k (f2.k b_g2))) ⟨.inl rfl,.inr (ne_row b_g2 q_g3),trivial⟩)) ⟨.inl rfl,.inr (ne_row b_g2 q_g3),trivial⟩)) ⟨.inl rfl,.inr (ne_row b_g2 q_g3),trivial⟩))) ⟨.inl rfl,.inr (ne_row b_g2 q_g3),trivial⟩)
  have s3_26:=f13.q 3 (f12.q 3 s3_22)
  have s2_27:=f13.q 2 (f12.q 2 (f11.q 2 (f10.q 2 (f9.q 2 (f8.q 2 (f7.q 2 (f6.q 2 (f5.q 2 (f4.q 2 (f3.q 2 (f2.q 2 u_g2)))))))))))
  refine go_reg [bx g3 24 (xC ⟨x.op,x.w,x.dst,x.src,0,0,0,x.cc⟩),⟨g2,24,(xC zX),some 1,(xC ⟨x.op,x.w,x.dst,x.src,0,0,0,x.cc⟩)⟩] [] [some (.agg (xC ⟨x.op,x.w,x.dst,x.src,0,0,0,x.cc⟩)),none] mo f13.d f13.z f13.b (by kernel_rfl) ⟨b_g3_24,b_g2_25,trivial⟩ (
   hk (fun cx=>cx.q (ldX rfl (cx.rq 3 s3_26) (cx.rn 0 rfl))) <|
   hk (fun cx=>cx.stR (wn rfl) rfl rfl 1 rfl (cx.rq 2 s2_27) (cx.u 0 rfl) (by kernel_rfl) (Eq.refl 8) (by simp [Value.oneCell']) q_g2 rfl ⟨(ne_row b_g2 q_g3).symm,trivial⟩ trivial) <|
   hn) ?_
  intro a14 w14 f14
  refine wp_ret ?_
  have s2_28:=f14.q 2 s2_27
  try simp only [Exit.inBlock,Exit.then]
  refine bodyPost_ret (res_c (fn:=Tryd.f35) rfl s2_28 (load_row 24 f14.rows.2.1 Tryd.underlying24 rfl (by kernel_rfl))) f14.d ?_
  exact ⟨rfl,f14.b⟩
theorem fld_6 (x:Xi):fldX 6 x=⟨x.op,x.w,x.dst,0,x.base,x.disp,0,0⟩:=by unfold fldX;simp
set_option maxHeartbeats 4000000 in
theorem efld6 (x:Xi) (W:World) (eK:clsI x.op=6):Calls Tryd.prog 35 #[.agg (xC x)] W fun e w'=>e=.returned (.agg (xC ⟨x.op,x.w,x.dst,0,x.base,x.disp,0,0⟩)) ∧ Below W.heap.size W w':=by
  refine calls_abs Tryd.func35 rfl (Nat.le_of_ble_eq_true rfl) ?_
  intro a0 d0 z0 h0
  replace z0:a0.tmps.size=73:=z0
  have s0_0:a0.tmps.getD 0 undef=.agg (xC x):=h0 0 (Nat.le_of_ble_eq_true rfl)
  refine wp_seq ?_
  refine go_reg [] [⟨0,1,24,(xC x),none,#[]⟩,⟨1,2,24,(xC zX),none,#[]⟩] [none,none] mo d0 z0 (Below.refl _ _) (by kernel_rfl) trivial (
   hk (fun cx=>cx.al (wn rfl) 0 rfl (ex_box rfl (cx.rq 0 s0_0) rfl) rfl rfl rfl rfl rfl trivial) <|
   hk (fun cx=>cx.al (wn rfl) 1 rfl (al_x rfl) rfl rfl rfl rfl rfl trivial) <|
   hn) ?_
  intro a1 w1 f1
  obtain ⟨g1,u_g1,q_g1,b_g1⟩:=f1.al.1
  obtain ⟨g2,u_g2,q_g2,b_g2⟩:=f1.al.2.1
  refine wp_seq ?_
  refine go_reg [bx g1 24 (xC x)] [⟨3,3,24,(xC zX),some 4,(xC ⟨x.op,0,0,0,0,0,0,0⟩)⟩] [some (pt g1 0),some (.int .i8 x.op),some (.agg (xC ⟨x.op,0,0,0,0,0,0,0⟩)),none,none] mo f1.d f1.z f1.b (by kernel_rfl) ⟨b_g1,trivial⟩ (
   hk (fun cx=>cx.q (ex_fa rfl (cx.rq 1 u_g1) (faEnC24_0_0 _ _))) <|
   hk (fun cx=>cx.q (ex_ld rfl (cx.u 0 rfl) (cx.rn 0 rfl) rfl Tryd.isAgg22)) <|
   hk (fun cx=>cx.q (exec_build rfl (parts1 (cx.u 0 rfl)) (by kernel_rfl))) <|
   hk (fun cx=>cx.al (wn rfl) 0 rfl (al_x rfl) rfl rfl rfl rfl (by kernel_rfl) trivial) <|
   hk (fun cx=>cx.stA (wn rfl) rfl rfl 0 0 rfl rfl rfl rfl (cx.u 1 rfl) (by kernel_rfl) (Eq.refl 8) (by simp [Value.oneCell']) f1.b.size rfl rfl trivial) <|
   hn) ?_
  intro a2 w2 f2
  obtain ⟨g3,u_g3,q_g3,b_g3⟩:=f2.al.1
  refine wp_seq ?_
  have b_g1_1:=f2.k b_g1
  have s1_2:=f2.q 1 u_g1
  refine go_reg [bx g1 24 (xC x)] [] [some (pt g1 0),some (.int .i8 x.op),some (.int .i64 6),some (.int .i64 6)] mo f2.d f2.z f2.b (by kernel_rfl) ⟨b_g1_1,trivial⟩ (
   hk (fun cx=>cx.q (ex_fa rfl (cx.rq 1 s1_2) (faEnC24_0_0 _ _))) <|
   hk (fun cx=>cx.q (ex_ld rfl (cx.u 0 rfl) (cx.rn 0 rfl) rfl Tryd.isAgg22)) <|
   hc (fun _ _ wx cx=>cx.c rfl (args1 (cx.u 0 rfl)) Tryd.func27 (by decide +kernel) (((cls_n x.op wx).mono (by rintro e w' ⟨rfl,rfl⟩;exact ⟨rfl,Below.refl _ _⟩))) rfl (congrArg (Value.int .i64) eK)) <|
   kmu 0 <|
   hn) ?_
  intro a3 w3 f3
  refine wp_seq ?_
  refine wp_seq ?_
  refine go_reg [] [] [some (.int .i64 6),oT] mo f3.d f3.z f3.b (by kernel_rfl) trivial (
   hk (fun cx=>cx.q (ex_mv rfl (cx.rq 4 (f3.v 3 rfl rfl rfl)))) <|
   hk (fun cx=>cx.v (ex_lt (x:=.tmp 11) rfl (cx.u 0 rfl) rfl) rfl (congrArg Value.bool (by decide))) <|
   hn) ?_
  intro a4 w4 f4
  refine wp_cond_true (f4.v 1 rfl rfl rfl) ?_
  have b_g1_3:=f4.k (f3.k b_g1_1)
  have b_g3_4:=f4.k (f3.k b_g3)
  have s1_5:=f4.q 1 (f3.q 1 s1_2)
  have s3_6:=f4.q 3 (f3.q 3 u_g3)
  refine go_reg [bx g1 24 (xC x),⟨g3,24,(xC ⟨x.op,0,0,0,0,0,0,0⟩),some 3,(xC ⟨x.op,x.w,0,0,0,0,0,0⟩)⟩] [] [some (pt g1 1),some (.int .i8 x.w),some (pt g3 1),none] mo f4.d f4.z f4.b (by kernel_rfl) ⟨b_g1_3,b_g3_4,trivial⟩ (
   hk (fun cx=>cx.q (ex_fa rfl (cx.rq 1 s1_5) (faEnC24_1_0 _ _))) <|
   hk (fun cx=>cx.q (ex_ld rfl (cx.u 0 rfl) (cx.rn 0 rfl) rfl Tryd.isAgg22)) <|
   hk (fun cx=>cx.q (ex_fa rfl (cx.rq 3 s3_6) (faEnC24_1_0 _ _))) <|
   hk (fun cx=>cx.stC (wn rfl) rfl rfl 1 rfl (cx.u 0 rfl) (cx.u 1 rfl) rfl rfl (by kernel_rfl) rfl rfl (Nat.le_trans f1.b.size q_g3) rfl ⟨(ne_row b_g1 q_g3),trivial⟩ trivial) <|
   hn) ?_
  intro a5 w5 f5
  refine wp_seq ?_
  refine wp_seq ?_
  have s4_7:=f5.q 4 (f4.q 4 (f3.v 3 rfl rfl rfl))
  refine go_reg [] [] [some (.int .i64 6),oT] mo f5.d f5.z f5.b (by kernel_rfl) trivial (
   hk (fun cx=>cx.q (ex_mv rfl (cx.rq 4 s4_7))) <|
   hk (fun cx=>cx.v (ex_le (x:=.tmp 16) rfl (cx.u 0 rfl) rfl) rfl (congrArg Value.bool (by decide))) <|
   hn) ?_
  intro a6 w6 f6
  refine wp_cond_true (f6.v 1 rfl rfl rfl) ?_
  have b_g1_8:=f6.k (f5.kp b_g1_3 ⟨.inl rfl,.inr (ne_row b_g1 q_g3),trivial⟩)
  have b_g3_9:=f6.k f5.rows.2.1
  have s1_10:=f6.q 1 (f5.q 1 s1_5)
  have s3_11:=f6.q 3 (f5.q 3 s3_6)
  refine go_reg [bx g1 24 (xC x),⟨g3,24,(xC ⟨x.op,x.w,0,0,0,0,0,0⟩),some 3,(xC ⟨x.op,x.w,x.dst,0,0,0,0,0⟩)⟩] [] [some (pt g1 2),some (.int .i8 x.dst),some (pt g3 2),none] mo f6.d f6.z f6.b (by kernel_rfl) ⟨b_g1_8,b_g3_9,trivial⟩ (
   hk (fun cx=>cx.q (ex_fa rfl (cx.rq 1 s1_10) (faEnC24_2_0 _ _))) <|
   hk (fun cx=>cx.q (ex_ld rfl (cx.u 0 rfl) (cx.rn 0 rfl) rfl Tryd.isAgg22)) <|
   hk (fun cx=>cx.q (ex_fa rfl (cx.rq 3 s3_11) (faEnC24_2_0 _ _))) <|
   hk (fun cx=>cx.stC (wn rfl) rfl rfl 1 rfl (cx.u 0 rfl) (cx.u 1 rfl) rfl rfl (by kernel_rfl) rfl rfl (Nat.le_trans f1.b.size q_g3) rfl ⟨(ne_row b_g1 q_g3),trivial⟩ trivial) <|
   hn) ?_
  intro a7 w7 f7
  refine wp_seq ?_
  refine wp_seq ?_
  have s4_12:=f7.q 4 (f6.q 4 s4_7)
  refine go_reg [] [] [some (.int .i64 6),oF,oF,some (.int .i64 6),oF,oF,oF,some (.int .i64 6),oF,oF] mo f7.d f7.z f7.b (by kernel_rfl) trivial (
   hk (fun cx=>cx.q (ex_mv rfl (cx.rq 4 s4_12))) <|
   hk (fun cx=>cx.v (ex_eq (x:=.tmp 21) rfl (cx.u 0 rfl) rfl) rfl (congrArg Value.bool (by decide))) <|
   kmu 0 <|
   hk (fun cx=>cx.vy 0 (ex_mv rfl (cx.rq 4 s4_12))) <|
   hk (fun cx=>cx.vy 1 (ex_eq (x:=.tmp 24) rfl (cx.u 0 rfl) rfl) (congrArg Value.bool (by decide))) <|
   hk (fun cx=>cx.q (ex_pf rfl (cx.u 0 rfl) (cx.u 1 rfl))) <|
   kmu 0 <|
   hk (fun cx=>cx.vy 0 (ex_mv rfl (cx.rq 4 s4_12))) <|
   hk (fun cx=>cx.vy 1 (ex_eq (x:=.tmp 28) rfl (cx.u 0 rfl) rfl) (congrArg Value.bool (by decide))) <|
   hk (fun cx=>cx.q (ex_pf rfl (cx.u 0 rfl) (cx.u 1 rfl))) <|
   hn) ?_
  intro a8 w8 f8
  refine wp_cond_false (f8.v 9 rfl rfl rfl) ?_
  refine wp_skip ?_
  refine wp_seq ?_
  refine wp_seq ?_
  have s4_13:=f8.q 4 s4_12
  refine go_reg [] [] [some (.int .i64 6),oF,oF,some (.int .i64 6),oF,oF,oF,some (.int .i64 6),oF,oF,oF,some (.int .i64 6),oF,oF] mo f8.d f8.z f8.b (by kernel_rfl) trivial (
   hk (fun cx=>cx.q (ex_mv rfl (cx.rq 4 s4_13))) <|
   hk (fun cx=>cx.v (ex_eq (x:=.tmp 34) rfl (cx.u 0 rfl) rfl) rfl (congrArg Value.bool (by decide))) <|
   kmu 0 <|
   hk (fun cx=>cx.vy 0 (ex_mv rfl (cx.rq 4 s4_13))) <|
   hk (fun cx=>cx.vy 1 (ex_eq (x:=.tmp 37) rfl (cx.u 0 rfl) rfl) (congrArg Value.bool (by decide))) <|
   hk (fun cx=>cx.q (ex_pf rfl (cx.u 0 rfl) (cx.u 1 rfl))) <|
   kmu 0 <|
   hk (fun cx=>cx.vy 0 (ex_mv rfl (cx.rq 4 s4_13))) <|
   hk (fun cx=>cx.vy 1 (ex_eq (x:=.tmp 41) rfl (cx.u 0 rfl) rfl) (congrArg Value.bool (by decide))) <|
   hk (fun cx=>cx.q (ex_pf rfl (cx.u 0 rfl) (cx.u 1 rfl))) <|
   kmu 0 <|
   hk (fun cx=>cx.vy 0 (ex_mv rfl (cx.rq 4 s4_13))) <|
   hk (fun cx=>cx.vy 1 (ex_eq (x:=.tmp 45) rfl (cx.u 0 rfl) rfl) (congrArg Value.bool (by decide))) <|
   hk (fun cx=>cx.q (ex_pf rfl (cx.u 0 rfl) (cx.u 1 rfl))) <|
   hn) ?_
  intro a9 w9 f9
  refine wp_cond_false (f9.v 13 rfl rfl rfl) ?_
  refine wp_skip ?_
  refine wp_seq ?_
  refine wp_seq ?_
  have s4_14:=f9.q 4 s4_13
  refine go_reg [] [] [some (.int .i64 6),oF,oF,some (.int .i64 6),oF,oF] mo f9.d f9.z f9.b (by kernel_rfl) trivial (
   hk (fun cx=>cx.q (ex_mv rfl (cx.rq 4 s4_14))) <|
   hk (fun cx=>cx.v (ex_eq (x:=.tmp 51) rfl (cx.u 0 rfl) rfl) rfl (congrArg Value.bool (by decide))) <|
   kmu 0 <|
   hk (fun cx=>cx.vy 0 (ex_mv rfl (cx.rq 4 s4_14))) <|
   hk (fun cx=>cx.vy 1 (ex_eq (x:=.tmp 54) rfl (cx.u 0 rfl) rfl) (congrArg Value.bool (by decide))) <|
   hk (fun cx=>cx.q (ex_pf rfl (cx.u 0 rfl) (cx.u 1 rfl))) <|
   hn) ?_
  intro a10 w10 f10
  refine wp_cond_false (f10.v 5 rfl rfl rfl) ?_
  refine wp_skip ?_
  refine wp_seq ?_
  refine wp_seq ?_
  have s4_15:=f10.q 4 s4_14
  refine go_reg [] [] [some (.int .i64 6),oT,oT,oU,oU,oT] mo f10.d f10.z f10.b (by kernel_rfl) trivial (
   hk (fun cx=>cx.q (ex_mv rfl (cx.rq 4 s4_15))) <|
   hk (fun cx=>cx.v (ex_eq (x:=.tmp 60) rfl (cx.u 0 rfl) rfl) rfl (congrArg Value.bool (by decide))) <|
   kmu 0 <|
   kno 0 <|
   kno 1 <|
   hk (fun cx=>cx.q (ex_pt rfl (cx.u 0 rfl) rfl)) <|
   hn) ?_
  intro a11 w11 f11
  refine wp_cond_true (f11.v 5 rfl rfl rfl) ?_
  refine wp_seq ?_
  have b_g1_16:=f11.k (f10.k (f9.k (f8.k (f7.kp b_g1_8 ⟨.inl rfl,.inr (ne_row b_g1 q_g3),trivial⟩))))
  have b_g3_17:=f11.k (f10.k (f9.k (f8.k f7.rows.2.1)))
  have s1_18:=f11.q 1 (f10.q 1 (f9.q 1 (f8.q 1 (f7.q 1 s1_10))))
  have s3_19:=f11.q 3 (f10.q 3 (f9.q 3 (f8.q 3 (f7.q 3 s3_11))))
  refine go_reg [bx g1 24 (xC x),⟨g3,24,(xC ⟨x.op,x.w,x.dst,0,0,0,0,0⟩),some 3,(xC ⟨x.op,x.w,x.dst,0,x.base,0,0,0⟩)⟩] [] [some (pt g1 4),some (.int .i8 x.base),some (pt g3 4),none] mo f11.d f11.z f11.b (by kernel_rfl) ⟨b_g1_16,b_g3_17,trivial⟩ (
   hk (fun cx=>cx.q (ex_fa rfl (cx.rq 1 s1_18) (faEnC24_4_0 _ _))) <|
   hk (fun cx=>cx.q (ex_ld rfl (cx.u 0 rfl) (cx.rn 0 rfl) rfl Tryd.isAgg22)) <|
   hk (fun cx=>cx.q (ex_fa rfl (cx.rq 3 s3_19) (faEnC24_4_0 _ _))) <|
   hk (fun cx=>cx.stC (wn rfl) rfl rfl 1 rfl (cx.u 0 rfl) (cx.u 1 rfl) rfl rfl (by kernel_rfl) rfl rfl (Nat.le_trans f1.b.size q_g3) rfl ⟨(ne_row b_g1 q_g3),trivial⟩ trivial) <|
   hn) ?_
  intro a12 w12 f12
  have b_g1_20:=f12.kp b_g1_16 ⟨.inl rfl,.inr (ne_row b_g1 q_g3),trivial⟩
  have s1_21:=f12.q 1 s1_18
  have s3_22:=f12.q 3 s3_19
  refine go_reg [bx g1 24 (xC x),⟨g3,24,(xC ⟨x.op,x.w,x.dst,0,x.base,0,0,0⟩),some 3,(xC ⟨x.op,x.w,x.dst,0,x.base,x.disp,0,0⟩)⟩] [] [some (pt g1 5),some (.int .i64 x.disp),some (pt g3 5),none] mo f12.d f12.z f12.b (by kernel_rfl) ⟨b_g1_20,f12.rows.2.1,trivial⟩ (
   hk (fun cx=>cx.q (ex_fa rfl (cx.rq 1 s1_21) (faEnC24_5_0 _ _))) <|
   hk (fun cx=>cx.q (ex_ld rfl (cx.u 0 rfl) (cx.rn 0 rfl) rfl Tryd.isAgg3)) <|
   hk (fun cx=>cx.q (ex_fa rfl (cx.rq 3 s3_22) (faEnC24_5_0 _ _))) <|
   hk (fun cx=>cx.stC (wn rfl) rfl rfl 1 rfl (cx.u 0 rfl) (cx.u 1 rfl) rfl rfl (by kernel_rfl) rfl rfl (Nat.le_trans f1.b.size q_g3) rfl ⟨(ne_row b_g1 q_g3),trivial⟩ trivial) <|
   hn) ?_
  intro a13 w13 f13
  refine wp_seq ?_
  have b_g2_23:=f13.kp (f12.kp (f11.k (f10.k (f9.k (f8.k (f7.kp (f6.k (f5.kp (f4.k (f3.k (f2.k b_g2))) ⟨.inl rfl,.inr (ne_row b_g2 q_g3),trivial⟩)) ⟨.inl rfl,.inr (ne_row b_g2 q_g3),trivial⟩))))) ⟨.inl rfl,.inr (ne_row b_g2 q_g3),trivial⟩) ⟨.inl rfl,.inr (ne_row b_g2 q_g3),trivial⟩
  have s3_24:=f13.q 3 s3_22
  have s2_25:=f13.q 2 (f12.q 2 (f11.q 2 (f10.q 2 (f9.q 2 (f8.q 2 (f7.q 2 (f6.q 2 (f5.q 2 (f4.q 2 (f3.q 2 (f2.q 2 u_g2)))))))))))
  refine go_reg [bx g3 24 (xC ⟨x.op,x.w,x.dst,0,x.base,x.disp,0,0⟩),⟨g2,24,(xC zX),some 1,(xC ⟨x.op,x.w,x.dst,0,x.base,x.disp,0,0⟩)⟩] [] [some (.agg (xC ⟨x.op,x.w,x.dst,0,x.base,x.disp,0,0⟩)),none] mo f13.d f13.z f13.b (by kernel_rfl) ⟨f13.rows.2.1,b_g2_23,trivial⟩ (
   hk (fun cx=>cx.q (ldX rfl (cx.rq 3 s3_24) (cx.rn 0 rfl))) <|
   hk (fun cx=>cx.stR (wn rfl) rfl rfl 1 rfl (cx.rq 2 s2_25) (cx.u 0 rfl) (by kernel_rfl) (Eq.refl 8) (by simp [Value.oneCell']) q_g2 rfl ⟨(ne_row b_g2 q_g3).symm,trivial⟩ trivial) <|
   hn) ?_
  intro a14 w14 f14
  refine wp_ret ?_
  have s2_26:=f14.q 2 s2_25
  try simp only [Exit.inBlock,Exit.then]
  refine bodyPost_ret (res_c (fn:=Tryd.f35) rfl s2_26 (load_row 24 f14.rows.2.1 Tryd.underlying24 rfl (by kernel_rfl))) f14.d ?_
  exact ⟨rfl,f14.b⟩
theorem fld_7 (x:Xi):fldX 7 x=⟨x.op,x.w,0,x.src,x.base,x.disp,0,0⟩:=by unfold fldX;simp
set_option maxHeartbeats 4000000 in
theorem efld7 (x:Xi) (W:World) (eK:clsI x.op=7):Calls Tryd.prog 35 #[.agg (xC x)] W fun e w'=>e=.returned (.agg (xC ⟨x.op,x.w,0,x.src,x.base,x.disp,0,0⟩)) ∧ Below W.heap.size W w':=by
  refine calls_abs Tryd.func35 rfl (Nat.le_of_ble_eq_true rfl) ?_
  intro a0 d0 z0 h0
  replace z0:a0.tmps.size=73:=z0
  have s0_0:a0.tmps.getD 0 undef=.agg (xC x):=h0 0 (Nat.le_of_ble_eq_true rfl)
  refine wp_seq ?_
  refine go_reg [] [⟨0,1,24,(xC x),none,#[]⟩,⟨1,2,24,(xC zX),none,#[]⟩] [none,none] mo d0 z0 (Below.refl _ _) (by kernel_rfl) trivial (
   hk (fun cx=>cx.al (wn rfl) 0 rfl (ex_box rfl (cx.rq 0 s0_0) rfl) rfl rfl rfl rfl rfl trivial) <|
   hk (fun cx=>cx.al (wn rfl) 1 rfl (al_x rfl) rfl rfl rfl rfl rfl trivial) <|
   hn) ?_
  intro a1 w1 f1
  obtain ⟨g1,u_g1,q_g1,b_g1⟩:=f1.al.1
  obtain ⟨g2,u_g2,q_g2,b_g2⟩:=f1.al.2.1
  refine wp_seq ?_
  refine go_reg [bx g1 24 (xC x)] [⟨3,3,24,(xC zX),some 4,(xC ⟨x.op,0,0,0,0,0,0,0⟩)⟩] [some (pt g1 0),some (.int .i8 x.op),some (.agg (xC ⟨x.op,0,0,0,0,0,0,0⟩)),none,none] mo f1.d f1.z f1.b (by kernel_rfl) ⟨b_g1,trivial⟩ (
   hk (fun cx=>cx.q (ex_fa rfl (cx.rq 1 u_g1) (faEnC24_0_0 _ _))) <|
   hk (fun cx=>cx.q (ex_ld rfl (cx.u 0 rfl) (cx.rn 0 rfl) rfl Tryd.isAgg22)) <|
   hk (fun cx=>cx.q (exec_build rfl (parts1 (cx.u 0 rfl)) (by kernel_rfl))) <|
   hk (fun cx=>cx.al (wn rfl) 0 rfl (al_x rfl) rfl rfl rfl rfl (by kernel_rfl) trivial) <|
   hk (fun cx=>cx.stA (wn rfl) rfl rfl 0 0 rfl rfl rfl rfl (cx.u 1 rfl) (by kernel_rfl) (Eq.refl 8) (by simp [Value.oneCell']) f1.b.size rfl rfl trivial) <|
   hn) ?_
  intro a2 w2 f2
  obtain ⟨g3,u_g3,q_g3,b_g3⟩:=f2.al.1
  refine wp_seq ?_
  have b_g1_1:=f2.k b_g1
  have s1_2:=f2.q 1 u_g1
  refine go_reg [bx g1 24 (xC x)] [] [some (pt g1 0),some (.int .i8 x.op),some (.int .i64 7),some (.int .i64 7)] mo f2.d f2.z f2.b (by kernel_rfl) ⟨b_g1_1,trivial⟩ (
   hk (fun cx=>cx.q (ex_fa rfl (cx.rq 1 s1_2) (faEnC24_0_0 _ _))) <|
   hk (fun cx=>cx.q (ex_ld rfl (cx.u 0 rfl) (cx.rn 0 rfl) rfl Tryd.isAgg22)) <|
   hc (fun _ _ wx cx=>cx.c rfl (args1 (cx.u 0 rfl)) Tryd.func27 (by decide +kernel) (((cls_n x.op wx).mono (by rintro e w' ⟨rfl,rfl⟩;exact ⟨rfl,Below.refl _ _⟩))) rfl (congrArg (Value.int .i64) eK)) <|
   kmu 0 <|
   hn) ?_
  intro a3 w3 f3
  refine wp_seq ?_
  refine wp_seq ?_
  refine go_reg [] [] [some (.int .i64 7),oT] mo f3.d f3.z f3.b (by kernel_rfl) trivial (
   hk (fun cx=>cx.q (ex_mv rfl (cx.rq 4 (f3.v 3 rfl rfl rfl)))) <|
   hk (fun cx=>cx.v (ex_lt (x:=.tmp 11) rfl (cx.u 0 rfl) rfl) rfl (congrArg Value.bool (by decide))) <|
   hn) ?_
  intro a4 w4 f4
  refine wp_cond_true (f4.v 1 rfl rfl rfl) ?_
  have b_g1_3:=f4.k (f3.k b_g1_1)
  have b_g3_4:=f4.k (f3.k b_g3)
  have s1_5:=f4.q 1 (f3.q 1 s1_2)
  have s3_6:=f4.q 3 (f3.q 3 u_g3)
  refine go_reg [bx g1 24 (xC x),⟨g3,24,(xC ⟨x.op,0,0,0,0,0,0,0⟩),some 3,(xC ⟨x.op,x.w,0,0,0,0,0,0⟩)⟩] [] [some (pt g1 1),some (.int .i8 x.w),some (pt g3 1),none] mo f4.d f4.z f4.b (by kernel_rfl) ⟨b_g1_3,b_g3_4,trivial⟩ (
   hk (fun cx=>cx.q (ex_fa rfl (cx.rq 1 s1_5) (faEnC24_1_0 _ _))) <|
   hk (fun cx=>cx.q (ex_ld rfl (cx.u 0 rfl) (cx.rn 0 rfl) rfl Tryd.isAgg22)) <|
   hk (fun cx=>cx.q (ex_fa rfl (cx.rq 3 s3_6) (faEnC24_1_0 _ _))) <|
   hk (fun cx=>cx.stC (wn rfl) rfl rfl 1 rfl (cx.u 0 rfl) (cx.u 1 rfl) rfl rfl (by kernel_rfl) rfl rfl (Nat.le_trans f1.b.size q_g3) rfl ⟨(ne_row b_g1 q_g3),trivial⟩ trivial) <|
   hn) ?_
  intro a5 w5 f5
  refine wp_seq ?_
  refine wp_seq ?_
  have s4_7:=f5.q 4 (f4.q 4 (f3.v 3 rfl rfl rfl))
  refine go_reg [] [] [some (.int .i64 7),oF] mo f5.d f5.z f5.b (by kernel_rfl) trivial (
   hk (fun cx=>cx.q (ex_mv rfl (cx.rq 4 s4_7))) <|
   hk (fun cx=>cx.v (ex_le (x:=.tmp 16) rfl (cx.u 0 rfl) rfl) rfl (congrArg Value.bool (by decide))) <|
   hn) ?_
  intro a6 w6 f6
  refine wp_cond_false (f6.v 1 rfl rfl rfl) ?_
  refine wp_skip ?_
  refine wp_seq ?_
  refine wp_seq ?_
  have s4_8:=f6.q 4 s4_7
  refine go_reg [] [] [some (.int .i64 7),oF,oF,some (.int .i64 7),oF,oF,oF,some (.int .i64 7),oT,oT] mo f6.d f6.z f6.b (by kernel_rfl) trivial (
   hk (fun cx=>cx.q (ex_mv rfl (cx.rq 4 s4_8))) <|
   hk (fun cx=>cx.v (ex_eq (x:=.tmp 21) rfl (cx.u 0 rfl) rfl) rfl (congrArg Value.bool (by decide))) <|
   kmu 0 <|
   hk (fun cx=>cx.vy 0 (ex_mv rfl (cx.rq 4 s4_8))) <|
   hk (fun cx=>cx.vy 1 (ex_eq (x:=.tmp 24) rfl (cx.u 0 rfl) rfl) (congrArg Value.bool (by decide))) <|
   hk (fun cx=>cx.q (ex_pf rfl (cx.u 0 rfl) (cx.u 1 rfl))) <|
   kmu 0 <|
   hk (fun cx=>cx.vy 0 (ex_mv rfl (cx.rq 4 s4_8))) <|
   hk (fun cx=>cx.vy 1 (ex_eq (x:=.tmp 28) rfl (cx.u 0 rfl) rfl) (congrArg Value.bool (by decide))) <|
   hk (fun cx=>cx.q (ex_pf rfl (cx.u 0 rfl) (cx.u 1 rfl))) <|
   hn) ?_
  intro a7 w7 f7
  refine wp_cond_true (f7.v 9 rfl rfl rfl) ?_
  have b_g1_9:=f7.k (f6.k (f5.kp b_g1_3 ⟨.inl rfl,.inr (ne_row b_g1 q_g3),trivial⟩))
  have b_g3_10:=f7.k (f6.k f5.rows.2.1)
  have s1_11:=f7.q 1 (f6.q 1 (f5.q 1 s1_5))
  have s3_12:=f7.q 3 (f6.q 3 (f5.q 3 s3_6))
  refine go_reg [bx g1 24 (xC x),⟨g3,24,(xC ⟨x.op,x.w,0,0,0,0,0,0⟩),some 3,(xC ⟨x.op,x.w,0,x.src,0,0,0,0⟩)⟩] [] [some (pt g1 3),some (.int .i8 x.src),some (pt g3 3),none] mo f7.d f7.z f7.b (by kernel_rfl) ⟨b_g1_9,b_g3_10,trivial⟩ (
   hk (fun cx=>cx.q (ex_fa rfl (cx.rq 1 s1_11) (faEnC24_3_0 _ _))) <|
   hk (fun cx=>cx.q (ex_ld rfl (cx.u 0 rfl) (cx.rn 0 rfl) rfl Tryd.isAgg22)) <|
   hk (fun cx=>cx.q (ex_fa rfl (cx.rq 3 s3_12) (faEnC24_3_0 _ _))) <|
   hk (fun cx=>cx.stC (wn rfl) rfl rfl 1 rfl (cx.u 0 rfl) (cx.u 1 rfl) rfl rfl (by kernel_rfl) rfl rfl (Nat.le_trans f1.b.size q_g3) rfl ⟨(ne_row b_g1 q_g3),trivial⟩ trivial) <|
   hn) ?_
  intro a8 w8 f8
  refine wp_seq ?_
  refine wp_seq ?_
  have s4_13:=f8.q 4 (f7.q 4 s4_8)
  refine go_reg [] [] [some (.int .i64 7),oF,oF,some (.int .i64 7),oF,oF,oF,some (.int .i64 7),oF,oF,oF,some (.int .i64 7),oF,oF] mo f8.d f8.z f8.b (by kernel_rfl) trivial (
   hk (fun cx=>cx.q (ex_mv rfl (cx.rq 4 s4_13))) <|
   hk (fun cx=>cx.v (ex_eq (x:=.tmp 34) rfl (cx.u 0 rfl) rfl) rfl (congrArg Value.bool (by decide))) <|
   kmu 0 <|
   hk (fun cx=>cx.vy 0 (ex_mv rfl (cx.rq 4 s4_13))) <|
   hk (fun cx=>cx.vy 1 (ex_eq (x:=.tmp 37) rfl (cx.u 0 rfl) rfl) (congrArg Value.bool (by decide))) <|
   hk (fun cx=>cx.q (ex_pf rfl (cx.u 0 rfl) (cx.u 1 rfl))) <|
   kmu 0 <|
   hk (fun cx=>cx.vy 0 (ex_mv rfl (cx.rq 4 s4_13))) <|
   hk (fun cx=>cx.vy 1 (ex_eq (x:=.tmp 41) rfl (cx.u 0 rfl) rfl) (congrArg Value.bool (by decide))) <|
   hk (fun cx=>cx.q (ex_pf rfl (cx.u 0 rfl) (cx.u 1 rfl))) <|
   kmu 0 <|
   hk (fun cx=>cx.vy 0 (ex_mv rfl (cx.rq 4 s4_13))) <|
   hk (fun cx=>cx.vy 1 (ex_eq (x:=.tmp 45) rfl (cx.u 0 rfl) rfl) (congrArg Value.bool (by decide))) <|
   hk (fun cx=>cx.q (ex_pf rfl (cx.u 0 rfl) (cx.u 1 rfl))) <|
   hn) ?_
  intro a9 w9 f9
  refine wp_cond_false (f9.v 13 rfl rfl rfl) ?_
  refine wp_skip ?_
  refine wp_seq ?_
  refine wp_seq ?_
  have s4_14:=f9.q 4 s4_13
  refine go_reg [] [] [some (.int .i64 7),oF,oF,some (.int .i64 7),oF,oF] mo f9.d f9.z f9.b (by kernel_rfl) trivial (
   hk (fun cx=>cx.q (ex_mv rfl (cx.rq 4 s4_14))) <|
   hk (fun cx=>cx.v (ex_eq (x:=.tmp 51) rfl (cx.u 0 rfl) rfl) rfl (congrArg Value.bool (by decide))) <|
   kmu 0 <|
   hk (fun cx=>cx.vy 0 (ex_mv rfl (cx.rq 4 s4_14))) <|
   hk (fun cx=>cx.vy 1 (ex_eq (x:=.tmp 54) rfl (cx.u 0 rfl) rfl) (congrArg Value.bool (by decide))) <|
   hk (fun cx=>cx.q (ex_pf rfl (cx.u 0 rfl) (cx.u 1 rfl))) <|
   hn) ?_
  intro a10 w10 f10
  refine wp_cond_false (f10.v 5 rfl rfl rfl) ?_
  refine wp_skip ?_
  refine wp_seq ?_
  refine wp_seq ?_
  have s4_15:=f10.q 4 s4_14
  refine go_reg [] [] [some (.int .i64 7),oF,oF,some (.int .i64 7),oT,oT] mo f10.d f10.z f10.b (by kernel_rfl) trivial (
   hk (fun cx=>cx.q (ex_mv rfl (cx.rq 4 s4_15))) <|
   hk (fun cx=>cx.v (ex_eq (x:=.tmp 60) rfl (cx.u 0 rfl) rfl) rfl (congrArg Value.bool (by decide))) <|
   kmu 0 <|
   hk (fun cx=>cx.vy 0 (ex_mv rfl (cx.rq 4 s4_15))) <|
   hk (fun cx=>cx.vy 1 (ex_eq (x:=.tmp 63) rfl (cx.u 0 rfl) rfl) (congrArg Value.bool (by decide))) <|
   hk (fun cx=>cx.q (ex_pf rfl (cx.u 0 rfl) (cx.u 1 rfl))) <|
   hn) ?_
  intro a11 w11 f11
  refine wp_cond_true (f11.v 5 rfl rfl rfl) ?_
  refine wp_seq ?_
  have b_g1_16:=f11.k (f10.k (f9.k (f8.kp b_g1_9 ⟨.inl rfl,.inr (ne_row b_g1 q_g3),trivial⟩)))
  have b_g3_17:=f11.k (f10.k (f9.k f8.rows.2.1))
  have s1_18:=f11.q 1 (f10.q 1 (f9.q 1 (f8.q 1 s1_11)))
  have s3_19:=f11.q 3 (f10.q 3 (f9.q 3 (f8.q 3 s3_12)))
  refine go_reg [bx g1 24 (xC x),⟨g3,24,(xC ⟨x.op,x.w,0,x.src,0,0,0,0⟩),some 3,(xC ⟨x.op,x.w,0,x.src,x.base,0,0,0⟩)⟩] [] [some (pt g1 4),some (.int .i8 x.base),some (pt g3 4),none] mo f11.d f11.z f11.b (by kernel_rfl) ⟨b_g1_16,b_g3_17,trivial⟩ (
   hk (fun cx=>cx.q (ex_fa rfl (cx.rq 1 s1_18) (faEnC24_4_0 _ _))) <|
   hk (fun cx=>cx.q (ex_ld rfl (cx.u 0 rfl) (cx.rn 0 rfl) rfl Tryd.isAgg22)) <|
   hk (fun cx=>cx.q (ex_fa rfl (cx.rq 3 s3_19) (faEnC24_4_0 _ _))) <|
   hk (fun cx=>cx.stC (wn rfl) rfl rfl 1 rfl (cx.u 0 rfl) (cx.u 1 rfl) rfl rfl (by kernel_rfl) rfl rfl (Nat.le_trans f1.b.size q_g3) rfl ⟨(ne_row b_g1 q_g3),trivial⟩ trivial) <|
   hn) ?_
  intro a12 w12 f12
  have b_g1_20:=f12.kp b_g1_16 ⟨.inl rfl,.inr (ne_row b_g1 q_g3),trivial⟩
  have s1_21:=f12.q 1 s1_18
  have s3_22:=f12.q 3 s3_19
  refine go_reg [bx g1 24 (xC x),⟨g3,24,(xC ⟨x.op,x.w,0,x.src,x.base,0,0,0⟩),some 3,(xC ⟨x.op,x.w,0,x.src,x.base,x.disp,0,0⟩)⟩] [] [some (pt g1 5),some (.int .i64 x.disp),some (pt g3 5),none] mo f12.d f12.z f12.b (by kernel_rfl) ⟨b_g1_20,f12.rows.2.1,trivial⟩ (
   hk (fun cx=>cx.q (ex_fa rfl (cx.rq 1 s1_21) (faEnC24_5_0 _ _))) <|
   hk (fun cx=>cx.q (ex_ld rfl (cx.u 0 rfl) (cx.rn 0 rfl) rfl Tryd.isAgg3)) <|
   hk (fun cx=>cx.q (ex_fa rfl (cx.rq 3 s3_22) (faEnC24_5_0 _ _))) <|
   hk (fun cx=>cx.stC (wn rfl) rfl rfl 1 rfl (cx.u 0 rfl) (cx.u 1 rfl) rfl rfl (by kernel_rfl) rfl rfl (Nat.le_trans f1.b.size q_g3) rfl ⟨(ne_row b_g1 q_g3),trivial⟩ trivial) <|
   hn) ?_
  intro a13 w13 f13
  refine wp_seq ?_
  have b_g2_23:=f13.kp (f12.kp (f11.k (f10.k (f9.k (f8.kp (f7.k (f6.k (f5.kp (f4.k (f3.k (f2.k b_g2))) ⟨.inl rfl,.inr (ne_row b_g2 q_g3),trivial⟩))) ⟨.inl rfl,.inr (ne_row b_g2 q_g3),trivial⟩)))) ⟨.inl rfl,.inr (ne_row b_g2 q_g3),trivial⟩) ⟨.inl rfl,.inr (ne_row b_g2 q_g3),trivial⟩
  have s3_24:=f13.q 3 s3_22
  have s2_25:=f13.q 2 (f12.q 2 (f11.q 2 (f10.q 2 (f9.q 2 (f8.q 2 (f7.q 2 (f6.q 2 (f5.q 2 (f4.q 2 (f3.q 2 (f2.q 2 u_g2)))))))))))
  refine go_reg [bx g3 24 (xC ⟨x.op,x.w,0,x.src,x.base,x.disp,0,0⟩),⟨g2,24,(xC zX),some 1,(xC ⟨x.op,x.w,0,x.src,x.base,x.disp,0,0⟩)⟩] [] [some (.agg (xC ⟨x.op,x.w,0,x.src,x.base,x.disp,0,0⟩)),none] mo f13.d f13.z f13.b (by kernel_rfl) ⟨f13.rows.2.1,b_g2_23,trivial⟩ (
   hk (fun cx=>cx.q (ldX rfl (cx.rq 3 s3_24) (cx.rn 0 rfl))) <|
   hk (fun cx=>cx.stR (wn rfl) rfl rfl 1 rfl (cx.rq 2 s2_25) (cx.u 0 rfl) (by kernel_rfl) (Eq.refl 8) (by simp [Value.oneCell']) q_g2 rfl ⟨(ne_row b_g2 q_g3).symm,trivial⟩ trivial) <|
   hn) ?_
  intro a14 w14 f14
  refine wp_ret ?_
  have s2_26:=f14.q 2 s2_25
  try simp only [Exit.inBlock,Exit.then]
  refine bodyPost_ret (res_c (fn:=Tryd.f35) rfl s2_26 (load_row 24 f14.rows.2.1 Tryd.underlying24 rfl (by kernel_rfl))) f14.d ?_
  exact ⟨rfl,f14.b⟩
theorem fld_8 (x:Xi):fldX 8 x=⟨x.op,x.w,0,0,0,0,x.imm,0⟩:=by unfold fldX;simp
set_option maxHeartbeats 4000000 in
theorem efld8 (x:Xi) (W:World) (eK:clsI x.op=8):Calls Tryd.prog 35 #[.agg (xC x)] W fun e w'=>e=.returned (.agg (xC ⟨x.op,x.w,0,0,0,0,x.imm,0⟩)) ∧ Below W.heap.size W w':=by
  refine calls_abs Tryd.func35 rfl (Nat.le_of_ble_eq_true rfl) ?_
  intro a0 d0 z0 h0
  replace z0:a0.tmps.size=73:=z0
  have s0_0:a0.tmps.getD 0 undef=.agg (xC x):=h0 0 (Nat.le_of_ble_eq_true rfl)
  refine wp_seq ?_
  refine go_reg [] [⟨0,1,24,(xC x),none,#[]⟩,⟨1,2,24,(xC zX),none,#[]⟩] [none,none] mo d0 z0 (Below.refl _ _) (by kernel_rfl) trivial (
   hk (fun cx=>cx.al (wn rfl) 0 rfl (ex_box rfl (cx.rq 0 s0_0) rfl) rfl rfl rfl rfl rfl trivial) <|
   hk (fun cx=>cx.al (wn rfl) 1 rfl (al_x rfl) rfl rfl rfl rfl rfl trivial) <|
   hn) ?_
  intro a1 w1 f1
  obtain ⟨g1,u_g1,q_g1,b_g1⟩:=f1.al.1
  obtain ⟨g2,u_g2,q_g2,b_g2⟩:=f1.al.2.1
  refine wp_seq ?_
  refine go_reg [bx g1 24 (xC x)] [⟨3,3,24,(xC zX),some 4,(xC ⟨x.op,0,0,0,0,0,0,0⟩)⟩] [some (pt g1 0),some (.int .i8 x.op),some (.agg (xC ⟨x.op,0,0,0,0,0,0,0⟩)),none,none] mo f1.d f1.z f1.b (by kernel_rfl) ⟨b_g1,trivial⟩ (
   hk (fun cx=>cx.q (ex_fa rfl (cx.rq 1 u_g1) (faEnC24_0_0 _ _))) <|
   hk (fun cx=>cx.q (ex_ld rfl (cx.u 0 rfl) (cx.rn 0 rfl) rfl Tryd.isAgg22)) <|
   hk (fun cx=>cx.q (exec_build rfl (parts1 (cx.u 0 rfl)) (by kernel_rfl))) <|
   hk (fun cx=>cx.al (wn rfl) 0 rfl (al_x rfl) rfl rfl rfl rfl (by kernel_rfl) trivial) <|
   hk (fun cx=>cx.stA (wn rfl) rfl rfl 0 0 rfl rfl rfl rfl (cx.u 1 rfl) (by kernel_rfl) (Eq.refl 8) (by simp [Value.oneCell']) f1.b.size rfl rfl trivial) <|
   hn) ?_
  intro a2 w2 f2
  obtain ⟨g3,u_g3,q_g3,b_g3⟩:=f2.al.1
  refine wp_seq ?_
  have b_g1_1:=f2.k b_g1
  have s1_2:=f2.q 1 u_g1
  refine go_reg [bx g1 24 (xC x)] [] [some (pt g1 0),some (.int .i8 x.op),some (.int .i64 8),some (.int .i64 8)] mo f2.d f2.z f2.b (by kernel_rfl) ⟨b_g1_1,trivial⟩ (
   hk (fun cx=>cx.q (ex_fa rfl (cx.rq 1 s1_2) (faEnC24_0_0 _ _))) <|
   hk (fun cx=>cx.q (ex_ld rfl (cx.u 0 rfl) (cx.rn 0 rfl) rfl Tryd.isAgg22)) <|
   hc (fun _ _ wx cx=>cx.c rfl (args1 (cx.u 0 rfl)) Tryd.func27 (by decide +kernel) (((cls_n x.op wx).mono (by rintro e w' ⟨rfl,rfl⟩;exact ⟨rfl,Below.refl _ _⟩))) rfl (congrArg (Value.int .i64) eK)) <|
   kmu 0 <|
   hn) ?_
  intro a3 w3 f3
  refine wp_seq ?_
  refine wp_seq ?_
  refine go_reg [] [] [some (.int .i64 8),oT] mo f3.d f3.z f3.b (by kernel_rfl) trivial (
   hk (fun cx=>cx.q (ex_mv rfl (cx.rq 4 (f3.v 3 rfl rfl rfl)))) <|
   hk (fun cx=>cx.v (ex_lt (x:=.tmp 11) rfl (cx.u 0 rfl) rfl) rfl (congrArg Value.bool (by decide))) <|
   hn) ?_
  intro a4 w4 f4
  refine wp_cond_true (f4.v 1 rfl rfl rfl) ?_
  have b_g1_3:=f4.k (f3.k b_g1_1)
  have b_g3_4:=f4.k (f3.k b_g3)
  have s1_5:=f4.q 1 (f3.q 1 s1_2)
  have s3_6:=f4.q 3 (f3.q 3 u_g3)
  refine go_reg [bx g1 24 (xC x),⟨g3,24,(xC ⟨x.op,0,0,0,0,0,0,0⟩),some 3,(xC ⟨x.op,x.w,0,0,0,0,0,0⟩)⟩] [] [some (pt g1 1),some (.int .i8 x.w),some (pt g3 1),none] mo f4.d f4.z f4.b (by kernel_rfl) ⟨b_g1_3,b_g3_4,trivial⟩ (
   hk (fun cx=>cx.q (ex_fa rfl (cx.rq 1 s1_5) (faEnC24_1_0 _ _))) <|
   hk (fun cx=>cx.q (ex_ld rfl (cx.u 0 rfl) (cx.rn 0 rfl) rfl Tryd.isAgg22)) <|
   hk (fun cx=>cx.q (ex_fa rfl (cx.rq 3 s3_6) (faEnC24_1_0 _ _))) <|
   hk (fun cx=>cx.stC (wn rfl) rfl rfl 1 rfl (cx.u 0 rfl) (cx.u 1 rfl) rfl rfl (by kernel_rfl) rfl rfl (Nat.le_trans f1.b.size q_g3) rfl ⟨(ne_row b_g1 q_g3),trivial⟩ trivial) <|
   hn) ?_
  intro a5 w5 f5
  refine wp_seq ?_
  refine wp_seq ?_
  have s4_7:=f5.q 4 (f4.q 4 (f3.v 3 rfl rfl rfl))
  refine go_reg [] [] [some (.int .i64 8),oF] mo f5.d f5.z f5.b (by kernel_rfl) trivial (
   hk (fun cx=>cx.q (ex_mv rfl (cx.rq 4 s4_7))) <|
   hk (fun cx=>cx.v (ex_le (x:=.tmp 16) rfl (cx.u 0 rfl) rfl) rfl (congrArg Value.bool (by decide))) <|
   hn) ?_
  intro a6 w6 f6
  refine wp_cond_false (f6.v 1 rfl rfl rfl) ?_
  refine wp_skip ?_
  refine wp_seq ?_
  refine wp_seq ?_
  have s4_8:=f6.q 4 s4_7
  refine go_reg [] [] [some (.int .i64 8),oF,oF,some (.int .i64 8),oF,oF,oF,some (.int .i64 8),oF,oF] mo f6.d f6.z f6.b (by kernel_rfl) trivial (
   hk (fun cx=>cx.q (ex_mv rfl (cx.rq 4 s4_8))) <|
   hk (fun cx=>cx.v (ex_eq (x:=.tmp 21) rfl (cx.u 0 rfl) rfl) rfl (congrArg Value.bool (by decide))) <|
   kmu 0 <|
   hk (fun cx=>cx.vy 0 (ex_mv rfl (cx.rq 4 s4_8))) <|
   hk (fun cx=>cx.vy 1 (ex_eq (x:=.tmp 24) rfl (cx.u 0 rfl) rfl) (congrArg Value.bool (by decide))) <|
   hk (fun cx=>cx.q (ex_pf rfl (cx.u 0 rfl) (cx.u 1 rfl))) <|
   kmu 0 <|
   hk (fun cx=>cx.vy 0 (ex_mv rfl (cx.rq 4 s4_8))) <|
   hk (fun cx=>cx.vy 1 (ex_eq (x:=.tmp 28) rfl (cx.u 0 rfl) rfl) (congrArg Value.bool (by decide))) <|
   hk (fun cx=>cx.q (ex_pf rfl (cx.u 0 rfl) (cx.u 1 rfl))) <|
   hn) ?_
  intro a7 w7 f7
  refine wp_cond_false (f7.v 9 rfl rfl rfl) ?_
  refine wp_skip ?_
  refine wp_seq ?_
  refine wp_seq ?_
  have s4_9:=f7.q 4 s4_8
  refine go_reg [] [] [some (.int .i64 8),oF,oF,some (.int .i64 8),oF,oF,oF,some (.int .i64 8),oT,oT,oT,oU,oU,oT] mo f7.d f7.z f7.b (by kernel_rfl) trivial (
   hk (fun cx=>cx.q (ex_mv rfl (cx.rq 4 s4_9))) <|
   hk (fun cx=>cx.v (ex_eq (x:=.tmp 34) rfl (cx.u 0 rfl) rfl) rfl (congrArg Value.bool (by decide))) <|
   kmu 0 <|
   hk (fun cx=>cx.vy 0 (ex_mv rfl (cx.rq 4 s4_9))) <|
   hk (fun cx=>cx.vy 1 (ex_eq (x:=.tmp 37) rfl (cx.u 0 rfl) rfl) (congrArg Value.bool (by decide))) <|
   hk (fun cx=>cx.q (ex_pf rfl (cx.u 0 rfl) (cx.u 1 rfl))) <|
   kmu 0 <|
   hk (fun cx=>cx.vy 0 (ex_mv rfl (cx.rq 4 s4_9))) <|
   hk (fun cx=>cx.vy 1 (ex_eq (x:=.tmp 41) rfl (cx.u 0 rfl) rfl) (congrArg Value.bool (by decide))) <|
   hk (fun cx=>cx.q (ex_pf rfl (cx.u 0 rfl) (cx.u 1 rfl))) <|
   kmu 0 <|
   kno 0 <|
   kno 1 <|
   hk (fun cx=>cx.q (ex_pt rfl (cx.u 0 rfl) rfl)) <|
   hn) ?_
  intro a8 w8 f8
  refine wp_cond_true (f8.v 13 rfl rfl rfl) ?_
  have b_g1_10:=f8.k (f7.k (f6.k (f5.kp b_g1_3 ⟨.inl rfl,.inr (ne_row b_g1 q_g3),trivial⟩)))
  have b_g3_11:=f8.k (f7.k (f6.k f5.rows.2.1))
  have s1_12:=f8.q 1 (f7.q 1 (f6.q 1 (f5.q 1 s1_5)))
  have s3_13:=f8.q 3 (f7.q 3 (f6.q 3 (f5.q 3 s3_6)))
  refine go_reg [bx g1 24 (xC x),⟨g3,24,(xC ⟨x.op,x.w,0,0,0,0,0,0⟩),some 3,(xC ⟨x.op,x.w,0,0,0,0,x.imm,0⟩)⟩] [] [some (pt g1 6),some (.int .i64 x.imm),some (pt g3 6),none] mo f8.d f8.z f8.b (by kernel_rfl) ⟨b_g1_10,b_g3_11,trivial⟩ (
   hk (fun cx=>cx.q (ex_fa rfl (cx.rq 1 s1_12) (faEnC24_6_0 _ _))) <|
   hk (fun cx=>cx.q (ex_ld rfl (cx.u 0 rfl) (cx.rn 0 rfl) rfl Tryd.isAgg3)) <|
   hk (fun cx=>cx.q (ex_fa rfl (cx.rq 3 s3_13) (faEnC24_6_0 _ _))) <|
   hk (fun cx=>cx.stC (wn rfl) rfl rfl 1 rfl (cx.u 0 rfl) (cx.u 1 rfl) rfl rfl (by kernel_rfl) rfl rfl (Nat.le_trans f1.b.size q_g3) rfl ⟨(ne_row b_g1 q_g3),trivial⟩ trivial) <|
   hn) ?_
  intro a9 w9 f9
  refine wp_seq ?_
  refine wp_seq ?_
  have s4_14:=f9.q 4 (f8.q 4 s4_9)
  refine go_reg [] [] [some (.int .i64 8),oF,oF,some (.int .i64 8),oF,oF] mo f9.d f9.z f9.b (by kernel_rfl) trivial (
   hk (fun cx=>cx.q (ex_mv rfl (cx.rq 4 s4_14))) <|
   hk (fun cx=>cx.v (ex_eq (x:=.tmp 51) rfl (cx.u 0 rfl) rfl) rfl (congrArg Value.bool (by decide))) <|
   kmu 0 <|
   hk (fun cx=>cx.vy 0 (ex_mv rfl (cx.rq 4 s4_14))) <|
   hk (fun cx=>cx.vy 1 (ex_eq (x:=.tmp 54) rfl (cx.u 0 rfl) rfl) (congrArg Value.bool (by decide))) <|
   hk (fun cx=>cx.q (ex_pf rfl (cx.u 0 rfl) (cx.u 1 rfl))) <|
   hn) ?_
  intro a10 w10 f10
  refine wp_cond_false (f10.v 5 rfl rfl rfl) ?_
  refine wp_skip ?_
  refine wp_seq ?_
  refine wp_seq ?_
  have s4_15:=f10.q 4 s4_14
  refine go_reg [] [] [some (.int .i64 8),oF,oF,some (.int .i64 8),oF,oF] mo f10.d f10.z f10.b (by kernel_rfl) trivial (
   hk (fun cx=>cx.q (ex_mv rfl (cx.rq 4 s4_15))) <|
   hk (fun cx=>cx.v (ex_eq (x:=.tmp 60) rfl (cx.u 0 rfl) rfl) rfl (congrArg Value.bool (by decide))) <|
   kmu 0 <|
   hk (fun cx=>cx.vy 0 (ex_mv rfl (cx.rq 4 s4_15))) <|
   hk (fun cx=>cx.vy 1 (ex_eq (x:=.tmp 63) rfl (cx.u 0 rfl) rfl) (congrArg Value.bool (by decide))) <|
   hk (fun cx=>cx.q (ex_pf rfl (cx.u 0 rfl) (cx.u 1 rfl))) <|
   hn) ?_
  intro a11 w11 f11
  refine wp_cond_false (f11.v 5 rfl rfl rfl) ?_
  refine wp_skip ?_
  refine wp_seq ?_
  have b_g3_16:=f11.k (f10.k f9.rows.2.1)
  have b_g2_17:=f11.k (f10.k (f9.kp (f8.k (f7.k (f6.k (f5.kp (f4.k (f3.k (f2.k b_g2))) ⟨.inl rfl,.inr (ne_row b_g2 q_g3),trivial⟩)))) ⟨.inl rfl,.inr (ne_row b_g2 q_g3),trivial⟩))
  have s3_18:=f11.q 3 (f10.q 3 (f9.q 3 s3_13))
  have s2_19:=f11.q 2 (f10.q 2 (f9.q 2 (f8.q 2 (f7.q 2 (f6.q 2 (f5.q 2 (f4.q 2 (f3.q 2 (f2.q 2 u_g2)))))))))
  refine go_reg [bx g3 24 (xC ⟨x.op,x.w,0,0,0,0,x.imm,0⟩),⟨g2,24,(xC zX),some 1,(xC ⟨x.op,x.w,0,0,0,0,x.imm,0⟩)⟩] [] [some (.agg (xC ⟨x.op,x.w,0,0,0,0,x.imm,0⟩)),none] mo f11.d f11.z f11.b (by kernel_rfl) ⟨b_g3_16,b_g2_17,trivial⟩ (
   hk (fun cx=>cx.q (ldX rfl (cx.rq 3 s3_18) (cx.rn 0 rfl))) <|
   hk (fun cx=>cx.stR (wn rfl) rfl rfl 1 rfl (cx.rq 2 s2_19) (cx.u 0 rfl) (by kernel_rfl) (Eq.refl 8) (by simp [Value.oneCell']) q_g2 rfl ⟨(ne_row b_g2 q_g3).symm,trivial⟩ trivial) <|
   hn) ?_
  intro a12 w12 f12
  refine wp_ret ?_
  have s2_20:=f12.q 2 s2_19
  try simp only [Exit.inBlock,Exit.then]
  refine bodyPost_ret (res_c (fn:=Tryd.f35) rfl s2_20 (load_row 24 f12.rows.2.1 Tryd.underlying24 rfl (by kernel_rfl))) f12.d ?_
  exact ⟨rfl,f12.b⟩
theorem fld_9 (x:Xi):fldX 9 x=⟨x.op,x.w,0,0,0,0,x.imm,x.cc⟩:=by unfold fldX;simp
set_option maxHeartbeats 4000000 in
theorem efld9 (x:Xi) (W:World) (eK:clsI x.op=9):Calls Tryd.prog 35 #[.agg (xC x)] W fun e w'=>e=.returned (.agg (xC ⟨x.op,x.w,0,0,0,0,x.imm,x.cc⟩)) ∧ Below W.heap.size W w':=by
  refine calls_abs Tryd.func35 rfl (Nat.le_of_ble_eq_true rfl) ?_
  intro a0 d0 z0 h0
  replace z0:a0.tmps.size=73:=z0
  have s0_0:a0.tmps.getD 0 undef=.agg (xC x):=h0 0 (Nat.le_of_ble_eq_true rfl)
  refine wp_seq ?_
  refine go_reg [] [⟨0,1,24,(xC x),none,#[]⟩,⟨1,2,24,(xC zX),none,#[]⟩] [none,none] mo d0 z0 (Below.refl _ _) (by kernel_rfl) trivial (
   hk (fun cx=>cx.al (wn rfl) 0 rfl (ex_box rfl (cx.rq 0 s0_0) rfl) rfl rfl rfl rfl rfl trivial) <|
   hk (fun cx=>cx.al (wn rfl) 1 rfl (al_x rfl) rfl rfl rfl rfl rfl trivial) <|
   hn) ?_
  intro a1 w1 f1
  obtain ⟨g1,u_g1,q_g1,b_g1⟩:=f1.al.1
  obtain ⟨g2,u_g2,q_g2,b_g2⟩:=f1.al.2.1
  refine wp_seq ?_
  refine go_reg [bx g1 24 (xC x)] [⟨3,3,24,(xC zX),some 4,(xC ⟨x.op,0,0,0,0,0,0,0⟩)⟩] [some (pt g1 0),some (.int .i8 x.op),some (.agg (xC ⟨x.op,0,0,0,0,0,0,0⟩)),none,none] mo f1.d f1.z f1.b (by kernel_rfl) ⟨b_g1,trivial⟩ (
   hk (fun cx=>cx.q (ex_fa rfl (cx.rq 1 u_g1) (faEnC24_0_0 _ _))) <|
   hk (fun cx=>cx.q (ex_ld rfl (cx.u 0 rfl) (cx.rn 0 rfl) rfl Tryd.isAgg22)) <|
   hk (fun cx=>cx.q (exec_build rfl (parts1 (cx.u 0 rfl)) (by kernel_rfl))) <|
   hk (fun cx=>cx.al (wn rfl) 0 rfl (al_x rfl) rfl rfl rfl rfl (by kernel_rfl) trivial) <|
   hk (fun cx=>cx.stA (wn rfl) rfl rfl 0 0 rfl rfl rfl rfl (cx.u 1 rfl) (by kernel_rfl) (Eq.refl 8) (by simp [Value.oneCell']) f1.b.size rfl rfl trivial) <|
   hn) ?_
  intro a2 w2 f2
  obtain ⟨g3,u_g3,q_g3,b_g3⟩:=f2.al.1
  refine wp_seq ?_
  have b_g1_1:=f2.k b_g1
  have s1_2:=f2.q 1 u_g1
  refine go_reg [bx g1 24 (xC x)] [] [some (pt g1 0),some (.int .i8 x.op),some (.int .i64 9),some (.int .i64 9)] mo f2.d f2.z f2.b (by kernel_rfl) ⟨b_g1_1,trivial⟩ (
   hk (fun cx=>cx.q (ex_fa rfl (cx.rq 1 s1_2) (faEnC24_0_0 _ _))) <|
   hk (fun cx=>cx.q (ex_ld rfl (cx.u 0 rfl) (cx.rn 0 rfl) rfl Tryd.isAgg22)) <|
   hc (fun _ _ wx cx=>cx.c rfl (args1 (cx.u 0 rfl)) Tryd.func27 (by decide +kernel) (((cls_n x.op wx).mono (by rintro e w' ⟨rfl,rfl⟩;exact ⟨rfl,Below.refl _ _⟩))) rfl (congrArg (Value.int .i64) eK)) <|
   kmu 0 <|
   hn) ?_
  intro a3 w3 f3
  refine wp_seq ?_
  refine wp_seq ?_
  refine go_reg [] [] [some (.int .i64 9),oT] mo f3.d f3.z f3.b (by kernel_rfl) trivial (
   hk (fun cx=>cx.q (ex_mv rfl (cx.rq 4 (f3.v 3 rfl rfl rfl)))) <|
   hk (fun cx=>cx.v (ex_lt (x:=.tmp 11) rfl (cx.u 0 rfl) rfl) rfl (congrArg Value.bool (by decide))) <|
   hn) ?_
  intro a4 w4 f4
  refine wp_cond_true (f4.v 1 rfl rfl rfl) ?_
  have b_g1_3:=f4.k (f3.k b_g1_1)
  have b_g3_4:=f4.k (f3.k b_g3)
  have s1_5:=f4.q 1 (f3.q 1 s1_2)
  have s3_6:=f4.q 3 (f3.q 3 u_g3)
  refine go_reg [bx g1 24 (xC x),⟨g3,24,(xC ⟨x.op,0,0,0,0,0,0,0⟩),some 3,(xC ⟨x.op,x.w,0,0,0,0,0,0⟩)⟩] [] [some (pt g1 1),some (.int .i8 x.w),some (pt g3 1),none] mo f4.d f4.z f4.b (by kernel_rfl) ⟨b_g1_3,b_g3_4,trivial⟩ (
   hk (fun cx=>cx.q (ex_fa rfl (cx.rq 1 s1_5) (faEnC24_1_0 _ _))) <|
   hk (fun cx=>cx.q (ex_ld rfl (cx.u 0 rfl) (cx.rn 0 rfl) rfl Tryd.isAgg22)) <|
   hk (fun cx=>cx.q (ex_fa rfl (cx.rq 3 s3_6) (faEnC24_1_0 _ _))) <|
   hk (fun cx=>cx.stC (wn rfl) rfl rfl 1 rfl (cx.u 0 rfl) (cx.u 1 rfl) rfl rfl (by kernel_rfl) rfl rfl (Nat.le_trans f1.b.size q_g3) rfl ⟨(ne_row b_g1 q_g3),trivial⟩ trivial) <|
   hn) ?_
  intro a5 w5 f5
  refine wp_seq ?_
  refine wp_seq ?_
  have s4_7:=f5.q 4 (f4.q 4 (f3.v 3 rfl rfl rfl))
  refine go_reg [] [] [some (.int .i64 9),oF] mo f5.d f5.z f5.b (by kernel_rfl) trivial (
   hk (fun cx=>cx.q (ex_mv rfl (cx.rq 4 s4_7))) <|
   hk (fun cx=>cx.v (ex_le (x:=.tmp 16) rfl (cx.u 0 rfl) rfl) rfl (congrArg Value.bool (by decide))) <|
   hn) ?_
  intro a6 w6 f6
  refine wp_cond_false (f6.v 1 rfl rfl rfl) ?_
  refine wp_skip ?_
  refine wp_seq ?_
  refine wp_seq ?_
  have s4_8:=f6.q 4 s4_7
  refine go_reg [] [] [some (.int .i64 9),oF,oF,some (.int .i64 9),oF,oF,oF,some (.int .i64 9),oF,oF] mo f6.d f6.z f6.b (by kernel_rfl) trivial (
   hk (fun cx=>cx.q (ex_mv rfl (cx.rq 4 s4_8))) <|
   hk (fun cx=>cx.v (ex_eq (x:=.tmp 21) rfl (cx.u 0 rfl) rfl) rfl (congrArg Value.bool (by decide))) <|
   kmu 0 <|
   hk (fun cx=>cx.vy 0 (ex_mv rfl (cx.rq 4 s4_8))) <|
   hk (fun cx=>cx.vy 1 (ex_eq (x:=.tmp 24) rfl (cx.u 0 rfl) rfl) (congrArg Value.bool (by decide))) <|
   hk (fun cx=>cx.q (ex_pf rfl (cx.u 0 rfl) (cx.u 1 rfl))) <|
   kmu 0 <|
   hk (fun cx=>cx.vy 0 (ex_mv rfl (cx.rq 4 s4_8))) <|
   hk (fun cx=>cx.vy 1 (ex_eq (x:=.tmp 28) rfl (cx.u 0 rfl) rfl) (congrArg Value.bool (by decide))) <|
   hk (fun cx=>cx.q (ex_pf rfl (cx.u 0 rfl) (cx.u 1 rfl))) <|
   hn) ?_
  intro a7 w7 f7
  refine wp_cond_false (f7.v 9 rfl rfl rfl) ?_
  refine wp_skip ?_
  refine wp_seq ?_
  refine wp_seq ?_
  have s4_9:=f7.q 4 s4_8
  refine go_reg [] [] [some (.int .i64 9),oF,oF,some (.int .i64 9),oF,oF,oF,some (.int .i64 9),oF,oF,oF,some (.int .i64 9),oT,oT] mo f7.d f7.z f7.b (by kernel_rfl) trivial (
   hk (fun cx=>cx.q (ex_mv rfl (cx.rq 4 s4_9))) <|
   hk (fun cx=>cx.v (ex_eq (x:=.tmp 34) rfl (cx.u 0 rfl) rfl) rfl (congrArg Value.bool (by decide))) <|
   kmu 0 <|
   hk (fun cx=>cx.vy 0 (ex_mv rfl (cx.rq 4 s4_9))) <|
   hk (fun cx=>cx.vy 1 (ex_eq (x:=.tmp 37) rfl (cx.u 0 rfl) rfl) (congrArg Value.bool (by decide))) <|
   hk (fun cx=>cx.q (ex_pf rfl (cx.u 0 rfl) (cx.u 1 rfl))) <|
   kmu 0 <|
   hk (fun cx=>cx.vy 0 (ex_mv rfl (cx.rq 4 s4_9))) <|
   hk (fun cx=>cx.vy 1 (ex_eq (x:=.tmp 41) rfl (cx.u 0 rfl) rfl) (congrArg Value.bool (by decide))) <|
   hk (fun cx=>cx.q (ex_pf rfl (cx.u 0 rfl) (cx.u 1 rfl))) <|
   kmu 0 <|
   hk (fun cx=>cx.vy 0 (ex_mv rfl (cx.rq 4 s4_9))) <|
   hk (fun cx=>cx.vy 1 (ex_eq (x:=.tmp 45) rfl (cx.u 0 rfl) rfl) (congrArg Value.bool (by decide))) <|
   hk (fun cx=>cx.q (ex_pf rfl (cx.u 0 rfl) (cx.u 1 rfl))) <|
   hn) ?_
  intro a8 w8 f8
  refine wp_cond_true (f8.v 13 rfl rfl rfl) ?_
  have b_g1_10:=f8.k (f7.k (f6.k (f5.kp b_g1_3 ⟨.inl rfl,.inr (ne_row b_g1 q_g3),trivial⟩)))
  have b_g3_11:=f8.k (f7.k (f6.k f5.rows.2.1))
  have s1_12:=f8.q 1 (f7.q 1 (f6.q 1 (f5.q 1 s1_5)))
  have s3_13:=f8.q 3 (f7.q 3 (f6.q 3 (f5.q 3 s3_6)))
  refine go_reg [bx g1 24 (xC x),⟨g3,24,(xC ⟨x.op,x.w,0,0,0,0,0,0⟩),some 3,(xC ⟨x.op,x.w,0,0,0,0,x.imm,0⟩)⟩] [] [some (pt g1 6),some (.int .i64 x.imm),some (pt g3 6),none] mo f8.d f8.z f8.b (by kernel_rfl) ⟨b_g1_10,b_g3_11,trivial⟩ (
   hk (fun cx=>cx.q (ex_fa rfl (cx.rq 1 s1_12) (faEnC24_6_0 _ _))) <|
   hk (fun cx=>cx.q (ex_ld rfl (cx.u 0 rfl) (cx.rn 0 rfl) rfl Tryd.isAgg3)) <|
   hk (fun cx=>cx.q (ex_fa rfl (cx.rq 3 s3_13) (faEnC24_6_0 _ _))) <|
   hk (fun cx=>cx.stC (wn rfl) rfl rfl 1 rfl (cx.u 0 rfl) (cx.u 1 rfl) rfl rfl (by kernel_rfl) rfl rfl (Nat.le_trans f1.b.size q_g3) rfl ⟨(ne_row b_g1 q_g3),trivial⟩ trivial) <|
   hn) ?_
  intro a9 w9 f9
  refine wp_seq ?_
  refine wp_seq ?_
  have s4_14:=f9.q 4 (f8.q 4 s4_9)
  refine go_reg [] [] [some (.int .i64 9),oF,oF,some (.int .i64 9),oT,oT] mo f9.d f9.z f9.b (by kernel_rfl) trivial (
   hk (fun cx=>cx.q (ex_mv rfl (cx.rq 4 s4_14))) <|
   hk (fun cx=>cx.v (ex_eq (x:=.tmp 51) rfl (cx.u 0 rfl) rfl) rfl (congrArg Value.bool (by decide))) <|
   kmu 0 <|
   hk (fun cx=>cx.vy 0 (ex_mv rfl (cx.rq 4 s4_14))) <|
   hk (fun cx=>cx.vy 1 (ex_eq (x:=.tmp 54) rfl (cx.u 0 rfl) rfl) (congrArg Value.bool (by decide))) <|
   hk (fun cx=>cx.q (ex_pf rfl (cx.u 0 rfl) (cx.u 1 rfl))) <|
   hn) ?_
  intro a10 w10 f10
  refine wp_cond_true (f10.v 5 rfl rfl rfl) ?_
  have b_g1_15:=f10.k (f9.kp b_g1_10 ⟨.inl rfl,.inr (ne_row b_g1 q_g3),trivial⟩)
  have b_g3_16:=f10.k f9.rows.2.1
  have s1_17:=f10.q 1 (f9.q 1 s1_12)
  have s3_18:=f10.q 3 (f9.q 3 s3_13)
  refine go_reg [bx g1 24 (xC x),⟨g3,24,(xC ⟨x.op,x.w,0,0,0,0,x.imm,0⟩),some 3,(xC ⟨x.op,x.w,0,0,0,0,x.imm,x.cc⟩)⟩] [] [some (pt g1 7),some (.int .i8 x.cc),some (pt g3 7),none] mo f10.d f10.z f10.b (by kernel_rfl) ⟨b_g1_15,b_g3_16,trivial⟩ (
   hk (fun cx=>cx.q (ex_fa rfl (cx.rq 1 s1_17) (faEnC24_7_0 _ _))) <|
   hk (fun cx=>cx.q (ex_ld rfl (cx.u 0 rfl) (cx.rn 0 rfl) rfl Tryd.isAgg22)) <|
   hk (fun cx=>cx.q (ex_fa rfl (cx.rq 3 s3_18) (faEnC24_7_0 _ _))) <|
   hk (fun cx=>cx.stC (wn rfl) rfl rfl 1 rfl (cx.u 0 rfl) (cx.u 1 rfl) rfl rfl (by kernel_rfl) rfl rfl (Nat.le_trans f1.b.size q_g3) rfl ⟨(ne_row b_g1 q_g3),trivial⟩ trivial) <|
   hn) ?_
  intro a11 w11 f11
  refine wp_seq ?_
  refine wp_seq ?_
  have s4_19:=f11.q 4 (f10.q 4 s4_14)
  refine go_reg [] [] [some (.int .i64 9),oF,oF,some (.int .i64 9),oF,oF] mo f11.d f11.z f11.b (by kernel_rfl) trivial (
   hk (fun cx=>cx.q (ex_mv rfl (cx.rq 4 s4_19))) <|
   hk (fun cx=>cx.v (ex_eq (x:=.tmp 60) rfl (cx.u 0 rfl) rfl) rfl (congrArg Value.bool (by decide))) <|
   kmu 0 <|
   hk (fun cx=>cx.vy 0 (ex_mv rfl (cx.rq 4 s4_19))) <|
   hk (fun cx=>cx.vy 1 (ex_eq (x:=.tmp 63) rfl (cx.u 0 rfl) rfl) (congrArg Value.bool (by decide))) <|
   hk (fun cx=>cx.q (ex_pf rfl (cx.u 0 rfl) (cx.u 1 rfl))) <|
   hn) ?_
  intro a12 w12 f12
  refine wp_cond_false (f12.v 5 rfl rfl rfl) ?_
  refine wp_skip ?_
  refine wp_seq ?_
  have b_g3_20:=f12.k f11.rows.2.1
  have b_g2_21:=f12.k (f11.kp (f10.k (f9.kp (f8.k (f7.k (f6.k (f5.kp (f4.k (f3.k (f2.k b_g2))) ⟨.inl rfl,.inr (ne_row b_g2 q_g3),trivial⟩)))) ⟨.inl rfl,.inr (ne_row b_g2 q_g3),trivial⟩)) ⟨.inl rfl,.inr (ne_row b_g2 q_g3),trivial⟩)
  have s3_22:=f12.q 3 (f11.q 3 s3_18)
  have s2_23:=f12.q 2 (f11.q 2 (f10.q 2 (f9.q 2 (f8.q 2 (f7.q 2 (f6.q 2 (f5.q 2 (f4.q 2 (f3.q 2 (f2.q 2 u_g2))))))))))
  refine go_reg [bx g3 24 (xC ⟨x.op,x.w,0,0,0,0,x.imm,x.cc⟩),⟨g2,24,(xC zX),some 1,(xC ⟨x.op,x.w,0,0,0,0,x.imm,x.cc⟩)⟩] [] [some (.agg (xC ⟨x.op,x.w,0,0,0,0,x.imm,x.cc⟩)),none] mo f12.d f12.z f12.b (by kernel_rfl) ⟨b_g3_20,b_g2_21,trivial⟩ (
   hk (fun cx=>cx.q (ldX rfl (cx.rq 3 s3_22) (cx.rn 0 rfl))) <|
   hk (fun cx=>cx.stR (wn rfl) rfl rfl 1 rfl (cx.rq 2 s2_23) (cx.u 0 rfl) (by kernel_rfl) (Eq.refl 8) (by simp [Value.oneCell']) q_g2 rfl ⟨(ne_row b_g2 q_g3).symm,trivial⟩ trivial) <|
   hn) ?_
  intro a13 w13 f13
  refine wp_ret ?_
  have s2_24:=f13.q 2 s2_23
  try simp only [Exit.inBlock,Exit.then]
  refine bodyPost_ret (res_c (fn:=Tryd.f35) rfl s2_24 (load_row 24 f13.rows.2.1 Tryd.underlying24 rfl (by kernel_rfl))) f13.d ?_
  exact ⟨rfl,f13.b⟩
theorem fld_10 (x:Xi):fldX 10 x=⟨x.op,0,0,0,0,0,0,0⟩:=by unfold fldX;simp
set_option maxHeartbeats 4000000 in
theorem efld10 (x:Xi) (W:World) (eK:clsI x.op=10):Calls Tryd.prog 35 #[.agg (xC x)] W fun e w'=>e=.returned (.agg (xC ⟨x.op,0,0,0,0,0,0,0⟩)) ∧ Below W.heap.size W w':=by
  refine calls_abs Tryd.func35 rfl (Nat.le_of_ble_eq_true rfl) ?_
  intro a0 d0 z0 h0
  replace z0:a0.tmps.size=73:=z0
  have s0_0:a0.tmps.getD 0 undef=.agg (xC x):=h0 0 (Nat.le_of_ble_eq_true rfl)
  refine wp_seq ?_
  refine go_reg [] [⟨0,1,24,(xC x),none,#[]⟩,⟨1,2,24,(xC zX),none,#[]⟩] [none,none] mo d0 z0 (Below.refl _ _) (by kernel_rfl) trivial (
   hk (fun cx=>cx.al (wn rfl) 0 rfl (ex_box rfl (cx.rq 0 s0_0) rfl) rfl rfl rfl rfl rfl trivial) <|
   hk (fun cx=>cx.al (wn rfl) 1 rfl (al_x rfl) rfl rfl rfl rfl rfl trivial) <|
   hn) ?_
  intro a1 w1 f1
  obtain ⟨g1,u_g1,q_g1,b_g1⟩:=f1.al.1
  obtain ⟨g2,u_g2,q_g2,b_g2⟩:=f1.al.2.1
  refine wp_seq ?_
  refine go_reg [bx g1 24 (xC x)] [⟨3,3,24,(xC zX),some 4,(xC ⟨x.op,0,0,0,0,0,0,0⟩)⟩] [some (pt g1 0),some (.int .i8 x.op),some (.agg (xC ⟨x.op,0,0,0,0,0,0,0⟩)),none,none] mo f1.d f1.z f1.b (by kernel_rfl) ⟨b_g1,trivial⟩ (
   hk (fun cx=>cx.q (ex_fa rfl (cx.rq 1 u_g1) (faEnC24_0_0 _ _))) <|
   hk (fun cx=>cx.q (ex_ld rfl (cx.u 0 rfl) (cx.rn 0 rfl) rfl Tryd.isAgg22)) <|
   hk (fun cx=>cx.q (exec_build rfl (parts1 (cx.u 0 rfl)) (by kernel_rfl))) <|
   hk (fun cx=>cx.al (wn rfl) 0 rfl (al_x rfl) rfl rfl rfl rfl (by kernel_rfl) trivial) <|
   hk (fun cx=>cx.stA (wn rfl) rfl rfl 0 0 rfl rfl rfl rfl (cx.u 1 rfl) (by kernel_rfl) (Eq.refl 8) (by simp [Value.oneCell']) f1.b.size rfl rfl trivial) <|
   hn) ?_
  intro a2 w2 f2
  obtain ⟨g3,u_g3,q_g3,b_g3⟩:=f2.al.1
  refine wp_seq ?_
  have b_g1_1:=f2.k b_g1
  have s1_2:=f2.q 1 u_g1
  refine go_reg [bx g1 24 (xC x)] [] [some (pt g1 0),some (.int .i8 x.op),some (.int .i64 10),some (.int .i64 10)] mo f2.d f2.z f2.b (by kernel_rfl) ⟨b_g1_1,trivial⟩ (
   hk (fun cx=>cx.q (ex_fa rfl (cx.rq 1 s1_2) (faEnC24_0_0 _ _))) <|
   hk (fun cx=>cx.q (ex_ld rfl (cx.u 0 rfl) (cx.rn 0 rfl) rfl Tryd.isAgg22)) <|
   hc (fun _ _ wx cx=>cx.c rfl (args1 (cx.u 0 rfl)) Tryd.func27 (by decide +kernel) (((cls_n x.op wx).mono (by rintro e w' ⟨rfl,rfl⟩;exact ⟨rfl,Below.refl _ _⟩))) rfl (congrArg (Value.int .i64) eK)) <|
   kmu 0 <|
   hn) ?_
  intro a3 w3 f3
  refine wp_seq ?_
  refine wp_seq ?_
  refine go_reg [] [] [some (.int .i64 10),oF] mo f3.d f3.z f3.b (by kernel_rfl) trivial (
   hk (fun cx=>cx.q (ex_mv rfl (cx.rq 4 (f3.v 3 rfl rfl rfl)))) <|
   hk (fun cx=>cx.v (ex_lt (x:=.tmp 11) rfl (cx.u 0 rfl) rfl) rfl (congrArg Value.bool (by decide))) <|
   hn) ?_
  intro a4 w4 f4
  refine wp_cond_false (f4.v 1 rfl rfl rfl) ?_
  refine wp_skip ?_
  refine wp_seq ?_
  refine wp_seq ?_
  have s4_3:=f4.q 4 (f3.v 3 rfl rfl rfl)
  refine go_reg [] [] [some (.int .i64 10),oF] mo f4.d f4.z f4.b (by kernel_rfl) trivial (
   hk (fun cx=>cx.q (ex_mv rfl (cx.rq 4 s4_3))) <|
   hk (fun cx=>cx.v (ex_le (x:=.tmp 16) rfl (cx.u 0 rfl) rfl) rfl (congrArg Value.bool (by decide))) <|
   hn) ?_
  intro a5 w5 f5
  refine wp_cond_false (f5.v 1 rfl rfl rfl) ?_
  refine wp_skip ?_
  refine wp_seq ?_
  refine wp_seq ?_
  have s4_4:=f5.q 4 s4_3
  refine go_reg [] [] [some (.int .i64 10),oF,oF,some (.int .i64 10),oF,oF,oF,some (.int .i64 10),oF,oF] mo f5.d f5.z f5.b (by kernel_rfl) trivial (
   hk (fun cx=>cx.q (ex_mv rfl (cx.rq 4 s4_4))) <|
   hk (fun cx=>cx.v (ex_eq (x:=.tmp 21) rfl (cx.u 0 rfl) rfl) rfl (congrArg Value.bool (by decide))) <|
   kmu 0 <|
   hk (fun cx=>cx.vy 0 (ex_mv rfl (cx.rq 4 s4_4))) <|
   hk (fun cx=>cx.vy 1 (ex_eq (x:=.tmp 24) rfl (cx.u 0 rfl) rfl) (congrArg Value.bool (by decide))) <|
   hk (fun cx=>cx.q (ex_pf rfl (cx.u 0 rfl) (cx.u 1 rfl))) <|
   kmu 0 <|
   hk (fun cx=>cx.vy 0 (ex_mv rfl (cx.rq 4 s4_4))) <|
   hk (fun cx=>cx.vy 1 (ex_eq (x:=.tmp 28) rfl (cx.u 0 rfl) rfl) (congrArg Value.bool (by decide))) <|
   hk (fun cx=>cx.q (ex_pf rfl (cx.u 0 rfl) (cx.u 1 rfl))) <|
   hn) ?_
  intro a6 w6 f6
  refine wp_cond_false (f6.v 9 rfl rfl rfl) ?_
  refine wp_skip ?_
  refine wp_seq ?_
  refine wp_seq ?_
  have s4_5:=f6.q 4 s4_4
  refine go_reg [] [] [some (.int .i64 10),oF,oF,some (.int .i64 10),oF,oF,oF,some (.int .i64 10),oF,oF,oF,some (.int .i64 10),oF,oF] mo f6.d f6.z f6.b (by kernel_rfl) trivial (
   hk (fun cx=>cx.q (ex_mv rfl (cx.rq 4 s4_5))) <|
   hk (fun cx=>cx.v (ex_eq (x:=.tmp 34) rfl (cx.u 0 rfl) rfl) rfl (congrArg Value.bool (by decide))) <|
   kmu 0 <|
   hk (fun cx=>cx.vy 0 (ex_mv rfl (cx.rq 4 s4_5))) <|
   hk (fun cx=>cx.vy 1 (ex_eq (x:=.tmp 37) rfl (cx.u 0 rfl) rfl) (congrArg Value.bool (by decide))) <|
   hk (fun cx=>cx.q (ex_pf rfl (cx.u 0 rfl) (cx.u 1 rfl))) <|
   kmu 0 <|
   hk (fun cx=>cx.vy 0 (ex_mv rfl (cx.rq 4 s4_5))) <|
   hk (fun cx=>cx.vy 1 (ex_eq (x:=.tmp 41) rfl (cx.u 0 rfl) rfl) (congrArg Value.bool (by decide))) <|
   hk (fun cx=>cx.q (ex_pf rfl (cx.u 0 rfl) (cx.u 1 rfl))) <|
   kmu 0 <|
   hk (fun cx=>cx.vy 0 (ex_mv rfl (cx.rq 4 s4_5))) <|
   hk (fun cx=>cx.vy 1 (ex_eq (x:=.tmp 45) rfl (cx.u 0 rfl) rfl) (congrArg Value.bool (by decide))) <|
   hk (fun cx=>cx.q (ex_pf rfl (cx.u 0 rfl) (cx.u 1 rfl))) <|
   hn) ?_
  intro a7 w7 f7
  refine wp_cond_false (f7.v 13 rfl rfl rfl) ?_
  refine wp_skip ?_
  refine wp_seq ?_
  refine wp_seq ?_
  have s4_6:=f7.q 4 s4_5
  refine go_reg [] [] [some (.int .i64 10),oF,oF,some (.int .i64 10),oF,oF] mo f7.d f7.z f7.b (by kernel_rfl) trivial (
   hk (fun cx=>cx.q (ex_mv rfl (cx.rq 4 s4_6))) <|
   hk (fun cx=>cx.v (ex_eq (x:=.tmp 51) rfl (cx.u 0 rfl) rfl) rfl (congrArg Value.bool (by decide))) <|
   kmu 0 <|
   hk (fun cx=>cx.vy 0 (ex_mv rfl (cx.rq 4 s4_6))) <|
   hk (fun cx=>cx.vy 1 (ex_eq (x:=.tmp 54) rfl (cx.u 0 rfl) rfl) (congrArg Value.bool (by decide))) <|
   hk (fun cx=>cx.q (ex_pf rfl (cx.u 0 rfl) (cx.u 1 rfl))) <|
   hn) ?_
  intro a8 w8 f8
  refine wp_cond_false (f8.v 5 rfl rfl rfl) ?_
  refine wp_skip ?_
  refine wp_seq ?_
  refine wp_seq ?_
  have s4_7:=f8.q 4 s4_6
  refine go_reg [] [] [some (.int .i64 10),oF,oF,some (.int .i64 10),oF,oF] mo f8.d f8.z f8.b (by kernel_rfl) trivial (
   hk (fun cx=>cx.q (ex_mv rfl (cx.rq 4 s4_7))) <|
   hk (fun cx=>cx.v (ex_eq (x:=.tmp 60) rfl (cx.u 0 rfl) rfl) rfl (congrArg Value.bool (by decide))) <|
   kmu 0 <|
   hk (fun cx=>cx.vy 0 (ex_mv rfl (cx.rq 4 s4_7))) <|
   hk (fun cx=>cx.vy 1 (ex_eq (x:=.tmp 63) rfl (cx.u 0 rfl) rfl) (congrArg Value.bool (by decide))) <|
   hk (fun cx=>cx.q (ex_pf rfl (cx.u 0 rfl) (cx.u 1 rfl))) <|
   hn) ?_
  intro a9 w9 f9
  refine wp_cond_false (f9.v 5 rfl rfl rfl) ?_
  refine wp_skip ?_
  refine wp_seq ?_
  have b_g3_8:=f9.k (f8.k (f7.k (f6.k (f5.k (f4.k (f3.k b_g3))))))
  have b_g2_9:=f9.k (f8.k (f7.k (f6.k (f5.k (f4.k (f3.k (f2.k b_g2)))))))
  have s3_10:=f9.q 3 (f8.q 3 (f7.q 3 (f6.q 3 (f5.q 3 (f4.q 3 (f3.q 3 u_g3))))))
  have s2_11:=f9.q 2 (f8.q 2 (f7.q 2 (f6.q 2 (f5.q 2 (f4.q 2 (f3.q 2 (f2.q 2 u_g2)))))))
  refine go_reg [bx g3 24 (xC ⟨x.op,0,0,0,0,0,0,0⟩),⟨g2,24,(xC zX),some 1,(xC ⟨x.op,0,0,0,0,0,0,0⟩)⟩] [] [some (.agg (xC ⟨x.op,0,0,0,0,0,0,0⟩)),none] mo f9.d f9.z f9.b (by kernel_rfl) ⟨b_g3_8,b_g2_9,trivial⟩ (
   hk (fun cx=>cx.q (ldX rfl (cx.rq 3 s3_10) (cx.rn 0 rfl))) <|
   hk (fun cx=>cx.stR (wn rfl) rfl rfl 1 rfl (cx.rq 2 s2_11) (cx.u 0 rfl) (by kernel_rfl) (Eq.refl 8) (by simp [Value.oneCell']) q_g2 rfl ⟨(ne_row b_g2 q_g3).symm,trivial⟩ trivial) <|
   hn) ?_
  intro a10 w10 f10
  refine wp_ret ?_
  have s2_12:=f10.q 2 s2_11
  try simp only [Exit.inBlock,Exit.then]
  refine bodyPost_ret (res_c (fn:=Tryd.f35) rfl s2_12 (load_row 24 f10.rows.2.1 Tryd.underlying24 rfl (by kernel_rfl))) f10.d ?_
  exact ⟨rfl,f10.b⟩
theorem efld_n (x:Xi) (W:World):Calls Tryd.prog 35 #[.agg (xC x)] W fun e w'=>e=.returned (.agg (xC (fldX (clsI x.op) x))) ∧ Below W.heap.size W w':=by
  rcases clsI_cases x.op with h | h | h | h | h | h | h | h | h | h | h
  · rw [h,fld_0];exact efld0 x W h
  · rw [h,fld_1];exact efld1 x W h
  · rw [h,fld_2];exact efld2 x W h
  · rw [h,fld_3];exact efld3 x W h
  · rw [h,fld_4];exact efld4 x W h
  · rw [h,fld_5];exact efld5 x W h
  · rw [h,fld_6];exact efld6 x W h
  · rw [h,fld_7];exact efld7 x W h
  · rw [h,fld_8];exact efld8 x W h
  · rw [h,fld_9];exact efld9 x W h
  · rw [h,fld_10];exact efld10 x W h
end Go.Proofs.YtjhjpllgoakncaaDoor.Mrm
