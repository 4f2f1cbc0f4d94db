import Derived.Test.YtbpehbeakhocnaaGreatDoorIRm06
import Derived.Lib.Hide
set_option maxHeartbeats 4000000
set_option linter.unusedVariables false
set_option linter.unusedSimpArgs false
set_option linter.unnecessarySimpa false
namespace Go.Proofs.YtbpehbeakhocnaaGreatDoor.Mrm
open Go Go.RowKit
set_option maxRecDepth 100000
theorem cls_n (op:Int) (W:World):Calls Tryz.prog 29 #[.int .i8 op] W fun e w'=>e=.returned (.int .i64 (clsI op)) ∧ W=w':=by
  by_cases h:0 ≤ op ∧ op < 32
  · rcases lt32 h with rfl | rfl | rfl | rfl | rfl | rfl | rfl | rfl | rfl | rfl | rfl | rfl | rfl | rfl | rfl | rfl | rfl | rfl | rfl | rfl | rfl | rfl | rfl | rfl | rfl | rfl | rfl | rfl | rfl | rfl | rfl | rfl
    all_goals (
      clear h
      go_enter Tryz.func29,Tryz.ntmps29
      go_wp2
      go_ret
      exact ⟨rfl,rfl⟩)
  · rw [show clsI op=0 from if_neg h]
    have n0:=ne32 h 0 (by decide)
    have n1:=ne32 h 1 (by decide)
    have n2:=ne32 h 2 (by decide)
    have n3:=ne32 h 3 (by decide)
    have n4:=ne32 h 4 (by decide)
    have n5:=ne32 h 5 (by decide)
    have n6:=ne32 h 6 (by decide)
    have n7:=ne32 h 7 (by decide)
    have n8:=ne32 h 8 (by decide)
    have n9:=ne32 h 9 (by decide)
    have n10:=ne32 h 10 (by decide)
    have n11:=ne32 h 11 (by decide)
    have n12:=ne32 h 12 (by decide)
    have n13:=ne32 h 13 (by decide)
    have n14:=ne32 h 14 (by decide)
    have n15:=ne32 h 15 (by decide)
    have n16:=ne32 h 16 (by decide)
    have n17:=ne32 h 17 (by decide)
    have n18:=ne32 h 18 (by decide)
    have n19:=ne32 h 19 (by decide)
    have n20:=ne32 h 20 (by decide)
    have n21:=ne32 h 21 (by decide)
    have n22:=ne32 h 22 (by decide)
    have n23:=ne32 h 23 (by decide)
    have n24:=ne32 h 24 (by decide)
    have n25:=ne32 h 25 (by decide)
    have n26:=ne32 h 26 (by decide)
    have n27:=ne32 h 27 (by decide)
    have n28:=ne32 h 28 (by decide)
    have n29:=ne32 h 29 (by decide)
    have n30:=ne32 h 30 (by decide)
    have n31:=ne32 h 31 (by decide)
    clear h
    go_enter Tryz.func29,Tryz.ntmps29
    go_wp2
    go_ret
    exact ⟨rfl,rfl⟩
theorem cod_n (op:Int) (W:World):Calls Tryz.prog 115 #[.int .i8 op] W fun e w'=>e=.returned (.int .u8 (codI op)) ∧ W=w':=by
  by_cases h:0 ≤ op ∧ op < 32
  · rcases lt32 h with rfl | rfl | rfl | rfl | rfl | rfl | rfl | rfl | rfl | rfl | rfl | rfl | rfl | rfl | rfl | rfl | rfl | rfl | rfl | rfl | rfl | rfl | rfl | rfl | rfl | rfl | rfl | rfl | rfl | rfl | rfl | rfl
    all_goals (
      clear h
      go_enter Tryz.func115,Tryz.ntmps115
      go_wp2
      go_ret
      exact ⟨rfl,rfl⟩)
  · rw [show codI op=0 from if_neg h]
    have n0:=ne32 h 0 (by decide)
    have n1:=ne32 h 1 (by decide)
    have n2:=ne32 h 2 (by decide)
    have n3:=ne32 h 3 (by decide)
    have n4:=ne32 h 4 (by decide)
    have n5:=ne32 h 5 (by decide)
    have n6:=ne32 h 6 (by decide)
    have n7:=ne32 h 7 (by decide)
    have n8:=ne32 h 8 (by decide)
    have n9:=ne32 h 9 (by decide)
    have n10:=ne32 h 10 (by decide)
    have n11:=ne32 h 11 (by decide)
    have n12:=ne32 h 12 (by decide)
    have n13:=ne32 h 13 (by decide)
    have n14:=ne32 h 14 (by decide)
    have n15:=ne32 h 15 (by decide)
    have n16:=ne32 h 16 (by decide)
    have n17:=ne32 h 17 (by decide)
    have n18:=ne32 h 18 (by decide)
    have n19:=ne32 h 19 (by decide)
    have n20:=ne32 h 20 (by decide)
    have n21:=ne32 h 21 (by decide)
    have n22:=ne32 h 22 (by decide)
    have n23:=ne32 h 23 (by decide)
    have n24:=ne32 h 24 (by decide)
    have n25:=ne32 h 25 (by decide)
    have n26:=ne32 h 26 (by decide)
    have n27:=ne32 h 27 (by decide)
    have n28:=ne32 h 28 (by decide)
    have n29:=ne32 h 29 (by decide)
    have n30:=ne32 h 30 (by decide)
    have n31:=ne32 h 31 (by decide)
    clear h
    go_enter Tryz.func115,Tryz.ntmps115
    go_wp2
    go_ret
    exact ⟨rfl,rfl⟩
theorem ereg_n (n:Int) (W:World):Calls Tryz.prog 64 #[.int .i8 n] W fun e w'=>e=.returned (.bool (regB n)) ∧ Below W.heap.size W w':=by
  refine calls_abs Tryz.func64 rfl (Nat.le_of_ble_eq_true rfl) ?_
  intro a0 d0 z0 h0
  replace z0:a0.tmps.size=9:=z0
  have s0_0:a0.tmps.getD 0 undef=.int .i8 n:=h0 0 (Nat.le_of_ble_eq_true rfl)
  refine wp_seq ?_
  refine go_reg [] [] [oF] mo d0 z0 (Below.refl _ _) (by kernel_rfl) trivial (
   hk (fun cx=>cx.q (ex_as rfl rfl)) <|
   hn) ?_
  intro a1 w1 f1
  refine wp_seq ?_
  cases fk1:decide (0 ≤ n)
  case false=>
   have Ffk1:=Lib.hid fk1;clear fk1
   have s0_1:=f1.q 0 s0_0
   refine go_reg [] [] [some (.int .i8 n),oF,oF,oU,oU,oF,oF] mo f1.d f1.z f1.b (by kernel_rfl) trivial (
    hk (fun cx=>cx.q (ex_mv rfl (cx.rq 0 s0_1))) <|
    hk (fun cx=>cx.v (ex_ge (x:=.tmp 3) rfl (cx.u 0 rfl) rfl) rfl (congrArg Value.bool Ffk1.out)) <|
    kmu 0 <|
    kno 0 <|
    kno 1 <|
    hk (fun cx=>cx.q (ex_pf rfl (cx.u 0 rfl) rfl)) <|
    kmu 0 <|
    hn) ?_
   intro a2 w2 f2
   refine wp_ret ?_
   try simp only [Exit.inBlock,Exit.then]
   refine bodyPost_ret (res_t (fn:=Tryz.f64) rfl (f2.v 6 rfl rfl rfl)) f2.d ?_
   have HE:(.bool false:Value)=.bool (regB n):=by unfold regB;simp only [Ffk1.out,Bool.true_and,Bool.and_true,Bool.false_and,Bool.and_false,Bool.or_false,Bool.false_or,Bool.true_or,Bool.or_true,Bool.not_true,Bool.not_false,if_true,if_false,Bool.false_eq_true,Bool.true_eq_false,reduceCtorEq];try rfl
   exact ⟨retV HE,f2.b⟩
  have Ffk1:=Lib.hid fk1;clear fk1
  have s0_2:=f1.q 0 s0_0
  refine go_reg [] [] [some (.int .i8 n),oT,oT,some (.int .i8 n),some (.bool (decide (n < 16))),some (.bool (decide (n < 16))),some (.bool (decide (n < 16)))] mo f1.d f1.z f1.b (by kernel_rfl) trivial (
   hk (fun cx=>cx.q (ex_mv rfl (cx.rq 0 s0_2))) <|
   hk (fun cx=>cx.v (ex_ge (x:=.tmp 3) rfl (cx.u 0 rfl) rfl) rfl (congrArg Value.bool Ffk1.out)) <|
   kmu 0 <|
   hk (fun cx=>cx.vy 0 (ex_mv rfl (cx.rq 0 s0_2))) <|
   hk (fun cx=>cx.vy 1 (ex_lt (x:=.tmp 6) rfl (cx.u 0 rfl) rfl)) <|
   hk (fun cx=>cx.q (ex_pt rfl (cx.u 0 rfl) (cx.u 1 rfl))) <|
   kmu 0 <|
   hn) ?_
  intro a3 w3 f3
  refine wp_ret ?_
  try simp only [Exit.inBlock,Exit.then]
  refine bodyPost_ret (res_t (fn:=Tryz.f64) rfl (f3.v 6 rfl rfl rfl)) f3.d ?_
  have HE:(.bool (decide (n < 16)):Value)=.bool (regB n):=by unfold regB;simp only [Ffk1.out,Bool.true_and,Bool.and_true,Bool.false_and,Bool.and_false,Bool.or_false,Bool.false_or,Bool.true_or,Bool.or_true,Bool.not_true,Bool.not_false,if_true,if_false,Bool.false_eq_true,Bool.true_eq_false,reduceCtorEq];try rfl
  exact ⟨retV HE,f3.b⟩
theorem elong_n (n:Int) (W:World):Calls Tryz.prog 66 #[.int .i8 n] W fun e w'=>e=.returned (.bool (longB n)) ∧ Below W.heap.size W w':=by
  refine calls_abs Tryz.func66 rfl (Nat.le_of_ble_eq_true rfl) ?_
  intro a0 d0 z0 h0
  replace z0:a0.tmps.size=9:=z0
  have s0_0:a0.tmps.getD 0 undef=.int .i8 n:=h0 0 (Nat.le_of_ble_eq_true rfl)
  refine wp_seq ?_
  refine go_reg [] [] [oF] mo d0 z0 (Below.refl _ _) (by kernel_rfl) trivial (
   hk (fun cx=>cx.q (ex_as rfl rfl)) <|
   hn) ?_
  intro a1 w1 f1
  refine wp_seq ?_
  cases fk1:n == 32
  case true=>
   have Ffk1:=Lib.hid fk1;clear fk1
   have s0_1:=f1.q 0 s0_0
   refine go_reg [] [] [some (.int .i8 n),oT,oT,oU,oU,oT,oT] mo f1.d f1.z f1.b (by kernel_rfl) trivial (
    hk (fun cx=>cx.q (ex_mv rfl (cx.rq 0 s0_1))) <|
    hk (fun cx=>cx.v (ex_eq (x:=.tmp 3) rfl (cx.u 0 rfl) rfl) rfl (congrArg Value.bool Ffk1.out)) <|
    kmu 0 <|
    kno 0 <|
    kno 1 <|
    hk (fun cx=>cx.q (ex_pt rfl (cx.u 0 rfl) rfl)) <|
    kmu 0 <|
    hn) ?_
   intro a2 w2 f2
   refine wp_ret ?_
   try simp only [Exit.inBlock,Exit.then]
   refine bodyPost_ret (res_t (fn:=Tryz.f66) rfl (f2.v 6 rfl rfl rfl)) f2.d ?_
   have HE:(.bool true:Value)=.bool (longB n):=by unfold longB;simp only [Ffk1.out,Bool.true_and,Bool.and_true,Bool.false_and,Bool.and_false,Bool.or_false,Bool.false_or,Bool.true_or,Bool.or_true,Bool.not_true,Bool.not_false,if_true,if_false,Bool.false_eq_true,Bool.true_eq_false,reduceCtorEq];try rfl
   exact ⟨retV HE,f2.b⟩
  have Ffk1:=Lib.hid fk1;clear fk1
  have s0_2:=f1.q 0 s0_0
  refine go_reg [] [] [some (.int .i8 n),oF,oF,some (.int .i8 n),some (.bool (n == 64)),some (.bool (n == 64)),some (.bool (n == 64))] mo f1.d f1.z f1.b (by kernel_rfl) trivial (
   hk (fun cx=>cx.q (ex_mv rfl (cx.rq 0 s0_2))) <|
   hk (fun cx=>cx.v (ex_eq (x:=.tmp 3) rfl (cx.u 0 rfl) rfl) rfl (congrArg Value.bool Ffk1.out)) <|
   kmu 0 <|
   hk (fun cx=>cx.vy 0 (ex_mv rfl (cx.rq 0 s0_2))) <|
   hk (fun cx=>cx.vy 1 (ex_eq (x:=.tmp 6) rfl (cx.u 0 rfl) rfl)) <|
   hk (fun cx=>cx.q (ex_pf rfl (cx.u 0 rfl) (cx.u 1 rfl))) <|
   kmu 0 <|
   hn) ?_
  intro a3 w3 f3
  refine wp_ret ?_
  try simp only [Exit.inBlock,Exit.then]
  refine bodyPost_ret (res_t (fn:=Tryz.f66) rfl (f3.v 6 rfl rfl rfl)) f3.d ?_
  have HE:(.bool (n == 64):Value)=.bool (longB n):=by unfold longB;simp only [Ffk1.out,Bool.true_and,Bool.and_true,Bool.false_and,Bool.and_false,Bool.or_false,Bool.false_or,Bool.true_or,Bool.or_true,Bool.not_true,Bool.not_false,if_true,if_false,Bool.false_eq_true,Bool.true_eq_false,reduceCtorEq];try rfl
  exact ⟨retV HE,f3.b⟩
theorem efour_n (n:Int) (W:World):Calls Tryz.prog 65 #[.int .i64 n] W fun e w'=>e=.returned (.bool (fourB n)) ∧ Below W.heap.size W w':=by
  refine calls_abs Tryz.func65 rfl (Nat.le_of_ble_eq_true rfl) ?_
  intro a0 d0 z0 h0
  replace z0:a0.tmps.size=9:=z0
  have s0_0:a0.tmps.getD 0 undef=.int .i64 n:=h0 0 (Nat.le_of_ble_eq_true rfl)
  refine wp_seq ?_
  refine go_reg [] [] [oF] mo d0 z0 (Below.refl _ _) (by kernel_rfl) trivial (
   hk (fun cx=>cx.q (ex_as rfl rfl)) <|
   hn) ?_
  intro a1 w1 f1
  refine wp_seq ?_
  cases fk1:decide ((-2147483648) ≤ n)
  case false=>
   have Ffk1:=Lib.hid fk1;clear fk1
   have s0_1:=f1.q 0 s0_0
   refine go_reg [] [] [some (.int .i64 n),oF,oF,oU,oU,oF,oF] mo f1.d f1.z f1.b (by kernel_rfl) trivial (
    hk (fun cx=>cx.q (ex_mv rfl (cx.rq 0 s0_1))) <|
    hk (fun cx=>cx.v (ex_ge (x:=.tmp 3) rfl (cx.u 0 rfl) rfl) rfl (congrArg Value.bool Ffk1.out)) <|
    kmu 0 <|
    kno 0 <|
    kno 1 <|
    hk (fun cx=>cx.q (ex_pf rfl (cx.u 0 rfl) rfl)) <|
    kmu 0 <|
    hn) ?_
   intro a2 w2 f2
   refine wp_ret ?_
   try simp only [Exit.inBlock,Exit.then]
   refine bodyPost_ret (res_t (fn:=Tryz.f65) rfl (f2.v 6 rfl rfl rfl)) f2.d ?_
   have HE:(.bool false:Value)=.bool (fourB n):=by unfold fourB;simp only [Ffk1.out,Bool.true_and,Bool.and_true,Bool.false_and,Bool.and_false,Bool.or_false,Bool.false_or,Bool.true_or,Bool.or_true,Bool.not_true,Bool.not_false,if_true,if_false,Bool.false_eq_true,Bool.true_eq_false,reduceCtorEq];try rfl
   exact ⟨retV HE,f2.b⟩
  have Ffk1:=Lib.hid fk1;clear fk1
  have s0_2:=f1.q 0 s0_0
  refine go_reg [] [] [some (.int .i64 n),oT,oT,some (.int .i64 n),some (.bool (decide (n < 2147483648))),some (.bool (decide (n < 2147483648))),some (.bool (decide (n < 2147483648)))] mo f1.d f1.z f1.b (by kernel_rfl) trivial (
   hk (fun cx=>cx.q (ex_mv rfl (cx.rq 0 s0_2))) <|
   hk (fun cx=>cx.v (ex_ge (x:=.tmp 3) rfl (cx.u 0 rfl) rfl) rfl (congrArg Value.bool Ffk1.out)) <|
   kmu 0 <|
   hk (fun cx=>cx.vy 0 (ex_mv rfl (cx.rq 0 s0_2))) <|
   hk (fun cx=>cx.vy 1 (ex_lt (x:=.tmp 6) rfl (cx.u 0 rfl) rfl)) <|
   hk (fun cx=>cx.q (ex_pt rfl (cx.u 0 rfl) (cx.u 1 rfl))) <|
   kmu 0 <|
   hn) ?_
  intro a3 w3 f3
  refine wp_ret ?_
  try simp only [Exit.inBlock,Exit.then]
  refine bodyPost_ret (res_t (fn:=Tryz.f65) rfl (f3.v 6 rfl rfl rfl)) f3.d ?_
  have HE:(.bool (decide (n < 2147483648)):Value)=.bool (fourB n):=by unfold fourB;simp only [Ffk1.out,Bool.true_and,Bool.and_true,Bool.false_and,Bool.and_false,Bool.or_false,Bool.false_or,Bool.true_or,Bool.or_true,Bool.not_true,Bool.not_false,if_true,if_false,Bool.false_eq_true,Bool.true_eq_false,reduceCtorEq];try rfl
  exact ⟨retV HE,f3.b⟩
theorem eone_n (n:Int) (W:World):Calls Tryz.prog 69 #[.int .i64 n] W fun e w'=>e=.returned (.bool (oneB n)) ∧ Below W.heap.size W w':=by
  refine calls_abs Tryz.func69 rfl (Nat.le_of_ble_eq_true rfl) ?_
  intro a0 d0 z0 h0
  replace z0:a0.tmps.size=9:=z0
  have s0_0:a0.tmps.getD 0 undef=.int .i64 n:=h0 0 (Nat.le_of_ble_eq_true rfl)
  refine wp_seq ?_
  refine go_reg [] [] [oF] mo d0 z0 (Below.refl _ _) (by kernel_rfl) trivial (
   hk (fun cx=>cx.q (ex_as rfl rfl)) <|
   hn) ?_
  intro a1 w1 f1
  refine wp_seq ?_
  cases fk1:decide ((-128) ≤ n)
  case false=>
   have Ffk1:=Lib.hid fk1;clear fk1
   have s0_1:=f1.q 0 s0_0
   refine go_reg [] [] [some (.int .i64 n),oF,oF,oU,oU,oF,oF] mo f1.d f1.z f1.b (by kernel_rfl) trivial (
    hk (fun cx=>cx.q (ex_mv rfl (cx.rq 0 s0_1))) <|
    hk (fun cx=>cx.v (ex_ge (x:=.tmp 3) rfl (cx.u 0 rfl) rfl) rfl (congrArg Value.bool Ffk1.out)) <|
    kmu 0 <|
    kno 0 <|
    kno 1 <|
    hk (fun cx=>cx.q (ex_pf rfl (cx.u 0 rfl) rfl)) <|
    kmu 0 <|
    hn) ?_
   intro a2 w2 f2
   refine wp_ret ?_
   try simp only [Exit.inBlock,Exit.then]
   refine bodyPost_ret (res_t (fn:=Tryz.f69) rfl (f2.v 6 rfl rfl rfl)) f2.d ?_
   have HE:(.bool false:Value)=.bool (oneB n):=by unfold oneB;simp only [Ffk1.out,Bool.true_and,Bool.and_true,Bool.false_and,Bool.and_false,Bool.or_false,Bool.false_or,Bool.true_or,Bool.or_true,Bool.not_true,Bool.not_false,if_true,if_false,Bool.false_eq_true,Bool.true_eq_false,reduceCtorEq];try rfl
   exact ⟨retV HE,f2.b⟩
  have Ffk1:=Lib.hid fk1;clear fk1
  have s0_2:=f1.q 0 s0_0
  refine go_reg [] [] [some (.int .i64 n),oT,oT,some (.int .i64 n),some (.bool (decide (n < 128))),some (.bool (decide (n < 128))),some (.bool (decide (n < 128)))] mo f1.d f1.z f1.b (by kernel_rfl) trivial (
   hk (fun cx=>cx.q (ex_mv rfl (cx.rq 0 s0_2))) <|
   hk (fun cx=>cx.v (ex_ge (x:=.tmp 3) rfl (cx.u 0 rfl) rfl) rfl (congrArg Value.bool Ffk1.out)) <|
   kmu 0 <|
   hk (fun cx=>cx.vy 0 (ex_mv rfl (cx.rq 0 s0_2))) <|
   hk (fun cx=>cx.vy 1 (ex_lt (x:=.tmp 6) rfl (cx.u 0 rfl) rfl)) <|
   hk (fun cx=>cx.q (ex_pt rfl (cx.u 0 rfl) (cx.u 1 rfl))) <|
   kmu 0 <|
   hn) ?_
  intro a3 w3 f3
  refine wp_ret ?_
  try simp only [Exit.inBlock,Exit.then]
  refine bodyPost_ret (res_t (fn:=Tryz.f69) rfl (f3.v 6 rfl rfl rfl)) f3.d ?_
  have HE:(.bool (decide (n < 128)):Value)=.bool (oneB n):=by unfold oneB;simp only [Ffk1.out,Bool.true_and,Bool.and_true,Bool.false_and,Bool.and_false,Bool.or_false,Bool.false_or,Bool.true_or,Bool.or_true,Bool.not_true,Bool.not_false,if_true,if_false,Bool.false_eq_true,Bool.true_eq_false,reduceCtorEq];try rfl
  exact ⟨retV HE,f3.b⟩
theorem ecc_n (n:Int) (W:World):Calls Tryz.prog 67 #[.int .i8 n] W fun e w'=>e=.returned (.bool (ccB n)) ∧ Below W.heap.size W w':=by
  refine calls_abs Tryz.func67 rfl (Nat.le_of_ble_eq_true rfl) ?_
  intro a0 d0 z0 h0
  replace z0:a0.tmps.size=17:=z0
  have s0_0:a0.tmps.getD 0 undef=.int .i8 n:=h0 0 (Nat.le_of_ble_eq_true rfl)
  refine wp_seq ?_
  refine go_reg [] [] [oF] mo d0 z0 (Below.refl _ _) (by kernel_rfl) trivial (
   hk (fun cx=>cx.q (ex_as rfl rfl)) <|
   hn) ?_
  intro a1 w1 f1
  refine wp_seq ?_
  cases fk1:decide (2 ≤ n)
  case false=>
   have Ffk1:=Lib.hid fk1;clear fk1
   cases fk2:decide (12 ≤ n)
   case false=>
    have Ffk2:=Lib.hid fk2;clear fk2
    have s0_1:=f1.q 0 s0_0
    refine go_reg [] [] [some (.int .i8 n),oF,oF,oU,oU,oF,oF,some (.int .i8 n),oF,oF,oU,oU,oF,oF,oF] mo f1.d f1.z f1.b (by kernel_rfl) trivial (
     hk (fun cx=>cx.q (ex_mv rfl (cx.rq 0 s0_1))) <|
     hk (fun cx=>cx.v (ex_ge (x:=.tmp 3) rfl (cx.u 0 rfl) rfl) rfl (congrArg Value.bool Ffk1.out)) <|
     kmu 0 <|
     kno 0 <|
     kno 1 <|
     hk (fun cx=>cx.q (ex_pf rfl (cx.u 0 rfl) rfl)) <|
     kmu 0 <|
     hk (fun cx=>cx.vy 0 (ex_mv rfl (cx.rq 0 s0_1))) <|
     hk (fun cx=>cx.vy 1 (ex_ge (x:=.tmp 10) rfl (cx.u 0 rfl) rfl) (congrArg Value.bool Ffk2.out)) <|
     hk (fun cx=>cx.vy 1 (ex_mv rfl (cx.u 0 rfl))) <|
     kno 0 <|
     kno 1 <|
     hk (fun cx=>cx.vy 2 (ex_pf rfl (cx.u 0 rfl) rfl)) <|
     hk (fun cx=>cx.q (ex_pf rfl (cx.u 0 rfl) (cx.u 1 rfl))) <|
     kmu 0 <|
     hn) ?_
    intro a2 w2 f2
    refine wp_ret ?_
    try simp only [Exit.inBlock,Exit.then]
    refine bodyPost_ret (res_t (fn:=Tryz.f67) rfl (f2.v 14 rfl rfl rfl)) f2.d ?_
    have HE:(.bool false:Value)=.bool (ccB n):=by unfold ccB;simp only [Ffk1.out,Ffk2.out,Bool.true_and,Bool.and_true,Bool.false_and,Bool.and_false,Bool.or_false,Bool.false_or,Bool.true_or,Bool.or_true,Bool.not_true,Bool.not_false,if_true,if_false,Bool.false_eq_true,Bool.true_eq_false,reduceCtorEq];try rfl
    exact ⟨retV HE,f2.b⟩
   have Ffk2:=Lib.hid fk2;clear fk2
   have s0_2:=f1.q 0 s0_0
   refine go_reg [] [] [some (.int .i8 n),oF,oF,oU,oU,oF,oF,some (.int .i8 n),oT,oT,some (.int .i8 n),some (.bool (decide (n ≤ 15))),some (.bool (decide (n ≤ 15))),some (.bool (decide (n ≤ 15))),some (.bool (decide (n ≤ 15)))] mo f1.d f1.z f1.b (by kernel_rfl) trivial (
    hk (fun cx=>cx.q (ex_mv rfl (cx.rq 0 s0_2))) <|
    hk (fun cx=>cx.v (ex_ge (x:=.tmp 3) rfl (cx.u 0 rfl) rfl) rfl (congrArg Value.bool Ffk1.out)) <|
    kmu 0 <|
    kno 0 <|
    kno 1 <|
    hk (fun cx=>cx.q (ex_pf rfl (cx.u 0 rfl) rfl)) <|
    kmu 0 <|
    hk (fun cx=>cx.vy 0 (ex_mv rfl (cx.rq 0 s0_2))) <|
    hk (fun cx=>cx.vy 1 (ex_ge (x:=.tmp 10) rfl (cx.u 0 rfl) rfl) (congrArg Value.bool Ffk2.out)) <|
    hk (fun cx=>cx.vy 1 (ex_mv rfl (cx.u 0 rfl))) <|
    hk (fun cx=>cx.vy 0 (ex_mv rfl (cx.rq 0 s0_2))) <|
    hk (fun cx=>cx.vy 1 (ex_le (x:=.tmp 13) rfl (cx.u 0 rfl) rfl)) <|
    hk (fun cx=>cx.vy 2 (ex_pt rfl (cx.u 0 rfl) (cx.u 1 rfl))) <|
    hk (fun cx=>cx.q (ex_pf rfl (cx.u 0 rfl) (cx.u 1 rfl))) <|
    kmu 0 <|
    hn) ?_
   intro a3 w3 f3
   refine wp_ret ?_
   try simp only [Exit.inBlock,Exit.then]
   refine bodyPost_ret (res_t (fn:=Tryz.f67) rfl (f3.v 14 rfl rfl rfl)) f3.d ?_
   have HE:(.bool (decide (n ≤ 15)):Value)=.bool (ccB n):=by unfold ccB;simp only [Ffk1.out,Ffk2.out,Bool.true_and,Bool.and_true,Bool.false_and,Bool.and_false,Bool.or_false,Bool.false_or,Bool.true_or,Bool.or_true,Bool.not_true,Bool.not_false,if_true,if_false,Bool.false_eq_true,Bool.true_eq_false,reduceCtorEq];try rfl
   exact ⟨retV HE,f3.b⟩
  have Ffk1:=Lib.hid fk1;clear fk1
  cases fk3:decide (n ≤ 7)
  case true=>
   have Ffk3:=Lib.hid fk3;clear fk3
   have s0_3:=f1.q 0 s0_0
   refine go_reg [] [] [some (.int .i8 n),oT,oT,some (.int .i8 n),oT,oT,oT,oU,oU,oU,oU,oU,oU,oT,oT] mo f1.d f1.z f1.b (by kernel_rfl) trivial (
    hk (fun cx=>cx.q (ex_mv rfl (cx.rq 0 s0_3))) <|
    hk (fun cx=>cx.v (ex_ge (x:=.tmp 3) rfl (cx.u 0 rfl) rfl) rfl (congrArg Value.bool Ffk1.out)) <|
    kmu 0 <|
    hk (fun cx=>cx.vy 0 (ex_mv rfl (cx.rq 0 s0_3))) <|
    hk (fun cx=>cx.vy 1 (ex_le (x:=.tmp 6) rfl (cx.u 0 rfl) rfl) (congrArg Value.bool Ffk3.out)) <|
    hk (fun cx=>cx.q (ex_pt rfl (cx.u 0 rfl) (cx.u 1 rfl))) <|
    kmu 0 <|
    kno 0 <|
    kno 1 <|
    kno 1 <|
    kno 0 <|
    kno 1 <|
    kno 2 <|
    hk (fun cx=>cx.q (ex_pt rfl (cx.u 0 rfl) rfl)) <|
    kmu 0 <|
    hn) ?_
   intro a4 w4 f4
   refine wp_ret ?_
   try simp only [Exit.inBlock,Exit.then]
   refine bodyPost_ret (res_t (fn:=Tryz.f67) rfl (f4.v 14 rfl rfl rfl)) f4.d ?_
   have HE:(.bool true:Value)=.bool (ccB n):=by unfold ccB;simp only [Ffk1.out,Ffk3.out,Bool.true_and,Bool.and_true,Bool.false_and,Bool.and_false,Bool.or_false,Bool.false_or,Bool.true_or,Bool.or_true,Bool.not_true,Bool.not_false,if_true,if_false,Bool.false_eq_true,Bool.true_eq_false,reduceCtorEq];try rfl
   exact ⟨retV HE,f4.b⟩
  have Ffk3:=Lib.hid fk3;clear fk3
  cases fk4:decide (12 ≤ n)
  case false=>
   have Ffk4:=Lib.hid fk4;clear fk4
   have s0_4:=f1.q 0 s0_0
   refine go_reg [] [] [some (.int .i8 n),oT,oT,some (.int .i8 n),oF,oF,oF,some (.int .i8 n),oF,oF,oU,oU,oF,oF,oF] mo f1.d f1.z f1.b (by kernel_rfl) trivial (
    hk (fun cx=>cx.q (ex_mv rfl (cx.rq 0 s0_4))) <|
    hk (fun cx=>cx.v (ex_ge (x:=.tmp 3) rfl (cx.u 0 rfl) rfl) rfl (congrArg Value.bool Ffk1.out)) <|
    kmu 0 <|
    hk (fun cx=>cx.vy 0 (ex_mv rfl (cx.rq 0 s0_4))) <|
    hk (fun cx=>cx.vy 1 (ex_le (x:=.tmp 6) rfl (cx.u 0 rfl) rfl) (congrArg Value.bool Ffk3.out)) <|
    hk (fun cx=>cx.q (ex_pt rfl (cx.u 0 rfl) (cx.u 1 rfl))) <|
    kmu 0 <|
    hk (fun cx=>cx.vy 0 (ex_mv rfl (cx.rq 0 s0_4))) <|
    hk (fun cx=>cx.vy 1 (ex_ge (x:=.tmp 10) rfl (cx.u 0 rfl) rfl) (congrArg Value.bool Ffk4.out)) <|
    hk (fun cx=>cx.vy 1 (ex_mv rfl (cx.u 0 rfl))) <|
    kno 0 <|
    kno 1 <|
    hk (fun cx=>cx.vy 2 (ex_pf rfl (cx.u 0 rfl) rfl)) <|
    hk (fun cx=>cx.q (ex_pf rfl (cx.u 0 rfl) (cx.u 1 rfl))) <|
    kmu 0 <|
    hn) ?_
   intro a5 w5 f5
   refine wp_ret ?_
   try simp only [Exit.inBlock,Exit.then]
   refine bodyPost_ret (res_t (fn:=Tryz.f67) rfl (f5.v 14 rfl rfl rfl)) f5.d ?_
   have HE:(.bool false:Value)=.bool (ccB n):=by unfold ccB;simp only [Ffk1.out,Ffk3.out,Ffk4.out,Bool.true_and,Bool.and_true,Bool.false_and,Bool.and_false,Bool.or_false,Bool.false_or,Bool.true_or,Bool.or_true,Bool.not_true,Bool.not_false,if_true,if_false,Bool.false_eq_true,Bool.true_eq_false,reduceCtorEq];try rfl
   exact ⟨retV HE,f5.b⟩
  have Ffk4:=Lib.hid fk4;clear fk4
  have s0_5:=f1.q 0 s0_0
  refine go_reg [] [] [some (.int .i8 n),oT,oT,some (.int .i8 n),oF,oF,oF,some (.int .i8 n),oT,oT,some (.int .i8 n),some (.bool (decide (n ≤ 15))),some (.bool (decide (n ≤ 15))),some (.bool (decide (n ≤ 15))),some (.bool (decide (n ≤ 15)))] mo f1.d f1.z f1.b (by kernel_rfl) trivial (
   hk (fun cx=>cx.q (ex_mv rfl (cx.rq 0 s0_5))) <|
   hk (fun cx=>cx.v (ex_ge (x:=.tmp 3) rfl (cx.u 0 rfl) rfl) rfl (congrArg Value.bool Ffk1.out)) <|
   kmu 0 <|
   hk (fun cx=>cx.vy 0 (ex_mv rfl (cx.rq 0 s0_5))) <|
   hk (fun cx=>cx.vy 1 (ex_le (x:=.tmp 6) rfl (cx.u 0 rfl) rfl) (congrArg Value.bool Ffk3.out)) <|
   hk (fun cx=>cx.q (ex_pt rfl (cx.u 0 rfl) (cx.u 1 rfl))) <|
   kmu 0 <|
   hk (fun cx=>cx.vy 0 (ex_mv rfl (cx.rq 0 s0_5))) <|
   hk (fun cx=>cx.vy 1 (ex_ge (x:=.tmp 10) rfl (cx.u 0 rfl) rfl) (congrArg Value.bool Ffk4.out)) <|
   hk (fun cx=>cx.vy 1 (ex_mv rfl (cx.u 0 rfl))) <|
   hk (fun cx=>cx.vy 0 (ex_mv rfl (cx.rq 0 s0_5))) <|
   hk (fun cx=>cx.vy 1 (ex_le (x:=.tmp 13) rfl (cx.u 0 rfl) rfl)) <|
   hk (fun cx=>cx.vy 2 (ex_pt rfl (cx.u 0 rfl) (cx.u 1 rfl))) <|
   hk (fun cx=>cx.q (ex_pf rfl (cx.u 0 rfl) (cx.u 1 rfl))) <|
   kmu 0 <|
   hn) ?_
  intro a6 w6 f6
  refine wp_ret ?_
  try simp only [Exit.inBlock,Exit.then]
  refine bodyPost_ret (res_t (fn:=Tryz.f67) rfl (f6.v 14 rfl rfl rfl)) f6.d ?_
  have HE:(.bool (decide (n ≤ 15)):Value)=.bool (ccB n):=by unfold ccB;simp only [Ffk1.out,Ffk3.out,Ffk4.out,Bool.true_and,Bool.and_true,Bool.false_and,Bool.and_false,Bool.or_false,Bool.false_or,Bool.true_or,Bool.or_true,Bool.not_true,Bool.not_false,if_true,if_false,Bool.false_eq_true,Bool.true_eq_false,reduceCtorEq];try rfl
  exact ⟨retV HE,f6.b⟩
theorem ewid_n (n:Int) (W:World):Calls Tryz.prog 68 #[.int .i8 n] W fun e w'=>e=.returned (.bool (widB n)) ∧ Below W.heap.size W w':=by
  refine calls_abs Tryz.func68 rfl (Nat.le_of_ble_eq_true rfl) ?_
  intro a0 d0 z0 h0
  replace z0:a0.tmps.size=17:=z0
  have s0_0:a0.tmps.getD 0 undef=.int .i8 n:=h0 0 (Nat.le_of_ble_eq_true rfl)
  refine wp_seq ?_
  refine go_reg [] [] [oF] mo d0 z0 (Below.refl _ _) (by kernel_rfl) trivial (
   hk (fun cx=>cx.q (ex_as rfl rfl)) <|
   hn) ?_
  intro a1 w1 f1
  refine wp_seq ?_
  cases fk1:n == 8
  case true=>
   have Ffk1:=Lib.hid fk1;clear fk1
   have s0_1:=f1.q 0 s0_0
   refine go_reg [] [] [some (.int .i8 n),oT,oT,oU,oU,oT,oT,oU,oU,oT,oT,oU,oU,oT,oT] mo f1.d f1.z f1.b (by kernel_rfl) trivial (
    hk (fun cx=>cx.q (ex_mv rfl (cx.rq 0 s0_1))) <|
    hk (fun cx=>cx.v (ex_eq (x:=.tmp 3) rfl (cx.u 0 rfl) rfl) rfl (congrArg Value.bool Ffk1.out)) <|
    kmu 0 <|
    kno 0 <|
    kno 1 <|
    hk (fun cx=>cx.q (ex_pt rfl (cx.u 0 rfl) rfl)) <|
    kmu 0 <|
    kno 0 <|
    kno 1 <|
    hk (fun cx=>cx.q (ex_pt rfl (cx.u 0 rfl) rfl)) <|
    kmu 0 <|
    kno 0 <|
    kno 1 <|
    hk (fun cx=>cx.q (ex_pt rfl (cx.u 0 rfl) rfl)) <|
    kmu 0 <|
    hn) ?_
   intro a2 w2 f2
   refine wp_ret ?_
   try simp only [Exit.inBlock,Exit.then]
   refine bodyPost_ret (res_t (fn:=Tryz.f68) rfl (f2.v 14 rfl rfl rfl)) f2.d ?_
   have HE:(.bool true:Value)=.bool (widB n):=by unfold widB;simp only [Ffk1.out,Bool.true_and,Bool.and_true,Bool.false_and,Bool.and_false,Bool.or_false,Bool.false_or,Bool.true_or,Bool.or_true,Bool.not_true,Bool.not_false,if_true,if_false,Bool.false_eq_true,Bool.true_eq_false,reduceCtorEq];try rfl
   exact ⟨retV HE,f2.b⟩
  have Ffk1:=Lib.hid fk1;clear fk1
  cases fk2:n == 16
  case true=>
   have Ffk2:=Lib.hid fk2;clear fk2
   have s0_2:=f1.q 0 s0_0
   refine go_reg [] [] [some (.int .i8 n),oF,oF,some (.int .i8 n),oT,oT,oT,oU,oU,oT,oT,oU,oU,oT,oT] mo f1.d f1.z f1.b (by kernel_rfl) trivial (
    hk (fun cx=>cx.q (ex_mv rfl (cx.rq 0 s0_2))) <|
    hk (fun cx=>cx.v (ex_eq (x:=.tmp 3) rfl (cx.u 0 rfl) rfl) rfl (congrArg Value.bool Ffk1.out)) <|
    kmu 0 <|
    hk (fun cx=>cx.vy 0 (ex_mv rfl (cx.rq 0 s0_2))) <|
    hk (fun cx=>cx.vy 1 (ex_eq (x:=.tmp 6) rfl (cx.u 0 rfl) rfl) (congrArg Value.bool Ffk2.out)) <|
    hk (fun cx=>cx.q (ex_pf rfl (cx.u 0 rfl) (cx.u 1 rfl))) <|
    kmu 0 <|
    kno 0 <|
    kno 1 <|
    hk (fun cx=>cx.q (ex_pt rfl (cx.u 0 rfl) rfl)) <|
    kmu 0 <|
    kno 0 <|
    kno 1 <|
    hk (fun cx=>cx.q (ex_pt rfl (cx.u 0 rfl) rfl)) <|
    kmu 0 <|
    hn) ?_
   intro a3 w3 f3
   refine wp_ret ?_
   try simp only [Exit.inBlock,Exit.then]
   refine bodyPost_ret (res_t (fn:=Tryz.f68) rfl (f3.v 14 rfl rfl rfl)) f3.d ?_
   have HE:(.bool true:Value)=.bool (widB n):=by unfold widB;simp only [Ffk1.out,Ffk2.out,Bool.true_and,Bool.and_true,Bool.false_and,Bool.and_false,Bool.or_false,Bool.false_or,Bool.true_or,Bool.or_true,Bool.not_true,Bool.not_false,if_true,if_false,Bool.false_eq_true,Bool.true_eq_false,reduceCtorEq];try rfl
   exact ⟨retV HE,f3.b⟩
  have Ffk2:=Lib.hid fk2;clear fk2
  cases fk3:n == 32
  case true=>
   have Ffk3:=Lib.hid fk3;clear fk3
   have s0_3:=f1.q 0 s0_0
   refine go_reg [] [] [some (.int .i8 n),oF,oF,some (.int .i8 n),oF,oF,oF,some (.int .i8 n),oT,oT,oT,oU,oU,oT,oT] mo f1.d f1.z f1.b (by kernel_rfl) trivial (
    hk (fun cx=>cx.q (ex_mv rfl (cx.rq 0 s0_3))) <|
    hk (fun cx=>cx.v (ex_eq (x:=.tmp 3) rfl (cx.u 0 rfl) rfl) rfl (congrArg Value.bool Ffk1.out)) <|
    kmu 0 <|
    hk (fun cx=>cx.vy 0 (ex_mv rfl (cx.rq 0 s0_3))) <|
    hk (fun cx=>cx.vy 1 (ex_eq (x:=.tmp 6) rfl (cx.u 0 rfl) rfl) (congrArg Value.bool Ffk2.out)) <|
    hk (fun cx=>cx.q (ex_pf rfl (cx.u 0 rfl) (cx.u 1 rfl))) <|
    kmu 0 <|
    hk (fun cx=>cx.vy 0 (ex_mv rfl (cx.rq 0 s0_3))) <|
    hk (fun cx=>cx.vy 1 (ex_eq (x:=.tmp 10) rfl (cx.u 0 rfl) rfl) (congrArg Value.bool Ffk3.out)) <|
    hk (fun cx=>cx.q (ex_pf rfl (cx.u 0 rfl) (cx.u 1 rfl))) <|
    kmu 0 <|
    kno 0 <|
    kno 1 <|
    hk (fun cx=>cx.q (ex_pt rfl (cx.u 0 rfl) rfl)) <|
    kmu 0 <|
    hn) ?_
   intro a4 w4 f4
   refine wp_ret ?_
   try simp only [Exit.inBlock,Exit.then]
   refine bodyPost_ret (res_t (fn:=Tryz.f68) rfl (f4.v 14 rfl rfl rfl)) f4.d ?_
   have HE:(.bool true:Value)=.bool (widB n):=by unfold widB;simp only [Ffk1.out,Ffk2.out,Ffk3.out,Bool.true_and,Bool.and_true,Bool.false_and,Bool.and_false,Bool.or_false,Bool.false_or,Bool.true_or,Bool.or_true,Bool.not_true,Bool.not_false,if_true,if_false,Bool.false_eq_true,Bool.true_eq_false,reduceCtorEq];try rfl
   exact ⟨retV HE,f4.b⟩
  have Ffk3:=Lib.hid fk3;clear fk3
  cases fk4:n == 64
  case true=>
   have Ffk4:=Lib.hid fk4;clear fk4
   have s0_4:=f1.q 0 s0_0
   refine go_reg [] [] [some (.int .i8 n),oF,oF,some (.int .i8 n),oF,oF,oF,some (.int .i8 n),oF,oF,oF,some (.int .i8 n),oT,oT,oT] mo f1.d f1.z f1.b (by kernel_rfl) trivial (
    hk (fun cx=>cx.q (ex_mv rfl (cx.rq 0 s0_4))) <|
    hk (fun cx=>cx.v (ex_eq (x:=.tmp 3) rfl (cx.u 0 rfl) rfl) rfl (congrArg Value.bool Ffk1.out)) <|
    kmu 0 <|
    hk (fun cx=>cx.vy 0 (ex_mv rfl (cx.rq 0 s0_4))) <|
    hk (fun cx=>cx.vy 1 (ex_eq (x:=.tmp 6) rfl (cx.u 0 rfl) rfl) (congrArg Value.bool Ffk2.out)) <|
    hk (fun cx=>cx.q (ex_pf rfl (cx.u 0 rfl) (cx.u 1 rfl))) <|
    kmu 0 <|
    hk (fun cx=>cx.vy 0 (ex_mv rfl (cx.rq 0 s0_4))) <|
    hk (fun cx=>cx.vy 1 (ex_eq (x:=.tmp 10) rfl (cx.u 0 rfl) rfl) (congrArg Value.bool Ffk3.out)) <|
    hk (fun cx=>cx.q (ex_pf rfl (cx.u 0 rfl) (cx.u 1 rfl))) <|
    kmu 0 <|
    hk (fun cx=>cx.vy 0 (ex_mv rfl (cx.rq 0 s0_4))) <|
    hk (fun cx=>cx.vy 1 (ex_eq (x:=.tmp 14) rfl (cx.u 0 rfl) rfl) (congrArg Value.bool Ffk4.out)) <|
    hk (fun cx=>cx.q (ex_pf rfl (cx.u 0 rfl) (cx.u 1 rfl))) <|
    kmu 0 <|
    hn) ?_
   intro a5 w5 f5
   refine wp_ret ?_
   try simp only [Exit.inBlock,Exit.then]
   refine bodyPost_ret (res_t (fn:=Tryz.f68) rfl (f5.v 14 rfl rfl rfl)) f5.d ?_
   have HE:(.bool true:Value)=.bool (widB n):=by unfold widB;simp only [Ffk1.out,Ffk2.out,Ffk3.out,Ffk4.out,Bool.true_and,Bool.and_true,Bool.false_and,Bool.and_false,Bool.or_false,Bool.false_or,Bool.true_or,Bool.or_true,Bool.not_true,Bool.not_false,if_true,if_false,Bool.false_eq_true,Bool.true_eq_false,reduceCtorEq];try rfl
   exact ⟨retV HE,f5.b⟩
  have Ffk4:=Lib.hid fk4;clear fk4
  have s0_5:=f1.q 0 s0_0
  refine go_reg [] [] [some (.int .i8 n),oF,oF,some (.int .i8 n),oF,oF,oF,some (.int .i8 n),oF,oF,oF,some (.int .i8 n),oF,oF,oF] mo f1.d f1.z f1.b (by kernel_rfl) trivial (
   hk (fun cx=>cx.q (ex_mv rfl (cx.rq 0 s0_5))) <|
   hk (fun cx=>cx.v (ex_eq (x:=.tmp 3) rfl (cx.u 0 rfl) rfl) rfl (congrArg Value.bool Ffk1.out)) <|
   kmu 0 <|
   hk (fun cx=>cx.vy 0 (ex_mv rfl (cx.rq 0 s0_5))) <|
   hk (fun cx=>cx.vy 1 (ex_eq (x:=.tmp 6) rfl (cx.u 0 rfl) rfl) (congrArg Value.bool Ffk2.out)) <|
   hk (fun cx=>cx.q (ex_pf rfl (cx.u 0 rfl) (cx.u 1 rfl))) <|
   kmu 0 <|
   hk (fun cx=>cx.vy 0 (ex_mv rfl (cx.rq 0 s0_5))) <|
   hk (fun cx=>cx.vy 1 (ex_eq (x:=.tmp 10) rfl (cx.u 0 rfl) rfl) (congrArg Value.bool Ffk3.out)) <|
   hk (fun cx=>cx.q (ex_pf rfl (cx.u 0 rfl) (cx.u 1 rfl))) <|
   kmu 0 <|
   hk (fun cx=>cx.vy 0 (ex_mv rfl (cx.rq 0 s0_5))) <|
   hk (fun cx=>cx.vy 1 (ex_eq (x:=.tmp 14) rfl (cx.u 0 rfl) rfl) (congrArg Value.bool Ffk4.out)) <|
   hk (fun cx=>cx.q (ex_pf rfl (cx.u 0 rfl) (cx.u 1 rfl))) <|
   kmu 0 <|
   hn) ?_
  intro a6 w6 f6
  refine wp_ret ?_
  try simp only [Exit.inBlock,Exit.then]
  refine bodyPost_ret (res_t (fn:=Tryz.f68) rfl (f6.v 14 rfl rfl rfl)) f6.d ?_
  have HE:(.bool false:Value)=.bool (widB n):=by unfold widB;simp only [Ffk1.out,Ffk2.out,Ffk3.out,Ffk4.out,Bool.true_and,Bool.and_true,Bool.false_and,Bool.and_false,Bool.or_false,Bool.false_or,Bool.true_or,Bool.or_true,Bool.not_true,Bool.not_false,if_true,if_false,Bool.false_eq_true,Bool.true_eq_false,reduceCtorEq];try rfl
  exact ⟨retV HE,f6.b⟩
theorem fld_0 (x:Xi):fldX 0 x=⟨x.op,x.w,x.dst,0,0,0,0,0⟩:=by unfold fldX;simp
theorem efld0 (op wd dst src base disp imm cc:Int) (W:World) (eK:clsI op=0):Calls Tryz.prog 63 #[.agg (xC ⟨op,wd,dst,src,base,disp,imm,cc⟩)] W fun e w'=>e=.returned (.agg (xC ⟨op,wd,dst,0,0,0,0,0⟩)) ∧ Below W.heap.size W w':=by
  have CL:=Lib.hid (fun W=>cls_n op W)
  rw [eK] at CL
  clear eK
  go_enter Tryz.func63,Tryz.ntmps63
  go_wp2_with fail
  refine (CL.out _).mono ?_
  rintro e y ⟨rfl,rfl⟩
  go_wp2_with fail
  refine bodyPost_ret (v:=.agg (xC ⟨op,wd,dst,0,0,0,0,0⟩)) (by simp [results,Tryz.results63,go_sem]) rfl ⟨rfl,?_⟩
  repeat (first | exact Below.refl _ _ | refine below_new ?_ _)
theorem fld_1 (x:Xi):fldX 1 x=⟨x.op,x.w,x.dst,x.src,0,0,0,0⟩:=by unfold fldX;simp
theorem efld1 (op wd dst src base disp imm cc:Int) (W:World) (eK:clsI op=1):Calls Tryz.prog 63 #[.agg (xC ⟨op,wd,dst,src,base,disp,imm,cc⟩)] W fun e w'=>e=.returned (.agg (xC ⟨op,wd,dst,src,0,0,0,0⟩)) ∧ Below W.heap.size W w':=by
  have CL:=Lib.hid (fun W=>cls_n op W)
  rw [eK] at CL
  clear eK
  go_enter Tryz.func63,Tryz.ntmps63
  go_wp2_with fail
  refine (CL.out _).mono ?_
  rintro e y ⟨rfl,rfl⟩
  go_wp2_with fail
  refine bodyPost_ret (v:=.agg (xC ⟨op,wd,dst,src,0,0,0,0⟩)) (by simp [results,Tryz.results63,go_sem]) rfl ⟨rfl,?_⟩
  repeat (first | exact Below.refl _ _ | refine below_new ?_ _)
theorem fld_2 (x:Xi):fldX 2 x=⟨x.op,x.w,x.dst,0,0,0,x.imm,0⟩:=by unfold fldX;simp
theorem efld2 (op wd dst src base disp imm cc:Int) (W:World) (eK:clsI op=2):Calls Tryz.prog 63 #[.agg (xC ⟨op,wd,dst,src,base,disp,imm,cc⟩)] W fun e w'=>e=.returned (.agg (xC ⟨op,wd,dst,0,0,0,imm,0⟩)) ∧ Below W.heap.size W w':=by
  have CL:=Lib.hid (fun W=>cls_n op W)
  rw [eK] at CL
  clear eK
  go_enter Tryz.func63,Tryz.ntmps63
  go_wp2_with fail
  refine (CL.out _).mono ?_
  rintro e y ⟨rfl,rfl⟩
  go_wp2_with fail
  refine bodyPost_ret (v:=.agg (xC ⟨op,wd,dst,0,0,0,imm,0⟩)) (by simp [results,Tryz.results63,go_sem]) rfl ⟨rfl,?_⟩
  repeat (first | exact Below.refl _ _ | refine below_new ?_ _)
theorem fld_3 (x:Xi):fldX 3 x=⟨x.op,x.w,x.dst,0,0,0,x.imm,0⟩:=by unfold fldX;simp
theorem efld3 (op wd dst src base disp imm cc:Int) (W:World) (eK:clsI op=3):Calls Tryz.prog 63 #[.agg (xC ⟨op,wd,dst,src,base,disp,imm,cc⟩)] W fun e w'=>e=.returned (.agg (xC ⟨op,wd,dst,0,0,0,imm,0⟩)) ∧ Below W.heap.size W w':=by
  have CL:=Lib.hid (fun W=>cls_n op W)
  rw [eK] at CL
  clear eK
  go_enter Tryz.func63,Tryz.ntmps63
  go_wp2_with fail
  refine (CL.out _).mono ?_
  rintro e y ⟨rfl,rfl⟩
  go_wp2_with fail
  refine bodyPost_ret (v:=.agg (xC ⟨op,wd,dst,0,0,0,imm,0⟩)) (by simp [results,Tryz.results63,go_sem]) rfl ⟨rfl,?_⟩
  repeat (first | exact Below.refl _ _ | refine below_new ?_ _)
theorem fld_4 (x:Xi):fldX 4 x=⟨x.op,x.w,x.dst,0,0,0,0,0⟩:=by unfold fldX;simp
theorem efld4 (op wd dst src base disp imm cc:Int) (W:World) (eK:clsI op=4):Calls Tryz.prog 63 #[.agg (xC ⟨op,wd,dst,src,base,disp,imm,cc⟩)] W fun e w'=>e=.returned (.agg (xC ⟨op,wd,dst,0,0,0,0,0⟩)) ∧ Below W.heap.size W w':=by
  have CL:=Lib.hid (fun W=>cls_n op W)
  rw [eK] at CL
  clear eK
  go_enter Tryz.func63,Tryz.ntmps63
  go_wp2_with fail
  refine (CL.out _).mono ?_
  rintro e y ⟨rfl,rfl⟩
  go_wp2_with fail
  refine bodyPost_ret (v:=.agg (xC ⟨op,wd,dst,0,0,0,0,0⟩)) (by simp [results,Tryz.results63,go_sem]) rfl ⟨rfl,?_⟩
  repeat (first | exact Below.refl _ _ | refine below_new ?_ _)
theorem fld_5 (x:Xi):fldX 5 x=⟨x.op,x.w,x.dst,x.src,0,0,0,x.cc⟩:=by unfold fldX;simp
theorem efld5 (op wd dst src base disp imm cc:Int) (W:World) (eK:clsI op=5):Calls Tryz.prog 63 #[.agg (xC ⟨op,wd,dst,src,base,disp,imm,cc⟩)] W fun e w'=>e=.returned (.agg (xC ⟨op,wd,dst,src,0,0,0,cc⟩)) ∧ Below W.heap.size W w':=by
  have CL:=Lib.hid (fun W=>cls_n op W)
  rw [eK] at CL
  clear eK
  go_enter Tryz.func63,Tryz.ntmps63
  go_wp2_with fail
  refine (CL.out _).mono ?_
  rintro e y ⟨rfl,rfl⟩
  go_wp2_with fail
  refine bodyPost_ret (v:=.agg (xC ⟨op,wd,dst,src,0,0,0,cc⟩)) (by simp [results,Tryz.results63,go_sem]) rfl ⟨rfl,?_⟩
  repeat (first | exact Below.refl _ _ | refine below_new ?_ _)
theorem fld_6 (x:Xi):fldX 6 x=⟨x.op,x.w,x.dst,0,x.base,x.disp,0,0⟩:=by unfold fldX;simp
theorem efld6 (op wd dst src base disp imm cc:Int) (W:World) (eK:clsI op=6):Calls Tryz.prog 63 #[.agg (xC ⟨op,wd,dst,src,base,disp,imm,cc⟩)] W fun e w'=>e=.returned (.agg (xC ⟨op,wd,dst,0,base,disp,0,0⟩)) ∧ Below W.heap.size W w':=by
  have CL:=Lib.hid (fun W=>cls_n op W)
  rw [eK] at CL
  clear eK
  go_enter Tryz.func63,Tryz.ntmps63
  go_wp2_with fail
  refine (CL.out _).mono ?_
  rintro e y ⟨rfl,rfl⟩
  go_wp2_with fail
  refine bodyPost_ret (v:=.agg (xC ⟨op,wd,dst,0,base,disp,0,0⟩)) (by simp [results,Tryz.results63,go_sem]) rfl ⟨rfl,?_⟩
  repeat (first | exact Below.refl _ _ | refine below_new ?_ _)
theorem fld_7 (x:Xi):fldX 7 x=⟨x.op,x.w,0,x.src,x.base,x.disp,0,0⟩:=by unfold fldX;simp
theorem efld7 (op wd dst src base disp imm cc:Int) (W:World) (eK:clsI op=7):Calls Tryz.prog 63 #[.agg (xC ⟨op,wd,dst,src,base,disp,imm,cc⟩)] W fun e w'=>e=.returned (.agg (xC ⟨op,wd,0,src,base,disp,0,0⟩)) ∧ Below W.heap.size W w':=by
  have CL:=Lib.hid (fun W=>cls_n op W)
  rw [eK] at CL
  clear eK
  go_enter Tryz.func63,Tryz.ntmps63
  go_wp2_with fail
  refine (CL.out _).mono ?_
  rintro e y ⟨rfl,rfl⟩
  go_wp2_with fail
  refine bodyPost_ret (v:=.agg (xC ⟨op,wd,0,src,base,disp,0,0⟩)) (by simp [results,Tryz.results63,go_sem]) rfl ⟨rfl,?_⟩
  repeat (first | exact Below.refl _ _ | refine below_new ?_ _)
theorem fld_8 (x:Xi):fldX 8 x=⟨x.op,x.w,0,0,0,0,x.imm,0⟩:=by unfold fldX;simp
theorem efld8 (op wd dst src base disp imm cc:Int) (W:World) (eK:clsI op=8):Calls Tryz.prog 63 #[.agg (xC ⟨op,wd,dst,src,base,disp,imm,cc⟩)] W fun e w'=>e=.returned (.agg (xC ⟨op,wd,0,0,0,0,imm,0⟩)) ∧ Below W.heap.size W w':=by
  have CL:=Lib.hid (fun W=>cls_n op W)
  rw [eK] at CL
  clear eK
  go_enter Tryz.func63,Tryz.ntmps63
  go_wp2_with fail
  refine (CL.out _).mono ?_
  rintro e y ⟨rfl,rfl⟩
  go_wp2_with fail
  refine bodyPost_ret (v:=.agg (xC ⟨op,wd,0,0,0,0,imm,0⟩)) (by simp [results,Tryz.results63,go_sem]) rfl ⟨rfl,?_⟩
  repeat (first | exact Below.refl _ _ | refine below_new ?_ _)
theorem fld_9 (x:Xi):fldX 9 x=⟨x.op,x.w,0,0,0,0,x.imm,x.cc⟩:=by unfold fldX;simp
theorem efld9 (op wd dst src base disp imm cc:Int) (W:World) (eK:clsI op=9):Calls Tryz.prog 63 #[.agg (xC ⟨op,wd,dst,src,base,disp,imm,cc⟩)] W fun e w'=>e=.returned (.agg (xC ⟨op,wd,0,0,0,0,imm,cc⟩)) ∧ Below W.heap.size W w':=by
  have CL:=Lib.hid (fun W=>cls_n op W)
  rw [eK] at CL
  clear eK
  go_enter Tryz.func63,Tryz.ntmps63
  go_wp2_with fail
  refine (CL.out _).mono ?_
  rintro e y ⟨rfl,rfl⟩
  go_wp2_with fail
  refine bodyPost_ret (v:=.agg (xC ⟨op,wd,0,0,0,0,imm,cc⟩)) (by simp [results,Tryz.results63,go_sem]) rfl ⟨rfl,?_⟩
  repeat (first | exact Below.refl _ _ | refine below_new ?_ _)
theorem fld_10 (x:Xi):fldX 10 x=⟨x.op,0,0,0,0,0,0,0⟩:=by unfold fldX;simp
theorem efld10 (op wd dst src base disp imm cc:Int) (W:World) (eK:clsI op=10):Calls Tryz.prog 63 #[.agg (xC ⟨op,wd,dst,src,base,disp,imm,cc⟩)] W fun e w'=>e=.returned (.agg (xC ⟨op,0,0,0,0,0,0,0⟩)) ∧ Below W.heap.size W w':=by
  have CL:=Lib.hid (fun W=>cls_n op W)
  rw [eK] at CL
  clear eK
  go_enter Tryz.func63,Tryz.ntmps63
  go_wp2_with fail
  refine (CL.out _).mono ?_
  rintro e y ⟨rfl,rfl⟩
  go_wp2_with fail
  refine bodyPost_ret (v:=.agg (xC ⟨op,0,0,0,0,0,0,0⟩)) (by simp [results,Tryz.results63,go_sem]) rfl ⟨rfl,?_⟩
  repeat (first | exact Below.refl _ _ | refine below_new ?_ _)
theorem efld_n (x:Xi) (W:World):Calls Tryz.prog 63 #[.agg (xC x)] W fun e w'=>e=.returned (.agg (xC (fldX (clsI x.op) x))) ∧ Below W.heap.size W w':=by
  rcases clsI_cases x.op with h | h | h | h | h | h | h | h | h | h | h
  · rw [h,fld_0];exact efld0 _ _ _ _ _ _ _ _ W h
  · rw [h,fld_1];exact efld1 _ _ _ _ _ _ _ _ W h
  · rw [h,fld_2];exact efld2 _ _ _ _ _ _ _ _ W h
  · rw [h,fld_3];exact efld3 _ _ _ _ _ _ _ _ W h
  · rw [h,fld_4];exact efld4 _ _ _ _ _ _ _ _ W h
  · rw [h,fld_5];exact efld5 _ _ _ _ _ _ _ _ W h
  · rw [h,fld_6];exact efld6 _ _ _ _ _ _ _ _ W h
  · rw [h,fld_7];exact efld7 _ _ _ _ _ _ _ _ W h
  · rw [h,fld_8];exact efld8 _ _ _ _ _ _ _ _ W h
  · rw [h,fld_9];exact efld9 _ _ _ _ _ _ _ _ W h
  · rw [h,fld_10];exact efld10 _ _ _ _ _ _ _ _ W h
end Go.Proofs.YtbpehbeakhocnaaGreatDoor.Mrm
