import Derived.Test.YtcnneeimkcnjfaaSbC
import Derived.Test.YtcnneeimkcnjfaaBndN
import Derived.Test.YtcnneeimkcnjfaaSxA
import Derived.Test.YtcnneeimkcnjfaaSy
namespace Go.Proofs.Ytcnneeimkcnjfaa.Bnd
open Go.RowKit
set_option linter.unusedVariables false
set_option linter.unusedSimpArgs false
set_option linter.unnecessarySimpa false
set_option maxRecDepth 100000
theorem faRR25_0_0 (g:Nat) (w:World):(Instr.fieldAt 25 (.pointer (some ⟨g,0,none⟩)) 0).run Try.prog w=.ok (.pointer (some ⟨g,0,none⟩)) w:=by simp [go_sem]
theorem faRR25_1_0 (g:Nat) (w:World):(Instr.fieldAt 25 (.pointer (some ⟨g,0,none⟩)) 1).run Try.prog w=.ok (.pointer (some ⟨g,1,none⟩)) w:=by simp [go_sem]
theorem faRR25_2_0 (g:Nat) (w:World):(Instr.fieldAt 25 (.pointer (some ⟨g,0,none⟩)) 2).run Try.prog w=.ok (.pointer (some ⟨g,2,none⟩)) w:=by simp [go_sem]
theorem faRR25_3_0 (g:Nat) (w:World):(Instr.fieldAt 25 (.pointer (some ⟨g,0,none⟩)) 3).run Try.prog w=.ok (.pointer (some ⟨g,3,none⟩)) w:=by simp [go_sem]
set_option maxHeartbeats 4000000 in
theorem rmay_n (a b c d:Int) (W:World):Calls Try.prog 71 #[.agg #[.int .u64 a,.int .u64 b,.int .i64 c,.int .i64 d]] W fun e w'=>e=.returned (.bool (Rg.mayB ⟨⟨a,b⟩,⟨c,d⟩⟩)) ∧ Below W.heap.size W w':=by
  refine calls_abs Try.func71 rfl (Nat.le_of_ble_eq_true rfl) ?_
  intro a0 d0 z0 h0
  replace z0:a0.tmps.size=15:=z0
  have s0_0:a0.tmps.getD 0 undef=.agg (cR a b c d):=h0 0 (Nat.le_of_ble_eq_true rfl)
  refine wp_seq ?_
  refine go_reg [] [⟨0,1,25,(cR a b c d),none,#[]⟩] [none,some (.bool false)] mo d0 z0 (Below.refl _ _) (by kernel_rfl) trivial (
   hc (fun _ ax _ cx=>cx.al (wn rfl) 0 rfl (by simp [execOp,Act.eval,(show ax.tmps.getD 0 undef=.agg (cR a b c d) from (cx.rq 0 s0_0)),go_sem]) rfl rfl rfl rfl rfl trivial) <|
   hk (fun cx=>cx.v (ex_as rfl rfl) rfl rfl) <|
   hn) ?_
  intro a1 w1 f1
  obtain ⟨g1,u_g1,q_g1,b_g1⟩:=f1.al.1
  refine wp_seq ?_
  cases fk1:decide (a ≤ b)
  case false=>
   have Ffk1:=Lib.hid fk1;clear fk1
   refine go_reg [bx g1 25 (cR a b c d)] [] [some (pt g1 0),some (.int .u64 a),some (pt g1 1),some (.int .u64 b),some (.bool false),some (.bool false),some (undef),some (undef),some (undef),some (undef),some (undef),some (.bool false),some (.bool false)] mo f1.d f1.z f1.b (by kernel_rfl) ⟨b_g1,trivial⟩ (
    hk (fun cx=>cx.v (ex_fa rfl (cx.rq 1 u_g1) (faRR25_0_0 _ _)) rfl rfl) <|
    hk (fun cx=>cx.v (ex_ld rfl (cx.u 0 rfl) (cx.rn 0 rfl) rfl Try.isAgg23) rfl rfl) <|
    hk (fun cx=>cx.v (ex_fa rfl (cx.rq 1 u_g1) (faRR25_1_0 _ _)) rfl rfl) <|
    hk (fun cx=>cx.v (ex_ld rfl (cx.u 0 rfl) (cx.rn 0 rfl) rfl Try.isAgg23) rfl rfl) <|
    hk (fun cx=>cx.v (ex_le (x:=.tmp 4) (y:=.tmp 6) rfl (cx.u 0 rfl) (cx.u 1 rfl)) rfl (congrArg Value.bool Ffk1.out)) <|
    hk (fun cx=>cx.v (ex_mv rfl (cx.u 0 rfl)) rfl rfl) <|
    hk (fun cx=>cx.no (cx.wo rfl rfl rfl rfl (cx.u 0 rfl) rfl) rfl rfl rfl rfl) <|
    hk (fun cx=>cx.no (cx.wo rfl rfl rfl rfl (cx.u 1 rfl) rfl) rfl rfl rfl rfl) <|
    hk (fun cx=>cx.no (cx.wo rfl rfl rfl rfl (cx.u 0 rfl) rfl) rfl rfl rfl rfl) <|
    hk (fun cx=>cx.no (cx.wo rfl rfl rfl rfl (cx.u 1 rfl) rfl) rfl rfl rfl rfl) <|
    hk (fun cx=>cx.no (cx.wo rfl rfl rfl rfl (cx.u 2 rfl) rfl) rfl rfl rfl rfl) <|
    hk (fun cx=>cx.v (ex_pf rfl (cx.u 0 rfl) rfl) rfl rfl) <|
    hk (fun cx=>cx.v (ex_as rfl (cx.u 0 rfl)) rfl rfl) <|
    hn) ?_
   intro a2 w2 f2
   refine wp_ret ?_
   try simp only [Exit.inBlock,Exit.then]
   refine bodyPost_ret (res_t (fn:=Try.f71) rfl (f2.v 12 rfl rfl rfl)) f2.d ?_
   have HE:Value.bool false=.bool (Rg.mayB ⟨⟨a,b⟩,⟨c,d⟩⟩):=by show _=Value.bool (decide (a ≤ b) && decide (c ≤ d));rw [Ffk1.out];rfl
   exact ⟨retV HE,f2.b⟩
  have Ffk1:=Lib.hid fk1;clear fk1
  cases fk2:decide (c ≤ d)
  case false=>
   have Ffk2:=Lib.hid fk2;clear fk2
   refine go_reg [bx g1 25 (cR a b c d)] [] [some (pt g1 0),some (.int .u64 a),some (pt g1 1),some (.int .u64 b),some (.bool true),some (.bool true),some (pt g1 2),some (.int .i64 c),some (pt g1 3),some (.int .i64 d),some (.bool false),some (.bool false),some (.bool false)] mo f1.d f1.z f1.b (by kernel_rfl) ⟨b_g1,trivial⟩ (
    hk (fun cx=>cx.v (ex_fa rfl (cx.rq 1 u_g1) (faRR25_0_0 _ _)) rfl rfl) <|
    hk (fun cx=>cx.v (ex_ld rfl (cx.u 0 rfl) (cx.rn 0 rfl) rfl Try.isAgg23) rfl rfl) <|
    hk (fun cx=>cx.v (ex_fa rfl (cx.rq 1 u_g1) (faRR25_1_0 _ _)) rfl rfl) <|
    hk (fun cx=>cx.v (ex_ld rfl (cx.u 0 rfl) (cx.rn 0 rfl) rfl Try.isAgg23) rfl rfl) <|
    hk (fun cx=>cx.v (ex_le (x:=.tmp 4) (y:=.tmp 6) rfl (cx.u 0 rfl) (cx.u 1 rfl)) rfl (congrArg Value.bool Ffk1.out)) <|
    hk (fun cx=>cx.v (ex_mv rfl (cx.u 0 rfl)) rfl rfl) <|
    hk (fun cx=>cx.val (cx.wy rfl rfl rfl rfl (cx.u 0 rfl)) (ex_fa rfl (cx.rq 1 u_g1) (faRR25_2_0 _ _)) rfl rfl rfl rfl) <|
    hk (fun cx=>cx.val (cx.wy rfl rfl rfl rfl (cx.u 1 rfl)) (ex_ld rfl (cx.u 0 rfl) (cx.rn 0 rfl) rfl Try.isAgg2) rfl rfl rfl rfl) <|
    hk (fun cx=>cx.val (cx.wy rfl rfl rfl rfl (cx.u 0 rfl)) (ex_fa rfl (cx.rq 1 u_g1) (faRR25_3_0 _ _)) rfl rfl rfl rfl) <|
    hk (fun cx=>cx.val (cx.wy rfl rfl rfl rfl (cx.u 1 rfl)) (ex_ld rfl (cx.u 0 rfl) (cx.rn 0 rfl) rfl Try.isAgg2) rfl rfl rfl rfl) <|
    hk (fun cx=>cx.val (cx.wy rfl rfl rfl rfl (cx.u 2 rfl)) (ex_le (x:=.tmp 10) (y:=.tmp 12) rfl (cx.u 0 rfl) (cx.u 1 rfl)) rfl rfl (congrArg Value.bool Ffk2.out) rfl) <|
    hk (fun cx=>cx.v (ex_pt rfl (cx.u 0 rfl) (cx.u 1 rfl)) rfl rfl) <|
    hk (fun cx=>cx.v (ex_as rfl (cx.u 0 rfl)) rfl rfl) <|
    hn) ?_
   intro a3 w3 f3
   refine wp_ret ?_
   try simp only [Exit.inBlock,Exit.then]
   refine bodyPost_ret (res_t (fn:=Try.f71) rfl (f3.v 12 rfl rfl rfl)) f3.d ?_
   have HE:Value.bool false=.bool (Rg.mayB ⟨⟨a,b⟩,⟨c,d⟩⟩):=by show _=Value.bool (decide (a ≤ b) && decide (c ≤ d));rw [Ffk1.out,Ffk2.out];rfl
   exact ⟨retV HE,f3.b⟩
  have Ffk2:=Lib.hid fk2;clear fk2
  refine go_reg [bx g1 25 (cR a b c d)] [] [some (pt g1 0),some (.int .u64 a),some (pt g1 1),some (.int .u64 b),some (.bool true),some (.bool true),some (pt g1 2),some (.int .i64 c),some (pt g1 3),some (.int .i64 d),some (.bool true),some (.bool true),some (.bool true)] mo f1.d f1.z f1.b (by kernel_rfl) ⟨b_g1,trivial⟩ (
   hk (fun cx=>cx.v (ex_fa rfl (cx.rq 1 u_g1) (faRR25_0_0 _ _)) rfl rfl) <|
   hk (fun cx=>cx.v (ex_ld rfl (cx.u 0 rfl) (cx.rn 0 rfl) rfl Try.isAgg23) rfl rfl) <|
   hk (fun cx=>cx.v (ex_fa rfl (cx.rq 1 u_g1) (faRR25_1_0 _ _)) rfl rfl) <|
   hk (fun cx=>cx.v (ex_ld rfl (cx.u 0 rfl) (cx.rn 0 rfl) rfl Try.isAgg23) rfl rfl) <|
   hk (fun cx=>cx.v (ex_le (x:=.tmp 4) (y:=.tmp 6) rfl (cx.u 0 rfl) (cx.u 1 rfl)) rfl (congrArg Value.bool Ffk1.out)) <|
   hk (fun cx=>cx.v (ex_mv rfl (cx.u 0 rfl)) rfl rfl) <|
   hk (fun cx=>cx.val (cx.wy rfl rfl rfl rfl (cx.u 0 rfl)) (ex_fa rfl (cx.rq 1 u_g1) (faRR25_2_0 _ _)) rfl rfl rfl rfl) <|
   hk (fun cx=>cx.val (cx.wy rfl rfl rfl rfl (cx.u 1 rfl)) (ex_ld rfl (cx.u 0 rfl) (cx.rn 0 rfl) rfl Try.isAgg2) rfl rfl rfl rfl) <|
   hk (fun cx=>cx.val (cx.wy rfl rfl rfl rfl (cx.u 0 rfl)) (ex_fa rfl (cx.rq 1 u_g1) (faRR25_3_0 _ _)) rfl rfl rfl rfl) <|
   hk (fun cx=>cx.val (cx.wy rfl rfl rfl rfl (cx.u 1 rfl)) (ex_ld rfl (cx.u 0 rfl) (cx.rn 0 rfl) rfl Try.isAgg2) rfl rfl rfl rfl) <|
   hk (fun cx=>cx.val (cx.wy rfl rfl rfl rfl (cx.u 2 rfl)) (ex_le (x:=.tmp 10) (y:=.tmp 12) rfl (cx.u 0 rfl) (cx.u 1 rfl)) rfl rfl (congrArg Value.bool Ffk2.out) rfl) <|
   hk (fun cx=>cx.v (ex_pt rfl (cx.u 0 rfl) (cx.u 1 rfl)) rfl rfl) <|
   hk (fun cx=>cx.v (ex_as rfl (cx.u 0 rfl)) rfl rfl) <|
   hn) ?_
  intro a4 w4 f4
  refine wp_ret ?_
  try simp only [Exit.inBlock,Exit.then]
  refine bodyPost_ret (res_t (fn:=Try.f71) rfl (f4.v 12 rfl rfl rfl)) f4.d ?_
  have HE:Value.bool true=.bool (Rg.mayB ⟨⟨a,b⟩,⟨c,d⟩⟩):=by show _=Value.bool (decide (a ≤ b) && decide (c ≤ d));rw [Ffk1.out,Ffk2.out];rfl
  exact ⟨retV HE,f4.b⟩
set_option maxHeartbeats 4000000 in
theorem rall_n  (W:World):Calls Try.prog 68 #[] W fun e w'=>e=.returned (.agg #[.int .u64 (allR).u.lo,.int .u64 (allR).u.hi,.int .i64 (allR).s.lo,.int .i64 (allR).s.hi]) ∧ Below W.heap.size W w':=by
  refine calls_abs Try.func68 rfl (Nat.le_of_ble_eq_true rfl) ?_
  intro a0 d0 z0 h0
  replace z0:a0.tmps.size=2:=z0
  refine wp_seq ?_
  refine go_reg [] [⟨0,0,25,(cR 0 0 0 0),none,#[]⟩] [none] mo d0 z0 (Below.refl _ _) (by kernel_rfl) trivial (
   hk (fun cx=>cx.al (wn rfl) 0 rfl (by simp [execOp,Act.eval,go_sem]) rfl rfl rfl rfl rfl trivial) <|
   hn) ?_
  intro a1 w1 f1
  obtain ⟨g1,u_g1,q_g1,b_g1⟩:=f1.al.1
  refine wp_seq ?_
  refine go_reg [⟨g1,25,(cR 0 0 0 0),some 1,(cR 0 18446744073709551615 (-9223372036854775808) 9223372036854775807)⟩] [] [some (.agg (cR 0 18446744073709551615 (-9223372036854775808) 9223372036854775807)),none] mo f1.d f1.z f1.b (by kernel_rfl) ⟨b_g1,trivial⟩ (
   hk (fun cx=>cx.v (exec_build rfl (parts3 rfl rfl rfl) (by kernel_rfl)) rfl rfl) <|
   hk (fun cx=>cx.stR (wn rfl) rfl rfl 0 rfl (cx.rq 0 u_g1) (cx.u 0 rfl) (by kernel_rfl) rfl (by simp [Value.oneCell']) q_g1 rfl trivial trivial) <|
   hn) ?_
  intro a2 w2 f2
  refine wp_ret ?_
  have s0_1:=f2.q 0 u_g1
  try simp only [Exit.inBlock,Exit.then]
  refine bodyPost_ret (res_c (fn:=Try.f68) rfl s0_1 (load_row 25 f2.rows.1 Try.underlying25 rfl (by kernel_rfl))) f2.d ?_
  exact ⟨rfl,f2.b⟩
theorem wrap_un (v:Int):IntKind.u64.wrap v=un v:=by rw [IntKind.wrap_u64,un]
set_option maxHeartbeats 4000000 in
theorem rone_n (v:Int) (W:World):Calls Try.prog 65 #[.int .u64 v] W fun e w'=>e=.returned (.agg #[.int .u64 (oneR v).u.lo,.int .u64 (oneR v).u.hi,.int .i64 (oneR v).s.lo,.int .i64 (oneR v).s.hi]) ∧ Below W.heap.size W w':=by
  refine calls_abs Try.func65 rfl (Nat.le_of_ble_eq_true rfl) ?_
  intro a0 d0 z0 h0
  replace z0:a0.tmps.size=10:=z0
  have s0_0:a0.tmps.getD 0 undef=.int .u64 v:=h0 0 (Nat.le_of_ble_eq_true rfl)
  refine wp_seq ?_
  refine go_reg [] [⟨0,2,25,(cR 0 0 0 0),none,#[]⟩] [none] mo d0 z0 (Below.refl _ _) (by kernel_rfl) trivial (
   hk (fun cx=>cx.al (wn rfl) 0 rfl (by simp [execOp,Act.eval,go_sem]) rfl rfl rfl rfl rfl trivial) <|
   hn) ?_
  intro a1 w1 f1
  obtain ⟨g1,u_g1,q_g1,b_g1⟩:=f1.al.1
  refine wp_seq ?_
  have s0_1:=f1.q 0 s0_0
  refine go_reg [⟨g1,25,(cR 0 0 0 0),some 7,(cR v v (sg v) (sg v))⟩] [] [some (.int .u64 v),some (.int .u64 v),some (.int .u64 v),some (.int .i64 (sg v)),some (.int .u64 v),some (.int .i64 (sg v)),some (.agg (cR v v (sg v) (sg v))),none] mo f1.d f1.z f1.b (by kernel_rfl) ⟨b_g1,trivial⟩ (
   hk (fun cx=>cx.v (ex_mv rfl (cx.rq 0 s0_1)) rfl rfl) <|
   hk (fun cx=>cx.v (ex_mv rfl (cx.rq 0 s0_1)) rfl rfl) <|
   hk (fun cx=>cx.v (ex_mv rfl (cx.rq 0 s0_1)) rfl rfl) <|
   hk (fun cx=>cx.v (ex_conv (x:=.tmp 5) rfl (cx.u 0 rfl) Try.underlying23 Try.underlying2) rfl (congrArg (Value.int .i64) (wrap_sg v))) <|
   hk (fun cx=>cx.v (ex_mv rfl (cx.rq 0 s0_1)) rfl rfl) <|
   hk (fun cx=>cx.v (ex_conv (x:=.tmp 7) rfl (cx.u 0 rfl) Try.underlying23 Try.underlying2) rfl (congrArg (Value.int .i64) (wrap_sg v))) <|
   hk (fun cx=>cx.v (exec_build rfl (parts4 (cx.u 0 rfl) (cx.u 1 rfl) (cx.u 2 rfl) (cx.u 3 rfl)) (by kernel_rfl)) rfl rfl) <|
   hk (fun cx=>cx.stR (wn rfl) rfl rfl 0 rfl (cx.rq 2 u_g1) (cx.u 0 rfl) (by kernel_rfl) rfl (by simp [Value.oneCell']) q_g1 rfl trivial trivial) <|
   hn) ?_
  intro a2 w2 f2
  refine wp_ret ?_
  have s2_2:=f2.q 2 u_g1
  try simp only [Exit.inBlock,Exit.then]
  refine bodyPost_ret (res_c (fn:=Try.f65) rfl s2_2 (load_row 25 f2.rows.1 Try.underlying25 rfl (by kernel_rfl))) f2.d ?_
  exact ⟨rfl,f2.b⟩
theorem has_no {r:Rg} (h:r.mayB=false) (v:Int):r.hasB v=false:=by
  cases e:r.hasB v
  · rfl
  · rw [has_may e] at h;cases h
set_option maxHeartbeats 4000000 in
theorem rhas_n (a b c d v:Int) (W:World):Calls Try.prog 75 #[.agg #[.int .u64 a,.int .u64 b,.int .i64 c,.int .i64 d],.int .u64 v] W fun e w'=>e=.returned (.bool (Rg.hasB ⟨⟨a,b⟩,⟨c,d⟩⟩ v)) ∧ Below W.heap.size W w':=by
  refine calls_abs Try.func75 rfl (Nat.le_of_ble_eq_true rfl) ?_
  intro a0 d0 z0 h0
  replace z0:a0.tmps.size=33:=z0
  have s0_0:a0.tmps.getD 0 undef=.agg (cR a b c d):=h0 0 (Nat.le_of_ble_eq_true rfl)
  have s1_0:a0.tmps.getD 1 undef=.int .u64 v:=h0 1 (Nat.le_of_ble_eq_true rfl)
  refine wp_seq ?_
  refine go_reg [] [⟨0,2,25,(cR a b c d),none,#[]⟩] [none,some (.bool false)] mo d0 z0 (Below.refl _ _) (by kernel_rfl) trivial (
   hc (fun _ ax _ cx=>cx.al (wn rfl) 0 rfl (by simp [execOp,Act.eval,(show ax.tmps.getD 0 undef=.agg (cR a b c d) from (cx.rq 0 s0_0)),go_sem]) rfl rfl rfl rfl rfl trivial) <|
   hk (fun cx=>cx.v (ex_as rfl rfl) rfl rfl) <|
   hn) ?_
  intro a1 w1 f1
  obtain ⟨g1,u_g1,q_g1,b_g1⟩:=f1.al.1
  refine wp_seq ?_
  cases fk1:Rg.mayB ⟨⟨a,b⟩,⟨c,d⟩⟩
  case false=>
   have Ffk1:=Lib.hid fk1;clear fk1
   refine go_reg [bx g1 25 (cR a b c d)] [] (tabs [some (.agg (cR a b c d)),some (.bool false),some (.bool false),some (undef),some (undef),some (undef),some (undef),some (.bool false),some (.bool false),some (undef),some (undef),some (undef),some (undef),some (.bool false),some (.bool false),some (undef),some (undef),some (undef),some (undef),some (undef)] [some (.bool false),some (.bool false),some (undef),some (undef),some (undef),some (undef),some (undef),some (.bool false),some (.bool false)]) mo f1.d f1.z f1.b (by kernel_rfl) ⟨b_g1,trivial⟩ (
    hk (fun cx=>cx.v (ldR rfl (cx.rq 2 u_g1) (cx.rn 0 rfl)) rfl rfl) <|
    hc (fun _ _ wx cx=>cx.c rfl (args1 (cx.u 0 rfl)) Try.func71 (by decide +kernel) (rmay_n a b c d wx) rfl (congrArg Value.bool Ffk1.out)) <|
    hk (fun cx=>cx.v (ex_mv rfl (cx.u 0 rfl)) rfl rfl) <|
    hk (fun cx=>cx.no (cx.wo rfl rfl rfl rfl (cx.u 0 rfl) rfl) rfl rfl rfl rfl) <|
    hk (fun cx=>cx.no (cx.wo rfl rfl rfl rfl (cx.u 0 rfl) rfl) rfl rfl rfl rfl) <|
    hk (fun cx=>cx.no (cx.wo rfl rfl rfl rfl (cx.u 1 rfl) rfl) rfl rfl rfl rfl) <|
    hk (fun cx=>cx.no (cx.wo rfl rfl rfl rfl (cx.u 2 rfl) rfl) rfl rfl rfl rfl) <|
    hk (fun cx=>cx.v (ex_pf rfl (cx.u 0 rfl) rfl) rfl rfl) <|
    hk (fun cx=>cx.v (ex_mv rfl (cx.u 0 rfl)) rfl rfl) <|
    hk (fun cx=>cx.no (cx.wo rfl rfl rfl rfl (cx.u 0 rfl) rfl) rfl rfl rfl rfl) <|
    hk (fun cx=>cx.no (cx.wo rfl rfl rfl rfl (cx.u 0 rfl) rfl) rfl rfl rfl rfl) <|
    hk (fun cx=>cx.no (cx.wo rfl rfl rfl rfl (cx.u 1 rfl) rfl) rfl rfl rfl rfl) <|
    hk (fun cx=>cx.no (cx.wo rfl rfl rfl rfl (cx.u 2 rfl) rfl) rfl rfl rfl rfl) <|
    hk (fun cx=>cx.v (ex_pf rfl (cx.u 0 rfl) rfl) rfl rfl) <|
    hk (fun cx=>cx.v (ex_mv rfl (cx.u 0 rfl)) rfl rfl) <|
    hk (fun cx=>cx.no (cx.wo rfl rfl rfl rfl (cx.u 0 rfl) rfl) rfl rfl rfl rfl) <|
    hk (fun cx=>cx.no (cx.wo rfl rfl rfl rfl (cx.u 1 rfl) rfl) rfl rfl rfl rfl) <|
    hk (fun cx=>cx.no (cx.wo rfl rfl rfl rfl (cx.u 0 rfl) rfl) rfl rfl rfl rfl) <|
    hk (fun cx=>cx.no (cx.wo rfl rfl rfl rfl (cx.u 1 rfl) rfl) rfl rfl rfl rfl) <|
    hk (fun cx=>cx.no (cx.wo rfl rfl rfl rfl (cx.u 2 rfl) rfl) rfl rfl rfl rfl) <|
    hk (fun cx=>cx.v (ex_pf rfl (cx.u 0 rfl) rfl) rfl rfl) <|
    hk (fun cx=>cx.v (ex_mv rfl (cx.u 0 rfl)) rfl rfl) <|
    hk (fun cx=>cx.no (cx.wo rfl rfl rfl rfl (cx.u 0 rfl) rfl) rfl rfl rfl rfl) <|
    hk (fun cx=>cx.no (cx.wo rfl rfl rfl rfl (cx.u 1 rfl) rfl) rfl rfl rfl rfl) <|
    hk (fun cx=>cx.no (cx.wo rfl rfl rfl rfl (cx.u 0 rfl) rfl) rfl rfl rfl rfl) <|
    hk (fun cx=>cx.no (cx.wo rfl rfl rfl rfl (cx.u 1 rfl) rfl) rfl rfl rfl rfl) <|
    hk (fun cx=>cx.no (cx.wo rfl rfl rfl rfl (cx.u 2 rfl) rfl) rfl rfl rfl rfl) <|
    hk (fun cx=>cx.v (ex_pf rfl (cx.u 0 rfl) rfl) rfl rfl) <|
    hk (fun cx=>cx.v (ex_as rfl (cx.u 0 rfl)) rfl rfl) <|
    hn) ?_
   intro a2 w2 f2
   refine wp_ret ?_
   try simp only [Exit.inBlock,Exit.then]
   refine bodyPost_ret (res_t (fn:=Try.f75) rfl (f2.v 28 rfl rfl rfl)) f2.d ?_
   have HE:Value.bool false=.bool (Rg.hasB ⟨⟨a,b⟩,⟨c,d⟩⟩ v):=congrArg Value.bool (has_no Ffk1.out v).symm
   exact ⟨retV HE,f2.b⟩
  have Ffk1:=Lib.hid fk1;clear fk1
  cases fk2:decide (a ≤ v)
  case false=>
   have Ffk2:=Lib.hid fk2;clear fk2
   have s1_1:=f1.q 1 s1_0
   refine go_reg [bx g1 25 (cR a b c d)] [] (tabs [some (.agg (cR a b c d)),some (.bool true),some (.bool true),some (.int .u64 v),some (pt g1 0),some (.int .u64 a),some (.bool false),some (.bool false),some (.bool false),some (undef),some (undef),some (undef),some (undef),some (.bool false),some (.bool false),some (undef),some (undef),some (undef),some (undef),some (undef)] [some (.bool false),some (.bool false),some (undef),some (undef),some (undef),some (undef),some (undef),some (.bool false),some (.bool false)]) mo f1.d f1.z f1.b (by kernel_rfl) ⟨b_g1,trivial⟩ (
    hk (fun cx=>cx.v (ldR rfl (cx.rq 2 u_g1) (cx.rn 0 rfl)) rfl rfl) <|
    hc (fun _ _ wx cx=>cx.c rfl (args1 (cx.u 0 rfl)) Try.func71 (by decide +kernel) (rmay_n a b c d wx) rfl (congrArg Value.bool Ffk1.out)) <|
    hk (fun cx=>cx.v (ex_mv rfl (cx.u 0 rfl)) rfl rfl) <|
    hk (fun cx=>cx.val (cx.wy rfl rfl rfl rfl (cx.u 0 rfl)) (ex_mv rfl (cx.rq 1 s1_1)) rfl rfl rfl rfl) <|
    hk (fun cx=>cx.val (cx.wy rfl rfl rfl rfl (cx.u 0 rfl)) (ex_fa rfl (cx.rq 2 u_g1) (faRR25_0_0 _ _)) rfl rfl rfl rfl) <|
    hk (fun cx=>cx.val (cx.wy rfl rfl rfl rfl (cx.u 1 rfl)) (ex_ld rfl (cx.u 0 rfl) (cx.rn 0 rfl) rfl Try.isAgg23) rfl rfl rfl rfl) <|
    hk (fun cx=>cx.val (cx.wy rfl rfl rfl rfl (cx.u 2 rfl)) (ex_ge (x:=.tmp 8) (y:=.tmp 10) rfl (cx.u 0 rfl) (cx.u 1 rfl)) rfl rfl (congrArg Value.bool Ffk2.out) rfl) <|
    hk (fun cx=>cx.v (ex_pt rfl (cx.u 0 rfl) (cx.u 1 rfl)) rfl rfl) <|
    hk (fun cx=>cx.v (ex_mv rfl (cx.u 0 rfl)) rfl rfl) <|
    hk (fun cx=>cx.no (cx.wo rfl rfl rfl rfl (cx.u 0 rfl) rfl) rfl rfl rfl rfl) <|
    hk (fun cx=>cx.no (cx.wo rfl rfl rfl rfl (cx.u 0 rfl) rfl) rfl rfl rfl rfl) <|
    hk (fun cx=>cx.no (cx.wo rfl rfl rfl rfl (cx.u 1 rfl) rfl) rfl rfl rfl rfl) <|
    hk (fun cx=>cx.no (cx.wo rfl rfl rfl rfl (cx.u 2 rfl) rfl) rfl rfl rfl rfl) <|
    hk (fun cx=>cx.v (ex_pf rfl (cx.u 0 rfl) rfl) rfl rfl) <|
    hk (fun cx=>cx.v (ex_mv rfl (cx.u 0 rfl)) rfl rfl) <|
    hk (fun cx=>cx.no (cx.wo rfl rfl rfl rfl (cx.u 0 rfl) rfl) rfl rfl rfl rfl) <|
    hk (fun cx=>cx.no (cx.wo rfl rfl rfl rfl (cx.u 1 rfl) rfl) rfl rfl rfl rfl) <|
    hk (fun cx=>cx.no (cx.wo rfl rfl rfl rfl (cx.u 0 rfl) rfl) rfl rfl rfl rfl) <|
    hk (fun cx=>cx.no (cx.wo rfl rfl rfl rfl (cx.u 1 rfl) rfl) rfl rfl rfl rfl) <|
    hk (fun cx=>cx.no (cx.wo rfl rfl rfl rfl (cx.u 2 rfl) rfl) rfl rfl rfl rfl) <|
    hk (fun cx=>cx.v (ex_pf rfl (cx.u 0 rfl) rfl) rfl rfl) <|
    hk (fun cx=>cx.v (ex_mv rfl (cx.u 0 rfl)) rfl rfl) <|
    hk (fun cx=>cx.no (cx.wo rfl rfl rfl rfl (cx.u 0 rfl) rfl) rfl rfl rfl rfl) <|
    hk (fun cx=>cx.no (cx.wo rfl rfl rfl rfl (cx.u 1 rfl) rfl) rfl rfl rfl rfl) <|
    hk (fun cx=>cx.no (cx.wo rfl rfl rfl rfl (cx.u 0 rfl) rfl) rfl rfl rfl rfl) <|
    hk (fun cx=>cx.no (cx.wo rfl rfl rfl rfl (cx.u 1 rfl) rfl) rfl rfl rfl rfl) <|
    hk (fun cx=>cx.no (cx.wo rfl rfl rfl rfl (cx.u 2 rfl) rfl) rfl rfl rfl rfl) <|
    hk (fun cx=>cx.v (ex_pf rfl (cx.u 0 rfl) rfl) rfl rfl) <|
    hk (fun cx=>cx.v (ex_as rfl (cx.u 0 rfl)) rfl rfl) <|
    hn) ?_
   intro a3 w3 f3
   refine wp_ret ?_
   try simp only [Exit.inBlock,Exit.then]
   refine bodyPost_ret (res_t (fn:=Try.f75) rfl (f3.v 28 rfl rfl rfl)) f3.d ?_
   have HE:Value.bool false=.bool (Rg.hasB ⟨⟨a,b⟩,⟨c,d⟩⟩ v):=by show _=Value.bool ((decide (a ≤ v) && decide (v ≤ b)) && (decide (c ≤ (sg v)) && decide ((sg v) ≤ d)));simp only [Ffk2.out,Bool.false_and,Bool.true_and,Bool.and_false,Bool.and_true]
   exact ⟨retV HE,f3.b⟩
  have Ffk2:=Lib.hid fk2;clear fk2
  cases fk3:decide (v ≤ b)
  case false=>
   have Ffk3:=Lib.hid fk3;clear fk3
   have s1_2:=f1.q 1 s1_0
   refine go_reg [bx g1 25 (cR a b c d)] [] (tabs [some (.agg (cR a b c d)),some (.bool true),some (.bool true),some (.int .u64 v),some (pt g1 0),some (.int .u64 a),some (.bool true),some (.bool true),some (.bool true),some (.int .u64 v),some (pt g1 1),some (.int .u64 b),some (.bool false),some (.bool false),some (.bool false),some (undef),some (undef),some (undef),some (undef),some (undef)] [some (.bool false),some (.bool false),some (undef),some (undef),some (undef),some (undef),some (undef),some (.bool false),some (.bool false)]) mo f1.d f1.z f1.b (by kernel_rfl) ⟨b_g1,trivial⟩ (
    hk (fun cx=>cx.v (ldR rfl (cx.rq 2 u_g1) (cx.rn 0 rfl)) rfl rfl) <|
    hc (fun _ _ wx cx=>cx.c rfl (args1 (cx.u 0 rfl)) Try.func71 (by decide +kernel) (rmay_n a b c d wx) rfl (congrArg Value.bool Ffk1.out)) <|
    hk (fun cx=>cx.v (ex_mv rfl (cx.u 0 rfl)) rfl rfl) <|
    hk (fun cx=>cx.val (cx.wy rfl rfl rfl rfl (cx.u 0 rfl)) (ex_mv rfl (cx.rq 1 s1_2)) rfl rfl rfl rfl) <|
    hk (fun cx=>cx.val (cx.wy rfl rfl rfl rfl (cx.u 0 rfl)) (ex_fa rfl (cx.rq 2 u_g1) (faRR25_0_0 _ _)) rfl rfl rfl rfl) <|
    hk (fun cx=>cx.val (cx.wy rfl rfl rfl rfl (cx.u 1 rfl)) (ex_ld rfl (cx.u 0 rfl) (cx.rn 0 rfl) rfl Try.isAgg23) rfl rfl rfl rfl) <|
    hk (fun cx=>cx.val (cx.wy rfl rfl rfl rfl (cx.u 2 rfl)) (ex_ge (x:=.tmp 8) (y:=.tmp 10) rfl (cx.u 0 rfl) (cx.u 1 rfl)) rfl rfl (congrArg Value.bool Ffk2.out) rfl) <|
    hk (fun cx=>cx.v (ex_pt rfl (cx.u 0 rfl) (cx.u 1 rfl)) rfl rfl) <|
    hk (fun cx=>cx.v (ex_mv rfl (cx.u 0 rfl)) rfl rfl) <|
    hk (fun cx=>cx.val (cx.wy rfl rfl rfl rfl (cx.u 0 rfl)) (ex_mv rfl (cx.rq 1 s1_2)) rfl rfl rfl rfl) <|
    hk (fun cx=>cx.val (cx.wy rfl rfl rfl rfl (cx.u 0 rfl)) (ex_fa rfl (cx.rq 2 u_g1) (faRR25_1_0 _ _)) rfl rfl rfl rfl) <|
    hk (fun cx=>cx.val (cx.wy rfl rfl rfl rfl (cx.u 1 rfl)) (ex_ld rfl (cx.u 0 rfl) (cx.rn 0 rfl) rfl Try.isAgg23) rfl rfl rfl rfl) <|
    hk (fun cx=>cx.val (cx.wy rfl rfl rfl rfl (cx.u 2 rfl)) (ex_le (x:=.tmp 14) (y:=.tmp 16) rfl (cx.u 0 rfl) (cx.u 1 rfl)) rfl rfl (congrArg Value.bool Ffk3.out) rfl) <|
    hk (fun cx=>cx.v (ex_pt rfl (cx.u 0 rfl) (cx.u 1 rfl)) rfl rfl) <|
    hk (fun cx=>cx.v (ex_mv rfl (cx.u 0 rfl)) rfl rfl) <|
    hk (fun cx=>cx.no (cx.wo rfl rfl rfl rfl (cx.u 0 rfl) rfl) rfl rfl rfl rfl) <|
    hk (fun cx=>cx.no (cx.wo rfl rfl rfl rfl (cx.u 1 rfl) rfl) rfl rfl rfl rfl) <|
    hk (fun cx=>cx.no (cx.wo rfl rfl rfl rfl (cx.u 0 rfl) rfl) rfl rfl rfl rfl) <|
    hk (fun cx=>cx.no (cx.wo rfl rfl rfl rfl (cx.u 1 rfl) rfl) rfl rfl rfl rfl) <|
    hk (fun cx=>cx.no (cx.wo rfl rfl rfl rfl (cx.u 2 rfl) rfl) rfl rfl rfl rfl) <|
    hk (fun cx=>cx.v (ex_pf rfl (cx.u 0 rfl) rfl) rfl rfl) <|
    hk (fun cx=>cx.v (ex_mv rfl (cx.u 0 rfl)) rfl rfl) <|
    hk (fun cx=>cx.no (cx.wo rfl rfl rfl rfl (cx.u 0 rfl) rfl) rfl rfl rfl rfl) <|
    hk (fun cx=>cx.no (cx.wo rfl rfl rfl rfl (cx.u 1 rfl) rfl) rfl rfl rfl rfl) <|
    hk (fun cx=>cx.no (cx.wo rfl rfl rfl rfl (cx.u 0 rfl) rfl) rfl rfl rfl rfl) <|
    hk (fun cx=>cx.no (cx.wo rfl rfl rfl rfl (cx.u 1 rfl) rfl) rfl rfl rfl rfl) <|
    hk (fun cx=>cx.no (cx.wo rfl rfl rfl rfl (cx.u 2 rfl) rfl) rfl rfl rfl rfl) <|
    hk (fun cx=>cx.v (ex_pf rfl (cx.u 0 rfl) rfl) rfl rfl) <|
    hk (fun cx=>cx.v (ex_as rfl (cx.u 0 rfl)) rfl rfl) <|
    hn) ?_
   intro a4 w4 f4
   refine wp_ret ?_
   try simp only [Exit.inBlock,Exit.then]
   refine bodyPost_ret (res_t (fn:=Try.f75) rfl (f4.v 28 rfl rfl rfl)) f4.d ?_
   have HE:Value.bool false=.bool (Rg.hasB ⟨⟨a,b⟩,⟨c,d⟩⟩ v):=by show _=Value.bool ((decide (a ≤ v) && decide (v ≤ b)) && (decide (c ≤ (sg v)) && decide ((sg v) ≤ d)));simp only [Ffk2.out,Ffk3.out,Bool.false_and,Bool.true_and,Bool.and_false,Bool.and_true]
   exact ⟨retV HE,f4.b⟩
  have Ffk3:=Lib.hid fk3;clear fk3
  cases fk4:decide (c ≤ (sg v))
  case false=>
   have Ffk4:=Lib.hid fk4;clear fk4
   have s1_3:=f1.q 1 s1_0
   refine go_reg [bx g1 25 (cR a b c d)] [] (tabs [some (.agg (cR a b c d)),some (.bool true),some (.bool true),some (.int .u64 v),some (pt g1 0),some (.int .u64 a),some (.bool true),some (.bool true),some (.bool true),some (.int .u64 v),some (pt g1 1),some (.int .u64 b),some (.bool true),some (.bool true),some (.bool true),some (.int .u64 v),some (.int .i64 (sg v)),some (pt g1 2),some (.int .i64 c),some (.bool false)] [some (.bool false),some (.bool false),some (undef),some (undef),some (undef),some (undef),some (undef),some (.bool false),some (.bool false)]) mo f1.d f1.z f1.b (by kernel_rfl) ⟨b_g1,trivial⟩ (
    hk (fun cx=>cx.v (ldR rfl (cx.rq 2 u_g1) (cx.rn 0 rfl)) rfl rfl) <|
    hc (fun _ _ wx cx=>cx.c rfl (args1 (cx.u 0 rfl)) Try.func71 (by decide +kernel) (rmay_n a b c d wx) rfl (congrArg Value.bool Ffk1.out)) <|
    hk (fun cx=>cx.v (ex_mv rfl (cx.u 0 rfl)) rfl rfl) <|
    hk (fun cx=>cx.val (cx.wy rfl rfl rfl rfl (cx.u 0 rfl)) (ex_mv rfl (cx.rq 1 s1_3)) rfl rfl rfl rfl) <|
    hk (fun cx=>cx.val (cx.wy rfl rfl rfl rfl (cx.u 0 rfl)) (ex_fa rfl (cx.rq 2 u_g1) (faRR25_0_0 _ _)) rfl rfl rfl rfl) <|
    hk (fun cx=>cx.val (cx.wy rfl rfl rfl rfl (cx.u 1 rfl)) (ex_ld rfl (cx.u 0 rfl) (cx.rn 0 rfl) rfl Try.isAgg23) rfl rfl rfl rfl) <|
    hk (fun cx=>cx.val (cx.wy rfl rfl rfl rfl (cx.u 2 rfl)) (ex_ge (x:=.tmp 8) (y:=.tmp 10) rfl (cx.u 0 rfl) (cx.u 1 rfl)) rfl rfl (congrArg Value.bool Ffk2.out) rfl) <|
    hk (fun cx=>cx.v (ex_pt rfl (cx.u 0 rfl) (cx.u 1 rfl)) rfl rfl) <|
    hk (fun cx=>cx.v (ex_mv rfl (cx.u 0 rfl)) rfl rfl) <|
    hk (fun cx=>cx.val (cx.wy rfl rfl rfl rfl (cx.u 0 rfl)) (ex_mv rfl (cx.rq 1 s1_3)) rfl rfl rfl rfl) <|
    hk (fun cx=>cx.val (cx.wy rfl rfl rfl rfl (cx.u 0 rfl)) (ex_fa rfl (cx.rq 2 u_g1) (faRR25_1_0 _ _)) rfl rfl rfl rfl) <|
    hk (fun cx=>cx.val (cx.wy rfl rfl rfl rfl (cx.u 1 rfl)) (ex_ld rfl (cx.u 0 rfl) (cx.rn 0 rfl) rfl Try.isAgg23) rfl rfl rfl rfl) <|
    hk (fun cx=>cx.val (cx.wy rfl rfl rfl rfl (cx.u 2 rfl)) (ex_le (x:=.tmp 14) (y:=.tmp 16) rfl (cx.u 0 rfl) (cx.u 1 rfl)) rfl rfl (congrArg Value.bool Ffk3.out) rfl) <|
    hk (fun cx=>cx.v (ex_pt rfl (cx.u 0 rfl) (cx.u 1 rfl)) rfl rfl) <|
    hk (fun cx=>cx.v (ex_mv rfl (cx.u 0 rfl)) rfl rfl) <|
    hk (fun cx=>cx.val (cx.wy rfl rfl rfl rfl (cx.u 0 rfl)) (ex_mv rfl (cx.rq 1 s1_3)) rfl rfl rfl rfl) <|
    hk (fun cx=>cx.val (cx.wy rfl rfl rfl rfl (cx.u 1 rfl)) (ex_conv (x:=.tmp 20) rfl (cx.u 0 rfl) Try.underlying23 Try.underlying2) rfl rfl (congrArg (Value.int .i64) (wrap_sg v)) rfl) <|
    hk (fun cx=>cx.val (cx.wy rfl rfl rfl rfl (cx.u 0 rfl)) (ex_fa rfl (cx.rq 2 u_g1) (faRR25_2_0 _ _)) rfl rfl rfl rfl) <|
    hk (fun cx=>cx.val (cx.wy rfl rfl rfl rfl (cx.u 1 rfl)) (ex_ld rfl (cx.u 0 rfl) (cx.rn 0 rfl) rfl Try.isAgg2) rfl rfl rfl rfl) <|
    hk (fun cx=>cx.val (cx.wy rfl rfl rfl rfl (cx.u 2 rfl)) (ex_ge (x:=.tmp 21) (y:=.tmp 23) rfl (cx.u 0 rfl) (cx.u 1 rfl)) rfl rfl (congrArg Value.bool Ffk4.out) rfl) <|
    hk (fun cx=>cx.v (ex_pt rfl (cx.u 0 rfl) (cx.u 1 rfl)) rfl rfl) <|
    hk (fun cx=>cx.v (ex_mv rfl (cx.u 0 rfl)) rfl rfl) <|
    hk (fun cx=>cx.no (cx.wo rfl rfl rfl rfl (cx.u 0 rfl) rfl) rfl rfl rfl rfl) <|
    hk (fun cx=>cx.no (cx.wo rfl rfl rfl rfl (cx.u 1 rfl) rfl) rfl rfl rfl rfl) <|
    hk (fun cx=>cx.no (cx.wo rfl rfl rfl rfl (cx.u 0 rfl) rfl) rfl rfl rfl rfl) <|
    hk (fun cx=>cx.no (cx.wo rfl rfl rfl rfl (cx.u 1 rfl) rfl) rfl rfl rfl rfl) <|
    hk (fun cx=>cx.no (cx.wo rfl rfl rfl rfl (cx.u 2 rfl) rfl) rfl rfl rfl rfl) <|
    hk (fun cx=>cx.v (ex_pf rfl (cx.u 0 rfl) rfl) rfl rfl) <|
    hk (fun cx=>cx.v (ex_as rfl (cx.u 0 rfl)) rfl rfl) <|
    hn) ?_
   intro a5 w5 f5
   refine wp_ret ?_
   try simp only [Exit.inBlock,Exit.then]
   refine bodyPost_ret (res_t (fn:=Try.f75) rfl (f5.v 28 rfl rfl rfl)) f5.d ?_
   have HE:Value.bool false=.bool (Rg.hasB ⟨⟨a,b⟩,⟨c,d⟩⟩ v):=by show _=Value.bool ((decide (a ≤ v) && decide (v ≤ b)) && (decide (c ≤ (sg v)) && decide ((sg v) ≤ d)));simp only [Ffk2.out,Ffk3.out,Ffk4.out,Bool.false_and,Bool.true_and,Bool.and_false,Bool.and_true]
   exact ⟨retV HE,f5.b⟩
  have Ffk4:=Lib.hid fk4;clear fk4
  cases fk5:decide ((sg v) ≤ d)
  case false=>
   have Ffk5:=Lib.hid fk5;clear fk5
   have s1_4:=f1.q 1 s1_0
   refine go_reg [bx g1 25 (cR a b c d)] [] (tabs [some (.agg (cR a b c d)),some (.bool true),some (.bool true),some (.int .u64 v),some (pt g1 0),some (.int .u64 a),some (.bool true),some (.bool true),some (.bool true),some (.int .u64 v),some (pt g1 1),some (.int .u64 b),some (.bool true),some (.bool true),some (.bool true),some (.int .u64 v),some (.int .i64 (sg v)),some (pt g1 2),some (.int .i64 c),some (.bool true)] [some (.bool true),some (.bool true),some (.int .u64 v),some (.int .i64 (sg v)),some (pt g1 3),some (.int .i64 d),some (.bool false),some (.bool false),some (.bool false)]) mo f1.d f1.z f1.b (by kernel_rfl) ⟨b_g1,trivial⟩ (
    hk (fun cx=>cx.v (ldR rfl (cx.rq 2 u_g1) (cx.rn 0 rfl)) rfl rfl) <|
    hc (fun _ _ wx cx=>cx.c rfl (args1 (cx.u 0 rfl)) Try.func71 (by decide +kernel) (rmay_n a b c d wx) rfl (congrArg Value.bool Ffk1.out)) <|
    hk (fun cx=>cx.v (ex_mv rfl (cx.u 0 rfl)) rfl rfl) <|
    hk (fun cx=>cx.val (cx.wy rfl rfl rfl rfl (cx.u 0 rfl)) (ex_mv rfl (cx.rq 1 s1_4)) rfl rfl rfl rfl) <|
    hk (fun cx=>cx.val (cx.wy rfl rfl rfl rfl (cx.u 0 rfl)) (ex_fa rfl (cx.rq 2 u_g1) (faRR25_0_0 _ _)) rfl rfl rfl rfl) <|
    hk (fun cx=>cx.val (cx.wy rfl rfl rfl rfl (cx.u 1 rfl)) (ex_ld rfl (cx.u 0 rfl) (cx.rn 0 rfl) rfl Try.isAgg23) rfl rfl rfl rfl) <|
    hk (fun cx=>cx.val (cx.wy rfl rfl rfl rfl (cx.u 2 rfl)) (ex_ge (x:=.tmp 8) (y:=.tmp 10) rfl (cx.u 0 rfl) (cx.u 1 rfl)) rfl rfl (congrArg Value.bool Ffk2.out) rfl) <|
    hk (fun cx=>cx.v (ex_pt rfl (cx.u 0 rfl) (cx.u 1 rfl)) rfl rfl) <|
    hk (fun cx=>cx.v (ex_mv rfl (cx.u 0 rfl)) rfl rfl) <|
    hk (fun cx=>cx.val (cx.wy rfl rfl rfl rfl (cx.u 0 rfl)) (ex_mv rfl (cx.rq 1 s1_4)) rfl rfl rfl rfl) <|
    hk (fun cx=>cx.val (cx.wy rfl rfl rfl rfl (cx.u 0 rfl)) (ex_fa rfl (cx.rq 2 u_g1) (faRR25_1_0 _ _)) rfl rfl rfl rfl) <|
    hk (fun cx=>cx.val (cx.wy rfl rfl rfl rfl (cx.u 1 rfl)) (ex_ld rfl (cx.u 0 rfl) (cx.rn 0 rfl) rfl Try.isAgg23) rfl rfl rfl rfl) <|
    hk (fun cx=>cx.val (cx.wy rfl rfl rfl rfl (cx.u 2 rfl)) (ex_le (x:=.tmp 14) (y:=.tmp 16) rfl (cx.u 0 rfl) (cx.u 1 rfl)) rfl rfl (congrArg Value.bool Ffk3.out) rfl) <|
    hk (fun cx=>cx.v (ex_pt rfl (cx.u 0 rfl) (cx.u 1 rfl)) rfl rfl) <|
    hk (fun cx=>cx.v (ex_mv rfl (cx.u 0 rfl)) rfl rfl) <|
    hk (fun cx=>cx.val (cx.wy rfl rfl rfl rfl (cx.u 0 rfl)) (ex_mv rfl (cx.rq 1 s1_4)) rfl rfl rfl rfl) <|
    hk (fun cx=>cx.val (cx.wy rfl rfl rfl rfl (cx.u 1 rfl)) (ex_conv (x:=.tmp 20) rfl (cx.u 0 rfl) Try.underlying23 Try.underlying2) rfl rfl (congrArg (Value.int .i64) (wrap_sg v)) rfl) <|
    hk (fun cx=>cx.val (cx.wy rfl rfl rfl rfl (cx.u 0 rfl)) (ex_fa rfl (cx.rq 2 u_g1) (faRR25_2_0 _ _)) rfl rfl rfl rfl) <|
    hk (fun cx=>cx.val (cx.wy rfl rfl rfl rfl (cx.u 1 rfl)) (ex_ld rfl (cx.u 0 rfl) (cx.rn 0 rfl) rfl Try.isAgg2) rfl rfl rfl rfl) <|
    hk (fun cx=>cx.val (cx.wy rfl rfl rfl rfl (cx.u 2 rfl)) (ex_ge (x:=.tmp 21) (y:=.tmp 23) rfl (cx.u 0 rfl) (cx.u 1 rfl)) rfl rfl (congrArg Value.bool Ffk4.out) rfl) <|
    hk (fun cx=>cx.v (ex_pt rfl (cx.u 0 rfl) (cx.u 1 rfl)) rfl rfl) <|
    hk (fun cx=>cx.v (ex_mv rfl (cx.u 0 rfl)) rfl rfl) <|
    hk (fun cx=>cx.val (cx.wy rfl rfl rfl rfl (cx.u 0 rfl)) (ex_mv rfl (cx.rq 1 s1_4)) rfl rfl rfl rfl) <|
    hk (fun cx=>cx.val (cx.wy rfl rfl rfl rfl (cx.u 1 rfl)) (ex_conv (x:=.tmp 27) rfl (cx.u 0 rfl) Try.underlying23 Try.underlying2) rfl rfl (congrArg (Value.int .i64) (wrap_sg v)) rfl) <|
    hk (fun cx=>cx.val (cx.wy rfl rfl rfl rfl (cx.u 0 rfl)) (ex_fa rfl (cx.rq 2 u_g1) (faRR25_3_0 _ _)) rfl rfl rfl rfl) <|
    hk (fun cx=>cx.val (cx.wy rfl rfl rfl rfl (cx.u 1 rfl)) (ex_ld rfl (cx.u 0 rfl) (cx.rn 0 rfl) rfl Try.isAgg2) rfl rfl rfl rfl) <|
    hk (fun cx=>cx.val (cx.wy rfl rfl rfl rfl (cx.u 2 rfl)) (ex_le (x:=.tmp 28) (y:=.tmp 30) rfl (cx.u 0 rfl) (cx.u 1 rfl)) rfl rfl (congrArg Value.bool Ffk5.out) rfl) <|
    hk (fun cx=>cx.v (ex_pt rfl (cx.u 0 rfl) (cx.u 1 rfl)) rfl rfl) <|
    hk (fun cx=>cx.v (ex_as rfl (cx.u 0 rfl)) rfl rfl) <|
    hn) ?_
   intro a6 w6 f6
   refine wp_ret ?_
   try simp only [Exit.inBlock,Exit.then]
   refine bodyPost_ret (res_t (fn:=Try.f75) rfl (f6.v 28 rfl rfl rfl)) f6.d ?_
   have HE:Value.bool false=.bool (Rg.hasB ⟨⟨a,b⟩,⟨c,d⟩⟩ v):=by show _=Value.bool ((decide (a ≤ v) && decide (v ≤ b)) && (decide (c ≤ (sg v)) && decide ((sg v) ≤ d)));simp only [Ffk2.out,Ffk3.out,Ffk4.out,Ffk5.out,Bool.false_and,Bool.true_and,Bool.and_false,Bool.and_true]
   exact ⟨retV HE,f6.b⟩
  have Ffk5:=Lib.hid fk5;clear fk5
  have s1_5:=f1.q 1 s1_0
  refine go_reg [bx g1 25 (cR a b c d)] [] (tabs [some (.agg (cR a b c d)),some (.bool true),some (.bool true),some (.int .u64 v),some (pt g1 0),some (.int .u64 a),some (.bool true),some (.bool true),some (.bool true),some (.int .u64 v),some (pt g1 1),some (.int .u64 b),some (.bool true),some (.bool true),some (.bool true),some (.int .u64 v),some (.int .i64 (sg v)),some (pt g1 2),some (.int .i64 c),some (.bool true)] [some (.bool true),some (.bool true),some (.int .u64 v),some (.int .i64 (sg v)),some (pt g1 3),some (.int .i64 d),some (.bool true),some (.bool true),some (.bool true)]) mo f1.d f1.z f1.b (by kernel_rfl) ⟨b_g1,trivial⟩ (
   hk (fun cx=>cx.v (ldR rfl (cx.rq 2 u_g1) (cx.rn 0 rfl)) rfl rfl) <|
   hc (fun _ _ wx cx=>cx.c rfl (args1 (cx.u 0 rfl)) Try.func71 (by decide +kernel) (rmay_n a b c d wx) rfl (congrArg Value.bool Ffk1.out)) <|
   hk (fun cx=>cx.v (ex_mv rfl (cx.u 0 rfl)) rfl rfl) <|
   hk (fun cx=>cx.val (cx.wy rfl rfl rfl rfl (cx.u 0 rfl)) (ex_mv rfl (cx.rq 1 s1_5)) rfl rfl rfl rfl) <|
   hk (fun cx=>cx.val (cx.wy rfl rfl rfl rfl (cx.u 0 rfl)) (ex_fa rfl (cx.rq 2 u_g1) (faRR25_0_0 _ _)) rfl rfl rfl rfl) <|
   hk (fun cx=>cx.val (cx.wy rfl rfl rfl rfl (cx.u 1 rfl)) (ex_ld rfl (cx.u 0 rfl) (cx.rn 0 rfl) rfl Try.isAgg23) rfl rfl rfl rfl) <|
   hk (fun cx=>cx.val (cx.wy rfl rfl rfl rfl (cx.u 2 rfl)) (ex_ge (x:=.tmp 8) (y:=.tmp 10) rfl (cx.u 0 rfl) (cx.u 1 rfl)) rfl rfl (congrArg Value.bool Ffk2.out) rfl) <|
   hk (fun cx=>cx.v (ex_pt rfl (cx.u 0 rfl) (cx.u 1 rfl)) rfl rfl) <|
   hk (fun cx=>cx.v (ex_mv rfl (cx.u 0 rfl)) rfl rfl) <|
   hk (fun cx=>cx.val (cx.wy rfl rfl rfl rfl (cx.u 0 rfl)) (ex_mv rfl (cx.rq 1 s1_5)) rfl rfl rfl rfl) <|
   hk (fun cx=>cx.val (cx.wy rfl rfl rfl rfl (cx.u 0 rfl)) (ex_fa rfl (cx.rq 2 u_g1) (faRR25_1_0 _ _)) rfl rfl rfl rfl) <|
   hk (fun cx=>cx.val (cx.wy rfl rfl rfl rfl (cx.u 1 rfl)) (ex_ld rfl (cx.u 0 rfl) (cx.rn 0 rfl) rfl Try.isAgg23) rfl rfl rfl rfl) <|
   hk (fun cx=>cx.val (cx.wy rfl rfl rfl rfl (cx.u 2 rfl)) (ex_le (x:=.tmp 14) (y:=.tmp 16) rfl (cx.u 0 rfl) (cx.u 1 rfl)) rfl rfl (congrArg Value.bool Ffk3.out) rfl) <|
   hk (fun cx=>cx.v (ex_pt rfl (cx.u 0 rfl) (cx.u 1 rfl)) rfl rfl) <|
   hk (fun cx=>cx.v (ex_mv rfl (cx.u 0 rfl)) rfl rfl) <|
   hk (fun cx=>cx.val (cx.wy rfl rfl rfl rfl (cx.u 0 rfl)) (ex_mv rfl (cx.rq 1 s1_5)) rfl rfl rfl rfl) <|
   hk (fun cx=>cx.val (cx.wy rfl rfl rfl rfl (cx.u 1 rfl)) (ex_conv (x:=.tmp 20) rfl (cx.u 0 rfl) Try.underlying23 Try.underlying2) rfl rfl (congrArg (Value.int .i64) (wrap_sg v)) rfl) <|
   hk (fun cx=>cx.val (cx.wy rfl rfl rfl rfl (cx.u 0 rfl)) (ex_fa rfl (cx.rq 2 u_g1) (faRR25_2_0 _ _)) rfl rfl rfl rfl) <|
   hk (fun cx=>cx.val (cx.wy rfl rfl rfl rfl (cx.u 1 rfl)) (ex_ld rfl (cx.u 0 rfl) (cx.rn 0 rfl) rfl Try.isAgg2) rfl rfl rfl rfl) <|
   hk (fun cx=>cx.val (cx.wy rfl rfl rfl rfl (cx.u 2 rfl)) (ex_ge (x:=.tmp 21) (y:=.tmp 23) rfl (cx.u 0 rfl) (cx.u 1 rfl)) rfl rfl (congrArg Value.bool Ffk4.out) rfl) <|
   hk (fun cx=>cx.v (ex_pt rfl (cx.u 0 rfl) (cx.u 1 rfl)) rfl rfl) <|
   hk (fun cx=>cx.v (ex_mv rfl (cx.u 0 rfl)) rfl rfl) <|
   hk (fun cx=>cx.val (cx.wy rfl rfl rfl rfl (cx.u 0 rfl)) (ex_mv rfl (cx.rq 1 s1_5)) rfl rfl rfl rfl) <|
   hk (fun cx=>cx.val (cx.wy rfl rfl rfl rfl (cx.u 1 rfl)) (ex_conv (x:=.tmp 27) rfl (cx.u 0 rfl) Try.underlying23 Try.underlying2) rfl rfl (congrArg (Value.int .i64) (wrap_sg v)) rfl) <|
   hk (fun cx=>cx.val (cx.wy rfl rfl rfl rfl (cx.u 0 rfl)) (ex_fa rfl (cx.rq 2 u_g1) (faRR25_3_0 _ _)) rfl rfl rfl rfl) <|
   hk (fun cx=>cx.val (cx.wy rfl rfl rfl rfl (cx.u 1 rfl)) (ex_ld rfl (cx.u 0 rfl) (cx.rn 0 rfl) rfl Try.isAgg2) rfl rfl rfl rfl) <|
   hk (fun cx=>cx.val (cx.wy rfl rfl rfl rfl (cx.u 2 rfl)) (ex_le (x:=.tmp 28) (y:=.tmp 30) rfl (cx.u 0 rfl) (cx.u 1 rfl)) rfl rfl (congrArg Value.bool Ffk5.out) rfl) <|
   hk (fun cx=>cx.v (ex_pt rfl (cx.u 0 rfl) (cx.u 1 rfl)) rfl rfl) <|
   hk (fun cx=>cx.v (ex_as rfl (cx.u 0 rfl)) rfl rfl) <|
   hn) ?_
  intro a7 w7 f7
  refine wp_ret ?_
  try simp only [Exit.inBlock,Exit.then]
  refine bodyPost_ret (res_t (fn:=Try.f75) rfl (f7.v 28 rfl rfl rfl)) f7.d ?_
  have HE:Value.bool true=.bool (Rg.hasB ⟨⟨a,b⟩,⟨c,d⟩⟩ v):=by show _=Value.bool ((decide (a ≤ v) && decide (v ≤ b)) && (decide (c ≤ (sg v)) && decide ((sg v) ≤ d)));simp only [Ffk2.out,Ffk3.out,Ffk4.out,Ffk5.out,Bool.false_and,Bool.true_and,Bool.and_false,Bool.and_true]
  exact ⟨retV HE,f7.b⟩
set_option maxHeartbeats 4000000 in
theorem rsigned_n (a b c d:Int) (W:World) (ok:Rg.Ok ⟨⟨a,b⟩,⟨c,d⟩⟩):Calls Try.prog 128 #[.agg #[.int .u64 a,.int .u64 b,.int .i64 c,.int .i64 d]] W fun e w'=>e=.returned (.agg #[.int .u64 (Rg.nS ⟨⟨a,b⟩,⟨c,d⟩⟩).u.lo,.int .u64 (Rg.nS ⟨⟨a,b⟩,⟨c,d⟩⟩).u.hi,.int .i64 (Rg.nS ⟨⟨a,b⟩,⟨c,d⟩⟩).s.lo,.int .i64 (Rg.nS ⟨⟨a,b⟩,⟨c,d⟩⟩).s.hi]) ∧ Below W.heap.size W w':=by
  have HU:=Lib.hid (And.intro ok.1 ok.2)
  clear ok
  refine calls_abs Try.func128 rfl (Nat.le_of_ble_eq_true rfl) ?_
  intro a0 d0 z0 h0
  replace z0:a0.tmps.size=25:=z0
  have s0_0:a0.tmps.getD 0 undef=.agg (cR a b c d):=h0 0 (Nat.le_of_ble_eq_true rfl)
  refine wp_seq ?_
  refine go_reg [] [⟨0,1,25,(cR a b c d),none,#[]⟩,⟨1,2,25,(cR 0 0 0 0),none,#[]⟩] [none,none] mo d0 z0 (Below.refl _ _) (by kernel_rfl) trivial (
   hc (fun _ ax _ cx=>cx.al (wn rfl) 0 rfl (by simp [execOp,Act.eval,(show ax.tmps.getD 0 undef=.agg (cR a b c d) from (cx.rq 0 s0_0)),go_sem]) rfl rfl rfl rfl rfl trivial) <|
   hk (fun cx=>cx.al (wn rfl) 1 rfl (by simp [execOp,Act.eval,go_sem]) rfl rfl rfl rfl rfl trivial) <|
   hn) ?_
  intro a1 w1 f1
  obtain ⟨g1,u_g1,q_g1,b_g1⟩:=f1.al.1
  obtain ⟨g2,u_g2,q_g2,b_g2⟩:=f1.al.2.1
  refine wp_seq ?_
  refine wp_seq ?_
  cases fk1:(a / 9223372036854775808) == (b / 9223372036854775808)
  case false=>
   have Ffk1:=Lib.hid fk1;clear fk1
   refine go_reg [bx g1 25 (cR a b c d)] [] [some (pt g1 0),some (.int .u64 a),some (.int .u64 (a / 9223372036854775808)),some (pt g1 1),some (.int .u64 b),some (.int .u64 (b / 9223372036854775808)),some (.bool false)] mo f1.d f1.z f1.b (by kernel_rfl) ⟨b_g1,trivial⟩ (
    hk (fun cx=>cx.v (ex_fa rfl (cx.rq 1 u_g1) (faRR25_0_0 _ _)) rfl rfl) <|
    hk (fun cx=>cx.v (ex_ld rfl (cx.u 0 rfl) (cx.rn 0 rfl) rfl Try.isAgg23) rfl rfl) <|
    hc (fun _ ax _ cx=>cx.v (by simp [execOp,Act.eval,(show ax.tmps.getD 4 undef=.int .u64 a from (cx.u 0 rfl)),go_sem]) rfl rfl) <|
    hk (fun cx=>cx.v (ex_fa rfl (cx.rq 1 u_g1) (faRR25_1_0 _ _)) rfl rfl) <|
    hk (fun cx=>cx.v (ex_ld rfl (cx.u 0 rfl) (cx.rn 0 rfl) rfl Try.isAgg23) rfl rfl) <|
    hc (fun _ ax _ cx=>cx.v (by simp [execOp,Act.eval,(show ax.tmps.getD 7 undef=.int .u64 b from (cx.u 0 rfl)),go_sem]) rfl rfl) <|
    hk (fun cx=>cx.v (ex_eq (x:=.tmp 5) (y:=.tmp 8) rfl (cx.u 0 rfl) (cx.u 1 rfl)) rfl (congrArg Value.bool Ffk1.out)) <|
    hn) ?_
   intro a2 w2 f2
   refine wp_cond_false (f2.v 6 rfl rfl rfl) ?_
   refine wp_skip ?_
   refine wp_seq ?_
   have b_g1_1:=f2.k b_g1
   have b_g2_2:=f2.k b_g2
   have s1_3:=f2.q 1 u_g1
   have s2_4:=f2.q 2 u_g2
   refine go_reg [bx g1 25 (cR a b c d),⟨g2,25,(cR 0 0 0 0),some 1,(cR a b c d)⟩] [] [some (.agg (cR a b c d)),none] mo f2.d f2.z f2.b (by kernel_rfl) ⟨b_g1_1,b_g2_2,trivial⟩ (
    hk (fun cx=>cx.v (ldR rfl (cx.rq 1 s1_3) (cx.rn 0 rfl)) rfl rfl) <|
    hk (fun cx=>cx.stR (wn rfl) rfl rfl 1 rfl (cx.rq 2 s2_4) (cx.u 0 rfl) (by kernel_rfl) rfl (by simp [Value.oneCell']) q_g2 rfl ⟨(ne_ptr (pairAt f1.ps 0 1 (by decide) rfl rfl) u_g1 u_g2),trivial⟩ trivial) <|
    hn) ?_
   intro a3 w3 f3
   refine wp_ret ?_
   have s2_5:=f3.q 2 s2_4
   try simp only [Exit.inBlock,Exit.then]
   refine bodyPost_ret (res_c (fn:=Try.f128) rfl s2_5 (load_row 25 f3.rows.2.1 Try.underlying25 rfl (by kernel_rfl))) f3.d ?_
   have HE:(.agg (cR a b c d):Value)=Rg.val (Rg.nS ⟨⟨a,b⟩,⟨c,d⟩⟩):=by
     have hh:=HU.out
     simp only [Pr.U,Pr.S] at hh
     have h0:=Ffk1.out
     simp only [beq_iff_eq,beq_eq_false_iff_ne,ne_eq,decide_eq_true_eq,decide_eq_false_iff_not] at h0
     unfold Rg.nS Pr.meet sameU
     dsimp only
     rw [if_neg (by omega)]
     try (simp only [Int.max_self,Int.min_self])
     try rfl
   exact ⟨retV HE,f3.b⟩
  have Ffk1:=Lib.hid fk1;clear fk1
  refine go_reg [bx g1 25 (cR a b c d)] [] [some (pt g1 0),some (.int .u64 a),some (.int .u64 (a / 9223372036854775808)),some (pt g1 1),some (.int .u64 b),some (.int .u64 (b / 9223372036854775808)),some (.bool true)] mo f1.d f1.z f1.b (by kernel_rfl) ⟨b_g1,trivial⟩ (
   hk (fun cx=>cx.v (ex_fa rfl (cx.rq 1 u_g1) (faRR25_0_0 _ _)) rfl rfl) <|
   hk (fun cx=>cx.v (ex_ld rfl (cx.u 0 rfl) (cx.rn 0 rfl) rfl Try.isAgg23) rfl rfl) <|
   hc (fun _ ax _ cx=>cx.v (by simp [execOp,Act.eval,(show ax.tmps.getD 4 undef=.int .u64 a from (cx.u 0 rfl)),go_sem]) rfl rfl) <|
   hk (fun cx=>cx.v (ex_fa rfl (cx.rq 1 u_g1) (faRR25_1_0 _ _)) rfl rfl) <|
   hk (fun cx=>cx.v (ex_ld rfl (cx.u 0 rfl) (cx.rn 0 rfl) rfl Try.isAgg23) rfl rfl) <|
   hc (fun _ ax _ cx=>cx.v (by simp [execOp,Act.eval,(show ax.tmps.getD 7 undef=.int .u64 b from (cx.u 0 rfl)),go_sem]) rfl rfl) <|
   hk (fun cx=>cx.v (ex_eq (x:=.tmp 5) (y:=.tmp 8) rfl (cx.u 0 rfl) (cx.u 1 rfl)) rfl (congrArg Value.bool Ffk1.out)) <|
   hn) ?_
  intro a4 w4 f4
  refine wp_cond_true (f4.v 6 rfl rfl rfl) ?_
  refine wp_seq ?_
  have b_g1_6:=f4.k b_g1
  have s1_7:=f4.q 1 u_g1
  refine go_reg [⟨g1,25,(cR a b c d),some 7,(cR a b (max c (sg a)) d)⟩] [] [some (pt g1 2),some (.int .i64 c),some (pt g1 0),some (.int .u64 a),some (.int .i64 (sg a)),some (.int .i64 (max c (sg a))),some (pt g1 2),none] mo f4.d f4.z f4.b (by kernel_rfl) ⟨b_g1_6,trivial⟩ (
   hk (fun cx=>cx.v (ex_fa rfl (cx.rq 1 s1_7) (faRR25_2_0 _ _)) rfl rfl) <|
   hk (fun cx=>cx.v (ex_ld rfl (cx.u 0 rfl) (cx.rf 0 rfl (by kernel_rfl)) rfl Try.isAgg2) rfl rfl) <|
   hk (fun cx=>cx.v (ex_fa rfl (cx.rq 1 s1_7) (faRR25_0_0 _ _)) rfl rfl) <|
   hk (fun cx=>cx.v (ex_ld rfl (cx.u 0 rfl) (cx.rf 0 rfl (by kernel_rfl)) rfl Try.isAgg23) rfl rfl) <|
   hk (fun cx=>cx.v (ex_conv (x:=.tmp 13) rfl (cx.u 0 rfl) Try.underlying23 Try.underlying2) rfl (congrArg (Value.int .i64) (wrap_sg a))) <|
   hc (fun _ ax _ cx=>cx.v (ex_max (x:=.tmp 11) (y:=.tmp 14) rfl (cx.u 0 rfl) (cx.u 1 rfl)) rfl rfl) <|
   hk (fun cx=>cx.v (ex_fa rfl (cx.rq 1 s1_7) (faRR25_2_0 _ _)) rfl rfl) <|
   hk (fun cx=>cx.stC (wn rfl) rfl rfl 0 rfl (cx.u 0 rfl) (cx.u 1 rfl) rfl rfl (by kernel_rfl) rfl rfl q_g1 rfl trivial trivial) <|
   hn) ?_
  intro a5 w5 f5
  have s1_8:=f5.q 1 s1_7
  refine go_reg [⟨g1,25,(cR a b (max c (sg a)) d),some 7,(cR a b (max c (sg a)) (min d (sg b)))⟩] [] [some (pt g1 3),some (.int .i64 d),some (pt g1 1),some (.int .u64 b),some (.int .i64 (sg b)),some (.int .i64 (min d (sg b))),some (pt g1 3),none] mo f5.d f5.z f5.b (by kernel_rfl) ⟨f5.rows.1,trivial⟩ (
   hk (fun cx=>cx.v (ex_fa rfl (cx.rq 1 s1_8) (faRR25_3_0 _ _)) rfl rfl) <|
   hk (fun cx=>cx.v (ex_ld rfl (cx.u 0 rfl) (cx.rf 0 rfl (by kernel_rfl)) rfl Try.isAgg2) rfl rfl) <|
   hk (fun cx=>cx.v (ex_fa rfl (cx.rq 1 s1_8) (faRR25_1_0 _ _)) rfl rfl) <|
   hk (fun cx=>cx.v (ex_ld rfl (cx.u 0 rfl) (cx.rf 0 rfl (by kernel_rfl)) rfl Try.isAgg23) rfl rfl) <|
   hk (fun cx=>cx.v (ex_conv (x:=.tmp 20) rfl (cx.u 0 rfl) Try.underlying23 Try.underlying2) rfl (congrArg (Value.int .i64) (wrap_sg b))) <|
   hk (fun cx=>cx.v (ex_min (x:=.tmp 18) (y:=.tmp 21) rfl (cx.u 0 rfl) (cx.u 1 rfl)) rfl rfl) <|
   hk (fun cx=>cx.v (ex_fa rfl (cx.rq 1 s1_8) (faRR25_3_0 _ _)) rfl rfl) <|
   hk (fun cx=>cx.stC (wn rfl) rfl rfl 0 rfl (cx.u 0 rfl) (cx.u 1 rfl) rfl rfl (by kernel_rfl) rfl rfl q_g1 rfl trivial trivial) <|
   hn) ?_
  intro a6 w6 f6
  refine wp_seq ?_
  have b_g2_9:=f6.kp (f5.kp (f4.k b_g2) ⟨.inr (ne_ptr (pairAt f1.ps 0 1 (by decide) rfl rfl) u_g1 u_g2).symm,trivial⟩) ⟨.inr (ne_ptr (pairAt f1.ps 0 1 (by decide) rfl rfl) u_g1 u_g2).symm,trivial⟩
  have s1_10:=f6.q 1 s1_8
  have s2_11:=f6.q 2 (f5.q 2 (f4.q 2 u_g2))
  refine go_reg [bx g1 25 (cR a b (max c (sg a)) (min d (sg b))),⟨g2,25,(cR 0 0 0 0),some 1,(cR a b (max c (sg a)) (min d (sg b)))⟩] [] [some (.agg (cR a b (max c (sg a)) (min d (sg b)))),none] mo f6.d f6.z f6.b (by kernel_rfl) ⟨f6.rows.1,b_g2_9,trivial⟩ (
   hk (fun cx=>cx.v (ldR rfl (cx.rq 1 s1_10) (cx.rn 0 rfl)) rfl rfl) <|
   hk (fun cx=>cx.stR (wn rfl) rfl rfl 1 rfl (cx.rq 2 s2_11) (cx.u 0 rfl) (by kernel_rfl) rfl (by simp [Value.oneCell']) q_g2 rfl ⟨(ne_ptr (pairAt f1.ps 0 1 (by decide) rfl rfl) u_g1 u_g2),trivial⟩ trivial) <|
   hn) ?_
  intro a7 w7 f7
  refine wp_ret ?_
  have s2_12:=f7.q 2 s2_11
  try simp only [Exit.inBlock,Exit.then]
  refine bodyPost_ret (res_c (fn:=Try.f128) rfl s2_12 (load_row 25 f7.rows.2.1 Try.underlying25 rfl (by kernel_rfl))) f7.d ?_
  have HE:(.agg (cR a b (max c (sg a)) (min d (sg b))):Value)=Rg.val (Rg.nS ⟨⟨a,b⟩,⟨c,d⟩⟩):=by
    have hh:=HU.out
    simp only [Pr.U,Pr.S] at hh
    have h0:=Ffk1.out
    simp only [beq_iff_eq,beq_eq_false_iff_ne,ne_eq,decide_eq_true_eq,decide_eq_false_iff_not] at h0
    unfold Rg.nS Pr.meet sameU
    dsimp only
    rw [if_pos (by omega)]
    try (simp only [Int.max_self,Int.min_self])
    try rfl
  exact ⟨retV HE,f7.b⟩
set_option maxHeartbeats 4000000 in
theorem runsigned_n (a b c d:Int) (W:World) (ok:Rg.Ok ⟨⟨a,b⟩,⟨c,d⟩⟩):Calls Try.prog 129 #[.agg #[.int .u64 a,.int .u64 b,.int .i64 c,.int .i64 d]] W fun e w'=>e=.returned (.agg #[.int .u64 (Rg.nU ⟨⟨a,b⟩,⟨c,d⟩⟩).u.lo,.int .u64 (Rg.nU ⟨⟨a,b⟩,⟨c,d⟩⟩).u.hi,.int .i64 (Rg.nU ⟨⟨a,b⟩,⟨c,d⟩⟩).s.lo,.int .i64 (Rg.nU ⟨⟨a,b⟩,⟨c,d⟩⟩).s.hi]) ∧ Below W.heap.size W w':=by
  have HU:=Lib.hid (And.intro ok.1 ok.2)
  clear ok
  refine calls_abs Try.func129 rfl (Nat.le_of_ble_eq_true rfl) ?_
  intro a0 d0 z0 h0
  replace z0:a0.tmps.size=25:=z0
  have s0_0:a0.tmps.getD 0 undef=.agg (cR a b c d):=h0 0 (Nat.le_of_ble_eq_true rfl)
  refine wp_seq ?_
  refine go_reg [] [⟨0,1,25,(cR a b c d),none,#[]⟩,⟨1,2,25,(cR 0 0 0 0),none,#[]⟩] [none,none] mo d0 z0 (Below.refl _ _) (by kernel_rfl) trivial (
   hc (fun _ ax _ cx=>cx.al (wn rfl) 0 rfl (by simp [execOp,Act.eval,(show ax.tmps.getD 0 undef=.agg (cR a b c d) from (cx.rq 0 s0_0)),go_sem]) rfl rfl rfl rfl rfl trivial) <|
   hk (fun cx=>cx.al (wn rfl) 1 rfl (by simp [execOp,Act.eval,go_sem]) rfl rfl rfl rfl rfl trivial) <|
   hn) ?_
  intro a1 w1 f1
  obtain ⟨g1,u_g1,q_g1,b_g1⟩:=f1.al.1
  obtain ⟨g2,u_g2,q_g2,b_g2⟩:=f1.al.2.1
  refine wp_seq ?_
  refine wp_seq ?_
  cases fk1:decide (c < 0)
  case false=>
   have Ffk1:=Lib.hid fk1;clear fk1
   cases fk2:decide (d < 0)
   case false=>
    have Ffk2:=Lib.hid fk2;clear fk2
    refine go_reg [bx g1 25 (cR a b c d)] [] [some (pt g1 2),some (.int .i64 c),some (.bool false),some (pt g1 3),some (.int .i64 d),some (.bool false),some (.bool true)] mo f1.d f1.z f1.b (by kernel_rfl) ⟨b_g1,trivial⟩ (
     hk (fun cx=>cx.v (ex_fa rfl (cx.rq 1 u_g1) (faRR25_2_0 _ _)) rfl rfl) <|
     hk (fun cx=>cx.v (ex_ld rfl (cx.u 0 rfl) (cx.rn 0 rfl) rfl Try.isAgg2) rfl rfl) <|
     hk (fun cx=>cx.v (ex_lt (x:=.tmp 4) rfl (cx.u 0 rfl) rfl) rfl (congrArg Value.bool Ffk1.out)) <|
     hk (fun cx=>cx.v (ex_fa rfl (cx.rq 1 u_g1) (faRR25_3_0 _ _)) rfl rfl) <|
     hk (fun cx=>cx.v (ex_ld rfl (cx.u 0 rfl) (cx.rn 0 rfl) rfl Try.isAgg2) rfl rfl) <|
     hk (fun cx=>cx.v (ex_lt (x:=.tmp 7) rfl (cx.u 0 rfl) rfl) rfl (congrArg Value.bool Ffk2.out)) <|
     hc (fun _ ax _ cx=>cx.v (by simp [execOp,Act.eval,(show ax.tmps.getD 5 undef=.bool false from (cx.u 0 rfl)),(show ax.tmps.getD 8 undef=.bool false from (cx.u 1 rfl)),go_sem]) rfl rfl) <|
     hn) ?_
    intro a2 w2 f2
    refine wp_cond_true (f2.v 6 rfl rfl rfl) ?_
    refine wp_seq ?_
    have b_g1_1:=f2.k b_g1
    have s1_2:=f2.q 1 u_g1
    refine go_reg [⟨g1,25,(cR a b c d),some 7,(cR (max a (un c)) b c d)⟩] [] [some (pt g1 0),some (.int .u64 a),some (pt g1 2),some (.int .i64 c),some (.int .u64 (un c)),some (.int .u64 (max a (un c))),some (pt g1 0),none] mo f2.d f2.z f2.b (by kernel_rfl) ⟨b_g1_1,trivial⟩ (
     hk (fun cx=>cx.v (ex_fa rfl (cx.rq 1 s1_2) (faRR25_0_0 _ _)) rfl rfl) <|
     hk (fun cx=>cx.v (ex_ld rfl (cx.u 0 rfl) (cx.rf 0 rfl (by kernel_rfl)) rfl Try.isAgg23) rfl rfl) <|
     hk (fun cx=>cx.v (ex_fa rfl (cx.rq 1 s1_2) (faRR25_2_0 _ _)) rfl rfl) <|
     hk (fun cx=>cx.v (ex_ld rfl (cx.u 0 rfl) (cx.rf 0 rfl (by kernel_rfl)) rfl Try.isAgg2) rfl rfl) <|
     hk (fun cx=>cx.v (ex_conv (x:=.tmp 13) rfl (cx.u 0 rfl) Try.underlying2 Try.underlying23) rfl (congrArg (Value.int .u64) (wrap_un c))) <|
     hc (fun _ ax _ cx=>cx.v (ex_max (x:=.tmp 11) (y:=.tmp 14) rfl (cx.u 0 rfl) (cx.u 1 rfl)) rfl rfl) <|
     hk (fun cx=>cx.v (ex_fa rfl (cx.rq 1 s1_2) (faRR25_0_0 _ _)) rfl rfl) <|
     hk (fun cx=>cx.stC (wn rfl) rfl rfl 0 rfl (cx.u 0 rfl) (cx.u 1 rfl) rfl rfl (by kernel_rfl) rfl rfl q_g1 rfl trivial trivial) <|
     hn) ?_
    intro a3 w3 f3
    have s1_3:=f3.q 1 s1_2
    refine go_reg [⟨g1,25,(cR (max a (un c)) b c d),some 7,(cR (max a (un c)) (min b (un d)) c d)⟩] [] [some (pt g1 1),some (.int .u64 b),some (pt g1 3),some (.int .i64 d),some (.int .u64 (un d)),some (.int .u64 (min b (un d))),some (pt g1 1),none] mo f3.d f3.z f3.b (by kernel_rfl) ⟨f3.rows.1,trivial⟩ (
     hk (fun cx=>cx.v (ex_fa rfl (cx.rq 1 s1_3) (faRR25_1_0 _ _)) rfl rfl) <|
     hk (fun cx=>cx.v (ex_ld rfl (cx.u 0 rfl) (cx.rf 0 rfl (by kernel_rfl)) rfl Try.isAgg23) rfl rfl) <|
     hk (fun cx=>cx.v (ex_fa rfl (cx.rq 1 s1_3) (faRR25_3_0 _ _)) rfl rfl) <|
     hk (fun cx=>cx.v (ex_ld rfl (cx.u 0 rfl) (cx.rf 0 rfl (by kernel_rfl)) rfl Try.isAgg2) rfl rfl) <|
     hk (fun cx=>cx.v (ex_conv (x:=.tmp 20) rfl (cx.u 0 rfl) Try.underlying2 Try.underlying23) rfl (congrArg (Value.int .u64) (wrap_un d))) <|
     hk (fun cx=>cx.v (ex_min (x:=.tmp 18) (y:=.tmp 21) rfl (cx.u 0 rfl) (cx.u 1 rfl)) rfl rfl) <|
     hk (fun cx=>cx.v (ex_fa rfl (cx.rq 1 s1_3) (faRR25_1_0 _ _)) rfl rfl) <|
     hk (fun cx=>cx.stC (wn rfl) rfl rfl 0 rfl (cx.u 0 rfl) (cx.u 1 rfl) rfl rfl (by kernel_rfl) rfl rfl q_g1 rfl trivial trivial) <|
     hn) ?_
    intro a4 w4 f4
    refine wp_seq ?_
    have b_g2_4:=f4.kp (f3.kp (f2.k b_g2) ⟨.inr (ne_ptr (pairAt f1.ps 0 1 (by decide) rfl rfl) u_g1 u_g2).symm,trivial⟩) ⟨.inr (ne_ptr (pairAt f1.ps 0 1 (by decide) rfl rfl) u_g1 u_g2).symm,trivial⟩
    have s1_5:=f4.q 1 s1_3
    have s2_6:=f4.q 2 (f3.q 2 (f2.q 2 u_g2))
    refine go_reg [bx g1 25 (cR (max a (un c)) (min b (un d)) c d),⟨g2,25,(cR 0 0 0 0),some 1,(cR (max a (un c)) (min b (un d)) c d)⟩] [] [some (.agg (cR (max a (un c)) (min b (un d)) c d)),none] mo f4.d f4.z f4.b (by kernel_rfl) ⟨f4.rows.1,b_g2_4,trivial⟩ (
     hk (fun cx=>cx.v (ldR rfl (cx.rq 1 s1_5) (cx.rn 0 rfl)) rfl rfl) <|
     hk (fun cx=>cx.stR (wn rfl) rfl rfl 1 rfl (cx.rq 2 s2_6) (cx.u 0 rfl) (by kernel_rfl) rfl (by simp [Value.oneCell']) q_g2 rfl ⟨(ne_ptr (pairAt f1.ps 0 1 (by decide) rfl rfl) u_g1 u_g2),trivial⟩ trivial) <|
     hn) ?_
    intro a5 w5 f5
    refine wp_ret ?_
    have s2_7:=f5.q 2 s2_6
    try simp only [Exit.inBlock,Exit.then]
    refine bodyPost_ret (res_c (fn:=Try.f129) rfl s2_7 (load_row 25 f5.rows.2.1 Try.underlying25 rfl (by kernel_rfl))) f5.d ?_
    have HE:(.agg (cR (max a (un c)) (min b (un d)) c d):Value)=Rg.val (Rg.nU ⟨⟨a,b⟩,⟨c,d⟩⟩):=by
      have hh:=HU.out
      simp only [Pr.U,Pr.S] at hh
      have h0:=Ffk1.out;have h1:=Ffk2.out
      simp only [beq_iff_eq,beq_eq_false_iff_ne,ne_eq,decide_eq_true_eq,decide_eq_false_iff_not] at h0 h1
      unfold Rg.nU Pr.meet sameS
      dsimp only
      rw [if_pos (by omega)]
      try (simp only [Int.max_self,Int.min_self])
      try rfl
    exact ⟨retV HE,f5.b⟩
   have Ffk2:=Lib.hid fk2;clear fk2
   refine go_reg [bx g1 25 (cR a b c d)] [] [some (pt g1 2),some (.int .i64 c),some (.bool false),some (pt g1 3),some (.int .i64 d),some (.bool true),some (.bool false)] mo f1.d f1.z f1.b (by kernel_rfl) ⟨b_g1,trivial⟩ (
    hk (fun cx=>cx.v (ex_fa rfl (cx.rq 1 u_g1) (faRR25_2_0 _ _)) rfl rfl) <|
    hk (fun cx=>cx.v (ex_ld rfl (cx.u 0 rfl) (cx.rn 0 rfl) rfl Try.isAgg2) rfl rfl) <|
    hk (fun cx=>cx.v (ex_lt (x:=.tmp 4) rfl (cx.u 0 rfl) rfl) rfl (congrArg Value.bool Ffk1.out)) <|
    hk (fun cx=>cx.v (ex_fa rfl (cx.rq 1 u_g1) (faRR25_3_0 _ _)) rfl rfl) <|
    hk (fun cx=>cx.v (ex_ld rfl (cx.u 0 rfl) (cx.rn 0 rfl) rfl Try.isAgg2) rfl rfl) <|
    hk (fun cx=>cx.v (ex_lt (x:=.tmp 7) rfl (cx.u 0 rfl) rfl) rfl (congrArg Value.bool Ffk2.out)) <|
    hc (fun _ ax _ cx=>cx.v (by simp [execOp,Act.eval,(show ax.tmps.getD 5 undef=.bool false from (cx.u 0 rfl)),(show ax.tmps.getD 8 undef=.bool true from (cx.u 1 rfl)),go_sem]) rfl rfl) <|
    hn) ?_
   intro a6 w6 f6
   refine wp_cond_false (f6.v 6 rfl rfl rfl) ?_
   refine wp_skip ?_
   refine wp_seq ?_
   have b_g1_8:=f6.k b_g1
   have b_g2_9:=f6.k b_g2
   have s1_10:=f6.q 1 u_g1
   have s2_11:=f6.q 2 u_g2
   refine go_reg [bx g1 25 (cR a b c d),⟨g2,25,(cR 0 0 0 0),some 1,(cR a b c d)⟩] [] [some (.agg (cR a b c d)),none] mo f6.d f6.z f6.b (by kernel_rfl) ⟨b_g1_8,b_g2_9,trivial⟩ (
    hk (fun cx=>cx.v (ldR rfl (cx.rq 1 s1_10) (cx.rn 0 rfl)) rfl rfl) <|
    hk (fun cx=>cx.stR (wn rfl) rfl rfl 1 rfl (cx.rq 2 s2_11) (cx.u 0 rfl) (by kernel_rfl) rfl (by simp [Value.oneCell']) q_g2 rfl ⟨(ne_ptr (pairAt f1.ps 0 1 (by decide) rfl rfl) u_g1 u_g2),trivial⟩ trivial) <|
    hn) ?_
   intro a7 w7 f7
   refine wp_ret ?_
   have s2_12:=f7.q 2 s2_11
   try simp only [Exit.inBlock,Exit.then]
   refine bodyPost_ret (res_c (fn:=Try.f129) rfl s2_12 (load_row 25 f7.rows.2.1 Try.underlying25 rfl (by kernel_rfl))) f7.d ?_
   have HE:(.agg (cR a b c d):Value)=Rg.val (Rg.nU ⟨⟨a,b⟩,⟨c,d⟩⟩):=by
     have hh:=HU.out
     simp only [Pr.U,Pr.S] at hh
     have h0:=Ffk1.out;have h1:=Ffk2.out
     simp only [beq_iff_eq,beq_eq_false_iff_ne,ne_eq,decide_eq_true_eq,decide_eq_false_iff_not] at h0 h1
     unfold Rg.nU Pr.meet sameS
     dsimp only
     rw [if_neg (by omega)]
     try (simp only [Int.max_self,Int.min_self])
     try rfl
   exact ⟨retV HE,f7.b⟩
  have Ffk1:=Lib.hid fk1;clear fk1
  cases fk3:decide (d < 0)
  case false=>
   have Ffk3:=Lib.hid fk3;clear fk3
   refine go_reg [bx g1 25 (cR a b c d)] [] [some (pt g1 2),some (.int .i64 c),some (.bool true),some (pt g1 3),some (.int .i64 d),some (.bool false),some (.bool false)] mo f1.d f1.z f1.b (by kernel_rfl) ⟨b_g1,trivial⟩ (
    hk (fun cx=>cx.v (ex_fa rfl (cx.rq 1 u_g1) (faRR25_2_0 _ _)) rfl rfl) <|
    hk (fun cx=>cx.v (ex_ld rfl (cx.u 0 rfl) (cx.rn 0 rfl) rfl Try.isAgg2) rfl rfl) <|
    hk (fun cx=>cx.v (ex_lt (x:=.tmp 4) rfl (cx.u 0 rfl) rfl) rfl (congrArg Value.bool Ffk1.out)) <|
    hk (fun cx=>cx.v (ex_fa rfl (cx.rq 1 u_g1) (faRR25_3_0 _ _)) rfl rfl) <|
    hk (fun cx=>cx.v (ex_ld rfl (cx.u 0 rfl) (cx.rn 0 rfl) rfl Try.isAgg2) rfl rfl) <|
    hk (fun cx=>cx.v (ex_lt (x:=.tmp 7) rfl (cx.u 0 rfl) rfl) rfl (congrArg Value.bool Ffk3.out)) <|
    hc (fun _ ax _ cx=>cx.v (by simp [execOp,Act.eval,(show ax.tmps.getD 5 undef=.bool true from (cx.u 0 rfl)),(show ax.tmps.getD 8 undef=.bool false from (cx.u 1 rfl)),go_sem]) rfl rfl) <|
    hn) ?_
   intro a8 w8 f8
   refine wp_cond_false (f8.v 6 rfl rfl rfl) ?_
   refine wp_skip ?_
   refine wp_seq ?_
   have b_g1_13:=f8.k b_g1
   have b_g2_14:=f8.k b_g2
   have s1_15:=f8.q 1 u_g1
   have s2_16:=f8.q 2 u_g2
   refine go_reg [bx g1 25 (cR a b c d),⟨g2,25,(cR 0 0 0 0),some 1,(cR a b c d)⟩] [] [some (.agg (cR a b c d)),none] mo f8.d f8.z f8.b (by kernel_rfl) ⟨b_g1_13,b_g2_14,trivial⟩ (
    hk (fun cx=>cx.v (ldR rfl (cx.rq 1 s1_15) (cx.rn 0 rfl)) rfl rfl) <|
    hk (fun cx=>cx.stR (wn rfl) rfl rfl 1 rfl (cx.rq 2 s2_16) (cx.u 0 rfl) (by kernel_rfl) rfl (by simp [Value.oneCell']) q_g2 rfl ⟨(ne_ptr (pairAt f1.ps 0 1 (by decide) rfl rfl) u_g1 u_g2),trivial⟩ trivial) <|
    hn) ?_
   intro a9 w9 f9
   refine wp_ret ?_
   have s2_17:=f9.q 2 s2_16
   try simp only [Exit.inBlock,Exit.then]
   refine bodyPost_ret (res_c (fn:=Try.f129) rfl s2_17 (load_row 25 f9.rows.2.1 Try.underlying25 rfl (by kernel_rfl))) f9.d ?_
   have HE:(.agg (cR a b c d):Value)=Rg.val (Rg.nU ⟨⟨a,b⟩,⟨c,d⟩⟩):=by
     have hh:=HU.out
     simp only [Pr.U,Pr.S] at hh
     have h0:=Ffk1.out;have h1:=Ffk3.out
     simp only [beq_iff_eq,beq_eq_false_iff_ne,ne_eq,decide_eq_true_eq,decide_eq_false_iff_not] at h0 h1
     unfold Rg.nU Pr.meet sameS
     dsimp only
     rw [if_neg (by omega)]
     try (simp only [Int.max_self,Int.min_self])
     try rfl
   exact ⟨retV HE,f9.b⟩
  have Ffk3:=Lib.hid fk3;clear fk3
  refine go_reg [bx g1 25 (cR a b c d)] [] [some (pt g1 2),some (.int .i64 c),some (.bool true),some (pt g1 3),some (.int .i64 d),some (.bool true),some (.bool true)] mo f1.d f1.z f1.b (by kernel_rfl) ⟨b_g1,trivial⟩ (
   hk (fun cx=>cx.v (ex_fa rfl (cx.rq 1 u_g1) (faRR25_2_0 _ _)) rfl rfl) <|
   hk (fun cx=>cx.v (ex_ld rfl (cx.u 0 rfl) (cx.rn 0 rfl) rfl Try.isAgg2) rfl rfl) <|
   hk (fun cx=>cx.v (ex_lt (x:=.tmp 4) rfl (cx.u 0 rfl) rfl) rfl (congrArg Value.bool Ffk1.out)) <|
   hk (fun cx=>cx.v (ex_fa rfl (cx.rq 1 u_g1) (faRR25_3_0 _ _)) rfl rfl) <|
   hk (fun cx=>cx.v (ex_ld rfl (cx.u 0 rfl) (cx.rn 0 rfl) rfl Try.isAgg2) rfl rfl) <|
   hk (fun cx=>cx.v (ex_lt (x:=.tmp 7) rfl (cx.u 0 rfl) rfl) rfl (congrArg Value.bool Ffk3.out)) <|
   hc (fun _ ax _ cx=>cx.v (by simp [execOp,Act.eval,(show ax.tmps.getD 5 undef=.bool true from (cx.u 0 rfl)),(show ax.tmps.getD 8 undef=.bool true from (cx.u 1 rfl)),go_sem]) rfl rfl) <|
   hn) ?_
  intro a10 w10 f10
  refine wp_cond_true (f10.v 6 rfl rfl rfl) ?_
  refine wp_seq ?_
  have b_g1_18:=f10.k b_g1
  have s1_19:=f10.q 1 u_g1
  refine go_reg [⟨g1,25,(cR a b c d),some 7,(cR (max a (un c)) b c d)⟩] [] [some (pt g1 0),some (.int .u64 a),some (pt g1 2),some (.int .i64 c),some (.int .u64 (un c)),some (.int .u64 (max a (un c))),some (pt g1 0),none] mo f10.d f10.z f10.b (by kernel_rfl) ⟨b_g1_18,trivial⟩ (
   hk (fun cx=>cx.v (ex_fa rfl (cx.rq 1 s1_19) (faRR25_0_0 _ _)) rfl rfl) <|
   hk (fun cx=>cx.v (ex_ld rfl (cx.u 0 rfl) (cx.rf 0 rfl (by kernel_rfl)) rfl Try.isAgg23) rfl rfl) <|
   hk (fun cx=>cx.v (ex_fa rfl (cx.rq 1 s1_19) (faRR25_2_0 _ _)) rfl rfl) <|
   hk (fun cx=>cx.v (ex_ld rfl (cx.u 0 rfl) (cx.rf 0 rfl (by kernel_rfl)) rfl Try.isAgg2) rfl rfl) <|
   hk (fun cx=>cx.v (ex_conv (x:=.tmp 13) rfl (cx.u 0 rfl) Try.underlying2 Try.underlying23) rfl (congrArg (Value.int .u64) (wrap_un c))) <|
   hc (fun _ ax _ cx=>cx.v (ex_max (x:=.tmp 11) (y:=.tmp 14) rfl (cx.u 0 rfl) (cx.u 1 rfl)) rfl rfl) <|
   hk (fun cx=>cx.v (ex_fa rfl (cx.rq 1 s1_19) (faRR25_0_0 _ _)) rfl rfl) <|
   hk (fun cx=>cx.stC (wn rfl) rfl rfl 0 rfl (cx.u 0 rfl) (cx.u 1 rfl) rfl rfl (by kernel_rfl) rfl rfl q_g1 rfl trivial trivial) <|
   hn) ?_
  intro a11 w11 f11
  have s1_20:=f11.q 1 s1_19
  refine go_reg [⟨g1,25,(cR (max a (un c)) b c d),some 7,(cR (max a (un c)) (min b (un d)) c d)⟩] [] [some (pt g1 1),some (.int .u64 b),some (pt g1 3),some (.int .i64 d),some (.int .u64 (un d)),some (.int .u64 (min b (un d))),some (pt g1 1),none] mo f11.d f11.z f11.b (by kernel_rfl) ⟨f11.rows.1,trivial⟩ (
   hk (fun cx=>cx.v (ex_fa rfl (cx.rq 1 s1_20) (faRR25_1_0 _ _)) rfl rfl) <|
   hk (fun cx=>cx.v (ex_ld rfl (cx.u 0 rfl) (cx.rf 0 rfl (by kernel_rfl)) rfl Try.isAgg23) rfl rfl) <|
   hk (fun cx=>cx.v (ex_fa rfl (cx.rq 1 s1_20) (faRR25_3_0 _ _)) rfl rfl) <|
   hk (fun cx=>cx.v (ex_ld rfl (cx.u 0 rfl) (cx.rf 0 rfl (by kernel_rfl)) rfl Try.isAgg2) rfl rfl) <|
   hk (fun cx=>cx.v (ex_conv (x:=.tmp 20) rfl (cx.u 0 rfl) Try.underlying2 Try.underlying23) rfl (congrArg (Value.int .u64) (wrap_un d))) <|
   hk (fun cx=>cx.v (ex_min (x:=.tmp 18) (y:=.tmp 21) rfl (cx.u 0 rfl) (cx.u 1 rfl)) rfl rfl) <|
   hk (fun cx=>cx.v (ex_fa rfl (cx.rq 1 s1_20) (faRR25_1_0 _ _)) rfl rfl) <|
   hk (fun cx=>cx.stC (wn rfl) rfl rfl 0 rfl (cx.u 0 rfl) (cx.u 1 rfl) rfl rfl (by kernel_rfl) rfl rfl q_g1 rfl trivial trivial) <|
   hn) ?_
  intro a12 w12 f12
  refine wp_seq ?_
  have b_g2_21:=f12.kp (f11.kp (f10.k b_g2) ⟨.inr (ne_ptr (pairAt f1.ps 0 1 (by decide) rfl rfl) u_g1 u_g2).symm,trivial⟩) ⟨.inr (ne_ptr (pairAt f1.ps 0 1 (by decide) rfl rfl) u_g1 u_g2).symm,trivial⟩
  have s1_22:=f12.q 1 s1_20
  have s2_23:=f12.q 2 (f11.q 2 (f10.q 2 u_g2))
  refine go_reg [bx g1 25 (cR (max a (un c)) (min b (un d)) c d),⟨g2,25,(cR 0 0 0 0),some 1,(cR (max a (un c)) (min b (un d)) c d)⟩] [] [some (.agg (cR (max a (un c)) (min b (un d)) c d)),none] mo f12.d f12.z f12.b (by kernel_rfl) ⟨f12.rows.1,b_g2_21,trivial⟩ (
   hk (fun cx=>cx.v (ldR rfl (cx.rq 1 s1_22) (cx.rn 0 rfl)) rfl rfl) <|
   hk (fun cx=>cx.stR (wn rfl) rfl rfl 1 rfl (cx.rq 2 s2_23) (cx.u 0 rfl) (by kernel_rfl) rfl (by simp [Value.oneCell']) q_g2 rfl ⟨(ne_ptr (pairAt f1.ps 0 1 (by decide) rfl rfl) u_g1 u_g2),trivial⟩ trivial) <|
   hn) ?_
  intro a13 w13 f13
  refine wp_ret ?_
  have s2_24:=f13.q 2 s2_23
  try simp only [Exit.inBlock,Exit.then]
  refine bodyPost_ret (res_c (fn:=Try.f129) rfl s2_24 (load_row 25 f13.rows.2.1 Try.underlying25 rfl (by kernel_rfl))) f13.d ?_
  have HE:(.agg (cR (max a (un c)) (min b (un d)) c d):Value)=Rg.val (Rg.nU ⟨⟨a,b⟩,⟨c,d⟩⟩):=by
    have hh:=HU.out
    simp only [Pr.U,Pr.S] at hh
    have h0:=Ffk1.out;have h1:=Ffk3.out
    simp only [beq_iff_eq,beq_eq_false_iff_ne,ne_eq,decide_eq_true_eq,decide_eq_false_iff_not] at h0 h1
    unfold Rg.nU Pr.meet sameS
    dsimp only
    rw [if_pos (by omega)]
    try (simp only [Int.max_self,Int.min_self])
    try rfl
  exact ⟨retV HE,f13.b⟩
set_option maxHeartbeats 4000000 in
theorem rnarrow_n (a b c d:Int) (W:World) (ok:Rg.Ok ⟨⟨a,b⟩,⟨c,d⟩⟩):Calls Try.prog 124 #[.agg #[.int .u64 a,.int .u64 b,.int .i64 c,.int .i64 d]] W fun e w'=>e=.returned (.tuple #[.agg #[.int .u64 (Rg.nar ⟨⟨a,b⟩,⟨c,d⟩⟩).u.lo,.int .u64 (Rg.nar ⟨⟨a,b⟩,⟨c,d⟩⟩).u.hi,.int .i64 (Rg.nar ⟨⟨a,b⟩,⟨c,d⟩⟩).s.lo,.int .i64 (Rg.nar ⟨⟨a,b⟩,⟨c,d⟩⟩).s.hi],.bool (Rg.narB ⟨⟨a,b⟩,⟨c,d⟩⟩)]) ∧ Below W.heap.size W w':=by
  have HO:=Lib.hid ok
  clear ok
  refine calls_abs Try.func124 rfl (Nat.le_of_ble_eq_true rfl) ?_
  intro a0 d0 z0 h0
  replace z0:a0.tmps.size=27:=z0
  have s0_0:a0.tmps.getD 0 undef=.agg (cR a b c d):=h0 0 (Nat.le_of_ble_eq_true rfl)
  refine wp_seq ?_
  refine go_reg [] [⟨0,1,25,(cR a b c d),none,#[]⟩,⟨1,2,25,(cR 0 0 0 0),none,#[]⟩] [none,none,some (.bool false)] mo d0 z0 (Below.refl _ _) (by kernel_rfl) trivial (
   hc (fun _ ax _ cx=>cx.al (wn rfl) 0 rfl (by simp [execOp,Act.eval,(show ax.tmps.getD 0 undef=.agg (cR a b c d) from (cx.rq 0 s0_0)),go_sem]) rfl rfl rfl rfl rfl trivial) <|
   hk (fun cx=>cx.al (wn rfl) 1 rfl (by simp [execOp,Act.eval,go_sem]) rfl rfl rfl rfl rfl trivial) <|
   hk (fun cx=>cx.v (ex_as rfl rfl) rfl rfl) <|
   hn) ?_
  intro a1 w1 f1
  obtain ⟨g1,u_g1,q_g1,b_g1⟩:=f1.al.1
  obtain ⟨g2,u_g2,q_g2,b_g2⟩:=f1.al.2.1
  refine wp_seq ?_
  refine wp_seq ?_
  cases fk1:Rg.mayB ⟨⟨a,b⟩,⟨c,d⟩⟩
  case false=>
   have Ffk1:=Lib.hid fk1;clear fk1
   refine go_reg [bx g1 25 (cR a b c d)] [] [some (.agg (cR a b c d)),some (.bool false),some (.bool true)] mo f1.d f1.z f1.b (by kernel_rfl) ⟨b_g1,trivial⟩ (
    hk (fun cx=>cx.v (ldR rfl (cx.rq 1 u_g1) (cx.rn 0 rfl)) rfl rfl) <|
    hc (fun _ _ wx cx=>cx.c rfl (args1 (cx.u 0 rfl)) Try.func71 (by decide +kernel) (rmay_n a b c d wx) rfl (congrArg Value.bool Ffk1.out)) <|
    hk (fun cx=>cx.v (ex_not (x:=.tmp 5) rfl (cx.u 0 rfl)) rfl rfl) <|
    hn) ?_
   intro a2 w2 f2
   refine wp_cond_true (f2.v 2 rfl rfl rfl) ?_
   refine wp_seq ?_
   have b_g2_1:=f2.k b_g2
   have s2_2:=f2.q 2 u_g2
   refine go_reg [⟨g2,25,(cR 0 0 0 0),some 1,(cR allR.u.lo allR.u.hi allR.s.lo allR.s.hi)⟩] [] [some (.agg (cR allR.u.lo allR.u.hi allR.s.lo allR.s.hi)),none,some (.bool false)] mo f2.d f2.z f2.b (by kernel_rfl) ⟨b_g2_1,trivial⟩ (
    hc (fun _ _ wx cx=>cx.c rfl (args0 ) Try.func68 (by decide +kernel) (rall_n wx) rfl rfl) <|
    hk (fun cx=>cx.stR (wn rfl) rfl rfl 0 rfl (cx.rq 2 s2_2) (cx.u 0 rfl) (by kernel_rfl) rfl (by simp [Value.oneCell']) q_g2 rfl trivial trivial) <|
    hk (fun cx=>cx.v (ex_as rfl rfl) rfl rfl) <|
    hn) ?_
   intro a3 w3 f3
   refine wp_ret ?_
   have s2_3:=f3.q 2 s2_2
   try simp only [Exit.inBlock,Exit.then]
   refine bodyPost_ret (res_ct (fn:=Try.f124) rfl s2_3 (load_row 25 f3.rows.1 Try.underlying25 rfl (by kernel_rfl)) (f3.v 2 rfl rfl rfl)) f3.d ?_
   have HN:Rg.narB ⟨⟨a,b⟩,⟨c,d⟩⟩=false:=nar_of_no Ffk1.out
   have HE:Value.tuple #[.agg (cR allR.u.lo allR.u.hi allR.s.lo allR.s.hi),.bool false]=.tuple #[Rg.val (Rg.nar ⟨⟨a,b⟩,⟨c,d⟩⟩),.bool (Rg.narB ⟨⟨a,b⟩,⟨c,d⟩⟩)]:=by unfold Rg.nar;rw [HN];rfl
   exact ⟨retV HE,f3.b⟩
  have Ffk1:=Lib.hid fk1;clear fk1
  refine go_reg [bx g1 25 (cR a b c d)] [] [some (.agg (cR a b c d)),some (.bool true),some (.bool false)] mo f1.d f1.z f1.b (by kernel_rfl) ⟨b_g1,trivial⟩ (
   hk (fun cx=>cx.v (ldR rfl (cx.rq 1 u_g1) (cx.rn 0 rfl)) rfl rfl) <|
   hc (fun _ _ wx cx=>cx.c rfl (args1 (cx.u 0 rfl)) Try.func71 (by decide +kernel) (rmay_n a b c d wx) rfl (congrArg Value.bool Ffk1.out)) <|
   hk (fun cx=>cx.v (ex_not (x:=.tmp 5) rfl (cx.u 0 rfl)) rfl rfl) <|
   hn) ?_
  intro a4 w4 f4
  refine wp_cond_false (f4.v 2 rfl rfl rfl) ?_
  refine wp_skip ?_
  refine wp_seq ?_
  have b_g1_4:=f4.k b_g1
  have s1_5:=f4.q 1 u_g1
  refine go_reg [⟨g1,25,(cR a b c d),some 2,(cR ((Rg.nS ⟨⟨a,b⟩,⟨c,d⟩⟩).u.lo) ((Rg.nS ⟨⟨a,b⟩,⟨c,d⟩⟩).u.hi) ((Rg.nS ⟨⟨a,b⟩,⟨c,d⟩⟩).s.lo) ((Rg.nS ⟨⟨a,b⟩,⟨c,d⟩⟩).s.hi))⟩] [] [some (.agg (cR a b c d)),some (.agg (cR ((Rg.nS ⟨⟨a,b⟩,⟨c,d⟩⟩).u.lo) ((Rg.nS ⟨⟨a,b⟩,⟨c,d⟩⟩).u.hi) ((Rg.nS ⟨⟨a,b⟩,⟨c,d⟩⟩).s.lo) ((Rg.nS ⟨⟨a,b⟩,⟨c,d⟩⟩).s.hi))),none] mo f4.d f4.z f4.b (by kernel_rfl) ⟨b_g1_4,trivial⟩ (
   hk (fun cx=>cx.v (ldR rfl (cx.rq 1 s1_5) (cx.rf 0 rfl (by kernel_rfl))) rfl rfl) <|
   hc (fun _ _ wx cx=>cx.c rfl (args1 (cx.u 0 rfl)) Try.func128 (by decide +kernel) (rsigned_n a b c d wx HO.out) rfl rfl) <|
   hk (fun cx=>cx.stR (wn rfl) rfl rfl 0 rfl (cx.rq 1 s1_5) (cx.u 0 rfl) (by kernel_rfl) rfl (by simp [Value.oneCell']) q_g1 rfl trivial trivial) <|
   hn) ?_
  intro a5 w5 f5
  refine wp_seq ?_
  refine wp_seq ?_
  cases fk2:Rg.mayB (Rg.nS ⟨⟨a,b⟩,⟨c,d⟩⟩)
  case false=>
   have Ffk2:=Lib.hid fk2;clear fk2
   have s1_6:=f5.q 1 s1_5
   refine go_reg [bx g1 25 (cR ((Rg.nS ⟨⟨a,b⟩,⟨c,d⟩⟩).u.lo) ((Rg.nS ⟨⟨a,b⟩,⟨c,d⟩⟩).u.hi) ((Rg.nS ⟨⟨a,b⟩,⟨c,d⟩⟩).s.lo) ((Rg.nS ⟨⟨a,b⟩,⟨c,d⟩⟩).s.hi))] [] [some (.agg (cR ((Rg.nS ⟨⟨a,b⟩,⟨c,d⟩⟩).u.lo) ((Rg.nS ⟨⟨a,b⟩,⟨c,d⟩⟩).u.hi) ((Rg.nS ⟨⟨a,b⟩,⟨c,d⟩⟩).s.lo) ((Rg.nS ⟨⟨a,b⟩,⟨c,d⟩⟩).s.hi))),some (.bool false),some (.bool true)] mo f5.d f5.z f5.b (by kernel_rfl) ⟨f5.rows.1,trivial⟩ (
    hk (fun cx=>cx.v (ldR rfl (cx.rq 1 s1_6) (cx.rn 0 rfl)) rfl rfl) <|
    hc (fun _ _ wx cx=>cx.c rfl (args1 (cx.u 0 rfl)) Try.func71 (by decide +kernel) (rmay_n ((Rg.nS ⟨⟨a,b⟩,⟨c,d⟩⟩).u.lo) ((Rg.nS ⟨⟨a,b⟩,⟨c,d⟩⟩).u.hi) ((Rg.nS ⟨⟨a,b⟩,⟨c,d⟩⟩).s.lo) ((Rg.nS ⟨⟨a,b⟩,⟨c,d⟩⟩).s.hi) wx) rfl (congrArg Value.bool Ffk2.out)) <|
    hk (fun cx=>cx.v (ex_not (x:=.tmp 11) rfl (cx.u 0 rfl)) rfl rfl) <|
    hn) ?_
   intro a6 w6 f6
   refine wp_cond_true (f6.v 2 rfl rfl rfl) ?_
   refine wp_seq ?_
   have b_g2_7:=f6.k (f5.kp (f4.k b_g2) ⟨.inr (ne_ptr (pairAt f1.ps 0 1 (by decide) rfl rfl) u_g1 u_g2).symm,trivial⟩)
   have s2_8:=f6.q 2 (f5.q 2 (f4.q 2 u_g2))
   refine go_reg [⟨g2,25,(cR 0 0 0 0),some 1,(cR allR.u.lo allR.u.hi allR.s.lo allR.s.hi)⟩] [] [some (.agg (cR allR.u.lo allR.u.hi allR.s.lo allR.s.hi)),none,some (.bool false)] mo f6.d f6.z f6.b (by kernel_rfl) ⟨b_g2_7,trivial⟩ (
    hc (fun _ _ wx cx=>cx.c rfl (args0 ) Try.func68 (by decide +kernel) (rall_n wx) rfl rfl) <|
    hk (fun cx=>cx.stR (wn rfl) rfl rfl 0 rfl (cx.rq 2 s2_8) (cx.u 0 rfl) (by kernel_rfl) rfl (by simp [Value.oneCell']) q_g2 rfl trivial trivial) <|
    hk (fun cx=>cx.v (ex_as rfl rfl) rfl rfl) <|
    hn) ?_
   intro a7 w7 f7
   refine wp_ret ?_
   have s2_9:=f7.q 2 s2_8
   try simp only [Exit.inBlock,Exit.then]
   refine bodyPost_ret (res_ct (fn:=Try.f124) rfl s2_9 (load_row 25 f7.rows.1 Try.underlying25 rfl (by kernel_rfl)) (f7.v 2 rfl rfl rfl)) f7.d ?_
   have HN:Rg.narB ⟨⟨a,b⟩,⟨c,d⟩⟩=false:=nar_of_no1 Ffk2.out
   have HE:Value.tuple #[.agg (cR allR.u.lo allR.u.hi allR.s.lo allR.s.hi),.bool false]=.tuple #[Rg.val (Rg.nar ⟨⟨a,b⟩,⟨c,d⟩⟩),.bool (Rg.narB ⟨⟨a,b⟩,⟨c,d⟩⟩)]:=by unfold Rg.nar;rw [HN];rfl
   exact ⟨retV HE,f7.b⟩
  have Ffk2:=Lib.hid fk2;clear fk2
  have s1_10:=f5.q 1 s1_5
  refine go_reg [bx g1 25 (cR ((Rg.nS ⟨⟨a,b⟩,⟨c,d⟩⟩).u.lo) ((Rg.nS ⟨⟨a,b⟩,⟨c,d⟩⟩).u.hi) ((Rg.nS ⟨⟨a,b⟩,⟨c,d⟩⟩).s.lo) ((Rg.nS ⟨⟨a,b⟩,⟨c,d⟩⟩).s.hi))] [] [some (.agg (cR ((Rg.nS ⟨⟨a,b⟩,⟨c,d⟩⟩).u.lo) ((Rg.nS ⟨⟨a,b⟩,⟨c,d⟩⟩).u.hi) ((Rg.nS ⟨⟨a,b⟩,⟨c,d⟩⟩).s.lo) ((Rg.nS ⟨⟨a,b⟩,⟨c,d⟩⟩).s.hi))),some (.bool true),some (.bool false)] mo f5.d f5.z f5.b (by kernel_rfl) ⟨f5.rows.1,trivial⟩ (
   hk (fun cx=>cx.v (ldR rfl (cx.rq 1 s1_10) (cx.rn 0 rfl)) rfl rfl) <|
   hc (fun _ _ wx cx=>cx.c rfl (args1 (cx.u 0 rfl)) Try.func71 (by decide +kernel) (rmay_n ((Rg.nS ⟨⟨a,b⟩,⟨c,d⟩⟩).u.lo) ((Rg.nS ⟨⟨a,b⟩,⟨c,d⟩⟩).u.hi) ((Rg.nS ⟨⟨a,b⟩,⟨c,d⟩⟩).s.lo) ((Rg.nS ⟨⟨a,b⟩,⟨c,d⟩⟩).s.hi) wx) rfl (congrArg Value.bool Ffk2.out)) <|
   hk (fun cx=>cx.v (ex_not (x:=.tmp 11) rfl (cx.u 0 rfl)) rfl rfl) <|
   hn) ?_
  intro a8 w8 f8
  refine wp_cond_false (f8.v 2 rfl rfl rfl) ?_
  refine wp_skip ?_
  refine wp_seq ?_
  have b_g1_11:=f8.k f5.rows.1
  have s1_12:=f8.q 1 s1_10
  refine go_reg [⟨g1,25,(cR ((Rg.nS ⟨⟨a,b⟩,⟨c,d⟩⟩).u.lo) ((Rg.nS ⟨⟨a,b⟩,⟨c,d⟩⟩).u.hi) ((Rg.nS ⟨⟨a,b⟩,⟨c,d⟩⟩).s.lo) ((Rg.nS ⟨⟨a,b⟩,⟨c,d⟩⟩).s.hi)),some 2,(cR ((Rg.nU (Rg.nS ⟨⟨a,b⟩,⟨c,d⟩⟩)).u.lo) ((Rg.nU (Rg.nS ⟨⟨a,b⟩,⟨c,d⟩⟩)).u.hi) ((Rg.nU (Rg.nS ⟨⟨a,b⟩,⟨c,d⟩⟩)).s.lo) ((Rg.nU (Rg.nS ⟨⟨a,b⟩,⟨c,d⟩⟩)).s.hi))⟩] [] [some (.agg (cR ((Rg.nS ⟨⟨a,b⟩,⟨c,d⟩⟩).u.lo) ((Rg.nS ⟨⟨a,b⟩,⟨c,d⟩⟩).u.hi) ((Rg.nS ⟨⟨a,b⟩,⟨c,d⟩⟩).s.lo) ((Rg.nS ⟨⟨a,b⟩,⟨c,d⟩⟩).s.hi))),some (.agg (cR ((Rg.nU (Rg.nS ⟨⟨a,b⟩,⟨c,d⟩⟩)).u.lo) ((Rg.nU (Rg.nS ⟨⟨a,b⟩,⟨c,d⟩⟩)).u.hi) ((Rg.nU (Rg.nS ⟨⟨a,b⟩,⟨c,d⟩⟩)).s.lo) ((Rg.nU (Rg.nS ⟨⟨a,b⟩,⟨c,d⟩⟩)).s.hi))),none] mo f8.d f8.z f8.b (by kernel_rfl) ⟨b_g1_11,trivial⟩ (
   hk (fun cx=>cx.v (ldR rfl (cx.rq 1 s1_12) (cx.rf 0 rfl (by kernel_rfl))) rfl rfl) <|
   hc (fun _ _ wx cx=>cx.c rfl (args1 (cx.u 0 rfl)) Try.func129 (by decide +kernel) (runsigned_n ((Rg.nS ⟨⟨a,b⟩,⟨c,d⟩⟩).u.lo) ((Rg.nS ⟨⟨a,b⟩,⟨c,d⟩⟩).u.hi) ((Rg.nS ⟨⟨a,b⟩,⟨c,d⟩⟩).s.lo) ((Rg.nS ⟨⟨a,b⟩,⟨c,d⟩⟩).s.hi) wx (ok_nS HO.out)) rfl rfl) <|
   hk (fun cx=>cx.stR (wn rfl) rfl rfl 0 rfl (cx.rq 1 s1_12) (cx.u 0 rfl) (by kernel_rfl) rfl (by simp [Value.oneCell']) q_g1 rfl trivial trivial) <|
   hn) ?_
  intro a9 w9 f9
  refine wp_seq ?_
  refine wp_seq ?_
  cases fk3:Rg.mayB (Rg.nU (Rg.nS ⟨⟨a,b⟩,⟨c,d⟩⟩))
  case false=>
   have Ffk3:=Lib.hid fk3;clear fk3
   have s1_13:=f9.q 1 s1_12
   refine go_reg [bx g1 25 (cR ((Rg.nU (Rg.nS ⟨⟨a,b⟩,⟨c,d⟩⟩)).u.lo) ((Rg.nU (Rg.nS ⟨⟨a,b⟩,⟨c,d⟩⟩)).u.hi) ((Rg.nU (Rg.nS ⟨⟨a,b⟩,⟨c,d⟩⟩)).s.lo) ((Rg.nU (Rg.nS ⟨⟨a,b⟩,⟨c,d⟩⟩)).s.hi))] [] [some (.agg (cR ((Rg.nU (Rg.nS ⟨⟨a,b⟩,⟨c,d⟩⟩)).u.lo) ((Rg.nU (Rg.nS ⟨⟨a,b⟩,⟨c,d⟩⟩)).u.hi) ((Rg.nU (Rg.nS ⟨⟨a,b⟩,⟨c,d⟩⟩)).s.lo) ((Rg.nU (Rg.nS ⟨⟨a,b⟩,⟨c,d⟩⟩)).s.hi))),some (.bool false),some (.bool true)] mo f9.d f9.z f9.b (by kernel_rfl) ⟨f9.rows.1,trivial⟩ (
    hk (fun cx=>cx.v (ldR rfl (cx.rq 1 s1_13) (cx.rn 0 rfl)) rfl rfl) <|
    hc (fun _ _ wx cx=>cx.c rfl (args1 (cx.u 0 rfl)) Try.func71 (by decide +kernel) (rmay_n ((Rg.nU (Rg.nS ⟨⟨a,b⟩,⟨c,d⟩⟩)).u.lo) ((Rg.nU (Rg.nS ⟨⟨a,b⟩,⟨c,d⟩⟩)).u.hi) ((Rg.nU (Rg.nS ⟨⟨a,b⟩,⟨c,d⟩⟩)).s.lo) ((Rg.nU (Rg.nS ⟨⟨a,b⟩,⟨c,d⟩⟩)).s.hi) wx) rfl (congrArg Value.bool Ffk3.out)) <|
    hk (fun cx=>cx.v (ex_not (x:=.tmp 17) rfl (cx.u 0 rfl)) rfl rfl) <|
    hn) ?_
   intro a10 w10 f10
   refine wp_cond_true (f10.v 2 rfl rfl rfl) ?_
   refine wp_seq ?_
   have b_g2_14:=f10.k (f9.kp (f8.k (f5.kp (f4.k b_g2) ⟨.inr (ne_ptr (pairAt f1.ps 0 1 (by decide) rfl rfl) u_g1 u_g2).symm,trivial⟩)) ⟨.inr (ne_ptr (pairAt f1.ps 0 1 (by decide) rfl rfl) u_g1 u_g2).symm,trivial⟩)
   have s2_15:=f10.q 2 (f9.q 2 (f8.q 2 (f5.q 2 (f4.q 2 u_g2))))
   refine go_reg [⟨g2,25,(cR 0 0 0 0),some 1,(cR allR.u.lo allR.u.hi allR.s.lo allR.s.hi)⟩] [] [some (.agg (cR allR.u.lo allR.u.hi allR.s.lo allR.s.hi)),none,some (.bool false)] mo f10.d f10.z f10.b (by kernel_rfl) ⟨b_g2_14,trivial⟩ (
    hc (fun _ _ wx cx=>cx.c rfl (args0 ) Try.func68 (by decide +kernel) (rall_n wx) rfl rfl) <|
    hk (fun cx=>cx.stR (wn rfl) rfl rfl 0 rfl (cx.rq 2 s2_15) (cx.u 0 rfl) (by kernel_rfl) rfl (by simp [Value.oneCell']) q_g2 rfl trivial trivial) <|
    hk (fun cx=>cx.v (ex_as rfl rfl) rfl rfl) <|
    hn) ?_
   intro a11 w11 f11
   refine wp_ret ?_
   have s2_16:=f11.q 2 s2_15
   try simp only [Exit.inBlock,Exit.then]
   refine bodyPost_ret (res_ct (fn:=Try.f124) rfl s2_16 (load_row 25 f11.rows.1 Try.underlying25 rfl (by kernel_rfl)) (f11.v 2 rfl rfl rfl)) f11.d ?_
   have HN:Rg.narB ⟨⟨a,b⟩,⟨c,d⟩⟩=false:=nar_of_no2 Ffk3.out
   have HE:Value.tuple #[.agg (cR allR.u.lo allR.u.hi allR.s.lo allR.s.hi),.bool false]=.tuple #[Rg.val (Rg.nar ⟨⟨a,b⟩,⟨c,d⟩⟩),.bool (Rg.narB ⟨⟨a,b⟩,⟨c,d⟩⟩)]:=by unfold Rg.nar;rw [HN];rfl
   exact ⟨retV HE,f11.b⟩
  have Ffk3:=Lib.hid fk3;clear fk3
  have s1_17:=f9.q 1 s1_12
  refine go_reg [bx g1 25 (cR ((Rg.nU (Rg.nS ⟨⟨a,b⟩,⟨c,d⟩⟩)).u.lo) ((Rg.nU (Rg.nS ⟨⟨a,b⟩,⟨c,d⟩⟩)).u.hi) ((Rg.nU (Rg.nS ⟨⟨a,b⟩,⟨c,d⟩⟩)).s.lo) ((Rg.nU (Rg.nS ⟨⟨a,b⟩,⟨c,d⟩⟩)).s.hi))] [] [some (.agg (cR ((Rg.nU (Rg.nS ⟨⟨a,b⟩,⟨c,d⟩⟩)).u.lo) ((Rg.nU (Rg.nS ⟨⟨a,b⟩,⟨c,d⟩⟩)).u.hi) ((Rg.nU (Rg.nS ⟨⟨a,b⟩,⟨c,d⟩⟩)).s.lo) ((Rg.nU (Rg.nS ⟨⟨a,b⟩,⟨c,d⟩⟩)).s.hi))),some (.bool true),some (.bool false)] mo f9.d f9.z f9.b (by kernel_rfl) ⟨f9.rows.1,trivial⟩ (
   hk (fun cx=>cx.v (ldR rfl (cx.rq 1 s1_17) (cx.rn 0 rfl)) rfl rfl) <|
   hc (fun _ _ wx cx=>cx.c rfl (args1 (cx.u 0 rfl)) Try.func71 (by decide +kernel) (rmay_n ((Rg.nU (Rg.nS ⟨⟨a,b⟩,⟨c,d⟩⟩)).u.lo) ((Rg.nU (Rg.nS ⟨⟨a,b⟩,⟨c,d⟩⟩)).u.hi) ((Rg.nU (Rg.nS ⟨⟨a,b⟩,⟨c,d⟩⟩)).s.lo) ((Rg.nU (Rg.nS ⟨⟨a,b⟩,⟨c,d⟩⟩)).s.hi) wx) rfl (congrArg Value.bool Ffk3.out)) <|
   hk (fun cx=>cx.v (ex_not (x:=.tmp 17) rfl (cx.u 0 rfl)) rfl rfl) <|
   hn) ?_
  intro a12 w12 f12
  refine wp_cond_false (f12.v 2 rfl rfl rfl) ?_
  refine wp_skip ?_
  refine wp_seq ?_
  have b_g1_18:=f12.k f9.rows.1
  have s1_19:=f12.q 1 s1_17
  refine go_reg [⟨g1,25,(cR ((Rg.nU (Rg.nS ⟨⟨a,b⟩,⟨c,d⟩⟩)).u.lo) ((Rg.nU (Rg.nS ⟨⟨a,b⟩,⟨c,d⟩⟩)).u.hi) ((Rg.nU (Rg.nS ⟨⟨a,b⟩,⟨c,d⟩⟩)).s.lo) ((Rg.nU (Rg.nS ⟨⟨a,b⟩,⟨c,d⟩⟩)).s.hi)),some 2,(cR ((Rg.nS (Rg.nU (Rg.nS ⟨⟨a,b⟩,⟨c,d⟩⟩))).u.lo) ((Rg.nS (Rg.nU (Rg.nS ⟨⟨a,b⟩,⟨c,d⟩⟩))).u.hi) ((Rg.nS (Rg.nU (Rg.nS ⟨⟨a,b⟩,⟨c,d⟩⟩))).s.lo) ((Rg.nS (Rg.nU (Rg.nS ⟨⟨a,b⟩,⟨c,d⟩⟩))).s.hi))⟩] [] [some (.agg (cR ((Rg.nU (Rg.nS ⟨⟨a,b⟩,⟨c,d⟩⟩)).u.lo) ((Rg.nU (Rg.nS ⟨⟨a,b⟩,⟨c,d⟩⟩)).u.hi) ((Rg.nU (Rg.nS ⟨⟨a,b⟩,⟨c,d⟩⟩)).s.lo) ((Rg.nU (Rg.nS ⟨⟨a,b⟩,⟨c,d⟩⟩)).s.hi))),some (.agg (cR ((Rg.nS (Rg.nU (Rg.nS ⟨⟨a,b⟩,⟨c,d⟩⟩))).u.lo) ((Rg.nS (Rg.nU (Rg.nS ⟨⟨a,b⟩,⟨c,d⟩⟩))).u.hi) ((Rg.nS (Rg.nU (Rg.nS ⟨⟨a,b⟩,⟨c,d⟩⟩))).s.lo) ((Rg.nS (Rg.nU (Rg.nS ⟨⟨a,b⟩,⟨c,d⟩⟩))).s.hi))),none] mo f12.d f12.z f12.b (by kernel_rfl) ⟨b_g1_18,trivial⟩ (
   hk (fun cx=>cx.v (ldR rfl (cx.rq 1 s1_19) (cx.rf 0 rfl (by kernel_rfl))) rfl rfl) <|
   hc (fun _ _ wx cx=>cx.c rfl (args1 (cx.u 0 rfl)) Try.func128 (by decide +kernel) (rsigned_n ((Rg.nU (Rg.nS ⟨⟨a,b⟩,⟨c,d⟩⟩)).u.lo) ((Rg.nU (Rg.nS ⟨⟨a,b⟩,⟨c,d⟩⟩)).u.hi) ((Rg.nU (Rg.nS ⟨⟨a,b⟩,⟨c,d⟩⟩)).s.lo) ((Rg.nU (Rg.nS ⟨⟨a,b⟩,⟨c,d⟩⟩)).s.hi) wx (ok_nU (ok_nS HO.out))) rfl rfl) <|
   hk (fun cx=>cx.stR (wn rfl) rfl rfl 0 rfl (cx.rq 1 s1_19) (cx.u 0 rfl) (by kernel_rfl) rfl (by simp [Value.oneCell']) q_g1 rfl trivial trivial) <|
   hn) ?_
  intro a13 w13 f13
  refine wp_seq ?_
  refine wp_seq ?_
  cases fk4:Rg.mayB (Rg.nS (Rg.nU (Rg.nS ⟨⟨a,b⟩,⟨c,d⟩⟩)))
  case false=>
   have Ffk4:=Lib.hid fk4;clear fk4
   have s1_20:=f13.q 1 s1_19
   refine go_reg [bx g1 25 (cR ((Rg.nS (Rg.nU (Rg.nS ⟨⟨a,b⟩,⟨c,d⟩⟩))).u.lo) ((Rg.nS (Rg.nU (Rg.nS ⟨⟨a,b⟩,⟨c,d⟩⟩))).u.hi) ((Rg.nS (Rg.nU (Rg.nS ⟨⟨a,b⟩,⟨c,d⟩⟩))).s.lo) ((Rg.nS (Rg.nU (Rg.nS ⟨⟨a,b⟩,⟨c,d⟩⟩))).s.hi))] [] [some (.agg (cR ((Rg.nS (Rg.nU (Rg.nS ⟨⟨a,b⟩,⟨c,d⟩⟩))).u.lo) ((Rg.nS (Rg.nU (Rg.nS ⟨⟨a,b⟩,⟨c,d⟩⟩))).u.hi) ((Rg.nS (Rg.nU (Rg.nS ⟨⟨a,b⟩,⟨c,d⟩⟩))).s.lo) ((Rg.nS (Rg.nU (Rg.nS ⟨⟨a,b⟩,⟨c,d⟩⟩))).s.hi))),some (.bool false),some (.bool true)] mo f13.d f13.z f13.b (by kernel_rfl) ⟨f13.rows.1,trivial⟩ (
    hk (fun cx=>cx.v (ldR rfl (cx.rq 1 s1_20) (cx.rn 0 rfl)) rfl rfl) <|
    hc (fun _ _ wx cx=>cx.c rfl (args1 (cx.u 0 rfl)) Try.func71 (by decide +kernel) (rmay_n ((Rg.nS (Rg.nU (Rg.nS ⟨⟨a,b⟩,⟨c,d⟩⟩))).u.lo) ((Rg.nS (Rg.nU (Rg.nS ⟨⟨a,b⟩,⟨c,d⟩⟩))).u.hi) ((Rg.nS (Rg.nU (Rg.nS ⟨⟨a,b⟩,⟨c,d⟩⟩))).s.lo) ((Rg.nS (Rg.nU (Rg.nS ⟨⟨a,b⟩,⟨c,d⟩⟩))).s.hi) wx) rfl (congrArg Value.bool Ffk4.out)) <|
    hk (fun cx=>cx.v (ex_not (x:=.tmp 23) rfl (cx.u 0 rfl)) rfl rfl) <|
    hn) ?_
   intro a14 w14 f14
   refine wp_cond_true (f14.v 2 rfl rfl rfl) ?_
   refine wp_seq ?_
   have b_g2_21:=f14.k (f13.kp (f12.k (f9.kp (f8.k (f5.kp (f4.k b_g2) ⟨.inr (ne_ptr (pairAt f1.ps 0 1 (by decide) rfl rfl) u_g1 u_g2).symm,trivial⟩)) ⟨.inr (ne_ptr (pairAt f1.ps 0 1 (by decide) rfl rfl) u_g1 u_g2).symm,trivial⟩)) ⟨.inr (ne_ptr (pairAt f1.ps 0 1 (by decide) rfl rfl) u_g1 u_g2).symm,trivial⟩)
   have s2_22:=f14.q 2 (f13.q 2 (f12.q 2 (f9.q 2 (f8.q 2 (f5.q 2 (f4.q 2 u_g2))))))
   refine go_reg [⟨g2,25,(cR 0 0 0 0),some 1,(cR allR.u.lo allR.u.hi allR.s.lo allR.s.hi)⟩] [] [some (.agg (cR allR.u.lo allR.u.hi allR.s.lo allR.s.hi)),none,some (.bool false)] mo f14.d f14.z f14.b (by kernel_rfl) ⟨b_g2_21,trivial⟩ (
    hc (fun _ _ wx cx=>cx.c rfl (args0 ) Try.func68 (by decide +kernel) (rall_n wx) rfl rfl) <|
    hk (fun cx=>cx.stR (wn rfl) rfl rfl 0 rfl (cx.rq 2 s2_22) (cx.u 0 rfl) (by kernel_rfl) rfl (by simp [Value.oneCell']) q_g2 rfl trivial trivial) <|
    hk (fun cx=>cx.v (ex_as rfl rfl) rfl rfl) <|
    hn) ?_
   intro a15 w15 f15
   refine wp_ret ?_
   have s2_23:=f15.q 2 s2_22
   try simp only [Exit.inBlock,Exit.then]
   refine bodyPost_ret (res_ct (fn:=Try.f124) rfl s2_23 (load_row 25 f15.rows.1 Try.underlying25 rfl (by kernel_rfl)) (f15.v 2 rfl rfl rfl)) f15.d ?_
   have HN:Rg.narB ⟨⟨a,b⟩,⟨c,d⟩⟩=false:=Ffk4.out
   have HE:Value.tuple #[.agg (cR allR.u.lo allR.u.hi allR.s.lo allR.s.hi),.bool false]=.tuple #[Rg.val (Rg.nar ⟨⟨a,b⟩,⟨c,d⟩⟩),.bool (Rg.narB ⟨⟨a,b⟩,⟨c,d⟩⟩)]:=by unfold Rg.nar;rw [HN];rfl
   exact ⟨retV HE,f15.b⟩
  have Ffk4:=Lib.hid fk4;clear fk4
  have s1_24:=f13.q 1 s1_19
  refine go_reg [bx g1 25 (cR ((Rg.nS (Rg.nU (Rg.nS ⟨⟨a,b⟩,⟨c,d⟩⟩))).u.lo) ((Rg.nS (Rg.nU (Rg.nS ⟨⟨a,b⟩,⟨c,d⟩⟩))).u.hi) ((Rg.nS (Rg.nU (Rg.nS ⟨⟨a,b⟩,⟨c,d⟩⟩))).s.lo) ((Rg.nS (Rg.nU (Rg.nS ⟨⟨a,b⟩,⟨c,d⟩⟩))).s.hi))] [] [some (.agg (cR ((Rg.nS (Rg.nU (Rg.nS ⟨⟨a,b⟩,⟨c,d⟩⟩))).u.lo) ((Rg.nS (Rg.nU (Rg.nS ⟨⟨a,b⟩,⟨c,d⟩⟩))).u.hi) ((Rg.nS (Rg.nU (Rg.nS ⟨⟨a,b⟩,⟨c,d⟩⟩))).s.lo) ((Rg.nS (Rg.nU (Rg.nS ⟨⟨a,b⟩,⟨c,d⟩⟩))).s.hi))),some (.bool true),some (.bool false)] mo f13.d f13.z f13.b (by kernel_rfl) ⟨f13.rows.1,trivial⟩ (
   hk (fun cx=>cx.v (ldR rfl (cx.rq 1 s1_24) (cx.rn 0 rfl)) rfl rfl) <|
   hc (fun _ _ wx cx=>cx.c rfl (args1 (cx.u 0 rfl)) Try.func71 (by decide +kernel) (rmay_n ((Rg.nS (Rg.nU (Rg.nS ⟨⟨a,b⟩,⟨c,d⟩⟩))).u.lo) ((Rg.nS (Rg.nU (Rg.nS ⟨⟨a,b⟩,⟨c,d⟩⟩))).u.hi) ((Rg.nS (Rg.nU (Rg.nS ⟨⟨a,b⟩,⟨c,d⟩⟩))).s.lo) ((Rg.nS (Rg.nU (Rg.nS ⟨⟨a,b⟩,⟨c,d⟩⟩))).s.hi) wx) rfl (congrArg Value.bool Ffk4.out)) <|
   hk (fun cx=>cx.v (ex_not (x:=.tmp 23) rfl (cx.u 0 rfl)) rfl rfl) <|
   hn) ?_
  intro a16 w16 f16
  refine wp_cond_false (f16.v 2 rfl rfl rfl) ?_
  refine wp_skip ?_
  refine wp_seq ?_
  have b_g1_25:=f16.k f13.rows.1
  have b_g2_26:=f16.k (f13.kp (f12.k (f9.kp (f8.k (f5.kp (f4.k b_g2) ⟨.inr (ne_ptr (pairAt f1.ps 0 1 (by decide) rfl rfl) u_g1 u_g2).symm,trivial⟩)) ⟨.inr (ne_ptr (pairAt f1.ps 0 1 (by decide) rfl rfl) u_g1 u_g2).symm,trivial⟩)) ⟨.inr (ne_ptr (pairAt f1.ps 0 1 (by decide) rfl rfl) u_g1 u_g2).symm,trivial⟩)
  have s1_27:=f16.q 1 s1_24
  have s2_28:=f16.q 2 (f13.q 2 (f12.q 2 (f9.q 2 (f8.q 2 (f5.q 2 (f4.q 2 u_g2))))))
  refine go_reg [bx g1 25 (cR ((Rg.nS (Rg.nU (Rg.nS ⟨⟨a,b⟩,⟨c,d⟩⟩))).u.lo) ((Rg.nS (Rg.nU (Rg.nS ⟨⟨a,b⟩,⟨c,d⟩⟩))).u.hi) ((Rg.nS (Rg.nU (Rg.nS ⟨⟨a,b⟩,⟨c,d⟩⟩))).s.lo) ((Rg.nS (Rg.nU (Rg.nS ⟨⟨a,b⟩,⟨c,d⟩⟩))).s.hi)),⟨g2,25,(cR 0 0 0 0),some 1,(cR ((Rg.nS (Rg.nU (Rg.nS ⟨⟨a,b⟩,⟨c,d⟩⟩))).u.lo) ((Rg.nS (Rg.nU (Rg.nS ⟨⟨a,b⟩,⟨c,d⟩⟩))).u.hi) ((Rg.nS (Rg.nU (Rg.nS ⟨⟨a,b⟩,⟨c,d⟩⟩))).s.lo) ((Rg.nS (Rg.nU (Rg.nS ⟨⟨a,b⟩,⟨c,d⟩⟩))).s.hi))⟩] [] [some (.agg (cR ((Rg.nS (Rg.nU (Rg.nS ⟨⟨a,b⟩,⟨c,d⟩⟩))).u.lo) ((Rg.nS (Rg.nU (Rg.nS ⟨⟨a,b⟩,⟨c,d⟩⟩))).u.hi) ((Rg.nS (Rg.nU (Rg.nS ⟨⟨a,b⟩,⟨c,d⟩⟩))).s.lo) ((Rg.nS (Rg.nU (Rg.nS ⟨⟨a,b⟩,⟨c,d⟩⟩))).s.hi))),none,some (.bool true)] mo f16.d f16.z f16.b (by kernel_rfl) ⟨b_g1_25,b_g2_26,trivial⟩ (
   hk (fun cx=>cx.v (ldR rfl (cx.rq 1 s1_27) (cx.rn 0 rfl)) rfl rfl) <|
   hk (fun cx=>cx.stR (wn rfl) rfl rfl 1 rfl (cx.rq 2 s2_28) (cx.u 0 rfl) (by kernel_rfl) rfl (by simp [Value.oneCell']) q_g2 rfl ⟨(ne_ptr (pairAt f1.ps 0 1 (by decide) rfl rfl) u_g1 u_g2),trivial⟩ trivial) <|
   hk (fun cx=>cx.v (ex_as rfl rfl) rfl rfl) <|
   hn) ?_
  intro a17 w17 f17
  refine wp_ret ?_
  have s2_29:=f17.q 2 s2_28
  try simp only [Exit.inBlock,Exit.then]
  refine bodyPost_ret (res_ct (fn:=Try.f124) rfl s2_29 (load_row 25 f17.rows.2.1 Try.underlying25 rfl (by kernel_rfl)) (f17.v 2 rfl rfl rfl)) f17.d ?_
  have HN:Rg.narB ⟨⟨a,b⟩,⟨c,d⟩⟩=true:=Ffk4.out
  have HE:Value.tuple #[.agg (cR ((Rg.nS (Rg.nU (Rg.nS ⟨⟨a,b⟩,⟨c,d⟩⟩))).u.lo) ((Rg.nS (Rg.nU (Rg.nS ⟨⟨a,b⟩,⟨c,d⟩⟩))).u.hi) ((Rg.nS (Rg.nU (Rg.nS ⟨⟨a,b⟩,⟨c,d⟩⟩))).s.lo) ((Rg.nS (Rg.nU (Rg.nS ⟨⟨a,b⟩,⟨c,d⟩⟩))).s.hi)),.bool true]=.tuple #[Rg.val (Rg.nar ⟨⟨a,b⟩,⟨c,d⟩⟩),.bool (Rg.narB ⟨⟨a,b⟩,⟨c,d⟩⟩)]:=by unfold Rg.nar;rw [HN];rfl
  exact ⟨retV HE,f17.b⟩
end Go.Proofs.Ytcnneeimkcnjfaa.Bnd
