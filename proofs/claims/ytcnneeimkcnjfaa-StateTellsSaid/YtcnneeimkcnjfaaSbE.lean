import Derived.Test.YtcnneeimkcnjfaaSbD
namespace Go.Proofs.Ytcnneeimkcnjfaa.Bnd
open Go.RowKit
set_option linter.unusedVariables false
set_option linter.unusedSimpArgs false
set_option linter.unnecessarySimpa false
set_option maxRecDepth 100000
set_option maxHeartbeats 4000000 in
theorem meet_n (a b c d p q r t:Int) (W:World) (ha:Rg.Ok ⟨⟨a,b⟩,⟨c,d⟩⟩) (hb:Rg.Ok ⟨⟨p,q⟩,⟨r,t⟩⟩):Calls Try.prog 108 #[.agg #[.int .u64 a,.int .u64 b,.int .i64 c,.int .i64 d],.agg #[.int .u64 p,.int .u64 q,.int .i64 r,.int .i64 t]] W fun e w'=>e=.returned (.tuple #[.agg #[.int .u64 (Rg.meetR ⟨⟨a,b⟩,⟨c,d⟩⟩ ⟨⟨p,q⟩,⟨r,t⟩⟩).u.lo,.int .u64 (Rg.meetR ⟨⟨a,b⟩,⟨c,d⟩⟩ ⟨⟨p,q⟩,⟨r,t⟩⟩).u.hi,.int .i64 (Rg.meetR ⟨⟨a,b⟩,⟨c,d⟩⟩ ⟨⟨p,q⟩,⟨r,t⟩⟩).s.lo,.int .i64 (Rg.meetR ⟨⟨a,b⟩,⟨c,d⟩⟩ ⟨⟨p,q⟩,⟨r,t⟩⟩).s.hi],.bool (Rg.meetB ⟨⟨a,b⟩,⟨c,d⟩⟩ ⟨⟨p,q⟩,⟨r,t⟩⟩)]) ∧ Below W.heap.size W w':=by
  have HK:Hid (Rg.Ok ⟨Pr.meet ⟨a,b⟩ ⟨p,q⟩,Pr.meet ⟨c,d⟩ ⟨r,t⟩⟩):=Lib.hid (meet_ok ha hb)
  clear ha hb
  refine calls_abs Try.func108 rfl (Nat.le_of_ble_eq_true rfl) ?_
  intro a0 d0 z0 h0
  replace z0:a0.tmps.size=29:=z0
  have s0_0:a0.tmps.getD 0 undef=.agg (cR a b c d):=h0 0 (Nat.le_of_ble_eq_true rfl)
  have s1_0:a0.tmps.getD 1 undef=.agg (cR p q r t):=h0 1 (Nat.le_of_ble_eq_true rfl)
  refine wp_seq ?_
  refine go_reg [] [⟨0,2,25,(cR a b c d),none,#[]⟩,⟨1,3,25,(cR p q r t),none,#[]⟩,⟨2,4,25,(cR 0 0 0 0),none,#[]⟩] [none,none,none,some (.bool false)] mo d0 z0 (Below.refl _ _) (by kernel_rfl) trivial (
   hc (fun _ ax _ cx=>cx.al (wn rfl) 0 rfl (by simp [execOp,Act.eval,(show ax.tmps.getD 0 undef=.agg (cR a b c d) from (cx.rq 0 s0_0)),go_sem]) rfl rfl rfl rfl rfl trivial) <|
   hc (fun _ ax _ cx=>cx.al (wn rfl) 1 rfl (by simp [execOp,Act.eval,(show ax.tmps.getD 1 undef=.agg (cR p q r t) from (cx.rq 1 s1_0)),go_sem]) rfl rfl rfl rfl rfl trivial) <|
   hk (fun cx=>cx.al (wn rfl) 2 rfl (by simp [execOp,Act.eval,go_sem]) rfl rfl rfl rfl rfl trivial) <|
   hk (fun cx=>cx.v (ex_as rfl rfl) rfl rfl) <|
   hn) ?_
  intro a1 w1 f1
  obtain ⟨g1,u_g1,q_g1,b_g1⟩:=f1.al.1
  obtain ⟨g2,u_g2,q_g2,b_g2⟩:=f1.al.2.1
  obtain ⟨g3,u_g3,q_g3,b_g3⟩:=f1.al.2.2.1
  refine wp_seq ?_
  refine wp_seq ?_
  cases fk1:Rg.mayB ⟨⟨a,b⟩,⟨c,d⟩⟩
  case false=>
   have Ffk1:=Lib.hid fk1;clear fk1
   refine go_reg [bx g1 25 (cR a b c d)] [] [some (.agg (cR a b c d)),some (.bool false),some (.bool true),some (.bool true),some (undef),some (undef),some (undef),some (.bool true)] mo f1.d f1.z f1.b (by kernel_rfl) ⟨b_g1,trivial⟩ (
    hk (fun cx=>cx.v (ldR rfl (cx.rq 2 u_g1) (cx.rn 0 rfl)) rfl rfl) <|
    hc (fun _ _ wx cx=>cx.c rfl (args1 (cx.u 0 rfl)) Try.func69 (by decide +kernel) (may_n a b c d wx) rfl (congrArg Value.bool Ffk1.out)) <|
    hk (fun cx=>cx.v (ex_not (x:=.tmp 7) rfl (cx.u 0 rfl)) rfl rfl) <|
    hk (fun cx=>cx.v (ex_mv rfl (cx.u 0 rfl)) rfl rfl) <|
    hk (fun cx=>cx.no (cx.wo rfl rfl rfl rfl (cx.u 0 rfl) rfl) rfl rfl rfl rfl) <|
    hk (fun cx=>cx.no (cx.wo rfl rfl rfl rfl (cx.u 1 rfl) rfl) rfl rfl rfl rfl) <|
    hk (fun cx=>cx.no (cx.wo rfl rfl rfl rfl (cx.u 1 rfl) rfl) rfl rfl rfl rfl) <|
    hk (fun cx=>cx.v (ex_pt rfl (cx.u 0 rfl) rfl) rfl rfl) <|
    hn) ?_
   intro a2 w2 f2
   refine wp_cond_true (f2.v 7 rfl rfl rfl) ?_
   refine wp_seq ?_
   have b_g3_1:=f2.k b_g3
   have s4_2:=f2.q 4 u_g3
   refine go_reg [⟨g3,25,(cR 0 0 0 0),some 1,(cR allR.u.lo allR.u.hi allR.s.lo allR.s.hi)⟩] [] [some (.agg (cR allR.u.lo allR.u.hi allR.s.lo allR.s.hi)),none,some (.bool false)] mo f2.d f2.z f2.b (by kernel_rfl) ⟨b_g3_1,trivial⟩ (
    hc (fun _ _ wx cx=>cx.c rfl (args0 ) Try.func58 (by decide +kernel) (all_n wx) rfl rfl) <|
    hk (fun cx=>cx.stR (wn rfl) rfl rfl 0 rfl (cx.rq 4 s4_2) (cx.u 0 rfl) (by kernel_rfl) rfl (by simp [Value.oneCell']) q_g3 rfl trivial trivial) <|
    hk (fun cx=>cx.v (ex_as rfl rfl) rfl rfl) <|
    hn) ?_
   intro a3 w3 f3
   refine wp_ret ?_
   have s4_3:=f3.q 4 s4_2
   try simp only [Exit.inBlock,Exit.then]
   refine bodyPost_ret (res_ct (fn:=Try.f108) rfl s4_3 (load_row 25 f3.rows.1 Try.underlying25 rfl (by kernel_rfl)) (f3.v 2 rfl rfl rfl)) f3.d ?_
   have HE:Value.tuple #[.agg (cR allR.u.lo allR.u.hi allR.s.lo allR.s.hi),.bool false]=.tuple #[Rg.val (Rg.meetR ⟨⟨a,b⟩,⟨c,d⟩⟩ ⟨⟨p,q⟩,⟨r,t⟩⟩),.bool (Rg.meetB ⟨⟨a,b⟩,⟨c,d⟩⟩ ⟨⟨p,q⟩,⟨r,t⟩⟩)]:=by unfold Rg.meetR Rg.meetB;rw [Ffk1.out];rfl
   exact ⟨retV HE,f3.b⟩
  have Ffk1:=Lib.hid fk1;clear fk1
  cases fk2:Rg.mayB ⟨⟨p,q⟩,⟨r,t⟩⟩
  case false=>
   have Ffk2:=Lib.hid fk2;clear fk2
   refine go_reg [bx g1 25 (cR a b c d),bx g2 25 (cR p q r t)] [] [some (.agg (cR a b c d)),some (.bool true),some (.bool false),some (.bool false),some (.agg (cR p q r t)),some (.bool false),some (.bool true),some (.bool true)] mo f1.d f1.z f1.b (by kernel_rfl) ⟨b_g1,b_g2,trivial⟩ (
    hk (fun cx=>cx.v (ldR rfl (cx.rq 2 u_g1) (cx.rn 0 rfl)) rfl rfl) <|
    hc (fun _ _ wx cx=>cx.c rfl (args1 (cx.u 0 rfl)) Try.func69 (by decide +kernel) (may_n a b c d wx) rfl (congrArg Value.bool Ffk1.out)) <|
    hk (fun cx=>cx.v (ex_not (x:=.tmp 7) rfl (cx.u 0 rfl)) rfl rfl) <|
    hk (fun cx=>cx.v (ex_mv rfl (cx.u 0 rfl)) rfl rfl) <|
    hk (fun cx=>cx.val (cx.wy rfl rfl rfl rfl (cx.u 0 rfl)) (ldR rfl (cx.rq 3 u_g2) (cx.rn 1 rfl)) rfl rfl rfl rfl) <|
    hc (fun _ _ wx cx=>cx.call (cx.wy rfl rfl rfl rfl (cx.u 1 rfl)) rfl rfl (args1 (cx.u 0 rfl)) Try.func69 (by decide +kernel) rfl (may_n p q r t wx) rfl rfl (congrArg Value.bool Ffk2.out) rfl) <|
    hk (fun cx=>cx.val (cx.wy rfl rfl rfl rfl (cx.u 1 rfl)) (ex_not (x:=.tmp 11) rfl (cx.u 0 rfl)) rfl rfl rfl rfl) <|
    hk (fun cx=>cx.v (ex_pf rfl (cx.u 0 rfl) (cx.u 1 rfl)) rfl rfl) <|
    hn) ?_
   intro a4 w4 f4
   refine wp_cond_true (f4.v 7 rfl rfl rfl) ?_
   refine wp_seq ?_
   have b_g3_4:=f4.k b_g3
   have s4_5:=f4.q 4 u_g3
   refine go_reg [⟨g3,25,(cR 0 0 0 0),some 1,(cR allR.u.lo allR.u.hi allR.s.lo allR.s.hi)⟩] [] [some (.agg (cR allR.u.lo allR.u.hi allR.s.lo allR.s.hi)),none,some (.bool false)] mo f4.d f4.z f4.b (by kernel_rfl) ⟨b_g3_4,trivial⟩ (
    hc (fun _ _ wx cx=>cx.c rfl (args0 ) Try.func58 (by decide +kernel) (all_n wx) rfl rfl) <|
    hk (fun cx=>cx.stR (wn rfl) rfl rfl 0 rfl (cx.rq 4 s4_5) (cx.u 0 rfl) (by kernel_rfl) rfl (by simp [Value.oneCell']) q_g3 rfl trivial trivial) <|
    hk (fun cx=>cx.v (ex_as rfl rfl) rfl rfl) <|
    hn) ?_
   intro a5 w5 f5
   refine wp_ret ?_
   have s4_6:=f5.q 4 s4_5
   try simp only [Exit.inBlock,Exit.then]
   refine bodyPost_ret (res_ct (fn:=Try.f108) rfl s4_6 (load_row 25 f5.rows.1 Try.underlying25 rfl (by kernel_rfl)) (f5.v 2 rfl rfl rfl)) f5.d ?_
   have HE:Value.tuple #[.agg (cR allR.u.lo allR.u.hi allR.s.lo allR.s.hi),.bool false]=.tuple #[Rg.val (Rg.meetR ⟨⟨a,b⟩,⟨c,d⟩⟩ ⟨⟨p,q⟩,⟨r,t⟩⟩),.bool (Rg.meetB ⟨⟨a,b⟩,⟨c,d⟩⟩ ⟨⟨p,q⟩,⟨r,t⟩⟩)]:=by unfold Rg.meetR Rg.meetB;rw [Ffk1.out,Ffk2.out];rfl
   exact ⟨retV HE,f5.b⟩
  have Ffk2:=Lib.hid fk2;clear fk2
  refine go_reg [bx g1 25 (cR a b c d),bx g2 25 (cR p q r t)] [] [some (.agg (cR a b c d)),some (.bool true),some (.bool false),some (.bool false),some (.agg (cR p q r t)),some (.bool true),some (.bool false),some (.bool false)] mo f1.d f1.z f1.b (by kernel_rfl) ⟨b_g1,b_g2,trivial⟩ (
   hk (fun cx=>cx.v (ldR rfl (cx.rq 2 u_g1) (cx.rn 0 rfl)) rfl rfl) <|
   hc (fun _ _ wx cx=>cx.c rfl (args1 (cx.u 0 rfl)) Try.func69 (by decide +kernel) (may_n a b c d wx) rfl (congrArg Value.bool Ffk1.out)) <|
   hk (fun cx=>cx.v (ex_not (x:=.tmp 7) rfl (cx.u 0 rfl)) rfl rfl) <|
   hk (fun cx=>cx.v (ex_mv rfl (cx.u 0 rfl)) rfl rfl) <|
   hk (fun cx=>cx.val (cx.wy rfl rfl rfl rfl (cx.u 0 rfl)) (ldR rfl (cx.rq 3 u_g2) (cx.rn 1 rfl)) rfl rfl rfl rfl) <|
   hc (fun _ _ wx cx=>cx.call (cx.wy rfl rfl rfl rfl (cx.u 1 rfl)) rfl rfl (args1 (cx.u 0 rfl)) Try.func69 (by decide +kernel) rfl (may_n p q r t wx) rfl rfl (congrArg Value.bool Ffk2.out) rfl) <|
   hk (fun cx=>cx.val (cx.wy rfl rfl rfl rfl (cx.u 1 rfl)) (ex_not (x:=.tmp 11) rfl (cx.u 0 rfl)) rfl rfl rfl rfl) <|
   hk (fun cx=>cx.v (ex_pf rfl (cx.u 0 rfl) (cx.u 1 rfl)) rfl rfl) <|
   hn) ?_
  intro a6 w6 f6
  refine wp_cond_false (f6.v 7 rfl rfl rfl) ?_
  refine wp_skip ?_
  refine wp_seq ?_
  have b_g1_7:=f6.k b_g1
  have b_g2_8:=f6.k b_g2
  have b_g3_9:=f6.k b_g3
  have s2_10:=f6.q 2 u_g1
  have s3_11:=f6.q 3 u_g2
  have s4_12:=f6.q 4 u_g3
  refine go_reg [bx g1 25 (cR a b c d),bx g2 25 (cR p q r t),⟨g3,25,(cR 0 0 0 0),some 14,(cR ((Rg.nar ⟨Pr.meet ⟨a,b⟩ ⟨p,q⟩,Pr.meet ⟨c,d⟩ ⟨r,t⟩⟩).u.lo) ((Rg.nar ⟨Pr.meet ⟨a,b⟩ ⟨p,q⟩,Pr.meet ⟨c,d⟩ ⟨r,t⟩⟩).u.hi) ((Rg.nar ⟨Pr.meet ⟨a,b⟩ ⟨p,q⟩,Pr.meet ⟨c,d⟩ ⟨r,t⟩⟩).s.lo) ((Rg.nar ⟨Pr.meet ⟨a,b⟩ ⟨p,q⟩,Pr.meet ⟨c,d⟩ ⟨r,t⟩⟩).s.hi))⟩] [] [some (.agg (cR a b c d)),some (.agg (cU a b)),some (.agg (cR p q r t)),some (.agg (cU p q)),some (.agg (cU ((Pr.meet ⟨a,b⟩ ⟨p,q⟩).lo) ((Pr.meet ⟨a,b⟩ ⟨p,q⟩).hi))),some (.agg (cR a b c d)),some (.agg (cS c d)),some (.agg (cR p q r t)),some (.agg (cS r t)),some (.agg (cS ((Pr.meet ⟨c,d⟩ ⟨r,t⟩).lo) ((Pr.meet ⟨c,d⟩ ⟨r,t⟩).hi))),some (.agg (cR ((Pr.meet ⟨a,b⟩ ⟨p,q⟩).lo) ((Pr.meet ⟨a,b⟩ ⟨p,q⟩).hi) ((Pr.meet ⟨c,d⟩ ⟨r,t⟩).lo) ((Pr.meet ⟨c,d⟩ ⟨r,t⟩).hi))),some (.tuple #[.agg (cR ((Rg.nar ⟨Pr.meet ⟨a,b⟩ ⟨p,q⟩,Pr.meet ⟨c,d⟩ ⟨r,t⟩⟩).u.lo) ((Rg.nar ⟨Pr.meet ⟨a,b⟩ ⟨p,q⟩,Pr.meet ⟨c,d⟩ ⟨r,t⟩⟩).u.hi) ((Rg.nar ⟨Pr.meet ⟨a,b⟩ ⟨p,q⟩,Pr.meet ⟨c,d⟩ ⟨r,t⟩⟩).s.lo) ((Rg.nar ⟨Pr.meet ⟨a,b⟩ ⟨p,q⟩,Pr.meet ⟨c,d⟩ ⟨r,t⟩⟩).s.hi)),.bool (Rg.narB ⟨Pr.meet ⟨a,b⟩ ⟨p,q⟩,Pr.meet ⟨c,d⟩ ⟨r,t⟩⟩)]),some (.agg (cR ((Rg.nar ⟨Pr.meet ⟨a,b⟩ ⟨p,q⟩,Pr.meet ⟨c,d⟩ ⟨r,t⟩⟩).u.lo) ((Rg.nar ⟨Pr.meet ⟨a,b⟩ ⟨p,q⟩,Pr.meet ⟨c,d⟩ ⟨r,t⟩⟩).u.hi) ((Rg.nar ⟨Pr.meet ⟨a,b⟩ ⟨p,q⟩,Pr.meet ⟨c,d⟩ ⟨r,t⟩⟩).s.lo) ((Rg.nar ⟨Pr.meet ⟨a,b⟩ ⟨p,q⟩,Pr.meet ⟨c,d⟩ ⟨r,t⟩⟩).s.hi))),some (.bool (Rg.narB ⟨Pr.meet ⟨a,b⟩ ⟨p,q⟩,Pr.meet ⟨c,d⟩ ⟨r,t⟩⟩)),none,some (.bool (Rg.narB ⟨Pr.meet ⟨a,b⟩ ⟨p,q⟩,Pr.meet ⟨c,d⟩ ⟨r,t⟩⟩))] mo f6.d f6.z f6.b (by kernel_rfl) ⟨b_g1_7,b_g2_8,b_g3_9,trivial⟩ (
   hk (fun cx=>cx.v (ldR rfl (cx.rq 2 s2_10) (cx.rn 0 rfl)) rfl rfl) <|
   hc (fun _ _ wx cx=>cx.c rfl (args1 (cx.u 0 rfl)) Try.func91 (by decide +kernel) (unsigned_n a b c d wx) rfl rfl) <|
   hk (fun cx=>cx.v (ldR rfl (cx.rq 3 s3_11) (cx.rn 1 rfl)) rfl rfl) <|
   hc (fun _ _ wx cx=>cx.c rfl (args1 (cx.u 0 rfl)) Try.func91 (by decide +kernel) (unsigned_n p q r t wx) rfl rfl) <|
   hc (fun _ _ wx cx=>cx.c rfl (args2 (cx.u 0 rfl) (cx.u 1 rfl)) Try.func121 (by decide +kernel) (meetU_n a b p q wx) rfl rfl) <|
   hk (fun cx=>cx.v (ldR rfl (cx.rq 2 s2_10) (cx.rn 0 rfl)) rfl rfl) <|
   hc (fun _ _ wx cx=>cx.c rfl (args1 (cx.u 0 rfl)) Try.func93 (by decide +kernel) (signed_n a b c d wx) rfl rfl) <|
   hk (fun cx=>cx.v (ldR rfl (cx.rq 3 s3_11) (cx.rn 1 rfl)) rfl rfl) <|
   hc (fun _ _ wx cx=>cx.c rfl (args1 (cx.u 0 rfl)) Try.func93 (by decide +kernel) (signed_n p q r t wx) rfl rfl) <|
   hc (fun _ _ wx cx=>cx.c rfl (args2 (cx.u 0 rfl) (cx.u 1 rfl)) Try.func122 (by decide +kernel) (meetS_n c d r t wx) rfl rfl) <|
   hc (fun _ _ wx cx=>cx.c rfl (args2 (cx.u 0 rfl) (cx.u 1 rfl)) Try.func86 (by decide +kernel) (both_n ((Pr.meet ⟨a,b⟩ ⟨p,q⟩).lo) ((Pr.meet ⟨a,b⟩ ⟨p,q⟩).hi) ((Pr.meet ⟨c,d⟩ ⟨r,t⟩).lo) ((Pr.meet ⟨c,d⟩ ⟨r,t⟩).hi) wx) rfl rfl) <|
   hc (fun _ _ wx cx=>cx.c rfl (args1 (cx.u 0 rfl)) Try.func120 (by decide +kernel) (narrow_n ((Pr.meet ⟨a,b⟩ ⟨p,q⟩).lo) ((Pr.meet ⟨a,b⟩ ⟨p,q⟩).hi) ((Pr.meet ⟨c,d⟩ ⟨r,t⟩).lo) ((Pr.meet ⟨c,d⟩ ⟨r,t⟩).hi) wx HK.out) rfl rfl) <|
   hk (fun cx=>cx.v (ex_ext (x:=.tmp 26) rfl (cx.u 0 rfl) rfl) rfl rfl) <|
   hk (fun cx=>cx.v (ex_ext (x:=.tmp 26) rfl (cx.u 0 rfl) rfl) rfl rfl) <|
   hk (fun cx=>cx.stR (wn rfl) rfl rfl 2 rfl (cx.rq 4 s4_12) (cx.u 0 rfl) (by kernel_rfl) rfl (by simp [Value.oneCell']) q_g3 rfl ⟨(ne_ptr (pairAt f1.ps 0 2 (by decide) rfl rfl) u_g1 u_g3),(ne_ptr (pairAt f1.ps 1 2 (by decide) rfl rfl) u_g2 u_g3),trivial⟩ trivial) <|
   hk (fun cx=>cx.v (ex_as rfl (cx.u 0 rfl)) rfl rfl) <|
   hn) ?_
  intro a7 w7 f7
  refine wp_ret ?_
  have s4_13:=f7.q 4 s4_12
  try simp only [Exit.inBlock,Exit.then]
  refine bodyPost_ret (res_ct (fn:=Try.f108) rfl s4_13 (load_row 25 f7.rows.2.2.1 Try.underlying25 rfl (by kernel_rfl)) (f7.v 15 rfl rfl rfl)) f7.d ?_
  have HE:Value.tuple #[.agg (cR ((Rg.nar ⟨Pr.meet ⟨a,b⟩ ⟨p,q⟩,Pr.meet ⟨c,d⟩ ⟨r,t⟩⟩).u.lo) ((Rg.nar ⟨Pr.meet ⟨a,b⟩ ⟨p,q⟩,Pr.meet ⟨c,d⟩ ⟨r,t⟩⟩).u.hi) ((Rg.nar ⟨Pr.meet ⟨a,b⟩ ⟨p,q⟩,Pr.meet ⟨c,d⟩ ⟨r,t⟩⟩).s.lo) ((Rg.nar ⟨Pr.meet ⟨a,b⟩ ⟨p,q⟩,Pr.meet ⟨c,d⟩ ⟨r,t⟩⟩).s.hi)),.bool (Rg.narB ⟨Pr.meet ⟨a,b⟩ ⟨p,q⟩,Pr.meet ⟨c,d⟩ ⟨r,t⟩⟩)]=.tuple #[Rg.val (Rg.meetR ⟨⟨a,b⟩,⟨c,d⟩⟩ ⟨⟨p,q⟩,⟨r,t⟩⟩),.bool (Rg.meetB ⟨⟨a,b⟩,⟨c,d⟩⟩ ⟨⟨p,q⟩,⟨r,t⟩⟩)]:=by unfold Rg.meetR Rg.meetB;rw [Ffk1.out,Ffk2.out];rfl
  exact ⟨retV HE,f7.b⟩
end Go.Proofs.Ytcnneeimkcnjfaa.Bnd
