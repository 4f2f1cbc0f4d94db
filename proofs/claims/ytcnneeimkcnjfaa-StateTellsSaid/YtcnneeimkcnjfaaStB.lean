import Derived.Test.YtcnneeimkcnjfaaStA
import Derived.Test.YtcnneeimkcnjfaaSbL
namespace Go.Proofs.Ytcnneeimkcnjfaa.Sta
open Go.RowKit Bnd Knw
set_option linter.unusedVariables false
set_option linter.unusedSimpArgs false
set_option linter.unnecessarySimpa false
set_option maxRecDepth 100000
theorem faStB27_0_0 (g:Nat) (w:World):(Instr.fieldAt 27 (.pointer (some ⟨g,0,none⟩)) 0).run Try.prog w=.ok (.pointer (some ⟨g,0,none⟩)) w:=by simp [go_sem]
theorem faStB27_1_0 (g:Nat) (w:World):(Instr.fieldAt 27 (.pointer (some ⟨g,0,none⟩)) 1).run Try.prog w=.ok (.pointer (some ⟨g,1,none⟩)) w:=by simp [go_sem]
theorem V_z (x:B):(V x == 0)=(x == 0#64):=V_beq x 0#64
theorem bne_no {x:B} {b:Bool} (h:(V x != 0)=b):(x == 0#64)=!b:=by
  rw [← V_z]
  cases e:V x == 0 <;> simp_all [bne]
set_option maxHeartbeats 4000000 in
theorem masked_n (v m:B) (W:World):Calls Try.prog 90 #[.int .u64 (V v),.int .u64 (V m)] W fun e w'=>e=.returned (.agg (knC (msk v m))) ∧ Below W.heap.size W w':=by
  refine calls_abs Try.func90 rfl (Nat.le_of_ble_eq_true rfl) ?_
  intro a0 d0 z0 h0
  replace z0:a0.tmps.size=10:=z0
  have s0_0:a0.tmps.getD 0 undef=.int .u64 (V v):=h0 0 (Nat.le_of_ble_eq_true rfl)
  have s1_0:a0.tmps.getD 1 undef=.int .u64 (V m):=h0 1 (Nat.le_of_ble_eq_true rfl)
  refine wp_seq ?_
  refine go_reg [] [⟨0,4,27,(knC zKn),none,#[]⟩] [none] mo d0 z0 (Below.refl _ _) (by kernel_rfl) trivial (
   hk (fun cx=>cx.al (wn rfl) 0 rfl (al_kn rfl) rfl rfl rfl rfl rfl trivial) <|
   hn) ?_
  intro a1 w1 f1
  obtain ⟨g1,u_g1,q_g1,b_g1⟩:=f1.al.1
  refine wp_seq ?_
  have s0_1:=f1.q 0 s0_0
  have s1_2:=f1.q 1 s1_0
  refine go_reg [⟨g1,27,(knC zKn),some 5,(knC ⟨v &&& ~~~m,m⟩)⟩] [] [some (.int .u64 (V v)),some (.int .u64 (V m)),some (.int .u64 (V (v &&& ~~~m))),some (.int .u64 (V m)),some (.agg (knC ⟨v &&& ~~~m,m⟩)),none] mo f1.d f1.z f1.b (by kernel_rfl) ⟨b_g1,trivial⟩ (
   hk (fun cx=>cx.q (ex_mv rfl (cx.rq 0 s0_1))) <|
   hk (fun cx=>cx.q (ex_mv rfl (cx.rq 1 s1_2))) <|
   hk (fun cx=>cx.v (ex_an (x:=.tmp 5) (y:=.tmp 6) rfl (cx.u 0 rfl) (cx.u 1 rfl)) rfl (congrArg (Value.int .u64) (V_an v m))) <|
   hk (fun cx=>cx.q (ex_mv rfl (cx.rq 1 s1_2))) <|
   hk (fun cx=>cx.q (exec_build rfl (parts2 (cx.u 0 rfl) (cx.u 1 rfl)) (by kernel_rfl))) <|
   hk (fun cx=>cx.stR (wn rfl) rfl rfl 0 rfl (cx.rq 4 u_g1) (cx.u 0 rfl) (by kernel_rfl) (Eq.refl 2) (knC_one _) q_g1 rfl trivial trivial) <|
   hn) ?_
  intro a2 w2 f2
  refine wp_ret ?_
  have s4_3:=f2.q 4 u_g1
  try simp only [Exit.inBlock,Exit.then]
  refine bodyPost_ret (res_c (fn:=Try.f90) rfl s4_3 (load_row 27 f2.rows.1 Try.underlying27 rfl (by kernel_rfl))) f2.d ?_
  have HE:(.agg (knC ⟨v &&& ~~~m,m⟩):Value)=.agg (knC (msk v m)):=rfl
  exact ⟨retV HE,f2.b⟩
set_option maxHeartbeats 4000000 in
theorem kmay_n (a:Kn) (W:World):Calls Try.prog 70 #[.agg (knC a)] W fun e w'=>e=.returned (.bool (Kn.mayB a)) ∧ Below W.heap.size W w':=by
  refine calls_abs Try.func70 rfl (Nat.le_of_ble_eq_true rfl) ?_
  intro a0 d0 z0 h0
  replace z0:a0.tmps.size=9:=z0
  have s0_0:a0.tmps.getD 0 undef=.agg (knC a):=h0 0 (Nat.le_of_ble_eq_true rfl)
  refine wp_seq ?_
  refine go_reg [] [⟨0,1,27,(knC a),none,#[]⟩] [none,oF] mo d0 z0 (Below.refl _ _) (by kernel_rfl) trivial (
   hk (fun cx=>cx.al (wn rfl) 0 rfl (ex_box rfl (cx.rq 0 s0_0) rfl) rfl rfl rfl rfl rfl trivial) <|
   hk (fun cx=>cx.q (ex_as rfl rfl)) <|
   hn) ?_
  intro a1 w1 f1
  obtain ⟨g1,u_g1,q_g1,b_g1⟩:=f1.al.1
  refine wp_seq ?_
  refine go_reg [bx g1 27 (knC a)] [] [some (pt g1 0),some (.int .u64 (V a.v)),some (pt g1 1),some (.int .u64 (V a.m)),some (.int .u64 (V (a.v &&& a.m))),some (.bool (Kn.mayB a)),some (.bool (Kn.mayB a))] mo f1.d f1.z f1.b (by kernel_rfl) ⟨b_g1,trivial⟩ (
   hk (fun cx=>cx.q (ex_fa rfl (cx.rq 1 u_g1) (faStB27_0_0 _ _))) <|
   hk (fun cx=>cx.q (ex_ld rfl (cx.u 0 rfl) (cx.rn 0 rfl) rfl Try.isAgg23)) <|
   hk (fun cx=>cx.q (ex_fa rfl (cx.rq 1 u_g1) (faStB27_1_0 _ _))) <|
   hk (fun cx=>cx.q (ex_ld rfl (cx.u 0 rfl) (cx.rn 0 rfl) rfl Try.isAgg23)) <|
   hk (fun cx=>cx.v (ex_and (x:=.tmp 4) (y:=.tmp 6) rfl (cx.u 0 rfl) (cx.u 1 rfl)) rfl (congrArg (Value.int .u64) (V_and a.v a.m))) <|
   hk (fun cx=>cx.v (ex_eq (x:=.tmp 7) rfl (cx.u 0 rfl) rfl) rfl (congrArg Value.bool (V_z (a.v &&& a.m)))) <|
   kmu 0 <|
   hn) ?_
  intro a2 w2 f2
  refine wp_ret ?_
  try simp only [Exit.inBlock,Exit.then]
  refine bodyPost_ret (res_t (fn:=Try.f70) rfl (f2.v 6 rfl rfl rfl)) f2.d ?_
  exact ⟨rfl,f2.b⟩
set_option maxHeartbeats 4000000 in
theorem kall_n  (W:World):Calls Try.prog 67 #[] W fun e w'=>e=.returned (.agg (knC allK)) ∧ Below W.heap.size W w':=by
  refine calls_abs Try.func67 rfl (Nat.le_of_ble_eq_true rfl) ?_
  intro a0 d0 z0 h0
  replace z0:a0.tmps.size=2:=z0
  refine wp_seq ?_
  refine go_reg [] [⟨0,0,27,(knC zKn),none,#[]⟩] [none] mo d0 z0 (Below.refl _ _) (by kernel_rfl) trivial (
   hk (fun cx=>cx.al (wn rfl) 0 rfl (al_kn rfl) rfl rfl rfl rfl rfl trivial) <|
   hn) ?_
  intro a1 w1 f1
  obtain ⟨g1,u_g1,q_g1,b_g1⟩:=f1.al.1
  refine wp_seq ?_
  refine go_reg [⟨g1,27,(knC zKn),some 1,(knC allK)⟩] [] [some (.agg (knC allK)),none] mo f1.d f1.z f1.b (by kernel_rfl) ⟨b_g1,trivial⟩ (
   hc (fun _ _ wx cx=>cx.c rfl (args2 rfl rfl) Try.func90 (by decide +kernel) (masked_n 0#64 18446744073709551615#64 wx) rfl (congrArg (fun x:Kn=>Value.agg (knC x)) msk_all)) <|
   hk (fun cx=>cx.stR (wn rfl) rfl rfl 0 rfl (cx.rq 0 u_g1) (cx.u 0 rfl) (by kernel_rfl) (Eq.refl 2) (knC_one _) q_g1 rfl trivial trivial) <|
   hn) ?_
  intro a2 w2 f2
  refine wp_ret ?_
  have s0_1:=f2.q 0 u_g1
  try simp only [Exit.inBlock,Exit.then]
  refine bodyPost_ret (res_c (fn:=Try.f67) rfl s0_1 (load_row 27 f2.rows.1 Try.underlying27 rfl (by kernel_rfl))) f2.d ?_
  exact ⟨rfl,f2.b⟩
set_option maxHeartbeats 4000000 in
theorem kone_n (v:B) (W:World):Calls Try.prog 64 #[.int .u64 (V v)] W fun e w'=>e=.returned (.agg (knC (oneK v))) ∧ Below W.heap.size W w':=by
  refine calls_abs Try.func64 rfl (Nat.le_of_ble_eq_true rfl) ?_
  intro a0 d0 z0 h0
  replace z0:a0.tmps.size=5:=z0
  have s0_0:a0.tmps.getD 0 undef=.int .u64 (V v):=h0 0 (Nat.le_of_ble_eq_true rfl)
  refine wp_seq ?_
  refine go_reg [] [⟨0,2,27,(knC zKn),none,#[]⟩] [none] mo d0 z0 (Below.refl _ _) (by kernel_rfl) trivial (
   hk (fun cx=>cx.al (wn rfl) 0 rfl (al_kn rfl) rfl rfl rfl rfl rfl trivial) <|
   hn) ?_
  intro a1 w1 f1
  obtain ⟨g1,u_g1,q_g1,b_g1⟩:=f1.al.1
  refine wp_seq ?_
  have s0_1:=f1.q 0 s0_0
  refine go_reg [⟨g1,27,(knC zKn),some 2,(knC (oneK v))⟩] [] [some (.int .u64 (V v)),some (.agg (knC (oneK v))),none] mo f1.d f1.z f1.b (by kernel_rfl) ⟨b_g1,trivial⟩ (
   hk (fun cx=>cx.q (ex_mv rfl (cx.rq 0 s0_1))) <|
   hc (fun _ _ wx cx=>cx.c rfl (args2 (cx.u 0 rfl) rfl) Try.func90 (by decide +kernel) (masked_n v 0#64 wx) rfl (congrArg (fun x:Kn=>Value.agg (knC x)) (msk_one v))) <|
   hk (fun cx=>cx.stR (wn rfl) rfl rfl 0 rfl (cx.rq 2 u_g1) (cx.u 0 rfl) (by kernel_rfl) (Eq.refl 2) (knC_one _) q_g1 rfl trivial trivial) <|
   hn) ?_
  intro a2 w2 f2
  refine wp_ret ?_
  have s2_2:=f2.q 2 u_g1
  try simp only [Exit.inBlock,Exit.then]
  refine bodyPost_ret (res_c (fn:=Try.f64) rfl s2_2 (load_row 27 f2.rows.1 Try.underlying27 rfl (by kernel_rfl))) f2.d ?_
  exact ⟨rfl,f2.b⟩
set_option maxHeartbeats 4000000 in
theorem kjoin_n (a b:Kn) (W:World):Calls Try.prog 79 #[.agg (knC a),.agg (knC b)] W fun e w'=>e=.returned (.agg (knC (Kn.joinK a b))) ∧ Below W.heap.size W w':=by
  refine calls_abs Try.func79 rfl (Nat.le_of_ble_eq_true rfl) ?_
  intro a0 d0 z0 h0
  replace z0:a0.tmps.size=28:=z0
  have s0_0:a0.tmps.getD 0 undef=.agg (knC a):=h0 0 (Nat.le_of_ble_eq_true rfl)
  have s1_0:a0.tmps.getD 1 undef=.agg (knC b):=h0 1 (Nat.le_of_ble_eq_true rfl)
  refine wp_seq ?_
  refine go_reg [] [⟨0,2,27,(knC a),none,#[]⟩,⟨1,3,27,(knC b),none,#[]⟩,⟨2,4,27,(knC zKn),none,#[]⟩] [none,none,none] mo d0 z0 (Below.refl _ _) (by kernel_rfl) trivial (
   hk (fun cx=>cx.al (wn rfl) 0 rfl (ex_box rfl (cx.rq 0 s0_0) rfl) rfl rfl rfl rfl rfl trivial) <|
   hk (fun cx=>cx.al (wn rfl) 1 rfl (ex_box rfl (cx.rq 1 s1_0) rfl) rfl rfl rfl rfl rfl trivial) <|
   hk (fun cx=>cx.al (wn rfl) 2 rfl (al_kn rfl) rfl rfl rfl rfl rfl trivial) <|
   hn) ?_
  intro a1 w1 f1
  obtain ⟨g1,u_g1,q_g1,b_g1⟩:=f1.al.1
  obtain ⟨g2,u_g2,q_g2,b_g2⟩:=f1.al.2.1
  obtain ⟨g3,u_g3,q_g3,b_g3⟩:=f1.al.2.2.1
  refine wp_seq ?_
  refine wp_seq ?_
  cases fk1:Kn.mayB a
  case false=>
   have Ffk1:=Lib.hid fk1;clear fk1
   refine go_reg [bx g1 27 (knC a)] [] [some (.agg (knC a)),oF,oT,oT,oU,oU,oU,oT] mo f1.d f1.z f1.b (by kernel_rfl) ⟨b_g1,trivial⟩ (
    hk (fun cx=>cx.q (ldKn rfl (cx.rq 2 u_g1) (cx.rn 0 rfl))) <|
    hc (fun _ _ wx cx=>cx.c rfl (args1 (cx.u 0 rfl)) Try.func70 (by decide +kernel) (kmay_n a wx) rfl (congrArg Value.bool Ffk1.out)) <|
    hk (fun cx=>cx.q (ex_not (x:=.tmp 6) rfl (cx.u 0 rfl))) <|
    kmu 0 <|
    kno 0 <|
    kno 1 <|
    kno 1 <|
    hk (fun cx=>cx.q (ex_pt rfl (cx.u 0 rfl) rfl)) <|
    hn) ?_
   intro a2 w2 f2
   refine wp_cond_true (f2.v 7 rfl rfl rfl) ?_
   refine wp_seq ?_
   have b_g3_1:=f2.k b_g3
   have s4_2:=f2.q 4 u_g3
   refine go_reg [⟨g3,27,(knC zKn),some 1,(knC allK)⟩] [] [some (.agg (knC allK)),none] mo f2.d f2.z f2.b (by kernel_rfl) ⟨b_g3_1,trivial⟩ (
    hc (fun _ _ wx cx=>cx.c rfl (args0 ) Try.func67 (by decide +kernel) (kall_n wx) rfl rfl) <|
    hk (fun cx=>cx.stR (wn rfl) rfl rfl 0 rfl (cx.rq 4 s4_2) (cx.u 0 rfl) (by kernel_rfl) (Eq.refl 2) (knC_one _) q_g3 rfl trivial trivial) <|
    hn) ?_
   intro a3 w3 f3
   refine wp_ret ?_
   have s4_3:=f3.q 4 s4_2
   try simp only [Exit.inBlock,Exit.then]
   refine bodyPost_ret (res_c (fn:=Try.f79) rfl s4_3 (load_row 27 f3.rows.1 Try.underlying27 rfl (by kernel_rfl))) f3.d ?_
   have HE:(.agg (knC allK):Value)=.agg (knC (Kn.joinK a b)):=by unfold Kn.joinK;simp only [Ffk1.out,Bool.true_and,Bool.and_true,Bool.false_and,Bool.and_false,Bool.or_false,Bool.false_or,Bool.true_or,Bool.or_true,Bool.not_true,Bool.not_false,if_true,if_false,Bool.false_eq_true,Bool.true_eq_false,reduceCtorEq];try rfl
   exact ⟨retV HE,f3.b⟩
  have Ffk1:=Lib.hid fk1;clear fk1
  cases fk2:Kn.mayB b
  case false=>
   have Ffk2:=Lib.hid fk2;clear fk2
   refine go_reg [bx g1 27 (knC a),bx g2 27 (knC b)] [] [some (.agg (knC a)),oT,oF,oF,some (.agg (knC b)),oF,oT,oT] mo f1.d f1.z f1.b (by kernel_rfl) ⟨b_g1,b_g2,trivial⟩ (
    hk (fun cx=>cx.q (ldKn rfl (cx.rq 2 u_g1) (cx.rn 0 rfl))) <|
    hc (fun _ _ wx cx=>cx.c rfl (args1 (cx.u 0 rfl)) Try.func70 (by decide +kernel) (kmay_n a wx) rfl (congrArg Value.bool Ffk1.out)) <|
    hk (fun cx=>cx.q (ex_not (x:=.tmp 6) rfl (cx.u 0 rfl))) <|
    kmu 0 <|
    hk (fun cx=>cx.vy 0 (ldKn rfl (cx.rq 3 u_g2) (cx.rn 1 rfl))) <|
    hc (fun _ _ wx cx=>cx.call (cx.wy rfl rfl rfl rfl (cx.u 1 rfl)) rfl rfl (args1 (cx.u 0 rfl)) Try.func70 (by decide +kernel) rfl (kmay_n b wx) rfl rfl (congrArg Value.bool Ffk2.out) rfl) <|
    hk (fun cx=>cx.vy 1 (ex_not (x:=.tmp 10) rfl (cx.u 0 rfl))) <|
    hk (fun cx=>cx.q (ex_pf rfl (cx.u 0 rfl) (cx.u 1 rfl))) <|
    hn) ?_
   intro a4 w4 f4
   refine wp_cond_true (f4.v 7 rfl rfl rfl) ?_
   refine wp_seq ?_
   have b_g3_4:=f4.k b_g3
   have s4_5:=f4.q 4 u_g3
   refine go_reg [⟨g3,27,(knC zKn),some 1,(knC allK)⟩] [] [some (.agg (knC allK)),none] mo f4.d f4.z f4.b (by kernel_rfl) ⟨b_g3_4,trivial⟩ (
    hc (fun _ _ wx cx=>cx.c rfl (args0 ) Try.func67 (by decide +kernel) (kall_n wx) rfl rfl) <|
    hk (fun cx=>cx.stR (wn rfl) rfl rfl 0 rfl (cx.rq 4 s4_5) (cx.u 0 rfl) (by kernel_rfl) (Eq.refl 2) (knC_one _) q_g3 rfl trivial trivial) <|
    hn) ?_
   intro a5 w5 f5
   refine wp_ret ?_
   have s4_6:=f5.q 4 s4_5
   try simp only [Exit.inBlock,Exit.then]
   refine bodyPost_ret (res_c (fn:=Try.f79) rfl s4_6 (load_row 27 f5.rows.1 Try.underlying27 rfl (by kernel_rfl))) f5.d ?_
   have HE:(.agg (knC allK):Value)=.agg (knC (Kn.joinK a b)):=by unfold Kn.joinK;simp only [Ffk1.out,Ffk2.out,Bool.true_and,Bool.and_true,Bool.false_and,Bool.and_false,Bool.or_false,Bool.false_or,Bool.true_or,Bool.or_true,Bool.not_true,Bool.not_false,if_true,if_false,Bool.false_eq_true,Bool.true_eq_false,reduceCtorEq];try rfl
   exact ⟨retV HE,f5.b⟩
  have Ffk2:=Lib.hid fk2;clear fk2
  refine go_reg [bx g1 27 (knC a),bx g2 27 (knC b)] [] [some (.agg (knC a)),oT,oF,oF,some (.agg (knC b)),oT,oF,oF] mo f1.d f1.z f1.b (by kernel_rfl) ⟨b_g1,b_g2,trivial⟩ (
   hk (fun cx=>cx.q (ldKn rfl (cx.rq 2 u_g1) (cx.rn 0 rfl))) <|
   hc (fun _ _ wx cx=>cx.c rfl (args1 (cx.u 0 rfl)) Try.func70 (by decide +kernel) (kmay_n a wx) rfl (congrArg Value.bool Ffk1.out)) <|
   hk (fun cx=>cx.q (ex_not (x:=.tmp 6) rfl (cx.u 0 rfl))) <|
   kmu 0 <|
   hk (fun cx=>cx.vy 0 (ldKn rfl (cx.rq 3 u_g2) (cx.rn 1 rfl))) <|
   hc (fun _ _ wx cx=>cx.call (cx.wy rfl rfl rfl rfl (cx.u 1 rfl)) rfl rfl (args1 (cx.u 0 rfl)) Try.func70 (by decide +kernel) rfl (kmay_n b wx) rfl rfl (congrArg Value.bool Ffk2.out) rfl) <|
   hk (fun cx=>cx.vy 1 (ex_not (x:=.tmp 10) rfl (cx.u 0 rfl))) <|
   hk (fun cx=>cx.q (ex_pf rfl (cx.u 0 rfl) (cx.u 1 rfl))) <|
   hn) ?_
  intro a6 w6 f6
  refine wp_cond_false (f6.v 7 rfl rfl rfl) ?_
  refine wp_skip ?_
  refine wp_seq ?_
  have b_g1_7:=f6.k b_g1
  have b_g2_8:=f6.k b_g2
  have b_g3_9:=f6.k b_g3
  have s2_10:=f6.q 2 u_g1
  have s3_11:=f6.q 3 u_g2
  have s4_12:=f6.q 4 u_g3
  refine go_reg [bx g1 27 (knC a),bx g2 27 (knC b),⟨g3,27,(knC zKn),some 14,(knC (msk a.v (a.m ||| b.m ||| (a.v ^^^ b.v))))⟩] [] [some (pt g1 0),some (.int .u64 (V a.v)),some (pt g1 1),some (.int .u64 (V a.m)),some (pt g2 1),some (.int .u64 (V b.m)),some (.int .u64 (V (a.m ||| b.m))),some (pt g1 0),some (.int .u64 (V a.v)),some (pt g2 0),some (.int .u64 (V b.v)),some (.int .u64 (V (a.v ^^^ b.v))),some (.int .u64 (V (a.m ||| b.m ||| (a.v ^^^ b.v)))),some (.agg (knC (msk a.v (a.m ||| b.m ||| (a.v ^^^ b.v))))),none] mo f6.d f6.z f6.b (by kernel_rfl) ⟨b_g1_7,b_g2_8,b_g3_9,trivial⟩ (
   hk (fun cx=>cx.q (ex_fa rfl (cx.rq 2 s2_10) (faStB27_0_0 _ _))) <|
   hk (fun cx=>cx.q (ex_ld rfl (cx.u 0 rfl) (cx.rn 0 rfl) rfl Try.isAgg23)) <|
   hk (fun cx=>cx.q (ex_fa rfl (cx.rq 2 s2_10) (faStB27_1_0 _ _))) <|
   hk (fun cx=>cx.q (ex_ld rfl (cx.u 0 rfl) (cx.rn 0 rfl) rfl Try.isAgg23)) <|
   hk (fun cx=>cx.q (ex_fa rfl (cx.rq 3 s3_11) (faStB27_1_0 _ _))) <|
   hk (fun cx=>cx.q (ex_ld rfl (cx.u 0 rfl) (cx.rn 1 rfl) rfl Try.isAgg23)) <|
   hk (fun cx=>cx.v (ex_or (x:=.tmp 17) (y:=.tmp 19) rfl (cx.u 0 rfl) (cx.u 1 rfl)) rfl (congrArg (Value.int .u64) (V_or _ _))) <|
   hk (fun cx=>cx.q (ex_fa rfl (cx.rq 2 s2_10) (faStB27_0_0 _ _))) <|
   hk (fun cx=>cx.q (ex_ld rfl (cx.u 0 rfl) (cx.rn 0 rfl) rfl Try.isAgg23)) <|
   hk (fun cx=>cx.q (ex_fa rfl (cx.rq 3 s3_11) (faStB27_0_0 _ _))) <|
   hk (fun cx=>cx.q (ex_ld rfl (cx.u 0 rfl) (cx.rn 1 rfl) rfl Try.isAgg23)) <|
   hk (fun cx=>cx.v (ex_xor (x:=.tmp 22) (y:=.tmp 24) rfl (cx.u 0 rfl) (cx.u 1 rfl)) rfl (congrArg (Value.int .u64) (V_xor _ _))) <|
   hk (fun cx=>cx.v (ex_or (x:=.tmp 20) (y:=.tmp 25) rfl (cx.u 0 rfl) (cx.u 1 rfl)) rfl (congrArg (Value.int .u64) (V_or _ _))) <|
   hc (fun _ _ wx cx=>cx.c rfl (args2 (cx.u 0 rfl) (cx.u 1 rfl)) Try.func90 (by decide +kernel) (masked_n a.v (a.m ||| b.m ||| (a.v ^^^ b.v)) wx) rfl rfl) <|
   hk (fun cx=>cx.stR (wn rfl) rfl rfl 2 rfl (cx.rq 4 s4_12) (cx.u 0 rfl) (by kernel_rfl) (Eq.refl 2) (knC_one _) q_g3 rfl ⟨(ne_ptr (pairAt f1.ps 0 2 (by decide) rfl rfl) u_g1 u_g3),(ne_ptr (pairAt f1.ps 1 2 (by decide) rfl rfl) u_g2 u_g3),trivial⟩ trivial) <|
   hn) ?_
  intro a7 w7 f7
  refine wp_ret ?_
  have s4_13:=f7.q 4 s4_12
  try simp only [Exit.inBlock,Exit.then]
  refine bodyPost_ret (res_c (fn:=Try.f79) rfl s4_13 (load_row 27 f7.rows.2.2.1 Try.underlying27 rfl (by kernel_rfl))) f7.d ?_
  have HE:(.agg (knC (msk a.v (a.m ||| b.m ||| (a.v ^^^ b.v)))):Value)=.agg (knC (Kn.joinK a b)):=by unfold Kn.joinK;simp only [Ffk1.out,Ffk2.out,Bool.true_and,Bool.and_true,Bool.false_and,Bool.and_false,Bool.or_false,Bool.false_or,Bool.true_or,Bool.or_true,Bool.not_true,Bool.not_false,if_true,if_false,Bool.false_eq_true,Bool.true_eq_false,reduceCtorEq];try rfl
  exact ⟨retV HE,f7.b⟩
set_option maxHeartbeats 4000000 in
theorem kin_n (a b:Kn) (W:World):Calls Try.prog 97 #[.agg (knC a),.agg (knC b)] W fun e w'=>e=.returned (.bool (Kn.inB a b)) ∧ Below W.heap.size W w':=by
  refine calls_abs Try.func97 rfl (Nat.le_of_ble_eq_true rfl) ?_
  intro a0 d0 z0 h0
  replace z0:a0.tmps.size=18:=z0
  have s0_0:a0.tmps.getD 0 undef=.agg (knC a):=h0 0 (Nat.le_of_ble_eq_true rfl)
  have s1_0:a0.tmps.getD 1 undef=.agg (knC b):=h0 1 (Nat.le_of_ble_eq_true rfl)
  refine wp_seq ?_
  refine go_reg [] [⟨0,2,27,(knC a),none,#[]⟩,⟨1,3,27,(knC b),none,#[]⟩] [none,none,oF] mo d0 z0 (Below.refl _ _) (by kernel_rfl) trivial (
   hk (fun cx=>cx.al (wn rfl) 0 rfl (ex_box rfl (cx.rq 0 s0_0) rfl) rfl rfl rfl rfl rfl trivial) <|
   hk (fun cx=>cx.al (wn rfl) 1 rfl (ex_box rfl (cx.rq 1 s1_0) rfl) rfl rfl rfl rfl rfl trivial) <|
   hk (fun cx=>cx.q (ex_as rfl rfl)) <|
   hn) ?_
  intro a1 w1 f1
  obtain ⟨g1,u_g1,q_g1,b_g1⟩:=f1.al.1
  obtain ⟨g2,u_g2,q_g2,b_g2⟩:=f1.al.2.1
  refine wp_seq ?_
  cases fk1:Kn.mayB a
  case false=>
   have Ffk1:=Lib.hid fk1;clear fk1
   refine go_reg [bx g1 27 (knC a)] [] [some (.agg (knC a)),oF,oF,oU,oU,oF,oF,oU,oU,oU,oU,oU,oF,oF] mo f1.d f1.z f1.b (by kernel_rfl) ⟨b_g1,trivial⟩ (
    hk (fun cx=>cx.q (ldKn rfl (cx.rq 2 u_g1) (cx.rn 0 rfl))) <|
    hc (fun _ _ wx cx=>cx.c rfl (args1 (cx.u 0 rfl)) Try.func70 (by decide +kernel) (kmay_n a wx) rfl (congrArg Value.bool Ffk1.out)) <|
    kmu 0 <|
    kno 0 <|
    kno 1 <|
    hk (fun cx=>cx.q (ex_pf rfl (cx.u 0 rfl) rfl)) <|
    kmu 0 <|
    kno 0 <|
    kno 0 <|
    kno 2 <|
    kno 0 <|
    kno 2 <|
    hk (fun cx=>cx.q (ex_pf rfl (cx.u 0 rfl) rfl)) <|
    kmu 0 <|
    hn) ?_
   intro a2 w2 f2
   refine wp_ret ?_
   try simp only [Exit.inBlock,Exit.then]
   refine bodyPost_ret (res_t (fn:=Try.f97) rfl (f2.v 13 rfl rfl rfl)) f2.d ?_
   have HE:(.bool false:Value)=.bool (Kn.inB a b):=by unfold Kn.inB;simp only [Ffk1.out,Bool.true_and,Bool.and_true,Bool.false_and,Bool.and_false,Bool.or_false,Bool.false_or,Bool.true_or,Bool.or_true,Bool.not_true,Bool.not_false,if_true,if_false,Bool.false_eq_true,Bool.true_eq_false,reduceCtorEq];try rfl
   exact ⟨retV HE,f2.b⟩
  have Ffk1:=Lib.hid fk1;clear fk1
  cases fk2:Kn.mayB b
  case false=>
   have Ffk2:=Lib.hid fk2;clear fk2
   refine go_reg [bx g1 27 (knC a),bx g2 27 (knC b)] [] [some (.agg (knC a)),oT,oT,some (.agg (knC b)),oF,oF,oF,oU,oU,oU,oU,oU,oF,oF] mo f1.d f1.z f1.b (by kernel_rfl) ⟨b_g1,b_g2,trivial⟩ (
    hk (fun cx=>cx.q (ldKn rfl (cx.rq 2 u_g1) (cx.rn 0 rfl))) <|
    hc (fun _ _ wx cx=>cx.c rfl (args1 (cx.u 0 rfl)) Try.func70 (by decide +kernel) (kmay_n a wx) rfl (congrArg Value.bool Ffk1.out)) <|
    kmu 0 <|
    hk (fun cx=>cx.vy 0 (ldKn rfl (cx.rq 3 u_g2) (cx.rn 1 rfl))) <|
    hc (fun _ _ wx cx=>cx.call (cx.wy rfl rfl rfl rfl (cx.u 1 rfl)) rfl rfl (args1 (cx.u 0 rfl)) Try.func70 (by decide +kernel) rfl (kmay_n b wx) rfl rfl (congrArg Value.bool Ffk2.out) rfl) <|
    hk (fun cx=>cx.q (ex_pt rfl (cx.u 0 rfl) (cx.u 1 rfl))) <|
    kmu 0 <|
    kno 0 <|
    kno 0 <|
    kno 2 <|
    kno 0 <|
    kno 2 <|
    hk (fun cx=>cx.q (ex_pf rfl (cx.u 0 rfl) rfl)) <|
    kmu 0 <|
    hn) ?_
   intro a3 w3 f3
   refine wp_ret ?_
   try simp only [Exit.inBlock,Exit.then]
   refine bodyPost_ret (res_t (fn:=Try.f97) rfl (f3.v 13 rfl rfl rfl)) f3.d ?_
   have HE:(.bool false:Value)=.bool (Kn.inB a b):=by unfold Kn.inB;simp only [Ffk1.out,Ffk2.out,Bool.true_and,Bool.and_true,Bool.false_and,Bool.and_false,Bool.or_false,Bool.false_or,Bool.true_or,Bool.or_true,Bool.not_true,Bool.not_false,if_true,if_false,Bool.false_eq_true,Bool.true_eq_false,reduceCtorEq];try rfl
   exact ⟨retV HE,f3.b⟩
  have Ffk2:=Lib.hid fk2;clear fk2
  refine go_reg [bx g1 27 (knC a),bx g2 27 (knC b)] [] [some (.agg (knC a)),oT,oT,some (.agg (knC b)),oT,oT,oT,some (.agg (knC a)),some (.agg (knC b)),some (.agg (knC (Kn.joinK a b))),some (.agg (knC b)),some (.bool (eqK (Kn.joinK a b) b)),some (.bool (eqK (Kn.joinK a b) b)),some (.bool (eqK (Kn.joinK a b) b))] mo f1.d f1.z f1.b (by kernel_rfl) ⟨b_g1,b_g2,trivial⟩ (
   hk (fun cx=>cx.q (ldKn rfl (cx.rq 2 u_g1) (cx.rn 0 rfl))) <|
   hc (fun _ _ wx cx=>cx.c rfl (args1 (cx.u 0 rfl)) Try.func70 (by decide +kernel) (kmay_n a wx) rfl (congrArg Value.bool Ffk1.out)) <|
   kmu 0 <|
   hk (fun cx=>cx.vy 0 (ldKn rfl (cx.rq 3 u_g2) (cx.rn 1 rfl))) <|
   hc (fun _ _ wx cx=>cx.call (cx.wy rfl rfl rfl rfl (cx.u 1 rfl)) rfl rfl (args1 (cx.u 0 rfl)) Try.func70 (by decide +kernel) rfl (kmay_n b wx) rfl rfl (congrArg Value.bool Ffk2.out) rfl) <|
   hk (fun cx=>cx.q (ex_pt rfl (cx.u 0 rfl) (cx.u 1 rfl))) <|
   kmu 0 <|
   hk (fun cx=>cx.vy 0 (ldKn rfl (cx.rq 2 u_g1) (cx.rn 0 rfl))) <|
   hk (fun cx=>cx.vy 0 (ldKn rfl (cx.rq 3 u_g2) (cx.rn 1 rfl))) <|
   hc (fun _ _ wx cx=>cx.call (cx.wy rfl rfl rfl rfl (cx.u 2 rfl)) rfl rfl (args2 (cx.u 0 rfl) (cx.u 1 rfl)) Try.func79 (by decide +kernel) rfl (kjoin_n a b wx) rfl rfl rfl rfl) <|
   hk (fun cx=>cx.vy 0 (ldKn rfl (cx.rq 3 u_g2) (cx.rn 1 rfl))) <|
   hk (fun cx=>cx.vy 2 (exec_eql (x:=.tmp 14) (y:=.tmp 15) rfl (cx.u 0 rfl) (cx.u 1 rfl) (by kernel_rfl) (eq_kn (Kn.joinK a b) b _))) <|
   hk (fun cx=>cx.q (ex_pt rfl (cx.u 0 rfl) (cx.u 1 rfl))) <|
   kmu 0 <|
   hn) ?_
  intro a4 w4 f4
  refine wp_ret ?_
  try simp only [Exit.inBlock,Exit.then]
  refine bodyPost_ret (res_t (fn:=Try.f97) rfl (f4.v 13 rfl rfl rfl)) f4.d ?_
  have HE:(.bool (eqK (Kn.joinK a b) b):Value)=.bool (Kn.inB a b):=by unfold Kn.inB;simp only [Ffk1.out,Ffk2.out,Bool.true_and,Bool.and_true,Bool.false_and,Bool.and_false,Bool.or_false,Bool.false_or,Bool.true_or,Bool.or_true,Bool.not_true,Bool.not_false,if_true,if_false,Bool.false_eq_true,Bool.true_eq_false,reduceCtorEq];try rfl
  exact ⟨retV HE,f4.b⟩
set_option maxHeartbeats 4000000 in
theorem khas_n (a:Kn) (v:B) (W:World):Calls Try.prog 74 #[.agg (knC a),.int .u64 (V v)] W fun e w'=>e=.returned (.bool (Kn.hasB a v)) ∧ Below W.heap.size W w':=by
  refine calls_abs Try.func74 rfl (Nat.le_of_ble_eq_true rfl) ?_
  intro a0 d0 z0 h0
  replace z0:a0.tmps.size=9:=z0
  have s0_0:a0.tmps.getD 0 undef=.agg (knC a):=h0 0 (Nat.le_of_ble_eq_true rfl)
  have s1_0:a0.tmps.getD 1 undef=.int .u64 (V v):=h0 1 (Nat.le_of_ble_eq_true rfl)
  refine wp_seq ?_
  refine go_reg [] [⟨0,2,27,(knC a),none,#[]⟩] [none,oF] mo d0 z0 (Below.refl _ _) (by kernel_rfl) trivial (
   hk (fun cx=>cx.al (wn rfl) 0 rfl (ex_box rfl (cx.rq 0 s0_0) rfl) rfl rfl rfl rfl rfl trivial) <|
   hk (fun cx=>cx.q (ex_as rfl rfl)) <|
   hn) ?_
  intro a1 w1 f1
  obtain ⟨g1,u_g1,q_g1,b_g1⟩:=f1.al.1
  refine wp_seq ?_
  have s1_1:=f1.q 1 s1_0
  refine go_reg [bx g1 27 (knC a)] [] [some (.int .u64 (V v)),some (.agg (knC (oneK v))),some (.agg (knC a)),some (.bool (Kn.inB (oneK v) a)),some (.bool (Kn.inB (oneK v) a))] mo f1.d f1.z f1.b (by kernel_rfl) ⟨b_g1,trivial⟩ (
   hk (fun cx=>cx.q (ex_mv rfl (cx.rq 1 s1_1))) <|
   hc (fun _ _ wx cx=>cx.c rfl (args1 (cx.u 0 rfl)) Try.func64 (by decide +kernel) (kone_n v wx) rfl rfl) <|
   hk (fun cx=>cx.q (ldKn rfl (cx.rq 2 u_g1) (cx.rn 0 rfl))) <|
   hc (fun _ _ wx cx=>cx.c rfl (args2 (cx.u 0 rfl) (cx.u 1 rfl)) Try.func97 (by decide +kernel) (kin_n (oneK v) a wx) rfl rfl) <|
   kmu 0 <|
   hn) ?_
  intro a2 w2 f2
  refine wp_ret ?_
  try simp only [Exit.inBlock,Exit.then]
  refine bodyPost_ret (res_t (fn:=Try.f74) rfl (f2.v 4 rfl rfl rfl)) f2.d ?_
  have HE:(.bool (Kn.inB (oneK v) a):Value)=.bool (Kn.hasB a v):=rfl
  exact ⟨retV HE,f2.b⟩
set_option maxHeartbeats 4000000 in
theorem kmeet_n (a b:Kn) (W:World):Calls Try.prog 109 #[.agg (knC a),.agg (knC b)] W fun e w'=>e=.returned (.tuple #[.agg (knC (Kn.meetK a b)),.bool (Kn.meetB a b)]) ∧ Below W.heap.size W w':=by
  refine calls_abs Try.func109 rfl (Nat.le_of_ble_eq_true rfl) ?_
  intro a0 d0 z0 h0
  replace z0:a0.tmps.size=40:=z0
  have s0_0:a0.tmps.getD 0 undef=.agg (knC a):=h0 0 (Nat.le_of_ble_eq_true rfl)
  have s1_0:a0.tmps.getD 1 undef=.agg (knC b):=h0 1 (Nat.le_of_ble_eq_true rfl)
  refine wp_seq ?_
  refine go_reg [] [⟨0,2,27,(knC a),none,#[]⟩,⟨1,3,27,(knC b),none,#[]⟩,⟨2,4,27,(knC zKn),none,#[]⟩] [none,none,none,oF] mo d0 z0 (Below.refl _ _) (by kernel_rfl) trivial (
   hk (fun cx=>cx.al (wn rfl) 0 rfl (ex_box rfl (cx.rq 0 s0_0) rfl) rfl rfl rfl rfl rfl trivial) <|
   hk (fun cx=>cx.al (wn rfl) 1 rfl (ex_box rfl (cx.rq 1 s1_0) rfl) rfl rfl rfl rfl rfl trivial) <|
   hk (fun cx=>cx.al (wn rfl) 2 rfl (al_kn rfl) rfl rfl rfl rfl rfl trivial) <|
   hk (fun cx=>cx.q (ex_as rfl rfl)) <|
   hn) ?_
  intro a1 w1 f1
  obtain ⟨g1,u_g1,q_g1,b_g1⟩:=f1.al.1
  obtain ⟨g2,u_g2,q_g2,b_g2⟩:=f1.al.2.1
  obtain ⟨g3,u_g3,q_g3,b_g3⟩:=f1.al.2.2.1
  refine wp_seq ?_
  refine wp_seq ?_
  cases fk1:Kn.mayB a
  case false=>
   have Ffk1:=Lib.hid fk1;clear fk1
   refine go_reg [bx g1 27 (knC a)] [] (tabs [some (.agg (knC a)),oF,oT,oT,oU,oU,oU,oT,oT,oU,oU,oU,oU,oU,oU,oU,oU,oU,oU,oU] [oU,oT]) mo f1.d f1.z f1.b (by kernel_rfl) ⟨b_g1,trivial⟩ (
    hk (fun cx=>cx.q (ldKn rfl (cx.rq 2 u_g1) (cx.rn 0 rfl))) <|
    hc (fun _ _ wx cx=>cx.c rfl (args1 (cx.u 0 rfl)) Try.func70 (by decide +kernel) (kmay_n a wx) rfl (congrArg Value.bool Ffk1.out)) <|
    hk (fun cx=>cx.q (ex_not (x:=.tmp 7) rfl (cx.u 0 rfl))) <|
    kmu 0 <|
    kno 0 <|
    kno 1 <|
    kno 1 <|
    hk (fun cx=>cx.q (ex_pt rfl (cx.u 0 rfl) rfl)) <|
    kmu 0 <|
    kno 0 <|
    kno 1 <|
    kno 0 <|
    kno 1 <|
    kno 2 <|
    kno 0 <|
    kno 1 <|
    kno 0 <|
    kno 1 <|
    kno 2 <|
    kno 2 <|
    kno 1 <|
    hk (fun cx=>cx.q (ex_pt rfl (cx.u 0 rfl) rfl)) <|
    hn) ?_
   intro a2 w2 f2
   refine wp_cond_true (f2.v 21 rfl rfl rfl) ?_
   refine wp_seq ?_
   have b_g3_1:=f2.k b_g3
   have s4_2:=f2.q 4 u_g3
   refine go_reg [⟨g3,27,(knC zKn),some 1,(knC allK)⟩] [] [some (.agg (knC allK)),none,oF] mo f2.d f2.z f2.b (by kernel_rfl) ⟨b_g3_1,trivial⟩ (
    hc (fun _ _ wx cx=>cx.c rfl (args0 ) Try.func67 (by decide +kernel) (kall_n wx) rfl rfl) <|
    hk (fun cx=>cx.stR (wn rfl) rfl rfl 0 rfl (cx.rq 4 s4_2) (cx.u 0 rfl) (by kernel_rfl) (Eq.refl 2) (knC_one _) q_g3 rfl trivial trivial) <|
    hk (fun cx=>cx.q (ex_as rfl rfl)) <|
    hn) ?_
   intro a3 w3 f3
   refine wp_ret ?_
   have s4_3:=f3.q 4 s4_2
   try simp only [Exit.inBlock,Exit.then]
   refine bodyPost_ret (res_ct (fn:=Try.f109) rfl s4_3 (load_row 27 f3.rows.1 Try.underlying27 rfl (by kernel_rfl)) (f3.v 2 rfl rfl rfl)) f3.d ?_
   have HE:(.tuple #[.agg (knC allK),.bool false]:Value)=.tuple #[.agg (knC (Kn.meetK a b)),.bool (Kn.meetB a b)]:=by unfold Kn.meetK Kn.meetB;simp only [Ffk1.out,Bool.true_and,Bool.and_true,Bool.false_and,Bool.and_false,Bool.or_false,Bool.false_or,Bool.true_or,Bool.or_true,Bool.not_true,Bool.not_false,if_true,if_false,Bool.false_eq_true,Bool.true_eq_false,reduceCtorEq];try rfl
   exact ⟨retV HE,f3.b⟩
  have Ffk1:=Lib.hid fk1;clear fk1
  cases fk2:Kn.mayB b
  case false=>
   have Ffk2:=Lib.hid fk2;clear fk2
   refine go_reg [bx g1 27 (knC a),bx g2 27 (knC b)] [] (tabs [some (.agg (knC a)),oT,oF,oF,some (.agg (knC b)),oF,oT,oT,oT,oU,oU,oU,oU,oU,oU,oU,oU,oU,oU,oU] [oU,oT]) mo f1.d f1.z f1.b (by kernel_rfl) ⟨b_g1,b_g2,trivial⟩ (
    hk (fun cx=>cx.q (ldKn rfl (cx.rq 2 u_g1) (cx.rn 0 rfl))) <|
    hc (fun _ _ wx cx=>cx.c rfl (args1 (cx.u 0 rfl)) Try.func70 (by decide +kernel) (kmay_n a wx) rfl (congrArg Value.bool Ffk1.out)) <|
    hk (fun cx=>cx.q (ex_not (x:=.tmp 7) rfl (cx.u 0 rfl))) <|
    kmu 0 <|
    hk (fun cx=>cx.vy 0 (ldKn rfl (cx.rq 3 u_g2) (cx.rn 1 rfl))) <|
    hc (fun _ _ wx cx=>cx.call (cx.wy rfl rfl rfl rfl (cx.u 1 rfl)) rfl rfl (args1 (cx.u 0 rfl)) Try.func70 (by decide +kernel) rfl (kmay_n b wx) rfl rfl (congrArg Value.bool Ffk2.out) rfl) <|
    hk (fun cx=>cx.vy 1 (ex_not (x:=.tmp 11) rfl (cx.u 0 rfl))) <|
    hk (fun cx=>cx.q (ex_pf rfl (cx.u 0 rfl) (cx.u 1 rfl))) <|
    kmu 0 <|
    kno 0 <|
    kno 1 <|
    kno 0 <|
    kno 1 <|
    kno 2 <|
    kno 0 <|
    kno 1 <|
    kno 0 <|
    kno 1 <|
    kno 2 <|
    kno 2 <|
    kno 1 <|
    hk (fun cx=>cx.q (ex_pt rfl (cx.u 0 rfl) rfl)) <|
    hn) ?_
   intro a4 w4 f4
   refine wp_cond_true (f4.v 21 rfl rfl rfl) ?_
   refine wp_seq ?_
   have b_g3_4:=f4.k b_g3
   have s4_5:=f4.q 4 u_g3
   refine go_reg [⟨g3,27,(knC zKn),some 1,(knC allK)⟩] [] [some (.agg (knC allK)),none,oF] mo f4.d f4.z f4.b (by kernel_rfl) ⟨b_g3_4,trivial⟩ (
    hc (fun _ _ wx cx=>cx.c rfl (args0 ) Try.func67 (by decide +kernel) (kall_n wx) rfl rfl) <|
    hk (fun cx=>cx.stR (wn rfl) rfl rfl 0 rfl (cx.rq 4 s4_5) (cx.u 0 rfl) (by kernel_rfl) (Eq.refl 2) (knC_one _) q_g3 rfl trivial trivial) <|
    hk (fun cx=>cx.q (ex_as rfl rfl)) <|
    hn) ?_
   intro a5 w5 f5
   refine wp_ret ?_
   have s4_6:=f5.q 4 s4_5
   try simp only [Exit.inBlock,Exit.then]
   refine bodyPost_ret (res_ct (fn:=Try.f109) rfl s4_6 (load_row 27 f5.rows.1 Try.underlying27 rfl (by kernel_rfl)) (f5.v 2 rfl rfl rfl)) f5.d ?_
   have HE:(.tuple #[.agg (knC allK),.bool false]:Value)=.tuple #[.agg (knC (Kn.meetK a b)),.bool (Kn.meetB a b)]:=by unfold Kn.meetK Kn.meetB;simp only [Ffk1.out,Ffk2.out,Bool.true_and,Bool.and_true,Bool.false_and,Bool.and_false,Bool.or_false,Bool.false_or,Bool.true_or,Bool.or_true,Bool.not_true,Bool.not_false,if_true,if_false,Bool.false_eq_true,Bool.true_eq_false,reduceCtorEq];try rfl
   exact ⟨retV HE,f5.b⟩
  have Ffk2:=Lib.hid fk2;clear fk2
  cases fk3:(V ((a.v ^^^ b.v) &&& ~~~(a.m ||| b.m))) != 0
  case false=>
   have Ffk3:=Lib.hid fk3;clear fk3
   refine go_reg [bx g1 27 (knC a),bx g2 27 (knC b)] [] (tabs [some (.agg (knC a)),oT,oF,oF,some (.agg (knC b)),oT,oF,oF,oF,some (pt g1 0),some (.int .u64 (V a.v)),some (pt g2 0),some (.int .u64 (V b.v)),some (.int .u64 (V (a.v ^^^ b.v))),some (pt g1 1),some (.int .u64 (V a.m)),some (pt g2 1),some (.int .u64 (V b.m)),some (.int .u64 (V (a.m ||| b.m))),some (.int .u64 (V ((a.v ^^^ b.v) &&& ~~~(a.m ||| b.m))))] [oF,oF]) mo f1.d f1.z f1.b (by kernel_rfl) ⟨b_g1,b_g2,trivial⟩ (
    hk (fun cx=>cx.q (ldKn rfl (cx.rq 2 u_g1) (cx.rn 0 rfl))) <|
    hc (fun _ _ wx cx=>cx.c rfl (args1 (cx.u 0 rfl)) Try.func70 (by decide +kernel) (kmay_n a wx) rfl (congrArg Value.bool Ffk1.out)) <|
    hk (fun cx=>cx.q (ex_not (x:=.tmp 7) rfl (cx.u 0 rfl))) <|
    kmu 0 <|
    hk (fun cx=>cx.vy 0 (ldKn rfl (cx.rq 3 u_g2) (cx.rn 1 rfl))) <|
    hc (fun _ _ wx cx=>cx.call (cx.wy rfl rfl rfl rfl (cx.u 1 rfl)) rfl rfl (args1 (cx.u 0 rfl)) Try.func70 (by decide +kernel) rfl (kmay_n b wx) rfl rfl (congrArg Value.bool Ffk2.out) rfl) <|
    hk (fun cx=>cx.vy 1 (ex_not (x:=.tmp 11) rfl (cx.u 0 rfl))) <|
    hk (fun cx=>cx.q (ex_pf rfl (cx.u 0 rfl) (cx.u 1 rfl))) <|
    kmu 0 <|
    hk (fun cx=>cx.vy 0 (ex_fa rfl (cx.rq 2 u_g1) (faStB27_0_0 _ _))) <|
    hk (fun cx=>cx.vy 1 (ex_ld rfl (cx.u 0 rfl) (cx.rn 0 rfl) rfl Try.isAgg23)) <|
    hk (fun cx=>cx.vy 0 (ex_fa rfl (cx.rq 3 u_g2) (faStB27_0_0 _ _))) <|
    hk (fun cx=>cx.vy 1 (ex_ld rfl (cx.u 0 rfl) (cx.rn 1 rfl) rfl Try.isAgg23)) <|
    hk (fun cx=>cx.vy 2 (ex_xor (x:=.tmp 16) (y:=.tmp 18) rfl (cx.u 0 rfl) (cx.u 1 rfl)) (congrArg (Value.int .u64) (V_xor _ _))) <|
    hk (fun cx=>cx.vy 0 (ex_fa rfl (cx.rq 2 u_g1) (faStB27_1_0 _ _))) <|
    hk (fun cx=>cx.vy 1 (ex_ld rfl (cx.u 0 rfl) (cx.rn 0 rfl) rfl Try.isAgg23)) <|
    hk (fun cx=>cx.vy 0 (ex_fa rfl (cx.rq 3 u_g2) (faStB27_1_0 _ _))) <|
    hk (fun cx=>cx.vy 1 (ex_ld rfl (cx.u 0 rfl) (cx.rn 1 rfl) rfl Try.isAgg23)) <|
    hk (fun cx=>cx.vy 2 (ex_or (x:=.tmp 21) (y:=.tmp 23) rfl (cx.u 0 rfl) (cx.u 1 rfl)) (congrArg (Value.int .u64) (V_or _ _))) <|
    hk (fun cx=>cx.vy 2 (ex_an (x:=.tmp 19) (y:=.tmp 24) rfl (cx.u 0 rfl) (cx.u 1 rfl)) (congrArg (Value.int .u64) (V_an _ _))) <|
    hk (fun cx=>cx.vy 1 (ex_ne (x:=.tmp 25) rfl (cx.u 0 rfl) rfl) (congrArg Value.bool Ffk3.out)) <|
    hk (fun cx=>cx.q (ex_pf rfl (cx.u 0 rfl) (cx.u 1 rfl))) <|
    hn) ?_
   intro a6 w6 f6
   refine wp_cond_false (f6.v 21 rfl rfl rfl) ?_
   refine wp_skip ?_
   refine wp_seq ?_
   have b_g1_7:=f6.k b_g1
   have b_g2_8:=f6.k b_g2
   have b_g3_9:=f6.k b_g3
   have s2_10:=f6.q 2 u_g1
   have s3_11:=f6.q 3 u_g2
   have s4_12:=f6.q 4 u_g3
   refine go_reg [bx g1 27 (knC a),bx g2 27 (knC b),⟨g3,27,(knC zKn),some 11,(knC (msk (a.v ||| b.v) (a.m &&& b.m)))⟩] [] [some (pt g1 0),some (.int .u64 (V a.v)),some (pt g2 0),some (.int .u64 (V b.v)),some (.int .u64 (V (a.v ||| b.v))),some (pt g1 1),some (.int .u64 (V a.m)),some (pt g2 1),some (.int .u64 (V b.m)),some (.int .u64 (V (a.m &&& b.m))),some (.agg (knC (msk (a.v ||| b.v) (a.m &&& b.m)))),none,oT] mo f6.d f6.z f6.b (by kernel_rfl) ⟨b_g1_7,b_g2_8,b_g3_9,trivial⟩ (
    hk (fun cx=>cx.q (ex_fa rfl (cx.rq 2 s2_10) (faStB27_0_0 _ _))) <|
    hk (fun cx=>cx.q (ex_ld rfl (cx.u 0 rfl) (cx.rn 0 rfl) rfl Try.isAgg23)) <|
    hk (fun cx=>cx.q (ex_fa rfl (cx.rq 3 s3_11) (faStB27_0_0 _ _))) <|
    hk (fun cx=>cx.q (ex_ld rfl (cx.u 0 rfl) (cx.rn 1 rfl) rfl Try.isAgg23)) <|
    hk (fun cx=>cx.v (ex_or (x:=.tmp 30) (y:=.tmp 32) rfl (cx.u 0 rfl) (cx.u 1 rfl)) rfl (congrArg (Value.int .u64) (V_or _ _))) <|
    hk (fun cx=>cx.q (ex_fa rfl (cx.rq 2 s2_10) (faStB27_1_0 _ _))) <|
    hk (fun cx=>cx.q (ex_ld rfl (cx.u 0 rfl) (cx.rn 0 rfl) rfl Try.isAgg23)) <|
    hk (fun cx=>cx.q (ex_fa rfl (cx.rq 3 s3_11) (faStB27_1_0 _ _))) <|
    hk (fun cx=>cx.q (ex_ld rfl (cx.u 0 rfl) (cx.rn 1 rfl) rfl Try.isAgg23)) <|
    hk (fun cx=>cx.v (ex_and (x:=.tmp 35) (y:=.tmp 37) rfl (cx.u 0 rfl) (cx.u 1 rfl)) rfl (congrArg (Value.int .u64) (V_and _ _))) <|
    hc (fun _ _ wx cx=>cx.c rfl (args2 (cx.u 0 rfl) (cx.u 1 rfl)) Try.func90 (by decide +kernel) (masked_n (a.v ||| b.v) (a.m &&& b.m) wx) rfl rfl) <|
    hk (fun cx=>cx.stR (wn rfl) rfl rfl 2 rfl (cx.rq 4 s4_12) (cx.u 0 rfl) (by kernel_rfl) (Eq.refl 2) (knC_one _) q_g3 rfl ⟨(ne_ptr (pairAt f1.ps 0 2 (by decide) rfl rfl) u_g1 u_g3),(ne_ptr (pairAt f1.ps 1 2 (by decide) rfl rfl) u_g2 u_g3),trivial⟩ trivial) <|
    hk (fun cx=>cx.q (ex_as rfl rfl)) <|
    hn) ?_
   intro a7 w7 f7
   refine wp_ret ?_
   have s4_13:=f7.q 4 s4_12
   try simp only [Exit.inBlock,Exit.then]
   refine bodyPost_ret (res_ct (fn:=Try.f109) rfl s4_13 (load_row 27 f7.rows.2.2.1 Try.underlying27 rfl (by kernel_rfl)) (f7.v 12 rfl rfl rfl)) f7.d ?_
   have HE:(.tuple #[.agg (knC (msk (a.v ||| b.v) (a.m &&& b.m))),.bool true]:Value)=.tuple #[.agg (knC (Kn.meetK a b)),.bool (Kn.meetB a b)]:=by unfold Kn.meetK Kn.meetB;simp only [Ffk1.out,Ffk2.out,bne_no Ffk3.out,Bool.true_and,Bool.and_true,Bool.false_and,Bool.and_false,Bool.or_false,Bool.false_or,Bool.true_or,Bool.or_true,Bool.not_true,Bool.not_false,if_true,if_false,Bool.false_eq_true,Bool.true_eq_false,reduceCtorEq];try rfl
   exact ⟨retV HE,f7.b⟩
  have Ffk3:=Lib.hid fk3;clear fk3
  refine go_reg [bx g1 27 (knC a),bx g2 27 (knC b)] [] (tabs [some (.agg (knC a)),oT,oF,oF,some (.agg (knC b)),oT,oF,oF,oF,some (pt g1 0),some (.int .u64 (V a.v)),some (pt g2 0),some (.int .u64 (V b.v)),some (.int .u64 (V (a.v ^^^ b.v))),some (pt g1 1),some (.int .u64 (V a.m)),some (pt g2 1),some (.int .u64 (V b.m)),some (.int .u64 (V (a.m ||| b.m))),some (.int .u64 (V ((a.v ^^^ b.v) &&& ~~~(a.m ||| b.m))))] [oT,oT]) mo f1.d f1.z f1.b (by kernel_rfl) ⟨b_g1,b_g2,trivial⟩ (
   hk (fun cx=>cx.q (ldKn rfl (cx.rq 2 u_g1) (cx.rn 0 rfl))) <|
   hc (fun _ _ wx cx=>cx.c rfl (args1 (cx.u 0 rfl)) Try.func70 (by decide +kernel) (kmay_n a wx) rfl (congrArg Value.bool Ffk1.out)) <|
   hk (fun cx=>cx.q (ex_not (x:=.tmp 7) rfl (cx.u 0 rfl))) <|
   kmu 0 <|
   hk (fun cx=>cx.vy 0 (ldKn rfl (cx.rq 3 u_g2) (cx.rn 1 rfl))) <|
   hc (fun _ _ wx cx=>cx.call (cx.wy rfl rfl rfl rfl (cx.u 1 rfl)) rfl rfl (args1 (cx.u 0 rfl)) Try.func70 (by decide +kernel) rfl (kmay_n b wx) rfl rfl (congrArg Value.bool Ffk2.out) rfl) <|
   hk (fun cx=>cx.vy 1 (ex_not (x:=.tmp 11) rfl (cx.u 0 rfl))) <|
   hk (fun cx=>cx.q (ex_pf rfl (cx.u 0 rfl) (cx.u 1 rfl))) <|
   kmu 0 <|
   hk (fun cx=>cx.vy 0 (ex_fa rfl (cx.rq 2 u_g1) (faStB27_0_0 _ _))) <|
   hk (fun cx=>cx.vy 1 (ex_ld rfl (cx.u 0 rfl) (cx.rn 0 rfl) rfl Try.isAgg23)) <|
   hk (fun cx=>cx.vy 0 (ex_fa rfl (cx.rq 3 u_g2) (faStB27_0_0 _ _))) <|
   hk (fun cx=>cx.vy 1 (ex_ld rfl (cx.u 0 rfl) (cx.rn 1 rfl) rfl Try.isAgg23)) <|
   hk (fun cx=>cx.vy 2 (ex_xor (x:=.tmp 16) (y:=.tmp 18) rfl (cx.u 0 rfl) (cx.u 1 rfl)) (congrArg (Value.int .u64) (V_xor _ _))) <|
   hk (fun cx=>cx.vy 0 (ex_fa rfl (cx.rq 2 u_g1) (faStB27_1_0 _ _))) <|
   hk (fun cx=>cx.vy 1 (ex_ld rfl (cx.u 0 rfl) (cx.rn 0 rfl) rfl Try.isAgg23)) <|
   hk (fun cx=>cx.vy 0 (ex_fa rfl (cx.rq 3 u_g2) (faStB27_1_0 _ _))) <|
   hk (fun cx=>cx.vy 1 (ex_ld rfl (cx.u 0 rfl) (cx.rn 1 rfl) rfl Try.isAgg23)) <|
   hk (fun cx=>cx.vy 2 (ex_or (x:=.tmp 21) (y:=.tmp 23) rfl (cx.u 0 rfl) (cx.u 1 rfl)) (congrArg (Value.int .u64) (V_or _ _))) <|
   hk (fun cx=>cx.vy 2 (ex_an (x:=.tmp 19) (y:=.tmp 24) rfl (cx.u 0 rfl) (cx.u 1 rfl)) (congrArg (Value.int .u64) (V_an _ _))) <|
   hk (fun cx=>cx.vy 1 (ex_ne (x:=.tmp 25) rfl (cx.u 0 rfl) rfl) (congrArg Value.bool Ffk3.out)) <|
   hk (fun cx=>cx.q (ex_pf rfl (cx.u 0 rfl) (cx.u 1 rfl))) <|
   hn) ?_
  intro a8 w8 f8
  refine wp_cond_true (f8.v 21 rfl rfl rfl) ?_
  refine wp_seq ?_
  have b_g3_14:=f8.k b_g3
  have s4_15:=f8.q 4 u_g3
  refine go_reg [⟨g3,27,(knC zKn),some 1,(knC allK)⟩] [] [some (.agg (knC allK)),none,oF] mo f8.d f8.z f8.b (by kernel_rfl) ⟨b_g3_14,trivial⟩ (
   hc (fun _ _ wx cx=>cx.c rfl (args0 ) Try.func67 (by decide +kernel) (kall_n wx) rfl rfl) <|
   hk (fun cx=>cx.stR (wn rfl) rfl rfl 0 rfl (cx.rq 4 s4_15) (cx.u 0 rfl) (by kernel_rfl) (Eq.refl 2) (knC_one _) q_g3 rfl trivial trivial) <|
   hk (fun cx=>cx.q (ex_as rfl rfl)) <|
   hn) ?_
  intro a9 w9 f9
  refine wp_ret ?_
  have s4_16:=f9.q 4 s4_15
  try simp only [Exit.inBlock,Exit.then]
  refine bodyPost_ret (res_ct (fn:=Try.f109) rfl s4_16 (load_row 27 f9.rows.1 Try.underlying27 rfl (by kernel_rfl)) (f9.v 2 rfl rfl rfl)) f9.d ?_
  have HE:(.tuple #[.agg (knC allK),.bool false]:Value)=.tuple #[.agg (knC (Kn.meetK a b)),.bool (Kn.meetB a b)]:=by unfold Kn.meetK Kn.meetB;simp only [Ffk1.out,Ffk2.out,bne_no Ffk3.out,Bool.true_and,Bool.and_true,Bool.false_and,Bool.and_false,Bool.or_false,Bool.false_or,Bool.true_or,Bool.or_true,Bool.not_true,Bool.not_false,if_true,if_false,Bool.false_eq_true,Bool.true_eq_false,reduceCtorEq];try rfl
  exact ⟨retV HE,f9.b⟩
end Go.Proofs.Ytcnneeimkcnjfaa.Sta
