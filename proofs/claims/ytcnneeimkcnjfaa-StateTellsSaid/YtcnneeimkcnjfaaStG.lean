import Derived.Test.YtcnneeimkcnjfaaStB
import Derived.Test.YtcnneeimkcnjfaaStN
namespace Go.Proofs.Ytcnneeimkcnjfaa.Sta
open Go.RowKit Bnd Knw
set_option linter.unusedVariables false
set_option linter.unusedSimpArgs false
set_option linter.unnecessarySimpa false
set_option maxRecDepth 100000
theorem faStG27_0_0 (g:Nat) (w:World):(Instr.fieldAt 27 (.pointer (some ⟨g,0,none⟩)) 0).run Try.prog w=.ok (.pointer (some ⟨g,0,none⟩)) w:=by simp [go_sem]
theorem faStG27_1_0 (g:Nat) (w:World):(Instr.fieldAt 27 (.pointer (some ⟨g,0,none⟩)) 1).run Try.prog w=.ok (.pointer (some ⟨g,1,none⟩)) w:=by simp [go_sem]
set_option maxHeartbeats 4000000 in
theorem lmay_n (a:Kn) (W:World):Calls Try.prog 72 #[.agg (knC a)] W fun e w'=>e=.returned (.bool (Kn.mayB a)) ∧ Below W.heap.size W w':=by
  refine calls_abs Try.func72 rfl (Nat.le_of_ble_eq_true rfl) ?_
  intro a0 d0 z0 h0
  replace z0:a0.tmps.size=9:=z0
  have s0_0:a0.tmps.getD 0 undef=.agg (knC a):=h0 0 (Nat.le_of_ble_eq_true rfl)
  refine wp_seq ?_
  refine go_reg [] [⟨0,1,27,(knC a),none,#[]⟩] [none,oF] mo d0 z0 (Below.refl _ _) (by kernel_rfl) trivial (
   hk (fun cx=>cx.al (wn rfl) 0 rfl (ex_box rfl (cx.rq 0 s0_0) rfl) rfl rfl rfl rfl rfl trivial) <|
   hk (fun cx=>cx.q (ex_as rfl rfl)) <|
   hn) ?_
  intro a1 w1 f1
  obtain ⟨g1,u_g1,q_g1,b_g1⟩:=f1.al.1
  refine wp_seq ?_
  refine go_reg [bx g1 27 (knC a)] [] [some (pt g1 0),some (.int .u64 (V a.v)),some (pt g1 1),some (.int .u64 (V a.m)),some (.int .u64 (V (a.v &&& a.m))),some (.bool (Kn.mayB a)),some (.bool (Kn.mayB a))] mo f1.d f1.z f1.b (by kernel_rfl) ⟨b_g1,trivial⟩ (
   hk (fun cx=>cx.q (ex_fa rfl (cx.rq 1 u_g1) (faStG27_0_0 _ _))) <|
   hk (fun cx=>cx.q (ex_ld rfl (cx.u 0 rfl) (cx.rn 0 rfl) rfl Try.isAgg23)) <|
   hk (fun cx=>cx.q (ex_fa rfl (cx.rq 1 u_g1) (faStG27_1_0 _ _))) <|
   hk (fun cx=>cx.q (ex_ld rfl (cx.u 0 rfl) (cx.rn 0 rfl) rfl Try.isAgg23)) <|
   hk (fun cx=>cx.v (ex_and (x:=.tmp 4) (y:=.tmp 6) rfl (cx.u 0 rfl) (cx.u 1 rfl)) rfl (congrArg (Value.int .u64) (V_and a.v a.m))) <|
   hk (fun cx=>cx.v (ex_eq (x:=.tmp 7) rfl (cx.u 0 rfl) rfl) rfl (congrArg Value.bool (V_z (a.v &&& a.m)))) <|
   kmu 0 <|
   hn) ?_
  intro a2 w2 f2
  refine wp_ret ?_
  try simp only [Exit.inBlock,Exit.then]
  refine bodyPost_ret (res_t (fn:=Try.f72) rfl (f2.v 6 rfl rfl rfl)) f2.d ?_
  exact ⟨rfl,f2.b⟩
set_option maxHeartbeats 4000000 in
theorem lall_n  (W:World):Calls Try.prog 60 #[] W fun e w'=>e=.returned (.agg (knC allK)) ∧ Below W.heap.size W w':=by
  refine calls_abs Try.func60 rfl (Nat.le_of_ble_eq_true rfl) ?_
  intro a0 d0 z0 h0
  replace z0:a0.tmps.size=2:=z0
  refine wp_seq ?_
  refine go_reg [] [⟨0,0,27,(knC zKn),none,#[]⟩] [none] mo d0 z0 (Below.refl _ _) (by kernel_rfl) trivial (
   hk (fun cx=>cx.al (wn rfl) 0 rfl (al_kn rfl) rfl rfl rfl rfl rfl trivial) <|
   hn) ?_
  intro a1 w1 f1
  obtain ⟨g1,u_g1,q_g1,b_g1⟩:=f1.al.1
  refine wp_seq ?_
  refine go_reg [⟨g1,27,(knC zKn),some 1,(knC ⟨zKn.v,18446744073709551615#64⟩)⟩] [] [some (.agg (knC ⟨zKn.v,18446744073709551615#64⟩)),none] mo f1.d f1.z f1.b (by kernel_rfl) ⟨b_g1,trivial⟩ (
   hk (fun cx=>cx.q (exec_build rfl (parts1 rfl) (by kernel_rfl))) <|
   hk (fun cx=>cx.stR (wn rfl) rfl rfl 0 rfl (cx.rq 0 u_g1) (cx.u 0 rfl) (by kernel_rfl) (Eq.refl 2) (knC_one _) q_g1 rfl trivial trivial) <|
   hn) ?_
  intro a2 w2 f2
  refine wp_ret ?_
  have s0_1:=f2.q 0 u_g1
  try simp only [Exit.inBlock,Exit.then]
  refine bodyPost_ret (res_c (fn:=Try.f60) rfl s0_1 (load_row 27 f2.rows.1 Try.underlying27 rfl (by kernel_rfl))) f2.d ?_
  have HE:(.agg (knC ⟨zKn.v,18446744073709551615#64⟩):Value)=.agg (knC allK):=rfl
  exact ⟨retV HE,f2.b⟩
set_option maxHeartbeats 4000000 in
theorem lone_n (v:B) (W:World):Calls Try.prog 66 #[.int .u64 (V v)] W fun e w'=>e=.returned (.agg (knC (oneK v))) ∧ Below W.heap.size W w':=by
  refine calls_abs Try.func66 rfl (Nat.le_of_ble_eq_true rfl) ?_
  intro a0 d0 z0 h0
  replace z0:a0.tmps.size=5:=z0
  have s0_0:a0.tmps.getD 0 undef=.int .u64 (V v):=h0 0 (Nat.le_of_ble_eq_true rfl)
  refine wp_seq ?_
  refine go_reg [] [⟨0,2,27,(knC zKn),none,#[]⟩] [none] mo d0 z0 (Below.refl _ _) (by kernel_rfl) trivial (
   hk (fun cx=>cx.al (wn rfl) 0 rfl (al_kn rfl) rfl rfl rfl rfl rfl trivial) <|
   hn) ?_
  intro a1 w1 f1
  obtain ⟨g1,u_g1,q_g1,b_g1⟩:=f1.al.1
  refine wp_seq ?_
  have s0_1:=f1.q 0 s0_0
  refine go_reg [⟨g1,27,(knC zKn),some 2,(knC ⟨v,zKn.m⟩)⟩] [] [some (.int .u64 (V v)),some (.agg (knC ⟨v,zKn.m⟩)),none] mo f1.d f1.z f1.b (by kernel_rfl) ⟨b_g1,trivial⟩ (
   hk (fun cx=>cx.q (ex_mv rfl (cx.rq 0 s0_1))) <|
   hk (fun cx=>cx.q (exec_build rfl (parts1 (cx.u 0 rfl)) (by kernel_rfl))) <|
   hk (fun cx=>cx.stR (wn rfl) rfl rfl 0 rfl (cx.rq 2 u_g1) (cx.u 0 rfl) (by kernel_rfl) (Eq.refl 2) (knC_one _) q_g1 rfl trivial trivial) <|
   hn) ?_
  intro a2 w2 f2
  refine wp_ret ?_
  have s2_2:=f2.q 2 u_g1
  try simp only [Exit.inBlock,Exit.then]
  refine bodyPost_ret (res_c (fn:=Try.f66) rfl s2_2 (load_row 27 f2.rows.1 Try.underlying27 rfl (by kernel_rfl))) f2.d ?_
  have HE:(.agg (knC ⟨v,zKn.m⟩):Value)=.agg (knC (oneK v)):=rfl
  exact ⟨retV HE,f2.b⟩
set_option maxHeartbeats 4000000 in
theorem lhas_n (a:Kn) (v:B) (W:World):Calls Try.prog 76 #[.agg (knC a),.int .u64 (V v)] W fun e w'=>e=.returned (.bool (Kn.hasB a v)) ∧ Below W.heap.size W w':=by
  refine calls_abs Try.func76 rfl (Nat.le_of_ble_eq_true rfl) ?_
  intro a0 d0 z0 h0
  replace z0:a0.tmps.size=16:=z0
  have s0_0:a0.tmps.getD 0 undef=.agg (knC a):=h0 0 (Nat.le_of_ble_eq_true rfl)
  have s1_0:a0.tmps.getD 1 undef=.int .u64 (V v):=h0 1 (Nat.le_of_ble_eq_true rfl)
  refine wp_seq ?_
  refine go_reg [] [⟨0,2,27,(knC a),none,#[]⟩] [none,oF] mo d0 z0 (Below.refl _ _) (by kernel_rfl) trivial (
   hk (fun cx=>cx.al (wn rfl) 0 rfl (ex_box rfl (cx.rq 0 s0_0) rfl) rfl rfl rfl rfl rfl trivial) <|
   hk (fun cx=>cx.q (ex_as rfl rfl)) <|
   hn) ?_
  intro a1 w1 f1
  obtain ⟨g1,u_g1,q_g1,b_g1⟩:=f1.al.1
  refine wp_seq ?_
  cases fk1:Kn.mayB a
  case false=>
   have Ffk1:=Lib.hid fk1;clear fk1
   refine go_reg [bx g1 27 (knC a)] [] [some (.agg (knC a)),oF,oF,oU,oU,oU,oU,oU,oU,oU,oF,oF] mo f1.d f1.z f1.b (by kernel_rfl) ⟨b_g1,trivial⟩ (
    hk (fun cx=>cx.q (ldKn rfl (cx.rq 2 u_g1) (cx.rn 0 rfl))) <|
    hc (fun _ _ wx cx=>cx.c rfl (args1 (cx.u 0 rfl)) Try.func72 (by decide +kernel) (lmay_n a wx) rfl (congrArg Value.bool Ffk1.out)) <|
    kmu 0 <|
    kno 0 <|
    kno 0 <|
    kno 1 <|
    kno 2 <|
    kno 0 <|
    kno 1 <|
    kno 2 <|
    hk (fun cx=>cx.q (ex_pf rfl (cx.u 0 rfl) rfl)) <|
    kmu 0 <|
    hn) ?_
   intro a2 w2 f2
   refine wp_ret ?_
   try simp only [Exit.inBlock,Exit.then]
   refine bodyPost_ret (res_t (fn:=Try.f76) rfl (f2.v 11 rfl rfl rfl)) f2.d ?_
   have HE:(.bool false:Value)=.bool (Kn.hasB a v):=by rw [has_is];simp only [Ffk1.out,Bool.false_and,Bool.true_and]
   exact ⟨retV HE,f2.b⟩
  have Ffk1:=Lib.hid fk1;clear fk1
  cases fk2:(v &&& ~~~a.m) == a.v
  case false=>
   have Ffk2:=Lib.hid fk2;clear fk2
   have s1_1:=f1.q 1 s1_0
   refine go_reg [bx g1 27 (knC a)] [] [some (.agg (knC a)),oT,oT,some (.int .u64 (V v)),some (pt g1 1),some (.int .u64 (V a.m)),some (.int .u64 (V (v &&& ~~~a.m))),some (pt g1 0),some (.int .u64 (V a.v)),some (.bool ((v &&& ~~~a.m) == a.v)),oF,oF] mo f1.d f1.z f1.b (by kernel_rfl) ⟨b_g1,trivial⟩ (
    hk (fun cx=>cx.q (ldKn rfl (cx.rq 2 u_g1) (cx.rn 0 rfl))) <|
    hc (fun _ _ wx cx=>cx.c rfl (args1 (cx.u 0 rfl)) Try.func72 (by decide +kernel) (lmay_n a wx) rfl (congrArg Value.bool Ffk1.out)) <|
    kmu 0 <|
    hk (fun cx=>cx.vy 0 (ex_mv rfl (cx.rq 1 s1_1))) <|
    hk (fun cx=>cx.vy 0 (ex_fa rfl (cx.rq 2 u_g1) (faStG27_1_0 _ _))) <|
    hk (fun cx=>cx.vy 1 (ex_ld rfl (cx.u 0 rfl) (cx.rn 0 rfl) rfl Try.isAgg23)) <|
    hk (fun cx=>cx.vy 2 (ex_an (x:=.tmp 8) (y:=.tmp 10) rfl (cx.u 0 rfl) (cx.u 1 rfl)) (congrArg (Value.int .u64) (V_an _ _))) <|
    hk (fun cx=>cx.vy 0 (ex_fa rfl (cx.rq 2 u_g1) (faStG27_0_0 _ _))) <|
    hk (fun cx=>cx.vy 1 (ex_ld rfl (cx.u 0 rfl) (cx.rn 0 rfl) rfl Try.isAgg23)) <|
    hk (fun cx=>cx.vy 2 (ex_eq (x:=.tmp 11) (y:=.tmp 13) rfl (cx.u 0 rfl) (cx.u 1 rfl)) (congrArg Value.bool (V_beq _ _))) <|
    hk (fun cx=>cx.v (ex_pt rfl (cx.u 0 rfl) (cx.u 1 rfl)) rfl (congrArg Value.bool Ffk2.out)) <|
    kmu 0 <|
    hn) ?_
   intro a3 w3 f3
   refine wp_ret ?_
   try simp only [Exit.inBlock,Exit.then]
   refine bodyPost_ret (res_t (fn:=Try.f76) rfl (f3.v 11 rfl rfl rfl)) f3.d ?_
   have HE:(.bool false:Value)=.bool (Kn.hasB a v):=by rw [has_is];simp only [Ffk1.out,Ffk2.out,Bool.false_and,Bool.true_and]
   exact ⟨retV HE,f3.b⟩
  have Ffk2:=Lib.hid fk2;clear fk2
  have s1_2:=f1.q 1 s1_0
  refine go_reg [bx g1 27 (knC a)] [] [some (.agg (knC a)),oT,oT,some (.int .u64 (V v)),some (pt g1 1),some (.int .u64 (V a.m)),some (.int .u64 (V (v &&& ~~~a.m))),some (pt g1 0),some (.int .u64 (V a.v)),some (.bool ((v &&& ~~~a.m) == a.v)),oT,oT] mo f1.d f1.z f1.b (by kernel_rfl) ⟨b_g1,trivial⟩ (
   hk (fun cx=>cx.q (ldKn rfl (cx.rq 2 u_g1) (cx.rn 0 rfl))) <|
   hc (fun _ _ wx cx=>cx.c rfl (args1 (cx.u 0 rfl)) Try.func72 (by decide +kernel) (lmay_n a wx) rfl (congrArg Value.bool Ffk1.out)) <|
   kmu 0 <|
   hk (fun cx=>cx.vy 0 (ex_mv rfl (cx.rq 1 s1_2))) <|
   hk (fun cx=>cx.vy 0 (ex_fa rfl (cx.rq 2 u_g1) (faStG27_1_0 _ _))) <|
   hk (fun cx=>cx.vy 1 (ex_ld rfl (cx.u 0 rfl) (cx.rn 0 rfl) rfl Try.isAgg23)) <|
   hk (fun cx=>cx.vy 2 (ex_an (x:=.tmp 8) (y:=.tmp 10) rfl (cx.u 0 rfl) (cx.u 1 rfl)) (congrArg (Value.int .u64) (V_an _ _))) <|
   hk (fun cx=>cx.vy 0 (ex_fa rfl (cx.rq 2 u_g1) (faStG27_0_0 _ _))) <|
   hk (fun cx=>cx.vy 1 (ex_ld rfl (cx.u 0 rfl) (cx.rn 0 rfl) rfl Try.isAgg23)) <|
   hk (fun cx=>cx.vy 2 (ex_eq (x:=.tmp 11) (y:=.tmp 13) rfl (cx.u 0 rfl) (cx.u 1 rfl)) (congrArg Value.bool (V_beq _ _))) <|
   hk (fun cx=>cx.v (ex_pt rfl (cx.u 0 rfl) (cx.u 1 rfl)) rfl (congrArg Value.bool Ffk2.out)) <|
   kmu 0 <|
   hn) ?_
  intro a4 w4 f4
  refine wp_ret ?_
  try simp only [Exit.inBlock,Exit.then]
  refine bodyPost_ret (res_t (fn:=Try.f76) rfl (f4.v 11 rfl rfl rfl)) f4.d ?_
  have HE:(.bool true:Value)=.bool (Kn.hasB a v):=by rw [has_is];simp only [Ffk1.out,Ffk2.out,Bool.false_and,Bool.true_and]
  exact ⟨retV HE,f4.b⟩
set_option maxHeartbeats 4000000 in
theorem lmeet_n (a b:Kn) (W:World):Calls Try.prog 113 #[.agg (knC a),.agg (knC b)] W fun e w'=>e=.returned (.tuple #[.agg (knC (Kn.meetK a b)),.bool (Kn.meetB a b)]) ∧ Below W.heap.size W w':=by
  refine calls_abs Try.func113 rfl (Nat.le_of_ble_eq_true rfl) ?_
  intro a0 d0 z0 h0
  replace z0:a0.tmps.size=40:=z0
  have s0_0:a0.tmps.getD 0 undef=.agg (knC a):=h0 0 (Nat.le_of_ble_eq_true rfl)
  have s1_0:a0.tmps.getD 1 undef=.agg (knC b):=h0 1 (Nat.le_of_ble_eq_true rfl)
  refine wp_seq ?_
  refine go_reg [] [⟨0,2,27,(knC a),none,#[]⟩,⟨1,3,27,(knC b),none,#[]⟩,⟨2,4,27,(knC zKn),none,#[]⟩] [none,none,none,oF] mo d0 z0 (Below.refl _ _) (by kernel_rfl) trivial (
   hk (fun cx=>cx.al (wn rfl) 0 rfl (ex_box rfl (cx.rq 0 s0_0) rfl) rfl rfl rfl rfl rfl trivial) <|
   hk (fun cx=>cx.al (wn rfl) 1 rfl (ex_box rfl (cx.rq 1 s1_0) rfl) rfl rfl rfl rfl rfl trivial) <|
   hk (fun cx=>cx.al (wn rfl) 2 rfl (al_kn rfl) rfl rfl rfl rfl rfl trivial) <|
   hk (fun cx=>cx.q (ex_as rfl rfl)) <|
   hn) ?_
  intro a1 w1 f1
  obtain ⟨g1,u_g1,q_g1,b_g1⟩:=f1.al.1
  obtain ⟨g2,u_g2,q_g2,b_g2⟩:=f1.al.2.1
  obtain ⟨g3,u_g3,q_g3,b_g3⟩:=f1.al.2.2.1
  refine wp_seq ?_
  refine wp_seq ?_
  cases fk1:Kn.mayB a
  case false=>
   have Ffk1:=Lib.hid fk1;clear fk1
   refine go_reg [bx g1 27 (knC a)] [] (tabs [some (.agg (knC a)),oF,oT,oT,oU,oU,oU,oT,oT,oU,oU,oU,oU,oU,oU,oU,oU,oU,oU,oU] [oU,oT]) mo f1.d f1.z f1.b (by kernel_rfl) ⟨b_g1,trivial⟩ (
    hk (fun cx=>cx.q (ldKn rfl (cx.rq 2 u_g1) (cx.rn 0 rfl))) <|
    hc (fun _ _ wx cx=>cx.c rfl (args1 (cx.u 0 rfl)) Try.func72 (by decide +kernel) (lmay_n a wx) rfl (congrArg Value.bool Ffk1.out)) <|
    hk (fun cx=>cx.q (ex_not (x:=.tmp 7) rfl (cx.u 0 rfl))) <|
    kmu 0 <|
    kno 0 <|
    kno 1 <|
    kno 1 <|
    hk (fun cx=>cx.q (ex_pt rfl (cx.u 0 rfl) rfl)) <|
    kmu 0 <|
    kno 0 <|
    kno 1 <|
    kno 0 <|
    kno 1 <|
    kno 2 <|
    kno 0 <|
    kno 1 <|
    kno 0 <|
    kno 1 <|
    kno 2 <|
    kno 2 <|
    kno 1 <|
    hk (fun cx=>cx.q (ex_pt rfl (cx.u 0 rfl) rfl)) <|
    hn) ?_
   intro a2 w2 f2
   refine wp_cond_true (f2.v 21 rfl rfl rfl) ?_
   refine wp_seq ?_
   have b_g3_1:=f2.k b_g3
   have s4_2:=f2.q 4 u_g3
   refine go_reg [⟨g3,27,(knC zKn),some 1,(knC allK)⟩] [] [some (.agg (knC allK)),none,oF] mo f2.d f2.z f2.b (by kernel_rfl) ⟨b_g3_1,trivial⟩ (
    hc (fun _ _ wx cx=>cx.c rfl (args0 ) Try.func60 (by decide +kernel) (lall_n wx) rfl rfl) <|
    hk (fun cx=>cx.stR (wn rfl) rfl rfl 0 rfl (cx.rq 4 s4_2) (cx.u 0 rfl) (by kernel_rfl) (Eq.refl 2) (knC_one _) q_g3 rfl trivial trivial) <|
    hk (fun cx=>cx.q (ex_as rfl rfl)) <|
    hn) ?_
   intro a3 w3 f3
   refine wp_ret ?_
   have s4_3:=f3.q 4 s4_2
   try simp only [Exit.inBlock,Exit.then]
   refine bodyPost_ret (res_ct (fn:=Try.f113) rfl s4_3 (load_row 27 f3.rows.1 Try.underlying27 rfl (by kernel_rfl)) (f3.v 2 rfl rfl rfl)) f3.d ?_
   have HM:Kn.meetB a b=false:=by unfold Kn.meetB;simp only [Ffk1.out,Bool.false_and,Bool.true_and,Bool.and_false,Bool.not_true,Bool.not_false]
   have HE:(.tuple #[.agg (knC allK),.bool false]:Value)=.tuple #[.agg (knC (Kn.meetK a b)),.bool (Kn.meetB a b)]:=by unfold Kn.meetK;rw [HM,if_neg Bool.false_ne_true]
   exact ⟨retV HE,f3.b⟩
  have Ffk1:=Lib.hid fk1;clear fk1
  cases fk2:Kn.mayB b
  case false=>
   have Ffk2:=Lib.hid fk2;clear fk2
   refine go_reg [bx g1 27 (knC a),bx g2 27 (knC b)] [] (tabs [some (.agg (knC a)),oT,oF,oF,some (.agg (knC b)),oF,oT,oT,oT,oU,oU,oU,oU,oU,oU,oU,oU,oU,oU,oU] [oU,oT]) mo f1.d f1.z f1.b (by kernel_rfl) ⟨b_g1,b_g2,trivial⟩ (
    hk (fun cx=>cx.q (ldKn rfl (cx.rq 2 u_g1) (cx.rn 0 rfl))) <|
    hc (fun _ _ wx cx=>cx.c rfl (args1 (cx.u 0 rfl)) Try.func72 (by decide +kernel) (lmay_n a wx) rfl (congrArg Value.bool Ffk1.out)) <|
    hk (fun cx=>cx.q (ex_not (x:=.tmp 7) rfl (cx.u 0 rfl))) <|
    kmu 0 <|
    hk (fun cx=>cx.vy 0 (ldKn rfl (cx.rq 3 u_g2) (cx.rn 1 rfl))) <|
    hc (fun _ _ wx cx=>cx.call (cx.wy rfl rfl rfl rfl (cx.u 1 rfl)) rfl rfl (args1 (cx.u 0 rfl)) Try.func72 (by decide +kernel) rfl (lmay_n b wx) rfl rfl (congrArg Value.bool Ffk2.out) rfl) <|
    hk (fun cx=>cx.vy 1 (ex_not (x:=.tmp 11) rfl (cx.u 0 rfl))) <|
    hk (fun cx=>cx.q (ex_pf rfl (cx.u 0 rfl) (cx.u 1 rfl))) <|
    kmu 0 <|
    kno 0 <|
    kno 1 <|
    kno 0 <|
    kno 1 <|
    kno 2 <|
    kno 0 <|
    kno 1 <|
    kno 0 <|
    kno 1 <|
    kno 2 <|
    kno 2 <|
    kno 1 <|
    hk (fun cx=>cx.q (ex_pt rfl (cx.u 0 rfl) rfl)) <|
    hn) ?_
   intro a4 w4 f4
   refine wp_cond_true (f4.v 21 rfl rfl rfl) ?_
   refine wp_seq ?_
   have b_g3_4:=f4.k b_g3
   have s4_5:=f4.q 4 u_g3
   refine go_reg [⟨g3,27,(knC zKn),some 1,(knC allK)⟩] [] [some (.agg (knC allK)),none,oF] mo f4.d f4.z f4.b (by kernel_rfl) ⟨b_g3_4,trivial⟩ (
    hc (fun _ _ wx cx=>cx.c rfl (args0 ) Try.func60 (by decide +kernel) (lall_n wx) rfl rfl) <|
    hk (fun cx=>cx.stR (wn rfl) rfl rfl 0 rfl (cx.rq 4 s4_5) (cx.u 0 rfl) (by kernel_rfl) (Eq.refl 2) (knC_one _) q_g3 rfl trivial trivial) <|
    hk (fun cx=>cx.q (ex_as rfl rfl)) <|
    hn) ?_
   intro a5 w5 f5
   refine wp_ret ?_
   have s4_6:=f5.q 4 s4_5
   try simp only [Exit.inBlock,Exit.then]
   refine bodyPost_ret (res_ct (fn:=Try.f113) rfl s4_6 (load_row 27 f5.rows.1 Try.underlying27 rfl (by kernel_rfl)) (f5.v 2 rfl rfl rfl)) f5.d ?_
   have HM:Kn.meetB a b=false:=by unfold Kn.meetB;simp only [Ffk1.out,Ffk2.out,Bool.false_and,Bool.true_and,Bool.and_false,Bool.not_true,Bool.not_false]
   have HE:(.tuple #[.agg (knC allK),.bool false]:Value)=.tuple #[.agg (knC (Kn.meetK a b)),.bool (Kn.meetB a b)]:=by unfold Kn.meetK;rw [HM,if_neg Bool.false_ne_true]
   exact ⟨retV HE,f5.b⟩
  have Ffk2:=Lib.hid fk2;clear fk2
  cases fk3:(V ((a.v ^^^ b.v) &&& ~~~(a.m ||| b.m))) != 0
  case false=>
   have Ffk3:=Lib.hid fk3;clear fk3
   refine go_reg [bx g1 27 (knC a),bx g2 27 (knC b)] [] (tabs [some (.agg (knC a)),oT,oF,oF,some (.agg (knC b)),oT,oF,oF,oF,some (pt g1 0),some (.int .u64 (V a.v)),some (pt g2 0),some (.int .u64 (V b.v)),some (.int .u64 (V (a.v ^^^ b.v))),some (pt g1 1),some (.int .u64 (V a.m)),some (pt g2 1),some (.int .u64 (V b.m)),some (.int .u64 (V (a.m ||| b.m))),some (.int .u64 (V ((a.v ^^^ b.v) &&& ~~~(a.m ||| b.m))))] [oF,oF]) mo f1.d f1.z f1.b (by kernel_rfl) ⟨b_g1,b_g2,trivial⟩ (
    hk (fun cx=>cx.q (ldKn rfl (cx.rq 2 u_g1) (cx.rn 0 rfl))) <|
    hc (fun _ _ wx cx=>cx.c rfl (args1 (cx.u 0 rfl)) Try.func72 (by decide +kernel) (lmay_n a wx) rfl (congrArg Value.bool Ffk1.out)) <|
    hk (fun cx=>cx.q (ex_not (x:=.tmp 7) rfl (cx.u 0 rfl))) <|
    kmu 0 <|
    hk (fun cx=>cx.vy 0 (ldKn rfl (cx.rq 3 u_g2) (cx.rn 1 rfl))) <|
    hc (fun _ _ wx cx=>cx.call (cx.wy rfl rfl rfl rfl (cx.u 1 rfl)) rfl rfl (args1 (cx.u 0 rfl)) Try.func72 (by decide +kernel) rfl (lmay_n b wx) rfl rfl (congrArg Value.bool Ffk2.out) rfl) <|
    hk (fun cx=>cx.vy 1 (ex_not (x:=.tmp 11) rfl (cx.u 0 rfl))) <|
    hk (fun cx=>cx.q (ex_pf rfl (cx.u 0 rfl) (cx.u 1 rfl))) <|
    kmu 0 <|
    hk (fun cx=>cx.vy 0 (ex_fa rfl (cx.rq 2 u_g1) (faStG27_0_0 _ _))) <|
    hk (fun cx=>cx.vy 1 (ex_ld rfl (cx.u 0 rfl) (cx.rn 0 rfl) rfl Try.isAgg23)) <|
    hk (fun cx=>cx.vy 0 (ex_fa rfl (cx.rq 3 u_g2) (faStG27_0_0 _ _))) <|
    hk (fun cx=>cx.vy 1 (ex_ld rfl (cx.u 0 rfl) (cx.rn 1 rfl) rfl Try.isAgg23)) <|
    hk (fun cx=>cx.vy 2 (ex_xor (x:=.tmp 16) (y:=.tmp 18) rfl (cx.u 0 rfl) (cx.u 1 rfl)) (congrArg (Value.int .u64) (V_xor _ _))) <|
    hk (fun cx=>cx.vy 0 (ex_fa rfl (cx.rq 2 u_g1) (faStG27_1_0 _ _))) <|
    hk (fun cx=>cx.vy 1 (ex_ld rfl (cx.u 0 rfl) (cx.rn 0 rfl) rfl Try.isAgg23)) <|
    hk (fun cx=>cx.vy 0 (ex_fa rfl (cx.rq 3 u_g2) (faStG27_1_0 _ _))) <|
    hk (fun cx=>cx.vy 1 (ex_ld rfl (cx.u 0 rfl) (cx.rn 1 rfl) rfl Try.isAgg23)) <|
    hk (fun cx=>cx.vy 2 (ex_or (x:=.tmp 21) (y:=.tmp 23) rfl (cx.u 0 rfl) (cx.u 1 rfl)) (congrArg (Value.int .u64) (V_or _ _))) <|
    hk (fun cx=>cx.vy 2 (ex_an (x:=.tmp 19) (y:=.tmp 24) rfl (cx.u 0 rfl) (cx.u 1 rfl)) (congrArg (Value.int .u64) (V_an _ _))) <|
    hk (fun cx=>cx.vy 1 (ex_ne (x:=.tmp 25) rfl (cx.u 0 rfl) rfl) (congrArg Value.bool Ffk3.out)) <|
    hk (fun cx=>cx.q (ex_pf rfl (cx.u 0 rfl) (cx.u 1 rfl))) <|
    hn) ?_
   intro a6 w6 f6
   refine wp_cond_false (f6.v 21 rfl rfl rfl) ?_
   refine wp_skip ?_
   refine wp_seq ?_
   have b_g1_7:=f6.k b_g1
   have b_g2_8:=f6.k b_g2
   have b_g3_9:=f6.k b_g3
   have s2_10:=f6.q 2 u_g1
   have s3_11:=f6.q 3 u_g2
   have s4_12:=f6.q 4 u_g3
   refine go_reg [bx g1 27 (knC a),bx g2 27 (knC b),⟨g3,27,(knC zKn),some 11,(knC ⟨a.v ||| b.v,a.m &&& b.m⟩)⟩] [] [some (pt g1 0),some (.int .u64 (V a.v)),some (pt g2 0),some (.int .u64 (V b.v)),some (.int .u64 (V (a.v ||| b.v))),some (pt g1 1),some (.int .u64 (V a.m)),some (pt g2 1),some (.int .u64 (V b.m)),some (.int .u64 (V (a.m &&& b.m))),some (.agg (knC ⟨a.v ||| b.v,a.m &&& b.m⟩)),none,oT] mo f6.d f6.z f6.b (by kernel_rfl) ⟨b_g1_7,b_g2_8,b_g3_9,trivial⟩ (
    hk (fun cx=>cx.q (ex_fa rfl (cx.rq 2 s2_10) (faStG27_0_0 _ _))) <|
    hk (fun cx=>cx.q (ex_ld rfl (cx.u 0 rfl) (cx.rn 0 rfl) rfl Try.isAgg23)) <|
    hk (fun cx=>cx.q (ex_fa rfl (cx.rq 3 s3_11) (faStG27_0_0 _ _))) <|
    hk (fun cx=>cx.q (ex_ld rfl (cx.u 0 rfl) (cx.rn 1 rfl) rfl Try.isAgg23)) <|
    hk (fun cx=>cx.v (ex_or (x:=.tmp 30) (y:=.tmp 32) rfl (cx.u 0 rfl) (cx.u 1 rfl)) rfl (congrArg (Value.int .u64) (V_or _ _))) <|
    hk (fun cx=>cx.q (ex_fa rfl (cx.rq 2 s2_10) (faStG27_1_0 _ _))) <|
    hk (fun cx=>cx.q (ex_ld rfl (cx.u 0 rfl) (cx.rn 0 rfl) rfl Try.isAgg23)) <|
    hk (fun cx=>cx.q (ex_fa rfl (cx.rq 3 s3_11) (faStG27_1_0 _ _))) <|
    hk (fun cx=>cx.q (ex_ld rfl (cx.u 0 rfl) (cx.rn 1 rfl) rfl Try.isAgg23)) <|
    hk (fun cx=>cx.v (ex_and (x:=.tmp 35) (y:=.tmp 37) rfl (cx.u 0 rfl) (cx.u 1 rfl)) rfl (congrArg (Value.int .u64) (V_and _ _))) <|
    hk (fun cx=>cx.q (exec_build rfl (parts2 (cx.u 0 rfl) (cx.u 1 rfl)) (by kernel_rfl))) <|
    hk (fun cx=>cx.stR (wn rfl) rfl rfl 2 rfl (cx.rq 4 s4_12) (cx.u 0 rfl) (by kernel_rfl) (Eq.refl 2) (knC_one _) q_g3 rfl ⟨(ne_ptr (pairAt f1.ps 0 2 (by decide) rfl rfl) u_g1 u_g3),(ne_ptr (pairAt f1.ps 1 2 (by decide) rfl rfl) u_g2 u_g3),trivial⟩ trivial) <|
    hk (fun cx=>cx.q (ex_as rfl rfl)) <|
    hn) ?_
   intro a7 w7 f7
   refine wp_ret ?_
   have s4_13:=f7.q 4 s4_12
   try simp only [Exit.inBlock,Exit.then]
   refine bodyPost_ret (res_ct (fn:=Try.f113) rfl s4_13 (load_row 27 f7.rows.2.2.1 Try.underlying27 rfl (by kernel_rfl)) (f7.v 12 rfl rfl rfl)) f7.d ?_
   have HM:Kn.meetB a b=true:=by unfold Kn.meetB;simp only [Ffk1.out,Ffk2.out,bne_no Ffk3.out,Bool.false_and,Bool.true_and,Bool.and_false,Bool.not_true,Bool.not_false]
   have HE:(.tuple #[.agg (knC ⟨a.v ||| b.v,a.m &&& b.m⟩),.bool true]:Value)=.tuple #[.agg (knC (Kn.meetK a b)),.bool (Kn.meetB a b)]:=by unfold Kn.meetK;rw [HM,if_pos rfl,meet_is HM]
   exact ⟨retV HE,f7.b⟩
  have Ffk3:=Lib.hid fk3;clear fk3
  refine go_reg [bx g1 27 (knC a),bx g2 27 (knC b)] [] (tabs [some (.agg (knC a)),oT,oF,oF,some (.agg (knC b)),oT,oF,oF,oF,some (pt g1 0),some (.int .u64 (V a.v)),some (pt g2 0),some (.int .u64 (V b.v)),some (.int .u64 (V (a.v ^^^ b.v))),some (pt g1 1),some (.int .u64 (V a.m)),some (pt g2 1),some (.int .u64 (V b.m)),some (.int .u64 (V (a.m ||| b.m))),some (.int .u64 (V ((a.v ^^^ b.v) &&& ~~~(a.m ||| b.m))))] [oT,oT]) mo f1.d f1.z f1.b (by kernel_rfl) ⟨b_g1,b_g2,trivial⟩ (
   hk (fun cx=>cx.q (ldKn rfl (cx.rq 2 u_g1) (cx.rn 0 rfl))) <|
   hc (fun _ _ wx cx=>cx.c rfl (args1 (cx.u 0 rfl)) Try.func72 (by decide +kernel) (lmay_n a wx) rfl (congrArg Value.bool Ffk1.out)) <|
   hk (fun cx=>cx.q (ex_not (x:=.tmp 7) rfl (cx.u 0 rfl))) <|
   kmu 0 <|
   hk (fun cx=>cx.vy 0 (ldKn rfl (cx.rq 3 u_g2) (cx.rn 1 rfl))) <|
   hc (fun _ _ wx cx=>cx.call (cx.wy rfl rfl rfl rfl (cx.u 1 rfl)) rfl rfl (args1 (cx.u 0 rfl)) Try.func72 (by decide +kernel) rfl (lmay_n b wx) rfl rfl (congrArg Value.bool Ffk2.out) rfl) <|
   hk (fun cx=>cx.vy 1 (ex_not (x:=.tmp 11) rfl (cx.u 0 rfl))) <|
   hk (fun cx=>cx.q (ex_pf rfl (cx.u 0 rfl) (cx.u 1 rfl))) <|
   kmu 0 <|
   hk (fun cx=>cx.vy 0 (ex_fa rfl (cx.rq 2 u_g1) (faStG27_0_0 _ _))) <|
   hk (fun cx=>cx.vy 1 (ex_ld rfl (cx.u 0 rfl) (cx.rn 0 rfl) rfl Try.isAgg23)) <|
   hk (fun cx=>cx.vy 0 (ex_fa rfl (cx.rq 3 u_g2) (faStG27_0_0 _ _))) <|
   hk (fun cx=>cx.vy 1 (ex_ld rfl (cx.u 0 rfl) (cx.rn 1 rfl) rfl Try.isAgg23)) <|
   hk (fun cx=>cx.vy 2 (ex_xor (x:=.tmp 16) (y:=.tmp 18) rfl (cx.u 0 rfl) (cx.u 1 rfl)) (congrArg (Value.int .u64) (V_xor _ _))) <|
   hk (fun cx=>cx.vy 0 (ex_fa rfl (cx.rq 2 u_g1) (faStG27_1_0 _ _))) <|
   hk (fun cx=>cx.vy 1 (ex_ld rfl (cx.u 0 rfl) (cx.rn 0 rfl) rfl Try.isAgg23)) <|
   hk (fun cx=>cx.vy 0 (ex_fa rfl (cx.rq 3 u_g2) (faStG27_1_0 _ _))) <|
   hk (fun cx=>cx.vy 1 (ex_ld rfl (cx.u 0 rfl) (cx.rn 1 rfl) rfl Try.isAgg23)) <|
   hk (fun cx=>cx.vy 2 (ex_or (x:=.tmp 21) (y:=.tmp 23) rfl (cx.u 0 rfl) (cx.u 1 rfl)) (congrArg (Value.int .u64) (V_or _ _))) <|
   hk (fun cx=>cx.vy 2 (ex_an (x:=.tmp 19) (y:=.tmp 24) rfl (cx.u 0 rfl) (cx.u 1 rfl)) (congrArg (Value.int .u64) (V_an _ _))) <|
   hk (fun cx=>cx.vy 1 (ex_ne (x:=.tmp 25) rfl (cx.u 0 rfl) rfl) (congrArg Value.bool Ffk3.out)) <|
   hk (fun cx=>cx.q (ex_pf rfl (cx.u 0 rfl) (cx.u 1 rfl))) <|
   hn) ?_
  intro a8 w8 f8
  refine wp_cond_true (f8.v 21 rfl rfl rfl) ?_
  refine wp_seq ?_
  have b_g3_14:=f8.k b_g3
  have s4_15:=f8.q 4 u_g3
  refine go_reg [⟨g3,27,(knC zKn),some 1,(knC allK)⟩] [] [some (.agg (knC allK)),none,oF] mo f8.d f8.z f8.b (by kernel_rfl) ⟨b_g3_14,trivial⟩ (
   hc (fun _ _ wx cx=>cx.c rfl (args0 ) Try.func60 (by decide +kernel) (lall_n wx) rfl rfl) <|
   hk (fun cx=>cx.stR (wn rfl) rfl rfl 0 rfl (cx.rq 4 s4_15) (cx.u 0 rfl) (by kernel_rfl) (Eq.refl 2) (knC_one _) q_g3 rfl trivial trivial) <|
   hk (fun cx=>cx.q (ex_as rfl rfl)) <|
   hn) ?_
  intro a9 w9 f9
  refine wp_ret ?_
  have s4_16:=f9.q 4 s4_15
  try simp only [Exit.inBlock,Exit.then]
  refine bodyPost_ret (res_ct (fn:=Try.f113) rfl s4_16 (load_row 27 f9.rows.1 Try.underlying27 rfl (by kernel_rfl)) (f9.v 2 rfl rfl rfl)) f9.d ?_
  have HM:Kn.meetB a b=false:=by unfold Kn.meetB;simp only [Ffk1.out,Ffk2.out,bne_no Ffk3.out,Bool.false_and,Bool.true_and,Bool.and_false,Bool.not_true,Bool.not_false]
  have HE:(.tuple #[.agg (knC allK),.bool false]:Value)=.tuple #[.agg (knC (Kn.meetK a b)),.bool (Kn.meetB a b)]:=by unfold Kn.meetK;rw [HM,if_neg Bool.false_ne_true]
  exact ⟨retV HE,f9.b⟩
def widthB (w:Int):Bool:=w == 8 || w == 16 || w == 32 || w == 64
theorem cut_3 {w:Int} (h:widthB w=true) (h64:(w == 64)=false):w=8 ∨ w=16 ∨ w=32:=by
  unfold widthB at h
  simp only [Bool.or_eq_true,beq_iff_eq,beq_eq_false_iff_ne,ne_eq] at h h64
  omega
theorem cut_u {w:Int} (h:widthB w=true) (h64:(w == 64)=false):IntKind.u64.wrap w=w:=by
  rcases cut_3 h h64 with rfl | rfl | rfl <;> decide
theorem cut_b {w:Int} (h:widthB w=true) (h64:(w == 64)=false):0 ≤ w ∧ w ≤ 64:=by
  rcases cut_3 h h64 with rfl | rfl | rfl <;> decide
theorem cut_and (x:B) {w:Int} (h:widthB w=true) (h64:(w == 64)=false):bits .and .u64 (V x) (IntKind.u64.wrap (((1 * 2 ^ Int.toNat w) % 18446744073709551616) - 1))=V (cutB x w):=by
  have a:=V_nn x;have b:=V_lt x
  rw [V_cutB]
  rcases cut_3 h h64 with rfl | rfl | rfl
  · rw [show IntKind.u64.wrap (((1 * 2 ^ Int.toNat 8) % 18446744073709551616) - 1)=255 from by decide,u64_and _ _ a b (by decide) (by decide)]
    have:=Nat.and_two_pow_sub_one_eq_mod (V x).toNat 8
    unfold cutI;rw [if_pos rfl,show (255:Int).toNat=2 ^ 8 - 1 from rfl,this];omega
  · rw [show IntKind.u64.wrap (((1 * 2 ^ Int.toNat 16) % 18446744073709551616) - 1)=65535 from by decide,u64_and _ _ a b (by decide) (by decide)]
    have:=Nat.and_two_pow_sub_one_eq_mod (V x).toNat 16
    unfold cutI;rw [if_neg (by decide),if_pos rfl,show (65535:Int).toNat=2 ^ 16 - 1 from rfl,this];omega
  · rw [show IntKind.u64.wrap (((1 * 2 ^ Int.toNat 32) % 18446744073709551616) - 1)=4294967295 from by decide,u64_and _ _ a b (by decide) (by decide)]
    have:=Nat.and_two_pow_sub_one_eq_mod (V x).toNat 32
    unfold cutI;rw [if_neg (by decide),if_neg (by decide),if_pos rfl,show (4294967295:Int).toNat=2 ^ 32 - 1 from rfl,this];omega
theorem cut_no (x:B) {w:Int} (h:widthB w=false ∨ (w == 64)=true):V x=V (cutB x w):=by
  rw [V_cutB]
  have n:¬ w=8 ∧ ¬ w=16 ∧ ¬ w=32:=by
    rcases h with h | h
    · unfold widthB at h
      simp only [Bool.or_eq_false_iff,beq_eq_false_iff_ne,ne_eq] at h
      omega
    · have:=yb h;omega
  unfold cutI
  rw [if_neg n.1,if_neg n.2.1,if_neg n.2.2]
set_option maxHeartbeats 4000000 in
theorem refwidth_n (w:Int) (W:World):Calls Try.prog 111 #[.int .i8 w] W fun e w'=>e=.returned (.bool (widthB w)) ∧ Below W.heap.size W w':=by
  refine calls_abs Try.func111 rfl (Nat.le_of_ble_eq_true rfl) ?_
  intro a0 d0 z0 h0
  replace z0:a0.tmps.size=17:=z0
  have s0_0:a0.tmps.getD 0 undef=.int .i8 w:=h0 0 (Nat.le_of_ble_eq_true rfl)
  refine wp_seq ?_
  refine go_reg [] [] [oF] mo d0 z0 (Below.refl _ _) (by kernel_rfl) trivial (
   hk (fun cx=>cx.q (ex_as rfl rfl)) <|
   hn) ?_
  intro a1 w1 f1
  refine wp_seq ?_
  cases fk1:w == 8
  case false=>
   have Ffk1:=Lib.hid fk1;clear fk1
   cases fk2:w == 16
   case false=>
    have Ffk2:=Lib.hid fk2;clear fk2
    cases fk3:w == 32
    case false=>
     have Ffk3:=Lib.hid fk3;clear fk3
     cases fk4:w == 64
     case false=>
      have Ffk4:=Lib.hid fk4;clear fk4
      have s0_1:=f1.q 0 s0_0
      refine go_reg [] [] [some (.int .i8 w),oF,oF,some (.int .i8 w),oF,oF,oF,some (.int .i8 w),oF,oF,oF,some (.int .i8 w),oF,oF,oF] mo f1.d f1.z f1.b (by kernel_rfl) trivial (
       hk (fun cx=>cx.q (ex_mv rfl (cx.rq 0 s0_1))) <|
       hk (fun cx=>cx.v (ex_eq (x:=.tmp 3) rfl (cx.u 0 rfl) rfl) rfl (congrArg Value.bool Ffk1.out)) <|
       kmu 0 <|
       hk (fun cx=>cx.vy 0 (ex_mv rfl (cx.rq 0 s0_1))) <|
       hk (fun cx=>cx.vy 1 (ex_eq (x:=.tmp 6) rfl (cx.u 0 rfl) rfl) (congrArg Value.bool Ffk2.out)) <|
       hk (fun cx=>cx.q (ex_pf rfl (cx.u 0 rfl) (cx.u 1 rfl))) <|
       kmu 0 <|
       hk (fun cx=>cx.vy 0 (ex_mv rfl (cx.rq 0 s0_1))) <|
       hk (fun cx=>cx.vy 1 (ex_eq (x:=.tmp 10) rfl (cx.u 0 rfl) rfl) (congrArg Value.bool Ffk3.out)) <|
       hk (fun cx=>cx.q (ex_pf rfl (cx.u 0 rfl) (cx.u 1 rfl))) <|
       kmu 0 <|
       hk (fun cx=>cx.vy 0 (ex_mv rfl (cx.rq 0 s0_1))) <|
       hk (fun cx=>cx.vy 1 (ex_eq (x:=.tmp 14) rfl (cx.u 0 rfl) rfl) (congrArg Value.bool Ffk4.out)) <|
       hk (fun cx=>cx.q (ex_pf rfl (cx.u 0 rfl) (cx.u 1 rfl))) <|
       kmu 0 <|
       hn) ?_
      intro a2 w2 f2
      refine wp_ret ?_
      try simp only [Exit.inBlock,Exit.then]
      refine bodyPost_ret (res_t (fn:=Try.f111) rfl (f2.v 14 rfl rfl rfl)) f2.d ?_
      have HE:(.bool false:Value)=.bool (widthB w):=by unfold widthB;simp only [Ffk1.out,Ffk2.out,Ffk3.out,Ffk4.out,Bool.true_and,Bool.and_true,Bool.false_and,Bool.and_false,Bool.or_false,Bool.false_or,Bool.true_or,Bool.or_true,Bool.not_true,Bool.not_false,if_true,if_false,Bool.false_eq_true,Bool.true_eq_false,reduceCtorEq];try rfl
      exact ⟨retV HE,f2.b⟩
     have Ffk4:=Lib.hid fk4;clear fk4
     have s0_2:=f1.q 0 s0_0
     refine go_reg [] [] [some (.int .i8 w),oF,oF,some (.int .i8 w),oF,oF,oF,some (.int .i8 w),oF,oF,oF,some (.int .i8 w),oT,oT,oT] mo f1.d f1.z f1.b (by kernel_rfl) trivial (
      hk (fun cx=>cx.q (ex_mv rfl (cx.rq 0 s0_2))) <|
      hk (fun cx=>cx.v (ex_eq (x:=.tmp 3) rfl (cx.u 0 rfl) rfl) rfl (congrArg Value.bool Ffk1.out)) <|
      kmu 0 <|
      hk (fun cx=>cx.vy 0 (ex_mv rfl (cx.rq 0 s0_2))) <|
      hk (fun cx=>cx.vy 1 (ex_eq (x:=.tmp 6) rfl (cx.u 0 rfl) rfl) (congrArg Value.bool Ffk2.out)) <|
      hk (fun cx=>cx.q (ex_pf rfl (cx.u 0 rfl) (cx.u 1 rfl))) <|
      kmu 0 <|
      hk (fun cx=>cx.vy 0 (ex_mv rfl (cx.rq 0 s0_2))) <|
      hk (fun cx=>cx.vy 1 (ex_eq (x:=.tmp 10) rfl (cx.u 0 rfl) rfl) (congrArg Value.bool Ffk3.out)) <|
      hk (fun cx=>cx.q (ex_pf rfl (cx.u 0 rfl) (cx.u 1 rfl))) <|
      kmu 0 <|
      hk (fun cx=>cx.vy 0 (ex_mv rfl (cx.rq 0 s0_2))) <|
      hk (fun cx=>cx.vy 1 (ex_eq (x:=.tmp 14) rfl (cx.u 0 rfl) rfl) (congrArg Value.bool Ffk4.out)) <|
      hk (fun cx=>cx.q (ex_pf rfl (cx.u 0 rfl) (cx.u 1 rfl))) <|
      kmu 0 <|
      hn) ?_
     intro a3 w3 f3
     refine wp_ret ?_
     try simp only [Exit.inBlock,Exit.then]
     refine bodyPost_ret (res_t (fn:=Try.f111) rfl (f3.v 14 rfl rfl rfl)) f3.d ?_
     have HE:(.bool true:Value)=.bool (widthB w):=by unfold widthB;simp only [Ffk1.out,Ffk2.out,Ffk3.out,Ffk4.out,Bool.true_and,Bool.and_true,Bool.false_and,Bool.and_false,Bool.or_false,Bool.false_or,Bool.true_or,Bool.or_true,Bool.not_true,Bool.not_false,if_true,if_false,Bool.false_eq_true,Bool.true_eq_false,reduceCtorEq];try rfl
     exact ⟨retV HE,f3.b⟩
    have Ffk3:=Lib.hid fk3;clear fk3
    have s0_3:=f1.q 0 s0_0
    refine go_reg [] [] [some (.int .i8 w),oF,oF,some (.int .i8 w),oF,oF,oF,some (.int .i8 w),oT,oT,oT,oU,oU,oT,oT] mo f1.d f1.z f1.b (by kernel_rfl) trivial (
     hk (fun cx=>cx.q (ex_mv rfl (cx.rq 0 s0_3))) <|
     hk (fun cx=>cx.v (ex_eq (x:=.tmp 3) rfl (cx.u 0 rfl) rfl) rfl (congrArg Value.bool Ffk1.out)) <|
     kmu 0 <|
     hk (fun cx=>cx.vy 0 (ex_mv rfl (cx.rq 0 s0_3))) <|
     hk (fun cx=>cx.vy 1 (ex_eq (x:=.tmp 6) rfl (cx.u 0 rfl) rfl) (congrArg Value.bool Ffk2.out)) <|
     hk (fun cx=>cx.q (ex_pf rfl (cx.u 0 rfl) (cx.u 1 rfl))) <|
     kmu 0 <|
     hk (fun cx=>cx.vy 0 (ex_mv rfl (cx.rq 0 s0_3))) <|
     hk (fun cx=>cx.vy 1 (ex_eq (x:=.tmp 10) rfl (cx.u 0 rfl) rfl) (congrArg Value.bool Ffk3.out)) <|
     hk (fun cx=>cx.q (ex_pf rfl (cx.u 0 rfl) (cx.u 1 rfl))) <|
     kmu 0 <|
     kno 0 <|
     kno 1 <|
     hk (fun cx=>cx.q (ex_pt rfl (cx.u 0 rfl) rfl)) <|
     kmu 0 <|
     hn) ?_
    intro a4 w4 f4
    refine wp_ret ?_
    try simp only [Exit.inBlock,Exit.then]
    refine bodyPost_ret (res_t (fn:=Try.f111) rfl (f4.v 14 rfl rfl rfl)) f4.d ?_
    have HE:(.bool true:Value)=.bool (widthB w):=by unfold widthB;simp only [Ffk1.out,Ffk2.out,Ffk3.out,Bool.true_and,Bool.and_true,Bool.false_and,Bool.and_false,Bool.or_false,Bool.false_or,Bool.true_or,Bool.or_true,Bool.not_true,Bool.not_false,if_true,if_false,Bool.false_eq_true,Bool.true_eq_false,reduceCtorEq];try rfl
    exact ⟨retV HE,f4.b⟩
   have Ffk2:=Lib.hid fk2;clear fk2
   have s0_4:=f1.q 0 s0_0
   refine go_reg [] [] [some (.int .i8 w),oF,oF,some (.int .i8 w),oT,oT,oT,oU,oU,oT,oT,oU,oU,oT,oT] mo f1.d f1.z f1.b (by kernel_rfl) trivial (
    hk (fun cx=>cx.q (ex_mv rfl (cx.rq 0 s0_4))) <|
    hk (fun cx=>cx.v (ex_eq (x:=.tmp 3) rfl (cx.u 0 rfl) rfl) rfl (congrArg Value.bool Ffk1.out)) <|
    kmu 0 <|
    hk (fun cx=>cx.vy 0 (ex_mv rfl (cx.rq 0 s0_4))) <|
    hk (fun cx=>cx.vy 1 (ex_eq (x:=.tmp 6) rfl (cx.u 0 rfl) rfl) (congrArg Value.bool Ffk2.out)) <|
    hk (fun cx=>cx.q (ex_pf rfl (cx.u 0 rfl) (cx.u 1 rfl))) <|
    kmu 0 <|
    kno 0 <|
    kno 1 <|
    hk (fun cx=>cx.q (ex_pt rfl (cx.u 0 rfl) rfl)) <|
    kmu 0 <|
    kno 0 <|
    kno 1 <|
    hk (fun cx=>cx.q (ex_pt rfl (cx.u 0 rfl) rfl)) <|
    kmu 0 <|
    hn) ?_
   intro a5 w5 f5
   refine wp_ret ?_
   try simp only [Exit.inBlock,Exit.then]
   refine bodyPost_ret (res_t (fn:=Try.f111) rfl (f5.v 14 rfl rfl rfl)) f5.d ?_
   have HE:(.bool true:Value)=.bool (widthB w):=by unfold widthB;simp only [Ffk1.out,Ffk2.out,Bool.true_and,Bool.and_true,Bool.false_and,Bool.and_false,Bool.or_false,Bool.false_or,Bool.true_or,Bool.or_true,Bool.not_true,Bool.not_false,if_true,if_false,Bool.false_eq_true,Bool.true_eq_false,reduceCtorEq];try rfl
   exact ⟨retV HE,f5.b⟩
  have Ffk1:=Lib.hid fk1;clear fk1
  have s0_5:=f1.q 0 s0_0
  refine go_reg [] [] [some (.int .i8 w),oT,oT,oU,oU,oT,oT,oU,oU,oT,oT,oU,oU,oT,oT] mo f1.d f1.z f1.b (by kernel_rfl) trivial (
   hk (fun cx=>cx.q (ex_mv rfl (cx.rq 0 s0_5))) <|
   hk (fun cx=>cx.v (ex_eq (x:=.tmp 3) rfl (cx.u 0 rfl) rfl) rfl (congrArg Value.bool Ffk1.out)) <|
   kmu 0 <|
   kno 0 <|
   kno 1 <|
   hk (fun cx=>cx.q (ex_pt rfl (cx.u 0 rfl) rfl)) <|
   kmu 0 <|
   kno 0 <|
   kno 1 <|
   hk (fun cx=>cx.q (ex_pt rfl (cx.u 0 rfl) rfl)) <|
   kmu 0 <|
   kno 0 <|
   kno 1 <|
   hk (fun cx=>cx.q (ex_pt rfl (cx.u 0 rfl) rfl)) <|
   kmu 0 <|
   hn) ?_
  intro a6 w6 f6
  refine wp_ret ?_
  try simp only [Exit.inBlock,Exit.then]
  refine bodyPost_ret (res_t (fn:=Try.f111) rfl (f6.v 14 rfl rfl rfl)) f6.d ?_
  have HE:(.bool true:Value)=.bool (widthB w):=by unfold widthB;simp only [Ffk1.out,Bool.true_and,Bool.and_true,Bool.false_and,Bool.and_false,Bool.or_false,Bool.false_or,Bool.true_or,Bool.or_true,Bool.not_true,Bool.not_false,if_true,if_false,Bool.false_eq_true,Bool.true_eq_false,reduceCtorEq];try rfl
  exact ⟨retV HE,f6.b⟩
set_option maxHeartbeats 4000000 in
theorem refcut_n (x:B) (w:Int) (W:World):Calls Try.prog 88 #[.int .u64 (V x),.int .i8 w] W fun e w'=>e=.returned (.int .u64 (V (cutB x w))) ∧ Below W.heap.size W w':=by
  refine calls_abs Try.func88 rfl (Nat.le_of_ble_eq_true rfl) ?_
  intro a0 d0 z0 h0
  replace z0:a0.tmps.size=19:=z0
  have s0_0:a0.tmps.getD 0 undef=.int .u64 (V x):=h0 0 (Nat.le_of_ble_eq_true rfl)
  have s1_0:a0.tmps.getD 1 undef=.int .i8 w:=h0 1 (Nat.le_of_ble_eq_true rfl)
  refine wp_seq ?_
  refine go_reg [] [] [some (.int .u64 0)] mo d0 z0 (Below.refl _ _) (by kernel_rfl) trivial (
   hk (fun cx=>cx.q (ex_as rfl rfl)) <|
   hn) ?_
  intro a1 w1 f1
  refine wp_seq ?_
  refine wp_seq ?_
  cases fk1:widthB w
  case false=>
   have Ffk1:=Lib.hid fk1;clear fk1
   have s1_1:=f1.q 1 s1_0
   refine go_reg [] [] [some (.int .i8 w),oF,oT,oT,oU,oU,oT] mo f1.d f1.z f1.b (by kernel_rfl) trivial (
    hk (fun cx=>cx.q (ex_mv rfl (cx.rq 1 s1_1))) <|
    hc (fun _ _ wx cx=>cx.c rfl (args1 (cx.u 0 rfl)) Try.func111 (by decide +kernel) (refwidth_n w wx) rfl (congrArg Value.bool Ffk1.out)) <|
    hk (fun cx=>cx.q (ex_not (x:=.tmp 6) rfl (cx.u 0 rfl))) <|
    kmu 0 <|
    kno 0 <|
    kno 1 <|
    hk (fun cx=>cx.q (ex_pt rfl (cx.u 0 rfl) rfl)) <|
    hn) ?_
   intro a2 w2 f2
   refine wp_cond_true (f2.v 6 rfl rfl rfl) ?_
   refine wp_seq ?_
   have s0_2:=f2.q 0 (f1.q 0 s0_0)
   refine go_reg [] [] [some (.int .u64 (V x)),some (.int .u64 (V x))] mo f2.d f2.z f2.b (by kernel_rfl) trivial (
    hk (fun cx=>cx.q (ex_mv rfl (cx.rq 0 s0_2))) <|
    kmu 0 <|
    hn) ?_
   intro a3 w3 f3
   refine wp_ret ?_
   try simp only [Exit.inBlock,Exit.then]
   refine bodyPost_ret (res_t (fn:=Try.f88) rfl (f3.v 1 rfl rfl rfl)) f3.d ?_
   have HE:(.int .u64 (V x):Value)=.int .u64 (V (cutB x w)):=congrArg (Value.int .u64) (cut_no x (.inl Ffk1.out))
   exact ⟨retV HE,f3.b⟩
  have Ffk1:=Lib.hid fk1;clear fk1
  have hwb:=Ffk1.out
  cases fk2:w == 64
  case false=>
   have Ffk2:=Lib.hid fk2;clear fk2
   have hw6:=Ffk2.out
   have s1_3:=f1.q 1 s1_0
   refine go_reg [] [] [some (.int .i8 w),oT,oF,oF,some (.int .i8 w),oF,oF] mo f1.d f1.z f1.b (by kernel_rfl) trivial (
    hk (fun cx=>cx.q (ex_mv rfl (cx.rq 1 s1_3))) <|
    hc (fun _ _ wx cx=>cx.c rfl (args1 (cx.u 0 rfl)) Try.func111 (by decide +kernel) (refwidth_n w wx) rfl (congrArg Value.bool Ffk1.out)) <|
    hk (fun cx=>cx.q (ex_not (x:=.tmp 6) rfl (cx.u 0 rfl))) <|
    kmu 0 <|
    hk (fun cx=>cx.vy 0 (ex_mv rfl (cx.rq 1 s1_3))) <|
    hk (fun cx=>cx.vy 1 (ex_eq (x:=.tmp 9) rfl (cx.u 0 rfl) rfl) (congrArg Value.bool Ffk2.out)) <|
    hk (fun cx=>cx.q (ex_pf rfl (cx.u 0 rfl) (cx.u 1 rfl))) <|
    hn) ?_
   intro a4 w4 f4
   refine wp_cond_false (f4.v 6 rfl rfl rfl) ?_
   refine wp_skip ?_
   refine wp_seq ?_
   have s0_4:=f4.q 0 (f1.q 0 s0_0)
   have s1_5:=f4.q 1 s1_3
   refine go_reg [] [] [some (.int .u64 (V x)),some (.int .i8 w),some (.int .u64 w),some (.int .u64 ((1 * 2 ^ Int.toNat w) % 18446744073709551616)),some (.int .u64 (IntKind.u64.wrap (((1 * 2 ^ Int.toNat w) % 18446744073709551616) - 1))),some (.int .u64 (V (cutB x w))),some (.int .u64 (V (cutB x w)))] mo f4.d f4.z f4.b (by kernel_rfl) trivial (
    hk (fun cx=>cx.q (ex_mv rfl (cx.rq 0 s0_4))) <|
    hk (fun cx=>cx.q (ex_mv rfl (cx.rq 1 s1_5))) <|
    hk (fun cx=>cx.v (ex_conv (x:=.tmp 14) rfl (cx.u 0 rfl) Try.underlying22 Try.underlying55) rfl (congrArg (Value.int .u64) (cut_u hwb hw6))) <|
    hk (fun cx=>cx.q (exec_shl (y:=.tmp 15) rfl rfl (cx.u 0 rfl) (cut_b hwb hw6).1 (cut_b hwb hw6).2)) <|
    hk (fun cx=>cx.q (ex_sub (x:=.tmp 16) rfl (cx.u 0 rfl) rfl)) <|
    hk (fun cx=>cx.v (ex_and (x:=.tmp 13) (y:=.tmp 17) rfl (cx.u 0 rfl) (cx.u 1 rfl)) rfl (congrArg (Value.int .u64) (cut_and x hwb hw6))) <|
    kmu 0 <|
    hn) ?_
   intro a5 w5 f5
   refine wp_ret ?_
   try simp only [Exit.inBlock,Exit.then]
   refine bodyPost_ret (res_t (fn:=Try.f88) rfl (f5.v 6 rfl rfl rfl)) f5.d ?_
   exact ⟨rfl,f5.b⟩
  have Ffk2:=Lib.hid fk2;clear fk2
  have s1_6:=f1.q 1 s1_0
  refine go_reg [] [] [some (.int .i8 w),oT,oF,oF,some (.int .i8 w),oT,oT] mo f1.d f1.z f1.b (by kernel_rfl) trivial (
   hk (fun cx=>cx.q (ex_mv rfl (cx.rq 1 s1_6))) <|
   hc (fun _ _ wx cx=>cx.c rfl (args1 (cx.u 0 rfl)) Try.func111 (by decide +kernel) (refwidth_n w wx) rfl (congrArg Value.bool Ffk1.out)) <|
   hk (fun cx=>cx.q (ex_not (x:=.tmp 6) rfl (cx.u 0 rfl))) <|
   kmu 0 <|
   hk (fun cx=>cx.vy 0 (ex_mv rfl (cx.rq 1 s1_6))) <|
   hk (fun cx=>cx.vy 1 (ex_eq (x:=.tmp 9) rfl (cx.u 0 rfl) rfl) (congrArg Value.bool Ffk2.out)) <|
   hk (fun cx=>cx.q (ex_pf rfl (cx.u 0 rfl) (cx.u 1 rfl))) <|
   hn) ?_
  intro a6 w6 f6
  refine wp_cond_true (f6.v 6 rfl rfl rfl) ?_
  refine wp_seq ?_
  have s0_7:=f6.q 0 (f1.q 0 s0_0)
  refine go_reg [] [] [some (.int .u64 (V x)),some (.int .u64 (V x))] mo f6.d f6.z f6.b (by kernel_rfl) trivial (
   hk (fun cx=>cx.q (ex_mv rfl (cx.rq 0 s0_7))) <|
   kmu 0 <|
   hn) ?_
  intro a7 w7 f7
  refine wp_ret ?_
  try simp only [Exit.inBlock,Exit.then]
  refine bodyPost_ret (res_t (fn:=Try.f88) rfl (f7.v 1 rfl rfl rfl)) f7.d ?_
  have HE:(.int .u64 (V x):Value)=.int .u64 (V (cutB x w)):=congrArg (Value.int .u64) (cut_no x (.inr Ffk2.out))
  exact ⟨retV HE,f7.b⟩
set_option maxHeartbeats 4000000 in
theorem lcut_n (a:Kn) (w:Int) (W:World):Calls Try.prog 59 #[.agg (knC a),.int .i8 w] W fun e w'=>e=.returned (.agg (knC (Kn.cutK a w))) ∧ Below W.heap.size W w':=by
  refine calls_abs Try.func59 rfl (Nat.le_of_ble_eq_true rfl) ?_
  intro a0 d0 z0 h0
  replace z0:a0.tmps.size=18:=z0
  have s0_0:a0.tmps.getD 0 undef=.agg (knC a):=h0 0 (Nat.le_of_ble_eq_true rfl)
  have s1_0:a0.tmps.getD 1 undef=.int .i8 w:=h0 1 (Nat.le_of_ble_eq_true rfl)
  refine wp_seq ?_
  refine go_reg [] [⟨0,2,27,(knC a),none,#[]⟩,⟨1,4,27,(knC zKn),none,#[]⟩] [none,none] mo d0 z0 (Below.refl _ _) (by kernel_rfl) trivial (
   hk (fun cx=>cx.al (wn rfl) 0 rfl (ex_box rfl (cx.rq 0 s0_0) rfl) rfl rfl rfl rfl rfl trivial) <|
   hk (fun cx=>cx.al (wn rfl) 1 rfl (al_kn rfl) rfl rfl rfl rfl rfl trivial) <|
   hn) ?_
  intro a1 w1 f1
  obtain ⟨g1,u_g1,q_g1,b_g1⟩:=f1.al.1
  obtain ⟨g2,u_g2,q_g2,b_g2⟩:=f1.al.2.1
  refine wp_seq ?_
  refine wp_seq ?_
  cases fk1:Kn.mayB a
  case false=>
   have Ffk1:=Lib.hid fk1;clear fk1
   refine go_reg [bx g1 27 (knC a)] [] [some (.agg (knC a)),oF,oT] mo f1.d f1.z f1.b (by kernel_rfl) ⟨b_g1,trivial⟩ (
    hk (fun cx=>cx.q (ldKn rfl (cx.rq 2 u_g1) (cx.rn 0 rfl))) <|
    hc (fun _ _ wx cx=>cx.c rfl (args1 (cx.u 0 rfl)) Try.func72 (by decide +kernel) (lmay_n a wx) rfl (congrArg Value.bool Ffk1.out)) <|
    hk (fun cx=>cx.q (ex_not (x:=.tmp 6) rfl (cx.u 0 rfl))) <|
    hn) ?_
   intro a2 w2 f2
   refine wp_cond_true (f2.v 2 rfl rfl rfl) ?_
   refine wp_seq ?_
   have b_g2_1:=f2.k b_g2
   have s4_2:=f2.q 4 u_g2
   refine go_reg [⟨g2,27,(knC zKn),some 1,(knC allK)⟩] [] [some (.agg (knC allK)),none] mo f2.d f2.z f2.b (by kernel_rfl) ⟨b_g2_1,trivial⟩ (
    hc (fun _ _ wx cx=>cx.c rfl (args0 ) Try.func60 (by decide +kernel) (lall_n wx) rfl rfl) <|
    hk (fun cx=>cx.stR (wn rfl) rfl rfl 0 rfl (cx.rq 4 s4_2) (cx.u 0 rfl) (by kernel_rfl) (Eq.refl 2) (knC_one _) q_g2 rfl trivial trivial) <|
    hn) ?_
   intro a3 w3 f3
   refine wp_ret ?_
   have s4_3:=f3.q 4 s4_2
   try simp only [Exit.inBlock,Exit.then]
   refine bodyPost_ret (res_c (fn:=Try.f59) rfl s4_3 (load_row 27 f3.rows.1 Try.underlying27 rfl (by kernel_rfl))) f3.d ?_
   have HE:(.agg (knC allK):Value)=.agg (knC (Kn.cutK a w)):=by unfold Kn.cutK;rw [if_neg (by rw [Ffk1.out];exact Bool.false_ne_true)]
   exact ⟨retV HE,f3.b⟩
  have Ffk1:=Lib.hid fk1;clear fk1
  refine go_reg [bx g1 27 (knC a)] [] [some (.agg (knC a)),oT,oF] mo f1.d f1.z f1.b (by kernel_rfl) ⟨b_g1,trivial⟩ (
   hk (fun cx=>cx.q (ldKn rfl (cx.rq 2 u_g1) (cx.rn 0 rfl))) <|
   hc (fun _ _ wx cx=>cx.c rfl (args1 (cx.u 0 rfl)) Try.func72 (by decide +kernel) (lmay_n a wx) rfl (congrArg Value.bool Ffk1.out)) <|
   hk (fun cx=>cx.q (ex_not (x:=.tmp 6) rfl (cx.u 0 rfl))) <|
   hn) ?_
  intro a4 w4 f4
  refine wp_cond_false (f4.v 2 rfl rfl rfl) ?_
  refine wp_skip ?_
  refine wp_seq ?_
  have b_g1_4:=f4.k b_g1
  have b_g2_5:=f4.k b_g2
  have s2_6:=f4.q 2 u_g1
  have s1_7:=f4.q 1 (f1.q 1 s1_0)
  have s4_8:=f4.q 4 u_g2
  refine go_reg [bx g1 27 (knC a),⟨g2,27,(knC zKn),some 9,(knC ⟨cutB a.v w,cutB a.m w⟩)⟩] [] [some (pt g1 0),some (.int .u64 (V a.v)),some (.int .i8 w),some (.int .u64 (V (cutB a.v w))),some (pt g1 1),some (.int .u64 (V a.m)),some (.int .i8 w),some (.int .u64 (V (cutB a.m w))),some (.agg (knC ⟨cutB a.v w,cutB a.m w⟩)),none] mo f4.d f4.z f4.b (by kernel_rfl) ⟨b_g1_4,b_g2_5,trivial⟩ (
   hk (fun cx=>cx.q (ex_fa rfl (cx.rq 2 s2_6) (faStG27_0_0 _ _))) <|
   hk (fun cx=>cx.q (ex_ld rfl (cx.u 0 rfl) (cx.rn 0 rfl) rfl Try.isAgg23)) <|
   hk (fun cx=>cx.q (ex_mv rfl (cx.rq 1 s1_7))) <|
   hc (fun _ _ wx cx=>cx.c rfl (args2 (cx.u 0 rfl) (cx.u 1 rfl)) Try.func88 (by decide +kernel) (refcut_n a.v w wx) rfl rfl) <|
   hk (fun cx=>cx.q (ex_fa rfl (cx.rq 2 s2_6) (faStG27_1_0 _ _))) <|
   hk (fun cx=>cx.q (ex_ld rfl (cx.u 0 rfl) (cx.rn 0 rfl) rfl Try.isAgg23)) <|
   hk (fun cx=>cx.q (ex_mv rfl (cx.rq 1 s1_7))) <|
   hc (fun _ _ wx cx=>cx.c rfl (args2 (cx.u 0 rfl) (cx.u 1 rfl)) Try.func88 (by decide +kernel) (refcut_n a.m w wx) rfl rfl) <|
   hk (fun cx=>cx.q (exec_build rfl (parts2 (cx.u 0 rfl) (cx.u 1 rfl)) (by kernel_rfl))) <|
   hk (fun cx=>cx.stR (wn rfl) rfl rfl 1 rfl (cx.rq 4 s4_8) (cx.u 0 rfl) (by kernel_rfl) (Eq.refl 2) (knC_one _) q_g2 rfl ⟨(ne_ptr (pairAt f1.ps 0 1 (by decide) rfl rfl) u_g1 u_g2),trivial⟩ trivial) <|
   hn) ?_
  intro a5 w5 f5
  refine wp_ret ?_
  have s4_9:=f5.q 4 s4_8
  try simp only [Exit.inBlock,Exit.then]
  refine bodyPost_ret (res_c (fn:=Try.f59) rfl s4_9 (load_row 27 f5.rows.2.1 Try.underlying27 rfl (by kernel_rfl))) f5.d ?_
  have HE:(.agg (knC ⟨cutB a.v w,cutB a.m w⟩):Value)=.agg (knC (Kn.cutK a w)):=by rw [cutK_is ((may_ok a).1 Ffk1.out)]
  exact ⟨retV HE,f5.b⟩
theorem ones_sh {k:Nat} (hk:k < 64):bits .or .u64 (V (onesB k) * 2 ^ Int.toNat 1 % 18446744073709551616) 1=V (onesB (k + 1)):=by
  have p:(2:Int) ^ k=((2 ^ k:Nat):Int):=pow_cast k
  have e2:(2:Int) ^ (k + 1)=((2 ^ (k + 1):Nat):Int):=pow_cast (k + 1)
  have s:2 ^ (k + 1)=2 ^ k * 2:=Nat.pow_succ 2 k
  have q:2 ^ (k + 1) ≤ 2 ^ 64:=Nat.pow_le_pow_right (by decide) (by omega)
  have r:0 < 2 ^ k:=Nat.two_pow_pos _
  rw [ones_V (by omega),ones_V (by omega),p,e2,show (2:Int) ^ Int.toNat 1=2 from rfl,Int.emod_eq_of_lt (by omega) (by omega),u64_or _ _ (by omega) (by omega) (by omega) (by omega)]
  have n1:(((2 ^ k:Nat):Int) - 1) * 2=((2 * (2 ^ k - 1):Nat):Int):=by omega
  rw [n1,Int.toNat_natCast]
  have o:2 * (2 ^ k - 1) ||| (1:Int).toNat=2 * (2 ^ k - 1) + 1:=by
    have:=Nat.two_pow_add_eq_or_of_lt (i:=1) (b:=1) (by omega) (2 ^ k - 1)
    rw [Nat.pow_one] at this
    exact this.symm
  rw [o];omega
set_option maxHeartbeats 4000000 in
theorem lcom_n (lo hi:B) (W:World):Calls Try.prog 114 #[.int .u64 (V lo),.int .u64 (V hi)] W fun e w'=>e=.returned (.agg (knC (comK lo hi))) ∧ Below W.heap.size W w':=by
  have hlen:lenN (lo ^^^ hi).toNat ≤ 64:=lenN_64 (by have:=(lo ^^^ hi).isLt;omega)
  refine calls_abs Try.func114 rfl (Nat.le_of_ble_eq_true rfl) ?_
  intro a0 d0 z0 h0
  replace z0:a0.tmps.size=24:=z0
  have s0_0:a0.tmps.getD 0 undef=.int .u64 (V lo):=h0 0 (Nat.le_of_ble_eq_true rfl)
  have s1_0:a0.tmps.getD 1 undef=.int .u64 (V hi):=h0 1 (Nat.le_of_ble_eq_true rfl)
  refine wp_seq ?_
  refine go_reg [] [⟨0,4,27,(knC zKn),none,#[]⟩] [none] mo d0 z0 (Below.refl _ _) (by kernel_rfl) trivial (
   hk (fun cx=>cx.al (wn rfl) 0 rfl (al_kn rfl) rfl rfl rfl rfl rfl trivial) <|
   hn) ?_
  intro a1 w1 f1
  obtain ⟨g1,u_g1,q_g1,b_g1⟩:=f1.al.1
  refine wp_seq ?_
  refine wp_seq ?_
  cases fk1:decide ((V hi) < (V lo))
  case false=>
   have Ffk1:=Lib.hid fk1;clear fk1
   have s0_1:=f1.q 0 s0_0
   have s1_2:=f1.q 1 s1_0
   refine go_reg [] [] [some (.int .u64 (V lo)),some (.int .u64 (V hi)),oF] mo f1.d f1.z f1.b (by kernel_rfl) trivial (
    hk (fun cx=>cx.q (ex_mv rfl (cx.rq 0 s0_1))) <|
    hk (fun cx=>cx.q (ex_mv rfl (cx.rq 1 s1_2))) <|
    hk (fun cx=>cx.v (ex_gt (x:=.tmp 6) (y:=.tmp 7) rfl (cx.u 0 rfl) (cx.u 1 rfl)) rfl (congrArg Value.bool Ffk1.out)) <|
    hn) ?_
   intro a2 w2 f2
   refine wp_cond_false (f2.v 2 rfl rfl rfl) ?_
   refine wp_skip ?_
   refine wp_seq ?_
   refine go_reg [] [] [some (.int .u64 0)] mo f2.d f2.z f2.b (by kernel_rfl) trivial (
    hk (fun cx=>cx.q (ex_as rfl rfl)) <|
    hn) ?_
   intro a3 w3 f3
   refine wp_seq ?_
   refine wp_block ?_
   have s0_3:=f3.q 0 (f2.q 0 s0_1)
   have s1_4:=f3.q 1 (f2.q 1 s1_2)
   have s4_5:=f3.q 4 (f2.q 4 u_g1)
   have b_g1_6:=f3.k (f2.k b_g1)
   refine wp_count (lenN (lo ^^^ hi).toNat) (fun k1 aI wI=>True ∧ Mid 24 W [(0,.int .u64 (V lo)),(1,.int .u64 (V hi)),(4,.pointer (some ⟨g1,0,none⟩)),(5,.int .u64 (V (onesB k1)))] [(g1,27,(knC zKn))] aI wI) ⟨trivial,f3.d,f3.z,f3.b,⟨s0_3,s1_4,s4_5,((f3.v 0 rfl rfl rfl).trans (congrArg (Value.int .u64) (show 0=V (onesB 0) from by decide))),trivial⟩,⟨b_g1_6,trivial⟩⟩ ?_
   intro k1 aL1 wL1 hlek1 hI1
   obtain ⟨hp1,dL1,zL1,BL1,⟨sL1_0,sL1_1,sL1_4,sL1_5,-⟩,⟨bL1_g1,-⟩⟩:=hI1
   replace sL1_0:aL1.tmps.getD 0 undef=.int .u64 (V lo):=sL1_0
   replace sL1_1:aL1.tmps.getD 1 undef=.int .u64 (V hi):=sL1_1
   replace sL1_4:aL1.tmps.getD 4 undef=.pointer (some ⟨g1,0,none⟩):=sL1_4
   replace sL1_5:aL1.tmps.getD 5 undef=.int .u64 (V (onesB k1)):=sL1_5
   replace bL1_g1:wL1.heap[g1]?=some (.cells (knC zKn) 27 (0,0)):=bL1_g1
   refine wp_seq ?_
   refine wp_seq ?_
   cases fk2:(V ((lo ^^^ hi) &&& ~~~onesB k1)) != 0
   case true=>
    have Ffk2:=Lib.hid fk2;clear fk2
    have hlt1:k1 < lenN (lo ^^^ hi).toNat:=by have h:=bne_no Ffk2.out;rw [ones_test (by omega)] at h;simp only [Bool.not_true,decide_eq_false_iff_not] at h;omega
    refine go_reg [] [] [some (.int .u64 (V lo)),some (.int .u64 (V hi)),some (.int .u64 (V (lo ^^^ hi))),some (.int .u64 (V (onesB k1))),some (.int .u64 (V ((lo ^^^ hi) &&& ~~~onesB k1))),oT] mo dL1 zL1 BL1 (by kernel_rfl) trivial (
     hk (fun cx=>cx.q (ex_mv rfl (cx.rq 0 sL1_0))) <|
     hk (fun cx=>cx.q (ex_mv rfl (cx.rq 1 sL1_1))) <|
     hk (fun cx=>cx.v (ex_xor (x:=.tmp 10) (y:=.tmp 11) rfl (cx.u 0 rfl) (cx.u 1 rfl)) rfl (congrArg (Value.int .u64) (V_xor _ _))) <|
     hk (fun cx=>cx.q (ex_mv rfl (cx.rq 5 sL1_5))) <|
     hk (fun cx=>cx.v (ex_an (x:=.tmp 12) (y:=.tmp 13) rfl (cx.u 0 rfl) (cx.u 1 rfl)) rfl (congrArg (Value.int .u64) (V_an _ _))) <|
     hk (fun cx=>cx.v (ex_ne (x:=.tmp 14) rfl (cx.u 0 rfl) rfl) rfl (congrArg Value.bool Ffk2.out)) <|
     hn) ?_
    intro a4 w4 f4
    refine wp_cond_true (f4.v 5 rfl rfl rfl) ?_
    refine wp_skip ?_
    refine wp_block ?_
    have s5_7:=f4.q 5 sL1_5
    refine go_reg [] [] [some (.int .u64 (V (onesB k1))),some (.int .u64 (V (onesB k1) * 2 ^ Int.toNat 1 % 18446744073709551616)),some (.int .u64 (V (onesB (k1 + 1)))),some (.int .u64 (V (onesB (k1 + 1))))] mo f4.d f4.z f4.b (by kernel_rfl) trivial (
     hk (fun cx=>cx.q (ex_mv rfl (cx.un 3 rfl rfl (by kernel_rfl) s5_7))) <|
     hk (fun cx=>cx.q (exec_shl (x:=.tmp 16) rfl (cx.u 0 rfl) rfl (by decide) (by decide))) <|
     hk (fun cx=>cx.v (ex_or (x:=.tmp 17) rfl (cx.u 0 rfl) rfl) rfl (congrArg (Value.int .u64) (ones_sh (by omega)))) <|
     kmu 0 <|
     hn) ?_
    intro a5 w5 f5
    have s0_8:=f5.q 0 (f4.q 0 sL1_0)
    have s1_9:=f5.q 1 (f4.q 1 sL1_1)
    have s4_10:=f5.q 4 (f4.q 4 sL1_4)
    have b_g1_11:=f5.k (f4.k bL1_g1)
    exact ⟨hlt1,trivial,f5.d,f5.z,f5.b,⟨s0_8,s1_9,s4_10,(f5.v 3 rfl rfl rfl),trivial⟩,⟨b_g1_11,trivial⟩⟩
   have Ffk2:=Lib.hid fk2;clear fk2
   have hge1:k1=lenN (lo ^^^ hi).toNat:=by have h:=bne_no Ffk2.out;rw [ones_test (by omega)] at h;simp only [Bool.not_false,decide_eq_true_eq] at h;omega
   refine go_reg [] [] [some (.int .u64 (V lo)),some (.int .u64 (V hi)),some (.int .u64 (V (lo ^^^ hi))),some (.int .u64 (V (onesB k1))),some (.int .u64 (V ((lo ^^^ hi) &&& ~~~onesB k1))),oF] mo dL1 zL1 BL1 (by kernel_rfl) trivial (
    hk (fun cx=>cx.q (ex_mv rfl (cx.rq 0 sL1_0))) <|
    hk (fun cx=>cx.q (ex_mv rfl (cx.rq 1 sL1_1))) <|
    hk (fun cx=>cx.v (ex_xor (x:=.tmp 10) (y:=.tmp 11) rfl (cx.u 0 rfl) (cx.u 1 rfl)) rfl (congrArg (Value.int .u64) (V_xor _ _))) <|
    hk (fun cx=>cx.q (ex_mv rfl (cx.rq 5 sL1_5))) <|
    hk (fun cx=>cx.v (ex_an (x:=.tmp 12) (y:=.tmp 13) rfl (cx.u 0 rfl) (cx.u 1 rfl)) rfl (congrArg (Value.int .u64) (V_an _ _))) <|
    hk (fun cx=>cx.v (ex_ne (x:=.tmp 14) rfl (cx.u 0 rfl) rfl) rfl (congrArg Value.bool Ffk2.out)) <|
    hn) ?_
   intro a6 w6 f6
   refine wp_cond_false (f6.v 5 rfl rfl rfl) ?_
   refine wp_exit ?_
   simp only [Exit.then,Exit.inBlock,if_true]
   refine wp_seq ?_
   have b_g1_12:=f6.k bL1_g1
   have s0_13:=f6.q 0 sL1_0
   have s5_14:=f6.q 5 sL1_5
   have s4_15:=f6.q 4 sL1_4
   refine go_reg [⟨g1,27,(knC zKn),some 5,(knC ⟨lo &&& ~~~onesB k1,onesB k1⟩)⟩] [] [some (.int .u64 (V lo)),some (.int .u64 (V (onesB k1))),some (.int .u64 (V (lo &&& ~~~onesB k1))),some (.int .u64 (V (onesB k1))),some (.agg (knC ⟨lo &&& ~~~onesB k1,onesB k1⟩)),none] mo f6.d f6.z f6.b (by kernel_rfl) ⟨b_g1_12,trivial⟩ (
    hk (fun cx=>cx.q (ex_mv rfl (cx.rq 0 s0_13))) <|
    hk (fun cx=>cx.q (ex_mv rfl (cx.rq 5 s5_14))) <|
    hk (fun cx=>cx.v (ex_an (x:=.tmp 19) (y:=.tmp 20) rfl (cx.u 0 rfl) (cx.u 1 rfl)) rfl (congrArg (Value.int .u64) (V_an _ _))) <|
    hk (fun cx=>cx.q (ex_mv rfl (cx.rq 5 s5_14))) <|
    hk (fun cx=>cx.q (exec_build rfl (parts2 (cx.u 0 rfl) (cx.u 1 rfl)) (by kernel_rfl))) <|
    hk (fun cx=>cx.stR (wn rfl) rfl rfl 0 rfl (cx.rq 4 s4_15) (cx.u 0 rfl) (by kernel_rfl) (Eq.refl 2) (knC_one _) q_g1 rfl trivial trivial) <|
    hn) ?_
   intro a7 w7 f7
   refine wp_ret ?_
   have s4_16:=f7.q 4 s4_15
   try simp only [Exit.inBlock,Exit.then]
   refine bodyPost_ret (res_c (fn:=Try.f114) rfl s4_16 (load_row 27 f7.rows.1 Try.underlying27 rfl (by kernel_rfl))) f7.d ?_
   have HE:(.agg (knC ⟨lo &&& ~~~onesB k1,onesB k1⟩):Value)=.agg (knC (comK lo hi)):=by unfold comK;rw [if_pos (by have:=Ffk1.out;simp only [decide_eq_true_eq,decide_eq_false_iff_not] at this;omega)];rw [com_ones,← hge1];rfl
   exact ⟨retV HE,f7.b⟩
  have Ffk1:=Lib.hid fk1;clear fk1
  have s0_17:=f1.q 0 s0_0
  have s1_18:=f1.q 1 s1_0
  refine go_reg [] [] [some (.int .u64 (V lo)),some (.int .u64 (V hi)),oT] mo f1.d f1.z f1.b (by kernel_rfl) trivial (
   hk (fun cx=>cx.q (ex_mv rfl (cx.rq 0 s0_17))) <|
   hk (fun cx=>cx.q (ex_mv rfl (cx.rq 1 s1_18))) <|
   hk (fun cx=>cx.v (ex_gt (x:=.tmp 6) (y:=.tmp 7) rfl (cx.u 0 rfl) (cx.u 1 rfl)) rfl (congrArg Value.bool Ffk1.out)) <|
   hn) ?_
  intro a8 w8 f8
  refine wp_cond_true (f8.v 2 rfl rfl rfl) ?_
  refine wp_seq ?_
  have b_g1_19:=f8.k b_g1
  have s4_20:=f8.q 4 u_g1
  refine go_reg [⟨g1,27,(knC zKn),some 1,(knC allK)⟩] [] [some (.agg (knC allK)),none] mo f8.d f8.z f8.b (by kernel_rfl) ⟨b_g1_19,trivial⟩ (
   hc (fun _ _ wx cx=>cx.c rfl (args0 ) Try.func60 (by decide +kernel) (lall_n wx) rfl rfl) <|
   hk (fun cx=>cx.stR (wn rfl) rfl rfl 0 rfl (cx.rq 4 s4_20) (cx.u 0 rfl) (by kernel_rfl) (Eq.refl 2) (knC_one _) q_g1 rfl trivial trivial) <|
   hn) ?_
  intro a9 w9 f9
  refine wp_ret ?_
  have s4_21:=f9.q 4 s4_20
  try simp only [Exit.inBlock,Exit.then]
  refine bodyPost_ret (res_c (fn:=Try.f114) rfl s4_21 (load_row 27 f9.rows.1 Try.underlying27 rfl (by kernel_rfl))) f9.d ?_
  have HE:(.agg (knC allK):Value)=.agg (knC (comK lo hi)):=by unfold comK;rw [if_neg (by have:=Ffk1.out;simp only [decide_eq_true_eq,decide_eq_false_iff_not] at this;omega)]
  exact ⟨retV HE,f9.b⟩
end Go.Proofs.Ytcnneeimkcnjfaa.Sta
