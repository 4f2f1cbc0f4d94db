import Derived.Test.YtcnneeimkcnjfaaStG
import Derived.Test.YtcnneeimkcnjfaaStF
import Derived.Test.YtcnneeimkcnjfaaSbS
namespace Go.Proofs.Ytcnneeimkcnjfaa.Sta
open Go.RowKit Bnd Knw
set_option linter.unusedVariables false
set_option linter.unusedSimpArgs false
set_option linter.unnecessarySimpa false
set_option maxRecDepth 100000
theorem faStH29_0_0 (g:Nat) (w:World):(Instr.fieldAt 29 (.pointer (some ⟨g,0,none⟩)) 0).run Try.prog w=.ok (.pointer (some ⟨g,0,none⟩)) w:=by simp [go_sem]
theorem faStH29_1_0 (g:Nat) (w:World):(Instr.fieldAt 29 (.pointer (some ⟨g,0,none⟩)) 1).run Try.prog w=.ok (.pointer (some ⟨g,4,none⟩)) w:=by simp [go_sem]
theorem faStH27_0_4 (g:Nat) (w:World):(Instr.fieldAt 27 (.pointer (some ⟨g,4,none⟩)) 0).run Try.prog w=.ok (.pointer (some ⟨g,4,none⟩)) w:=by simp [go_sem]
theorem faStH25_0_0 (g:Nat) (w:World):(Instr.fieldAt 25 (.pointer (some ⟨g,0,none⟩)) 0).run Try.prog w=.ok (.pointer (some ⟨g,0,none⟩)) w:=by simp [go_sem]
theorem faStH27_1_4 (g:Nat) (w:World):(Instr.fieldAt 27 (.pointer (some ⟨g,4,none⟩)) 1).run Try.prog w=.ok (.pointer (some ⟨g,5,none⟩)) w:=by simp [go_sem]
theorem faStH25_1_0 (g:Nat) (w:World):(Instr.fieldAt 25 (.pointer (some ⟨g,0,none⟩)) 1).run Try.prog w=.ok (.pointer (some ⟨g,1,none⟩)) w:=by simp [go_sem]
set_option maxHeartbeats 4000000 in
theorem wmay_n (a:Sc) (W:World):Calls Try.prog 43 #[.agg (scC a)] W fun e w'=>e=.returned (.bool (Sc.mayB a)) ∧ Below W.heap.size W w':=by
  refine calls_abs Try.func43 rfl (Nat.le_of_ble_eq_true rfl) ?_
  intro a0 d0 z0 h0
  replace z0:a0.tmps.size=11:=z0
  have s0_0:a0.tmps.getD 0 undef=.agg (scC a):=h0 0 (Nat.le_of_ble_eq_true rfl)
  refine wp_seq ?_
  refine go_reg [] [⟨0,1,29,(scC a),none,#[]⟩] [none,oF] mo d0 z0 (Below.refl _ _) (by kernel_rfl) trivial (
   hk (fun cx=>cx.al (wn rfl) 0 rfl (ex_box rfl (cx.rq 0 s0_0) rfl) rfl rfl rfl rfl rfl trivial) <|
   hk (fun cx=>cx.q (ex_as rfl rfl)) <|
   hn) ?_
  intro a1 w1 f1
  obtain ⟨g1,u_g1,q_g1,b_g1⟩:=f1.al.1
  refine wp_seq ?_
  cases fk1:Rg.mayB a.r
  case false=>
   have Ffk1:=Lib.hid fk1;clear fk1
   refine go_reg [bx g1 29 (scC a)] [] [some (pt g1 0),some (.agg (cR a.r.u.lo a.r.u.hi a.r.s.lo a.r.s.hi)),oF,oF,oU,oU,oU,oF,oF] mo f1.d f1.z f1.b (by kernel_rfl) ⟨b_g1,trivial⟩ (
    hk (fun cx=>cx.q (ex_fa rfl (cx.rq 1 u_g1) (faStH29_0_0 _ _))) <|
    hk (fun cx=>cx.q (exec_loadR 25 _ rfl g1 0 (cx.u 0 rfl) (cx.rn 0 rfl) [.int .u64 a.r.u.lo,.int .u64 a.r.u.hi,.int .i64 a.r.s.lo,.int .i64 a.r.s.hi] rfl _ Try.underlying25 rfl (by kernel_rfl))) <|
    hc (fun _ _ wx cx=>cx.c rfl (args1 (cx.u 0 rfl)) Try.func71 (by decide +kernel) (rmay_n a.r.u.lo a.r.u.hi a.r.s.lo a.r.s.hi wx) rfl (congrArg Value.bool Ffk1.out)) <|
    kmu 0 <|
    kno 0 <|
    kno 1 <|
    kno 1 <|
    hk (fun cx=>cx.q (ex_pf rfl (cx.u 0 rfl) rfl)) <|
    kmu 0 <|
    hn) ?_
   intro a2 w2 f2
   refine wp_ret ?_
   try simp only [Exit.inBlock,Exit.then]
   refine bodyPost_ret (res_t (fn:=Try.f43) rfl (f2.v 8 rfl rfl rfl)) f2.d ?_
   have HE:(.bool false:Value)=.bool (Sc.mayB a):=by unfold Sc.mayB;simp only [Ffk1.out,Bool.true_and,Bool.and_true,Bool.false_and,Bool.and_false,Bool.or_false,Bool.false_or,Bool.true_or,Bool.or_true,Bool.not_true,Bool.not_false,if_true,if_false,Bool.false_eq_true,Bool.true_eq_false,reduceCtorEq];try rfl
   exact ⟨retV HE,f2.b⟩
  have Ffk1:=Lib.hid fk1;clear fk1
  refine go_reg [bx g1 29 (scC a)] [] [some (pt g1 0),some (.agg (cR a.r.u.lo a.r.u.hi a.r.s.lo a.r.s.hi)),oT,oT,some (pt g1 4),some (.agg (knC a.k)),some (.bool (Kn.mayB a.k)),some (.bool (Kn.mayB a.k)),some (.bool (Kn.mayB a.k))] mo f1.d f1.z f1.b (by kernel_rfl) ⟨b_g1,trivial⟩ (
   hk (fun cx=>cx.q (ex_fa rfl (cx.rq 1 u_g1) (faStH29_0_0 _ _))) <|
   hk (fun cx=>cx.q (exec_loadR 25 _ rfl g1 0 (cx.u 0 rfl) (cx.rn 0 rfl) [.int .u64 a.r.u.lo,.int .u64 a.r.u.hi,.int .i64 a.r.s.lo,.int .i64 a.r.s.hi] rfl _ Try.underlying25 rfl (by kernel_rfl))) <|
   hc (fun _ _ wx cx=>cx.c rfl (args1 (cx.u 0 rfl)) Try.func71 (by decide +kernel) (rmay_n a.r.u.lo a.r.u.hi a.r.s.lo a.r.s.hi wx) rfl (congrArg Value.bool Ffk1.out)) <|
   kmu 0 <|
   hk (fun cx=>cx.vy 0 (ex_fa rfl (cx.rq 1 u_g1) (faStH29_1_0 _ _))) <|
   hk (fun cx=>cx.vy 1 (exec_loadR 27 _ rfl g1 4 (cx.u 0 rfl) (cx.rn 0 rfl) [.int .u64 (V a.k.v),.int .u64 (V a.k.m)] rfl _ Try.underlying27 rfl (by kernel_rfl))) <|
   hc (fun _ _ wx cx=>cx.call (cx.wy rfl rfl rfl rfl (cx.u 1 rfl)) rfl rfl (args1 (cx.u 0 rfl)) Try.func72 (by decide +kernel) rfl (lmay_n a.k wx) rfl rfl rfl rfl) <|
   hk (fun cx=>cx.q (ex_pt rfl (cx.u 0 rfl) (cx.u 1 rfl))) <|
   kmu 0 <|
   hn) ?_
  intro a3 w3 f3
  refine wp_ret ?_
  try simp only [Exit.inBlock,Exit.then]
  refine bodyPost_ret (res_t (fn:=Try.f43) rfl (f3.v 8 rfl rfl rfl)) f3.d ?_
  have HE:(.bool (Kn.mayB a.k):Value)=.bool (Sc.mayB a):=by unfold Sc.mayB;simp only [Ffk1.out,Bool.true_and,Bool.and_true,Bool.false_and,Bool.and_false,Bool.or_false,Bool.false_or,Bool.true_or,Bool.or_true,Bool.not_true,Bool.not_false,if_true,if_false,Bool.false_eq_true,Bool.true_eq_false,reduceCtorEq];try rfl
  exact ⟨retV HE,f3.b⟩
set_option maxHeartbeats 4000000 in
theorem wall_n  (W:World):Calls Try.prog 41 #[] W fun e w'=>e=.returned (.agg (scC allC)) ∧ Below W.heap.size W w':=by
  refine calls_abs Try.func41 rfl (Nat.le_of_ble_eq_true rfl) ?_
  intro a0 d0 z0 h0
  replace z0:a0.tmps.size=4:=z0
  refine wp_seq ?_
  refine go_reg [] [⟨0,0,29,(scC zSc),none,#[]⟩] [none] mo d0 z0 (Below.refl _ _) (by kernel_rfl) trivial (
   hk (fun cx=>cx.al (wn rfl) 0 rfl (al_sc rfl) rfl rfl rfl rfl rfl trivial) <|
   hn) ?_
  intro a1 w1 f1
  obtain ⟨g1,u_g1,q_g1,b_g1⟩:=f1.al.1
  refine wp_seq ?_
  refine go_reg [⟨g1,29,(scC zSc),some 3,(scC ⟨allR,allK⟩)⟩] [] [some (.agg (cR allR.u.lo allR.u.hi allR.s.lo allR.s.hi)),some (.agg (knC allK)),some (.agg (scC ⟨allR,allK⟩)),none] mo f1.d f1.z f1.b (by kernel_rfl) ⟨b_g1,trivial⟩ (
   hc (fun _ _ wx cx=>cx.c rfl (args0 ) Try.func68 (by decide +kernel) (rall_n wx) rfl rfl) <|
   hc (fun _ _ wx cx=>cx.c rfl (args0 ) Try.func60 (by decide +kernel) (lall_n wx) rfl rfl) <|
   hk (fun cx=>cx.q (exec_build rfl (parts2 (cx.u 0 rfl) (cx.u 1 rfl)) (by kernel_rfl))) <|
   hk (fun cx=>cx.stR (wn rfl) rfl rfl 0 rfl (cx.rq 0 u_g1) (cx.u 0 rfl) (by kernel_rfl) (Eq.refl 6) (scC_one _) q_g1 rfl trivial trivial) <|
   hn) ?_
  intro a2 w2 f2
  refine wp_ret ?_
  have s0_1:=f2.q 0 u_g1
  try simp only [Exit.inBlock,Exit.then]
  refine bodyPost_ret (res_c (fn:=Try.f41) rfl s0_1 (load_row 29 f2.rows.1 Try.underlying29 rfl (by kernel_rfl))) f2.d ?_
  have HE:(.agg (scC ⟨allR,allK⟩):Value)=.agg (scC allC):=rfl
  exact ⟨retV HE,f2.b⟩
set_option maxHeartbeats 4000000 in
theorem wone_n (v:B) (W:World):Calls Try.prog 39 #[.int .u64 (V v)] W fun e w'=>e=.returned (.agg (scC (oneC v))) ∧ Below W.heap.size W w':=by
  refine calls_abs Try.func39 rfl (Nat.le_of_ble_eq_true rfl) ?_
  intro a0 d0 z0 h0
  replace z0:a0.tmps.size=8:=z0
  have s0_0:a0.tmps.getD 0 undef=.int .u64 (V v):=h0 0 (Nat.le_of_ble_eq_true rfl)
  refine wp_seq ?_
  refine go_reg [] [⟨0,2,29,(scC zSc),none,#[]⟩] [none] mo d0 z0 (Below.refl _ _) (by kernel_rfl) trivial (
   hk (fun cx=>cx.al (wn rfl) 0 rfl (al_sc rfl) rfl rfl rfl rfl rfl trivial) <|
   hn) ?_
  intro a1 w1 f1
  obtain ⟨g1,u_g1,q_g1,b_g1⟩:=f1.al.1
  refine wp_seq ?_
  have s0_1:=f1.q 0 s0_0
  refine go_reg [⟨g1,29,(scC zSc),some 5,(scC ⟨oneR (V v),oneK v⟩)⟩] [] [some (.int .u64 (V v)),some (.agg (cR (oneR (V v)).u.lo (oneR (V v)).u.hi (oneR (V v)).s.lo (oneR (V v)).s.hi)),some (.int .u64 (V v)),some (.agg (knC (oneK v))),some (.agg (scC ⟨oneR (V v),oneK v⟩)),none] mo f1.d f1.z f1.b (by kernel_rfl) ⟨b_g1,trivial⟩ (
   hk (fun cx=>cx.q (ex_mv rfl (cx.rq 0 s0_1))) <|
   hc (fun _ _ wx cx=>cx.c rfl (args1 (cx.u 0 rfl)) Try.func65 (by decide +kernel) (rone_n (V v) wx) rfl rfl) <|
   hk (fun cx=>cx.q (ex_mv rfl (cx.rq 0 s0_1))) <|
   hc (fun _ _ wx cx=>cx.c rfl (args1 (cx.u 0 rfl)) Try.func66 (by decide +kernel) (lone_n v wx) rfl rfl) <|
   hk (fun cx=>cx.q (exec_build rfl (parts2 (cx.u 0 rfl) (cx.u 1 rfl)) (by kernel_rfl))) <|
   hk (fun cx=>cx.stR (wn rfl) rfl rfl 0 rfl (cx.rq 2 u_g1) (cx.u 0 rfl) (by kernel_rfl) (Eq.refl 6) (scC_one _) q_g1 rfl trivial trivial) <|
   hn) ?_
  intro a2 w2 f2
  refine wp_ret ?_
  have s2_2:=f2.q 2 u_g1
  try simp only [Exit.inBlock,Exit.then]
  refine bodyPost_ret (res_c (fn:=Try.f39) rfl s2_2 (load_row 29 f2.rows.1 Try.underlying29 rfl (by kernel_rfl))) f2.d ?_
  have HE:(.agg (scC ⟨oneR (V v),oneK v⟩):Value)=.agg (scC (oneC v)):=rfl
  exact ⟨retV HE,f2.b⟩
theorem has_no_may {a:Sc} (h:a.mayB=false) (v:B):a.hasB v=false:=by
  unfold Sc.mayB at h
  unfold Sc.hasB
  cases e:a.r.mayB with
  | false=>rw [has_no e];rfl
  | true=>
    rw [e,Bool.true_and] at h
    rw [has_is,h,Bool.false_and,Bool.and_false]
theorem on_no_may {a:Sc} (h:a.mayB=false):a.onB=false:=by
  unfold Sc.mayB at h
  unfold Sc.onB Rg.meetB Kn.meetB
  cases e:a.r.mayB with
  | false=>rw [Bool.false_and,Bool.false_and]
  | true=>
    rw [e,Bool.true_and] at h
    rw [h,Bool.false_and,Bool.and_false]
theorem nar_no {a:Sc} (h:a.onB=false):a.narB=false:=by unfold Sc.narB;rw [h];rfl
theorem on_no {a:Sc} (h:a.onB=false):a.on=allC:=by unfold Sc.on;rw [h,if_neg Bool.false_ne_true]
theorem nar_of {a:Sc} (h:a.onB=true):a.narB=a.on.onB ∧ a.nar=a.on.on:=by
  have e:a.narB=a.on.onB:=by unfold Sc.narB;rw [h,Bool.true_and]
  refine ⟨e,?_⟩
  unfold Sc.nar
  rw [e]
  cases c:a.on.onB with
  | false=>
    rw [if_neg Bool.false_ne_true,on_no c]
  | true=>rw [if_pos rfl]
set_option maxHeartbeats 4000000 in
theorem whas_n (a:Sc) (v:B) (W:World):Calls Try.prog 46 #[.agg (scC a),.int .u64 (V v)] W fun e w'=>e=.returned (.bool (Sc.hasB a v)) ∧ Below W.heap.size W w':=by
  refine calls_abs Try.func46 rfl (Nat.le_of_ble_eq_true rfl) ?_
  intro a0 d0 z0 h0
  replace z0:a0.tmps.size=19:=z0
  have s0_0:a0.tmps.getD 0 undef=.agg (scC a):=h0 0 (Nat.le_of_ble_eq_true rfl)
  have s1_0:a0.tmps.getD 1 undef=.int .u64 (V v):=h0 1 (Nat.le_of_ble_eq_true rfl)
  refine wp_seq ?_
  refine go_reg [] [⟨0,2,29,(scC a),none,#[]⟩] [none,oF] mo d0 z0 (Below.refl _ _) (by kernel_rfl) trivial (
   hk (fun cx=>cx.al (wn rfl) 0 rfl (ex_box rfl (cx.rq 0 s0_0) rfl) rfl rfl rfl rfl rfl trivial) <|
   hk (fun cx=>cx.q (ex_as rfl rfl)) <|
   hn) ?_
  intro a1 w1 f1
  obtain ⟨g1,u_g1,q_g1,b_g1⟩:=f1.al.1
  refine wp_seq ?_
  cases fk1:Sc.mayB a
  case false=>
   have Ffk1:=Lib.hid fk1;clear fk1
   refine go_reg [bx g1 29 (scC a)] [] [some (.agg (scC a)),oF,oF,oU,oU,oU,oU,oF,oF,oU,oU,oU,oU,oF,oF] mo f1.d f1.z f1.b (by kernel_rfl) ⟨b_g1,trivial⟩ (
    hk (fun cx=>cx.q (ldSc rfl (cx.rq 2 u_g1) (cx.rn 0 rfl))) <|
    hc (fun _ _ wx cx=>cx.c rfl (args1 (cx.u 0 rfl)) Try.func43 (by decide +kernel) (wmay_n a wx) rfl (congrArg Value.bool Ffk1.out)) <|
    kmu 0 <|
    kno 0 <|
    kno 1 <|
    kno 0 <|
    kno 2 <|
    hk (fun cx=>cx.q (ex_pf rfl (cx.u 0 rfl) rfl)) <|
    kmu 0 <|
    kno 0 <|
    kno 1 <|
    kno 0 <|
    kno 2 <|
    hk (fun cx=>cx.q (ex_pf rfl (cx.u 0 rfl) rfl)) <|
    kmu 0 <|
    hn) ?_
   intro a2 w2 f2
   refine wp_ret ?_
   try simp only [Exit.inBlock,Exit.then]
   refine bodyPost_ret (res_t (fn:=Try.f46) rfl (f2.v 14 rfl rfl rfl)) f2.d ?_
   have HE:(.bool false:Value)=.bool (Sc.hasB a v):=congrArg Value.bool (has_no_may Ffk1.out v).symm
   exact ⟨retV HE,f2.b⟩
  have Ffk1:=Lib.hid fk1;clear fk1
  cases fk2:Rg.hasB a.r (V v)
  case false=>
   have Ffk2:=Lib.hid fk2;clear fk2
   have s1_1:=f1.q 1 s1_0
   refine go_reg [bx g1 29 (scC a)] [] [some (.agg (scC a)),oT,oT,some (pt g1 0),some (.agg (cR a.r.u.lo a.r.u.hi a.r.s.lo a.r.s.hi)),some (.int .u64 (V v)),oF,oF,oF,oU,oU,oU,oU,oF,oF] mo f1.d f1.z f1.b (by kernel_rfl) ⟨b_g1,trivial⟩ (
    hk (fun cx=>cx.q (ldSc rfl (cx.rq 2 u_g1) (cx.rn 0 rfl))) <|
    hc (fun _ _ wx cx=>cx.c rfl (args1 (cx.u 0 rfl)) Try.func43 (by decide +kernel) (wmay_n a wx) rfl (congrArg Value.bool Ffk1.out)) <|
    kmu 0 <|
    hk (fun cx=>cx.vy 0 (ex_fa rfl (cx.rq 2 u_g1) (faStH29_0_0 _ _))) <|
    hk (fun cx=>cx.vy 1 (exec_loadR 25 _ rfl g1 0 (cx.u 0 rfl) (cx.rn 0 rfl) [.int .u64 a.r.u.lo,.int .u64 a.r.u.hi,.int .i64 a.r.s.lo,.int .i64 a.r.s.hi] rfl _ Try.underlying25 rfl (by kernel_rfl))) <|
    hk (fun cx=>cx.vy 0 (ex_mv rfl (cx.rq 1 s1_1))) <|
    hc (fun _ _ wx cx=>cx.call (cx.wy rfl rfl rfl rfl (cx.u 2 rfl)) rfl rfl (args2 (cx.u 0 rfl) (cx.u 1 rfl)) Try.func75 (by decide +kernel) rfl (rhas_n a.r.u.lo a.r.u.hi a.r.s.lo a.r.s.hi (V v) wx) rfl rfl (congrArg Value.bool Ffk2.out) rfl) <|
    hk (fun cx=>cx.q (ex_pt rfl (cx.u 0 rfl) (cx.u 1 rfl))) <|
    kmu 0 <|
    kno 0 <|
    kno 1 <|
    kno 0 <|
    kno 2 <|
    hk (fun cx=>cx.q (ex_pf rfl (cx.u 0 rfl) rfl)) <|
    kmu 0 <|
    hn) ?_
   intro a3 w3 f3
   refine wp_ret ?_
   try simp only [Exit.inBlock,Exit.then]
   refine bodyPost_ret (res_t (fn:=Try.f46) rfl (f3.v 14 rfl rfl rfl)) f3.d ?_
   have HE:(.bool false:Value)=.bool (Sc.hasB a v):=by unfold Sc.hasB;simp only [Ffk2.out,Bool.false_and,Bool.true_and]
   exact ⟨retV HE,f3.b⟩
  have Ffk2:=Lib.hid fk2;clear fk2
  have s1_2:=f1.q 1 s1_0
  refine go_reg [bx g1 29 (scC a)] [] [some (.agg (scC a)),oT,oT,some (pt g1 0),some (.agg (cR a.r.u.lo a.r.u.hi a.r.s.lo a.r.s.hi)),some (.int .u64 (V v)),oT,oT,oT,some (pt g1 4),some (.agg (knC a.k)),some (.int .u64 (V v)),some (.bool (Kn.hasB a.k v)),some (.bool (Kn.hasB a.k v)),some (.bool (Kn.hasB a.k v))] mo f1.d f1.z f1.b (by kernel_rfl) ⟨b_g1,trivial⟩ (
   hk (fun cx=>cx.q (ldSc rfl (cx.rq 2 u_g1) (cx.rn 0 rfl))) <|
   hc (fun _ _ wx cx=>cx.c rfl (args1 (cx.u 0 rfl)) Try.func43 (by decide +kernel) (wmay_n a wx) rfl (congrArg Value.bool Ffk1.out)) <|
   kmu 0 <|
   hk (fun cx=>cx.vy 0 (ex_fa rfl (cx.rq 2 u_g1) (faStH29_0_0 _ _))) <|
   hk (fun cx=>cx.vy 1 (exec_loadR 25 _ rfl g1 0 (cx.u 0 rfl) (cx.rn 0 rfl) [.int .u64 a.r.u.lo,.int .u64 a.r.u.hi,.int .i64 a.r.s.lo,.int .i64 a.r.s.hi] rfl _ Try.underlying25 rfl (by kernel_rfl))) <|
   hk (fun cx=>cx.vy 0 (ex_mv rfl (cx.rq 1 s1_2))) <|
   hc (fun _ _ wx cx=>cx.call (cx.wy rfl rfl rfl rfl (cx.u 2 rfl)) rfl rfl (args2 (cx.u 0 rfl) (cx.u 1 rfl)) Try.func75 (by decide +kernel) rfl (rhas_n a.r.u.lo a.r.u.hi a.r.s.lo a.r.s.hi (V v) wx) rfl rfl (congrArg Value.bool Ffk2.out) rfl) <|
   hk (fun cx=>cx.q (ex_pt rfl (cx.u 0 rfl) (cx.u 1 rfl))) <|
   kmu 0 <|
   hk (fun cx=>cx.vy 0 (ex_fa rfl (cx.rq 2 u_g1) (faStH29_1_0 _ _))) <|
   hk (fun cx=>cx.vy 1 (exec_loadR 27 _ rfl g1 4 (cx.u 0 rfl) (cx.rn 0 rfl) [.int .u64 (V a.k.v),.int .u64 (V a.k.m)] rfl _ Try.underlying27 rfl (by kernel_rfl))) <|
   hk (fun cx=>cx.vy 0 (ex_mv rfl (cx.rq 1 s1_2))) <|
   hc (fun _ _ wx cx=>cx.call (cx.wy rfl rfl rfl rfl (cx.u 2 rfl)) rfl rfl (args2 (cx.u 0 rfl) (cx.u 1 rfl)) Try.func76 (by decide +kernel) rfl (lhas_n a.k v wx) rfl rfl rfl rfl) <|
   hk (fun cx=>cx.q (ex_pt rfl (cx.u 0 rfl) (cx.u 1 rfl))) <|
   kmu 0 <|
   hn) ?_
  intro a4 w4 f4
  refine wp_ret ?_
  try simp only [Exit.inBlock,Exit.then]
  refine bodyPost_ret (res_t (fn:=Try.f46) rfl (f4.v 14 rfl rfl rfl)) f4.d ?_
  have HE:(.bool (Kn.hasB a.k v):Value)=.bool (Sc.hasB a v):=by unfold Sc.hasB;simp only [Ffk2.out,Bool.false_and,Bool.true_and]
  exact ⟨retV HE,f4.b⟩
set_option maxHeartbeats 4000000 in
theorem wonce_n (a:Sc) (W:World) (ha:a.r.Ok):Calls Try.prog 89 #[.agg (scC a)] W fun e w'=>e=.returned (.tuple #[.agg (scC (Sc.on a)),.bool (Sc.onB a)]) ∧ Below W.heap.size W w':=by
  have HA:=Lib.hid ha
  clear ha
  refine calls_abs Try.func89 rfl (Nat.le_of_ble_eq_true rfl) ?_
  intro a0 d0 z0 h0
  replace z0:a0.tmps.size=48:=z0
  have s0_0:a0.tmps.getD 0 undef=.agg (scC a):=h0 0 (Nat.le_of_ble_eq_true rfl)
  refine wp_seq ?_
  refine go_reg [] [⟨0,1,29,(scC a),none,#[]⟩,⟨1,2,29,(scC zSc),none,#[]⟩] [none,none,oF] mo d0 z0 (Below.refl _ _) (by kernel_rfl) trivial (
   hk (fun cx=>cx.al (wn rfl) 0 rfl (ex_box rfl (cx.rq 0 s0_0) rfl) rfl rfl rfl rfl rfl trivial) <|
   hk (fun cx=>cx.al (wn rfl) 1 rfl (al_sc rfl) rfl rfl rfl rfl rfl trivial) <|
   hk (fun cx=>cx.q (ex_as rfl rfl)) <|
   hn) ?_
  intro a1 w1 f1
  obtain ⟨g1,u_g1,q_g1,b_g1⟩:=f1.al.1
  obtain ⟨g2,u_g2,q_g2,b_g2⟩:=f1.al.2.1
  refine wp_seq ?_
  refine go_reg [] [⟨1,4,25,(cR 0 0 0 0),some 2,(cR allR.u.lo allR.u.hi allR.s.lo allR.s.hi)⟩] [some (.agg (cR allR.u.lo allR.u.hi allR.s.lo allR.s.hi)),none,none] mo f1.d f1.z f1.b (by kernel_rfl) trivial (
   hc (fun _ _ wx cx=>cx.c rfl (args0 ) Try.func68 (by decide +kernel) (rall_n wx) rfl rfl) <|
   hk (fun cx=>cx.al (wn rfl) 0 rfl (by simp [execOp,Act.eval,go_sem]) rfl rfl rfl rfl (by kernel_rfl) trivial) <|
   hk (fun cx=>cx.stA (wn rfl) rfl rfl 0 0 rfl rfl rfl rfl (cx.u 1 rfl) (by kernel_rfl) (Eq.refl 4) (cR_one _ _ _ _) f1.b.size rfl rfl trivial) <|
   hn) ?_
  intro a2 w2 f2
  obtain ⟨g3,u_g3,q_g3,b_g3⟩:=f2.al.1
  refine wp_seq ?_
  have b_g1_1:=f2.k b_g1
  have s1_2:=f2.q 1 u_g1
  refine go_reg [bx g1 29 (scC a),⟨g3,25,(cR allR.u.lo allR.u.hi allR.s.lo allR.s.hi),some 4,(cR (V a.k.v) allR.u.hi allR.s.lo allR.s.hi)⟩] [] [some (pt g1 4),some (pt g1 4),some (.int .u64 (V a.k.v)),some (pt g3 0),none] mo f2.d f2.z f2.b (by kernel_rfl) ⟨b_g1_1,b_g3,trivial⟩ (
   hk (fun cx=>cx.q (ex_fa rfl (cx.rq 1 s1_2) (faStH29_1_0 _ _))) <|
   hk (fun cx=>cx.q (ex_fa rfl (cx.u 0 rfl) (faStH27_0_4 _ _))) <|
   hk (fun cx=>cx.q (ex_ld rfl (cx.u 0 rfl) (cx.rn 0 rfl) rfl Try.isAgg23)) <|
   hk (fun cx=>cx.q (ex_fa rfl (cx.rq 4 u_g3) (faStH25_0_0 _ _))) <|
   hk (fun cx=>cx.stC (wn rfl) rfl rfl 1 rfl (cx.u 0 rfl) (cx.u 1 rfl) rfl rfl (by kernel_rfl) rfl rfl (Nat.le_trans f1.b.size q_g3) rfl ⟨(ne_row b_g1 q_g3),trivial⟩ trivial) <|
   hn) ?_
  intro a3 w3 f3
  refine wp_seq ?_
  have b_g1_3:=f3.kp b_g1_1 ⟨.inl rfl,.inr (ne_row b_g1 q_g3),trivial⟩
  have s1_4:=f3.q 1 s1_2
  have s4_5:=f3.q 4 u_g3
  refine go_reg [bx g1 29 (scC a),⟨g3,25,(cR (V a.k.v) allR.u.hi allR.s.lo allR.s.hi),some 8,(cR (V a.k.v) (V (a.k.v ||| a.k.m)) allR.s.lo allR.s.hi)⟩] [] [some (pt g1 4),some (pt g1 4),some (.int .u64 (V a.k.v)),some (pt g1 4),some (pt g1 5),some (.int .u64 (V a.k.m)),some (.int .u64 (V (a.k.v ||| a.k.m))),some (pt g3 1),none] mo f3.d f3.z f3.b (by kernel_rfl) ⟨b_g1_3,f3.rows.2.1,trivial⟩ (
   hk (fun cx=>cx.q (ex_fa rfl (cx.rq 1 s1_4) (faStH29_1_0 _ _))) <|
   hk (fun cx=>cx.q (ex_fa rfl (cx.u 0 rfl) (faStH27_0_4 _ _))) <|
   hk (fun cx=>cx.q (ex_ld rfl (cx.u 0 rfl) (cx.rn 0 rfl) rfl Try.isAgg23)) <|
   hk (fun cx=>cx.q (ex_fa rfl (cx.rq 1 s1_4) (faStH29_1_0 _ _))) <|
   hk (fun cx=>cx.q (ex_fa rfl (cx.u 0 rfl) (faStH27_1_4 _ _))) <|
   hk (fun cx=>cx.q (ex_ld rfl (cx.u 0 rfl) (cx.rn 0 rfl) rfl Try.isAgg23)) <|
   hk (fun cx=>cx.v (ex_or (x:=.tmp 15) (y:=.tmp 18) rfl (cx.u 0 rfl) (cx.u 1 rfl)) rfl (congrArg (Value.int .u64) (V_or _ _))) <|
   hk (fun cx=>cx.q (ex_fa rfl (cx.rq 4 s4_5) (faStH25_1_0 _ _))) <|
   hk (fun cx=>cx.stC (wn rfl) rfl rfl 1 rfl (cx.u 0 rfl) (cx.u 1 rfl) rfl rfl (by kernel_rfl) rfl rfl (Nat.le_trans f1.b.size q_g3) rfl ⟨(ne_row b_g1 q_g3),trivial⟩ trivial) <|
   hn) ?_
  intro a4 w4 f4
  refine wp_seq ?_
  cases fk1:Rg.meetB a.r ⟨⟨V a.k.v,V (a.k.v ||| a.k.m)⟩,allR.s⟩
  case false=>
   have Ffk1:=Lib.hid fk1;clear fk1
   have b_g1_6:=f4.kp b_g1_3 ⟨.inl rfl,.inr (ne_row b_g1 q_g3),trivial⟩
   have s1_7:=f4.q 1 s1_4
   have s4_8:=f4.q 4 s4_5
   refine go_reg [bx g1 29 (scC a),bx g3 25 (cR (V a.k.v) (V (a.k.v ||| a.k.m)) allR.s.lo allR.s.hi)] [⟨7,5,25,(cR 0 0 0 0),some 8,(cR (Sc.oR a).u.lo (Sc.oR a).u.hi (Sc.oR a).s.lo (Sc.oR a).s.hi)⟩] [some (pt g1 0),some (.agg (cR a.r.u.lo a.r.u.hi a.r.s.lo a.r.s.hi)),some (.agg (cR (V a.k.v) (V (a.k.v ||| a.k.m)) allR.s.lo allR.s.hi)),some (.tuple #[.agg (cR (Sc.oR a).u.lo (Sc.oR a).u.hi (Sc.oR a).s.lo (Sc.oR a).s.hi),.bool (Rg.meetB a.r ⟨⟨V a.k.v,V (a.k.v ||| a.k.m)⟩,allR.s⟩)]),some (.tuple #[.agg (cR (Sc.oR a).u.lo (Sc.oR a).u.hi (Sc.oR a).s.lo (Sc.oR a).s.hi),.bool (Rg.meetB a.r ⟨⟨V a.k.v,V (a.k.v ||| a.k.m)⟩,allR.s⟩)]),some (.agg (cR (Sc.oR a).u.lo (Sc.oR a).u.hi (Sc.oR a).s.lo (Sc.oR a).s.hi)),oF,none,none,oF] mo f4.d f4.z f4.b (by kernel_rfl) ⟨b_g1_6,f4.rows.2.1,trivial⟩ (
    hk (fun cx=>cx.q (ex_fa rfl (cx.rq 1 s1_7) (faStH29_0_0 _ _))) <|
    hk (fun cx=>cx.q (exec_loadR 25 _ rfl g1 0 (cx.u 0 rfl) (cx.rn 0 rfl) [.int .u64 a.r.u.lo,.int .u64 a.r.u.hi,.int .i64 a.r.s.lo,.int .i64 a.r.s.hi] rfl _ Try.underlying25 rfl (by kernel_rfl))) <|
    hk (fun cx=>cx.q (ldR rfl (cx.rq 4 s4_8) (cx.rn 1 rfl))) <|
    hc (fun _ _ wx cx=>cx.c rfl (args2 (cx.u 0 rfl) (cx.u 1 rfl)) Try.func112 (by decide +kernel) (rmeet_n a.r.u.lo a.r.u.hi a.r.s.lo a.r.s.hi (V a.k.v) (V (a.k.v ||| a.k.m)) allR.s.lo allR.s.hi wx HA.out (rgK_ok a.k)) rfl (congrArg (fun x:Rg=>Value.tuple #[Value.agg #[.int .u64 x.u.lo,.int .u64 x.u.hi,.int .i64 x.s.lo,.int .i64 x.s.hi],.bool (Rg.meetB a.r ⟨⟨V a.k.v,V (a.k.v ||| a.k.m)⟩,allR.s⟩)]) rfl)) <|
    kmu 0 <|
    hk (fun cx=>cx.q (ex_ext (x:=.tmp 21) rfl (cx.u 0 rfl) rfl)) <|
    hk (fun cx=>cx.v (ex_ext (x:=.tmp 21) rfl (cx.u 0 rfl) rfl) rfl (congrArg Value.bool Ffk1.out)) <|
    hk (fun cx=>cx.al (wn rfl) 0 rfl (by simp [execOp,Act.eval,go_sem]) rfl rfl rfl rfl (by kernel_rfl) trivial) <|
    hk (fun cx=>cx.stA (wn rfl) rfl rfl 0 0 rfl rfl rfl rfl (cx.u 1 rfl) (by kernel_rfl) (Eq.refl 4) (cR_one _ _ _ _) f4.b.size rfl rfl trivial) <|
    kmu 0 <|
    hn) ?_
   intro a5 w5 f5
   obtain ⟨g4,u_g4,q_g4,b_g4⟩:=f5.al.1
   refine wp_seq ?_
   refine wp_seq ?_
   refine go_reg [] [] [oF,oT] mo f5.d f5.z f5.b (by kernel_rfl) trivial (
    hk (fun cx=>cx.q (ex_mv rfl (cx.rq 6 (f5.v 9 rfl rfl rfl)))) <|
    hk (fun cx=>cx.q (ex_not (x:=.tmp 28) rfl (cx.u 0 rfl))) <|
    hn) ?_
   intro a6 w6 f6
   refine wp_cond_true (f6.v 1 rfl rfl rfl) ?_
   refine wp_seq ?_
   have b_g2_9:=f6.k (f5.k (f4.kp (f3.kp (f2.k b_g2) ⟨.inl rfl,.inr (ne_row b_g2 q_g3),trivial⟩) ⟨.inl rfl,.inr (ne_row b_g2 q_g3),trivial⟩))
   have s2_10:=f6.q 2 (f5.q 2 (f4.q 2 (f3.q 2 (f2.q 2 u_g2))))
   refine go_reg [⟨g2,29,(scC zSc),some 1,(scC allC)⟩] [] [some (.agg (scC allC)),none,oF] mo f6.d f6.z f6.b (by kernel_rfl) ⟨b_g2_9,trivial⟩ (
    hc (fun _ _ wx cx=>cx.c rfl (args0 ) Try.func41 (by decide +kernel) (wall_n wx) rfl rfl) <|
    hk (fun cx=>cx.stR (wn rfl) rfl rfl 0 rfl (cx.rq 2 s2_10) (cx.u 0 rfl) (by kernel_rfl) (Eq.refl 6) (scC_one _) q_g2 rfl trivial trivial) <|
    hk (fun cx=>cx.q (ex_as rfl rfl)) <|
    hn) ?_
   intro a7 w7 f7
   refine wp_ret ?_
   have s2_11:=f7.q 2 s2_10
   try simp only [Exit.inBlock,Exit.then]
   refine bodyPost_ret (res_ct (fn:=Try.f89) rfl s2_11 (load_row 29 f7.rows.1 Try.underlying29 rfl (by kernel_rfl)) (f7.v 2 rfl rfl rfl)) f7.d ?_
   have HN:Sc.onB a=false:=by show (Rg.meetB a.r ⟨⟨V a.k.v,V (a.k.v ||| a.k.m)⟩,allR.s⟩ && Kn.meetB a.k (comK (Bk (Sc.oR a).u.lo) (Bk (Sc.oR a).u.hi)))=_;simp only [Ffk1.out,Bool.false_and,Bool.true_and]
   have HE:(.tuple #[.agg (scC allC),.bool false]:Value)=.tuple #[.agg (scC (Sc.on a)),.bool (Sc.onB a)]:=by unfold Sc.on;simp only [HN,if_true,if_false,Bool.false_eq_true]
   exact ⟨retV HE,f7.b⟩
  have Ffk1:=Lib.hid fk1;clear fk1
  have b_g1_12:=f4.kp b_g1_3 ⟨.inl rfl,.inr (ne_row b_g1 q_g3),trivial⟩
  have s1_13:=f4.q 1 s1_4
  have s4_14:=f4.q 4 s4_5
  refine go_reg [bx g1 29 (scC a),bx g3 25 (cR (V a.k.v) (V (a.k.v ||| a.k.m)) allR.s.lo allR.s.hi)] [⟨7,5,25,(cR 0 0 0 0),some 8,(cR (Sc.oR a).u.lo (Sc.oR a).u.hi (Sc.oR a).s.lo (Sc.oR a).s.hi)⟩] [some (pt g1 0),some (.agg (cR a.r.u.lo a.r.u.hi a.r.s.lo a.r.s.hi)),some (.agg (cR (V a.k.v) (V (a.k.v ||| a.k.m)) allR.s.lo allR.s.hi)),some (.tuple #[.agg (cR (Sc.oR a).u.lo (Sc.oR a).u.hi (Sc.oR a).s.lo (Sc.oR a).s.hi),.bool (Rg.meetB a.r ⟨⟨V a.k.v,V (a.k.v ||| a.k.m)⟩,allR.s⟩)]),some (.tuple #[.agg (cR (Sc.oR a).u.lo (Sc.oR a).u.hi (Sc.oR a).s.lo (Sc.oR a).s.hi),.bool (Rg.meetB a.r ⟨⟨V a.k.v,V (a.k.v ||| a.k.m)⟩,allR.s⟩)]),some (.agg (cR (Sc.oR a).u.lo (Sc.oR a).u.hi (Sc.oR a).s.lo (Sc.oR a).s.hi)),oT,none,none,oT] mo f4.d f4.z f4.b (by kernel_rfl) ⟨b_g1_12,f4.rows.2.1,trivial⟩ (
   hk (fun cx=>cx.q (ex_fa rfl (cx.rq 1 s1_13) (faStH29_0_0 _ _))) <|
   hk (fun cx=>cx.q (exec_loadR 25 _ rfl g1 0 (cx.u 0 rfl) (cx.rn 0 rfl) [.int .u64 a.r.u.lo,.int .u64 a.r.u.hi,.int .i64 a.r.s.lo,.int .i64 a.r.s.hi] rfl _ Try.underlying25 rfl (by kernel_rfl))) <|
   hk (fun cx=>cx.q (ldR rfl (cx.rq 4 s4_14) (cx.rn 1 rfl))) <|
   hc (fun _ _ wx cx=>cx.c rfl (args2 (cx.u 0 rfl) (cx.u 1 rfl)) Try.func112 (by decide +kernel) (rmeet_n a.r.u.lo a.r.u.hi a.r.s.lo a.r.s.hi (V a.k.v) (V (a.k.v ||| a.k.m)) allR.s.lo allR.s.hi wx HA.out (rgK_ok a.k)) rfl (congrArg (fun x:Rg=>Value.tuple #[Value.agg #[.int .u64 x.u.lo,.int .u64 x.u.hi,.int .i64 x.s.lo,.int .i64 x.s.hi],.bool (Rg.meetB a.r ⟨⟨V a.k.v,V (a.k.v ||| a.k.m)⟩,allR.s⟩)]) rfl)) <|
   kmu 0 <|
   hk (fun cx=>cx.q (ex_ext (x:=.tmp 21) rfl (cx.u 0 rfl) rfl)) <|
   hk (fun cx=>cx.v (ex_ext (x:=.tmp 21) rfl (cx.u 0 rfl) rfl) rfl (congrArg Value.bool Ffk1.out)) <|
   hk (fun cx=>cx.al (wn rfl) 0 rfl (by simp [execOp,Act.eval,go_sem]) rfl rfl rfl rfl (by kernel_rfl) trivial) <|
   hk (fun cx=>cx.stA (wn rfl) rfl rfl 0 0 rfl rfl rfl rfl (cx.u 1 rfl) (by kernel_rfl) (Eq.refl 4) (cR_one _ _ _ _) f4.b.size rfl rfl trivial) <|
   kmu 0 <|
   hn) ?_
  intro a8 w8 f8
  obtain ⟨g4,u_g4,q_g4,b_g4⟩:=f8.al.1
  refine wp_seq ?_
  refine wp_seq ?_
  refine go_reg [] [] [oT,oF] mo f8.d f8.z f8.b (by kernel_rfl) trivial (
   hk (fun cx=>cx.q (ex_mv rfl (cx.rq 6 (f8.v 9 rfl rfl rfl)))) <|
   hk (fun cx=>cx.q (ex_not (x:=.tmp 28) rfl (cx.u 0 rfl))) <|
   hn) ?_
  intro a9 w9 f9
  refine wp_cond_false (f9.v 1 rfl rfl rfl) ?_
  refine wp_skip ?_
  refine wp_seq ?_
  cases fk2:Kn.meetB a.k (comK (Bk (Sc.oR a).u.lo) (Bk (Sc.oR a).u.hi))
  case false=>
   have Ffk2:=Lib.hid fk2;clear fk2
   have b_g1_15:=f9.k (f8.k b_g1_12)
   have b_g4_16:=f9.k b_g4
   have s1_17:=f9.q 1 (f8.q 1 s1_13)
   have s5_18:=f9.q 5 u_g4
   refine go_reg [bx g1 29 (scC a),bx g4 25 (cR (Sc.oR a).u.lo (Sc.oR a).u.hi (Sc.oR a).s.lo (Sc.oR a).s.hi)] [⟨11,7,27,(knC zKn),some 12,(knC (Sc.oK a))⟩] [some (pt g1 4),some (.agg (knC a.k)),some (pt g4 0),some (.int .u64 (V (Bk (Sc.oR a).u.lo))),some (pt g4 1),some (.int .u64 (V (Bk (Sc.oR a).u.hi))),some (.agg (knC (comK (Bk (Sc.oR a).u.lo) (Bk (Sc.oR a).u.hi)))),some (.tuple #[.agg (knC (Sc.oK a)),.bool (Kn.meetB a.k (comK (Bk (Sc.oR a).u.lo) (Bk (Sc.oR a).u.hi)))]),some (.tuple #[.agg (knC (Sc.oK a)),.bool (Kn.meetB a.k (comK (Bk (Sc.oR a).u.lo) (Bk (Sc.oR a).u.hi)))]),some (.agg (knC (Sc.oK a))),oF,none,none,oF] mo f9.d f9.z f9.b (by kernel_rfl) ⟨b_g1_15,b_g4_16,trivial⟩ (
    hk (fun cx=>cx.q (ex_fa rfl (cx.rq 1 s1_17) (faStH29_1_0 _ _))) <|
    hk (fun cx=>cx.q (exec_loadR 27 _ rfl g1 4 (cx.u 0 rfl) (cx.rn 0 rfl) [.int .u64 (V a.k.v),.int .u64 (V a.k.m)] rfl _ Try.underlying27 rfl (by kernel_rfl))) <|
    hk (fun cx=>cx.q (ex_fa rfl (cx.rq 5 s5_18) (faStH25_0_0 _ _))) <|
    hk (fun cx=>cx.v (ex_ld rfl (cx.u 0 rfl) (cx.rn 1 rfl) rfl Try.isAgg23) rfl (congrArg (Value.int .u64) (lo_w HA.out))) <|
    hk (fun cx=>cx.q (ex_fa rfl (cx.rq 5 s5_18) (faStH25_1_0 _ _))) <|
    hk (fun cx=>cx.v (ex_ld rfl (cx.u 0 rfl) (cx.rn 1 rfl) rfl Try.isAgg23) rfl (congrArg (Value.int .u64) (hi_w HA.out))) <|
    hc (fun _ _ wx cx=>cx.c rfl (args2 (cx.u 0 rfl) (cx.u 1 rfl)) Try.func114 (by decide +kernel) (lcom_n (Bk (Sc.oR a).u.lo) (Bk (Sc.oR a).u.hi) wx) rfl rfl) <|
    hc (fun _ _ wx cx=>cx.c rfl (args2 (cx.u 0 rfl) (cx.u 1 rfl)) Try.func113 (by decide +kernel) (lmeet_n a.k (comK (Bk (Sc.oR a).u.lo) (Bk (Sc.oR a).u.hi)) wx) rfl (congrArg (fun x:Kn=>Value.tuple #[Value.agg (knC x),.bool (Kn.meetB a.k (comK (Bk (Sc.oR a).u.lo) (Bk (Sc.oR a).u.hi)))]) rfl)) <|
    kmu 0 <|
    hk (fun cx=>cx.q (ex_ext (x:=.tmp 31) rfl (cx.u 0 rfl) rfl)) <|
    hk (fun cx=>cx.v (ex_ext (x:=.tmp 31) rfl (cx.u 0 rfl) rfl) rfl (congrArg Value.bool Ffk2.out)) <|
    hk (fun cx=>cx.al (wn rfl) 0 rfl (al_kn rfl) rfl rfl rfl rfl (by kernel_rfl) trivial) <|
    hk (fun cx=>cx.stA (wn rfl) rfl rfl 0 0 rfl rfl rfl rfl (cx.u 1 rfl) (by kernel_rfl) (Eq.refl 2) (knC_one _) f9.b.size rfl rfl trivial) <|
    kmu 0 <|
    hn) ?_
   intro a10 w10 f10
   obtain ⟨g5,u_g5,q_g5,b_g5⟩:=f10.al.1
   refine wp_seq ?_
   refine wp_seq ?_
   refine go_reg [] [] [oF,oT] mo f10.d f10.z f10.b (by kernel_rfl) trivial (
    hk (fun cx=>cx.q (ex_mv rfl (cx.rq 6 (f10.v 13 rfl rfl rfl)))) <|
    hk (fun cx=>cx.q (ex_not (x:=.tmp 42) rfl (cx.u 0 rfl))) <|
    hn) ?_
   intro a11 w11 f11
   refine wp_cond_true (f11.v 1 rfl rfl rfl) ?_
   refine wp_seq ?_
   have b_g2_19:=f11.k (f10.k (f9.k (f8.k (f4.kp (f3.kp (f2.k b_g2) ⟨.inl rfl,.inr (ne_row b_g2 q_g3),trivial⟩) ⟨.inl rfl,.inr (ne_row b_g2 q_g3),trivial⟩))))
   have s2_20:=f11.q 2 (f10.q 2 (f9.q 2 (f8.q 2 (f4.q 2 (f3.q 2 (f2.q 2 u_g2))))))
   refine go_reg [⟨g2,29,(scC zSc),some 1,(scC allC)⟩] [] [some (.agg (scC allC)),none,oF] mo f11.d f11.z f11.b (by kernel_rfl) ⟨b_g2_19,trivial⟩ (
    hc (fun _ _ wx cx=>cx.c rfl (args0 ) Try.func41 (by decide +kernel) (wall_n wx) rfl rfl) <|
    hk (fun cx=>cx.stR (wn rfl) rfl rfl 0 rfl (cx.rq 2 s2_20) (cx.u 0 rfl) (by kernel_rfl) (Eq.refl 6) (scC_one _) q_g2 rfl trivial trivial) <|
    hk (fun cx=>cx.q (ex_as rfl rfl)) <|
    hn) ?_
   intro a12 w12 f12
   refine wp_ret ?_
   have s2_21:=f12.q 2 s2_20
   try simp only [Exit.inBlock,Exit.then]
   refine bodyPost_ret (res_ct (fn:=Try.f89) rfl s2_21 (load_row 29 f12.rows.1 Try.underlying29 rfl (by kernel_rfl)) (f12.v 2 rfl rfl rfl)) f12.d ?_
   have HN:Sc.onB a=false:=by show (Rg.meetB a.r ⟨⟨V a.k.v,V (a.k.v ||| a.k.m)⟩,allR.s⟩ && Kn.meetB a.k (comK (Bk (Sc.oR a).u.lo) (Bk (Sc.oR a).u.hi)))=_;simp only [Ffk1.out,Ffk2.out,Bool.false_and,Bool.true_and]
   have HE:(.tuple #[.agg (scC allC),.bool false]:Value)=.tuple #[.agg (scC (Sc.on a)),.bool (Sc.onB a)]:=by unfold Sc.on;simp only [HN,if_true,if_false,Bool.false_eq_true]
   exact ⟨retV HE,f12.b⟩
  have Ffk2:=Lib.hid fk2;clear fk2
  have b_g1_22:=f9.k (f8.k b_g1_12)
  have b_g4_23:=f9.k b_g4
  have s1_24:=f9.q 1 (f8.q 1 s1_13)
  have s5_25:=f9.q 5 u_g4
  refine go_reg [bx g1 29 (scC a),bx g4 25 (cR (Sc.oR a).u.lo (Sc.oR a).u.hi (Sc.oR a).s.lo (Sc.oR a).s.hi)] [⟨11,7,27,(knC zKn),some 12,(knC (Sc.oK a))⟩] [some (pt g1 4),some (.agg (knC a.k)),some (pt g4 0),some (.int .u64 (V (Bk (Sc.oR a).u.lo))),some (pt g4 1),some (.int .u64 (V (Bk (Sc.oR a).u.hi))),some (.agg (knC (comK (Bk (Sc.oR a).u.lo) (Bk (Sc.oR a).u.hi)))),some (.tuple #[.agg (knC (Sc.oK a)),.bool (Kn.meetB a.k (comK (Bk (Sc.oR a).u.lo) (Bk (Sc.oR a).u.hi)))]),some (.tuple #[.agg (knC (Sc.oK a)),.bool (Kn.meetB a.k (comK (Bk (Sc.oR a).u.lo) (Bk (Sc.oR a).u.hi)))]),some (.agg (knC (Sc.oK a))),oT,none,none,oT] mo f9.d f9.z f9.b (by kernel_rfl) ⟨b_g1_22,b_g4_23,trivial⟩ (
   hk (fun cx=>cx.q (ex_fa rfl (cx.rq 1 s1_24) (faStH29_1_0 _ _))) <|
   hk (fun cx=>cx.q (exec_loadR 27 _ rfl g1 4 (cx.u 0 rfl) (cx.rn 0 rfl) [.int .u64 (V a.k.v),.int .u64 (V a.k.m)] rfl _ Try.underlying27 rfl (by kernel_rfl))) <|
   hk (fun cx=>cx.q (ex_fa rfl (cx.rq 5 s5_25) (faStH25_0_0 _ _))) <|
   hk (fun cx=>cx.v (ex_ld rfl (cx.u 0 rfl) (cx.rn 1 rfl) rfl Try.isAgg23) rfl (congrArg (Value.int .u64) (lo_w HA.out))) <|
   hk (fun cx=>cx.q (ex_fa rfl (cx.rq 5 s5_25) (faStH25_1_0 _ _))) <|
   hk (fun cx=>cx.v (ex_ld rfl (cx.u 0 rfl) (cx.rn 1 rfl) rfl Try.isAgg23) rfl (congrArg (Value.int .u64) (hi_w HA.out))) <|
   hc (fun _ _ wx cx=>cx.c rfl (args2 (cx.u 0 rfl) (cx.u 1 rfl)) Try.func114 (by decide +kernel) (lcom_n (Bk (Sc.oR a).u.lo) (Bk (Sc.oR a).u.hi) wx) rfl rfl) <|
   hc (fun _ _ wx cx=>cx.c rfl (args2 (cx.u 0 rfl) (cx.u 1 rfl)) Try.func113 (by decide +kernel) (lmeet_n a.k (comK (Bk (Sc.oR a).u.lo) (Bk (Sc.oR a).u.hi)) wx) rfl (congrArg (fun x:Kn=>Value.tuple #[Value.agg (knC x),.bool (Kn.meetB a.k (comK (Bk (Sc.oR a).u.lo) (Bk (Sc.oR a).u.hi)))]) rfl)) <|
   kmu 0 <|
   hk (fun cx=>cx.q (ex_ext (x:=.tmp 31) rfl (cx.u 0 rfl) rfl)) <|
   hk (fun cx=>cx.v (ex_ext (x:=.tmp 31) rfl (cx.u 0 rfl) rfl) rfl (congrArg Value.bool Ffk2.out)) <|
   hk (fun cx=>cx.al (wn rfl) 0 rfl (al_kn rfl) rfl rfl rfl rfl (by kernel_rfl) trivial) <|
   hk (fun cx=>cx.stA (wn rfl) rfl rfl 0 0 rfl rfl rfl rfl (cx.u 1 rfl) (by kernel_rfl) (Eq.refl 2) (knC_one _) f9.b.size rfl rfl trivial) <|
   kmu 0 <|
   hn) ?_
  intro a13 w13 f13
  obtain ⟨g5,u_g5,q_g5,b_g5⟩:=f13.al.1
  refine wp_seq ?_
  refine wp_seq ?_
  refine go_reg [] [] [oT,oF] mo f13.d f13.z f13.b (by kernel_rfl) trivial (
   hk (fun cx=>cx.q (ex_mv rfl (cx.rq 6 (f13.v 13 rfl rfl rfl)))) <|
   hk (fun cx=>cx.q (ex_not (x:=.tmp 42) rfl (cx.u 0 rfl))) <|
   hn) ?_
  intro a14 w14 f14
  refine wp_cond_false (f14.v 1 rfl rfl rfl) ?_
  refine wp_skip ?_
  refine wp_seq ?_
  have b_g4_26:=f14.k (f13.k b_g4_23)
  have b_g5_27:=f14.k b_g5
  have b_g2_28:=f14.k (f13.k (f9.k (f8.k (f4.kp (f3.kp (f2.k b_g2) ⟨.inl rfl,.inr (ne_row b_g2 q_g3),trivial⟩) ⟨.inl rfl,.inr (ne_row b_g2 q_g3),trivial⟩))))
  have s5_29:=f14.q 5 (f13.q 5 s5_25)
  have s7_30:=f14.q 7 u_g5
  have s2_31:=f14.q 2 (f13.q 2 (f9.q 2 (f8.q 2 (f4.q 2 (f3.q 2 (f2.q 2 u_g2))))))
  refine go_reg [bx g4 25 (cR (Sc.oR a).u.lo (Sc.oR a).u.hi (Sc.oR a).s.lo (Sc.oR a).s.hi),bx g5 27 (knC (Sc.oK a)),⟨g2,29,(scC zSc),some 3,(scC ⟨Sc.oR a,Sc.oK a⟩)⟩] [] [some (.agg (cR (Sc.oR a).u.lo (Sc.oR a).u.hi (Sc.oR a).s.lo (Sc.oR a).s.hi)),some (.agg (knC (Sc.oK a))),some (.agg (scC ⟨Sc.oR a,Sc.oK a⟩)),none,oT] mo f14.d f14.z f14.b (by kernel_rfl) ⟨b_g4_26,b_g5_27,b_g2_28,trivial⟩ (
   hk (fun cx=>cx.q (ldR rfl (cx.rq 5 s5_29) (cx.rn 0 rfl))) <|
   hk (fun cx=>cx.q (ldKn rfl (cx.rq 7 s7_30) (cx.rn 1 rfl))) <|
   hk (fun cx=>cx.q (exec_build rfl (parts2 (cx.u 0 rfl) (cx.u 1 rfl)) (by kernel_rfl))) <|
   hk (fun cx=>cx.stR (wn rfl) rfl rfl 2 rfl (cx.rq 2 s2_31) (cx.u 0 rfl) (by kernel_rfl) (Eq.refl 6) (scC_one _) q_g2 rfl ⟨(ne_row (f4.kp (f3.kp (f2.k b_g2) ⟨.inl rfl,.inr (ne_row b_g2 q_g3),trivial⟩) ⟨.inl rfl,.inr (ne_row b_g2 q_g3),trivial⟩) q_g4).symm,(ne_row (f9.k (f8.k (f4.kp (f3.kp (f2.k b_g2) ⟨.inl rfl,.inr (ne_row b_g2 q_g3),trivial⟩) ⟨.inl rfl,.inr (ne_row b_g2 q_g3),trivial⟩))) q_g5).symm,trivial⟩ trivial) <|
   hk (fun cx=>cx.q (ex_as rfl rfl)) <|
   hn) ?_
  intro a15 w15 f15
  refine wp_ret ?_
  have s2_32:=f15.q 2 s2_31
  try simp only [Exit.inBlock,Exit.then]
  refine bodyPost_ret (res_ct (fn:=Try.f89) rfl s2_32 (load_row 29 f15.rows.2.2.1 Try.underlying29 rfl (by kernel_rfl)) (f15.v 4 rfl rfl rfl)) f15.d ?_
  have HN:Sc.onB a=true:=by show (Rg.meetB a.r ⟨⟨V a.k.v,V (a.k.v ||| a.k.m)⟩,allR.s⟩ && Kn.meetB a.k (comK (Bk (Sc.oR a).u.lo) (Bk (Sc.oR a).u.hi)))=_;simp only [Ffk1.out,Ffk2.out,Bool.false_and,Bool.true_and]
  have HE:(.tuple #[.agg (scC ⟨Sc.oR a,Sc.oK a⟩),.bool true]:Value)=.tuple #[.agg (scC (Sc.on a)),.bool (Sc.onB a)]:=by unfold Sc.on;simp only [HN,if_true,if_false,Bool.false_eq_true]
  exact ⟨retV HE,f15.b⟩
set_option maxHeartbeats 4000000 in
theorem wnarrow_n (a:Sc) (W:World) (ha:a.r.Ok):Calls Try.prog 61 #[.agg (scC a)] W fun e w'=>e=.returned (.tuple #[.agg (scC (Sc.nar a)),.bool (Sc.narB a)]) ∧ Below W.heap.size W w':=by
  have HA:=Lib.hid ha
  clear ha
  refine calls_abs Try.func61 rfl (Nat.le_of_ble_eq_true rfl) ?_
  intro a0 d0 z0 h0
  replace z0:a0.tmps.size=22:=z0
  have s0_0:a0.tmps.getD 0 undef=.agg (scC a):=h0 0 (Nat.le_of_ble_eq_true rfl)
  refine wp_seq ?_
  refine go_reg [] [⟨0,1,29,(scC a),none,#[]⟩,⟨1,2,29,(scC zSc),none,#[]⟩] [none,none,oF] mo d0 z0 (Below.refl _ _) (by kernel_rfl) trivial (
   hk (fun cx=>cx.al (wn rfl) 0 rfl (ex_box rfl (cx.rq 0 s0_0) rfl) rfl rfl rfl rfl rfl trivial) <|
   hk (fun cx=>cx.al (wn rfl) 1 rfl (al_sc rfl) rfl rfl rfl rfl rfl trivial) <|
   hk (fun cx=>cx.q (ex_as rfl rfl)) <|
   hn) ?_
  intro a1 w1 f1
  obtain ⟨g1,u_g1,q_g1,b_g1⟩:=f1.al.1
  obtain ⟨g2,u_g2,q_g2,b_g2⟩:=f1.al.2.1
  refine wp_seq ?_
  refine wp_seq ?_
  cases fk1:Sc.mayB a
  case false=>
   have Ffk1:=Lib.hid fk1;clear fk1
   refine go_reg [bx g1 29 (scC a)] [] [some (.agg (scC a)),oF,oT] mo f1.d f1.z f1.b (by kernel_rfl) ⟨b_g1,trivial⟩ (
    hk (fun cx=>cx.q (ldSc rfl (cx.rq 1 u_g1) (cx.rn 0 rfl))) <|
    hc (fun _ _ wx cx=>cx.c rfl (args1 (cx.u 0 rfl)) Try.func43 (by decide +kernel) (wmay_n a wx) rfl (congrArg Value.bool Ffk1.out)) <|
    hk (fun cx=>cx.q (ex_not (x:=.tmp 7) rfl (cx.u 0 rfl))) <|
    hn) ?_
   intro a2 w2 f2
   refine wp_cond_true (f2.v 2 rfl rfl rfl) ?_
   refine wp_seq ?_
   have b_g2_1:=f2.k b_g2
   have s2_2:=f2.q 2 u_g2
   refine go_reg [⟨g2,29,(scC zSc),some 1,(scC allC)⟩] [] [some (.agg (scC allC)),none,oF] mo f2.d f2.z f2.b (by kernel_rfl) ⟨b_g2_1,trivial⟩ (
    hc (fun _ _ wx cx=>cx.c rfl (args0 ) Try.func41 (by decide +kernel) (wall_n wx) rfl rfl) <|
    hk (fun cx=>cx.stR (wn rfl) rfl rfl 0 rfl (cx.rq 2 s2_2) (cx.u 0 rfl) (by kernel_rfl) (Eq.refl 6) (scC_one _) q_g2 rfl trivial trivial) <|
    hk (fun cx=>cx.q (ex_as rfl rfl)) <|
    hn) ?_
   intro a3 w3 f3
   refine wp_ret ?_
   have s2_3:=f3.q 2 s2_2
   try simp only [Exit.inBlock,Exit.then]
   refine bodyPost_ret (res_ct (fn:=Try.f61) rfl s2_3 (load_row 29 f3.rows.1 Try.underlying29 rfl (by kernel_rfl)) (f3.v 2 rfl rfl rfl)) f3.d ?_
   have HE:(.tuple #[.agg (scC allC),.bool false]:Value)=.tuple #[.agg (scC (Sc.nar a)),.bool (Sc.narB a)]:=by unfold Sc.nar;rw [nar_no (on_no_may Ffk1.out)];rfl
   exact ⟨retV HE,f3.b⟩
  have Ffk1:=Lib.hid fk1;clear fk1
  refine go_reg [bx g1 29 (scC a)] [] [some (.agg (scC a)),oT,oF] mo f1.d f1.z f1.b (by kernel_rfl) ⟨b_g1,trivial⟩ (
   hk (fun cx=>cx.q (ldSc rfl (cx.rq 1 u_g1) (cx.rn 0 rfl))) <|
   hc (fun _ _ wx cx=>cx.c rfl (args1 (cx.u 0 rfl)) Try.func43 (by decide +kernel) (wmay_n a wx) rfl (congrArg Value.bool Ffk1.out)) <|
   hk (fun cx=>cx.q (ex_not (x:=.tmp 7) rfl (cx.u 0 rfl))) <|
   hn) ?_
  intro a4 w4 f4
  refine wp_cond_false (f4.v 2 rfl rfl rfl) ?_
  refine wp_skip ?_
  refine wp_seq ?_
  cases fk2:Sc.onB a
  case false=>
   have Ffk2:=Lib.hid fk2;clear fk2
   have b_g1_4:=f4.k b_g1
   have s1_5:=f4.q 1 u_g1
   refine go_reg [bx g1 29 (scC a)] [⟨5,4,29,(scC zSc),some 6,(scC (Sc.on a))⟩] [some (.agg (scC a)),some (.tuple #[.agg (scC (Sc.on a)),.bool (Sc.onB a)]),some (.tuple #[.agg (scC (Sc.on a)),.bool (Sc.onB a)]),some (.agg (scC (Sc.on a))),oF,none,none,oF] mo f4.d f4.z f4.b (by kernel_rfl) ⟨b_g1_4,trivial⟩ (
    hk (fun cx=>cx.q (ldSc rfl (cx.rq 1 s1_5) (cx.rn 0 rfl))) <|
    hc (fun _ _ wx cx=>cx.c rfl (args1 (cx.u 0 rfl)) Try.func89 (by decide +kernel) (wonce_n a wx HA.out) rfl rfl) <|
    kmu 0 <|
    hk (fun cx=>cx.q (ex_ext (x:=.tmp 10) rfl (cx.u 0 rfl) rfl)) <|
    hk (fun cx=>cx.v (ex_ext (x:=.tmp 10) rfl (cx.u 0 rfl) rfl) rfl (congrArg Value.bool Ffk2.out)) <|
    hk (fun cx=>cx.al (wn rfl) 0 rfl (al_sc rfl) rfl rfl rfl rfl (by kernel_rfl) trivial) <|
    hk (fun cx=>cx.stA (wn rfl) rfl rfl 0 0 rfl rfl rfl rfl (cx.u 1 rfl) (by kernel_rfl) (Eq.refl 6) (scC_one _) f4.b.size rfl rfl trivial) <|
    kmu 0 <|
    hn) ?_
   intro a5 w5 f5
   obtain ⟨g3,u_g3,q_g3,b_g3⟩:=f5.al.1
   refine wp_seq ?_
   refine wp_seq ?_
   refine go_reg [] [] [oF,oT] mo f5.d f5.z f5.b (by kernel_rfl) trivial (
    hk (fun cx=>cx.q (ex_mv rfl (cx.rq 5 (f5.v 7 rfl rfl rfl)))) <|
    hk (fun cx=>cx.q (ex_not (x:=.tmp 15) rfl (cx.u 0 rfl))) <|
    hn) ?_
   intro a6 w6 f6
   refine wp_cond_true (f6.v 1 rfl rfl rfl) ?_
   refine wp_seq ?_
   have b_g2_6:=f6.k (f5.k (f4.k b_g2))
   have s2_7:=f6.q 2 (f5.q 2 (f4.q 2 u_g2))
   refine go_reg [⟨g2,29,(scC zSc),some 1,(scC allC)⟩] [] [some (.agg (scC allC)),none,oF] mo f6.d f6.z f6.b (by kernel_rfl) ⟨b_g2_6,trivial⟩ (
    hc (fun _ _ wx cx=>cx.c rfl (args0 ) Try.func41 (by decide +kernel) (wall_n wx) rfl rfl) <|
    hk (fun cx=>cx.stR (wn rfl) rfl rfl 0 rfl (cx.rq 2 s2_7) (cx.u 0 rfl) (by kernel_rfl) (Eq.refl 6) (scC_one _) q_g2 rfl trivial trivial) <|
    hk (fun cx=>cx.q (ex_as rfl rfl)) <|
    hn) ?_
   intro a7 w7 f7
   refine wp_ret ?_
   have s2_8:=f7.q 2 s2_7
   try simp only [Exit.inBlock,Exit.then]
   refine bodyPost_ret (res_ct (fn:=Try.f61) rfl s2_8 (load_row 29 f7.rows.1 Try.underlying29 rfl (by kernel_rfl)) (f7.v 2 rfl rfl rfl)) f7.d ?_
   have HE:(.tuple #[.agg (scC allC),.bool false]:Value)=.tuple #[.agg (scC (Sc.nar a)),.bool (Sc.narB a)]:=by unfold Sc.nar;rw [nar_no Ffk2.out];rfl
   exact ⟨retV HE,f7.b⟩
  have Ffk2:=Lib.hid fk2;clear fk2
  have b_g1_9:=f4.k b_g1
  have s1_10:=f4.q 1 u_g1
  refine go_reg [bx g1 29 (scC a)] [⟨5,4,29,(scC zSc),some 6,(scC (Sc.on a))⟩] [some (.agg (scC a)),some (.tuple #[.agg (scC (Sc.on a)),.bool (Sc.onB a)]),some (.tuple #[.agg (scC (Sc.on a)),.bool (Sc.onB a)]),some (.agg (scC (Sc.on a))),oT,none,none,oT] mo f4.d f4.z f4.b (by kernel_rfl) ⟨b_g1_9,trivial⟩ (
   hk (fun cx=>cx.q (ldSc rfl (cx.rq 1 s1_10) (cx.rn 0 rfl))) <|
   hc (fun _ _ wx cx=>cx.c rfl (args1 (cx.u 0 rfl)) Try.func89 (by decide +kernel) (wonce_n a wx HA.out) rfl rfl) <|
   kmu 0 <|
   hk (fun cx=>cx.q (ex_ext (x:=.tmp 10) rfl (cx.u 0 rfl) rfl)) <|
   hk (fun cx=>cx.v (ex_ext (x:=.tmp 10) rfl (cx.u 0 rfl) rfl) rfl (congrArg Value.bool Ffk2.out)) <|
   hk (fun cx=>cx.al (wn rfl) 0 rfl (al_sc rfl) rfl rfl rfl rfl (by kernel_rfl) trivial) <|
   hk (fun cx=>cx.stA (wn rfl) rfl rfl 0 0 rfl rfl rfl rfl (cx.u 1 rfl) (by kernel_rfl) (Eq.refl 6) (scC_one _) f4.b.size rfl rfl trivial) <|
   kmu 0 <|
   hn) ?_
  intro a8 w8 f8
  obtain ⟨g3,u_g3,q_g3,b_g3⟩:=f8.al.1
  refine wp_seq ?_
  refine wp_seq ?_
  refine go_reg [] [] [oT,oF] mo f8.d f8.z f8.b (by kernel_rfl) trivial (
   hk (fun cx=>cx.q (ex_mv rfl (cx.rq 5 (f8.v 7 rfl rfl rfl)))) <|
   hk (fun cx=>cx.q (ex_not (x:=.tmp 15) rfl (cx.u 0 rfl))) <|
   hn) ?_
  intro a9 w9 f9
  refine wp_cond_false (f9.v 1 rfl rfl rfl) ?_
  refine wp_skip ?_
  refine wp_seq ?_
  have b_g3_11:=f9.k b_g3
  have b_g2_12:=f9.k (f8.k (f4.k b_g2))
  have s4_13:=f9.q 4 u_g3
  have s2_14:=f9.q 2 (f8.q 2 (f4.q 2 u_g2))
  refine go_reg [bx g3 29 (scC (Sc.on a)),⟨g2,29,(scC zSc),some 4,(scC (Sc.on (Sc.on a)))⟩] [] [some (.agg (scC (Sc.on a))),some (.tuple #[.agg (scC (Sc.on (Sc.on a))),.bool (Sc.onB (Sc.on a))]),some (.agg (scC (Sc.on (Sc.on a)))),some (.bool (Sc.onB (Sc.on a))),none,some (.bool (Sc.onB (Sc.on a)))] mo f9.d f9.z f9.b (by kernel_rfl) ⟨b_g3_11,b_g2_12,trivial⟩ (
   hk (fun cx=>cx.q (ldSc rfl (cx.rq 4 s4_13) (cx.rn 0 rfl))) <|
   hc (fun _ _ wx cx=>cx.c rfl (args1 (cx.u 0 rfl)) Try.func89 (by decide +kernel) (wonce_n (Sc.on a) wx (on_ok (s:=a) HA.out)) rfl rfl) <|
   hk (fun cx=>cx.q (ex_ext (x:=.tmp 19) rfl (cx.u 0 rfl) rfl)) <|
   hk (fun cx=>cx.q (ex_ext (x:=.tmp 19) rfl (cx.u 0 rfl) rfl)) <|
   hk (fun cx=>cx.stR (wn rfl) rfl rfl 1 rfl (cx.rq 2 s2_14) (cx.u 0 rfl) (by kernel_rfl) (Eq.refl 6) (scC_one _) q_g2 rfl ⟨(ne_row (f4.k b_g2) q_g3).symm,trivial⟩ trivial) <|
   kmu 0 <|
   hn) ?_
  intro a10 w10 f10
  refine wp_ret ?_
  have s2_15:=f10.q 2 s2_14
  try simp only [Exit.inBlock,Exit.then]
  refine bodyPost_ret (res_ct (fn:=Try.f61) rfl s2_15 (load_row 29 f10.rows.2.1 Try.underlying29 rfl (by kernel_rfl)) (f10.v 5 rfl rfl rfl)) f10.d ?_
  have HE:(.tuple #[.agg (scC (Sc.on (Sc.on a))),.bool (Sc.onB (Sc.on a))]:Value)=.tuple #[.agg (scC (Sc.nar a)),.bool (Sc.narB a)]:=by rw [(nar_of Ffk2.out).1,(nar_of Ffk2.out).2]
  exact ⟨retV HE,f10.b⟩
end Go.Proofs.Ytcnneeimkcnjfaa.Sta
