/-
  The document's own answer for known bits (latheref08), as contracts. (Written by gen_stg.py.)
-/
import Derived.Test.YtcnneeimkcnjfaaStB
import Derived.Test.YtcnneeimkcnjfaaStN
namespace Go.Proofs.Ytcnneeimkcnjfaa.Sta
open Go.RowKit Bnd Knw
set_option linter.unusedVariables false
set_option linter.unusedSimpArgs false
set_option linter.unnecessarySimpa false
set_option maxRecDepth 100000
theorem faStG27_0_0 (g : Nat) (w : World) : (Instr.fieldAt 27 (.pointer (some ⟨g, 0, none⟩)) 0).run Try.prog w = .ok (.pointer (some ⟨g, 0, none⟩)) w := by simp [go_sem]
theorem faStG27_1_0 (g : Nat) (w : World) : (Instr.fieldAt 27 (.pointer (some ⟨g, 0, none⟩)) 1).run Try.prog w = .ok (.pointer (some ⟨g, 1, none⟩)) w := by simp [go_sem]
set_option maxHeartbeats 4000000 in
theorem lmay_n (a : Kn) (W : World) : Calls Try.prog 72 #[.agg (knC a)] W fun e w' => e = .returned (.bool (Kn.mayB a)) ∧ Below W.heap.size W w' := by
  refine calls_abs Try.func72 rfl (Nat.le_of_ble_eq_true rfl) ?_
  intro a0 d0 z0 h0
  replace z0 : a0.tmps.size = 9 := z0
  have s0_0 : a0.tmps.getD 0 undef = .agg (knC a) := h0 0 (Nat.le_of_ble_eq_true rfl)
  refine wp_seq ?_
  refine go_reg [] [⟨0, 1, 27, (knC a), none, #[]⟩] [none, oF] mo d0 z0 (Below.refl _ _) (by kernel_rfl) trivial (
   hk (fun cx => cx.al (wn rfl) 0 rfl (ex_box rfl (cx.rq 0 s0_0) rfl) rfl rfl rfl rfl rfl trivial) <|
   hk (fun cx => cx.q (ex_as rfl rfl)) <|
   hn) ?_
  intro a1 w1 f1
  obtain ⟨g1, u_g1, q_g1, b_g1⟩ := f1.al.1
  refine wp_seq ?_
  refine go_reg [bx g1 27 (knC a)] [] [some (pt g1 0), some (.int .u64 (V a.v)), some (pt g1 1), some (.int .u64 (V a.m)), some (.int .u64 (V (a.v &&& a.m))), some (.bool (Kn.mayB a)), some (.bool (Kn.mayB a))] mo f1.d f1.z f1.b (by kernel_rfl) ⟨b_g1, trivial⟩ (
   hk (fun cx => cx.q (ex_fa rfl (cx.rq 1 u_g1) (faStG27_0_0 _ _))) <|
   hk (fun cx => cx.q (ex_ld rfl (cx.u 0 rfl) (cx.rn 0 rfl) rfl Try.isAgg23)) <|
   hk (fun cx => cx.q (ex_fa rfl (cx.rq 1 u_g1) (faStG27_1_0 _ _))) <|
   hk (fun cx => cx.q (ex_ld rfl (cx.u 0 rfl) (cx.rn 0 rfl) rfl Try.isAgg23)) <|
   hk (fun cx => cx.v (ex_and (x := .tmp 4) (y := .tmp 6) rfl (cx.u 0 rfl) (cx.u 1 rfl)) rfl (congrArg (Value.int .u64) (V_and a.v a.m))) <|
   hk (fun cx => cx.v (ex_eq (x := .tmp 7) rfl (cx.u 0 rfl) rfl) rfl (congrArg Value.bool (V_z (a.v &&& a.m)))) <|
   kmu 0 <|
   hn) ?_
  intro a2 w2 f2
  refine wp_ret ?_
  try simp only [Exit.inBlock, Exit.then]
  refine bodyPost_ret (res_t (fn := Try.f72) rfl (f2.v 6 rfl rfl rfl)) f2.d ?_
  exact ⟨rfl, f2.b⟩
set_option maxHeartbeats 4000000 in
theorem lall_n  (W : World) : Calls Try.prog 60 #[] W fun e w' => e = .returned (.agg (knC allK)) ∧ Below W.heap.size W w' := by
  refine calls_abs Try.func60 rfl (Nat.le_of_ble_eq_true rfl) ?_
  intro a0 d0 z0 h0
  replace z0 : a0.tmps.size = 2 := z0
  refine wp_seq ?_
  refine go_reg [] [⟨0, 0, 27, (knC zKn), none, #[]⟩] [none] mo d0 z0 (Below.refl _ _) (by kernel_rfl) trivial (
   hk (fun cx => cx.al (wn rfl) 0 rfl (al_kn rfl) rfl rfl rfl rfl rfl trivial) <|
   hn) ?_
  intro a1 w1 f1
  obtain ⟨g1, u_g1, q_g1, b_g1⟩ := f1.al.1
  refine wp_seq ?_
  refine go_reg [⟨g1, 27, (knC zKn), some 1, (knC ⟨zKn.v, 18446744073709551615#64⟩)⟩] [] [some (.agg (knC ⟨zKn.v, 18446744073709551615#64⟩)), none] mo f1.d f1.z f1.b (by kernel_rfl) ⟨b_g1, trivial⟩ (
   hk (fun cx => cx.q (exec_build rfl (parts1 rfl) (by kernel_rfl))) <|
   hk (fun cx => cx.stR (wn rfl) rfl rfl 0 rfl (cx.rq 0 u_g1) (cx.u 0 rfl) (by kernel_rfl) (Eq.refl 2) (knC_one _) q_g1 rfl trivial trivial) <|
   hn) ?_
  intro a2 w2 f2
  refine wp_ret ?_
  have s0_1 := f2.q 0 u_g1
  try simp only [Exit.inBlock, Exit.then]
  refine bodyPost_ret (res_c (fn := Try.f60) rfl s0_1 (load_row 27 f2.rows.1 Try.underlying27 rfl (by kernel_rfl))) f2.d ?_
  have HE : (.agg (knC ⟨zKn.v, 18446744073709551615#64⟩) : Value) = .agg (knC allK) := rfl
  exact ⟨retV HE, f2.b⟩
set_option maxHeartbeats 4000000 in
theorem ljoin_n (a b : Kn) (W : World) : Calls Try.prog 116 #[.agg (knC a), .agg (knC b)] W fun e w' => e = .returned (.agg (knC (Kn.joinK a b))) ∧ Below W.heap.size W w' := by
  refine calls_abs Try.func116 rfl (Nat.le_of_ble_eq_true rfl) ?_
  intro a0 d0 z0 h0
  replace z0 : a0.tmps.size = 34 := z0
  have s0_0 : a0.tmps.getD 0 undef = .agg (knC a) := h0 0 (Nat.le_of_ble_eq_true rfl)
  have s1_0 : a0.tmps.getD 1 undef = .agg (knC b) := h0 1 (Nat.le_of_ble_eq_true rfl)
  refine wp_seq ?_
  refine go_reg [] [⟨0, 2, 27, (knC a), none, #[]⟩, ⟨1, 3, 27, (knC b), none, #[]⟩, ⟨2, 4, 27, (knC zKn), none, #[]⟩] [none, none, none] mo d0 z0 (Below.refl _ _) (by kernel_rfl) trivial (
   hk (fun cx => cx.al (wn rfl) 0 rfl (ex_box rfl (cx.rq 0 s0_0) rfl) rfl rfl rfl rfl rfl trivial) <|
   hk (fun cx => cx.al (wn rfl) 1 rfl (ex_box rfl (cx.rq 1 s1_0) rfl) rfl rfl rfl rfl rfl trivial) <|
   hk (fun cx => cx.al (wn rfl) 2 rfl (al_kn rfl) rfl rfl rfl rfl rfl trivial) <|
   hn) ?_
  intro a1 w1 f1
  obtain ⟨g1, u_g1, q_g1, b_g1⟩ := f1.al.1
  obtain ⟨g2, u_g2, q_g2, b_g2⟩ := f1.al.2.1
  obtain ⟨g3, u_g3, q_g3, b_g3⟩ := f1.al.2.2.1
  refine wp_seq ?_
  refine wp_seq ?_
  cases fk1 : Kn.mayB a
  case false =>
   have Ffk1 := Lib.hid fk1; clear fk1
   refine go_reg [bx g1 27 (knC a)] [] [some (.agg (knC a)), oF, oT, oT, oU, oU, oU, oT] mo f1.d f1.z f1.b (by kernel_rfl) ⟨b_g1, trivial⟩ (
    hk (fun cx => cx.q (ldKn rfl (cx.rq 2 u_g1) (cx.rn 0 rfl))) <|
    hc (fun _ _ wx cx => cx.c rfl (args1 (cx.u 0 rfl)) Try.func72 (by decide +kernel) (lmay_n a wx) rfl (congrArg Value.bool Ffk1.out)) <|
    hk (fun cx => cx.q (ex_not (x := .tmp 7) rfl (cx.u 0 rfl))) <|
    kmu 0 <|
    kno 0 <|
    kno 1 <|
    kno 1 <|
    hk (fun cx => cx.q (ex_pt rfl (cx.u 0 rfl) rfl)) <|
    hn) ?_
   intro a2 w2 f2
   refine wp_cond_true (f2.v 7 rfl rfl rfl) ?_
   refine wp_seq ?_
   have b_g3_1 := f2.k b_g3
   have s4_2 := f2.q 4 u_g3
   refine go_reg [⟨g3, 27, (knC zKn), some 1, (knC allK)⟩] [] [some (.agg (knC allK)), none] mo f2.d f2.z f2.b (by kernel_rfl) ⟨b_g3_1, trivial⟩ (
    hc (fun _ _ wx cx => cx.c rfl (args0 ) Try.func60 (by decide +kernel) (lall_n wx) rfl rfl) <|
    hk (fun cx => cx.stR (wn rfl) rfl rfl 0 rfl (cx.rq 4 s4_2) (cx.u 0 rfl) (by kernel_rfl) (Eq.refl 2) (knC_one _) q_g3 rfl trivial trivial) <|
    hn) ?_
   intro a3 w3 f3
   refine wp_ret ?_
   have s4_3 := f3.q 4 s4_2
   try simp only [Exit.inBlock, Exit.then]
   refine bodyPost_ret (res_c (fn := Try.f116) rfl s4_3 (load_row 27 f3.rows.1 Try.underlying27 rfl (by kernel_rfl))) f3.d ?_
   have HE : (.agg (knC allK) : Value) = .agg (knC (Kn.joinK a b)) := by unfold Kn.joinK; simp only [Ffk1.out, Bool.true_and, Bool.and_true, Bool.false_and, Bool.and_false, Bool.or_false, Bool.false_or, Bool.true_or, Bool.or_true, Bool.not_true, Bool.not_false, if_true, if_false, Bool.false_eq_true, Bool.true_eq_false, reduceCtorEq]; try rfl
   exact ⟨retV HE, f3.b⟩
  have Ffk1 := Lib.hid fk1; clear fk1
  cases fk2 : Kn.mayB b
  case false =>
   have Ffk2 := Lib.hid fk2; clear fk2
   refine go_reg [bx g1 27 (knC a), bx g2 27 (knC b)] [] [some (.agg (knC a)), oT, oF, oF, some (.agg (knC b)), oF, oT, oT] mo f1.d f1.z f1.b (by kernel_rfl) ⟨b_g1, b_g2, trivial⟩ (
    hk (fun cx => cx.q (ldKn rfl (cx.rq 2 u_g1) (cx.rn 0 rfl))) <|
    hc (fun _ _ wx cx => cx.c rfl (args1 (cx.u 0 rfl)) Try.func72 (by decide +kernel) (lmay_n a wx) rfl (congrArg Value.bool Ffk1.out)) <|
    hk (fun cx => cx.q (ex_not (x := .tmp 7) rfl (cx.u 0 rfl))) <|
    kmu 0 <|
    hk (fun cx => cx.vy 0 (ldKn rfl (cx.rq 3 u_g2) (cx.rn 1 rfl))) <|
    hc (fun _ _ wx cx => cx.call (cx.wy rfl rfl rfl rfl (cx.u 1 rfl)) rfl rfl (args1 (cx.u 0 rfl)) Try.func72 (by decide +kernel) rfl (lmay_n b wx) rfl rfl (congrArg Value.bool Ffk2.out) rfl) <|
    hk (fun cx => cx.vy 1 (ex_not (x := .tmp 11) rfl (cx.u 0 rfl))) <|
    hk (fun cx => cx.q (ex_pf rfl (cx.u 0 rfl) (cx.u 1 rfl))) <|
    hn) ?_
   intro a4 w4 f4
   refine wp_cond_true (f4.v 7 rfl rfl rfl) ?_
   refine wp_seq ?_
   have b_g3_4 := f4.k b_g3
   have s4_5 := f4.q 4 u_g3
   refine go_reg [⟨g3, 27, (knC zKn), some 1, (knC allK)⟩] [] [some (.agg (knC allK)), none] mo f4.d f4.z f4.b (by kernel_rfl) ⟨b_g3_4, trivial⟩ (
    hc (fun _ _ wx cx => cx.c rfl (args0 ) Try.func60 (by decide +kernel) (lall_n wx) rfl rfl) <|
    hk (fun cx => cx.stR (wn rfl) rfl rfl 0 rfl (cx.rq 4 s4_5) (cx.u 0 rfl) (by kernel_rfl) (Eq.refl 2) (knC_one _) q_g3 rfl trivial trivial) <|
    hn) ?_
   intro a5 w5 f5
   refine wp_ret ?_
   have s4_6 := f5.q 4 s4_5
   try simp only [Exit.inBlock, Exit.then]
   refine bodyPost_ret (res_c (fn := Try.f116) rfl s4_6 (load_row 27 f5.rows.1 Try.underlying27 rfl (by kernel_rfl))) f5.d ?_
   have HE : (.agg (knC allK) : Value) = .agg (knC (Kn.joinK a b)) := by unfold Kn.joinK; simp only [Ffk1.out, Ffk2.out, Bool.true_and, Bool.and_true, Bool.false_and, Bool.and_false, Bool.or_false, Bool.false_or, Bool.true_or, Bool.or_true, Bool.not_true, Bool.not_false, if_true, if_false, Bool.false_eq_true, Bool.true_eq_false, reduceCtorEq]; try rfl
   exact ⟨retV HE, f5.b⟩
  have Ffk2 := Lib.hid fk2; clear fk2
  refine go_reg [bx g1 27 (knC a), bx g2 27 (knC b)] [] [some (.agg (knC a)), oT, oF, oF, some (.agg (knC b)), oT, oF, oF] mo f1.d f1.z f1.b (by kernel_rfl) ⟨b_g1, b_g2, trivial⟩ (
   hk (fun cx => cx.q (ldKn rfl (cx.rq 2 u_g1) (cx.rn 0 rfl))) <|
   hc (fun _ _ wx cx => cx.c rfl (args1 (cx.u 0 rfl)) Try.func72 (by decide +kernel) (lmay_n a wx) rfl (congrArg Value.bool Ffk1.out)) <|
   hk (fun cx => cx.q (ex_not (x := .tmp 7) rfl (cx.u 0 rfl))) <|
   kmu 0 <|
   hk (fun cx => cx.vy 0 (ldKn rfl (cx.rq 3 u_g2) (cx.rn 1 rfl))) <|
   hc (fun _ _ wx cx => cx.call (cx.wy rfl rfl rfl rfl (cx.u 1 rfl)) rfl rfl (args1 (cx.u 0 rfl)) Try.func72 (by decide +kernel) rfl (lmay_n b wx) rfl rfl (congrArg Value.bool Ffk2.out) rfl) <|
   hk (fun cx => cx.vy 1 (ex_not (x := .tmp 11) rfl (cx.u 0 rfl))) <|
   hk (fun cx => cx.q (ex_pf rfl (cx.u 0 rfl) (cx.u 1 rfl))) <|
   hn) ?_
  intro a6 w6 f6
  refine wp_cond_false (f6.v 7 rfl rfl rfl) ?_
  refine wp_skip ?_
  refine wp_seq ?_
  have b_g1_7 := f6.k b_g1
  have b_g2_8 := f6.k b_g2
  have s2_9 := f6.q 2 u_g1
  have s3_10 := f6.q 3 u_g2
  refine go_reg [bx g1 27 (knC a), bx g2 27 (knC b)] [⟨12, 5, 27, (knC zKn), some 13, (knC ⟨zKn.v, a.m ||| b.m ||| (a.v ^^^ b.v)⟩)⟩] [some (pt g1 1), some (.int .u64 (V a.m)), some (pt g2 1), some (.int .u64 (V b.m)), some (.int .u64 (V (a.m ||| b.m))), some (pt g1 0), some (.int .u64 (V a.v)), some (pt g2 0), some (.int .u64 (V b.v)), some (.int .u64 (V (a.v ^^^ b.v))), some (.int .u64 (V (a.m ||| b.m ||| (a.v ^^^ b.v)))), some (.agg (knC ⟨zKn.v, a.m ||| b.m ||| (a.v ^^^ b.v)⟩)), none, none] mo f6.d f6.z f6.b (by kernel_rfl) ⟨b_g1_7, b_g2_8, trivial⟩ (
   hk (fun cx => cx.q (ex_fa rfl (cx.rq 2 s2_9) (faStG27_1_0 _ _))) <|
   hk (fun cx => cx.q (ex_ld rfl (cx.u 0 rfl) (cx.rn 0 rfl) rfl Try.isAgg23)) <|
   hk (fun cx => cx.q (ex_fa rfl (cx.rq 3 s3_10) (faStG27_1_0 _ _))) <|
   hk (fun cx => cx.q (ex_ld rfl (cx.u 0 rfl) (cx.rn 1 rfl) rfl Try.isAgg23)) <|
   hk (fun cx => cx.v (ex_or (x := .tmp 16) (y := .tmp 18) rfl (cx.u 0 rfl) (cx.u 1 rfl)) rfl (congrArg (Value.int .u64) (V_or _ _))) <|
   hk (fun cx => cx.q (ex_fa rfl (cx.rq 2 s2_9) (faStG27_0_0 _ _))) <|
   hk (fun cx => cx.q (ex_ld rfl (cx.u 0 rfl) (cx.rn 0 rfl) rfl Try.isAgg23)) <|
   hk (fun cx => cx.q (ex_fa rfl (cx.rq 3 s3_10) (faStG27_0_0 _ _))) <|
   hk (fun cx => cx.q (ex_ld rfl (cx.u 0 rfl) (cx.rn 1 rfl) rfl Try.isAgg23)) <|
   hk (fun cx => cx.v (ex_xor (x := .tmp 21) (y := .tmp 23) rfl (cx.u 0 rfl) (cx.u 1 rfl)) rfl (congrArg (Value.int .u64) (V_xor _ _))) <|
   hk (fun cx => cx.v (ex_or (x := .tmp 19) (y := .tmp 24) rfl (cx.u 0 rfl) (cx.u 1 rfl)) rfl (congrArg (Value.int .u64) (V_or _ _))) <|
   hk (fun cx => cx.q (exec_build rfl (parts1 (cx.u 0 rfl)) (by kernel_rfl))) <|
   hk (fun cx => cx.al (wn rfl) 0 rfl (al_kn rfl) rfl rfl rfl rfl (by kernel_rfl) trivial) <|
   hk (fun cx => cx.stA (wn rfl) rfl rfl 0 0 rfl rfl rfl rfl (cx.u 1 rfl) (by kernel_rfl) (Eq.refl 2) (knC_one _) f6.b.size rfl rfl trivial) <|
   hn) ?_
  intro a7 w7 f7
  obtain ⟨g4, u_g4, q_g4, b_g4⟩ := f7.al.1
  refine wp_seq ?_
  have b_g1_11 := f7.k b_g1_7
  have s2_12 := f7.q 2 s2_9
  refine go_reg [bx g1 27 (knC a), ⟨g4, 27, (knC ⟨zKn.v, a.m ||| b.m ||| (a.v ^^^ b.v)⟩), some 6, (knC ⟨a.v &&& ~~~(a.m ||| b.m ||| (a.v ^^^ b.v)), a.m ||| b.m ||| (a.v ^^^ b.v)⟩)⟩] [] [some (pt g1 0), some (.int .u64 (V a.v)), some (pt g4 1), some (.int .u64 (V (a.m ||| b.m ||| (a.v ^^^ b.v)))), some (.int .u64 (V (a.v &&& ~~~(a.m ||| b.m ||| (a.v ^^^ b.v))))), some (pt g4 0), none] mo f7.d f7.z f7.b (by kernel_rfl) ⟨b_g1_11, b_g4, trivial⟩ (
   hk (fun cx => cx.q (ex_fa rfl (cx.rq 2 s2_12) (faStG27_0_0 _ _))) <|
   hk (fun cx => cx.q (ex_ld rfl (cx.u 0 rfl) (cx.rn 0 rfl) rfl Try.isAgg23)) <|
   hk (fun cx => cx.q (ex_fa rfl (cx.rq 5 u_g4) (faStG27_1_0 _ _))) <|
   hk (fun cx => cx.q (ex_ld rfl (cx.u 0 rfl) (cx.rf 1 rfl (by kernel_rfl)) rfl Try.isAgg23)) <|
   hk (fun cx => cx.v (ex_an (x := .tmp 28) (y := .tmp 30) rfl (cx.u 0 rfl) (cx.u 1 rfl)) rfl (congrArg (Value.int .u64) (V_an _ _))) <|
   hk (fun cx => cx.q (ex_fa rfl (cx.rq 5 u_g4) (faStG27_0_0 _ _))) <|
   hk (fun cx => cx.stC (wn rfl) rfl rfl 1 rfl (cx.u 0 rfl) (cx.u 1 rfl) rfl rfl (by kernel_rfl) rfl rfl (Nat.le_trans f6.b.size q_g4) rfl ⟨(ne_row b_g1_7 q_g4), trivial⟩ trivial) <|
   hn) ?_
  intro a8 w8 f8
  refine wp_seq ?_
  have b_g3_13 := f8.kp (f7.k (f6.k b_g3)) ⟨.inl rfl, .inr (ne_row (f6.k b_g3) q_g4), trivial⟩
  have s5_14 := f8.q 5 u_g4
  have s4_15 := f8.q 4 (f7.q 4 (f6.q 4 u_g3))
  refine go_reg [bx g4 27 (knC ⟨a.v &&& ~~~(a.m ||| b.m ||| (a.v ^^^ b.v)), a.m ||| b.m ||| (a.v ^^^ b.v)⟩), ⟨g3, 27, (knC zKn), some 1, (knC ⟨a.v &&& ~~~(a.m ||| b.m ||| (a.v ^^^ b.v)), a.m ||| b.m ||| (a.v ^^^ b.v)⟩)⟩] [] [some (.agg (knC ⟨a.v &&& ~~~(a.m ||| b.m ||| (a.v ^^^ b.v)), a.m ||| b.m ||| (a.v ^^^ b.v)⟩)), none] mo f8.d f8.z f8.b (by kernel_rfl) ⟨f8.rows.2.1, b_g3_13, trivial⟩ (
   hk (fun cx => cx.q (ldKn rfl (cx.rq 5 s5_14) (cx.rn 0 rfl))) <|
   hk (fun cx => cx.stR (wn rfl) rfl rfl 1 rfl (cx.rq 4 s4_15) (cx.u 0 rfl) (by kernel_rfl) (Eq.refl 2) (knC_one _) q_g3 rfl ⟨(ne_row (f6.k b_g3) q_g4).symm, trivial⟩ trivial) <|
   hn) ?_
  intro a9 w9 f9
  refine wp_ret ?_
  have s4_16 := f9.q 4 s4_15
  try simp only [Exit.inBlock, Exit.then]
  refine bodyPost_ret (res_c (fn := Try.f116) rfl s4_16 (load_row 27 f9.rows.2.1 Try.underlying27 rfl (by kernel_rfl))) f9.d ?_
  have HE : (.agg (knC ⟨a.v &&& ~~~(a.m ||| b.m ||| (a.v ^^^ b.v)), a.m ||| b.m ||| (a.v ^^^ b.v)⟩) : Value) = .agg (knC (Kn.joinK a b)) := by unfold Kn.joinK; simp only [Ffk1.out, Ffk2.out, Bool.true_and, Bool.and_true, Bool.false_and, Bool.and_false, Bool.or_false, Bool.false_or, Bool.true_or, Bool.or_true, Bool.not_true, Bool.not_false, if_true, if_false, Bool.false_eq_true, Bool.true_eq_false, reduceCtorEq]; try rfl
  exact ⟨retV HE, f9.b⟩
set_option maxHeartbeats 4000000 in
theorem lin_n (a b : Kn) (W : World) : Calls Try.prog 107 #[.agg (knC a), .agg (knC b)] W fun e w' => e = .returned (.bool (Kn.inB a b)) ∧ Below W.heap.size W w' := by
  refine calls_abs Try.func107 rfl (Nat.le_of_ble_eq_true rfl) ?_
  intro a0 d0 z0 h0
  replace z0 : a0.tmps.size = 30 := z0
  have s0_0 : a0.tmps.getD 0 undef = .agg (knC a) := h0 0 (Nat.le_of_ble_eq_true rfl)
  have s1_0 : a0.tmps.getD 1 undef = .agg (knC b) := h0 1 (Nat.le_of_ble_eq_true rfl)
  refine wp_seq ?_
  refine go_reg [] [⟨0, 2, 27, (knC a), none, #[]⟩, ⟨1, 3, 27, (knC b), none, #[]⟩] [none, none, oF] mo d0 z0 (Below.refl _ _) (by kernel_rfl) trivial (
   hk (fun cx => cx.al (wn rfl) 0 rfl (ex_box rfl (cx.rq 0 s0_0) rfl) rfl rfl rfl rfl rfl trivial) <|
   hk (fun cx => cx.al (wn rfl) 1 rfl (ex_box rfl (cx.rq 1 s1_0) rfl) rfl rfl rfl rfl rfl trivial) <|
   hk (fun cx => cx.q (ex_as rfl rfl)) <|
   hn) ?_
  intro a1 w1 f1
  obtain ⟨g1, u_g1, q_g1, b_g1⟩ := f1.al.1
  obtain ⟨g2, u_g2, q_g2, b_g2⟩ := f1.al.2.1
  refine wp_seq ?_
  cases fk1 : Kn.mayB a
  case false =>
   have Ffk1 := Lib.hid fk1; clear fk1
   refine go_reg [bx g1 27 (knC a)] [] (tabs [some (.agg (knC a)), oF, oF, oU, oU, oF, oF, oU, oU, oU, oU, oU, oU, oF, oF, oU, oU, oU, oU, oU] [oU, oU, oU, oU, oF, oF]) mo f1.d f1.z f1.b (by kernel_rfl) ⟨b_g1, trivial⟩ (
    hk (fun cx => cx.q (ldKn rfl (cx.rq 2 u_g1) (cx.rn 0 rfl))) <|
    hc (fun _ _ wx cx => cx.c rfl (args1 (cx.u 0 rfl)) Try.func72 (by decide +kernel) (lmay_n a wx) rfl (congrArg Value.bool Ffk1.out)) <|
    kmu 0 <|
    kno 0 <|
    kno 1 <|
    hk (fun cx => cx.q (ex_pf rfl (cx.u 0 rfl) rfl)) <|
    kmu 0 <|
    kno 0 <|
    kno 1 <|
    kno 0 <|
    kno 1 <|
    kno 2 <|
    kno 1 <|
    hk (fun cx => cx.q (ex_pf rfl (cx.u 0 rfl) rfl)) <|
    kmu 0 <|
    kno 0 <|
    kno 1 <|
    kno 0 <|
    kno 1 <|
    kno 2 <|
    kno 0 <|
    kno 1 <|
    kno 2 <|
    kno 1 <|
    hk (fun cx => cx.q (ex_pf rfl (cx.u 0 rfl) rfl)) <|
    kmu 0 <|
    hn) ?_
   intro a2 w2 f2
   refine wp_ret ?_
   try simp only [Exit.inBlock, Exit.then]
   refine bodyPost_ret (res_t (fn := Try.f107) rfl (f2.v 25 rfl rfl rfl)) f2.d ?_
   have HE : (.bool false : Value) = .bool (Kn.inB a b) := by rw [in_is, ← V_z, ← V_z]; simp only [Ffk1.out, Bool.false_and, Bool.true_and, Bool.and_false, Bool.and_true]
   exact ⟨retV HE, f2.b⟩
  have Ffk1 := Lib.hid fk1; clear fk1
  cases fk2 : Kn.mayB b
  case false =>
   have Ffk2 := Lib.hid fk2; clear fk2
   refine go_reg [bx g1 27 (knC a), bx g2 27 (knC b)] [] (tabs [some (.agg (knC a)), oT, oT, some (.agg (knC b)), oF, oF, oF, oU, oU, oU, oU, oU, oU, oF, oF, oU, oU, oU, oU, oU] [oU, oU, oU, oU, oF, oF]) mo f1.d f1.z f1.b (by kernel_rfl) ⟨b_g1, b_g2, trivial⟩ (
    hk (fun cx => cx.q (ldKn rfl (cx.rq 2 u_g1) (cx.rn 0 rfl))) <|
    hc (fun _ _ wx cx => cx.c rfl (args1 (cx.u 0 rfl)) Try.func72 (by decide +kernel) (lmay_n a wx) rfl (congrArg Value.bool Ffk1.out)) <|
    kmu 0 <|
    hk (fun cx => cx.vy 0 (ldKn rfl (cx.rq 3 u_g2) (cx.rn 1 rfl))) <|
    hc (fun _ _ wx cx => cx.call (cx.wy rfl rfl rfl rfl (cx.u 1 rfl)) rfl rfl (args1 (cx.u 0 rfl)) Try.func72 (by decide +kernel) rfl (lmay_n b wx) rfl rfl (congrArg Value.bool Ffk2.out) rfl) <|
    hk (fun cx => cx.q (ex_pt rfl (cx.u 0 rfl) (cx.u 1 rfl))) <|
    kmu 0 <|
    kno 0 <|
    kno 1 <|
    kno 0 <|
    kno 1 <|
    kno 2 <|
    kno 1 <|
    hk (fun cx => cx.q (ex_pf rfl (cx.u 0 rfl) rfl)) <|
    kmu 0 <|
    kno 0 <|
    kno 1 <|
    kno 0 <|
    kno 1 <|
    kno 2 <|
    kno 0 <|
    kno 1 <|
    kno 2 <|
    kno 1 <|
    hk (fun cx => cx.q (ex_pf rfl (cx.u 0 rfl) rfl)) <|
    kmu 0 <|
    hn) ?_
   intro a3 w3 f3
   refine wp_ret ?_
   try simp only [Exit.inBlock, Exit.then]
   refine bodyPost_ret (res_t (fn := Try.f107) rfl (f3.v 25 rfl rfl rfl)) f3.d ?_
   have HE : (.bool false : Value) = .bool (Kn.inB a b) := by rw [in_is, ← V_z, ← V_z]; simp only [Ffk1.out, Ffk2.out, Bool.false_and, Bool.true_and, Bool.and_false, Bool.and_true]
   exact ⟨retV HE, f3.b⟩
  have Ffk2 := Lib.hid fk2; clear fk2
  cases fk3 : (V (a.m &&& ~~~b.m)) == 0
  case false =>
   have Ffk3 := Lib.hid fk3; clear fk3
   refine go_reg [bx g1 27 (knC a), bx g2 27 (knC b)] [] (tabs [some (.agg (knC a)), oT, oT, some (.agg (knC b)), oT, oT, oT, some (pt g1 1), some (.int .u64 (V a.m)), some (pt g2 1), some (.int .u64 (V b.m)), some (.int .u64 (V (a.m &&& ~~~b.m))), oF, oF, oF, oU, oU, oU, oU, oU] [oU, oU, oU, oU, oF, oF]) mo f1.d f1.z f1.b (by kernel_rfl) ⟨b_g1, b_g2, trivial⟩ (
    hk (fun cx => cx.q (ldKn rfl (cx.rq 2 u_g1) (cx.rn 0 rfl))) <|
    hc (fun _ _ wx cx => cx.c rfl (args1 (cx.u 0 rfl)) Try.func72 (by decide +kernel) (lmay_n a wx) rfl (congrArg Value.bool Ffk1.out)) <|
    kmu 0 <|
    hk (fun cx => cx.vy 0 (ldKn rfl (cx.rq 3 u_g2) (cx.rn 1 rfl))) <|
    hc (fun _ _ wx cx => cx.call (cx.wy rfl rfl rfl rfl (cx.u 1 rfl)) rfl rfl (args1 (cx.u 0 rfl)) Try.func72 (by decide +kernel) rfl (lmay_n b wx) rfl rfl (congrArg Value.bool Ffk2.out) rfl) <|
    hk (fun cx => cx.q (ex_pt rfl (cx.u 0 rfl) (cx.u 1 rfl))) <|
    kmu 0 <|
    hk (fun cx => cx.vy 0 (ex_fa rfl (cx.rq 2 u_g1) (faStG27_1_0 _ _))) <|
    hk (fun cx => cx.vy 1 (ex_ld rfl (cx.u 0 rfl) (cx.rn 0 rfl) rfl Try.isAgg23)) <|
    hk (fun cx => cx.vy 0 (ex_fa rfl (cx.rq 3 u_g2) (faStG27_1_0 _ _))) <|
    hk (fun cx => cx.vy 1 (ex_ld rfl (cx.u 0 rfl) (cx.rn 1 rfl) rfl Try.isAgg23)) <|
    hk (fun cx => cx.vy 2 (ex_an (x := .tmp 13) (y := .tmp 15) rfl (cx.u 0 rfl) (cx.u 1 rfl)) (congrArg (Value.int .u64) (V_an _ _))) <|
    hk (fun cx => cx.vy 1 (ex_eq (x := .tmp 16) rfl (cx.u 0 rfl) rfl) (congrArg Value.bool Ffk3.out)) <|
    hk (fun cx => cx.q (ex_pt rfl (cx.u 0 rfl) (cx.u 1 rfl))) <|
    kmu 0 <|
    kno 0 <|
    kno 1 <|
    kno 0 <|
    kno 1 <|
    kno 2 <|
    kno 0 <|
    kno 1 <|
    kno 2 <|
    kno 1 <|
    hk (fun cx => cx.q (ex_pf rfl (cx.u 0 rfl) rfl)) <|
    kmu 0 <|
    hn) ?_
   intro a4 w4 f4
   refine wp_ret ?_
   try simp only [Exit.inBlock, Exit.then]
   refine bodyPost_ret (res_t (fn := Try.f107) rfl (f4.v 25 rfl rfl rfl)) f4.d ?_
   have HE : (.bool false : Value) = .bool (Kn.inB a b) := by rw [in_is, ← V_z, ← V_z]; simp only [Ffk1.out, Ffk2.out, Ffk3.out, Bool.false_and, Bool.true_and, Bool.and_false, Bool.and_true]
   exact ⟨retV HE, f4.b⟩
  have Ffk3 := Lib.hid fk3; clear fk3
  cases fk4 : (V ((a.v ^^^ b.v) &&& ~~~b.m)) == 0
  case false =>
   have Ffk4 := Lib.hid fk4; clear fk4
   refine go_reg [bx g1 27 (knC a), bx g2 27 (knC b)] [] (tabs [some (.agg (knC a)), oT, oT, some (.agg (knC b)), oT, oT, oT, some (pt g1 1), some (.int .u64 (V a.m)), some (pt g2 1), some (.int .u64 (V b.m)), some (.int .u64 (V (a.m &&& ~~~b.m))), oT, oT, oT, some (pt g1 0), some (.int .u64 (V a.v)), some (pt g2 0), some (.int .u64 (V b.v)), some (.int .u64 (V (a.v ^^^ b.v)))] [some (pt g2 1), some (.int .u64 (V b.m)), some (.int .u64 (V ((a.v ^^^ b.v) &&& ~~~b.m))), oF, oF, oF]) mo f1.d f1.z f1.b (by kernel_rfl) ⟨b_g1, b_g2, trivial⟩ (
    hk (fun cx => cx.q (ldKn rfl (cx.rq 2 u_g1) (cx.rn 0 rfl))) <|
    hc (fun _ _ wx cx => cx.c rfl (args1 (cx.u 0 rfl)) Try.func72 (by decide +kernel) (lmay_n a wx) rfl (congrArg Value.bool Ffk1.out)) <|
    kmu 0 <|
    hk (fun cx => cx.vy 0 (ldKn rfl (cx.rq 3 u_g2) (cx.rn 1 rfl))) <|
    hc (fun _ _ wx cx => cx.call (cx.wy rfl rfl rfl rfl (cx.u 1 rfl)) rfl rfl (args1 (cx.u 0 rfl)) Try.func72 (by decide +kernel) rfl (lmay_n b wx) rfl rfl (congrArg Value.bool Ffk2.out) rfl) <|
    hk (fun cx => cx.q (ex_pt rfl (cx.u 0 rfl) (cx.u 1 rfl))) <|
    kmu 0 <|
    hk (fun cx => cx.vy 0 (ex_fa rfl (cx.rq 2 u_g1) (faStG27_1_0 _ _))) <|
    hk (fun cx => cx.vy 1 (ex_ld rfl (cx.u 0 rfl) (cx.rn 0 rfl) rfl Try.isAgg23)) <|
    hk (fun cx => cx.vy 0 (ex_fa rfl (cx.rq 3 u_g2) (faStG27_1_0 _ _))) <|
    hk (fun cx => cx.vy 1 (ex_ld rfl (cx.u 0 rfl) (cx.rn 1 rfl) rfl Try.isAgg23)) <|
    hk (fun cx => cx.vy 2 (ex_an (x := .tmp 13) (y := .tmp 15) rfl (cx.u 0 rfl) (cx.u 1 rfl)) (congrArg (Value.int .u64) (V_an _ _))) <|
    hk (fun cx => cx.vy 1 (ex_eq (x := .tmp 16) rfl (cx.u 0 rfl) rfl) (congrArg Value.bool Ffk3.out)) <|
    hk (fun cx => cx.q (ex_pt rfl (cx.u 0 rfl) (cx.u 1 rfl))) <|
    kmu 0 <|
    hk (fun cx => cx.vy 0 (ex_fa rfl (cx.rq 2 u_g1) (faStG27_0_0 _ _))) <|
    hk (fun cx => cx.vy 1 (ex_ld rfl (cx.u 0 rfl) (cx.rn 0 rfl) rfl Try.isAgg23)) <|
    hk (fun cx => cx.vy 0 (ex_fa rfl (cx.rq 3 u_g2) (faStG27_0_0 _ _))) <|
    hk (fun cx => cx.vy 1 (ex_ld rfl (cx.u 0 rfl) (cx.rn 1 rfl) rfl Try.isAgg23)) <|
    hk (fun cx => cx.vy 2 (ex_xor (x := .tmp 21) (y := .tmp 23) rfl (cx.u 0 rfl) (cx.u 1 rfl)) (congrArg (Value.int .u64) (V_xor _ _))) <|
    hk (fun cx => cx.vy 0 (ex_fa rfl (cx.rq 3 u_g2) (faStG27_1_0 _ _))) <|
    hk (fun cx => cx.vy 1 (ex_ld rfl (cx.u 0 rfl) (cx.rn 1 rfl) rfl Try.isAgg23)) <|
    hk (fun cx => cx.vy 2 (ex_an (x := .tmp 24) (y := .tmp 26) rfl (cx.u 0 rfl) (cx.u 1 rfl)) (congrArg (Value.int .u64) (V_an _ _))) <|
    hk (fun cx => cx.vy 1 (ex_eq (x := .tmp 27) rfl (cx.u 0 rfl) rfl) (congrArg Value.bool Ffk4.out)) <|
    hk (fun cx => cx.q (ex_pt rfl (cx.u 0 rfl) (cx.u 1 rfl))) <|
    kmu 0 <|
    hn) ?_
   intro a5 w5 f5
   refine wp_ret ?_
   try simp only [Exit.inBlock, Exit.then]
   refine bodyPost_ret (res_t (fn := Try.f107) rfl (f5.v 25 rfl rfl rfl)) f5.d ?_
   have HE : (.bool false : Value) = .bool (Kn.inB a b) := by rw [in_is, ← V_z, ← V_z]; simp only [Ffk1.out, Ffk2.out, Ffk3.out, Ffk4.out, Bool.false_and, Bool.true_and, Bool.and_false, Bool.and_true]
   exact ⟨retV HE, f5.b⟩
  have Ffk4 := Lib.hid fk4; clear fk4
  refine go_reg [bx g1 27 (knC a), bx g2 27 (knC b)] [] (tabs [some (.agg (knC a)), oT, oT, some (.agg (knC b)), oT, oT, oT, some (pt g1 1), some (.int .u64 (V a.m)), some (pt g2 1), some (.int .u64 (V b.m)), some (.int .u64 (V (a.m &&& ~~~b.m))), oT, oT, oT, some (pt g1 0), some (.int .u64 (V a.v)), some (pt g2 0), some (.int .u64 (V b.v)), some (.int .u64 (V (a.v ^^^ b.v)))] [some (pt g2 1), some (.int .u64 (V b.m)), some (.int .u64 (V ((a.v ^^^ b.v) &&& ~~~b.m))), oT, oT, oT]) mo f1.d f1.z f1.b (by kernel_rfl) ⟨b_g1, b_g2, trivial⟩ (
   hk (fun cx => cx.q (ldKn rfl (cx.rq 2 u_g1) (cx.rn 0 rfl))) <|
   hc (fun _ _ wx cx => cx.c rfl (args1 (cx.u 0 rfl)) Try.func72 (by decide +kernel) (lmay_n a wx) rfl (congrArg Value.bool Ffk1.out)) <|
   kmu 0 <|
   hk (fun cx => cx.vy 0 (ldKn rfl (cx.rq 3 u_g2) (cx.rn 1 rfl))) <|
   hc (fun _ _ wx cx => cx.call (cx.wy rfl rfl rfl rfl (cx.u 1 rfl)) rfl rfl (args1 (cx.u 0 rfl)) Try.func72 (by decide +kernel) rfl (lmay_n b wx) rfl rfl (congrArg Value.bool Ffk2.out) rfl) <|
   hk (fun cx => cx.q (ex_pt rfl (cx.u 0 rfl) (cx.u 1 rfl))) <|
   kmu 0 <|
   hk (fun cx => cx.vy 0 (ex_fa rfl (cx.rq 2 u_g1) (faStG27_1_0 _ _))) <|
   hk (fun cx => cx.vy 1 (ex_ld rfl (cx.u 0 rfl) (cx.rn 0 rfl) rfl Try.isAgg23)) <|
   hk (fun cx => cx.vy 0 (ex_fa rfl (cx.rq 3 u_g2) (faStG27_1_0 _ _))) <|
   hk (fun cx => cx.vy 1 (ex_ld rfl (cx.u 0 rfl) (cx.rn 1 rfl) rfl Try.isAgg23)) <|
   hk (fun cx => cx.vy 2 (ex_an (x := .tmp 13) (y := .tmp 15) rfl (cx.u 0 rfl) (cx.u 1 rfl)) (congrArg (Value.int .u64) (V_an _ _))) <|
   hk (fun cx => cx.vy 1 (ex_eq (x := .tmp 16) rfl (cx.u 0 rfl) rfl) (congrArg Value.bool Ffk3.out)) <|
   hk (fun cx => cx.q (ex_pt rfl (cx.u 0 rfl) (cx.u 1 rfl))) <|
   kmu 0 <|
   hk (fun cx => cx.vy 0 (ex_fa rfl (cx.rq 2 u_g1) (faStG27_0_0 _ _))) <|
   hk (fun cx => cx.vy 1 (ex_ld rfl (cx.u 0 rfl) (cx.rn 0 rfl) rfl Try.isAgg23)) <|
   hk (fun cx => cx.vy 0 (ex_fa rfl (cx.rq 3 u_g2) (faStG27_0_0 _ _))) <|
   hk (fun cx => cx.vy 1 (ex_ld rfl (cx.u 0 rfl) (cx.rn 1 rfl) rfl Try.isAgg23)) <|
   hk (fun cx => cx.vy 2 (ex_xor (x := .tmp 21) (y := .tmp 23) rfl (cx.u 0 rfl) (cx.u 1 rfl)) (congrArg (Value.int .u64) (V_xor _ _))) <|
   hk (fun cx => cx.vy 0 (ex_fa rfl (cx.rq 3 u_g2) (faStG27_1_0 _ _))) <|
   hk (fun cx => cx.vy 1 (ex_ld rfl (cx.u 0 rfl) (cx.rn 1 rfl) rfl Try.isAgg23)) <|
   hk (fun cx => cx.vy 2 (ex_an (x := .tmp 24) (y := .tmp 26) rfl (cx.u 0 rfl) (cx.u 1 rfl)) (congrArg (Value.int .u64) (V_an _ _))) <|
   hk (fun cx => cx.vy 1 (ex_eq (x := .tmp 27) rfl (cx.u 0 rfl) rfl) (congrArg Value.bool Ffk4.out)) <|
   hk (fun cx => cx.q (ex_pt rfl (cx.u 0 rfl) (cx.u 1 rfl))) <|
   kmu 0 <|
   hn) ?_
  intro a6 w6 f6
  refine wp_ret ?_
  try simp only [Exit.inBlock, Exit.then]
  refine bodyPost_ret (res_t (fn := Try.f107) rfl (f6.v 25 rfl rfl rfl)) f6.d ?_
  have HE : (.bool true : Value) = .bool (Kn.inB a b) := by rw [in_is, ← V_z, ← V_z]; simp only [Ffk1.out, Ffk2.out, Ffk3.out, Ffk4.out, Bool.false_and, Bool.true_and, Bool.and_false, Bool.and_true]
  exact ⟨retV HE, f6.b⟩
set_option maxHeartbeats 4000000 in
theorem lmeet_n (a b : Kn) (W : World) : Calls Try.prog 113 #[.agg (knC a), .agg (knC b)] W fun e w' => e = .returned (.tuple #[.agg (knC (Kn.meetK a b)), .bool (Kn.meetB a b)]) ∧ Below W.heap.size W w' := by
  refine calls_abs Try.func113 rfl (Nat.le_of_ble_eq_true rfl) ?_
  intro a0 d0 z0 h0
  replace z0 : a0.tmps.size = 40 := z0
  have s0_0 : a0.tmps.getD 0 undef = .agg (knC a) := h0 0 (Nat.le_of_ble_eq_true rfl)
  have s1_0 : a0.tmps.getD 1 undef = .agg (knC b) := h0 1 (Nat.le_of_ble_eq_true rfl)
  refine wp_seq ?_
  refine go_reg [] [⟨0, 2, 27, (knC a), none, #[]⟩, ⟨1, 3, 27, (knC b), none, #[]⟩, ⟨2, 4, 27, (knC zKn), none, #[]⟩] [none, none, none, oF] mo d0 z0 (Below.refl _ _) (by kernel_rfl) trivial (
   hk (fun cx => cx.al (wn rfl) 0 rfl (ex_box rfl (cx.rq 0 s0_0) rfl) rfl rfl rfl rfl rfl trivial) <|
   hk (fun cx => cx.al (wn rfl) 1 rfl (ex_box rfl (cx.rq 1 s1_0) rfl) rfl rfl rfl rfl rfl trivial) <|
   hk (fun cx => cx.al (wn rfl) 2 rfl (al_kn rfl) rfl rfl rfl rfl rfl trivial) <|
   hk (fun cx => cx.q (ex_as rfl rfl)) <|
   hn) ?_
  intro a1 w1 f1
  obtain ⟨g1, u_g1, q_g1, b_g1⟩ := f1.al.1
  obtain ⟨g2, u_g2, q_g2, b_g2⟩ := f1.al.2.1
  obtain ⟨g3, u_g3, q_g3, b_g3⟩ := f1.al.2.2.1
  refine wp_seq ?_
  refine wp_seq ?_
  cases fk1 : Kn.mayB a
  case false =>
   have Ffk1 := Lib.hid fk1; clear fk1
   refine go_reg [bx g1 27 (knC a)] [] (tabs [some (.agg (knC a)), oF, oT, oT, oU, oU, oU, oT, oT, oU, oU, oU, oU, oU, oU, oU, oU, oU, oU, oU] [oU, oT]) mo f1.d f1.z f1.b (by kernel_rfl) ⟨b_g1, trivial⟩ (
    hk (fun cx => cx.q (ldKn rfl (cx.rq 2 u_g1) (cx.rn 0 rfl))) <|
    hc (fun _ _ wx cx => cx.c rfl (args1 (cx.u 0 rfl)) Try.func72 (by decide +kernel) (lmay_n a wx) rfl (congrArg Value.bool Ffk1.out)) <|
    hk (fun cx => cx.q (ex_not (x := .tmp 7) rfl (cx.u 0 rfl))) <|
    kmu 0 <|
    kno 0 <|
    kno 1 <|
    kno 1 <|
    hk (fun cx => cx.q (ex_pt rfl (cx.u 0 rfl) rfl)) <|
    kmu 0 <|
    kno 0 <|
    kno 1 <|
    kno 0 <|
    kno 1 <|
    kno 2 <|
    kno 0 <|
    kno 1 <|
    kno 0 <|
    kno 1 <|
    kno 2 <|
    kno 2 <|
    kno 1 <|
    hk (fun cx => cx.q (ex_pt rfl (cx.u 0 rfl) rfl)) <|
    hn) ?_
   intro a2 w2 f2
   refine wp_cond_true (f2.v 21 rfl rfl rfl) ?_
   refine wp_seq ?_
   have b_g3_1 := f2.k b_g3
   have s4_2 := f2.q 4 u_g3
   refine go_reg [⟨g3, 27, (knC zKn), some 1, (knC allK)⟩] [] [some (.agg (knC allK)), none, oF] mo f2.d f2.z f2.b (by kernel_rfl) ⟨b_g3_1, trivial⟩ (
    hc (fun _ _ wx cx => cx.c rfl (args0 ) Try.func60 (by decide +kernel) (lall_n wx) rfl rfl) <|
    hk (fun cx => cx.stR (wn rfl) rfl rfl 0 rfl (cx.rq 4 s4_2) (cx.u 0 rfl) (by kernel_rfl) (Eq.refl 2) (knC_one _) q_g3 rfl trivial trivial) <|
    hk (fun cx => cx.q (ex_as rfl rfl)) <|
    hn) ?_
   intro a3 w3 f3
   refine wp_ret ?_
   have s4_3 := f3.q 4 s4_2
   try simp only [Exit.inBlock, Exit.then]
   refine bodyPost_ret (res_ct (fn := Try.f113) rfl s4_3 (load_row 27 f3.rows.1 Try.underlying27 rfl (by kernel_rfl)) (f3.v 2 rfl rfl rfl)) f3.d ?_
   have HM : Kn.meetB a b = false := by unfold Kn.meetB; simp only [Ffk1.out, Bool.false_and, Bool.true_and, Bool.and_false, Bool.not_true, Bool.not_false]
   have HE : (.tuple #[.agg (knC allK), .bool false] : Value) = .tuple #[.agg (knC (Kn.meetK a b)), .bool (Kn.meetB a b)] := by unfold Kn.meetK; rw [HM, if_neg Bool.false_ne_true]
   exact ⟨retV HE, f3.b⟩
  have Ffk1 := Lib.hid fk1; clear fk1
  cases fk2 : Kn.mayB b
  case false =>
   have Ffk2 := Lib.hid fk2; clear fk2
   refine go_reg [bx g1 27 (knC a), bx g2 27 (knC b)] [] (tabs [some (.agg (knC a)), oT, oF, oF, some (.agg (knC b)), oF, oT, oT, oT, oU, oU, oU, oU, oU, oU, oU, oU, oU, oU, oU] [oU, oT]) mo f1.d f1.z f1.b (by kernel_rfl) ⟨b_g1, b_g2, trivial⟩ (
    hk (fun cx => cx.q (ldKn rfl (cx.rq 2 u_g1) (cx.rn 0 rfl))) <|
    hc (fun _ _ wx cx => cx.c rfl (args1 (cx.u 0 rfl)) Try.func72 (by decide +kernel) (lmay_n a wx) rfl (congrArg Value.bool Ffk1.out)) <|
    hk (fun cx => cx.q (ex_not (x := .tmp 7) rfl (cx.u 0 rfl))) <|
    kmu 0 <|
    hk (fun cx => cx.vy 0 (ldKn rfl (cx.rq 3 u_g2) (cx.rn 1 rfl))) <|
    hc (fun _ _ wx cx => cx.call (cx.wy rfl rfl rfl rfl (cx.u 1 rfl)) rfl rfl (args1 (cx.u 0 rfl)) Try.func72 (by decide +kernel) rfl (lmay_n b wx) rfl rfl (congrArg Value.bool Ffk2.out) rfl) <|
    hk (fun cx => cx.vy 1 (ex_not (x := .tmp 11) rfl (cx.u 0 rfl))) <|
    hk (fun cx => cx.q (ex_pf rfl (cx.u 0 rfl) (cx.u 1 rfl))) <|
    kmu 0 <|
    kno 0 <|
    kno 1 <|
    kno 0 <|
    kno 1 <|
    kno 2 <|
    kno 0 <|
    kno 1 <|
    kno 0 <|
    kno 1 <|
    kno 2 <|
    kno 2 <|
    kno 1 <|
    hk (fun cx => cx.q (ex_pt rfl (cx.u 0 rfl) rfl)) <|
    hn) ?_
   intro a4 w4 f4
   refine wp_cond_true (f4.v 21 rfl rfl rfl) ?_
   refine wp_seq ?_
   have b_g3_4 := f4.k b_g3
   have s4_5 := f4.q 4 u_g3
   refine go_reg [⟨g3, 27, (knC zKn), some 1, (knC allK)⟩] [] [some (.agg (knC allK)), none, oF] mo f4.d f4.z f4.b (by kernel_rfl) ⟨b_g3_4, trivial⟩ (
    hc (fun _ _ wx cx => cx.c rfl (args0 ) Try.func60 (by decide +kernel) (lall_n wx) rfl rfl) <|
    hk (fun cx => cx.stR (wn rfl) rfl rfl 0 rfl (cx.rq 4 s4_5) (cx.u 0 rfl) (by kernel_rfl) (Eq.refl 2) (knC_one _) q_g3 rfl trivial trivial) <|
    hk (fun cx => cx.q (ex_as rfl rfl)) <|
    hn) ?_
   intro a5 w5 f5
   refine wp_ret ?_
   have s4_6 := f5.q 4 s4_5
   try simp only [Exit.inBlock, Exit.then]
   refine bodyPost_ret (res_ct (fn := Try.f113) rfl s4_6 (load_row 27 f5.rows.1 Try.underlying27 rfl (by kernel_rfl)) (f5.v 2 rfl rfl rfl)) f5.d ?_
   have HM : Kn.meetB a b = false := by unfold Kn.meetB; simp only [Ffk1.out, Ffk2.out, Bool.false_and, Bool.true_and, Bool.and_false, Bool.not_true, Bool.not_false]
   have HE : (.tuple #[.agg (knC allK), .bool false] : Value) = .tuple #[.agg (knC (Kn.meetK a b)), .bool (Kn.meetB a b)] := by unfold Kn.meetK; rw [HM, if_neg Bool.false_ne_true]
   exact ⟨retV HE, f5.b⟩
  have Ffk2 := Lib.hid fk2; clear fk2
  cases fk3 : (V ((a.v ^^^ b.v) &&& ~~~(a.m ||| b.m))) != 0
  case false =>
   have Ffk3 := Lib.hid fk3; clear fk3
   refine go_reg [bx g1 27 (knC a), bx g2 27 (knC b)] [] (tabs [some (.agg (knC a)), oT, oF, oF, some (.agg (knC b)), oT, oF, oF, oF, some (pt g1 0), some (.int .u64 (V a.v)), some (pt g2 0), some (.int .u64 (V b.v)), some (.int .u64 (V (a.v ^^^ b.v))), some (pt g1 1), some (.int .u64 (V a.m)), some (pt g2 1), some (.int .u64 (V b.m)), some (.int .u64 (V (a.m ||| b.m))), some (.int .u64 (V ((a.v ^^^ b.v) &&& ~~~(a.m ||| b.m))))] [oF, oF]) mo f1.d f1.z f1.b (by kernel_rfl) ⟨b_g1, b_g2, trivial⟩ (
    hk (fun cx => cx.q (ldKn rfl (cx.rq 2 u_g1) (cx.rn 0 rfl))) <|
    hc (fun _ _ wx cx => cx.c rfl (args1 (cx.u 0 rfl)) Try.func72 (by decide +kernel) (lmay_n a wx) rfl (congrArg Value.bool Ffk1.out)) <|
    hk (fun cx => cx.q (ex_not (x := .tmp 7) rfl (cx.u 0 rfl))) <|
    kmu 0 <|
    hk (fun cx => cx.vy 0 (ldKn rfl (cx.rq 3 u_g2) (cx.rn 1 rfl))) <|
    hc (fun _ _ wx cx => cx.call (cx.wy rfl rfl rfl rfl (cx.u 1 rfl)) rfl rfl (args1 (cx.u 0 rfl)) Try.func72 (by decide +kernel) rfl (lmay_n b wx) rfl rfl (congrArg Value.bool Ffk2.out) rfl) <|
    hk (fun cx => cx.vy 1 (ex_not (x := .tmp 11) rfl (cx.u 0 rfl))) <|
    hk (fun cx => cx.q (ex_pf rfl (cx.u 0 rfl) (cx.u 1 rfl))) <|
    kmu 0 <|
    hk (fun cx => cx.vy 0 (ex_fa rfl (cx.rq 2 u_g1) (faStG27_0_0 _ _))) <|
    hk (fun cx => cx.vy 1 (ex_ld rfl (cx.u 0 rfl) (cx.rn 0 rfl) rfl Try.isAgg23)) <|
    hk (fun cx => cx.vy 0 (ex_fa rfl (cx.rq 3 u_g2) (faStG27_0_0 _ _))) <|
    hk (fun cx => cx.vy 1 (ex_ld rfl (cx.u 0 rfl) (cx.rn 1 rfl) rfl Try.isAgg23)) <|
    hk (fun cx => cx.vy 2 (ex_xor (x := .tmp 16) (y := .tmp 18) rfl (cx.u 0 rfl) (cx.u 1 rfl)) (congrArg (Value.int .u64) (V_xor _ _))) <|
    hk (fun cx => cx.vy 0 (ex_fa rfl (cx.rq 2 u_g1) (faStG27_1_0 _ _))) <|
    hk (fun cx => cx.vy 1 (ex_ld rfl (cx.u 0 rfl) (cx.rn 0 rfl) rfl Try.isAgg23)) <|
    hk (fun cx => cx.vy 0 (ex_fa rfl (cx.rq 3 u_g2) (faStG27_1_0 _ _))) <|
    hk (fun cx => cx.vy 1 (ex_ld rfl (cx.u 0 rfl) (cx.rn 1 rfl) rfl Try.isAgg23)) <|
    hk (fun cx => cx.vy 2 (ex_or (x := .tmp 21) (y := .tmp 23) rfl (cx.u 0 rfl) (cx.u 1 rfl)) (congrArg (Value.int .u64) (V_or _ _))) <|
    hk (fun cx => cx.vy 2 (ex_an (x := .tmp 19) (y := .tmp 24) rfl (cx.u 0 rfl) (cx.u 1 rfl)) (congrArg (Value.int .u64) (V_an _ _))) <|
    hk (fun cx => cx.vy 1 (ex_ne (x := .tmp 25) rfl (cx.u 0 rfl) rfl) (congrArg Value.bool Ffk3.out)) <|
    hk (fun cx => cx.q (ex_pf rfl (cx.u 0 rfl) (cx.u 1 rfl))) <|
    hn) ?_
   intro a6 w6 f6
   refine wp_cond_false (f6.v 21 rfl rfl rfl) ?_
   refine wp_skip ?_
   refine wp_seq ?_
   have b_g1_7 := f6.k b_g1
   have b_g2_8 := f6.k b_g2
   have b_g3_9 := f6.k b_g3
   have s2_10 := f6.q 2 u_g1
   have s3_11 := f6.q 3 u_g2
   have s4_12 := f6.q 4 u_g3
   refine go_reg [bx g1 27 (knC a), bx g2 27 (knC b), ⟨g3, 27, (knC zKn), some 11, (knC ⟨a.v ||| b.v, a.m &&& b.m⟩)⟩] [] [some (pt g1 0), some (.int .u64 (V a.v)), some (pt g2 0), some (.int .u64 (V b.v)), some (.int .u64 (V (a.v ||| b.v))), some (pt g1 1), some (.int .u64 (V a.m)), some (pt g2 1), some (.int .u64 (V b.m)), some (.int .u64 (V (a.m &&& b.m))), some (.agg (knC ⟨a.v ||| b.v, a.m &&& b.m⟩)), none, oT] mo f6.d f6.z f6.b (by kernel_rfl) ⟨b_g1_7, b_g2_8, b_g3_9, trivial⟩ (
    hk (fun cx => cx.q (ex_fa rfl (cx.rq 2 s2_10) (faStG27_0_0 _ _))) <|
    hk (fun cx => cx.q (ex_ld rfl (cx.u 0 rfl) (cx.rn 0 rfl) rfl Try.isAgg23)) <|
    hk (fun cx => cx.q (ex_fa rfl (cx.rq 3 s3_11) (faStG27_0_0 _ _))) <|
    hk (fun cx => cx.q (ex_ld rfl (cx.u 0 rfl) (cx.rn 1 rfl) rfl Try.isAgg23)) <|
    hk (fun cx => cx.v (ex_or (x := .tmp 30) (y := .tmp 32) rfl (cx.u 0 rfl) (cx.u 1 rfl)) rfl (congrArg (Value.int .u64) (V_or _ _))) <|
    hk (fun cx => cx.q (ex_fa rfl (cx.rq 2 s2_10) (faStG27_1_0 _ _))) <|
    hk (fun cx => cx.q (ex_ld rfl (cx.u 0 rfl) (cx.rn 0 rfl) rfl Try.isAgg23)) <|
    hk (fun cx => cx.q (ex_fa rfl (cx.rq 3 s3_11) (faStG27_1_0 _ _))) <|
    hk (fun cx => cx.q (ex_ld rfl (cx.u 0 rfl) (cx.rn 1 rfl) rfl Try.isAgg23)) <|
    hk (fun cx => cx.v (ex_and (x := .tmp 35) (y := .tmp 37) rfl (cx.u 0 rfl) (cx.u 1 rfl)) rfl (congrArg (Value.int .u64) (V_and _ _))) <|
    hk (fun cx => cx.q (exec_build rfl (parts2 (cx.u 0 rfl) (cx.u 1 rfl)) (by kernel_rfl))) <|
    hk (fun cx => cx.stR (wn rfl) rfl rfl 2 rfl (cx.rq 4 s4_12) (cx.u 0 rfl) (by kernel_rfl) (Eq.refl 2) (knC_one _) q_g3 rfl ⟨(ne_ptr (pairAt f1.ps 0 2 (by decide) rfl rfl) u_g1 u_g3), (ne_ptr (pairAt f1.ps 1 2 (by decide) rfl rfl) u_g2 u_g3), trivial⟩ trivial) <|
    hk (fun cx => cx.q (ex_as rfl rfl)) <|
    hn) ?_
   intro a7 w7 f7
   refine wp_ret ?_
   have s4_13 := f7.q 4 s4_12
   try simp only [Exit.inBlock, Exit.then]
   refine bodyPost_ret (res_ct (fn := Try.f113) rfl s4_13 (load_row 27 f7.rows.2.2.1 Try.underlying27 rfl (by kernel_rfl)) (f7.v 12 rfl rfl rfl)) f7.d ?_
   have HM : Kn.meetB a b = true := by unfold Kn.meetB; simp only [Ffk1.out, Ffk2.out, bne_no Ffk3.out, Bool.false_and, Bool.true_and, Bool.and_false, Bool.not_true, Bool.not_false]
   have HE : (.tuple #[.agg (knC ⟨a.v ||| b.v, a.m &&& b.m⟩), .bool true] : Value) = .tuple #[.agg (knC (Kn.meetK a b)), .bool (Kn.meetB a b)] := by unfold Kn.meetK; rw [HM, if_pos rfl, meet_is HM]
   exact ⟨retV HE, f7.b⟩
  have Ffk3 := Lib.hid fk3; clear fk3
  refine go_reg [bx g1 27 (knC a), bx g2 27 (knC b)] [] (tabs [some (.agg (knC a)), oT, oF, oF, some (.agg (knC b)), oT, oF, oF, oF, some (pt g1 0), some (.int .u64 (V a.v)), some (pt g2 0), some (.int .u64 (V b.v)), some (.int .u64 (V (a.v ^^^ b.v))), some (pt g1 1), some (.int .u64 (V a.m)), some (pt g2 1), some (.int .u64 (V b.m)), some (.int .u64 (V (a.m ||| b.m))), some (.int .u64 (V ((a.v ^^^ b.v) &&& ~~~(a.m ||| b.m))))] [oT, oT]) mo f1.d f1.z f1.b (by kernel_rfl) ⟨b_g1, b_g2, trivial⟩ (
   hk (fun cx => cx.q (ldKn rfl (cx.rq 2 u_g1) (cx.rn 0 rfl))) <|
   hc (fun _ _ wx cx => cx.c rfl (args1 (cx.u 0 rfl)) Try.func72 (by decide +kernel) (lmay_n a wx) rfl (congrArg Value.bool Ffk1.out)) <|
   hk (fun cx => cx.q (ex_not (x := .tmp 7) rfl (cx.u 0 rfl))) <|
   kmu 0 <|
   hk (fun cx => cx.vy 0 (ldKn rfl (cx.rq 3 u_g2) (cx.rn 1 rfl))) <|
   hc (fun _ _ wx cx => cx.call (cx.wy rfl rfl rfl rfl (cx.u 1 rfl)) rfl rfl (args1 (cx.u 0 rfl)) Try.func72 (by decide +kernel) rfl (lmay_n b wx) rfl rfl (congrArg Value.bool Ffk2.out) rfl) <|
   hk (fun cx => cx.vy 1 (ex_not (x := .tmp 11) rfl (cx.u 0 rfl))) <|
   hk (fun cx => cx.q (ex_pf rfl (cx.u 0 rfl) (cx.u 1 rfl))) <|
   kmu 0 <|
   hk (fun cx => cx.vy 0 (ex_fa rfl (cx.rq 2 u_g1) (faStG27_0_0 _ _))) <|
   hk (fun cx => cx.vy 1 (ex_ld rfl (cx.u 0 rfl) (cx.rn 0 rfl) rfl Try.isAgg23)) <|
   hk (fun cx => cx.vy 0 (ex_fa rfl (cx.rq 3 u_g2) (faStG27_0_0 _ _))) <|
   hk (fun cx => cx.vy 1 (ex_ld rfl (cx.u 0 rfl) (cx.rn 1 rfl) rfl Try.isAgg23)) <|
   hk (fun cx => cx.vy 2 (ex_xor (x := .tmp 16) (y := .tmp 18) rfl (cx.u 0 rfl) (cx.u 1 rfl)) (congrArg (Value.int .u64) (V_xor _ _))) <|
   hk (fun cx => cx.vy 0 (ex_fa rfl (cx.rq 2 u_g1) (faStG27_1_0 _ _))) <|
   hk (fun cx => cx.vy 1 (ex_ld rfl (cx.u 0 rfl) (cx.rn 0 rfl) rfl Try.isAgg23)) <|
   hk (fun cx => cx.vy 0 (ex_fa rfl (cx.rq 3 u_g2) (faStG27_1_0 _ _))) <|
   hk (fun cx => cx.vy 1 (ex_ld rfl (cx.u 0 rfl) (cx.rn 1 rfl) rfl Try.isAgg23)) <|
   hk (fun cx => cx.vy 2 (ex_or (x := .tmp 21) (y := .tmp 23) rfl (cx.u 0 rfl) (cx.u 1 rfl)) (congrArg (Value.int .u64) (V_or _ _))) <|
   hk (fun cx => cx.vy 2 (ex_an (x := .tmp 19) (y := .tmp 24) rfl (cx.u 0 rfl) (cx.u 1 rfl)) (congrArg (Value.int .u64) (V_an _ _))) <|
   hk (fun cx => cx.vy 1 (ex_ne (x := .tmp 25) rfl (cx.u 0 rfl) rfl) (congrArg Value.bool Ffk3.out)) <|
   hk (fun cx => cx.q (ex_pf rfl (cx.u 0 rfl) (cx.u 1 rfl))) <|
   hn) ?_
  intro a8 w8 f8
  refine wp_cond_true (f8.v 21 rfl rfl rfl) ?_
  refine wp_seq ?_
  have b_g3_14 := f8.k b_g3
  have s4_15 := f8.q 4 u_g3
  refine go_reg [⟨g3, 27, (knC zKn), some 1, (knC allK)⟩] [] [some (.agg (knC allK)), none, oF] mo f8.d f8.z f8.b (by kernel_rfl) ⟨b_g3_14, trivial⟩ (
   hc (fun _ _ wx cx => cx.c rfl (args0 ) Try.func60 (by decide +kernel) (lall_n wx) rfl rfl) <|
   hk (fun cx => cx.stR (wn rfl) rfl rfl 0 rfl (cx.rq 4 s4_15) (cx.u 0 rfl) (by kernel_rfl) (Eq.refl 2) (knC_one _) q_g3 rfl trivial trivial) <|
   hk (fun cx => cx.q (ex_as rfl rfl)) <|
   hn) ?_
  intro a9 w9 f9
  refine wp_ret ?_
  have s4_16 := f9.q 4 s4_15
  try simp only [Exit.inBlock, Exit.then]
  refine bodyPost_ret (res_ct (fn := Try.f113) rfl s4_16 (load_row 27 f9.rows.1 Try.underlying27 rfl (by kernel_rfl)) (f9.v 2 rfl rfl rfl)) f9.d ?_
  have HM : Kn.meetB a b = false := by unfold Kn.meetB; simp only [Ffk1.out, Ffk2.out, bne_no Ffk3.out, Bool.false_and, Bool.true_and, Bool.and_false, Bool.not_true, Bool.not_false]
  have HE : (.tuple #[.agg (knC allK), .bool false] : Value) = .tuple #[.agg (knC (Kn.meetK a b)), .bool (Kn.meetB a b)] := by unfold Kn.meetK; rw [HM, if_neg Bool.false_ne_true]
  exact ⟨retV HE, f9.b⟩
theorem ones_sh {k : Nat} (hk : k < 64) : bits .or .u64 (V (onesB k) * 2 ^ Int.toNat 1 % 18446744073709551616) 1 = V (onesB (k + 1)) := by
  have p : (2 : Int) ^ k = ((2 ^ k : Nat) : Int) := pow_cast k
  have e2 : (2 : Int) ^ (k + 1) = ((2 ^ (k + 1) : Nat) : Int) := pow_cast (k + 1)
  have s : 2 ^ (k + 1) = 2 ^ k * 2 := Nat.pow_succ 2 k
  have q : 2 ^ (k + 1) ≤ 2 ^ 64 := Nat.pow_le_pow_right (by decide) (by omega)
  have r : 0 < 2 ^ k := Nat.two_pow_pos _
  rw [ones_V (by omega), ones_V (by omega), p, e2, show (2 : Int) ^ Int.toNat 1 = 2 from rfl, Int.emod_eq_of_lt (by omega) (by omega), u64_or _ _ (by omega) (by omega) (by omega) (by omega)]
  have n1 : (((2 ^ k : Nat) : Int) - 1) * 2 = ((2 * (2 ^ k - 1) : Nat) : Int) := by omega
  rw [n1, Int.toNat_natCast]
  have o : 2 * (2 ^ k - 1) ||| (1 : Int).toNat = 2 * (2 ^ k - 1) + 1 := by
    have := Nat.two_pow_add_eq_or_of_lt (i := 1) (b := 1) (by omega) (2 ^ k - 1)
    rw [Nat.pow_one] at this
    exact this.symm
  rw [o]; omega
set_option maxHeartbeats 4000000 in
theorem lcom_n (lo hi : B) (W : World) : Calls Try.prog 114 #[.int .u64 (V lo), .int .u64 (V hi)] W fun e w' => e = .returned (.agg (knC (comK lo hi))) ∧ Below W.heap.size W w' := by
  have hlen : lenN (lo ^^^ hi).toNat ≤ 64 := lenN_64 (by have := (lo ^^^ hi).isLt; omega)
  refine calls_abs Try.func114 rfl (Nat.le_of_ble_eq_true rfl) ?_
  intro a0 d0 z0 h0
  replace z0 : a0.tmps.size = 24 := z0
  have s0_0 : a0.tmps.getD 0 undef = .int .u64 (V lo) := h0 0 (Nat.le_of_ble_eq_true rfl)
  have s1_0 : a0.tmps.getD 1 undef = .int .u64 (V hi) := h0 1 (Nat.le_of_ble_eq_true rfl)
  refine wp_seq ?_
  refine go_reg [] [⟨0, 4, 27, (knC zKn), none, #[]⟩] [none] mo d0 z0 (Below.refl _ _) (by kernel_rfl) trivial (
   hk (fun cx => cx.al (wn rfl) 0 rfl (al_kn rfl) rfl rfl rfl rfl rfl trivial) <|
   hn) ?_
  intro a1 w1 f1
  obtain ⟨g1, u_g1, q_g1, b_g1⟩ := f1.al.1
  refine wp_seq ?_
  refine wp_seq ?_
  cases fk1 : decide ((V hi) < (V lo))
  case false =>
   have Ffk1 := Lib.hid fk1; clear fk1
   have s0_1 := f1.q 0 s0_0
   have s1_2 := f1.q 1 s1_0
   refine go_reg [] [] [some (.int .u64 (V lo)), some (.int .u64 (V hi)), oF] mo f1.d f1.z f1.b (by kernel_rfl) trivial (
    hk (fun cx => cx.q (ex_mv rfl (cx.rq 0 s0_1))) <|
    hk (fun cx => cx.q (ex_mv rfl (cx.rq 1 s1_2))) <|
    hk (fun cx => cx.v (ex_gt (x := .tmp 6) (y := .tmp 7) rfl (cx.u 0 rfl) (cx.u 1 rfl)) rfl (congrArg Value.bool Ffk1.out)) <|
    hn) ?_
   intro a2 w2 f2
   refine wp_cond_false (f2.v 2 rfl rfl rfl) ?_
   refine wp_skip ?_
   refine wp_seq ?_
   refine go_reg [] [] [some (.int .u64 0)] mo f2.d f2.z f2.b (by kernel_rfl) trivial (
    hk (fun cx => cx.q (ex_as rfl rfl)) <|
    hn) ?_
   intro a3 w3 f3
   refine wp_seq ?_
   refine wp_block ?_
   have s0_3 := f3.q 0 (f2.q 0 s0_1)
   have s1_4 := f3.q 1 (f2.q 1 s1_2)
   have s4_5 := f3.q 4 (f2.q 4 u_g1)
   have b_g1_6 := f3.k (f2.k b_g1)
   refine wp_count (lenN (lo ^^^ hi).toNat) (fun k1 aI wI => True ∧ Mid 24 W [(0, .int .u64 (V lo)), (1, .int .u64 (V hi)), (4, .pointer (some ⟨g1, 0, none⟩)), (5, .int .u64 (V (onesB k1)))] [(g1, 27, (knC zKn))] aI wI) ⟨trivial, f3.d, f3.z, f3.b, ⟨s0_3, s1_4, s4_5, ((f3.v 0 rfl rfl rfl).trans (congrArg (Value.int .u64) (show 0 = V (onesB 0) from by decide))), trivial⟩, ⟨b_g1_6, trivial⟩⟩ ?_
   intro k1 aL1 wL1 hlek1 hI1
   obtain ⟨hp1, dL1, zL1, BL1, ⟨sL1_0, sL1_1, sL1_4, sL1_5, -⟩, ⟨bL1_g1, -⟩⟩ := hI1
   replace sL1_0 : aL1.tmps.getD 0 undef = .int .u64 (V lo) := sL1_0
   replace sL1_1 : aL1.tmps.getD 1 undef = .int .u64 (V hi) := sL1_1
   replace sL1_4 : aL1.tmps.getD 4 undef = .pointer (some ⟨g1, 0, none⟩) := sL1_4
   replace sL1_5 : aL1.tmps.getD 5 undef = .int .u64 (V (onesB k1)) := sL1_5
   replace bL1_g1 : wL1.heap[g1]? = some (.cells (knC zKn) 27 (0, 0)) := bL1_g1
   refine wp_seq ?_
   refine wp_seq ?_
   cases fk2 : (V ((lo ^^^ hi) &&& ~~~onesB k1)) != 0
   case true =>
    have Ffk2 := Lib.hid fk2; clear fk2
    have hlt1 : k1 < lenN (lo ^^^ hi).toNat := by have h := bne_no Ffk2.out; rw [ones_test (by omega)] at h; simp only [Bool.not_true, decide_eq_false_iff_not] at h; omega
    refine go_reg [] [] [some (.int .u64 (V lo)), some (.int .u64 (V hi)), some (.int .u64 (V (lo ^^^ hi))), some (.int .u64 (V (onesB k1))), some (.int .u64 (V ((lo ^^^ hi) &&& ~~~onesB k1))), oT] mo dL1 zL1 BL1 (by kernel_rfl) trivial (
     hk (fun cx => cx.q (ex_mv rfl (cx.rq 0 sL1_0))) <|
     hk (fun cx => cx.q (ex_mv rfl (cx.rq 1 sL1_1))) <|
     hk (fun cx => cx.v (ex_xor (x := .tmp 10) (y := .tmp 11) rfl (cx.u 0 rfl) (cx.u 1 rfl)) rfl (congrArg (Value.int .u64) (V_xor _ _))) <|
     hk (fun cx => cx.q (ex_mv rfl (cx.rq 5 sL1_5))) <|
     hk (fun cx => cx.v (ex_an (x := .tmp 12) (y := .tmp 13) rfl (cx.u 0 rfl) (cx.u 1 rfl)) rfl (congrArg (Value.int .u64) (V_an _ _))) <|
     hk (fun cx => cx.v (ex_ne (x := .tmp 14) rfl (cx.u 0 rfl) rfl) rfl (congrArg Value.bool Ffk2.out)) <|
     hn) ?_
    intro a4 w4 f4
    refine wp_cond_true (f4.v 5 rfl rfl rfl) ?_
    refine wp_skip ?_
    refine wp_block ?_
    have s5_7 := f4.q 5 sL1_5
    refine go_reg [] [] [some (.int .u64 (V (onesB k1))), some (.int .u64 (V (onesB k1) * 2 ^ Int.toNat 1 % 18446744073709551616)), some (.int .u64 (V (onesB (k1 + 1)))), some (.int .u64 (V (onesB (k1 + 1))))] mo f4.d f4.z f4.b (by kernel_rfl) trivial (
     hk (fun cx => cx.q (ex_mv rfl (cx.un 3 rfl rfl (by kernel_rfl) s5_7))) <|
     hk (fun cx => cx.q (exec_shl (x := .tmp 16) rfl (cx.u 0 rfl) rfl (by decide) (by decide))) <|
     hk (fun cx => cx.v (ex_or (x := .tmp 17) rfl (cx.u 0 rfl) rfl) rfl (congrArg (Value.int .u64) (ones_sh (by omega)))) <|
     kmu 0 <|
     hn) ?_
    intro a5 w5 f5
    have s0_8 := f5.q 0 (f4.q 0 sL1_0)
    have s1_9 := f5.q 1 (f4.q 1 sL1_1)
    have s4_10 := f5.q 4 (f4.q 4 sL1_4)
    have b_g1_11 := f5.k (f4.k bL1_g1)
    exact ⟨hlt1, trivial, f5.d, f5.z, f5.b, ⟨s0_8, s1_9, s4_10, (f5.v 3 rfl rfl rfl), trivial⟩, ⟨b_g1_11, trivial⟩⟩
   have Ffk2 := Lib.hid fk2; clear fk2
   have hge1 : k1 = lenN (lo ^^^ hi).toNat := by have h := bne_no Ffk2.out; rw [ones_test (by omega)] at h; simp only [Bool.not_false, decide_eq_true_eq] at h; omega
   refine go_reg [] [] [some (.int .u64 (V lo)), some (.int .u64 (V hi)), some (.int .u64 (V (lo ^^^ hi))), some (.int .u64 (V (onesB k1))), some (.int .u64 (V ((lo ^^^ hi) &&& ~~~onesB k1))), oF] mo dL1 zL1 BL1 (by kernel_rfl) trivial (
    hk (fun cx => cx.q (ex_mv rfl (cx.rq 0 sL1_0))) <|
    hk (fun cx => cx.q (ex_mv rfl (cx.rq 1 sL1_1))) <|
    hk (fun cx => cx.v (ex_xor (x := .tmp 10) (y := .tmp 11) rfl (cx.u 0 rfl) (cx.u 1 rfl)) rfl (congrArg (Value.int .u64) (V_xor _ _))) <|
    hk (fun cx => cx.q (ex_mv rfl (cx.rq 5 sL1_5))) <|
    hk (fun cx => cx.v (ex_an (x := .tmp 12) (y := .tmp 13) rfl (cx.u 0 rfl) (cx.u 1 rfl)) rfl (congrArg (Value.int .u64) (V_an _ _))) <|
    hk (fun cx => cx.v (ex_ne (x := .tmp 14) rfl (cx.u 0 rfl) rfl) rfl (congrArg Value.bool Ffk2.out)) <|
    hn) ?_
   intro a6 w6 f6
   refine wp_cond_false (f6.v 5 rfl rfl rfl) ?_
   refine wp_exit ?_
   simp only [Exit.then, Exit.inBlock, if_true]
   refine wp_seq ?_
   have b_g1_12 := f6.k bL1_g1
   have s0_13 := f6.q 0 sL1_0
   have s5_14 := f6.q 5 sL1_5
   have s4_15 := f6.q 4 sL1_4
   refine go_reg [⟨g1, 27, (knC zKn), some 5, (knC ⟨lo &&& ~~~onesB k1, onesB k1⟩)⟩] [] [some (.int .u64 (V lo)), some (.int .u64 (V (onesB k1))), some (.int .u64 (V (lo &&& ~~~onesB k1))), some (.int .u64 (V (onesB k1))), some (.agg (knC ⟨lo &&& ~~~onesB k1, onesB k1⟩)), none] mo f6.d f6.z f6.b (by kernel_rfl) ⟨b_g1_12, trivial⟩ (
    hk (fun cx => cx.q (ex_mv rfl (cx.rq 0 s0_13))) <|
    hk (fun cx => cx.q (ex_mv rfl (cx.rq 5 s5_14))) <|
    hk (fun cx => cx.v (ex_an (x := .tmp 19) (y := .tmp 20) rfl (cx.u 0 rfl) (cx.u 1 rfl)) rfl (congrArg (Value.int .u64) (V_an _ _))) <|
    hk (fun cx => cx.q (ex_mv rfl (cx.rq 5 s5_14))) <|
    hk (fun cx => cx.q (exec_build rfl (parts2 (cx.u 0 rfl) (cx.u 1 rfl)) (by kernel_rfl))) <|
    hk (fun cx => cx.stR (wn rfl) rfl rfl 0 rfl (cx.rq 4 s4_15) (cx.u 0 rfl) (by kernel_rfl) (Eq.refl 2) (knC_one _) q_g1 rfl trivial trivial) <|
    hn) ?_
   intro a7 w7 f7
   refine wp_ret ?_
   have s4_16 := f7.q 4 s4_15
   try simp only [Exit.inBlock, Exit.then]
   refine bodyPost_ret (res_c (fn := Try.f114) rfl s4_16 (load_row 27 f7.rows.1 Try.underlying27 rfl (by kernel_rfl))) f7.d ?_
   have HE : (.agg (knC ⟨lo &&& ~~~onesB k1, onesB k1⟩) : Value) = .agg (knC (comK lo hi)) := by unfold comK; rw [if_pos (by have := Ffk1.out; simp only [decide_eq_true_eq, decide_eq_false_iff_not] at this; omega)]; rw [com_ones, ← hge1]; rfl
   exact ⟨retV HE, f7.b⟩
  have Ffk1 := Lib.hid fk1; clear fk1
  have s0_17 := f1.q 0 s0_0
  have s1_18 := f1.q 1 s1_0
  refine go_reg [] [] [some (.int .u64 (V lo)), some (.int .u64 (V hi)), oT] mo f1.d f1.z f1.b (by kernel_rfl) trivial (
   hk (fun cx => cx.q (ex_mv rfl (cx.rq 0 s0_17))) <|
   hk (fun cx => cx.q (ex_mv rfl (cx.rq 1 s1_18))) <|
   hk (fun cx => cx.v (ex_gt (x := .tmp 6) (y := .tmp 7) rfl (cx.u 0 rfl) (cx.u 1 rfl)) rfl (congrArg Value.bool Ffk1.out)) <|
   hn) ?_
  intro a8 w8 f8
  refine wp_cond_true (f8.v 2 rfl rfl rfl) ?_
  refine wp_seq ?_
  have b_g1_19 := f8.k b_g1
  have s4_20 := f8.q 4 u_g1
  refine go_reg [⟨g1, 27, (knC zKn), some 1, (knC allK)⟩] [] [some (.agg (knC allK)), none] mo f8.d f8.z f8.b (by kernel_rfl) ⟨b_g1_19, trivial⟩ (
   hc (fun _ _ wx cx => cx.c rfl (args0 ) Try.func60 (by decide +kernel) (lall_n wx) rfl rfl) <|
   hk (fun cx => cx.stR (wn rfl) rfl rfl 0 rfl (cx.rq 4 s4_20) (cx.u 0 rfl) (by kernel_rfl) (Eq.refl 2) (knC_one _) q_g1 rfl trivial trivial) <|
   hn) ?_
  intro a9 w9 f9
  refine wp_ret ?_
  have s4_21 := f9.q 4 s4_20
  try simp only [Exit.inBlock, Exit.then]
  refine bodyPost_ret (res_c (fn := Try.f114) rfl s4_21 (load_row 27 f9.rows.1 Try.underlying27 rfl (by kernel_rfl))) f9.d ?_
  have HE : (.agg (knC allK) : Value) = .agg (knC (comK lo hi)) := by unfold comK; rw [if_neg (by have := Ffk1.out; simp only [decide_eq_true_eq, decide_eq_false_iff_not] at this; omega)]
  exact ⟨retV HE, f9.b⟩
end Go.Proofs.Ytcnneeimkcnjfaa.Sta
