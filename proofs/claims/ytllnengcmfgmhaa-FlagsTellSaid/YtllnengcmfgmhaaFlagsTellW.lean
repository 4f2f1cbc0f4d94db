/-
  The walk of the law FlagsTell. (Written by gen_fli.py.)
-/
import Derived.Test.YtllnengcmfgmhaaFlI
namespace Go.Proofs.Ytllnengcmfgmhaa.Flg
open Go Go.RowKit
set_option linter.unusedVariables false
set_option linter.unusedSimpArgs false
set_option linter.unnecessarySimpa false
set_option maxRecDepth 100000




set_option maxHeartbeats 4000000 in
theorem tell_n (w a b : Int) (W : World) (ha : 0 ≤ a ∧ a < 18446744073709551616) (hb : 0 ≤ b ∧ b < 18446744073709551616) : Calls Try.prog 3 #[.int .i8 w, .int .u64 a, .int .u64 b] W fun e w' => e = .returned (.bool true) ∧ Below W.heap.size W w' := by
  refine calls_abs Try.func3 rfl (Nat.le_of_ble_eq_true rfl) ?_
  intro a0 d0 z0 h0
  replace z0 : a0.tmps.size = 95 := z0
  have s0_0 : a0.tmps.getD 0 undef = .int .i8 w := h0 0 (Nat.le_of_ble_eq_true rfl)
  have s1_0 : a0.tmps.getD 1 undef = .int .u64 a := h0 1 (Nat.le_of_ble_eq_true rfl)
  have s2_0 : a0.tmps.getD 2 undef = .int .u64 b := h0 2 (Nat.le_of_ble_eq_true rfl)
  refine wp_seq ?_
  refine go_reg [] [] [oF] mo d0 z0 (Below.refl _ _) (by kernel_rfl) trivial (
   hk (fun cx => cx.q (ex_as rfl rfl)) <|
   hn) ?_
  intro a1 w1 f1
  refine wp_seq ?_
  have s0_1 := f1.q 0 s0_0
  have s1_2 := f1.q 1 s1_0
  have s2_3 := f1.q 2 s2_0
  refine go_reg [] [⟨7, 7, 25, (fC zF), some 8, (fC (addF w a b))⟩] [some (.int .i8 w), some (.int .u64 a), some (.int .u64 b), some (.tuple #[.agg (fC (addF w a b)), .int .i64 (errW w)]), some (.tuple #[.agg (fC (addF w a b)), .int .i64 (errW w)]), some (.agg (fC (addF w a b))), some (.int .i64 (errW w)), none, none, some (.int .i64 (errW w))] mo f1.d f1.z f1.b (by kernel_rfl) trivial (
   hk (fun cx => cx.q (ex_mv rfl (cx.rq 0 s0_1))) <|
   hk (fun cx => cx.q (ex_mv rfl (cx.rq 1 s1_2))) <|
   hk (fun cx => cx.q (ex_mv rfl (cx.rq 2 s2_3))) <|
   hc (fun _ _ wx cx => cx.c rfl (args3 (cx.u 0 rfl) (cx.u 1 rfl) (cx.u 2 rfl)) Try.func9 (by decide +kernel) (add_n w a b wx ha hb) rfl rfl) <|
   kmu 0 <|
   hk (fun cx => cx.q (ex_ext (x := .tmp 19) rfl (cx.u 0 rfl) rfl)) <|
   hk (fun cx => cx.q (ex_ext (x := .tmp 19) rfl (cx.u 0 rfl) rfl)) <|
   hk (fun cx => cx.al (wn rfl) 0 rfl (al_f rfl) rfl rfl rfl rfl (by kernel_rfl) trivial) <|
   hk (fun cx => cx.stA (wn rfl) rfl rfl 0 0 rfl rfl rfl rfl (cx.u 1 rfl) (by kernel_rfl) (Eq.refl 5) (by simp [Value.oneCell']) f1.b.size rfl rfl trivial) <|
   kmu 0 <|
   hn) ?_
  intro a2 w2 f2
  obtain ⟨g1, u_g1, q_g1, b_g1⟩ := f2.al.1
  refine wp_seq ?_
  have s0_4 := f2.q 0 s0_1
  have s1_5 := f2.q 1 s1_2
  have s2_6 := f2.q 2 s2_3
  refine go_reg [] [⟨7, 9, 25, (fC zF), some 8, (fC (addF w a b))⟩] [some (.int .i8 w), some (.int .u64 a), some (.int .u64 b), some (.tuple #[.agg (fC (addF w a b)), .int .i64 (errW w)]), some (.tuple #[.agg (fC (addF w a b)), .int .i64 (errW w)]), some (.agg (fC (addF w a b))), some (.int .i64 (errW w)), none, none, some (.int .i64 (errW w))] mo f2.d f2.z f2.b (by kernel_rfl) trivial (
   hk (fun cx => cx.q (ex_mv rfl (cx.rq 0 s0_4))) <|
   hk (fun cx => cx.q (ex_mv rfl (cx.rq 1 s1_5))) <|
   hk (fun cx => cx.q (ex_mv rfl (cx.rq 2 s2_6))) <|
   hc (fun _ _ wx cx => cx.c rfl (args3 (cx.u 0 rfl) (cx.u 1 rfl) (cx.u 2 rfl)) Try.func10 (by decide +kernel) (qadd_n w a b wx ha hb) rfl rfl) <|
   kmu 0 <|
   hk (fun cx => cx.q (ex_ext (x := .tmp 26) rfl (cx.u 0 rfl) rfl)) <|
   hk (fun cx => cx.q (ex_ext (x := .tmp 26) rfl (cx.u 0 rfl) rfl)) <|
   hk (fun cx => cx.al (wn rfl) 0 rfl (al_f rfl) rfl rfl rfl rfl (by kernel_rfl) trivial) <|
   hk (fun cx => cx.stA (wn rfl) rfl rfl 0 0 rfl rfl rfl rfl (cx.u 1 rfl) (by kernel_rfl) (Eq.refl 5) (by simp [Value.oneCell']) f2.b.size rfl rfl trivial) <|
   kmu 0 <|
   hn) ?_
  intro a3 w3 f3
  obtain ⟨g2, u_g2, q_g2, b_g2⟩ := f3.al.1
  refine wp_seq ?_
  have s0_7 := f3.q 0 s0_4
  have s1_8 := f3.q 1 s1_5
  have s2_9 := f3.q 2 s2_6
  refine go_reg [] [⟨7, 11, 25, (fC zF), some 8, (fC (subF w a b))⟩] [some (.int .i8 w), some (.int .u64 a), some (.int .u64 b), some (.tuple #[.agg (fC (subF w a b)), .int .i64 (errW w)]), some (.tuple #[.agg (fC (subF w a b)), .int .i64 (errW w)]), some (.agg (fC (subF w a b))), some (.int .i64 (errW w)), none, none, some (.int .i64 (errW w))] mo f3.d f3.z f3.b (by kernel_rfl) trivial (
   hk (fun cx => cx.q (ex_mv rfl (cx.rq 0 s0_7))) <|
   hk (fun cx => cx.q (ex_mv rfl (cx.rq 1 s1_8))) <|
   hk (fun cx => cx.q (ex_mv rfl (cx.rq 2 s2_9))) <|
   hc (fun _ _ wx cx => cx.c rfl (args3 (cx.u 0 rfl) (cx.u 1 rfl) (cx.u 2 rfl)) Try.func11 (by decide +kernel) (sub_n w a b wx ha hb) rfl rfl) <|
   kmu 0 <|
   hk (fun cx => cx.q (ex_ext (x := .tmp 33) rfl (cx.u 0 rfl) rfl)) <|
   hk (fun cx => cx.q (ex_ext (x := .tmp 33) rfl (cx.u 0 rfl) rfl)) <|
   hk (fun cx => cx.al (wn rfl) 0 rfl (al_f rfl) rfl rfl rfl rfl (by kernel_rfl) trivial) <|
   hk (fun cx => cx.stA (wn rfl) rfl rfl 0 0 rfl rfl rfl rfl (cx.u 1 rfl) (by kernel_rfl) (Eq.refl 5) (by simp [Value.oneCell']) f3.b.size rfl rfl trivial) <|
   kmu 0 <|
   hn) ?_
  intro a4 w4 f4
  obtain ⟨g3, u_g3, q_g3, b_g3⟩ := f4.al.1
  refine wp_seq ?_
  have s0_10 := f4.q 0 s0_7
  have s1_11 := f4.q 1 s1_8
  have s2_12 := f4.q 2 s2_9
  refine go_reg [] [⟨7, 13, 25, (fC zF), some 8, (fC (subF w a b))⟩] [some (.int .i8 w), some (.int .u64 a), some (.int .u64 b), some (.tuple #[.agg (fC (subF w a b)), .int .i64 (errW w)]), some (.tuple #[.agg (fC (subF w a b)), .int .i64 (errW w)]), some (.agg (fC (subF w a b))), some (.int .i64 (errW w)), none, none, some (.int .i64 (errW w))] mo f4.d f4.z f4.b (by kernel_rfl) trivial (
   hk (fun cx => cx.q (ex_mv rfl (cx.rq 0 s0_10))) <|
   hk (fun cx => cx.q (ex_mv rfl (cx.rq 1 s1_11))) <|
   hk (fun cx => cx.q (ex_mv rfl (cx.rq 2 s2_12))) <|
   hc (fun _ _ wx cx => cx.c rfl (args3 (cx.u 0 rfl) (cx.u 1 rfl) (cx.u 2 rfl)) Try.func12 (by decide +kernel) (qsub_n w a b wx ha hb) rfl rfl) <|
   kmu 0 <|
   hk (fun cx => cx.q (ex_ext (x := .tmp 40) rfl (cx.u 0 rfl) rfl)) <|
   hk (fun cx => cx.q (ex_ext (x := .tmp 40) rfl (cx.u 0 rfl) rfl)) <|
   hk (fun cx => cx.al (wn rfl) 0 rfl (al_f rfl) rfl rfl rfl rfl (by kernel_rfl) trivial) <|
   hk (fun cx => cx.stA (wn rfl) rfl rfl 0 0 rfl rfl rfl rfl (cx.u 1 rfl) (by kernel_rfl) (Eq.refl 5) (by simp [Value.oneCell']) f4.b.size rfl rfl trivial) <|
   kmu 0 <|
   hn) ?_
  intro a5 w5 f5
  obtain ⟨g4, u_g4, q_g4, b_g4⟩ := f5.al.1
  refine wp_seq ?_
  have s0_13 := f5.q 0 s0_10
  have s1_14 := f5.q 1 s1_11
  refine go_reg [] [⟨6, 15, 25, (fC zF), some 7, (fC (ofF w a))⟩] [some (.int .i8 w), some (.int .u64 a), some (.tuple #[.agg (fC (ofF w a)), .int .i64 (errW w)]), some (.tuple #[.agg (fC (ofF w a)), .int .i64 (errW w)]), some (.agg (fC (ofF w a))), some (.int .i64 (errW w)), none, none, some (.int .i64 (errW w))] mo f5.d f5.z f5.b (by kernel_rfl) trivial (
   hk (fun cx => cx.q (ex_mv rfl (cx.rq 0 s0_13))) <|
   hk (fun cx => cx.q (ex_mv rfl (cx.rq 1 s1_14))) <|
   hc (fun _ _ wx cx => cx.c rfl (args2 (cx.u 0 rfl) (cx.u 1 rfl)) Try.func13 (by decide +kernel) (of_n w a wx ha) rfl rfl) <|
   kmu 0 <|
   hk (fun cx => cx.q (ex_ext (x := .tmp 47) rfl (cx.u 0 rfl) rfl)) <|
   hk (fun cx => cx.q (ex_ext (x := .tmp 47) rfl (cx.u 0 rfl) rfl)) <|
   hk (fun cx => cx.al (wn rfl) 0 rfl (al_f rfl) rfl rfl rfl rfl (by kernel_rfl) trivial) <|
   hk (fun cx => cx.stA (wn rfl) rfl rfl 0 0 rfl rfl rfl rfl (cx.u 1 rfl) (by kernel_rfl) (Eq.refl 5) (by simp [Value.oneCell']) f5.b.size rfl rfl trivial) <|
   kmu 0 <|
   hn) ?_
  intro a6 w6 f6
  obtain ⟨g5, u_g5, q_g5, b_g5⟩ := f6.al.1
  refine wp_seq ?_
  have s0_15 := f6.q 0 s0_13
  have s1_16 := f6.q 1 s1_14
  refine go_reg [] [⟨6, 17, 25, (fC zF), some 7, (fC (ofF w a))⟩] [some (.int .i8 w), some (.int .u64 a), some (.tuple #[.agg (fC (ofF w a)), .int .i64 (errW w)]), some (.tuple #[.agg (fC (ofF w a)), .int .i64 (errW w)]), some (.agg (fC (ofF w a))), some (.int .i64 (errW w)), none, none, some (.int .i64 (errW w))] mo f6.d f6.z f6.b (by kernel_rfl) trivial (
   hk (fun cx => cx.q (ex_mv rfl (cx.rq 0 s0_15))) <|
   hk (fun cx => cx.q (ex_mv rfl (cx.rq 1 s1_16))) <|
   hc (fun _ _ wx cx => cx.c rfl (args2 (cx.u 0 rfl) (cx.u 1 rfl)) Try.func14 (by decide +kernel) (qof_n w a wx ha) rfl rfl) <|
   kmu 0 <|
   hk (fun cx => cx.q (ex_ext (x := .tmp 53) rfl (cx.u 0 rfl) rfl)) <|
   hk (fun cx => cx.q (ex_ext (x := .tmp 53) rfl (cx.u 0 rfl) rfl)) <|
   hk (fun cx => cx.al (wn rfl) 0 rfl (al_f rfl) rfl rfl rfl rfl (by kernel_rfl) trivial) <|
   hk (fun cx => cx.stA (wn rfl) rfl rfl 0 0 rfl rfl rfl rfl (cx.u 1 rfl) (by kernel_rfl) (Eq.refl 5) (by simp [Value.oneCell']) f6.b.size rfl rfl trivial) <|
   kmu 0 <|
   hn) ?_
  intro a7 w7 f7
  obtain ⟨g6, u_g6, q_g6, b_g6⟩ := f7.al.1
  refine wp_seq ?_
  have b_g1_17 := f7.k (f6.k (f5.k (f4.k (f3.k b_g1))))
  have b_g2_18 := f7.k (f6.k (f5.k (f4.k b_g2)))
  have b_g3_19 := f7.k (f6.k (f5.k b_g3))
  have b_g4_20 := f7.k (f6.k b_g4)
  have b_g5_21 := f7.k b_g5
  have s7_22 := f7.q 7 (f6.q 7 (f5.q 7 (f4.q 7 (f3.q 7 u_g1))))
  have s9_23 := f7.q 9 (f6.q 9 (f5.q 9 (f4.q 9 u_g2)))
  have s8_24 := f7.q 8 (f6.q 8 (f5.q 8 (f4.q 8 (f3.q 8 (f2.v 9 rfl rfl rfl)))))
  have s10_25 := f7.q 10 (f6.q 10 (f5.q 10 (f4.q 10 (f3.v 9 rfl rfl rfl))))
  have s11_26 := f7.q 11 (f6.q 11 (f5.q 11 u_g3))
  have s13_27 := f7.q 13 (f6.q 13 u_g4)
  have s12_28 := f7.q 12 (f6.q 12 (f5.q 12 (f4.v 9 rfl rfl rfl)))
  have s14_29 := f7.q 14 (f6.q 14 (f5.v 9 rfl rfl rfl))
  have s15_30 := f7.q 15 u_g5
  have s16_31 := f7.q 16 (f6.v 8 rfl rfl rfl)
  refine go_reg [bx g1 25 (fC (addF w a b)), bx g2 25 (fC (addF w a b)), bx g3 25 (fC (subF w a b)), bx g4 25 (fC (subF w a b)), bx g5 25 (fC (ofF w a)), bx g6 25 (fC (ofF w a))] [] (tabs [some (.agg (fC (addF w a b))), some (.agg (fC (addF w a b))), oT, oT, some (.int .i64 (errW w)), some (.int .i64 (errW w)), oT, oT, oT, some (.agg (fC (subF w a b))), some (.agg (fC (subF w a b))), oT, oT, oT, some (.int .i64 (errW w)), some (.int .i64 (errW w)), oT, oT, oT, some (.agg (fC (ofF w a)))] [some (.agg (fC (ofF w a))), oT, oT, oT, some (.int .i64 (errW w)), some (.int .i64 (errW w)), oT, oT, oT, some (.agg (fC zF)), some (.agg (fC zF)), oT, oT, oT, oT, oT, oT]) mo f7.d f7.z f7.b (by kernel_rfl) ⟨b_g1_17, b_g2_18, b_g3_19, b_g4_20, b_g5_21, b_g6, trivial⟩ (
   hk (fun cx => cx.q (ldF rfl (cx.rq 7 s7_22) (cx.rn 0 rfl))) <|
   hk (fun cx => cx.q (ldF rfl (cx.rq 9 s9_23) (cx.rn 1 rfl))) <|
   hk (fun cx => cx.q (exec_eql (x := .tmp 59) (y := .tmp 60) rfl (cx.u 0 rfl) (cx.u 1 rfl) (by kernel_rfl) (eq_f_self (addF w a b) _))) <|
   kmu 0 <|
   hk (fun cx => cx.vy 0 (ex_mv rfl (cx.rq 8 s8_24))) <|
   hk (fun cx => cx.vy 0 (ex_mv rfl (cx.rq 10 s10_25))) <|
   hk (fun cx => cx.vy 2 (ex_eq (x := .tmp 63) (y := .tmp 64) rfl (cx.u 0 rfl) (cx.u 1 rfl)) (congrArg Value.bool (beq_self_eq_true _))) <|
   hk (fun cx => cx.q (ex_pt rfl (cx.u 0 rfl) (cx.u 1 rfl))) <|
   kmu 0 <|
   hk (fun cx => cx.vy 0 (ldF rfl (cx.rq 11 s11_26) (cx.rn 2 rfl))) <|
   hk (fun cx => cx.vy 0 (ldF rfl (cx.rq 13 s13_27) (cx.rn 3 rfl))) <|
   hk (fun cx => cx.vy 2 (exec_eql (x := .tmp 68) (y := .tmp 69) rfl (cx.u 0 rfl) (cx.u 1 rfl) (by kernel_rfl) (eq_f_self (subF w a b) _))) <|
   hk (fun cx => cx.q (ex_pt rfl (cx.u 0 rfl) (cx.u 1 rfl))) <|
   kmu 0 <|
   hk (fun cx => cx.vy 0 (ex_mv rfl (cx.rq 12 s12_28))) <|
   hk (fun cx => cx.vy 0 (ex_mv rfl (cx.rq 14 s14_29))) <|
   hk (fun cx => cx.vy 2 (ex_eq (x := .tmp 73) (y := .tmp 74) rfl (cx.u 0 rfl) (cx.u 1 rfl)) (congrArg Value.bool (beq_self_eq_true _))) <|
   hk (fun cx => cx.q (ex_pt rfl (cx.u 0 rfl) (cx.u 1 rfl))) <|
   kmu 0 <|
   hk (fun cx => cx.vy 0 (ldF rfl (cx.rq 15 s15_30) (cx.rn 4 rfl))) <|
   hk (fun cx => cx.vy 0 (ldF rfl (cx.rq 17 u_g6) (cx.rn 5 rfl))) <|
   hk (fun cx => cx.vy 2 (exec_eql (x := .tmp 78) (y := .tmp 79) rfl (cx.u 0 rfl) (cx.u 1 rfl) (by kernel_rfl) (eq_f_self (ofF w a) _))) <|
   hk (fun cx => cx.q (ex_pt rfl (cx.u 0 rfl) (cx.u 1 rfl))) <|
   kmu 0 <|
   hk (fun cx => cx.vy 0 (ex_mv rfl (cx.rq 16 s16_31))) <|
   hk (fun cx => cx.vy 0 (ex_mv rfl (cx.rq 18 (f7.v 8 rfl rfl rfl)))) <|
   hk (fun cx => cx.vy 2 (ex_eq (x := .tmp 83) (y := .tmp 84) rfl (cx.u 0 rfl) (cx.u 1 rfl)) (congrArg Value.bool (beq_self_eq_true _))) <|
   hk (fun cx => cx.q (ex_pt rfl (cx.u 0 rfl) (cx.u 1 rfl))) <|
   kmu 0 <|
   hc (fun _ _ wx cx => cx.call (cx.wy rfl rfl rfl rfl (cx.u 0 rfl)) rfl rfl (args0 ) Try.func15 (by decide +kernel) rfl (none_n wx) rfl rfl rfl rfl) <|
   hc (fun _ _ wx cx => cx.call (cx.wy rfl rfl rfl rfl (cx.u 1 rfl)) rfl rfl (args0 ) Try.func16 (by decide +kernel) rfl (qnone_n wx) rfl rfl rfl rfl) <|
   hk (fun cx => cx.vy 2 (exec_eql (x := .tmp 88) (y := .tmp 89) rfl (cx.u 0 rfl) (cx.u 1 rfl) (by kernel_rfl) (eq_f_self zF _))) <|
   hk (fun cx => cx.q (ex_pt rfl (cx.u 0 rfl) (cx.u 1 rfl))) <|
   kmu 0 <|
   hc (fun _ _ wx cx => cx.call (cx.wy rfl rfl rfl rfl (cx.u 0 rfl)) rfl rfl (args0 ) Try.func17 (by decide +kernel) rfl (wakes_n wx) rfl rfl rfl rfl) <|
   hk (fun cx => cx.q (ex_pt rfl (cx.u 0 rfl) (cx.u 1 rfl))) <|
   kmu 0 <|
   hn) ?_
  intro a8 w8 f8
  refine wp_ret ?_
  try simp only [Exit.inBlock, Exit.then]
  refine bodyPost_ret (res_t (fn := Try.f3) rfl (f8.v 36 rfl rfl rfl)) f8.d ?_
  exact ⟨rfl, f8.b⟩

theorem tell_law (w a b : Int) (W : World) (hw : (Lit.int .i8 w).wf = true) (ha : (Lit.int .u64 a).wf = true) (hb : (Lit.int .u64 b).wf = true) : Calls Try.prog 3 #[.int .i8 w, .int .u64 a, .int .u64 b] W fun e w' => e = .returned (.bool true) ∧ Below W.heap.size W w' :=
  tell_n w a b W (bd_u64 ha) (bd_u64 hb)
end Go.Proofs.Ytllnengcmfgmhaa.Flg
