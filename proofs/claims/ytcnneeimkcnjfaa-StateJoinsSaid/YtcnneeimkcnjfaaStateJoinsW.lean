/-
  StateJoins: package state and the document answer alike. (Written by gen_statejoinsw.py.)
-/
import Derived.Test.YtcnneeimkcnjfaaStW
import Derived.Test.YtcnneeimkcnjfaaStK
namespace Go.Proofs.Ytcnneeimkcnjfaa.Sta
open Go.RowKit Bnd Knw
set_option linter.unusedVariables false
set_option linter.unusedSimpArgs false
set_option linter.unnecessarySimpa false
set_option maxRecDepth 100000
set_option maxHeartbeats 4000000 in
theorem joins_law (a b : St) (W : World) (ha : OkS a) (hb : OkS b) : Calls Try.prog 4 #[.agg (stC a), .agg (stC b)] W fun e w' => e = .returned (.bool true) ∧ Below W.heap.size W w' := by
  have HA := Lib.hid ha
  have HB := Lib.hid hb
  clear ha hb
  refine calls_abs Try.func4 rfl (Nat.le_of_ble_eq_true rfl) ?_
  intro a0 d0 z0 h0
  replace z0 : a0.tmps.size = 67 := z0
  have s0_0 : a0.tmps.getD 0 undef = .agg (stC a) := h0 0 (Nat.le_of_ble_eq_true rfl)
  have s1_0 : a0.tmps.getD 1 undef = .agg (stC b) := h0 1 (Nat.le_of_ble_eq_true rfl)
  refine wp_seq ?_
  refine go_reg [] [⟨0, 2, 35, (stC a), none, #[]⟩, ⟨1, 3, 35, (stC b), none, #[]⟩] [none, none, oF] mo d0 z0 (Below.refl _ _) (by kernel_rfl) trivial (
   hk (fun cx => cx.al (wn rfl) 0 rfl (ex_box rfl (cx.rq 0 s0_0) rfl) rfl rfl rfl rfl rfl trivial) <|
   hk (fun cx => cx.al (wn rfl) 1 rfl (ex_box rfl (cx.rq 1 s1_0) rfl) rfl rfl rfl rfl rfl trivial) <|
   hk (fun cx => cx.q (ex_as rfl rfl)) <|
   hn) ?_
  intro a1 w1 f1
  obtain ⟨g1, u_g1, q_g1, b_g1⟩ := f1.al.1
  obtain ⟨g2, u_g2, q_g2, b_g2⟩ := f1.al.2.1
  refine wp_seq ?_
  refine go_reg [bx g1 35 (stC a), bx g2 35 (stC b)] [⟨6, 5, 35, (stC zS), some 7, (stC (bothR jT a b))⟩] [some (.agg (stC a)), some (.agg (stC b)), some (.tuple #[.agg (stC (bothR jT a b)), .int .i64 (bothE a b)]), some (.tuple #[.agg (stC (bothR jT a b)), .int .i64 (bothE a b)]), some (.agg (stC (bothR jT a b))), some (.int .i64 (bothE a b)), none, none, some (.int .i64 (bothE a b))] mo f1.d f1.z f1.b (by kernel_rfl) ⟨b_g1, b_g2, trivial⟩ (
   hk (fun cx => cx.q (ldSt rfl (cx.rq 2 u_g1) (cx.rn 0 rfl))) <|
   hk (fun cx => cx.q (ldSt rfl (cx.rq 3 u_g2) (cx.rn 1 rfl))) <|
   hc (fun _ _ wx cx => cx.c rfl (args2 (cx.u 0 rfl) (cx.u 1 rfl)) Try.func24 (by decide +kernel) (tjoin_n a b wx HA.out HB.out) rfl rfl) <|
   kmu 0 <|
   hk (fun cx => cx.q (ex_ext (x := .tmp 13) rfl (cx.u 0 rfl) rfl)) <|
   hk (fun cx => cx.q (ex_ext (x := .tmp 13) rfl (cx.u 0 rfl) rfl)) <|
   hk (fun cx => cx.al (wn rfl) 0 rfl (al_st rfl) rfl rfl rfl rfl (by kernel_rfl) trivial) <|
   hk (fun cx => cx.stA (wn rfl) rfl rfl 0 0 rfl rfl rfl rfl (cx.u 1 rfl) (st_info _) ((stC_size _).trans (stC_size _).symm) (stC_one _) f1.b.size rfl rfl trivial) <|
   kmu 0 <|
   hn) ?_
  intro a2 w2 f2
  obtain ⟨g3, u_g3, q_g3, b_g3⟩ := f2.al.1
  refine wp_seq ?_
  have b_g1_1 := f2.k b_g1
  have b_g2_2 := f2.k b_g2
  have s2_3 := f2.q 2 u_g1
  have s3_4 := f2.q 3 u_g2
  refine go_reg [bx g1 35 (stC a), bx g2 35 (stC b)] [⟨6, 7, 35, (stC zS), some 7, (stC (bothR jT a b))⟩] [some (.agg (stC a)), some (.agg (stC b)), some (.tuple #[.agg (stC (bothR jT a b)), .int .i64 (bothE a b)]), some (.tuple #[.agg (stC (bothR jT a b)), .int .i64 (bothE a b)]), some (.agg (stC (bothR jT a b))), some (.int .i64 (bothE a b)), none, none, some (.int .i64 (bothE a b))] mo f2.d f2.z f2.b (by kernel_rfl) ⟨b_g1_1, b_g2_2, trivial⟩ (
   hk (fun cx => cx.q (ldSt rfl (cx.rq 2 s2_3) (cx.rn 0 rfl))) <|
   hk (fun cx => cx.q (ldSt rfl (cx.rq 3 s3_4) (cx.rn 1 rfl))) <|
   hc (fun _ _ wx cx => cx.c rfl (args2 (cx.u 0 rfl) (cx.u 1 rfl)) Try.func25 (by decide +kernel) (qjoin_n a b wx HA.out HB.out) rfl rfl) <|
   kmu 0 <|
   hk (fun cx => cx.q (ex_ext (x := .tmp 19) rfl (cx.u 0 rfl) rfl)) <|
   hk (fun cx => cx.q (ex_ext (x := .tmp 19) rfl (cx.u 0 rfl) rfl)) <|
   hk (fun cx => cx.al (wn rfl) 0 rfl (al_st rfl) rfl rfl rfl rfl (by kernel_rfl) trivial) <|
   hk (fun cx => cx.stA (wn rfl) rfl rfl 0 0 rfl rfl rfl rfl (cx.u 1 rfl) (st_info _) ((stC_size _).trans (stC_size _).symm) (stC_one _) f2.b.size rfl rfl trivial) <|
   kmu 0 <|
   hn) ?_
  intro a3 w3 f3
  obtain ⟨g4, u_g4, q_g4, b_g4⟩ := f3.al.1
  refine wp_seq ?_
  have b_g1_5 := f3.k b_g1_1
  have b_g2_6 := f3.k b_g2_2
  have s2_7 := f3.q 2 s2_3
  have s3_8 := f3.q 3 s3_4
  refine go_reg [bx g1 35 (stC a), bx g2 35 (stC b)] [⟨6, 9, 35, (stC zS), some 7, (stC (bothR wT a b))⟩] [some (.agg (stC a)), some (.agg (stC b)), some (.tuple #[.agg (stC (bothR wT a b)), .int .i64 (bothE a b)]), some (.tuple #[.agg (stC (bothR wT a b)), .int .i64 (bothE a b)]), some (.agg (stC (bothR wT a b))), some (.int .i64 (bothE a b)), none, none, some (.int .i64 (bothE a b))] mo f3.d f3.z f3.b (by kernel_rfl) ⟨b_g1_5, b_g2_6, trivial⟩ (
   hk (fun cx => cx.q (ldSt rfl (cx.rq 2 s2_7) (cx.rn 0 rfl))) <|
   hk (fun cx => cx.q (ldSt rfl (cx.rq 3 s3_8) (cx.rn 1 rfl))) <|
   hc (fun _ _ wx cx => cx.c rfl (args2 (cx.u 0 rfl) (cx.u 1 rfl)) Try.func26 (by decide +kernel) (twiden_n a b wx HA.out HB.out) rfl rfl) <|
   kmu 0 <|
   hk (fun cx => cx.q (ex_ext (x := .tmp 25) rfl (cx.u 0 rfl) rfl)) <|
   hk (fun cx => cx.q (ex_ext (x := .tmp 25) rfl (cx.u 0 rfl) rfl)) <|
   hk (fun cx => cx.al (wn rfl) 0 rfl (al_st rfl) rfl rfl rfl rfl (by kernel_rfl) trivial) <|
   hk (fun cx => cx.stA (wn rfl) rfl rfl 0 0 rfl rfl rfl rfl (cx.u 1 rfl) (st_info _) ((stC_size _).trans (stC_size _).symm) (stC_one _) f3.b.size rfl rfl trivial) <|
   kmu 0 <|
   hn) ?_
  intro a4 w4 f4
  obtain ⟨g5, u_g5, q_g5, b_g5⟩ := f4.al.1
  refine wp_seq ?_
  have b_g1_9 := f4.k b_g1_5
  have b_g2_10 := f4.k b_g2_6
  have s2_11 := f4.q 2 s2_7
  have s3_12 := f4.q 3 s3_8
  refine go_reg [bx g1 35 (stC a), bx g2 35 (stC b)] [⟨6, 11, 35, (stC zS), some 7, (stC (bothR wT a b))⟩] [some (.agg (stC a)), some (.agg (stC b)), some (.tuple #[.agg (stC (bothR wT a b)), .int .i64 (bothE a b)]), some (.tuple #[.agg (stC (bothR wT a b)), .int .i64 (bothE a b)]), some (.agg (stC (bothR wT a b))), some (.int .i64 (bothE a b)), none, none, some (.int .i64 (bothE a b))] mo f4.d f4.z f4.b (by kernel_rfl) ⟨b_g1_9, b_g2_10, trivial⟩ (
   hk (fun cx => cx.q (ldSt rfl (cx.rq 2 s2_11) (cx.rn 0 rfl))) <|
   hk (fun cx => cx.q (ldSt rfl (cx.rq 3 s3_12) (cx.rn 1 rfl))) <|
   hc (fun _ _ wx cx => cx.c rfl (args2 (cx.u 0 rfl) (cx.u 1 rfl)) Try.func27 (by decide +kernel) (qwiden_n a b wx HA.out HB.out) rfl rfl) <|
   kmu 0 <|
   hk (fun cx => cx.q (ex_ext (x := .tmp 31) rfl (cx.u 0 rfl) rfl)) <|
   hk (fun cx => cx.q (ex_ext (x := .tmp 31) rfl (cx.u 0 rfl) rfl)) <|
   hk (fun cx => cx.al (wn rfl) 0 rfl (al_st rfl) rfl rfl rfl rfl (by kernel_rfl) trivial) <|
   hk (fun cx => cx.stA (wn rfl) rfl rfl 0 0 rfl rfl rfl rfl (cx.u 1 rfl) (st_info _) ((stC_size _).trans (stC_size _).symm) (stC_one _) f4.b.size rfl rfl trivial) <|
   kmu 0 <|
   hn) ?_
  intro a5 w5 f5
  obtain ⟨g6, u_g6, q_g6, b_g6⟩ := f5.al.1
  refine wp_seq ?_
  have b_g3_13 := f5.k (f4.k (f3.k b_g3))
  have b_g4_14 := f5.k (f4.k b_g4)
  have b_g5_15 := f5.k b_g5
  have b_g1_16 := f5.k b_g1_9
  have b_g2_17 := f5.k b_g2_10
  have s5_18 := f5.q 5 (f4.q 5 (f3.q 5 u_g3))
  have s7_19 := f5.q 7 (f4.q 7 u_g4)
  have s6_20 := f5.q 6 (f4.q 6 (f3.q 6 (f2.v 8 rfl rfl rfl)))
  have s8_21 := f5.q 8 (f4.q 8 (f3.v 8 rfl rfl rfl))
  have s9_22 := f5.q 9 u_g5
  have s10_23 := f5.q 10 (f4.v 8 rfl rfl rfl)
  have s2_24 := f5.q 2 s2_11
  have s3_25 := f5.q 3 s3_12
  refine go_reg [bx g3 35 (stC (bothR jT a b)), bx g4 35 (stC (bothR jT a b)), bx g5 35 (stC (bothR wT a b)), bx g6 35 (stC (bothR wT a b)), bx g1 35 (stC a), bx g2 35 (stC b)] [] (tabs [some (.agg (stC (bothR jT a b))), some (.agg (stC (bothR jT a b))), oT, oT, some (.int .i64 (bothE a b)), some (.int .i64 (bothE a b)), oT, oT, oT, some (.agg (stC (bothR wT a b))), some (.agg (stC (bothR wT a b))), oT, oT, oT, some (.int .i64 (bothE a b)), some (.int .i64 (bothE a b)), oT, oT, oT, some (.agg (stC a))] [some (.agg (stC b)), some (.bool (inS a b)), some (.agg (stC a)), some (.agg (stC b)), some (.bool (inS a b)), oT, oT, oT, oT, oT, oT]) mo f5.d f5.z f5.b (by kernel_rfl) ⟨b_g3_13, b_g4_14, b_g5_15, b_g6, b_g1_16, b_g2_17, trivial⟩ (
   hk (fun cx => cx.q (ldSt rfl (cx.rq 5 s5_18) (cx.rn 0 rfl))) <|
   hk (fun cx => cx.q (ldSt rfl (cx.rq 7 s7_19) (cx.rn 1 rfl))) <|
   hk (fun cx => cx.q (exec_eql (x := .tmp 37) (y := .tmp 38) rfl (cx.u 0 rfl) (cx.u 1 rfl) (by kernel_rfl) (eq_st (bothR jT a b) _))) <|
   kmu 0 <|
   hk (fun cx => cx.vy 0 (ex_mv rfl (cx.rq 6 s6_20))) <|
   hk (fun cx => cx.vy 0 (ex_mv rfl (cx.rq 8 s8_21))) <|
   hk (fun cx => cx.vy 2 (ex_eq (x := .tmp 41) (y := .tmp 42) rfl (cx.u 0 rfl) (cx.u 1 rfl)) (congrArg Value.bool (by simp))) <|
   hk (fun cx => cx.q (ex_pt rfl (cx.u 0 rfl) (cx.u 1 rfl))) <|
   kmu 0 <|
   hk (fun cx => cx.vy 0 (ldSt rfl (cx.rq 9 s9_22) (cx.rn 2 rfl))) <|
   hk (fun cx => cx.vy 0 (ldSt rfl (cx.rq 11 u_g6) (cx.rn 3 rfl))) <|
   hk (fun cx => cx.vy 2 (exec_eql (x := .tmp 46) (y := .tmp 47) rfl (cx.u 0 rfl) (cx.u 1 rfl) (by kernel_rfl) (eq_st (bothR wT a b) _))) <|
   hk (fun cx => cx.q (ex_pt rfl (cx.u 0 rfl) (cx.u 1 rfl))) <|
   kmu 0 <|
   hk (fun cx => cx.vy 0 (ex_mv rfl (cx.rq 10 s10_23))) <|
   hk (fun cx => cx.vy 0 (ex_mv rfl (cx.rq 12 (f5.v 8 rfl rfl rfl)))) <|
   hk (fun cx => cx.vy 2 (ex_eq (x := .tmp 51) (y := .tmp 52) rfl (cx.u 0 rfl) (cx.u 1 rfl)) (congrArg Value.bool (by simp))) <|
   hk (fun cx => cx.q (ex_pt rfl (cx.u 0 rfl) (cx.u 1 rfl))) <|
   kmu 0 <|
   hk (fun cx => cx.vy 0 (ldSt rfl (cx.rq 2 s2_24) (cx.rn 4 rfl))) <|
   hk (fun cx => cx.vy 0 (ldSt rfl (cx.rq 3 s3_25) (cx.rn 5 rfl))) <|
   hc (fun _ _ wx cx => cx.call (cx.wy rfl rfl rfl rfl (cx.u 2 rfl)) rfl rfl (args2 (cx.u 0 rfl) (cx.u 1 rfl)) Try.func28 (by decide +kernel) rfl (tin_n a b wx) rfl rfl rfl rfl) <|
   hk (fun cx => cx.vy 0 (ldSt rfl (cx.rq 2 s2_24) (cx.rn 4 rfl))) <|
   hk (fun cx => cx.vy 0 (ldSt rfl (cx.rq 3 s3_25) (cx.rn 5 rfl))) <|
   hc (fun _ _ wx cx => cx.call (cx.wy rfl rfl rfl rfl (cx.u 3 rfl)) rfl rfl (args2 (cx.u 0 rfl) (cx.u 1 rfl)) Try.func29 (by decide +kernel) rfl (qin_n a b wx) rfl rfl rfl rfl) <|
   hc (fun _ ax _ cx => cx.vy (v := .bool ((inS a b) == (inS a b))) 2 (by simp [execOp, Act.eval, (show ax.tmps.getD 58 undef = .bool (inS a b) from (cx.u 0 rfl)), (show ax.tmps.getD 61 undef = .bool (inS a b) from (cx.u 1 rfl)), go_sem]) (congrArg Value.bool (by simp))) <|
   hk (fun cx => cx.q (ex_pt rfl (cx.u 0 rfl) (cx.u 1 rfl))) <|
   kmu 0 <|
   hc (fun _ _ wx cx => cx.call (cx.wy rfl rfl rfl rfl (cx.u 0 rfl)) rfl rfl (args0 ) Try.func23 (by decide +kernel) rfl (wakes_n wx) rfl rfl rfl rfl) <|
   hk (fun cx => cx.q (ex_pt rfl (cx.u 0 rfl) (cx.u 1 rfl))) <|
   kmu 0 <|
   hn) ?_
  intro a6 w6 f6
  refine wp_ret ?_
  try simp only [Exit.inBlock, Exit.then]
  refine bodyPost_ret (res_t (fn := Try.f4) rfl (f6.v 30 rfl rfl rfl)) f6.d ?_
  exact ⟨rfl, f6.b⟩
end Go.Proofs.Ytcnneeimkcnjfaa.Sta
