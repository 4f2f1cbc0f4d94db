/-
  The walk of the law FlagsHold. (Written by gen_fli.py.)
-/
import Derived.Test.YtllnengcmfgmhaaFlI
namespace Go.Proofs.Ytllnengcmfgmhaa.Flg
open Go Go.RowKit
set_option linter.unusedVariables false
set_option linter.unusedSimpArgs false
set_option linter.unnecessarySimpa false
set_option maxRecDepth 100000




set_option maxHeartbeats 4000000 in
theorem hold_n (cc : Int) (f : Fl) (W : World) (h1 : cc ≤ 127) : Calls Try.prog 4 #[.int .i8 cc, .agg (fC f)] W fun e w' => e = .returned (.bool true) ∧ Below W.heap.size W w' := by
  refine calls_abs Try.func4 rfl (Nat.le_of_ble_eq_true rfl) ?_
  intro a0 d0 z0 h0
  replace z0 : a0.tmps.size = 63 := z0
  have s0_0 : a0.tmps.getD 0 undef = .int .i8 cc := h0 0 (Nat.le_of_ble_eq_true rfl)
  have s1_0 : a0.tmps.getD 1 undef = .agg (fC f) := h0 1 (Nat.le_of_ble_eq_true rfl)
  refine wp_seq ?_
  refine go_reg [] [⟨0, 3, 25, (fC f), none, #[]⟩] [none, oF] mo d0 z0 (Below.refl _ _) (by kernel_rfl) trivial (
   hk (fun cx => cx.al (wn rfl) 0 rfl (ex_box rfl (cx.rq 1 s1_0) rfl) rfl rfl rfl rfl rfl trivial) <|
   hk (fun cx => cx.q (ex_as rfl rfl)) <|
   hn) ?_
  intro a1 w1 f1
  obtain ⟨g1, u_g1, q_g1, b_g1⟩ := f1.al.1
  refine wp_seq ?_
  have s0_1 := f1.q 0 s0_0
  refine go_reg [bx g1 25 (fC f)] [] [some (.int .i8 cc), some (.agg (fC f)), some (.tuple #[.bool (holF cc f), .int .i64 (holE cc f)]), some (.tuple #[.bool (holF cc f), .int .i64 (holE cc f)]), some (.bool (holF cc f)), some (.int .i64 (holE cc f)), some (.bool (holF cc f)), some (.int .i64 (holE cc f))] mo f1.d f1.z f1.b (by kernel_rfl) ⟨b_g1, trivial⟩ (
   hk (fun cx => cx.q (ex_mv rfl (cx.rq 0 s0_1))) <|
   hk (fun cx => cx.q (ldF rfl (cx.rq 3 u_g1) (cx.rn 0 rfl))) <|
   hc (fun _ _ wx cx => cx.c rfl (args2 (cx.u 0 rfl) (cx.u 1 rfl)) Try.func18 (by decide +kernel) (holds_n cc f wx h1) rfl rfl) <|
   kmu 0 <|
   hk (fun cx => cx.q (ex_ext (x := .tmp 13) rfl (cx.u 0 rfl) rfl)) <|
   hk (fun cx => cx.q (ex_ext (x := .tmp 13) rfl (cx.u 0 rfl) rfl)) <|
   kmu 0 <|
   kmu 0 <|
   hn) ?_
  intro a2 w2 f2
  refine wp_seq ?_
  have b_g1_2 := f2.k b_g1
  have s0_3 := f2.q 0 s0_1
  have s3_4 := f2.q 3 u_g1
  refine go_reg [bx g1 25 (fC f)] [] [some (.int .i8 cc), some (.agg (fC f)), some (.tuple #[.bool (holF cc f), .int .i64 (holE cc f)]), some (.tuple #[.bool (holF cc f), .int .i64 (holE cc f)]), some (.bool (holF cc f)), some (.int .i64 (holE cc f)), some (.bool (holF cc f)), some (.int .i64 (holE cc f))] mo f2.d f2.z f2.b (by kernel_rfl) ⟨b_g1_2, trivial⟩ (
   hk (fun cx => cx.q (ex_mv rfl (cx.rq 0 s0_3))) <|
   hk (fun cx => cx.q (ldF rfl (cx.rq 3 s3_4) (cx.rn 0 rfl))) <|
   hc (fun _ _ wx cx => cx.c rfl (args2 (cx.u 0 rfl) (cx.u 1 rfl)) Try.func19 (by decide +kernel) (qholds_n cc f wx h1) rfl rfl) <|
   kmu 0 <|
   hk (fun cx => cx.q (ex_ext (x := .tmp 19) rfl (cx.u 0 rfl) rfl)) <|
   hk (fun cx => cx.q (ex_ext (x := .tmp 19) rfl (cx.u 0 rfl) rfl)) <|
   kmu 0 <|
   kmu 0 <|
   hn) ?_
  intro a3 w3 f3
  refine wp_seq ?_
  have s0_5 := f3.q 0 s0_3
  refine go_reg [] [] [some (.int .i8 cc), some (.tuple #[.int .i8 (turnC cc), .bool (mayC cc)]), some (.tuple #[.int .i8 (turnC cc), .bool (mayC cc)]), some (.int .i8 (turnC cc)), some (.bool (mayC cc)), some (.int .i8 (turnC cc)), some (.bool (mayC cc))] mo f3.d f3.z f3.b (by kernel_rfl) trivial (
   hk (fun cx => cx.q (ex_mv rfl (cx.rq 0 s0_5))) <|
   hc (fun _ _ wx cx => cx.c rfl (args1 (cx.u 0 rfl)) Try.func20 (by decide +kernel) (not_n cc wx h1) rfl rfl) <|
   kmu 0 <|
   hk (fun cx => cx.q (ex_ext (x := .tmp 25) rfl (cx.u 0 rfl) rfl)) <|
   hk (fun cx => cx.q (ex_ext (x := .tmp 25) rfl (cx.u 0 rfl) rfl)) <|
   kmu 0 <|
   kmu 0 <|
   hn) ?_
  intro a4 w4 f4
  refine wp_seq ?_
  have s0_6 := f4.q 0 s0_5
  refine go_reg [] [] [some (.int .i8 cc), some (.tuple #[.int .i8 (turnC cc), .bool (mayC cc)]), some (.tuple #[.int .i8 (turnC cc), .bool (mayC cc)]), some (.int .i8 (turnC cc)), some (.bool (mayC cc)), some (.int .i8 (turnC cc)), some (.bool (mayC cc))] mo f4.d f4.z f4.b (by kernel_rfl) trivial (
   hk (fun cx => cx.q (ex_mv rfl (cx.rq 0 s0_6))) <|
   hc (fun _ _ wx cx => cx.c rfl (args1 (cx.u 0 rfl)) Try.func21 (by decide +kernel) (qnot_n cc wx h1) rfl rfl) <|
   kmu 0 <|
   hk (fun cx => cx.q (ex_ext (x := .tmp 30) rfl (cx.u 0 rfl) rfl)) <|
   hk (fun cx => cx.q (ex_ext (x := .tmp 30) rfl (cx.u 0 rfl) rfl)) <|
   kmu 0 <|
   kmu 0 <|
   hn) ?_
  intro a5 w5 f5
  refine wp_seq ?_
  have s5_7 := f5.q 5 (f4.q 5 (f3.q 5 (f2.v 6 rfl rfl rfl)))
  have s7_8 := f5.q 7 (f4.q 7 (f3.v 6 rfl rfl rfl))
  have s6_9 := f5.q 6 (f4.q 6 (f3.q 6 (f2.v 7 rfl rfl rfl)))
  have s8_10 := f5.q 8 (f4.q 8 (f3.v 7 rfl rfl rfl))
  have s9_11 := f5.q 9 (f4.v 5 rfl rfl rfl)
  have s10_12 := f5.q 10 (f4.v 6 rfl rfl rfl)
  have s0_13 := f5.q 0 s0_6
  refine go_reg [] [] (tabs [some (.bool (holF cc f)), some (.bool (holF cc f)), oT, oT, some (.int .i64 (holE cc f)), some (.int .i64 (holE cc f)), oT, oT, oT, some (.int .i8 (turnC cc)), some (.int .i8 (turnC cc)), oT, oT, oT, some (.bool (mayC cc)), some (.bool (mayC cc)), oT, oT, oT, some (.int .i8 cc)] [some (.bool (mayC cc)), some (.int .i8 cc), some (.bool (mayC cc)), oT, oT, oT, oT, oT, oT]) mo f5.d f5.z f5.b (by kernel_rfl) trivial (
   hk (fun cx => cx.q (ex_mv rfl (cx.rq 5 s5_7))) <|
   hk (fun cx => cx.q (ex_mv rfl (cx.rq 7 s7_8))) <|
   hk (fun cx => cx.v (v := .bool ((holF cc f) == (holF cc f))) (ex_beq (x := .tmp 35) (y := .tmp 36) rfl (cx.u 0 rfl) (cx.u 1 rfl)) rfl (congrArg Value.bool (beq_self_eq_true _))) <|
   kmu 0 <|
   hk (fun cx => cx.vy 0 (ex_mv rfl (cx.rq 6 s6_9))) <|
   hk (fun cx => cx.vy 0 (ex_mv rfl (cx.rq 8 s8_10))) <|
   hk (fun cx => cx.vy 2 (ex_eq (x := .tmp 39) (y := .tmp 40) rfl (cx.u 0 rfl) (cx.u 1 rfl)) (congrArg Value.bool (beq_self_eq_true _))) <|
   hk (fun cx => cx.q (ex_pt rfl (cx.u 0 rfl) (cx.u 1 rfl))) <|
   kmu 0 <|
   hk (fun cx => cx.vy 0 (ex_mv rfl (cx.rq 9 s9_11))) <|
   hk (fun cx => cx.vy 0 (ex_mv rfl (cx.rq 11 (f5.v 5 rfl rfl rfl)))) <|
   hk (fun cx => cx.vy 2 (ex_eq (x := .tmp 44) (y := .tmp 45) rfl (cx.u 0 rfl) (cx.u 1 rfl)) (congrArg Value.bool (beq_self_eq_true _))) <|
   hk (fun cx => cx.q (ex_pt rfl (cx.u 0 rfl) (cx.u 1 rfl))) <|
   kmu 0 <|
   hk (fun cx => cx.vy 0 (ex_mv rfl (cx.rq 10 s10_12))) <|
   hk (fun cx => cx.vy 0 (ex_mv rfl (cx.rq 12 (f5.v 6 rfl rfl rfl)))) <|
   hk (fun cx => cx.vy (v := .bool ((mayC cc) == (mayC cc))) 2 (ex_beq (x := .tmp 49) (y := .tmp 50) rfl (cx.u 0 rfl) (cx.u 1 rfl)) (congrArg Value.bool (beq_self_eq_true _))) <|
   hk (fun cx => cx.q (ex_pt rfl (cx.u 0 rfl) (cx.u 1 rfl))) <|
   kmu 0 <|
   hk (fun cx => cx.vy 0 (ex_mv rfl (cx.rq 0 s0_13))) <|
   hc (fun _ _ wx cx => cx.call (cx.wy rfl rfl rfl rfl (cx.u 1 rfl)) rfl rfl (args1 (cx.u 0 rfl)) Try.func22 (by decide +kernel) rfl (may_n cc wx h1) rfl rfl rfl rfl) <|
   hk (fun cx => cx.vy 0 (ex_mv rfl (cx.rq 0 s0_13))) <|
   hc (fun _ _ wx cx => cx.call (cx.wy rfl rfl rfl rfl (cx.u 2 rfl)) rfl rfl (args1 (cx.u 0 rfl)) Try.func23 (by decide +kernel) rfl (((qmay_n cc wx).mono (by rintro e w' ⟨rfl, rfl⟩; exact ⟨rfl, Below.refl _ _⟩))) rfl rfl rfl rfl) <|
   hk (fun cx => cx.vy (v := .bool ((mayC cc) == (mayC cc))) 2 (ex_beq (x := .tmp 55) (y := .tmp 57) rfl (cx.u 0 rfl) (cx.u 1 rfl)) (congrArg Value.bool (beq_self_eq_true _))) <|
   hk (fun cx => cx.q (ex_pt rfl (cx.u 0 rfl) (cx.u 1 rfl))) <|
   kmu 0 <|
   hc (fun _ _ wx cx => cx.call (cx.wy rfl rfl rfl rfl (cx.u 0 rfl)) rfl rfl (args0 ) Try.func17 (by decide +kernel) rfl (wakes_n wx) rfl rfl rfl rfl) <|
   hk (fun cx => cx.q (ex_pt rfl (cx.u 0 rfl) (cx.u 1 rfl))) <|
   kmu 0 <|
   hn) ?_
  intro a6 w6 f6
  refine wp_ret ?_
  try simp only [Exit.inBlock, Exit.then]
  refine bodyPost_ret (res_t (fn := Try.f4) rfl (f6.v 28 rfl rfl rfl)) f6.d ?_
  exact ⟨rfl, f6.b⟩

theorem hold_law (cc : Int) (f : Fl) (W : World) (h : (Lit.int .i8 cc).wf = true) : Calls Try.prog 4 #[.int .i8 cc, .agg (fC f)] W fun e w' => e = .returned (.bool true) ∧ Below W.heap.size W w' :=
  hold_n cc f W (bd_i8 h).2
end Go.Proofs.Ytllnengcmfgmhaa.Flg
