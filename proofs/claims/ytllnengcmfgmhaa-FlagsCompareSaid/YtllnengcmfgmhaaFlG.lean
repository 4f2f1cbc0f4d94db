/-
  The document's own Holds, condition by condition. (Written by gen_fl.py.)
-/
import Derived.Test.YtllnengcmfgmhaaFlE
import Derived.Test.YtllnengcmfgmhaaFlF
namespace Go.Proofs.Ytllnengcmfgmhaa.Flg
open Go Go.RowKit
set_option linter.unusedVariables false
set_option linter.unusedSimpArgs false
set_option linter.unnecessarySimpa false
set_option maxRecDepth 100000

theorem faFlG25_0_0 (g : Nat) (w : World) : (Instr.fieldAt 25 (.pointer (some ⟨g, 0, none⟩)) 0).run Try.prog w = .ok (.pointer (some ⟨g, 0, none⟩)) w := by simp [go_sem]
theorem faFlG25_1_0 (g : Nat) (w : World) : (Instr.fieldAt 25 (.pointer (some ⟨g, 0, none⟩)) 1).run Try.prog w = .ok (.pointer (some ⟨g, 1, none⟩)) w := by simp [go_sem]
theorem faFlG25_2_0 (g : Nat) (w : World) : (Instr.fieldAt 25 (.pointer (some ⟨g, 0, none⟩)) 2).run Try.prog w = .ok (.pointer (some ⟨g, 2, none⟩)) w := by simp [go_sem]
theorem faFlG25_3_0 (g : Nat) (w : World) : (Instr.fieldAt 25 (.pointer (some ⟨g, 0, none⟩)) 3).run Try.prog w = .ok (.pointer (some ⟨g, 3, none⟩)) w := by simp [go_sem]
theorem faFlG25_4_0 (g : Nat) (w : World) : (Instr.fieldAt 25 (.pointer (some ⟨g, 0, none⟩)) 4).run Try.prog w = .ok (.pointer (some ⟨g, 4, none⟩)) w := by simp [go_sem]


set_option maxHeartbeats 4000000 in
theorem qhol_2 (f : Fl) (W : World) : Calls Try.prog 19 #[.int .i8 2, .agg (fC f)] W fun e w' => e = .returned (.tuple #[.bool (holF 2 f), .int .i64 (holE 2 f)]) ∧ Below W.heap.size W w' := by
  refine calls_abs Try.func19 rfl (Nat.le_of_ble_eq_true rfl) ?_
  intro a0 d0 z0 h0
  replace z0 : a0.tmps.size = 52 := z0
  have s0_0 : a0.tmps.getD 0 undef = .int .i8 2 := h0 0 (Nat.le_of_ble_eq_true rfl)
  have s1_0 : a0.tmps.getD 1 undef = .agg (fC f) := h0 1 (Nat.le_of_ble_eq_true rfl)
  refine wp_seq ?_
  refine go_reg [] [⟨0, 3, 25, (fC f), none, #[]⟩] [none, oF, some (.int .i64 0)] mo d0 z0 (Below.refl _ _) (by kernel_rfl) trivial (
   hk (fun cx => cx.al (wn rfl) 0 rfl (ex_box rfl (cx.rq 1 s1_0) rfl) rfl rfl rfl rfl rfl trivial) <|
   hk (fun cx => cx.q (ex_as rfl rfl)) <|
   hk (fun cx => cx.q (ex_as rfl rfl)) <|
   hn) ?_
  intro a1 w1 f1
  obtain ⟨g1, u_g1, q_g1, b_g1⟩ := f1.al.1
  refine wp_seq ?_
  refine wp_seq ?_
  have s0_1 := f1.q 0 s0_0
  refine go_reg [] [] [some (.int .i8 2), oT, oF] mo f1.d f1.z f1.b (by kernel_rfl) trivial (
   hk (fun cx => cx.q (ex_mv rfl (cx.rq 0 s0_1))) <|
   hc (fun _ _ wx cx => cx.c rfl (args1 (cx.u 0 rfl)) Try.func23 (by decide +kernel) (((qmay_2 wx).mono (by rintro e w' ⟨rfl, rfl⟩; exact ⟨rfl, Below.refl _ _⟩))) rfl rfl) <|
   hk (fun cx => cx.q (ex_not (x := .tmp 8) rfl (cx.u 0 rfl))) <|
   hn) ?_
  intro a2 w2 f2
  refine wp_cond_false (f2.v 2 rfl rfl rfl) ?_
  refine wp_skip ?_
  refine wp_seq ?_
  refine wp_seq ?_
  cases fk1 : !f.k
  case false =>
   have Ffk1 := Lib.hid fk1; clear fk1
   have b_g1_2 := f2.k b_g1
   have s3_3 := f2.q 3 u_g1
   refine go_reg [bx g1 25 (fC f)] [] [some (pt g1 0), some (.bool f.k), oF] mo f2.d f2.z f2.b (by kernel_rfl) ⟨b_g1_2, trivial⟩ (
    hk (fun cx => cx.q (ex_fa rfl (cx.rq 3 s3_3) (faFlG25_0_0 _ _))) <|
    hk (fun cx => cx.q (ex_ld rfl (cx.u 0 rfl) (cx.rn 0 rfl) rfl Try.isAgg4)) <|
    hk (fun cx => cx.v (ex_not (x := .tmp 11) rfl (cx.u 0 rfl)) rfl (congrArg Value.bool Ffk1.out)) <|
    hn) ?_
   intro a3 w3 f3
   refine wp_cond_false (f3.v 2 rfl rfl rfl) ?_
   refine wp_skip ?_
   refine wp_seq ?_
   refine go_reg [] [] [oF] mo f3.d f3.z f3.b (by kernel_rfl) trivial (
    hk (fun cx => cx.q (ex_as rfl rfl)) <|
    hn) ?_
   intro a4 w4 f4
   refine wp_seq ?_
   refine wp_seq ?_
   have s0_4 := f4.q 0 (f3.q 0 (f2.q 0 s0_1))
   refine go_reg [] [] [some (.int .i8 2), some (.int .i8 2)] mo f4.d f4.z f4.b (by kernel_rfl) trivial (
    hk (fun cx => cx.q (ex_mv rfl (cx.rq 0 s0_4))) <|
    hk (fun cx => cx.v (ex_an (x := .tmp 13) rfl (cx.u 0 rfl) rfl) rfl (congrArg (Value.int .i8) (by decide +kernel))) <|
    hn) ?_
   intro a5 w5 f5
   refine wp_block ?_
   refine wp_seq ?_
   refine go_reg [] [] [oT, oT] mo f5.d f5.z f5.b (by kernel_rfl) trivial (
    hk (fun cx => cx.v (ex_eq (x := .tmp 14) rfl (cx.rq 14 (f5.v 1 rfl rfl rfl)) rfl) rfl (congrArg Value.bool (by decide))) <|
    kmu 0 <|
    hn) ?_
   intro a6 w6 f6
   refine wp_cond_true (f6.v 1 rfl rfl rfl) ?_
   have b_g1_5 := f6.k (f5.k (f4.k (f3.k b_g1_2)))
   have s3_6 := f6.q 3 (f5.q 3 (f4.q 3 (f3.q 3 s3_3)))
   refine go_reg [bx g1 25 (fC f)] [] [some (pt g1 1), some (.bool f.c), some (.bool f.c)] mo f6.d f6.z f6.b (by kernel_rfl) ⟨b_g1_5, trivial⟩ (
    hk (fun cx => cx.q (ex_fa rfl (cx.rq 3 s3_6) (faFlG25_1_0 _ _))) <|
    hk (fun cx => cx.q (ex_ld rfl (cx.u 0 rfl) (cx.rn 0 rfl) rfl Try.isAgg4)) <|
    kmu 0 <|
    hn) ?_
   intro a7 w7 f7
   refine wp_seq ?_
   have s0_7 := f7.q 0 (f6.q 0 (f5.q 0 s0_4))
   refine go_reg [] [] [some (.bool f.c), some (.int .i8 2), some (.int .i8 0), oF, some (.bool (f.c != false)), some (.bool (f.c != false)), some (.int .i64 0)] mo f7.d f7.z f7.b (by kernel_rfl) trivial (
    hk (fun cx => cx.q (ex_mv rfl (cx.rq 6 (f7.v 2 rfl rfl rfl)))) <|
    hk (fun cx => cx.q (ex_mv rfl (cx.rq 0 s0_7))) <|
    hk (fun cx => cx.v (ex_and (x := .tmp 48) rfl (cx.u 0 rfl) rfl) rfl (congrArg (Value.int .i8) (by decide +kernel))) <|
    hk (fun cx => cx.v (ex_eq (x := .tmp 49) rfl (cx.u 0 rfl) rfl) rfl (congrArg Value.bool (by decide))) <|
    hk (fun cx => cx.q (ex_bne (x := .tmp 47) (y := .tmp 50) rfl (cx.u 0 rfl) (cx.u 1 rfl))) <|
    kmu 0 <|
    hk (fun cx => cx.q (ex_as rfl rfl)) <|
    hn) ?_
   intro a8 w8 f8
   refine wp_ret ?_
   try simp only [Exit.inBlock, Exit.then]
   refine bodyPost_ret (res_tt (fn := Try.f19) rfl (f8.v 5 rfl rfl rfl) (f8.v 6 rfl rfl rfl)) f8.d ?_
   have HE : (.tuple #[.bool (f.c != false), .int .i64 0] : Value) = .tuple #[.bool (holF 2 f), .int .i64 (holE 2 f)] := by simp only [bang Ffk1.out, holF_2, holE_2, ccF_2, bn_f, bn_t, bn_n, Bool.not_not, Bool.true_and, Bool.and_true, Bool.false_and, Bool.and_false, Bool.or_false, Bool.false_or, Bool.true_or, Bool.or_true, Bool.not_true, Bool.not_false, if_true, if_false, Bool.false_eq_true, Bool.true_eq_false, reduceCtorEq]; try rfl
   exact ⟨retV HE, f8.b⟩
  have Ffk1 := Lib.hid fk1; clear fk1
  have b_g1_8 := f2.k b_g1
  have s3_9 := f2.q 3 u_g1
  refine go_reg [bx g1 25 (fC f)] [] [some (pt g1 0), some (.bool f.k), oT] mo f2.d f2.z f2.b (by kernel_rfl) ⟨b_g1_8, trivial⟩ (
   hk (fun cx => cx.q (ex_fa rfl (cx.rq 3 s3_9) (faFlG25_0_0 _ _))) <|
   hk (fun cx => cx.q (ex_ld rfl (cx.u 0 rfl) (cx.rn 0 rfl) rfl Try.isAgg4)) <|
   hk (fun cx => cx.v (ex_not (x := .tmp 11) rfl (cx.u 0 rfl)) rfl (congrArg Value.bool Ffk1.out)) <|
   hn) ?_
  intro a9 w9 f9
  refine wp_cond_true (f9.v 2 rfl rfl rfl) ?_
  refine wp_seq ?_
  refine go_reg [] [] [oF, some (.int .i64 20)] mo f9.d f9.z f9.b (by kernel_rfl) trivial (
   hk (fun cx => cx.q (ex_as rfl rfl)) <|
   hk (fun cx => cx.q (ex_as rfl rfl)) <|
   hn) ?_
  intro a10 w10 f10
  refine wp_ret ?_
  try simp only [Exit.inBlock, Exit.then]
  refine bodyPost_ret (res_tt (fn := Try.f19) rfl (f10.v 0 rfl rfl rfl) (f10.v 1 rfl rfl rfl)) f10.d ?_
  have HE : (.tuple #[.bool false, .int .i64 20] : Value) = .tuple #[.bool (holF 2 f), .int .i64 (holE 2 f)] := by simp only [bang Ffk1.out, holF_2, holE_2, ccF_2, bn_f, bn_t, bn_n, Bool.not_not, Bool.true_and, Bool.and_true, Bool.false_and, Bool.and_false, Bool.or_false, Bool.false_or, Bool.true_or, Bool.or_true, Bool.not_true, Bool.not_false, if_true, if_false, Bool.false_eq_true, Bool.true_eq_false, reduceCtorEq]; try rfl
  exact ⟨retV HE, f10.b⟩

set_option maxHeartbeats 4000000 in
theorem qhol_3 (f : Fl) (W : World) : Calls Try.prog 19 #[.int .i8 3, .agg (fC f)] W fun e w' => e = .returned (.tuple #[.bool (holF 3 f), .int .i64 (holE 3 f)]) ∧ Below W.heap.size W w' := by
  refine calls_abs Try.func19 rfl (Nat.le_of_ble_eq_true rfl) ?_
  intro a0 d0 z0 h0
  replace z0 : a0.tmps.size = 52 := z0
  have s0_0 : a0.tmps.getD 0 undef = .int .i8 3 := h0 0 (Nat.le_of_ble_eq_true rfl)
  have s1_0 : a0.tmps.getD 1 undef = .agg (fC f) := h0 1 (Nat.le_of_ble_eq_true rfl)
  refine wp_seq ?_
  refine go_reg [] [⟨0, 3, 25, (fC f), none, #[]⟩] [none, oF, some (.int .i64 0)] mo d0 z0 (Below.refl _ _) (by kernel_rfl) trivial (
   hk (fun cx => cx.al (wn rfl) 0 rfl (ex_box rfl (cx.rq 1 s1_0) rfl) rfl rfl rfl rfl rfl trivial) <|
   hk (fun cx => cx.q (ex_as rfl rfl)) <|
   hk (fun cx => cx.q (ex_as rfl rfl)) <|
   hn) ?_
  intro a1 w1 f1
  obtain ⟨g1, u_g1, q_g1, b_g1⟩ := f1.al.1
  refine wp_seq ?_
  refine wp_seq ?_
  have s0_1 := f1.q 0 s0_0
  refine go_reg [] [] [some (.int .i8 3), oT, oF] mo f1.d f1.z f1.b (by kernel_rfl) trivial (
   hk (fun cx => cx.q (ex_mv rfl (cx.rq 0 s0_1))) <|
   hc (fun _ _ wx cx => cx.c rfl (args1 (cx.u 0 rfl)) Try.func23 (by decide +kernel) (((qmay_3 wx).mono (by rintro e w' ⟨rfl, rfl⟩; exact ⟨rfl, Below.refl _ _⟩))) rfl rfl) <|
   hk (fun cx => cx.q (ex_not (x := .tmp 8) rfl (cx.u 0 rfl))) <|
   hn) ?_
  intro a2 w2 f2
  refine wp_cond_false (f2.v 2 rfl rfl rfl) ?_
  refine wp_skip ?_
  refine wp_seq ?_
  refine wp_seq ?_
  cases fk1 : !f.k
  case false =>
   have Ffk1 := Lib.hid fk1; clear fk1
   have b_g1_2 := f2.k b_g1
   have s3_3 := f2.q 3 u_g1
   refine go_reg [bx g1 25 (fC f)] [] [some (pt g1 0), some (.bool f.k), oF] mo f2.d f2.z f2.b (by kernel_rfl) ⟨b_g1_2, trivial⟩ (
    hk (fun cx => cx.q (ex_fa rfl (cx.rq 3 s3_3) (faFlG25_0_0 _ _))) <|
    hk (fun cx => cx.q (ex_ld rfl (cx.u 0 rfl) (cx.rn 0 rfl) rfl Try.isAgg4)) <|
    hk (fun cx => cx.v (ex_not (x := .tmp 11) rfl (cx.u 0 rfl)) rfl (congrArg Value.bool Ffk1.out)) <|
    hn) ?_
   intro a3 w3 f3
   refine wp_cond_false (f3.v 2 rfl rfl rfl) ?_
   refine wp_skip ?_
   refine wp_seq ?_
   refine go_reg [] [] [oF] mo f3.d f3.z f3.b (by kernel_rfl) trivial (
    hk (fun cx => cx.q (ex_as rfl rfl)) <|
    hn) ?_
   intro a4 w4 f4
   refine wp_seq ?_
   refine wp_seq ?_
   have s0_4 := f4.q 0 (f3.q 0 (f2.q 0 s0_1))
   refine go_reg [] [] [some (.int .i8 3), some (.int .i8 2)] mo f4.d f4.z f4.b (by kernel_rfl) trivial (
    hk (fun cx => cx.q (ex_mv rfl (cx.rq 0 s0_4))) <|
    hk (fun cx => cx.v (ex_an (x := .tmp 13) rfl (cx.u 0 rfl) rfl) rfl (congrArg (Value.int .i8) (by decide +kernel))) <|
    hn) ?_
   intro a5 w5 f5
   refine wp_block ?_
   refine wp_seq ?_
   refine go_reg [] [] [oT, oT] mo f5.d f5.z f5.b (by kernel_rfl) trivial (
    hk (fun cx => cx.v (ex_eq (x := .tmp 14) rfl (cx.rq 14 (f5.v 1 rfl rfl rfl)) rfl) rfl (congrArg Value.bool (by decide))) <|
    kmu 0 <|
    hn) ?_
   intro a6 w6 f6
   refine wp_cond_true (f6.v 1 rfl rfl rfl) ?_
   have b_g1_5 := f6.k (f5.k (f4.k (f3.k b_g1_2)))
   have s3_6 := f6.q 3 (f5.q 3 (f4.q 3 (f3.q 3 s3_3)))
   refine go_reg [bx g1 25 (fC f)] [] [some (pt g1 1), some (.bool f.c), some (.bool f.c)] mo f6.d f6.z f6.b (by kernel_rfl) ⟨b_g1_5, trivial⟩ (
    hk (fun cx => cx.q (ex_fa rfl (cx.rq 3 s3_6) (faFlG25_1_0 _ _))) <|
    hk (fun cx => cx.q (ex_ld rfl (cx.u 0 rfl) (cx.rn 0 rfl) rfl Try.isAgg4)) <|
    kmu 0 <|
    hn) ?_
   intro a7 w7 f7
   refine wp_seq ?_
   have s0_7 := f7.q 0 (f6.q 0 (f5.q 0 s0_4))
   refine go_reg [] [] [some (.bool f.c), some (.int .i8 3), some (.int .i8 1), oT, some (.bool (f.c != true)), some (.bool (f.c != true)), some (.int .i64 0)] mo f7.d f7.z f7.b (by kernel_rfl) trivial (
    hk (fun cx => cx.q (ex_mv rfl (cx.rq 6 (f7.v 2 rfl rfl rfl)))) <|
    hk (fun cx => cx.q (ex_mv rfl (cx.rq 0 s0_7))) <|
    hk (fun cx => cx.v (ex_and (x := .tmp 48) rfl (cx.u 0 rfl) rfl) rfl (congrArg (Value.int .i8) (by decide +kernel))) <|
    hk (fun cx => cx.v (ex_eq (x := .tmp 49) rfl (cx.u 0 rfl) rfl) rfl (congrArg Value.bool (by decide))) <|
    hk (fun cx => cx.q (ex_bne (x := .tmp 47) (y := .tmp 50) rfl (cx.u 0 rfl) (cx.u 1 rfl))) <|
    kmu 0 <|
    hk (fun cx => cx.q (ex_as rfl rfl)) <|
    hn) ?_
   intro a8 w8 f8
   refine wp_ret ?_
   try simp only [Exit.inBlock, Exit.then]
   refine bodyPost_ret (res_tt (fn := Try.f19) rfl (f8.v 5 rfl rfl rfl) (f8.v 6 rfl rfl rfl)) f8.d ?_
   have HE : (.tuple #[.bool (f.c != true), .int .i64 0] : Value) = .tuple #[.bool (holF 3 f), .int .i64 (holE 3 f)] := by simp only [bang Ffk1.out, holF_3, holE_3, ccF_3, bn_f, bn_t, bn_n, Bool.not_not, Bool.true_and, Bool.and_true, Bool.false_and, Bool.and_false, Bool.or_false, Bool.false_or, Bool.true_or, Bool.or_true, Bool.not_true, Bool.not_false, if_true, if_false, Bool.false_eq_true, Bool.true_eq_false, reduceCtorEq]; try rfl
   exact ⟨retV HE, f8.b⟩
  have Ffk1 := Lib.hid fk1; clear fk1
  have b_g1_8 := f2.k b_g1
  have s3_9 := f2.q 3 u_g1
  refine go_reg [bx g1 25 (fC f)] [] [some (pt g1 0), some (.bool f.k), oT] mo f2.d f2.z f2.b (by kernel_rfl) ⟨b_g1_8, trivial⟩ (
   hk (fun cx => cx.q (ex_fa rfl (cx.rq 3 s3_9) (faFlG25_0_0 _ _))) <|
   hk (fun cx => cx.q (ex_ld rfl (cx.u 0 rfl) (cx.rn 0 rfl) rfl Try.isAgg4)) <|
   hk (fun cx => cx.v (ex_not (x := .tmp 11) rfl (cx.u 0 rfl)) rfl (congrArg Value.bool Ffk1.out)) <|
   hn) ?_
  intro a9 w9 f9
  refine wp_cond_true (f9.v 2 rfl rfl rfl) ?_
  refine wp_seq ?_
  refine go_reg [] [] [oF, some (.int .i64 20)] mo f9.d f9.z f9.b (by kernel_rfl) trivial (
   hk (fun cx => cx.q (ex_as rfl rfl)) <|
   hk (fun cx => cx.q (ex_as rfl rfl)) <|
   hn) ?_
  intro a10 w10 f10
  refine wp_ret ?_
  try simp only [Exit.inBlock, Exit.then]
  refine bodyPost_ret (res_tt (fn := Try.f19) rfl (f10.v 0 rfl rfl rfl) (f10.v 1 rfl rfl rfl)) f10.d ?_
  have HE : (.tuple #[.bool false, .int .i64 20] : Value) = .tuple #[.bool (holF 3 f), .int .i64 (holE 3 f)] := by simp only [bang Ffk1.out, holF_3, holE_3, ccF_3, bn_f, bn_t, bn_n, Bool.not_not, Bool.true_and, Bool.and_true, Bool.false_and, Bool.and_false, Bool.or_false, Bool.false_or, Bool.true_or, Bool.or_true, Bool.not_true, Bool.not_false, if_true, if_false, Bool.false_eq_true, Bool.true_eq_false, reduceCtorEq]; try rfl
  exact ⟨retV HE, f10.b⟩

set_option maxHeartbeats 4000000 in
theorem qhol_4 (f : Fl) (W : World) : Calls Try.prog 19 #[.int .i8 4, .agg (fC f)] W fun e w' => e = .returned (.tuple #[.bool (holF 4 f), .int .i64 (holE 4 f)]) ∧ Below W.heap.size W w' := by
  refine calls_abs Try.func19 rfl (Nat.le_of_ble_eq_true rfl) ?_
  intro a0 d0 z0 h0
  replace z0 : a0.tmps.size = 52 := z0
  have s0_0 : a0.tmps.getD 0 undef = .int .i8 4 := h0 0 (Nat.le_of_ble_eq_true rfl)
  have s1_0 : a0.tmps.getD 1 undef = .agg (fC f) := h0 1 (Nat.le_of_ble_eq_true rfl)
  refine wp_seq ?_
  refine go_reg [] [⟨0, 3, 25, (fC f), none, #[]⟩] [none, oF, some (.int .i64 0)] mo d0 z0 (Below.refl _ _) (by kernel_rfl) trivial (
   hk (fun cx => cx.al (wn rfl) 0 rfl (ex_box rfl (cx.rq 1 s1_0) rfl) rfl rfl rfl rfl rfl trivial) <|
   hk (fun cx => cx.q (ex_as rfl rfl)) <|
   hk (fun cx => cx.q (ex_as rfl rfl)) <|
   hn) ?_
  intro a1 w1 f1
  obtain ⟨g1, u_g1, q_g1, b_g1⟩ := f1.al.1
  refine wp_seq ?_
  refine wp_seq ?_
  have s0_1 := f1.q 0 s0_0
  refine go_reg [] [] [some (.int .i8 4), oT, oF] mo f1.d f1.z f1.b (by kernel_rfl) trivial (
   hk (fun cx => cx.q (ex_mv rfl (cx.rq 0 s0_1))) <|
   hc (fun _ _ wx cx => cx.c rfl (args1 (cx.u 0 rfl)) Try.func23 (by decide +kernel) (((qmay_4 wx).mono (by rintro e w' ⟨rfl, rfl⟩; exact ⟨rfl, Below.refl _ _⟩))) rfl rfl) <|
   hk (fun cx => cx.q (ex_not (x := .tmp 8) rfl (cx.u 0 rfl))) <|
   hn) ?_
  intro a2 w2 f2
  refine wp_cond_false (f2.v 2 rfl rfl rfl) ?_
  refine wp_skip ?_
  refine wp_seq ?_
  refine wp_seq ?_
  cases fk1 : !f.k
  case false =>
   have Ffk1 := Lib.hid fk1; clear fk1
   have b_g1_2 := f2.k b_g1
   have s3_3 := f2.q 3 u_g1
   refine go_reg [bx g1 25 (fC f)] [] [some (pt g1 0), some (.bool f.k), oF] mo f2.d f2.z f2.b (by kernel_rfl) ⟨b_g1_2, trivial⟩ (
    hk (fun cx => cx.q (ex_fa rfl (cx.rq 3 s3_3) (faFlG25_0_0 _ _))) <|
    hk (fun cx => cx.q (ex_ld rfl (cx.u 0 rfl) (cx.rn 0 rfl) rfl Try.isAgg4)) <|
    hk (fun cx => cx.v (ex_not (x := .tmp 11) rfl (cx.u 0 rfl)) rfl (congrArg Value.bool Ffk1.out)) <|
    hn) ?_
   intro a3 w3 f3
   refine wp_cond_false (f3.v 2 rfl rfl rfl) ?_
   refine wp_skip ?_
   refine wp_seq ?_
   refine go_reg [] [] [oF] mo f3.d f3.z f3.b (by kernel_rfl) trivial (
    hk (fun cx => cx.q (ex_as rfl rfl)) <|
    hn) ?_
   intro a4 w4 f4
   refine wp_seq ?_
   refine wp_seq ?_
   have s0_4 := f4.q 0 (f3.q 0 (f2.q 0 s0_1))
   refine go_reg [] [] [some (.int .i8 4), some (.int .i8 4)] mo f4.d f4.z f4.b (by kernel_rfl) trivial (
    hk (fun cx => cx.q (ex_mv rfl (cx.rq 0 s0_4))) <|
    hk (fun cx => cx.v (ex_an (x := .tmp 13) rfl (cx.u 0 rfl) rfl) rfl (congrArg (Value.int .i8) (by decide +kernel))) <|
    hn) ?_
   intro a5 w5 f5
   refine wp_block ?_
   refine wp_seq ?_
   refine go_reg [] [] [oF, oF] mo f5.d f5.z f5.b (by kernel_rfl) trivial (
    hk (fun cx => cx.v (ex_eq (x := .tmp 14) rfl (cx.rq 14 (f5.v 1 rfl rfl rfl)) rfl) rfl (congrArg Value.bool (by decide))) <|
    kmu 0 <|
    hn) ?_
   intro a6 w6 f6
   refine wp_cond_false (f6.v 1 rfl rfl rfl) ?_
   refine wp_seq ?_
   have s14_5 := f6.q 14 (f5.v 1 rfl rfl rfl)
   refine go_reg [] [] [oT, oT] mo f6.d f6.z f6.b (by kernel_rfl) trivial (
    hk (fun cx => cx.v (ex_eq (x := .tmp 14) rfl (cx.rq 14 s14_5) rfl) rfl (congrArg Value.bool (by decide))) <|
    kmu 0 <|
    hn) ?_
   intro a7 w7 f7
   refine wp_cond_true (f7.v 1 rfl rfl rfl) ?_
   have b_g1_6 := f7.k (f6.k (f5.k (f4.k (f3.k b_g1_2))))
   have s3_7 := f7.q 3 (f6.q 3 (f5.q 3 (f4.q 3 (f3.q 3 s3_3))))
   refine go_reg [bx g1 25 (fC f)] [] [some (pt g1 2), some (.bool f.z), some (.bool f.z)] mo f7.d f7.z f7.b (by kernel_rfl) ⟨b_g1_6, trivial⟩ (
    hk (fun cx => cx.q (ex_fa rfl (cx.rq 3 s3_7) (faFlG25_2_0 _ _))) <|
    hk (fun cx => cx.q (ex_ld rfl (cx.u 0 rfl) (cx.rn 0 rfl) rfl Try.isAgg4)) <|
    kmu 0 <|
    hn) ?_
   intro a8 w8 f8
   refine wp_seq ?_
   have s0_8 := f8.q 0 (f7.q 0 (f6.q 0 (f5.q 0 s0_4)))
   refine go_reg [] [] [some (.bool f.z), some (.int .i8 4), some (.int .i8 0), oF, some (.bool (f.z != false)), some (.bool (f.z != false)), some (.int .i64 0)] mo f8.d f8.z f8.b (by kernel_rfl) trivial (
    hk (fun cx => cx.q (ex_mv rfl (cx.rq 6 (f8.v 2 rfl rfl rfl)))) <|
    hk (fun cx => cx.q (ex_mv rfl (cx.rq 0 s0_8))) <|
    hk (fun cx => cx.v (ex_and (x := .tmp 48) rfl (cx.u 0 rfl) rfl) rfl (congrArg (Value.int .i8) (by decide +kernel))) <|
    hk (fun cx => cx.v (ex_eq (x := .tmp 49) rfl (cx.u 0 rfl) rfl) rfl (congrArg Value.bool (by decide))) <|
    hk (fun cx => cx.q (ex_bne (x := .tmp 47) (y := .tmp 50) rfl (cx.u 0 rfl) (cx.u 1 rfl))) <|
    kmu 0 <|
    hk (fun cx => cx.q (ex_as rfl rfl)) <|
    hn) ?_
   intro a9 w9 f9
   refine wp_ret ?_
   try simp only [Exit.inBlock, Exit.then]
   refine bodyPost_ret (res_tt (fn := Try.f19) rfl (f9.v 5 rfl rfl rfl) (f9.v 6 rfl rfl rfl)) f9.d ?_
   have HE : (.tuple #[.bool (f.z != false), .int .i64 0] : Value) = .tuple #[.bool (holF 4 f), .int .i64 (holE 4 f)] := by simp only [bang Ffk1.out, holF_4, holE_4, ccF_4, bn_f, bn_t, bn_n, Bool.not_not, Bool.true_and, Bool.and_true, Bool.false_and, Bool.and_false, Bool.or_false, Bool.false_or, Bool.true_or, Bool.or_true, Bool.not_true, Bool.not_false, if_true, if_false, Bool.false_eq_true, Bool.true_eq_false, reduceCtorEq]; try rfl
   exact ⟨retV HE, f9.b⟩
  have Ffk1 := Lib.hid fk1; clear fk1
  have b_g1_9 := f2.k b_g1
  have s3_10 := f2.q 3 u_g1
  refine go_reg [bx g1 25 (fC f)] [] [some (pt g1 0), some (.bool f.k), oT] mo f2.d f2.z f2.b (by kernel_rfl) ⟨b_g1_9, trivial⟩ (
   hk (fun cx => cx.q (ex_fa rfl (cx.rq 3 s3_10) (faFlG25_0_0 _ _))) <|
   hk (fun cx => cx.q (ex_ld rfl (cx.u 0 rfl) (cx.rn 0 rfl) rfl Try.isAgg4)) <|
   hk (fun cx => cx.v (ex_not (x := .tmp 11) rfl (cx.u 0 rfl)) rfl (congrArg Value.bool Ffk1.out)) <|
   hn) ?_
  intro a10 w10 f10
  refine wp_cond_true (f10.v 2 rfl rfl rfl) ?_
  refine wp_seq ?_
  refine go_reg [] [] [oF, some (.int .i64 20)] mo f10.d f10.z f10.b (by kernel_rfl) trivial (
   hk (fun cx => cx.q (ex_as rfl rfl)) <|
   hk (fun cx => cx.q (ex_as rfl rfl)) <|
   hn) ?_
  intro a11 w11 f11
  refine wp_ret ?_
  try simp only [Exit.inBlock, Exit.then]
  refine bodyPost_ret (res_tt (fn := Try.f19) rfl (f11.v 0 rfl rfl rfl) (f11.v 1 rfl rfl rfl)) f11.d ?_
  have HE : (.tuple #[.bool false, .int .i64 20] : Value) = .tuple #[.bool (holF 4 f), .int .i64 (holE 4 f)] := by simp only [bang Ffk1.out, holF_4, holE_4, ccF_4, bn_f, bn_t, bn_n, Bool.not_not, Bool.true_and, Bool.and_true, Bool.false_and, Bool.and_false, Bool.or_false, Bool.false_or, Bool.true_or, Bool.or_true, Bool.not_true, Bool.not_false, if_true, if_false, Bool.false_eq_true, Bool.true_eq_false, reduceCtorEq]; try rfl
  exact ⟨retV HE, f11.b⟩

set_option maxHeartbeats 4000000 in
theorem qhol_5 (f : Fl) (W : World) : Calls Try.prog 19 #[.int .i8 5, .agg (fC f)] W fun e w' => e = .returned (.tuple #[.bool (holF 5 f), .int .i64 (holE 5 f)]) ∧ Below W.heap.size W w' := by
  refine calls_abs Try.func19 rfl (Nat.le_of_ble_eq_true rfl) ?_
  intro a0 d0 z0 h0
  replace z0 : a0.tmps.size = 52 := z0
  have s0_0 : a0.tmps.getD 0 undef = .int .i8 5 := h0 0 (Nat.le_of_ble_eq_true rfl)
  have s1_0 : a0.tmps.getD 1 undef = .agg (fC f) := h0 1 (Nat.le_of_ble_eq_true rfl)
  refine wp_seq ?_
  refine go_reg [] [⟨0, 3, 25, (fC f), none, #[]⟩] [none, oF, some (.int .i64 0)] mo d0 z0 (Below.refl _ _) (by kernel_rfl) trivial (
   hk (fun cx => cx.al (wn rfl) 0 rfl (ex_box rfl (cx.rq 1 s1_0) rfl) rfl rfl rfl rfl rfl trivial) <|
   hk (fun cx => cx.q (ex_as rfl rfl)) <|
   hk (fun cx => cx.q (ex_as rfl rfl)) <|
   hn) ?_
  intro a1 w1 f1
  obtain ⟨g1, u_g1, q_g1, b_g1⟩ := f1.al.1
  refine wp_seq ?_
  refine wp_seq ?_
  have s0_1 := f1.q 0 s0_0
  refine go_reg [] [] [some (.int .i8 5), oT, oF] mo f1.d f1.z f1.b (by kernel_rfl) trivial (
   hk (fun cx => cx.q (ex_mv rfl (cx.rq 0 s0_1))) <|
   hc (fun _ _ wx cx => cx.c rfl (args1 (cx.u 0 rfl)) Try.func23 (by decide +kernel) (((qmay_5 wx).mono (by rintro e w' ⟨rfl, rfl⟩; exact ⟨rfl, Below.refl _ _⟩))) rfl rfl) <|
   hk (fun cx => cx.q (ex_not (x := .tmp 8) rfl (cx.u 0 rfl))) <|
   hn) ?_
  intro a2 w2 f2
  refine wp_cond_false (f2.v 2 rfl rfl rfl) ?_
  refine wp_skip ?_
  refine wp_seq ?_
  refine wp_seq ?_
  cases fk1 : !f.k
  case false =>
   have Ffk1 := Lib.hid fk1; clear fk1
   have b_g1_2 := f2.k b_g1
   have s3_3 := f2.q 3 u_g1
   refine go_reg [bx g1 25 (fC f)] [] [some (pt g1 0), some (.bool f.k), oF] mo f2.d f2.z f2.b (by kernel_rfl) ⟨b_g1_2, trivial⟩ (
    hk (fun cx => cx.q (ex_fa rfl (cx.rq 3 s3_3) (faFlG25_0_0 _ _))) <|
    hk (fun cx => cx.q (ex_ld rfl (cx.u 0 rfl) (cx.rn 0 rfl) rfl Try.isAgg4)) <|
    hk (fun cx => cx.v (ex_not (x := .tmp 11) rfl (cx.u 0 rfl)) rfl (congrArg Value.bool Ffk1.out)) <|
    hn) ?_
   intro a3 w3 f3
   refine wp_cond_false (f3.v 2 rfl rfl rfl) ?_
   refine wp_skip ?_
   refine wp_seq ?_
   refine go_reg [] [] [oF] mo f3.d f3.z f3.b (by kernel_rfl) trivial (
    hk (fun cx => cx.q (ex_as rfl rfl)) <|
    hn) ?_
   intro a4 w4 f4
   refine wp_seq ?_
   refine wp_seq ?_
   have s0_4 := f4.q 0 (f3.q 0 (f2.q 0 s0_1))
   refine go_reg [] [] [some (.int .i8 5), some (.int .i8 4)] mo f4.d f4.z f4.b (by kernel_rfl) trivial (
    hk (fun cx => cx.q (ex_mv rfl (cx.rq 0 s0_4))) <|
    hk (fun cx => cx.v (ex_an (x := .tmp 13) rfl (cx.u 0 rfl) rfl) rfl (congrArg (Value.int .i8) (by decide +kernel))) <|
    hn) ?_
   intro a5 w5 f5
   refine wp_block ?_
   refine wp_seq ?_
   refine go_reg [] [] [oF, oF] mo f5.d f5.z f5.b (by kernel_rfl) trivial (
    hk (fun cx => cx.v (ex_eq (x := .tmp 14) rfl (cx.rq 14 (f5.v 1 rfl rfl rfl)) rfl) rfl (congrArg Value.bool (by decide))) <|
    kmu 0 <|
    hn) ?_
   intro a6 w6 f6
   refine wp_cond_false (f6.v 1 rfl rfl rfl) ?_
   refine wp_seq ?_
   have s14_5 := f6.q 14 (f5.v 1 rfl rfl rfl)
   refine go_reg [] [] [oT, oT] mo f6.d f6.z f6.b (by kernel_rfl) trivial (
    hk (fun cx => cx.v (ex_eq (x := .tmp 14) rfl (cx.rq 14 s14_5) rfl) rfl (congrArg Value.bool (by decide))) <|
    kmu 0 <|
    hn) ?_
   intro a7 w7 f7
   refine wp_cond_true (f7.v 1 rfl rfl rfl) ?_
   have b_g1_6 := f7.k (f6.k (f5.k (f4.k (f3.k b_g1_2))))
   have s3_7 := f7.q 3 (f6.q 3 (f5.q 3 (f4.q 3 (f3.q 3 s3_3))))
   refine go_reg [bx g1 25 (fC f)] [] [some (pt g1 2), some (.bool f.z), some (.bool f.z)] mo f7.d f7.z f7.b (by kernel_rfl) ⟨b_g1_6, trivial⟩ (
    hk (fun cx => cx.q (ex_fa rfl (cx.rq 3 s3_7) (faFlG25_2_0 _ _))) <|
    hk (fun cx => cx.q (ex_ld rfl (cx.u 0 rfl) (cx.rn 0 rfl) rfl Try.isAgg4)) <|
    kmu 0 <|
    hn) ?_
   intro a8 w8 f8
   refine wp_seq ?_
   have s0_8 := f8.q 0 (f7.q 0 (f6.q 0 (f5.q 0 s0_4)))
   refine go_reg [] [] [some (.bool f.z), some (.int .i8 5), some (.int .i8 1), oT, some (.bool (f.z != true)), some (.bool (f.z != true)), some (.int .i64 0)] mo f8.d f8.z f8.b (by kernel_rfl) trivial (
    hk (fun cx => cx.q (ex_mv rfl (cx.rq 6 (f8.v 2 rfl rfl rfl)))) <|
    hk (fun cx => cx.q (ex_mv rfl (cx.rq 0 s0_8))) <|
    hk (fun cx => cx.v (ex_and (x := .tmp 48) rfl (cx.u 0 rfl) rfl) rfl (congrArg (Value.int .i8) (by decide +kernel))) <|
    hk (fun cx => cx.v (ex_eq (x := .tmp 49) rfl (cx.u 0 rfl) rfl) rfl (congrArg Value.bool (by decide))) <|
    hk (fun cx => cx.q (ex_bne (x := .tmp 47) (y := .tmp 50) rfl (cx.u 0 rfl) (cx.u 1 rfl))) <|
    kmu 0 <|
    hk (fun cx => cx.q (ex_as rfl rfl)) <|
    hn) ?_
   intro a9 w9 f9
   refine wp_ret ?_
   try simp only [Exit.inBlock, Exit.then]
   refine bodyPost_ret (res_tt (fn := Try.f19) rfl (f9.v 5 rfl rfl rfl) (f9.v 6 rfl rfl rfl)) f9.d ?_
   have HE : (.tuple #[.bool (f.z != true), .int .i64 0] : Value) = .tuple #[.bool (holF 5 f), .int .i64 (holE 5 f)] := by simp only [bang Ffk1.out, holF_5, holE_5, ccF_5, bn_f, bn_t, bn_n, Bool.not_not, Bool.true_and, Bool.and_true, Bool.false_and, Bool.and_false, Bool.or_false, Bool.false_or, Bool.true_or, Bool.or_true, Bool.not_true, Bool.not_false, if_true, if_false, Bool.false_eq_true, Bool.true_eq_false, reduceCtorEq]; try rfl
   exact ⟨retV HE, f9.b⟩
  have Ffk1 := Lib.hid fk1; clear fk1
  have b_g1_9 := f2.k b_g1
  have s3_10 := f2.q 3 u_g1
  refine go_reg [bx g1 25 (fC f)] [] [some (pt g1 0), some (.bool f.k), oT] mo f2.d f2.z f2.b (by kernel_rfl) ⟨b_g1_9, trivial⟩ (
   hk (fun cx => cx.q (ex_fa rfl (cx.rq 3 s3_10) (faFlG25_0_0 _ _))) <|
   hk (fun cx => cx.q (ex_ld rfl (cx.u 0 rfl) (cx.rn 0 rfl) rfl Try.isAgg4)) <|
   hk (fun cx => cx.v (ex_not (x := .tmp 11) rfl (cx.u 0 rfl)) rfl (congrArg Value.bool Ffk1.out)) <|
   hn) ?_
  intro a10 w10 f10
  refine wp_cond_true (f10.v 2 rfl rfl rfl) ?_
  refine wp_seq ?_
  refine go_reg [] [] [oF, some (.int .i64 20)] mo f10.d f10.z f10.b (by kernel_rfl) trivial (
   hk (fun cx => cx.q (ex_as rfl rfl)) <|
   hk (fun cx => cx.q (ex_as rfl rfl)) <|
   hn) ?_
  intro a11 w11 f11
  refine wp_ret ?_
  try simp only [Exit.inBlock, Exit.then]
  refine bodyPost_ret (res_tt (fn := Try.f19) rfl (f11.v 0 rfl rfl rfl) (f11.v 1 rfl rfl rfl)) f11.d ?_
  have HE : (.tuple #[.bool false, .int .i64 20] : Value) = .tuple #[.bool (holF 5 f), .int .i64 (holE 5 f)] := by simp only [bang Ffk1.out, holF_5, holE_5, ccF_5, bn_f, bn_t, bn_n, Bool.not_not, Bool.true_and, Bool.and_true, Bool.false_and, Bool.and_false, Bool.or_false, Bool.false_or, Bool.true_or, Bool.or_true, Bool.not_true, Bool.not_false, if_true, if_false, Bool.false_eq_true, Bool.true_eq_false, reduceCtorEq]; try rfl
  exact ⟨retV HE, f11.b⟩

set_option maxHeartbeats 4000000 in
theorem qhol_6 (f : Fl) (W : World) : Calls Try.prog 19 #[.int .i8 6, .agg (fC f)] W fun e w' => e = .returned (.tuple #[.bool (holF 6 f), .int .i64 (holE 6 f)]) ∧ Below W.heap.size W w' := by
  refine calls_abs Try.func19 rfl (Nat.le_of_ble_eq_true rfl) ?_
  intro a0 d0 z0 h0
  replace z0 : a0.tmps.size = 52 := z0
  have s0_0 : a0.tmps.getD 0 undef = .int .i8 6 := h0 0 (Nat.le_of_ble_eq_true rfl)
  have s1_0 : a0.tmps.getD 1 undef = .agg (fC f) := h0 1 (Nat.le_of_ble_eq_true rfl)
  refine wp_seq ?_
  refine go_reg [] [⟨0, 3, 25, (fC f), none, #[]⟩] [none, oF, some (.int .i64 0)] mo d0 z0 (Below.refl _ _) (by kernel_rfl) trivial (
   hk (fun cx => cx.al (wn rfl) 0 rfl (ex_box rfl (cx.rq 1 s1_0) rfl) rfl rfl rfl rfl rfl trivial) <|
   hk (fun cx => cx.q (ex_as rfl rfl)) <|
   hk (fun cx => cx.q (ex_as rfl rfl)) <|
   hn) ?_
  intro a1 w1 f1
  obtain ⟨g1, u_g1, q_g1, b_g1⟩ := f1.al.1
  refine wp_seq ?_
  refine wp_seq ?_
  have s0_1 := f1.q 0 s0_0
  refine go_reg [] [] [some (.int .i8 6), oT, oF] mo f1.d f1.z f1.b (by kernel_rfl) trivial (
   hk (fun cx => cx.q (ex_mv rfl (cx.rq 0 s0_1))) <|
   hc (fun _ _ wx cx => cx.c rfl (args1 (cx.u 0 rfl)) Try.func23 (by decide +kernel) (((qmay_6 wx).mono (by rintro e w' ⟨rfl, rfl⟩; exact ⟨rfl, Below.refl _ _⟩))) rfl rfl) <|
   hk (fun cx => cx.q (ex_not (x := .tmp 8) rfl (cx.u 0 rfl))) <|
   hn) ?_
  intro a2 w2 f2
  refine wp_cond_false (f2.v 2 rfl rfl rfl) ?_
  refine wp_skip ?_
  refine wp_seq ?_
  refine wp_seq ?_
  cases fk1 : !f.k
  case false =>
   have Ffk1 := Lib.hid fk1; clear fk1
   have b_g1_2 := f2.k b_g1
   have s3_3 := f2.q 3 u_g1
   refine go_reg [bx g1 25 (fC f)] [] [some (pt g1 0), some (.bool f.k), oF] mo f2.d f2.z f2.b (by kernel_rfl) ⟨b_g1_2, trivial⟩ (
    hk (fun cx => cx.q (ex_fa rfl (cx.rq 3 s3_3) (faFlG25_0_0 _ _))) <|
    hk (fun cx => cx.q (ex_ld rfl (cx.u 0 rfl) (cx.rn 0 rfl) rfl Try.isAgg4)) <|
    hk (fun cx => cx.v (ex_not (x := .tmp 11) rfl (cx.u 0 rfl)) rfl (congrArg Value.bool Ffk1.out)) <|
    hn) ?_
   intro a3 w3 f3
   refine wp_cond_false (f3.v 2 rfl rfl rfl) ?_
   refine wp_skip ?_
   refine wp_seq ?_
   refine go_reg [] [] [oF] mo f3.d f3.z f3.b (by kernel_rfl) trivial (
    hk (fun cx => cx.q (ex_as rfl rfl)) <|
    hn) ?_
   intro a4 w4 f4
   refine wp_seq ?_
   refine wp_seq ?_
   have s0_4 := f4.q 0 (f3.q 0 (f2.q 0 s0_1))
   refine go_reg [] [] [some (.int .i8 6), some (.int .i8 6)] mo f4.d f4.z f4.b (by kernel_rfl) trivial (
    hk (fun cx => cx.q (ex_mv rfl (cx.rq 0 s0_4))) <|
    hk (fun cx => cx.v (ex_an (x := .tmp 13) rfl (cx.u 0 rfl) rfl) rfl (congrArg (Value.int .i8) (by decide +kernel))) <|
    hn) ?_
   intro a5 w5 f5
   refine wp_block ?_
   refine wp_seq ?_
   refine go_reg [] [] [oF, oF] mo f5.d f5.z f5.b (by kernel_rfl) trivial (
    hk (fun cx => cx.v (ex_eq (x := .tmp 14) rfl (cx.rq 14 (f5.v 1 rfl rfl rfl)) rfl) rfl (congrArg Value.bool (by decide))) <|
    kmu 0 <|
    hn) ?_
   intro a6 w6 f6
   refine wp_cond_false (f6.v 1 rfl rfl rfl) ?_
   refine wp_seq ?_
   have s14_5 := f6.q 14 (f5.v 1 rfl rfl rfl)
   refine go_reg [] [] [oF, oF] mo f6.d f6.z f6.b (by kernel_rfl) trivial (
    hk (fun cx => cx.v (ex_eq (x := .tmp 14) rfl (cx.rq 14 s14_5) rfl) rfl (congrArg Value.bool (by decide))) <|
    kmu 0 <|
    hn) ?_
   intro a7 w7 f7
   refine wp_cond_false (f7.v 1 rfl rfl rfl) ?_
   refine wp_seq ?_
   have s14_6 := f7.q 14 s14_5
   refine go_reg [] [] [oT, oT] mo f7.d f7.z f7.b (by kernel_rfl) trivial (
    hk (fun cx => cx.v (ex_eq (x := .tmp 14) rfl (cx.rq 14 s14_6) rfl) rfl (congrArg Value.bool (by decide))) <|
    kmu 0 <|
    hn) ?_
   intro a8 w8 f8
   refine wp_cond_true (f8.v 1 rfl rfl rfl) ?_
   cases fk2 : f.c
   case true =>
    have Ffk2 := Lib.hid fk2; clear fk2
    have b_g1_7 := f8.k (f7.k (f6.k (f5.k (f4.k (f3.k b_g1_2)))))
    have s3_8 := f8.q 3 (f7.q 3 (f6.q 3 (f5.q 3 (f4.q 3 (f3.q 3 s3_3)))))
    refine go_reg [bx g1 25 (fC f)] [] [some (pt g1 1), oT, oT, oU, oU, oT, oT] mo f8.d f8.z f8.b (by kernel_rfl) ⟨b_g1_7, trivial⟩ (
     hk (fun cx => cx.q (ex_fa rfl (cx.rq 3 s3_8) (faFlG25_1_0 _ _))) <|
     hk (fun cx => cx.v (ex_ld rfl (cx.u 0 rfl) (cx.rn 0 rfl) rfl Try.isAgg4) rfl (congrArg Value.bool Ffk2.out)) <|
     kmu 0 <|
     kno 0 <|
     kno 1 <|
     hk (fun cx => cx.q (ex_pt rfl (cx.u 0 rfl) rfl)) <|
     kmu 0 <|
     hn) ?_
    intro a9 w9 f9
    refine wp_seq ?_
    have s0_9 := f9.q 0 (f8.q 0 (f7.q 0 (f6.q 0 (f5.q 0 s0_4))))
    refine go_reg [] [] [oT, some (.int .i8 6), some (.int .i8 0), oF, oT, oT, some (.int .i64 0)] mo f9.d f9.z f9.b (by kernel_rfl) trivial (
     hk (fun cx => cx.q (ex_mv rfl (cx.rq 6 (f9.v 6 rfl rfl rfl)))) <|
     hk (fun cx => cx.q (ex_mv rfl (cx.rq 0 s0_9))) <|
     hk (fun cx => cx.v (ex_and (x := .tmp 48) rfl (cx.u 0 rfl) rfl) rfl (congrArg (Value.int .i8) (by decide +kernel))) <|
     hk (fun cx => cx.v (ex_eq (x := .tmp 49) rfl (cx.u 0 rfl) rfl) rfl (congrArg Value.bool (by decide))) <|
     hk (fun cx => cx.q (ex_bne (x := .tmp 47) (y := .tmp 50) rfl (cx.u 0 rfl) (cx.u 1 rfl))) <|
     kmu 0 <|
     hk (fun cx => cx.q (ex_as rfl rfl)) <|
     hn) ?_
    intro a10 w10 f10
    refine wp_ret ?_
    try simp only [Exit.inBlock, Exit.then]
    refine bodyPost_ret (res_tt (fn := Try.f19) rfl (f10.v 5 rfl rfl rfl) (f10.v 6 rfl rfl rfl)) f10.d ?_
    have HE : (.tuple #[.bool true, .int .i64 0] : Value) = .tuple #[.bool (holF 6 f), .int .i64 (holE 6 f)] := by simp only [bang Ffk1.out, Ffk2.out, holF_6, holE_6, ccF_6, bn_f, bn_t, bn_n, Bool.not_not, Bool.true_and, Bool.and_true, Bool.false_and, Bool.and_false, Bool.or_false, Bool.false_or, Bool.true_or, Bool.or_true, Bool.not_true, Bool.not_false, if_true, if_false, Bool.false_eq_true, Bool.true_eq_false, reduceCtorEq]; try rfl
    exact ⟨retV HE, f10.b⟩
   have Ffk2 := Lib.hid fk2; clear fk2
   have b_g1_10 := f8.k (f7.k (f6.k (f5.k (f4.k (f3.k b_g1_2)))))
   have s3_11 := f8.q 3 (f7.q 3 (f6.q 3 (f5.q 3 (f4.q 3 (f3.q 3 s3_3)))))
   refine go_reg [bx g1 25 (fC f)] [] [some (pt g1 1), oF, oF, some (pt g1 2), some (.bool f.z), some (.bool f.z), some (.bool f.z)] mo f8.d f8.z f8.b (by kernel_rfl) ⟨b_g1_10, trivial⟩ (
    hk (fun cx => cx.q (ex_fa rfl (cx.rq 3 s3_11) (faFlG25_1_0 _ _))) <|
    hk (fun cx => cx.v (ex_ld rfl (cx.u 0 rfl) (cx.rn 0 rfl) rfl Try.isAgg4) rfl (congrArg Value.bool Ffk2.out)) <|
    kmu 0 <|
    hk (fun cx => cx.vy 0 (ex_fa rfl (cx.rq 3 s3_11) (faFlG25_2_0 _ _))) <|
    hk (fun cx => cx.vy 1 (ex_ld rfl (cx.u 0 rfl) (cx.rn 0 rfl) rfl Try.isAgg4)) <|
    hk (fun cx => cx.q (ex_pf rfl (cx.u 0 rfl) (cx.u 1 rfl))) <|
    kmu 0 <|
    hn) ?_
   intro a11 w11 f11
   refine wp_seq ?_
   have s0_12 := f11.q 0 (f8.q 0 (f7.q 0 (f6.q 0 (f5.q 0 s0_4))))
   refine go_reg [] [] [some (.bool f.z), some (.int .i8 6), some (.int .i8 0), oF, some (.bool (f.z != false)), some (.bool (f.z != false)), some (.int .i64 0)] mo f11.d f11.z f11.b (by kernel_rfl) trivial (
    hk (fun cx => cx.q (ex_mv rfl (cx.rq 6 (f11.v 6 rfl rfl rfl)))) <|
    hk (fun cx => cx.q (ex_mv rfl (cx.rq 0 s0_12))) <|
    hk (fun cx => cx.v (ex_and (x := .tmp 48) rfl (cx.u 0 rfl) rfl) rfl (congrArg (Value.int .i8) (by decide +kernel))) <|
    hk (fun cx => cx.v (ex_eq (x := .tmp 49) rfl (cx.u 0 rfl) rfl) rfl (congrArg Value.bool (by decide))) <|
    hk (fun cx => cx.q (ex_bne (x := .tmp 47) (y := .tmp 50) rfl (cx.u 0 rfl) (cx.u 1 rfl))) <|
    kmu 0 <|
    hk (fun cx => cx.q (ex_as rfl rfl)) <|
    hn) ?_
   intro a12 w12 f12
   refine wp_ret ?_
   try simp only [Exit.inBlock, Exit.then]
   refine bodyPost_ret (res_tt (fn := Try.f19) rfl (f12.v 5 rfl rfl rfl) (f12.v 6 rfl rfl rfl)) f12.d ?_
   have HE : (.tuple #[.bool (f.z != false), .int .i64 0] : Value) = .tuple #[.bool (holF 6 f), .int .i64 (holE 6 f)] := by simp only [bang Ffk1.out, Ffk2.out, holF_6, holE_6, ccF_6, bn_f, bn_t, bn_n, Bool.not_not, Bool.true_and, Bool.and_true, Bool.false_and, Bool.and_false, Bool.or_false, Bool.false_or, Bool.true_or, Bool.or_true, Bool.not_true, Bool.not_false, if_true, if_false, Bool.false_eq_true, Bool.true_eq_false, reduceCtorEq]; try rfl
   exact ⟨retV HE, f12.b⟩
  have Ffk1 := Lib.hid fk1; clear fk1
  have b_g1_13 := f2.k b_g1
  have s3_14 := f2.q 3 u_g1
  refine go_reg [bx g1 25 (fC f)] [] [some (pt g1 0), some (.bool f.k), oT] mo f2.d f2.z f2.b (by kernel_rfl) ⟨b_g1_13, trivial⟩ (
   hk (fun cx => cx.q (ex_fa rfl (cx.rq 3 s3_14) (faFlG25_0_0 _ _))) <|
   hk (fun cx => cx.q (ex_ld rfl (cx.u 0 rfl) (cx.rn 0 rfl) rfl Try.isAgg4)) <|
   hk (fun cx => cx.v (ex_not (x := .tmp 11) rfl (cx.u 0 rfl)) rfl (congrArg Value.bool Ffk1.out)) <|
   hn) ?_
  intro a13 w13 f13
  refine wp_cond_true (f13.v 2 rfl rfl rfl) ?_
  refine wp_seq ?_
  refine go_reg [] [] [oF, some (.int .i64 20)] mo f13.d f13.z f13.b (by kernel_rfl) trivial (
   hk (fun cx => cx.q (ex_as rfl rfl)) <|
   hk (fun cx => cx.q (ex_as rfl rfl)) <|
   hn) ?_
  intro a14 w14 f14
  refine wp_ret ?_
  try simp only [Exit.inBlock, Exit.then]
  refine bodyPost_ret (res_tt (fn := Try.f19) rfl (f14.v 0 rfl rfl rfl) (f14.v 1 rfl rfl rfl)) f14.d ?_
  have HE : (.tuple #[.bool false, .int .i64 20] : Value) = .tuple #[.bool (holF 6 f), .int .i64 (holE 6 f)] := by simp only [bang Ffk1.out, holF_6, holE_6, ccF_6, bn_f, bn_t, bn_n, Bool.not_not, Bool.true_and, Bool.and_true, Bool.false_and, Bool.and_false, Bool.or_false, Bool.false_or, Bool.true_or, Bool.or_true, Bool.not_true, Bool.not_false, if_true, if_false, Bool.false_eq_true, Bool.true_eq_false, reduceCtorEq]; try rfl
  exact ⟨retV HE, f14.b⟩

set_option maxHeartbeats 4000000 in
theorem qhol_7 (f : Fl) (W : World) : Calls Try.prog 19 #[.int .i8 7, .agg (fC f)] W fun e w' => e = .returned (.tuple #[.bool (holF 7 f), .int .i64 (holE 7 f)]) ∧ Below W.heap.size W w' := by
  refine calls_abs Try.func19 rfl (Nat.le_of_ble_eq_true rfl) ?_
  intro a0 d0 z0 h0
  replace z0 : a0.tmps.size = 52 := z0
  have s0_0 : a0.tmps.getD 0 undef = .int .i8 7 := h0 0 (Nat.le_of_ble_eq_true rfl)
  have s1_0 : a0.tmps.getD 1 undef = .agg (fC f) := h0 1 (Nat.le_of_ble_eq_true rfl)
  refine wp_seq ?_
  refine go_reg [] [⟨0, 3, 25, (fC f), none, #[]⟩] [none, oF, some (.int .i64 0)] mo d0 z0 (Below.refl _ _) (by kernel_rfl) trivial (
   hk (fun cx => cx.al (wn rfl) 0 rfl (ex_box rfl (cx.rq 1 s1_0) rfl) rfl rfl rfl rfl rfl trivial) <|
   hk (fun cx => cx.q (ex_as rfl rfl)) <|
   hk (fun cx => cx.q (ex_as rfl rfl)) <|
   hn) ?_
  intro a1 w1 f1
  obtain ⟨g1, u_g1, q_g1, b_g1⟩ := f1.al.1
  refine wp_seq ?_
  refine wp_seq ?_
  have s0_1 := f1.q 0 s0_0
  refine go_reg [] [] [some (.int .i8 7), oT, oF] mo f1.d f1.z f1.b (by kernel_rfl) trivial (
   hk (fun cx => cx.q (ex_mv rfl (cx.rq 0 s0_1))) <|
   hc (fun _ _ wx cx => cx.c rfl (args1 (cx.u 0 rfl)) Try.func23 (by decide +kernel) (((qmay_7 wx).mono (by rintro e w' ⟨rfl, rfl⟩; exact ⟨rfl, Below.refl _ _⟩))) rfl rfl) <|
   hk (fun cx => cx.q (ex_not (x := .tmp 8) rfl (cx.u 0 rfl))) <|
   hn) ?_
  intro a2 w2 f2
  refine wp_cond_false (f2.v 2 rfl rfl rfl) ?_
  refine wp_skip ?_
  refine wp_seq ?_
  refine wp_seq ?_
  cases fk1 : !f.k
  case false =>
   have Ffk1 := Lib.hid fk1; clear fk1
   have b_g1_2 := f2.k b_g1
   have s3_3 := f2.q 3 u_g1
   refine go_reg [bx g1 25 (fC f)] [] [some (pt g1 0), some (.bool f.k), oF] mo f2.d f2.z f2.b (by kernel_rfl) ⟨b_g1_2, trivial⟩ (
    hk (fun cx => cx.q (ex_fa rfl (cx.rq 3 s3_3) (faFlG25_0_0 _ _))) <|
    hk (fun cx => cx.q (ex_ld rfl (cx.u 0 rfl) (cx.rn 0 rfl) rfl Try.isAgg4)) <|
    hk (fun cx => cx.v (ex_not (x := .tmp 11) rfl (cx.u 0 rfl)) rfl (congrArg Value.bool Ffk1.out)) <|
    hn) ?_
   intro a3 w3 f3
   refine wp_cond_false (f3.v 2 rfl rfl rfl) ?_
   refine wp_skip ?_
   refine wp_seq ?_
   refine go_reg [] [] [oF] mo f3.d f3.z f3.b (by kernel_rfl) trivial (
    hk (fun cx => cx.q (ex_as rfl rfl)) <|
    hn) ?_
   intro a4 w4 f4
   refine wp_seq ?_
   refine wp_seq ?_
   have s0_4 := f4.q 0 (f3.q 0 (f2.q 0 s0_1))
   refine go_reg [] [] [some (.int .i8 7), some (.int .i8 6)] mo f4.d f4.z f4.b (by kernel_rfl) trivial (
    hk (fun cx => cx.q (ex_mv rfl (cx.rq 0 s0_4))) <|
    hk (fun cx => cx.v (ex_an (x := .tmp 13) rfl (cx.u 0 rfl) rfl) rfl (congrArg (Value.int .i8) (by decide +kernel))) <|
    hn) ?_
   intro a5 w5 f5
   refine wp_block ?_
   refine wp_seq ?_
   refine go_reg [] [] [oF, oF] mo f5.d f5.z f5.b (by kernel_rfl) trivial (
    hk (fun cx => cx.v (ex_eq (x := .tmp 14) rfl (cx.rq 14 (f5.v 1 rfl rfl rfl)) rfl) rfl (congrArg Value.bool (by decide))) <|
    kmu 0 <|
    hn) ?_
   intro a6 w6 f6
   refine wp_cond_false (f6.v 1 rfl rfl rfl) ?_
   refine wp_seq ?_
   have s14_5 := f6.q 14 (f5.v 1 rfl rfl rfl)
   refine go_reg [] [] [oF, oF] mo f6.d f6.z f6.b (by kernel_rfl) trivial (
    hk (fun cx => cx.v (ex_eq (x := .tmp 14) rfl (cx.rq 14 s14_5) rfl) rfl (congrArg Value.bool (by decide))) <|
    kmu 0 <|
    hn) ?_
   intro a7 w7 f7
   refine wp_cond_false (f7.v 1 rfl rfl rfl) ?_
   refine wp_seq ?_
   have s14_6 := f7.q 14 s14_5
   refine go_reg [] [] [oT, oT] mo f7.d f7.z f7.b (by kernel_rfl) trivial (
    hk (fun cx => cx.v (ex_eq (x := .tmp 14) rfl (cx.rq 14 s14_6) rfl) rfl (congrArg Value.bool (by decide))) <|
    kmu 0 <|
    hn) ?_
   intro a8 w8 f8
   refine wp_cond_true (f8.v 1 rfl rfl rfl) ?_
   cases fk2 : f.c
   case true =>
    have Ffk2 := Lib.hid fk2; clear fk2
    have b_g1_7 := f8.k (f7.k (f6.k (f5.k (f4.k (f3.k b_g1_2)))))
    have s3_8 := f8.q 3 (f7.q 3 (f6.q 3 (f5.q 3 (f4.q 3 (f3.q 3 s3_3)))))
    refine go_reg [bx g1 25 (fC f)] [] [some (pt g1 1), oT, oT, oU, oU, oT, oT] mo f8.d f8.z f8.b (by kernel_rfl) ⟨b_g1_7, trivial⟩ (
     hk (fun cx => cx.q (ex_fa rfl (cx.rq 3 s3_8) (faFlG25_1_0 _ _))) <|
     hk (fun cx => cx.v (ex_ld rfl (cx.u 0 rfl) (cx.rn 0 rfl) rfl Try.isAgg4) rfl (congrArg Value.bool Ffk2.out)) <|
     kmu 0 <|
     kno 0 <|
     kno 1 <|
     hk (fun cx => cx.q (ex_pt rfl (cx.u 0 rfl) rfl)) <|
     kmu 0 <|
     hn) ?_
    intro a9 w9 f9
    refine wp_seq ?_
    have s0_9 := f9.q 0 (f8.q 0 (f7.q 0 (f6.q 0 (f5.q 0 s0_4))))
    refine go_reg [] [] [oT, some (.int .i8 7), some (.int .i8 1), oT, oF, oF, some (.int .i64 0)] mo f9.d f9.z f9.b (by kernel_rfl) trivial (
     hk (fun cx => cx.q (ex_mv rfl (cx.rq 6 (f9.v 6 rfl rfl rfl)))) <|
     hk (fun cx => cx.q (ex_mv rfl (cx.rq 0 s0_9))) <|
     hk (fun cx => cx.v (ex_and (x := .tmp 48) rfl (cx.u 0 rfl) rfl) rfl (congrArg (Value.int .i8) (by decide +kernel))) <|
     hk (fun cx => cx.v (ex_eq (x := .tmp 49) rfl (cx.u 0 rfl) rfl) rfl (congrArg Value.bool (by decide))) <|
     hk (fun cx => cx.q (ex_bne (x := .tmp 47) (y := .tmp 50) rfl (cx.u 0 rfl) (cx.u 1 rfl))) <|
     kmu 0 <|
     hk (fun cx => cx.q (ex_as rfl rfl)) <|
     hn) ?_
    intro a10 w10 f10
    refine wp_ret ?_
    try simp only [Exit.inBlock, Exit.then]
    refine bodyPost_ret (res_tt (fn := Try.f19) rfl (f10.v 5 rfl rfl rfl) (f10.v 6 rfl rfl rfl)) f10.d ?_
    have HE : (.tuple #[.bool false, .int .i64 0] : Value) = .tuple #[.bool (holF 7 f), .int .i64 (holE 7 f)] := by simp only [bang Ffk1.out, Ffk2.out, holF_7, holE_7, ccF_7, bn_f, bn_t, bn_n, Bool.not_not, Bool.true_and, Bool.and_true, Bool.false_and, Bool.and_false, Bool.or_false, Bool.false_or, Bool.true_or, Bool.or_true, Bool.not_true, Bool.not_false, if_true, if_false, Bool.false_eq_true, Bool.true_eq_false, reduceCtorEq]; try rfl
    exact ⟨retV HE, f10.b⟩
   have Ffk2 := Lib.hid fk2; clear fk2
   have b_g1_10 := f8.k (f7.k (f6.k (f5.k (f4.k (f3.k b_g1_2)))))
   have s3_11 := f8.q 3 (f7.q 3 (f6.q 3 (f5.q 3 (f4.q 3 (f3.q 3 s3_3)))))
   refine go_reg [bx g1 25 (fC f)] [] [some (pt g1 1), oF, oF, some (pt g1 2), some (.bool f.z), some (.bool f.z), some (.bool f.z)] mo f8.d f8.z f8.b (by kernel_rfl) ⟨b_g1_10, trivial⟩ (
    hk (fun cx => cx.q (ex_fa rfl (cx.rq 3 s3_11) (faFlG25_1_0 _ _))) <|
    hk (fun cx => cx.v (ex_ld rfl (cx.u 0 rfl) (cx.rn 0 rfl) rfl Try.isAgg4) rfl (congrArg Value.bool Ffk2.out)) <|
    kmu 0 <|
    hk (fun cx => cx.vy 0 (ex_fa rfl (cx.rq 3 s3_11) (faFlG25_2_0 _ _))) <|
    hk (fun cx => cx.vy 1 (ex_ld rfl (cx.u 0 rfl) (cx.rn 0 rfl) rfl Try.isAgg4)) <|
    hk (fun cx => cx.q (ex_pf rfl (cx.u 0 rfl) (cx.u 1 rfl))) <|
    kmu 0 <|
    hn) ?_
   intro a11 w11 f11
   refine wp_seq ?_
   have s0_12 := f11.q 0 (f8.q 0 (f7.q 0 (f6.q 0 (f5.q 0 s0_4))))
   refine go_reg [] [] [some (.bool f.z), some (.int .i8 7), some (.int .i8 1), oT, some (.bool (f.z != true)), some (.bool (f.z != true)), some (.int .i64 0)] mo f11.d f11.z f11.b (by kernel_rfl) trivial (
    hk (fun cx => cx.q (ex_mv rfl (cx.rq 6 (f11.v 6 rfl rfl rfl)))) <|
    hk (fun cx => cx.q (ex_mv rfl (cx.rq 0 s0_12))) <|
    hk (fun cx => cx.v (ex_and (x := .tmp 48) rfl (cx.u 0 rfl) rfl) rfl (congrArg (Value.int .i8) (by decide +kernel))) <|
    hk (fun cx => cx.v (ex_eq (x := .tmp 49) rfl (cx.u 0 rfl) rfl) rfl (congrArg Value.bool (by decide))) <|
    hk (fun cx => cx.q (ex_bne (x := .tmp 47) (y := .tmp 50) rfl (cx.u 0 rfl) (cx.u 1 rfl))) <|
    kmu 0 <|
    hk (fun cx => cx.q (ex_as rfl rfl)) <|
    hn) ?_
   intro a12 w12 f12
   refine wp_ret ?_
   try simp only [Exit.inBlock, Exit.then]
   refine bodyPost_ret (res_tt (fn := Try.f19) rfl (f12.v 5 rfl rfl rfl) (f12.v 6 rfl rfl rfl)) f12.d ?_
   have HE : (.tuple #[.bool (f.z != true), .int .i64 0] : Value) = .tuple #[.bool (holF 7 f), .int .i64 (holE 7 f)] := by simp only [bang Ffk1.out, Ffk2.out, holF_7, holE_7, ccF_7, bn_f, bn_t, bn_n, Bool.not_not, Bool.true_and, Bool.and_true, Bool.false_and, Bool.and_false, Bool.or_false, Bool.false_or, Bool.true_or, Bool.or_true, Bool.not_true, Bool.not_false, if_true, if_false, Bool.false_eq_true, Bool.true_eq_false, reduceCtorEq]; try rfl
   exact ⟨retV HE, f12.b⟩
  have Ffk1 := Lib.hid fk1; clear fk1
  have b_g1_13 := f2.k b_g1
  have s3_14 := f2.q 3 u_g1
  refine go_reg [bx g1 25 (fC f)] [] [some (pt g1 0), some (.bool f.k), oT] mo f2.d f2.z f2.b (by kernel_rfl) ⟨b_g1_13, trivial⟩ (
   hk (fun cx => cx.q (ex_fa rfl (cx.rq 3 s3_14) (faFlG25_0_0 _ _))) <|
   hk (fun cx => cx.q (ex_ld rfl (cx.u 0 rfl) (cx.rn 0 rfl) rfl Try.isAgg4)) <|
   hk (fun cx => cx.v (ex_not (x := .tmp 11) rfl (cx.u 0 rfl)) rfl (congrArg Value.bool Ffk1.out)) <|
   hn) ?_
  intro a13 w13 f13
  refine wp_cond_true (f13.v 2 rfl rfl rfl) ?_
  refine wp_seq ?_
  refine go_reg [] [] [oF, some (.int .i64 20)] mo f13.d f13.z f13.b (by kernel_rfl) trivial (
   hk (fun cx => cx.q (ex_as rfl rfl)) <|
   hk (fun cx => cx.q (ex_as rfl rfl)) <|
   hn) ?_
  intro a14 w14 f14
  refine wp_ret ?_
  try simp only [Exit.inBlock, Exit.then]
  refine bodyPost_ret (res_tt (fn := Try.f19) rfl (f14.v 0 rfl rfl rfl) (f14.v 1 rfl rfl rfl)) f14.d ?_
  have HE : (.tuple #[.bool false, .int .i64 20] : Value) = .tuple #[.bool (holF 7 f), .int .i64 (holE 7 f)] := by simp only [bang Ffk1.out, holF_7, holE_7, ccF_7, bn_f, bn_t, bn_n, Bool.not_not, Bool.true_and, Bool.and_true, Bool.false_and, Bool.and_false, Bool.or_false, Bool.false_or, Bool.true_or, Bool.or_true, Bool.not_true, Bool.not_false, if_true, if_false, Bool.false_eq_true, Bool.true_eq_false, reduceCtorEq]; try rfl
  exact ⟨retV HE, f14.b⟩

set_option maxHeartbeats 4000000 in
theorem qhol_12 (f : Fl) (W : World) : Calls Try.prog 19 #[.int .i8 12, .agg (fC f)] W fun e w' => e = .returned (.tuple #[.bool (holF 12 f), .int .i64 (holE 12 f)]) ∧ Below W.heap.size W w' := by
  refine calls_abs Try.func19 rfl (Nat.le_of_ble_eq_true rfl) ?_
  intro a0 d0 z0 h0
  replace z0 : a0.tmps.size = 52 := z0
  have s0_0 : a0.tmps.getD 0 undef = .int .i8 12 := h0 0 (Nat.le_of_ble_eq_true rfl)
  have s1_0 : a0.tmps.getD 1 undef = .agg (fC f) := h0 1 (Nat.le_of_ble_eq_true rfl)
  refine wp_seq ?_
  refine go_reg [] [⟨0, 3, 25, (fC f), none, #[]⟩] [none, oF, some (.int .i64 0)] mo d0 z0 (Below.refl _ _) (by kernel_rfl) trivial (
   hk (fun cx => cx.al (wn rfl) 0 rfl (ex_box rfl (cx.rq 1 s1_0) rfl) rfl rfl rfl rfl rfl trivial) <|
   hk (fun cx => cx.q (ex_as rfl rfl)) <|
   hk (fun cx => cx.q (ex_as rfl rfl)) <|
   hn) ?_
  intro a1 w1 f1
  obtain ⟨g1, u_g1, q_g1, b_g1⟩ := f1.al.1
  refine wp_seq ?_
  refine wp_seq ?_
  have s0_1 := f1.q 0 s0_0
  refine go_reg [] [] [some (.int .i8 12), oT, oF] mo f1.d f1.z f1.b (by kernel_rfl) trivial (
   hk (fun cx => cx.q (ex_mv rfl (cx.rq 0 s0_1))) <|
   hc (fun _ _ wx cx => cx.c rfl (args1 (cx.u 0 rfl)) Try.func23 (by decide +kernel) (((qmay_12 wx).mono (by rintro e w' ⟨rfl, rfl⟩; exact ⟨rfl, Below.refl _ _⟩))) rfl rfl) <|
   hk (fun cx => cx.q (ex_not (x := .tmp 8) rfl (cx.u 0 rfl))) <|
   hn) ?_
  intro a2 w2 f2
  refine wp_cond_false (f2.v 2 rfl rfl rfl) ?_
  refine wp_skip ?_
  refine wp_seq ?_
  refine wp_seq ?_
  cases fk1 : !f.k
  case false =>
   have Ffk1 := Lib.hid fk1; clear fk1
   have b_g1_2 := f2.k b_g1
   have s3_3 := f2.q 3 u_g1
   refine go_reg [bx g1 25 (fC f)] [] [some (pt g1 0), some (.bool f.k), oF] mo f2.d f2.z f2.b (by kernel_rfl) ⟨b_g1_2, trivial⟩ (
    hk (fun cx => cx.q (ex_fa rfl (cx.rq 3 s3_3) (faFlG25_0_0 _ _))) <|
    hk (fun cx => cx.q (ex_ld rfl (cx.u 0 rfl) (cx.rn 0 rfl) rfl Try.isAgg4)) <|
    hk (fun cx => cx.v (ex_not (x := .tmp 11) rfl (cx.u 0 rfl)) rfl (congrArg Value.bool Ffk1.out)) <|
    hn) ?_
   intro a3 w3 f3
   refine wp_cond_false (f3.v 2 rfl rfl rfl) ?_
   refine wp_skip ?_
   refine wp_seq ?_
   refine go_reg [] [] [oF] mo f3.d f3.z f3.b (by kernel_rfl) trivial (
    hk (fun cx => cx.q (ex_as rfl rfl)) <|
    hn) ?_
   intro a4 w4 f4
   refine wp_seq ?_
   refine wp_seq ?_
   have s0_4 := f4.q 0 (f3.q 0 (f2.q 0 s0_1))
   refine go_reg [] [] [some (.int .i8 12), some (.int .i8 12)] mo f4.d f4.z f4.b (by kernel_rfl) trivial (
    hk (fun cx => cx.q (ex_mv rfl (cx.rq 0 s0_4))) <|
    hk (fun cx => cx.v (ex_an (x := .tmp 13) rfl (cx.u 0 rfl) rfl) rfl (congrArg (Value.int .i8) (by decide +kernel))) <|
    hn) ?_
   intro a5 w5 f5
   refine wp_block ?_
   refine wp_seq ?_
   refine go_reg [] [] [oF, oF] mo f5.d f5.z f5.b (by kernel_rfl) trivial (
    hk (fun cx => cx.v (ex_eq (x := .tmp 14) rfl (cx.rq 14 (f5.v 1 rfl rfl rfl)) rfl) rfl (congrArg Value.bool (by decide))) <|
    kmu 0 <|
    hn) ?_
   intro a6 w6 f6
   refine wp_cond_false (f6.v 1 rfl rfl rfl) ?_
   refine wp_seq ?_
   have s14_5 := f6.q 14 (f5.v 1 rfl rfl rfl)
   refine go_reg [] [] [oF, oF] mo f6.d f6.z f6.b (by kernel_rfl) trivial (
    hk (fun cx => cx.v (ex_eq (x := .tmp 14) rfl (cx.rq 14 s14_5) rfl) rfl (congrArg Value.bool (by decide))) <|
    kmu 0 <|
    hn) ?_
   intro a7 w7 f7
   refine wp_cond_false (f7.v 1 rfl rfl rfl) ?_
   refine wp_seq ?_
   have s14_6 := f7.q 14 s14_5
   refine go_reg [] [] [oF, oF] mo f7.d f7.z f7.b (by kernel_rfl) trivial (
    hk (fun cx => cx.v (ex_eq (x := .tmp 14) rfl (cx.rq 14 s14_6) rfl) rfl (congrArg Value.bool (by decide))) <|
    kmu 0 <|
    hn) ?_
   intro a8 w8 f8
   refine wp_cond_false (f8.v 1 rfl rfl rfl) ?_
   refine wp_seq ?_
   have s14_7 := f8.q 14 s14_6
   refine go_reg [] [] [oT, oT] mo f8.d f8.z f8.b (by kernel_rfl) trivial (
    hk (fun cx => cx.v (ex_eq (x := .tmp 14) rfl (cx.rq 14 s14_7) rfl) rfl (congrArg Value.bool (by decide))) <|
    kmu 0 <|
    hn) ?_
   intro a9 w9 f9
   refine wp_cond_true (f9.v 1 rfl rfl rfl) ?_
   have b_g1_8 := f9.k (f8.k (f7.k (f6.k (f5.k (f4.k (f3.k b_g1_2))))))
   have s3_9 := f9.q 3 (f8.q 3 (f7.q 3 (f6.q 3 (f5.q 3 (f4.q 3 (f3.q 3 s3_3))))))
   refine go_reg [bx g1 25 (fC f)] [] [some (pt g1 3), some (.bool f.s), some (pt g1 4), some (.bool f.o), some (.bool (f.s != f.o)), some (.bool (f.s != f.o))] mo f9.d f9.z f9.b (by kernel_rfl) ⟨b_g1_8, trivial⟩ (
    hk (fun cx => cx.q (ex_fa rfl (cx.rq 3 s3_9) (faFlG25_3_0 _ _))) <|
    hk (fun cx => cx.q (ex_ld rfl (cx.u 0 rfl) (cx.rn 0 rfl) rfl Try.isAgg4)) <|
    hk (fun cx => cx.q (ex_fa rfl (cx.rq 3 s3_9) (faFlG25_4_0 _ _))) <|
    hk (fun cx => cx.q (ex_ld rfl (cx.u 0 rfl) (cx.rn 0 rfl) rfl Try.isAgg4)) <|
    hk (fun cx => cx.q (ex_bne (x := .tmp 43) (y := .tmp 45) rfl (cx.u 0 rfl) (cx.u 1 rfl))) <|
    kmu 0 <|
    hn) ?_
   intro a10 w10 f10
   refine wp_seq ?_
   have s0_10 := f10.q 0 (f9.q 0 (f8.q 0 (f7.q 0 (f6.q 0 (f5.q 0 s0_4)))))
   refine go_reg [] [] [some (.bool (f.s != f.o)), some (.int .i8 12), some (.int .i8 0), oF, some (.bool ((f.s != f.o) != false)), some (.bool ((f.s != f.o) != false)), some (.int .i64 0)] mo f10.d f10.z f10.b (by kernel_rfl) trivial (
    hk (fun cx => cx.q (ex_mv rfl (cx.rq 6 (f10.v 5 rfl rfl rfl)))) <|
    hk (fun cx => cx.q (ex_mv rfl (cx.rq 0 s0_10))) <|
    hk (fun cx => cx.v (ex_and (x := .tmp 48) rfl (cx.u 0 rfl) rfl) rfl (congrArg (Value.int .i8) (by decide +kernel))) <|
    hk (fun cx => cx.v (ex_eq (x := .tmp 49) rfl (cx.u 0 rfl) rfl) rfl (congrArg Value.bool (by decide))) <|
    hk (fun cx => cx.q (ex_bne (x := .tmp 47) (y := .tmp 50) rfl (cx.u 0 rfl) (cx.u 1 rfl))) <|
    kmu 0 <|
    hk (fun cx => cx.q (ex_as rfl rfl)) <|
    hn) ?_
   intro a11 w11 f11
   refine wp_ret ?_
   try simp only [Exit.inBlock, Exit.then]
   refine bodyPost_ret (res_tt (fn := Try.f19) rfl (f11.v 5 rfl rfl rfl) (f11.v 6 rfl rfl rfl)) f11.d ?_
   have HE : (.tuple #[.bool ((f.s != f.o) != false), .int .i64 0] : Value) = .tuple #[.bool (holF 12 f), .int .i64 (holE 12 f)] := by simp only [bang Ffk1.out, holF_12, holE_12, ccF_12, bn_f, bn_t, bn_n, Bool.not_not, Bool.true_and, Bool.and_true, Bool.false_and, Bool.and_false, Bool.or_false, Bool.false_or, Bool.true_or, Bool.or_true, Bool.not_true, Bool.not_false, if_true, if_false, Bool.false_eq_true, Bool.true_eq_false, reduceCtorEq]; try rfl
   exact ⟨retV HE, f11.b⟩
  have Ffk1 := Lib.hid fk1; clear fk1
  have b_g1_11 := f2.k b_g1
  have s3_12 := f2.q 3 u_g1
  refine go_reg [bx g1 25 (fC f)] [] [some (pt g1 0), some (.bool f.k), oT] mo f2.d f2.z f2.b (by kernel_rfl) ⟨b_g1_11, trivial⟩ (
   hk (fun cx => cx.q (ex_fa rfl (cx.rq 3 s3_12) (faFlG25_0_0 _ _))) <|
   hk (fun cx => cx.q (ex_ld rfl (cx.u 0 rfl) (cx.rn 0 rfl) rfl Try.isAgg4)) <|
   hk (fun cx => cx.v (ex_not (x := .tmp 11) rfl (cx.u 0 rfl)) rfl (congrArg Value.bool Ffk1.out)) <|
   hn) ?_
  intro a12 w12 f12
  refine wp_cond_true (f12.v 2 rfl rfl rfl) ?_
  refine wp_seq ?_
  refine go_reg [] [] [oF, some (.int .i64 20)] mo f12.d f12.z f12.b (by kernel_rfl) trivial (
   hk (fun cx => cx.q (ex_as rfl rfl)) <|
   hk (fun cx => cx.q (ex_as rfl rfl)) <|
   hn) ?_
  intro a13 w13 f13
  refine wp_ret ?_
  try simp only [Exit.inBlock, Exit.then]
  refine bodyPost_ret (res_tt (fn := Try.f19) rfl (f13.v 0 rfl rfl rfl) (f13.v 1 rfl rfl rfl)) f13.d ?_
  have HE : (.tuple #[.bool false, .int .i64 20] : Value) = .tuple #[.bool (holF 12 f), .int .i64 (holE 12 f)] := by simp only [bang Ffk1.out, holF_12, holE_12, ccF_12, bn_f, bn_t, bn_n, Bool.not_not, Bool.true_and, Bool.and_true, Bool.false_and, Bool.and_false, Bool.or_false, Bool.false_or, Bool.true_or, Bool.or_true, Bool.not_true, Bool.not_false, if_true, if_false, Bool.false_eq_true, Bool.true_eq_false, reduceCtorEq]; try rfl
  exact ⟨retV HE, f13.b⟩

set_option maxHeartbeats 4000000 in
theorem qhol_13 (f : Fl) (W : World) : Calls Try.prog 19 #[.int .i8 13, .agg (fC f)] W fun e w' => e = .returned (.tuple #[.bool (holF 13 f), .int .i64 (holE 13 f)]) ∧ Below W.heap.size W w' := by
  refine calls_abs Try.func19 rfl (Nat.le_of_ble_eq_true rfl) ?_
  intro a0 d0 z0 h0
  replace z0 : a0.tmps.size = 52 := z0
  have s0_0 : a0.tmps.getD 0 undef = .int .i8 13 := h0 0 (Nat.le_of_ble_eq_true rfl)
  have s1_0 : a0.tmps.getD 1 undef = .agg (fC f) := h0 1 (Nat.le_of_ble_eq_true rfl)
  refine wp_seq ?_
  refine go_reg [] [⟨0, 3, 25, (fC f), none, #[]⟩] [none, oF, some (.int .i64 0)] mo d0 z0 (Below.refl _ _) (by kernel_rfl) trivial (
   hk (fun cx => cx.al (wn rfl) 0 rfl (ex_box rfl (cx.rq 1 s1_0) rfl) rfl rfl rfl rfl rfl trivial) <|
   hk (fun cx => cx.q (ex_as rfl rfl)) <|
   hk (fun cx => cx.q (ex_as rfl rfl)) <|
   hn) ?_
  intro a1 w1 f1
  obtain ⟨g1, u_g1, q_g1, b_g1⟩ := f1.al.1
  refine wp_seq ?_
  refine wp_seq ?_
  have s0_1 := f1.q 0 s0_0
  refine go_reg [] [] [some (.int .i8 13), oT, oF] mo f1.d f1.z f1.b (by kernel_rfl) trivial (
   hk (fun cx => cx.q (ex_mv rfl (cx.rq 0 s0_1))) <|
   hc (fun _ _ wx cx => cx.c rfl (args1 (cx.u 0 rfl)) Try.func23 (by decide +kernel) (((qmay_13 wx).mono (by rintro e w' ⟨rfl, rfl⟩; exact ⟨rfl, Below.refl _ _⟩))) rfl rfl) <|
   hk (fun cx => cx.q (ex_not (x := .tmp 8) rfl (cx.u 0 rfl))) <|
   hn) ?_
  intro a2 w2 f2
  refine wp_cond_false (f2.v 2 rfl rfl rfl) ?_
  refine wp_skip ?_
  refine wp_seq ?_
  refine wp_seq ?_
  cases fk1 : !f.k
  case false =>
   have Ffk1 := Lib.hid fk1; clear fk1
   have b_g1_2 := f2.k b_g1
   have s3_3 := f2.q 3 u_g1
   refine go_reg [bx g1 25 (fC f)] [] [some (pt g1 0), some (.bool f.k), oF] mo f2.d f2.z f2.b (by kernel_rfl) ⟨b_g1_2, trivial⟩ (
    hk (fun cx => cx.q (ex_fa rfl (cx.rq 3 s3_3) (faFlG25_0_0 _ _))) <|
    hk (fun cx => cx.q (ex_ld rfl (cx.u 0 rfl) (cx.rn 0 rfl) rfl Try.isAgg4)) <|
    hk (fun cx => cx.v (ex_not (x := .tmp 11) rfl (cx.u 0 rfl)) rfl (congrArg Value.bool Ffk1.out)) <|
    hn) ?_
   intro a3 w3 f3
   refine wp_cond_false (f3.v 2 rfl rfl rfl) ?_
   refine wp_skip ?_
   refine wp_seq ?_
   refine go_reg [] [] [oF] mo f3.d f3.z f3.b (by kernel_rfl) trivial (
    hk (fun cx => cx.q (ex_as rfl rfl)) <|
    hn) ?_
   intro a4 w4 f4
   refine wp_seq ?_
   refine wp_seq ?_
   have s0_4 := f4.q 0 (f3.q 0 (f2.q 0 s0_1))
   refine go_reg [] [] [some (.int .i8 13), some (.int .i8 12)] mo f4.d f4.z f4.b (by kernel_rfl) trivial (
    hk (fun cx => cx.q (ex_mv rfl (cx.rq 0 s0_4))) <|
    hk (fun cx => cx.v (ex_an (x := .tmp 13) rfl (cx.u 0 rfl) rfl) rfl (congrArg (Value.int .i8) (by decide +kernel))) <|
    hn) ?_
   intro a5 w5 f5
   refine wp_block ?_
   refine wp_seq ?_
   refine go_reg [] [] [oF, oF] mo f5.d f5.z f5.b (by kernel_rfl) trivial (
    hk (fun cx => cx.v (ex_eq (x := .tmp 14) rfl (cx.rq 14 (f5.v 1 rfl rfl rfl)) rfl) rfl (congrArg Value.bool (by decide))) <|
    kmu 0 <|
    hn) ?_
   intro a6 w6 f6
   refine wp_cond_false (f6.v 1 rfl rfl rfl) ?_
   refine wp_seq ?_
   have s14_5 := f6.q 14 (f5.v 1 rfl rfl rfl)
   refine go_reg [] [] [oF, oF] mo f6.d f6.z f6.b (by kernel_rfl) trivial (
    hk (fun cx => cx.v (ex_eq (x := .tmp 14) rfl (cx.rq 14 s14_5) rfl) rfl (congrArg Value.bool (by decide))) <|
    kmu 0 <|
    hn) ?_
   intro a7 w7 f7
   refine wp_cond_false (f7.v 1 rfl rfl rfl) ?_
   refine wp_seq ?_
   have s14_6 := f7.q 14 s14_5
   refine go_reg [] [] [oF, oF] mo f7.d f7.z f7.b (by kernel_rfl) trivial (
    hk (fun cx => cx.v (ex_eq (x := .tmp 14) rfl (cx.rq 14 s14_6) rfl) rfl (congrArg Value.bool (by decide))) <|
    kmu 0 <|
    hn) ?_
   intro a8 w8 f8
   refine wp_cond_false (f8.v 1 rfl rfl rfl) ?_
   refine wp_seq ?_
   have s14_7 := f8.q 14 s14_6
   refine go_reg [] [] [oT, oT] mo f8.d f8.z f8.b (by kernel_rfl) trivial (
    hk (fun cx => cx.v (ex_eq (x := .tmp 14) rfl (cx.rq 14 s14_7) rfl) rfl (congrArg Value.bool (by decide))) <|
    kmu 0 <|
    hn) ?_
   intro a9 w9 f9
   refine wp_cond_true (f9.v 1 rfl rfl rfl) ?_
   have b_g1_8 := f9.k (f8.k (f7.k (f6.k (f5.k (f4.k (f3.k b_g1_2))))))
   have s3_9 := f9.q 3 (f8.q 3 (f7.q 3 (f6.q 3 (f5.q 3 (f4.q 3 (f3.q 3 s3_3))))))
   refine go_reg [bx g1 25 (fC f)] [] [some (pt g1 3), some (.bool f.s), some (pt g1 4), some (.bool f.o), some (.bool (f.s != f.o)), some (.bool (f.s != f.o))] mo f9.d f9.z f9.b (by kernel_rfl) ⟨b_g1_8, trivial⟩ (
    hk (fun cx => cx.q (ex_fa rfl (cx.rq 3 s3_9) (faFlG25_3_0 _ _))) <|
    hk (fun cx => cx.q (ex_ld rfl (cx.u 0 rfl) (cx.rn 0 rfl) rfl Try.isAgg4)) <|
    hk (fun cx => cx.q (ex_fa rfl (cx.rq 3 s3_9) (faFlG25_4_0 _ _))) <|
    hk (fun cx => cx.q (ex_ld rfl (cx.u 0 rfl) (cx.rn 0 rfl) rfl Try.isAgg4)) <|
    hk (fun cx => cx.q (ex_bne (x := .tmp 43) (y := .tmp 45) rfl (cx.u 0 rfl) (cx.u 1 rfl))) <|
    kmu 0 <|
    hn) ?_
   intro a10 w10 f10
   refine wp_seq ?_
   have s0_10 := f10.q 0 (f9.q 0 (f8.q 0 (f7.q 0 (f6.q 0 (f5.q 0 s0_4)))))
   refine go_reg [] [] [some (.bool (f.s != f.o)), some (.int .i8 13), some (.int .i8 1), oT, some (.bool ((f.s != f.o) != true)), some (.bool ((f.s != f.o) != true)), some (.int .i64 0)] mo f10.d f10.z f10.b (by kernel_rfl) trivial (
    hk (fun cx => cx.q (ex_mv rfl (cx.rq 6 (f10.v 5 rfl rfl rfl)))) <|
    hk (fun cx => cx.q (ex_mv rfl (cx.rq 0 s0_10))) <|
    hk (fun cx => cx.v (ex_and (x := .tmp 48) rfl (cx.u 0 rfl) rfl) rfl (congrArg (Value.int .i8) (by decide +kernel))) <|
    hk (fun cx => cx.v (ex_eq (x := .tmp 49) rfl (cx.u 0 rfl) rfl) rfl (congrArg Value.bool (by decide))) <|
    hk (fun cx => cx.q (ex_bne (x := .tmp 47) (y := .tmp 50) rfl (cx.u 0 rfl) (cx.u 1 rfl))) <|
    kmu 0 <|
    hk (fun cx => cx.q (ex_as rfl rfl)) <|
    hn) ?_
   intro a11 w11 f11
   refine wp_ret ?_
   try simp only [Exit.inBlock, Exit.then]
   refine bodyPost_ret (res_tt (fn := Try.f19) rfl (f11.v 5 rfl rfl rfl) (f11.v 6 rfl rfl rfl)) f11.d ?_
   have HE : (.tuple #[.bool ((f.s != f.o) != true), .int .i64 0] : Value) = .tuple #[.bool (holF 13 f), .int .i64 (holE 13 f)] := by simp only [bang Ffk1.out, holF_13, holE_13, ccF_13, bn_f, bn_t, bn_n, Bool.not_not, Bool.true_and, Bool.and_true, Bool.false_and, Bool.and_false, Bool.or_false, Bool.false_or, Bool.true_or, Bool.or_true, Bool.not_true, Bool.not_false, if_true, if_false, Bool.false_eq_true, Bool.true_eq_false, reduceCtorEq]; try rfl
   exact ⟨retV HE, f11.b⟩
  have Ffk1 := Lib.hid fk1; clear fk1
  have b_g1_11 := f2.k b_g1
  have s3_12 := f2.q 3 u_g1
  refine go_reg [bx g1 25 (fC f)] [] [some (pt g1 0), some (.bool f.k), oT] mo f2.d f2.z f2.b (by kernel_rfl) ⟨b_g1_11, trivial⟩ (
   hk (fun cx => cx.q (ex_fa rfl (cx.rq 3 s3_12) (faFlG25_0_0 _ _))) <|
   hk (fun cx => cx.q (ex_ld rfl (cx.u 0 rfl) (cx.rn 0 rfl) rfl Try.isAgg4)) <|
   hk (fun cx => cx.v (ex_not (x := .tmp 11) rfl (cx.u 0 rfl)) rfl (congrArg Value.bool Ffk1.out)) <|
   hn) ?_
  intro a12 w12 f12
  refine wp_cond_true (f12.v 2 rfl rfl rfl) ?_
  refine wp_seq ?_
  refine go_reg [] [] [oF, some (.int .i64 20)] mo f12.d f12.z f12.b (by kernel_rfl) trivial (
   hk (fun cx => cx.q (ex_as rfl rfl)) <|
   hk (fun cx => cx.q (ex_as rfl rfl)) <|
   hn) ?_
  intro a13 w13 f13
  refine wp_ret ?_
  try simp only [Exit.inBlock, Exit.then]
  refine bodyPost_ret (res_tt (fn := Try.f19) rfl (f13.v 0 rfl rfl rfl) (f13.v 1 rfl rfl rfl)) f13.d ?_
  have HE : (.tuple #[.bool false, .int .i64 20] : Value) = .tuple #[.bool (holF 13 f), .int .i64 (holE 13 f)] := by simp only [bang Ffk1.out, holF_13, holE_13, ccF_13, bn_f, bn_t, bn_n, Bool.not_not, Bool.true_and, Bool.and_true, Bool.false_and, Bool.and_false, Bool.or_false, Bool.false_or, Bool.true_or, Bool.or_true, Bool.not_true, Bool.not_false, if_true, if_false, Bool.false_eq_true, Bool.true_eq_false, reduceCtorEq]; try rfl
  exact ⟨retV HE, f13.b⟩

set_option maxHeartbeats 4000000 in
theorem qhol_14 (f : Fl) (W : World) : Calls Try.prog 19 #[.int .i8 14, .agg (fC f)] W fun e w' => e = .returned (.tuple #[.bool (holF 14 f), .int .i64 (holE 14 f)]) ∧ Below W.heap.size W w' := by
  refine calls_abs Try.func19 rfl (Nat.le_of_ble_eq_true rfl) ?_
  intro a0 d0 z0 h0
  replace z0 : a0.tmps.size = 52 := z0
  have s0_0 : a0.tmps.getD 0 undef = .int .i8 14 := h0 0 (Nat.le_of_ble_eq_true rfl)
  have s1_0 : a0.tmps.getD 1 undef = .agg (fC f) := h0 1 (Nat.le_of_ble_eq_true rfl)
  refine wp_seq ?_
  refine go_reg [] [⟨0, 3, 25, (fC f), none, #[]⟩] [none, oF, some (.int .i64 0)] mo d0 z0 (Below.refl _ _) (by kernel_rfl) trivial (
   hk (fun cx => cx.al (wn rfl) 0 rfl (ex_box rfl (cx.rq 1 s1_0) rfl) rfl rfl rfl rfl rfl trivial) <|
   hk (fun cx => cx.q (ex_as rfl rfl)) <|
   hk (fun cx => cx.q (ex_as rfl rfl)) <|
   hn) ?_
  intro a1 w1 f1
  obtain ⟨g1, u_g1, q_g1, b_g1⟩ := f1.al.1
  refine wp_seq ?_
  refine wp_seq ?_
  have s0_1 := f1.q 0 s0_0
  refine go_reg [] [] [some (.int .i8 14), oT, oF] mo f1.d f1.z f1.b (by kernel_rfl) trivial (
   hk (fun cx => cx.q (ex_mv rfl (cx.rq 0 s0_1))) <|
   hc (fun _ _ wx cx => cx.c rfl (args1 (cx.u 0 rfl)) Try.func23 (by decide +kernel) (((qmay_14 wx).mono (by rintro e w' ⟨rfl, rfl⟩; exact ⟨rfl, Below.refl _ _⟩))) rfl rfl) <|
   hk (fun cx => cx.q (ex_not (x := .tmp 8) rfl (cx.u 0 rfl))) <|
   hn) ?_
  intro a2 w2 f2
  refine wp_cond_false (f2.v 2 rfl rfl rfl) ?_
  refine wp_skip ?_
  refine wp_seq ?_
  refine wp_seq ?_
  cases fk1 : !f.k
  case false =>
   have Ffk1 := Lib.hid fk1; clear fk1
   have b_g1_2 := f2.k b_g1
   have s3_3 := f2.q 3 u_g1
   refine go_reg [bx g1 25 (fC f)] [] [some (pt g1 0), some (.bool f.k), oF] mo f2.d f2.z f2.b (by kernel_rfl) ⟨b_g1_2, trivial⟩ (
    hk (fun cx => cx.q (ex_fa rfl (cx.rq 3 s3_3) (faFlG25_0_0 _ _))) <|
    hk (fun cx => cx.q (ex_ld rfl (cx.u 0 rfl) (cx.rn 0 rfl) rfl Try.isAgg4)) <|
    hk (fun cx => cx.v (ex_not (x := .tmp 11) rfl (cx.u 0 rfl)) rfl (congrArg Value.bool Ffk1.out)) <|
    hn) ?_
   intro a3 w3 f3
   refine wp_cond_false (f3.v 2 rfl rfl rfl) ?_
   refine wp_skip ?_
   refine wp_seq ?_
   refine go_reg [] [] [oF] mo f3.d f3.z f3.b (by kernel_rfl) trivial (
    hk (fun cx => cx.q (ex_as rfl rfl)) <|
    hn) ?_
   intro a4 w4 f4
   refine wp_seq ?_
   refine wp_seq ?_
   have s0_4 := f4.q 0 (f3.q 0 (f2.q 0 s0_1))
   refine go_reg [] [] [some (.int .i8 14), some (.int .i8 14)] mo f4.d f4.z f4.b (by kernel_rfl) trivial (
    hk (fun cx => cx.q (ex_mv rfl (cx.rq 0 s0_4))) <|
    hk (fun cx => cx.v (ex_an (x := .tmp 13) rfl (cx.u 0 rfl) rfl) rfl (congrArg (Value.int .i8) (by decide +kernel))) <|
    hn) ?_
   intro a5 w5 f5
   refine wp_block ?_
   refine wp_seq ?_
   refine go_reg [] [] [oF, oF] mo f5.d f5.z f5.b (by kernel_rfl) trivial (
    hk (fun cx => cx.v (ex_eq (x := .tmp 14) rfl (cx.rq 14 (f5.v 1 rfl rfl rfl)) rfl) rfl (congrArg Value.bool (by decide))) <|
    kmu 0 <|
    hn) ?_
   intro a6 w6 f6
   refine wp_cond_false (f6.v 1 rfl rfl rfl) ?_
   refine wp_seq ?_
   have s14_5 := f6.q 14 (f5.v 1 rfl rfl rfl)
   refine go_reg [] [] [oF, oF] mo f6.d f6.z f6.b (by kernel_rfl) trivial (
    hk (fun cx => cx.v (ex_eq (x := .tmp 14) rfl (cx.rq 14 s14_5) rfl) rfl (congrArg Value.bool (by decide))) <|
    kmu 0 <|
    hn) ?_
   intro a7 w7 f7
   refine wp_cond_false (f7.v 1 rfl rfl rfl) ?_
   refine wp_seq ?_
   have s14_6 := f7.q 14 s14_5
   refine go_reg [] [] [oF, oF] mo f7.d f7.z f7.b (by kernel_rfl) trivial (
    hk (fun cx => cx.v (ex_eq (x := .tmp 14) rfl (cx.rq 14 s14_6) rfl) rfl (congrArg Value.bool (by decide))) <|
    kmu 0 <|
    hn) ?_
   intro a8 w8 f8
   refine wp_cond_false (f8.v 1 rfl rfl rfl) ?_
   refine wp_seq ?_
   have s14_7 := f8.q 14 s14_6
   refine go_reg [] [] [oF, oF] mo f8.d f8.z f8.b (by kernel_rfl) trivial (
    hk (fun cx => cx.v (ex_eq (x := .tmp 14) rfl (cx.rq 14 s14_7) rfl) rfl (congrArg Value.bool (by decide))) <|
    kmu 0 <|
    hn) ?_
   intro a9 w9 f9
   refine wp_cond_false (f9.v 1 rfl rfl rfl) ?_
   cases fk2 : f.z
   case true =>
    have Ffk2 := Lib.hid fk2; clear fk2
    have b_g1_8 := f9.k (f8.k (f7.k (f6.k (f5.k (f4.k (f3.k b_g1_2))))))
    have s3_9 := f9.q 3 (f8.q 3 (f7.q 3 (f6.q 3 (f5.q 3 (f4.q 3 (f3.q 3 s3_3))))))
    refine go_reg [bx g1 25 (fC f)] [] [some (pt g1 2), oT, oT, oU, oU, oU, oU, oU, oT, oT] mo f9.d f9.z f9.b (by kernel_rfl) ⟨b_g1_8, trivial⟩ (
     hk (fun cx => cx.q (ex_fa rfl (cx.rq 3 s3_9) (faFlG25_2_0 _ _))) <|
     hk (fun cx => cx.v (ex_ld rfl (cx.u 0 rfl) (cx.rn 0 rfl) rfl Try.isAgg4) rfl (congrArg Value.bool Ffk2.out)) <|
     kmu 0 <|
     kno 0 <|
     kno 1 <|
     kno 0 <|
     kno 1 <|
     kno 2 <|
     hk (fun cx => cx.q (ex_pt rfl (cx.u 0 rfl) rfl)) <|
     kmu 0 <|
     hn) ?_
    intro a10 w10 f10
    refine wp_seq ?_
    have s0_10 := f10.q 0 (f9.q 0 (f8.q 0 (f7.q 0 (f6.q 0 (f5.q 0 s0_4)))))
    refine go_reg [] [] [oT, some (.int .i8 14), some (.int .i8 0), oF, oT, oT, some (.int .i64 0)] mo f10.d f10.z f10.b (by kernel_rfl) trivial (
     hk (fun cx => cx.q (ex_mv rfl (cx.rq 6 (f10.v 9 rfl rfl rfl)))) <|
     hk (fun cx => cx.q (ex_mv rfl (cx.rq 0 s0_10))) <|
     hk (fun cx => cx.v (ex_and (x := .tmp 48) rfl (cx.u 0 rfl) rfl) rfl (congrArg (Value.int .i8) (by decide +kernel))) <|
     hk (fun cx => cx.v (ex_eq (x := .tmp 49) rfl (cx.u 0 rfl) rfl) rfl (congrArg Value.bool (by decide))) <|
     hk (fun cx => cx.q (ex_bne (x := .tmp 47) (y := .tmp 50) rfl (cx.u 0 rfl) (cx.u 1 rfl))) <|
     kmu 0 <|
     hk (fun cx => cx.q (ex_as rfl rfl)) <|
     hn) ?_
    intro a11 w11 f11
    refine wp_ret ?_
    try simp only [Exit.inBlock, Exit.then]
    refine bodyPost_ret (res_tt (fn := Try.f19) rfl (f11.v 5 rfl rfl rfl) (f11.v 6 rfl rfl rfl)) f11.d ?_
    have HE : (.tuple #[.bool true, .int .i64 0] : Value) = .tuple #[.bool (holF 14 f), .int .i64 (holE 14 f)] := by simp only [bang Ffk1.out, Ffk2.out, holF_14, holE_14, ccF_14, bn_f, bn_t, bn_n, Bool.not_not, Bool.true_and, Bool.and_true, Bool.false_and, Bool.and_false, Bool.or_false, Bool.false_or, Bool.true_or, Bool.or_true, Bool.not_true, Bool.not_false, if_true, if_false, Bool.false_eq_true, Bool.true_eq_false, reduceCtorEq]; try rfl
    exact ⟨retV HE, f11.b⟩
   have Ffk2 := Lib.hid fk2; clear fk2
   have b_g1_11 := f9.k (f8.k (f7.k (f6.k (f5.k (f4.k (f3.k b_g1_2))))))
   have s3_12 := f9.q 3 (f8.q 3 (f7.q 3 (f6.q 3 (f5.q 3 (f4.q 3 (f3.q 3 s3_3))))))
   refine go_reg [bx g1 25 (fC f)] [] [some (pt g1 2), oF, oF, some (pt g1 3), some (.bool f.s), some (pt g1 4), some (.bool f.o), some (.bool (f.s != f.o)), some (.bool (f.s != f.o)), some (.bool (f.s != f.o))] mo f9.d f9.z f9.b (by kernel_rfl) ⟨b_g1_11, trivial⟩ (
    hk (fun cx => cx.q (ex_fa rfl (cx.rq 3 s3_12) (faFlG25_2_0 _ _))) <|
    hk (fun cx => cx.v (ex_ld rfl (cx.u 0 rfl) (cx.rn 0 rfl) rfl Try.isAgg4) rfl (congrArg Value.bool Ffk2.out)) <|
    kmu 0 <|
    hk (fun cx => cx.vy 0 (ex_fa rfl (cx.rq 3 s3_12) (faFlG25_3_0 _ _))) <|
    hk (fun cx => cx.vy 1 (ex_ld rfl (cx.u 0 rfl) (cx.rn 0 rfl) rfl Try.isAgg4)) <|
    hk (fun cx => cx.vy 0 (ex_fa rfl (cx.rq 3 s3_12) (faFlG25_4_0 _ _))) <|
    hk (fun cx => cx.vy 1 (ex_ld rfl (cx.u 0 rfl) (cx.rn 0 rfl) rfl Try.isAgg4)) <|
    hk (fun cx => cx.vy 2 (ex_bne (x := .tmp 19) (y := .tmp 21) rfl (cx.u 0 rfl) (cx.u 1 rfl))) <|
    hk (fun cx => cx.q (ex_pf rfl (cx.u 0 rfl) (cx.u 1 rfl))) <|
    kmu 0 <|
    hn) ?_
   intro a12 w12 f12
   refine wp_seq ?_
   have s0_13 := f12.q 0 (f9.q 0 (f8.q 0 (f7.q 0 (f6.q 0 (f5.q 0 s0_4)))))
   refine go_reg [] [] [some (.bool (f.s != f.o)), some (.int .i8 14), some (.int .i8 0), oF, some (.bool ((f.s != f.o) != false)), some (.bool ((f.s != f.o) != false)), some (.int .i64 0)] mo f12.d f12.z f12.b (by kernel_rfl) trivial (
    hk (fun cx => cx.q (ex_mv rfl (cx.rq 6 (f12.v 9 rfl rfl rfl)))) <|
    hk (fun cx => cx.q (ex_mv rfl (cx.rq 0 s0_13))) <|
    hk (fun cx => cx.v (ex_and (x := .tmp 48) rfl (cx.u 0 rfl) rfl) rfl (congrArg (Value.int .i8) (by decide +kernel))) <|
    hk (fun cx => cx.v (ex_eq (x := .tmp 49) rfl (cx.u 0 rfl) rfl) rfl (congrArg Value.bool (by decide))) <|
    hk (fun cx => cx.q (ex_bne (x := .tmp 47) (y := .tmp 50) rfl (cx.u 0 rfl) (cx.u 1 rfl))) <|
    kmu 0 <|
    hk (fun cx => cx.q (ex_as rfl rfl)) <|
    hn) ?_
   intro a13 w13 f13
   refine wp_ret ?_
   try simp only [Exit.inBlock, Exit.then]
   refine bodyPost_ret (res_tt (fn := Try.f19) rfl (f13.v 5 rfl rfl rfl) (f13.v 6 rfl rfl rfl)) f13.d ?_
   have HE : (.tuple #[.bool ((f.s != f.o) != false), .int .i64 0] : Value) = .tuple #[.bool (holF 14 f), .int .i64 (holE 14 f)] := by simp only [bang Ffk1.out, Ffk2.out, holF_14, holE_14, ccF_14, bn_f, bn_t, bn_n, Bool.not_not, Bool.true_and, Bool.and_true, Bool.false_and, Bool.and_false, Bool.or_false, Bool.false_or, Bool.true_or, Bool.or_true, Bool.not_true, Bool.not_false, if_true, if_false, Bool.false_eq_true, Bool.true_eq_false, reduceCtorEq]; try rfl
   exact ⟨retV HE, f13.b⟩
  have Ffk1 := Lib.hid fk1; clear fk1
  have b_g1_14 := f2.k b_g1
  have s3_15 := f2.q 3 u_g1
  refine go_reg [bx g1 25 (fC f)] [] [some (pt g1 0), some (.bool f.k), oT] mo f2.d f2.z f2.b (by kernel_rfl) ⟨b_g1_14, trivial⟩ (
   hk (fun cx => cx.q (ex_fa rfl (cx.rq 3 s3_15) (faFlG25_0_0 _ _))) <|
   hk (fun cx => cx.q (ex_ld rfl (cx.u 0 rfl) (cx.rn 0 rfl) rfl Try.isAgg4)) <|
   hk (fun cx => cx.v (ex_not (x := .tmp 11) rfl (cx.u 0 rfl)) rfl (congrArg Value.bool Ffk1.out)) <|
   hn) ?_
  intro a14 w14 f14
  refine wp_cond_true (f14.v 2 rfl rfl rfl) ?_
  refine wp_seq ?_
  refine go_reg [] [] [oF, some (.int .i64 20)] mo f14.d f14.z f14.b (by kernel_rfl) trivial (
   hk (fun cx => cx.q (ex_as rfl rfl)) <|
   hk (fun cx => cx.q (ex_as rfl rfl)) <|
   hn) ?_
  intro a15 w15 f15
  refine wp_ret ?_
  try simp only [Exit.inBlock, Exit.then]
  refine bodyPost_ret (res_tt (fn := Try.f19) rfl (f15.v 0 rfl rfl rfl) (f15.v 1 rfl rfl rfl)) f15.d ?_
  have HE : (.tuple #[.bool false, .int .i64 20] : Value) = .tuple #[.bool (holF 14 f), .int .i64 (holE 14 f)] := by simp only [bang Ffk1.out, holF_14, holE_14, ccF_14, bn_f, bn_t, bn_n, Bool.not_not, Bool.true_and, Bool.and_true, Bool.false_and, Bool.and_false, Bool.or_false, Bool.false_or, Bool.true_or, Bool.or_true, Bool.not_true, Bool.not_false, if_true, if_false, Bool.false_eq_true, Bool.true_eq_false, reduceCtorEq]; try rfl
  exact ⟨retV HE, f15.b⟩

set_option maxHeartbeats 4000000 in
theorem qhol_15 (f : Fl) (W : World) : Calls Try.prog 19 #[.int .i8 15, .agg (fC f)] W fun e w' => e = .returned (.tuple #[.bool (holF 15 f), .int .i64 (holE 15 f)]) ∧ Below W.heap.size W w' := by
  refine calls_abs Try.func19 rfl (Nat.le_of_ble_eq_true rfl) ?_
  intro a0 d0 z0 h0
  replace z0 : a0.tmps.size = 52 := z0
  have s0_0 : a0.tmps.getD 0 undef = .int .i8 15 := h0 0 (Nat.le_of_ble_eq_true rfl)
  have s1_0 : a0.tmps.getD 1 undef = .agg (fC f) := h0 1 (Nat.le_of_ble_eq_true rfl)
  refine wp_seq ?_
  refine go_reg [] [⟨0, 3, 25, (fC f), none, #[]⟩] [none, oF, some (.int .i64 0)] mo d0 z0 (Below.refl _ _) (by kernel_rfl) trivial (
   hk (fun cx => cx.al (wn rfl) 0 rfl (ex_box rfl (cx.rq 1 s1_0) rfl) rfl rfl rfl rfl rfl trivial) <|
   hk (fun cx => cx.q (ex_as rfl rfl)) <|
   hk (fun cx => cx.q (ex_as rfl rfl)) <|
   hn) ?_
  intro a1 w1 f1
  obtain ⟨g1, u_g1, q_g1, b_g1⟩ := f1.al.1
  refine wp_seq ?_
  refine wp_seq ?_
  have s0_1 := f1.q 0 s0_0
  refine go_reg [] [] [some (.int .i8 15), oT, oF] mo f1.d f1.z f1.b (by kernel_rfl) trivial (
   hk (fun cx => cx.q (ex_mv rfl (cx.rq 0 s0_1))) <|
   hc (fun _ _ wx cx => cx.c rfl (args1 (cx.u 0 rfl)) Try.func23 (by decide +kernel) (((qmay_15 wx).mono (by rintro e w' ⟨rfl, rfl⟩; exact ⟨rfl, Below.refl _ _⟩))) rfl rfl) <|
   hk (fun cx => cx.q (ex_not (x := .tmp 8) rfl (cx.u 0 rfl))) <|
   hn) ?_
  intro a2 w2 f2
  refine wp_cond_false (f2.v 2 rfl rfl rfl) ?_
  refine wp_skip ?_
  refine wp_seq ?_
  refine wp_seq ?_
  cases fk1 : !f.k
  case false =>
   have Ffk1 := Lib.hid fk1; clear fk1
   have b_g1_2 := f2.k b_g1
   have s3_3 := f2.q 3 u_g1
   refine go_reg [bx g1 25 (fC f)] [] [some (pt g1 0), some (.bool f.k), oF] mo f2.d f2.z f2.b (by kernel_rfl) ⟨b_g1_2, trivial⟩ (
    hk (fun cx => cx.q (ex_fa rfl (cx.rq 3 s3_3) (faFlG25_0_0 _ _))) <|
    hk (fun cx => cx.q (ex_ld rfl (cx.u 0 rfl) (cx.rn 0 rfl) rfl Try.isAgg4)) <|
    hk (fun cx => cx.v (ex_not (x := .tmp 11) rfl (cx.u 0 rfl)) rfl (congrArg Value.bool Ffk1.out)) <|
    hn) ?_
   intro a3 w3 f3
   refine wp_cond_false (f3.v 2 rfl rfl rfl) ?_
   refine wp_skip ?_
   refine wp_seq ?_
   refine go_reg [] [] [oF] mo f3.d f3.z f3.b (by kernel_rfl) trivial (
    hk (fun cx => cx.q (ex_as rfl rfl)) <|
    hn) ?_
   intro a4 w4 f4
   refine wp_seq ?_
   refine wp_seq ?_
   have s0_4 := f4.q 0 (f3.q 0 (f2.q 0 s0_1))
   refine go_reg [] [] [some (.int .i8 15), some (.int .i8 14)] mo f4.d f4.z f4.b (by kernel_rfl) trivial (
    hk (fun cx => cx.q (ex_mv rfl (cx.rq 0 s0_4))) <|
    hk (fun cx => cx.v (ex_an (x := .tmp 13) rfl (cx.u 0 rfl) rfl) rfl (congrArg (Value.int .i8) (by decide +kernel))) <|
    hn) ?_
   intro a5 w5 f5
   refine wp_block ?_
   refine wp_seq ?_
   refine go_reg [] [] [oF, oF] mo f5.d f5.z f5.b (by kernel_rfl) trivial (
    hk (fun cx => cx.v (ex_eq (x := .tmp 14) rfl (cx.rq 14 (f5.v 1 rfl rfl rfl)) rfl) rfl (congrArg Value.bool (by decide))) <|
    kmu 0 <|
    hn) ?_
   intro a6 w6 f6
   refine wp_cond_false (f6.v 1 rfl rfl rfl) ?_
   refine wp_seq ?_
   have s14_5 := f6.q 14 (f5.v 1 rfl rfl rfl)
   refine go_reg [] [] [oF, oF] mo f6.d f6.z f6.b (by kernel_rfl) trivial (
    hk (fun cx => cx.v (ex_eq (x := .tmp 14) rfl (cx.rq 14 s14_5) rfl) rfl (congrArg Value.bool (by decide))) <|
    kmu 0 <|
    hn) ?_
   intro a7 w7 f7
   refine wp_cond_false (f7.v 1 rfl rfl rfl) ?_
   refine wp_seq ?_
   have s14_6 := f7.q 14 s14_5
   refine go_reg [] [] [oF, oF] mo f7.d f7.z f7.b (by kernel_rfl) trivial (
    hk (fun cx => cx.v (ex_eq (x := .tmp 14) rfl (cx.rq 14 s14_6) rfl) rfl (congrArg Value.bool (by decide))) <|
    kmu 0 <|
    hn) ?_
   intro a8 w8 f8
   refine wp_cond_false (f8.v 1 rfl rfl rfl) ?_
   refine wp_seq ?_
   have s14_7 := f8.q 14 s14_6
   refine go_reg [] [] [oF, oF] mo f8.d f8.z f8.b (by kernel_rfl) trivial (
    hk (fun cx => cx.v (ex_eq (x := .tmp 14) rfl (cx.rq 14 s14_7) rfl) rfl (congrArg Value.bool (by decide))) <|
    kmu 0 <|
    hn) ?_
   intro a9 w9 f9
   refine wp_cond_false (f9.v 1 rfl rfl rfl) ?_
   cases fk2 : f.z
   case true =>
    have Ffk2 := Lib.hid fk2; clear fk2
    have b_g1_8 := f9.k (f8.k (f7.k (f6.k (f5.k (f4.k (f3.k b_g1_2))))))
    have s3_9 := f9.q 3 (f8.q 3 (f7.q 3 (f6.q 3 (f5.q 3 (f4.q 3 (f3.q 3 s3_3))))))
    refine go_reg [bx g1 25 (fC f)] [] [some (pt g1 2), oT, oT, oU, oU, oU, oU, oU, oT, oT] mo f9.d f9.z f9.b (by kernel_rfl) ⟨b_g1_8, trivial⟩ (
     hk (fun cx => cx.q (ex_fa rfl (cx.rq 3 s3_9) (faFlG25_2_0 _ _))) <|
     hk (fun cx => cx.v (ex_ld rfl (cx.u 0 rfl) (cx.rn 0 rfl) rfl Try.isAgg4) rfl (congrArg Value.bool Ffk2.out)) <|
     kmu 0 <|
     kno 0 <|
     kno 1 <|
     kno 0 <|
     kno 1 <|
     kno 2 <|
     hk (fun cx => cx.q (ex_pt rfl (cx.u 0 rfl) rfl)) <|
     kmu 0 <|
     hn) ?_
    intro a10 w10 f10
    refine wp_seq ?_
    have s0_10 := f10.q 0 (f9.q 0 (f8.q 0 (f7.q 0 (f6.q 0 (f5.q 0 s0_4)))))
    refine go_reg [] [] [oT, some (.int .i8 15), some (.int .i8 1), oT, oF, oF, some (.int .i64 0)] mo f10.d f10.z f10.b (by kernel_rfl) trivial (
     hk (fun cx => cx.q (ex_mv rfl (cx.rq 6 (f10.v 9 rfl rfl rfl)))) <|
     hk (fun cx => cx.q (ex_mv rfl (cx.rq 0 s0_10))) <|
     hk (fun cx => cx.v (ex_and (x := .tmp 48) rfl (cx.u 0 rfl) rfl) rfl (congrArg (Value.int .i8) (by decide +kernel))) <|
     hk (fun cx => cx.v (ex_eq (x := .tmp 49) rfl (cx.u 0 rfl) rfl) rfl (congrArg Value.bool (by decide))) <|
     hk (fun cx => cx.q (ex_bne (x := .tmp 47) (y := .tmp 50) rfl (cx.u 0 rfl) (cx.u 1 rfl))) <|
     kmu 0 <|
     hk (fun cx => cx.q (ex_as rfl rfl)) <|
     hn) ?_
    intro a11 w11 f11
    refine wp_ret ?_
    try simp only [Exit.inBlock, Exit.then]
    refine bodyPost_ret (res_tt (fn := Try.f19) rfl (f11.v 5 rfl rfl rfl) (f11.v 6 rfl rfl rfl)) f11.d ?_
    have HE : (.tuple #[.bool false, .int .i64 0] : Value) = .tuple #[.bool (holF 15 f), .int .i64 (holE 15 f)] := by simp only [bang Ffk1.out, Ffk2.out, holF_15, holE_15, ccF_15, bn_f, bn_t, bn_n, Bool.not_not, Bool.true_and, Bool.and_true, Bool.false_and, Bool.and_false, Bool.or_false, Bool.false_or, Bool.true_or, Bool.or_true, Bool.not_true, Bool.not_false, if_true, if_false, Bool.false_eq_true, Bool.true_eq_false, reduceCtorEq]; try rfl
    exact ⟨retV HE, f11.b⟩
   have Ffk2 := Lib.hid fk2; clear fk2
   have b_g1_11 := f9.k (f8.k (f7.k (f6.k (f5.k (f4.k (f3.k b_g1_2))))))
   have s3_12 := f9.q 3 (f8.q 3 (f7.q 3 (f6.q 3 (f5.q 3 (f4.q 3 (f3.q 3 s3_3))))))
   refine go_reg [bx g1 25 (fC f)] [] [some (pt g1 2), oF, oF, some (pt g1 3), some (.bool f.s), some (pt g1 4), some (.bool f.o), some (.bool (f.s != f.o)), some (.bool (f.s != f.o)), some (.bool (f.s != f.o))] mo f9.d f9.z f9.b (by kernel_rfl) ⟨b_g1_11, trivial⟩ (
    hk (fun cx => cx.q (ex_fa rfl (cx.rq 3 s3_12) (faFlG25_2_0 _ _))) <|
    hk (fun cx => cx.v (ex_ld rfl (cx.u 0 rfl) (cx.rn 0 rfl) rfl Try.isAgg4) rfl (congrArg Value.bool Ffk2.out)) <|
    kmu 0 <|
    hk (fun cx => cx.vy 0 (ex_fa rfl (cx.rq 3 s3_12) (faFlG25_3_0 _ _))) <|
    hk (fun cx => cx.vy 1 (ex_ld rfl (cx.u 0 rfl) (cx.rn 0 rfl) rfl Try.isAgg4)) <|
    hk (fun cx => cx.vy 0 (ex_fa rfl (cx.rq 3 s3_12) (faFlG25_4_0 _ _))) <|
    hk (fun cx => cx.vy 1 (ex_ld rfl (cx.u 0 rfl) (cx.rn 0 rfl) rfl Try.isAgg4)) <|
    hk (fun cx => cx.vy 2 (ex_bne (x := .tmp 19) (y := .tmp 21) rfl (cx.u 0 rfl) (cx.u 1 rfl))) <|
    hk (fun cx => cx.q (ex_pf rfl (cx.u 0 rfl) (cx.u 1 rfl))) <|
    kmu 0 <|
    hn) ?_
   intro a12 w12 f12
   refine wp_seq ?_
   have s0_13 := f12.q 0 (f9.q 0 (f8.q 0 (f7.q 0 (f6.q 0 (f5.q 0 s0_4)))))
   refine go_reg [] [] [some (.bool (f.s != f.o)), some (.int .i8 15), some (.int .i8 1), oT, some (.bool ((f.s != f.o) != true)), some (.bool ((f.s != f.o) != true)), some (.int .i64 0)] mo f12.d f12.z f12.b (by kernel_rfl) trivial (
    hk (fun cx => cx.q (ex_mv rfl (cx.rq 6 (f12.v 9 rfl rfl rfl)))) <|
    hk (fun cx => cx.q (ex_mv rfl (cx.rq 0 s0_13))) <|
    hk (fun cx => cx.v (ex_and (x := .tmp 48) rfl (cx.u 0 rfl) rfl) rfl (congrArg (Value.int .i8) (by decide +kernel))) <|
    hk (fun cx => cx.v (ex_eq (x := .tmp 49) rfl (cx.u 0 rfl) rfl) rfl (congrArg Value.bool (by decide))) <|
    hk (fun cx => cx.q (ex_bne (x := .tmp 47) (y := .tmp 50) rfl (cx.u 0 rfl) (cx.u 1 rfl))) <|
    kmu 0 <|
    hk (fun cx => cx.q (ex_as rfl rfl)) <|
    hn) ?_
   intro a13 w13 f13
   refine wp_ret ?_
   try simp only [Exit.inBlock, Exit.then]
   refine bodyPost_ret (res_tt (fn := Try.f19) rfl (f13.v 5 rfl rfl rfl) (f13.v 6 rfl rfl rfl)) f13.d ?_
   have HE : (.tuple #[.bool ((f.s != f.o) != true), .int .i64 0] : Value) = .tuple #[.bool (holF 15 f), .int .i64 (holE 15 f)] := by simp only [bang Ffk1.out, Ffk2.out, holF_15, holE_15, ccF_15, bn_f, bn_t, bn_n, Bool.not_not, Bool.true_and, Bool.and_true, Bool.false_and, Bool.and_false, Bool.or_false, Bool.false_or, Bool.true_or, Bool.or_true, Bool.not_true, Bool.not_false, if_true, if_false, Bool.false_eq_true, Bool.true_eq_false, reduceCtorEq]; try rfl
   exact ⟨retV HE, f13.b⟩
  have Ffk1 := Lib.hid fk1; clear fk1
  have b_g1_14 := f2.k b_g1
  have s3_15 := f2.q 3 u_g1
  refine go_reg [bx g1 25 (fC f)] [] [some (pt g1 0), some (.bool f.k), oT] mo f2.d f2.z f2.b (by kernel_rfl) ⟨b_g1_14, trivial⟩ (
   hk (fun cx => cx.q (ex_fa rfl (cx.rq 3 s3_15) (faFlG25_0_0 _ _))) <|
   hk (fun cx => cx.q (ex_ld rfl (cx.u 0 rfl) (cx.rn 0 rfl) rfl Try.isAgg4)) <|
   hk (fun cx => cx.v (ex_not (x := .tmp 11) rfl (cx.u 0 rfl)) rfl (congrArg Value.bool Ffk1.out)) <|
   hn) ?_
  intro a14 w14 f14
  refine wp_cond_true (f14.v 2 rfl rfl rfl) ?_
  refine wp_seq ?_
  refine go_reg [] [] [oF, some (.int .i64 20)] mo f14.d f14.z f14.b (by kernel_rfl) trivial (
   hk (fun cx => cx.q (ex_as rfl rfl)) <|
   hk (fun cx => cx.q (ex_as rfl rfl)) <|
   hn) ?_
  intro a15 w15 f15
  refine wp_ret ?_
  try simp only [Exit.inBlock, Exit.then]
  refine bodyPost_ret (res_tt (fn := Try.f19) rfl (f15.v 0 rfl rfl rfl) (f15.v 1 rfl rfl rfl)) f15.d ?_
  have HE : (.tuple #[.bool false, .int .i64 20] : Value) = .tuple #[.bool (holF 15 f), .int .i64 (holE 15 f)] := by simp only [bang Ffk1.out, holF_15, holE_15, ccF_15, bn_f, bn_t, bn_n, Bool.not_not, Bool.true_and, Bool.and_true, Bool.false_and, Bool.and_false, Bool.or_false, Bool.false_or, Bool.true_or, Bool.or_true, Bool.not_true, Bool.not_false, if_true, if_false, Bool.false_eq_true, Bool.true_eq_false, reduceCtorEq]; try rfl
  exact ⟨retV HE, f15.b⟩
end Go.Proofs.Ytllnengcmfgmhaa.Flg
