/-
  The document's own Add, Sub, Of, as contracts. (Written by gen_fl.py.)
-/
import Derived.Test.YtllnengcmfgmhaaFlB
namespace Go.Proofs.Ytllnengcmfgmhaa.Flg
open Go Go.RowKit
set_option linter.unusedVariables false
set_option linter.unusedSimpArgs false
set_option linter.unnecessarySimpa false
set_option maxRecDepth 100000




set_option maxHeartbeats 4000000 in
theorem qnone_n  (W : World) : Calls Try.prog 16 #[] W fun e w' => e = .returned (.agg (fC zF)) ∧ Below W.heap.size W w' := by
  refine calls_abs Try.func16 rfl (Nat.le_of_ble_eq_true rfl) ?_
  intro a0 d0 z0 h0
  replace z0 : a0.tmps.size = 2 := z0
  refine wp_seq ?_
  refine go_reg [] [⟨0, 0, 25, (fC zF), none, #[]⟩] [none] mo d0 z0 (Below.refl _ _) (by kernel_rfl) trivial (
   hk (fun cx => cx.al (wn rfl) 0 rfl (al_f rfl) rfl rfl rfl rfl rfl trivial) <|
   hn) ?_
  intro a1 w1 f1
  obtain ⟨g1, u_g1, q_g1, b_g1⟩ := f1.al.1
  refine wp_seq ?_
  refine go_reg [⟨g1, 25, (fC zF), some 1, (fC zF)⟩] [] [some (.agg (fC zF)), none] mo f1.d f1.z f1.b (by kernel_rfl) ⟨b_g1, trivial⟩ (
   hk (fun cx => cx.q (ex_z5 rfl)) <|
   hk (fun cx => cx.stR (wn rfl) rfl rfl 0 rfl (cx.rq 0 u_g1) (cx.u 0 rfl) (by kernel_rfl) (Eq.refl 5) (by simp [Value.oneCell']) q_g1 rfl trivial trivial) <|
   hn) ?_
  intro a2 w2 f2
  refine wp_ret ?_
  have s0_1 := f2.q 0 u_g1
  try simp only [Exit.inBlock, Exit.then]
  refine bodyPost_ret (res_c (fn := Try.f16) rfl s0_1 (load_row 25 f2.rows.1 Try.underlying25 rfl (by kernel_rfl))) f2.d ?_
  exact ⟨rfl, f2.b⟩

set_option maxHeartbeats 4000000 in
theorem made_n (w v : Int) (c o : Bool) (W : World) (hl : longB w = true) (hv : 0 ≤ v ∧ v < 18446744073709551616) : Calls Try.prog 32 #[.int .i8 w, .int .u64 v, .bool c, .bool o] W fun e w' => e = .returned (.agg (fC (aftF w (cutI v w) c o))) ∧ Below W.heap.size W w' := by
  refine calls_abs Try.func32 rfl (Nat.le_of_ble_eq_true rfl) ?_
  intro a0 d0 z0 h0
  replace z0 : a0.tmps.size = 20 := z0
  have s0_0 : a0.tmps.getD 0 undef = .int .i8 w := h0 0 (Nat.le_of_ble_eq_true rfl)
  have s1_0 : a0.tmps.getD 1 undef = .int .u64 v := h0 1 (Nat.le_of_ble_eq_true rfl)
  have s2_0 : a0.tmps.getD 2 undef = .bool c := h0 2 (Nat.le_of_ble_eq_true rfl)
  have s3_0 : a0.tmps.getD 3 undef = .bool o := h0 3 (Nat.le_of_ble_eq_true rfl)
  refine wp_seq ?_
  refine go_reg [] [⟨0, 8, 25, (fC zF), none, #[]⟩] [none] mo d0 z0 (Below.refl _ _) (by kernel_rfl) trivial (
   hk (fun cx => cx.al (wn rfl) 0 rfl (al_f rfl) rfl rfl rfl rfl rfl trivial) <|
   hn) ?_
  intro a1 w1 f1
  obtain ⟨g1, u_g1, q_g1, b_g1⟩ := f1.al.1
  refine wp_seq ?_
  have s1_1 := f1.q 1 s1_0
  have s0_2 := f1.q 0 s0_0
  refine go_reg [] [] [some (.int .u64 v), some (.int .i8 w), some (.int .u64 (cutI v w)), some (.int .u64 (cutI v w))] mo f1.d f1.z f1.b (by kernel_rfl) trivial (
   hk (fun cx => cx.q (ex_mv rfl (cx.un 3 rfl rfl (by kernel_rfl) s1_1))) <|
   hk (fun cx => cx.q (ex_mv rfl (cx.rq 0 s0_2))) <|
   hc (fun _ _ wx cx => cx.c rfl (args2 (cx.u 0 rfl) (cx.u 1 rfl)) Try.func25 (by decide +kernel) (((refcut_any v w wx).mono (by rintro e w' ⟨rfl, rfl⟩; exact ⟨rfl, Below.refl _ _⟩))) rfl rfl) <|
   kmu 0 <|
   hn) ?_
  intro a2 w2 f2
  refine wp_seq ?_
  have b_g1_3 := f2.k b_g1
  have s2_4 := f2.q 2 (f1.q 2 s2_0)
  have s0_5 := f2.q 0 s0_2
  have s3_6 := f2.q 3 (f1.q 3 s3_0)
  have s8_7 := f2.q 8 u_g1
  refine go_reg [⟨g1, 25, (fC zF), some 8, (fC ⟨true, c, (cutI v w) == 0, negB w (cutI v w), o⟩)⟩] [] [some (.bool c), some (.int .u64 (cutI v w)), some (.bool ((cutI v w) == 0)), some (.int .u64 (cutI v w)), some (.int .i8 w), some (.bool (negB w (cutI v w))), some (.bool o), some (.agg (fC ⟨true, c, (cutI v w) == 0, negB w (cutI v w), o⟩)), none] mo f2.d f2.z f2.b (by kernel_rfl) ⟨b_g1_3, trivial⟩ (
   hk (fun cx => cx.q (ex_mv rfl (cx.rq 2 s2_4))) <|
   hk (fun cx => cx.q (ex_mv rfl (cx.rq 1 (f2.v 3 rfl rfl rfl)))) <|
   hk (fun cx => cx.q (ex_eq (x := .tmp 13) rfl (cx.u 0 rfl) rfl)) <|
   hk (fun cx => cx.q (ex_mv rfl (cx.rq 1 (f2.v 3 rfl rfl rfl)))) <|
   hk (fun cx => cx.q (ex_mv rfl (cx.rq 0 s0_5))) <|
   hc (fun _ _ wx cx => cx.c rfl (args2 (cx.u 0 rfl) (cx.u 1 rfl)) Try.func33 (by decide +kernel) (((top_n w (cutI v w) wx hl (cut_long hl v hv.1 hv.2).1 (cut_long hl v hv.1 hv.2).2.1).mono (by rintro e w' ⟨rfl, rfl⟩; exact ⟨rfl, Below.refl _ _⟩))) rfl rfl) <|
   hk (fun cx => cx.q (ex_mv rfl (cx.rq 3 s3_6))) <|
   hk (fun cx => cx.q (exec_build rfl (parts5 rfl (cx.u 0 rfl) (cx.u 1 rfl) (cx.u 2 rfl) (cx.u 3 rfl)) (by kernel_rfl))) <|
   hk (fun cx => cx.stR (wn rfl) rfl rfl 0 rfl (cx.rq 8 s8_7) (cx.u 0 rfl) (by kernel_rfl) (Eq.refl 5) (by simp [Value.oneCell']) q_g1 rfl trivial trivial) <|
   hn) ?_
  intro a3 w3 f3
  refine wp_ret ?_
  have s8_8 := f3.q 8 s8_7
  try simp only [Exit.inBlock, Exit.then]
  refine bodyPost_ret (res_c (fn := Try.f32) rfl s8_8 (load_row 25 f3.rows.1 Try.underlying25 rfl (by kernel_rfl))) f3.d ?_
  have HE : (.agg (fC ⟨true, c, (cutI v w) == 0, negB w (cutI v w), o⟩) : Value) = .agg (fC (aftF w (cutI v w) c o)) := by unfold aftF; simp only [Bool.true_and, Bool.and_true, Bool.false_and, Bool.and_false, Bool.or_false, Bool.false_or, Bool.true_or, Bool.or_true, Bool.not_true, Bool.not_false, if_true, if_false, Bool.false_eq_true, Bool.true_eq_false, reduceCtorEq]; try rfl
  exact ⟨retV HE, f3.b⟩

theorem made_c (w v : Int) (c o : Bool) (W : World) (hl : longB w = true) (h0 : 0 ≤ v) (h1 : v < 18446744073709551616) (hc : cutI v w = v) : Calls Try.prog 32 #[.int .i8 w, .int .u64 v, .bool c, .bool o] W fun e w' => e = .returned (.agg (fC (aftF w v c o))) ∧ Below W.heap.size W w' := by
  have h := made_n w v c o W hl ⟨h0, h1⟩
  rw [hc] at h
  exact h
theorem addV_is {w : Int} (h : longB w = true) (a b : Int) : cutI (IntKind.u64.wrap (cutI a w + cutI b w)) w = addV w a b := by
  unfold addV; rw [opI_0, IntKind.wrap_u64]
theorem subV_is {w : Int} (h : longB w = true) (a b : Int) : cutI (IntKind.u64.wrap (cutI a w - cutI b w)) w = subV w a b := by
  unfold subV; rw [opI_1, IntKind.wrap_u64]

set_option maxHeartbeats 4000000 in
theorem qadd_t (w a b : Int) (W : World) (ha : 0 ≤ a ∧ a < 18446744073709551616) (hb : 0 ≤ b ∧ b < 18446744073709551616) (hl : longB w = true) : Calls Try.prog 10 #[.int .i8 w, .int .u64 a, .int .u64 b] W fun e w' => e = .returned (.tuple #[.agg (fC (aftF w (addV w a b) (decide (addV w a b < cutI a w)) (overA w a b (addV w a b)))), .int .i64 0]) ∧ Below W.heap.size W w' := by
  refine calls_abs Try.func10 rfl (Nat.le_of_ble_eq_true rfl) ?_
  intro a0 d0 z0 h0
  replace z0 : a0.tmps.size = 46 := z0
  have s0_0 : a0.tmps.getD 0 undef = .int .i8 w := h0 0 (Nat.le_of_ble_eq_true rfl)
  have s1_0 : a0.tmps.getD 1 undef = .int .u64 a := h0 1 (Nat.le_of_ble_eq_true rfl)
  have s2_0 : a0.tmps.getD 2 undef = .int .u64 b := h0 2 (Nat.le_of_ble_eq_true rfl)
  refine wp_seq ?_
  refine go_reg [] [⟨0, 6, 25, (fC zF), none, #[]⟩] [none, some (.int .i64 0)] mo d0 z0 (Below.refl _ _) (by kernel_rfl) trivial (
   hk (fun cx => cx.al (wn rfl) 0 rfl (al_f rfl) rfl rfl rfl rfl rfl trivial) <|
   hk (fun cx => cx.q (ex_as rfl rfl)) <|
   hn) ?_
  intro a1 w1 f1
  obtain ⟨g1, u_g1, q_g1, b_g1⟩ := f1.al.1
  refine wp_seq ?_
  refine wp_seq ?_
  have s0_1 := f1.q 0 s0_0
  refine go_reg [] [] [some (.int .i8 w), oT, oF] mo f1.d f1.z f1.b (by kernel_rfl) trivial (
   hk (fun cx => cx.q (ex_mv rfl (cx.rq 0 s0_1))) <|
   hc (fun _ _ wx cx => cx.c rfl (args1 (cx.u 0 rfl)) Try.func31 (by decide +kernel) (((width_n w wx).mono (by rintro e w' ⟨rfl, rfl⟩; exact ⟨rfl, Below.refl _ _⟩))) rfl (congrArg Value.bool hl)) <|
   hk (fun cx => cx.q (ex_not (x := .tmp 10) rfl (cx.u 0 rfl))) <|
   hn) ?_
  intro a2 w2 f2
  refine wp_cond_false (f2.v 2 rfl rfl rfl) ?_
  refine wp_skip ?_
  refine wp_seq ?_
  have s1_2 := f2.q 1 (f1.q 1 s1_0)
  have s0_3 := f2.q 0 s0_1
  refine go_reg [] [] [some (.int .u64 a), some (.int .i8 w), some (.int .u64 (cutI a w)), some (.int .u64 (cutI a w))] mo f2.d f2.z f2.b (by kernel_rfl) trivial (
   hk (fun cx => cx.q (ex_mv rfl (cx.un 3 rfl rfl (by kernel_rfl) s1_2))) <|
   hk (fun cx => cx.q (ex_mv rfl (cx.rq 0 s0_3))) <|
   hc (fun _ _ wx cx => cx.c rfl (args2 (cx.u 0 rfl) (cx.u 1 rfl)) Try.func25 (by decide +kernel) (((refcut_any a w wx).mono (by rintro e w' ⟨rfl, rfl⟩; exact ⟨rfl, Below.refl _ _⟩))) rfl rfl) <|
   kmu 0 <|
   hn) ?_
  intro a3 w3 f3
  refine wp_seq ?_
  have s2_4 := f3.q 2 (f2.q 2 (f1.q 2 s2_0))
  have s0_5 := f3.q 0 s0_3
  refine go_reg [] [] [some (.int .u64 b), some (.int .i8 w), some (.int .u64 (cutI b w)), some (.int .u64 (cutI b w))] mo f3.d f3.z f3.b (by kernel_rfl) trivial (
   hk (fun cx => cx.q (ex_mv rfl (cx.un 3 rfl rfl (by kernel_rfl) s2_4))) <|
   hk (fun cx => cx.q (ex_mv rfl (cx.rq 0 s0_5))) <|
   hc (fun _ _ wx cx => cx.c rfl (args2 (cx.u 0 rfl) (cx.u 1 rfl)) Try.func25 (by decide +kernel) (((refcut_any b w wx).mono (by rintro e w' ⟨rfl, rfl⟩; exact ⟨rfl, Below.refl _ _⟩))) rfl rfl) <|
   kmu 0 <|
   hn) ?_
  intro a4 w4 f4
  refine wp_seq ?_
  have s1_6 := f4.q 1 (f3.v 3 rfl rfl rfl)
  have s0_7 := f4.q 0 s0_5
  refine go_reg [] [] [some (.int .u64 (cutI a w)), some (.int .u64 (cutI b w)), some (.int .u64 (IntKind.u64.wrap ((cutI a w) + (cutI b w)))), some (.int .i8 w), some (.int .u64 (addV w a b)), some (.int .u64 (addV w a b))] mo f4.d f4.z f4.b (by kernel_rfl) trivial (
   hk (fun cx => cx.q (ex_mv rfl (cx.rq 1 s1_6))) <|
   hk (fun cx => cx.q (ex_mv rfl (cx.rq 2 (f4.v 3 rfl rfl rfl)))) <|
   hk (fun cx => cx.q (ex_add (x := .tmp 19) (y := .tmp 20) rfl (cx.u 0 rfl) (cx.u 1 rfl))) <|
   hk (fun cx => cx.q (ex_mv rfl (cx.rq 0 s0_7))) <|
   hc (fun _ _ wx cx => cx.c rfl (args2 (cx.u 0 rfl) (cx.u 1 rfl)) Try.func25 (by decide +kernel) (((refcut_any (IntKind.u64.wrap ((cutI a w) + (cutI b w))) w wx).mono (by rintro e w' ⟨rfl, rfl⟩; exact ⟨rfl, Below.refl _ _⟩))) rfl (congrArg (Value.int .u64) (addV_is hl a b))) <|
   kmu 0 <|
   hn) ?_
  intro a5 w5 f5
  refine wp_seq ?_
  cases fk1 : (negB w a) == (negB w b)
  case false =>
   have Ffk1 := Lib.hid fk1; clear fk1
   have b_g1_8 := f5.k (f4.k (f3.k (f2.k b_g1)))
   have s0_9 := f5.q 0 s0_7
   have s1_10 := f5.q 1 s1_6
   have s2_11 := f5.q 2 (f4.v 3 rfl rfl rfl)
   have s6_12 := f5.q 6 (f4.q 6 (f3.q 6 (f2.q 6 u_g1)))
   refine go_reg [⟨g1, 25, (fC zF), some 22, (fC (aftF w (addV w a b) (decide ((addV w a b) < (cutI a w))) false))⟩] [] (tabs [some (.int .i8 w), some (.int .u64 (addV w a b)), some (.int .u64 (addV w a b)), some (.int .u64 (cutI a w)), some (.bool (decide ((addV w a b) < (cutI a w)))), some (.int .u64 (cutI a w)), some (.int .i8 w), some (.bool (negB w a)), some (.int .u64 (cutI b w)), some (.int .i8 w), some (.bool (negB w b)), oF, oF, oU, oU, oU, oU, oU, oU, oU] [oF, some (.agg (fC (aftF w (addV w a b) (decide ((addV w a b) < (cutI a w))) false))), none, some (.int .i64 0)]) mo f5.d f5.z f5.b (by kernel_rfl) ⟨b_g1_8, trivial⟩ (
    hk (fun cx => cx.q (ex_mv rfl (cx.rq 0 s0_9))) <|
    hk (fun cx => cx.q (ex_mv rfl (cx.rq 8 (f5.v 5 rfl rfl rfl)))) <|
    hk (fun cx => cx.q (ex_mv rfl (cx.rq 8 (f5.v 5 rfl rfl rfl)))) <|
    hk (fun cx => cx.q (ex_mv rfl (cx.rq 1 s1_10))) <|
    hk (fun cx => cx.q (ex_lt (x := .tmp 26) (y := .tmp 27) rfl (cx.u 0 rfl) (cx.u 1 rfl))) <|
    hk (fun cx => cx.q (ex_mv rfl (cx.rq 1 s1_10))) <|
    hk (fun cx => cx.q (ex_mv rfl (cx.rq 0 s0_9))) <|
    hc (fun _ _ wx cx => cx.c rfl (args2 (cx.u 0 rfl) (cx.u 1 rfl)) Try.func33 (by decide +kernel) (((top_n w (cutI a w) wx hl (cut_long hl a ha.1 ha.2).1 (cut_long hl a ha.1 ha.2).2.1).mono (by rintro e w' ⟨rfl, rfl⟩; exact ⟨rfl, Below.refl _ _⟩))) rfl (congrArg Value.bool (neg_cut hl a))) <|
    hk (fun cx => cx.q (ex_mv rfl (cx.rq 2 s2_11))) <|
    hk (fun cx => cx.q (ex_mv rfl (cx.rq 0 s0_9))) <|
    hc (fun _ _ wx cx => cx.c rfl (args2 (cx.u 0 rfl) (cx.u 1 rfl)) Try.func33 (by decide +kernel) (((top_n w (cutI b w) wx hl (cut_long hl b hb.1 hb.2).1 (cut_long hl b hb.1 hb.2).2.1).mono (by rintro e w' ⟨rfl, rfl⟩; exact ⟨rfl, Below.refl _ _⟩))) rfl (congrArg Value.bool (neg_cut hl b))) <|
    hk (fun cx => cx.v (v := .bool ((negB w a) == (negB w b))) (ex_beq (x := .tmp 31) (y := .tmp 34) rfl (cx.u 0 rfl) (cx.u 1 rfl)) rfl (congrArg Value.bool Ffk1.out)) <|
    kmu 0 <|
    kno 0 <|
    kno 0 <|
    kno 2 <|
    kno 0 <|
    kno 0 <|
    kno 3 <|
    kno 2 <|
    hk (fun cx => cx.q (ex_pf rfl (cx.u 0 rfl) rfl)) <|
    hc (fun _ _ wx cx => cx.c rfl (args4 (cx.u 0 rfl) (cx.u 1 rfl) (cx.u 2 rfl) (cx.u 3 rfl)) Try.func32 (by decide +kernel) (made_c w (addV w a b) (decide ((addV w a b) < (cutI a w))) false wx hl (addV_bd hl a b).1 (addV_bd hl a b).2.1 (addV_bd hl a b).2.2) rfl rfl) <|
    hk (fun cx => cx.stR (wn rfl) rfl rfl 0 rfl (cx.rq 6 s6_12) (cx.u 0 rfl) (by kernel_rfl) (Eq.refl 5) (by simp [Value.oneCell']) q_g1 rfl trivial trivial) <|
    hk (fun cx => cx.q (ex_as rfl rfl)) <|
    hn) ?_
   intro a6 w6 f6
   refine wp_ret ?_
   have s6_13 := f6.q 6 s6_12
   try simp only [Exit.inBlock, Exit.then]
   refine bodyPost_ret (res_ct (fn := Try.f10) rfl s6_13 (load_row 25 f6.rows.1 Try.underlying25 rfl (by kernel_rfl)) (f6.v 23 rfl rfl rfl)) f6.d ?_
   have HE : (.tuple #[.agg (fC (aftF w (addV w a b) (decide ((addV w a b) < (cutI a w))) false)), .int .i64 0] : Value) = .tuple #[.agg (fC (aftF w (addV w a b) (decide (addV w a b < cutI a w)) (overA w a b (addV w a b)))), .int .i64 0] := by unfold overA; simp only [Ffk1.out, Bool.true_and, Bool.and_true, Bool.false_and, Bool.and_false, Bool.or_false, Bool.false_or, Bool.true_or, Bool.or_true, Bool.not_true, Bool.not_false, if_true, if_false, Bool.false_eq_true, Bool.true_eq_false, reduceCtorEq]; try rfl
   exact ⟨retV HE, f6.b⟩
  have Ffk1 := Lib.hid fk1; clear fk1
  have b_g1_14 := f5.k (f4.k (f3.k (f2.k b_g1)))
  have s0_15 := f5.q 0 s0_7
  have s1_16 := f5.q 1 s1_6
  have s2_17 := f5.q 2 (f4.v 3 rfl rfl rfl)
  have s6_18 := f5.q 6 (f4.q 6 (f3.q 6 (f2.q 6 u_g1)))
  refine go_reg [⟨g1, 25, (fC zF), some 22, (fC (aftF w (addV w a b) (decide ((addV w a b) < (cutI a w))) ((negB w (addV w a b)) != (negB w a))))⟩] [] (tabs [some (.int .i8 w), some (.int .u64 (addV w a b)), some (.int .u64 (addV w a b)), some (.int .u64 (cutI a w)), some (.bool (decide ((addV w a b) < (cutI a w)))), some (.int .u64 (cutI a w)), some (.int .i8 w), some (.bool (negB w a)), some (.int .u64 (cutI b w)), some (.int .i8 w), some (.bool (negB w b)), oT, oT, some (.int .u64 (addV w a b)), some (.int .i8 w), some (.bool (negB w (addV w a b))), some (.int .u64 (cutI a w)), some (.int .i8 w), some (.bool (negB w a)), some (.bool ((negB w (addV w a b)) != (negB w a)))] [some (.bool ((negB w (addV w a b)) != (negB w a))), some (.agg (fC (aftF w (addV w a b) (decide ((addV w a b) < (cutI a w))) ((negB w (addV w a b)) != (negB w a))))), none, some (.int .i64 0)]) mo f5.d f5.z f5.b (by kernel_rfl) ⟨b_g1_14, trivial⟩ (
   hk (fun cx => cx.q (ex_mv rfl (cx.rq 0 s0_15))) <|
   hk (fun cx => cx.q (ex_mv rfl (cx.rq 8 (f5.v 5 rfl rfl rfl)))) <|
   hk (fun cx => cx.q (ex_mv rfl (cx.rq 8 (f5.v 5 rfl rfl rfl)))) <|
   hk (fun cx => cx.q (ex_mv rfl (cx.rq 1 s1_16))) <|
   hk (fun cx => cx.q (ex_lt (x := .tmp 26) (y := .tmp 27) rfl (cx.u 0 rfl) (cx.u 1 rfl))) <|
   hk (fun cx => cx.q (ex_mv rfl (cx.rq 1 s1_16))) <|
   hk (fun cx => cx.q (ex_mv rfl (cx.rq 0 s0_15))) <|
   hc (fun _ _ wx cx => cx.c rfl (args2 (cx.u 0 rfl) (cx.u 1 rfl)) Try.func33 (by decide +kernel) (((top_n w (cutI a w) wx hl (cut_long hl a ha.1 ha.2).1 (cut_long hl a ha.1 ha.2).2.1).mono (by rintro e w' ⟨rfl, rfl⟩; exact ⟨rfl, Below.refl _ _⟩))) rfl (congrArg Value.bool (neg_cut hl a))) <|
   hk (fun cx => cx.q (ex_mv rfl (cx.rq 2 s2_17))) <|
   hk (fun cx => cx.q (ex_mv rfl (cx.rq 0 s0_15))) <|
   hc (fun _ _ wx cx => cx.c rfl (args2 (cx.u 0 rfl) (cx.u 1 rfl)) Try.func33 (by decide +kernel) (((top_n w (cutI b w) wx hl (cut_long hl b hb.1 hb.2).1 (cut_long hl b hb.1 hb.2).2.1).mono (by rintro e w' ⟨rfl, rfl⟩; exact ⟨rfl, Below.refl _ _⟩))) rfl (congrArg Value.bool (neg_cut hl b))) <|
   hk (fun cx => cx.v (v := .bool ((negB w a) == (negB w b))) (ex_beq (x := .tmp 31) (y := .tmp 34) rfl (cx.u 0 rfl) (cx.u 1 rfl)) rfl (congrArg Value.bool Ffk1.out)) <|
   kmu 0 <|
   hk (fun cx => cx.vy 0 (ex_mv rfl (cx.rq 8 (f5.v 5 rfl rfl rfl)))) <|
   hk (fun cx => cx.vy 0 (ex_mv rfl (cx.rq 0 s0_15))) <|
   hc (fun _ _ wx cx => cx.call (cx.wy rfl rfl rfl rfl (cx.u 2 rfl)) rfl rfl (args2 (cx.u 0 rfl) (cx.u 1 rfl)) Try.func33 (by decide +kernel) rfl (((top_n w (addV w a b) wx hl (addV_bd hl a b).1 (addV_bd hl a b).2.1).mono (by rintro e w' ⟨rfl, rfl⟩; exact ⟨rfl, Below.refl _ _⟩))) rfl rfl rfl rfl) <|
   hk (fun cx => cx.vy 0 (ex_mv rfl (cx.rq 1 s1_16))) <|
   hk (fun cx => cx.vy 0 (ex_mv rfl (cx.rq 0 s0_15))) <|
   hc (fun _ _ wx cx => cx.call (cx.wy rfl rfl rfl rfl (cx.u 3 rfl)) rfl rfl (args2 (cx.u 0 rfl) (cx.u 1 rfl)) Try.func33 (by decide +kernel) rfl (((top_n w (cutI a w) wx hl (cut_long hl a ha.1 ha.2).1 (cut_long hl a ha.1 ha.2).2.1).mono (by rintro e w' ⟨rfl, rfl⟩; exact ⟨rfl, Below.refl _ _⟩))) rfl rfl (congrArg Value.bool (neg_cut hl a)) rfl) <|
   hk (fun cx => cx.vy 2 (ex_bne (x := .tmp 39) (y := .tmp 42) rfl (cx.u 0 rfl) (cx.u 1 rfl))) <|
   hk (fun cx => cx.q (ex_pt rfl (cx.u 0 rfl) (cx.u 1 rfl))) <|
   hc (fun _ _ wx cx => cx.c rfl (args4 (cx.u 0 rfl) (cx.u 1 rfl) (cx.u 2 rfl) (cx.u 3 rfl)) Try.func32 (by decide +kernel) (made_c w (addV w a b) (decide ((addV w a b) < (cutI a w))) ((negB w (addV w a b)) != (negB w a)) wx hl (addV_bd hl a b).1 (addV_bd hl a b).2.1 (addV_bd hl a b).2.2) rfl rfl) <|
   hk (fun cx => cx.stR (wn rfl) rfl rfl 0 rfl (cx.rq 6 s6_18) (cx.u 0 rfl) (by kernel_rfl) (Eq.refl 5) (by simp [Value.oneCell']) q_g1 rfl trivial trivial) <|
   hk (fun cx => cx.q (ex_as rfl rfl)) <|
   hn) ?_
  intro a7 w7 f7
  refine wp_ret ?_
  have s6_19 := f7.q 6 s6_18
  try simp only [Exit.inBlock, Exit.then]
  refine bodyPost_ret (res_ct (fn := Try.f10) rfl s6_19 (load_row 25 f7.rows.1 Try.underlying25 rfl (by kernel_rfl)) (f7.v 23 rfl rfl rfl)) f7.d ?_
  have HE : (.tuple #[.agg (fC (aftF w (addV w a b) (decide ((addV w a b) < (cutI a w))) ((negB w (addV w a b)) != (negB w a)))), .int .i64 0] : Value) = .tuple #[.agg (fC (aftF w (addV w a b) (decide (addV w a b < cutI a w)) (overA w a b (addV w a b)))), .int .i64 0] := by unfold overA; simp only [Ffk1.out, Bool.true_and, Bool.and_true, Bool.false_and, Bool.and_false, Bool.or_false, Bool.false_or, Bool.true_or, Bool.or_true, Bool.not_true, Bool.not_false, if_true, if_false, Bool.false_eq_true, Bool.true_eq_false, reduceCtorEq]; try rfl
  exact ⟨retV HE, f7.b⟩

set_option maxHeartbeats 4000000 in
theorem qadd_f (w a b : Int) (W : World) (ha : 0 ≤ a ∧ a < 18446744073709551616) (hb : 0 ≤ b ∧ b < 18446744073709551616) (hl : longB w = false) : Calls Try.prog 10 #[.int .i8 w, .int .u64 a, .int .u64 b] W fun e w' => e = .returned (.tuple #[.agg (fC zF), .int .i64 2]) ∧ Below W.heap.size W w' := by
  refine calls_abs Try.func10 rfl (Nat.le_of_ble_eq_true rfl) ?_
  intro a0 d0 z0 h0
  replace z0 : a0.tmps.size = 46 := z0
  have s0_0 : a0.tmps.getD 0 undef = .int .i8 w := h0 0 (Nat.le_of_ble_eq_true rfl)
  have s1_0 : a0.tmps.getD 1 undef = .int .u64 a := h0 1 (Nat.le_of_ble_eq_true rfl)
  have s2_0 : a0.tmps.getD 2 undef = .int .u64 b := h0 2 (Nat.le_of_ble_eq_true rfl)
  refine wp_seq ?_
  refine go_reg [] [⟨0, 6, 25, (fC zF), none, #[]⟩] [none, some (.int .i64 0)] mo d0 z0 (Below.refl _ _) (by kernel_rfl) trivial (
   hk (fun cx => cx.al (wn rfl) 0 rfl (al_f rfl) rfl rfl rfl rfl rfl trivial) <|
   hk (fun cx => cx.q (ex_as rfl rfl)) <|
   hn) ?_
  intro a1 w1 f1
  obtain ⟨g1, u_g1, q_g1, b_g1⟩ := f1.al.1
  refine wp_seq ?_
  refine wp_seq ?_
  have s0_1 := f1.q 0 s0_0
  refine go_reg [] [] [some (.int .i8 w), oF, oT] mo f1.d f1.z f1.b (by kernel_rfl) trivial (
   hk (fun cx => cx.q (ex_mv rfl (cx.rq 0 s0_1))) <|
   hc (fun _ _ wx cx => cx.c rfl (args1 (cx.u 0 rfl)) Try.func31 (by decide +kernel) (((width_n w wx).mono (by rintro e w' ⟨rfl, rfl⟩; exact ⟨rfl, Below.refl _ _⟩))) rfl (congrArg Value.bool hl)) <|
   hk (fun cx => cx.q (ex_not (x := .tmp 10) rfl (cx.u 0 rfl))) <|
   hn) ?_
  intro a2 w2 f2
  refine wp_cond_true (f2.v 2 rfl rfl rfl) ?_
  refine wp_seq ?_
  have b_g1_2 := f2.k b_g1
  have s6_3 := f2.q 6 u_g1
  refine go_reg [⟨g1, 25, (fC zF), some 1, (fC zF)⟩] [] [some (.agg (fC zF)), none, some (.int .i64 2)] mo f2.d f2.z f2.b (by kernel_rfl) ⟨b_g1_2, trivial⟩ (
   hk (fun cx => cx.q (ex_z5 rfl)) <|
   hk (fun cx => cx.stR (wn rfl) rfl rfl 0 rfl (cx.rq 6 s6_3) (cx.u 0 rfl) (by kernel_rfl) (Eq.refl 5) (by simp [Value.oneCell']) q_g1 rfl trivial trivial) <|
   hk (fun cx => cx.q (ex_as rfl rfl)) <|
   hn) ?_
  intro a3 w3 f3
  refine wp_ret ?_
  have s6_4 := f3.q 6 s6_3
  try simp only [Exit.inBlock, Exit.then]
  refine bodyPost_ret (res_ct (fn := Try.f10) rfl s6_4 (load_row 25 f3.rows.1 Try.underlying25 rfl (by kernel_rfl)) (f3.v 2 rfl rfl rfl)) f3.d ?_
  exact ⟨rfl, f3.b⟩

set_option maxHeartbeats 4000000 in
theorem qsub_t (w a b : Int) (W : World) (ha : 0 ≤ a ∧ a < 18446744073709551616) (hb : 0 ≤ b ∧ b < 18446744073709551616) (hl : longB w = true) : Calls Try.prog 12 #[.int .i8 w, .int .u64 a, .int .u64 b] W fun e w' => e = .returned (.tuple #[.agg (fC (aftF w (subV w a b) (decide (cutI a w < cutI b w)) (overS w a b (subV w a b)))), .int .i64 0]) ∧ Below W.heap.size W w' := by
  refine calls_abs Try.func12 rfl (Nat.le_of_ble_eq_true rfl) ?_
  intro a0 d0 z0 h0
  replace z0 : a0.tmps.size = 46 := z0
  have s0_0 : a0.tmps.getD 0 undef = .int .i8 w := h0 0 (Nat.le_of_ble_eq_true rfl)
  have s1_0 : a0.tmps.getD 1 undef = .int .u64 a := h0 1 (Nat.le_of_ble_eq_true rfl)
  have s2_0 : a0.tmps.getD 2 undef = .int .u64 b := h0 2 (Nat.le_of_ble_eq_true rfl)
  refine wp_seq ?_
  refine go_reg [] [⟨0, 6, 25, (fC zF), none, #[]⟩] [none, some (.int .i64 0)] mo d0 z0 (Below.refl _ _) (by kernel_rfl) trivial (
   hk (fun cx => cx.al (wn rfl) 0 rfl (al_f rfl) rfl rfl rfl rfl rfl trivial) <|
   hk (fun cx => cx.q (ex_as rfl rfl)) <|
   hn) ?_
  intro a1 w1 f1
  obtain ⟨g1, u_g1, q_g1, b_g1⟩ := f1.al.1
  refine wp_seq ?_
  refine wp_seq ?_
  have s0_1 := f1.q 0 s0_0
  refine go_reg [] [] [some (.int .i8 w), oT, oF] mo f1.d f1.z f1.b (by kernel_rfl) trivial (
   hk (fun cx => cx.q (ex_mv rfl (cx.rq 0 s0_1))) <|
   hc (fun _ _ wx cx => cx.c rfl (args1 (cx.u 0 rfl)) Try.func31 (by decide +kernel) (((width_n w wx).mono (by rintro e w' ⟨rfl, rfl⟩; exact ⟨rfl, Below.refl _ _⟩))) rfl (congrArg Value.bool hl)) <|
   hk (fun cx => cx.q (ex_not (x := .tmp 10) rfl (cx.u 0 rfl))) <|
   hn) ?_
  intro a2 w2 f2
  refine wp_cond_false (f2.v 2 rfl rfl rfl) ?_
  refine wp_skip ?_
  refine wp_seq ?_
  have s1_2 := f2.q 1 (f1.q 1 s1_0)
  have s0_3 := f2.q 0 s0_1
  refine go_reg [] [] [some (.int .u64 a), some (.int .i8 w), some (.int .u64 (cutI a w)), some (.int .u64 (cutI a w))] mo f2.d f2.z f2.b (by kernel_rfl) trivial (
   hk (fun cx => cx.q (ex_mv rfl (cx.un 3 rfl rfl (by kernel_rfl) s1_2))) <|
   hk (fun cx => cx.q (ex_mv rfl (cx.rq 0 s0_3))) <|
   hc (fun _ _ wx cx => cx.c rfl (args2 (cx.u 0 rfl) (cx.u 1 rfl)) Try.func25 (by decide +kernel) (((refcut_any a w wx).mono (by rintro e w' ⟨rfl, rfl⟩; exact ⟨rfl, Below.refl _ _⟩))) rfl rfl) <|
   kmu 0 <|
   hn) ?_
  intro a3 w3 f3
  refine wp_seq ?_
  have s2_4 := f3.q 2 (f2.q 2 (f1.q 2 s2_0))
  have s0_5 := f3.q 0 s0_3
  refine go_reg [] [] [some (.int .u64 b), some (.int .i8 w), some (.int .u64 (cutI b w)), some (.int .u64 (cutI b w))] mo f3.d f3.z f3.b (by kernel_rfl) trivial (
   hk (fun cx => cx.q (ex_mv rfl (cx.un 3 rfl rfl (by kernel_rfl) s2_4))) <|
   hk (fun cx => cx.q (ex_mv rfl (cx.rq 0 s0_5))) <|
   hc (fun _ _ wx cx => cx.c rfl (args2 (cx.u 0 rfl) (cx.u 1 rfl)) Try.func25 (by decide +kernel) (((refcut_any b w wx).mono (by rintro e w' ⟨rfl, rfl⟩; exact ⟨rfl, Below.refl _ _⟩))) rfl rfl) <|
   kmu 0 <|
   hn) ?_
  intro a4 w4 f4
  refine wp_seq ?_
  have s1_6 := f4.q 1 (f3.v 3 rfl rfl rfl)
  have s0_7 := f4.q 0 s0_5
  refine go_reg [] [] [some (.int .u64 (cutI a w)), some (.int .u64 (cutI b w)), some (.int .u64 (IntKind.u64.wrap ((cutI a w) - (cutI b w)))), some (.int .i8 w), some (.int .u64 (subV w a b)), some (.int .u64 (subV w a b))] mo f4.d f4.z f4.b (by kernel_rfl) trivial (
   hk (fun cx => cx.q (ex_mv rfl (cx.rq 1 s1_6))) <|
   hk (fun cx => cx.q (ex_mv rfl (cx.rq 2 (f4.v 3 rfl rfl rfl)))) <|
   hk (fun cx => cx.q (ex_sub (x := .tmp 19) (y := .tmp 20) rfl (cx.u 0 rfl) (cx.u 1 rfl))) <|
   hk (fun cx => cx.q (ex_mv rfl (cx.rq 0 s0_7))) <|
   hc (fun _ _ wx cx => cx.c rfl (args2 (cx.u 0 rfl) (cx.u 1 rfl)) Try.func25 (by decide +kernel) (((refcut_any (IntKind.u64.wrap ((cutI a w) - (cutI b w))) w wx).mono (by rintro e w' ⟨rfl, rfl⟩; exact ⟨rfl, Below.refl _ _⟩))) rfl (congrArg (Value.int .u64) (subV_is hl a b))) <|
   kmu 0 <|
   hn) ?_
  intro a5 w5 f5
  refine wp_seq ?_
  cases fk1 : (negB w a) != (negB w b)
  case false =>
   have Ffk1 := Lib.hid fk1; clear fk1
   have b_g1_8 := f5.k (f4.k (f3.k (f2.k b_g1)))
   have s0_9 := f5.q 0 s0_7
   have s1_10 := f5.q 1 s1_6
   have s2_11 := f5.q 2 (f4.v 3 rfl rfl rfl)
   have s6_12 := f5.q 6 (f4.q 6 (f3.q 6 (f2.q 6 u_g1)))
   refine go_reg [⟨g1, 25, (fC zF), some 22, (fC (aftF w (subV w a b) (decide ((cutI a w) < (cutI b w))) false))⟩] [] (tabs [some (.int .i8 w), some (.int .u64 (subV w a b)), some (.int .u64 (cutI a w)), some (.int .u64 (cutI b w)), some (.bool (decide ((cutI a w) < (cutI b w)))), some (.int .u64 (cutI a w)), some (.int .i8 w), some (.bool (negB w a)), some (.int .u64 (cutI b w)), some (.int .i8 w), some (.bool (negB w b)), oF, oF, oU, oU, oU, oU, oU, oU, oU] [oF, some (.agg (fC (aftF w (subV w a b) (decide ((cutI a w) < (cutI b w))) false))), none, some (.int .i64 0)]) mo f5.d f5.z f5.b (by kernel_rfl) ⟨b_g1_8, trivial⟩ (
    hk (fun cx => cx.q (ex_mv rfl (cx.rq 0 s0_9))) <|
    hk (fun cx => cx.q (ex_mv rfl (cx.rq 8 (f5.v 5 rfl rfl rfl)))) <|
    hk (fun cx => cx.q (ex_mv rfl (cx.rq 1 s1_10))) <|
    hk (fun cx => cx.q (ex_mv rfl (cx.rq 2 s2_11))) <|
    hk (fun cx => cx.q (ex_lt (x := .tmp 26) (y := .tmp 27) rfl (cx.u 0 rfl) (cx.u 1 rfl))) <|
    hk (fun cx => cx.q (ex_mv rfl (cx.rq 1 s1_10))) <|
    hk (fun cx => cx.q (ex_mv rfl (cx.rq 0 s0_9))) <|
    hc (fun _ _ wx cx => cx.c rfl (args2 (cx.u 0 rfl) (cx.u 1 rfl)) Try.func33 (by decide +kernel) (((top_n w (cutI a w) wx hl (cut_long hl a ha.1 ha.2).1 (cut_long hl a ha.1 ha.2).2.1).mono (by rintro e w' ⟨rfl, rfl⟩; exact ⟨rfl, Below.refl _ _⟩))) rfl (congrArg Value.bool (neg_cut hl a))) <|
    hk (fun cx => cx.q (ex_mv rfl (cx.rq 2 s2_11))) <|
    hk (fun cx => cx.q (ex_mv rfl (cx.rq 0 s0_9))) <|
    hc (fun _ _ wx cx => cx.c rfl (args2 (cx.u 0 rfl) (cx.u 1 rfl)) Try.func33 (by decide +kernel) (((top_n w (cutI b w) wx hl (cut_long hl b hb.1 hb.2).1 (cut_long hl b hb.1 hb.2).2.1).mono (by rintro e w' ⟨rfl, rfl⟩; exact ⟨rfl, Below.refl _ _⟩))) rfl (congrArg Value.bool (neg_cut hl b))) <|
    hk (fun cx => cx.v (v := .bool ((negB w a) != (negB w b))) (ex_bne (x := .tmp 31) (y := .tmp 34) rfl (cx.u 0 rfl) (cx.u 1 rfl)) rfl (congrArg Value.bool Ffk1.out)) <|
    kmu 0 <|
    kno 0 <|
    kno 0 <|
    kno 2 <|
    kno 0 <|
    kno 0 <|
    kno 3 <|
    kno 2 <|
    hk (fun cx => cx.q (ex_pf rfl (cx.u 0 rfl) rfl)) <|
    hc (fun _ _ wx cx => cx.c rfl (args4 (cx.u 0 rfl) (cx.u 1 rfl) (cx.u 2 rfl) (cx.u 3 rfl)) Try.func32 (by decide +kernel) (made_c w (subV w a b) (decide ((cutI a w) < (cutI b w))) false wx hl (subV_bd hl a b).1 (subV_bd hl a b).2.1 (subV_bd hl a b).2.2) rfl rfl) <|
    hk (fun cx => cx.stR (wn rfl) rfl rfl 0 rfl (cx.rq 6 s6_12) (cx.u 0 rfl) (by kernel_rfl) (Eq.refl 5) (by simp [Value.oneCell']) q_g1 rfl trivial trivial) <|
    hk (fun cx => cx.q (ex_as rfl rfl)) <|
    hn) ?_
   intro a6 w6 f6
   refine wp_ret ?_
   have s6_13 := f6.q 6 s6_12
   try simp only [Exit.inBlock, Exit.then]
   refine bodyPost_ret (res_ct (fn := Try.f12) rfl s6_13 (load_row 25 f6.rows.1 Try.underlying25 rfl (by kernel_rfl)) (f6.v 23 rfl rfl rfl)) f6.d ?_
   have HE : (.tuple #[.agg (fC (aftF w (subV w a b) (decide ((cutI a w) < (cutI b w))) false)), .int .i64 0] : Value) = .tuple #[.agg (fC (aftF w (subV w a b) (decide (cutI a w < cutI b w)) (overS w a b (subV w a b)))), .int .i64 0] := by unfold overS; simp only [Ffk1.out, Bool.true_and, Bool.and_true, Bool.false_and, Bool.and_false, Bool.or_false, Bool.false_or, Bool.true_or, Bool.or_true, Bool.not_true, Bool.not_false, if_true, if_false, Bool.false_eq_true, Bool.true_eq_false, reduceCtorEq]; try rfl
   exact ⟨retV HE, f6.b⟩
  have Ffk1 := Lib.hid fk1; clear fk1
  have b_g1_14 := f5.k (f4.k (f3.k (f2.k b_g1)))
  have s0_15 := f5.q 0 s0_7
  have s1_16 := f5.q 1 s1_6
  have s2_17 := f5.q 2 (f4.v 3 rfl rfl rfl)
  have s6_18 := f5.q 6 (f4.q 6 (f3.q 6 (f2.q 6 u_g1)))
  refine go_reg [⟨g1, 25, (fC zF), some 22, (fC (aftF w (subV w a b) (decide ((cutI a w) < (cutI b w))) ((negB w (subV w a b)) != (negB w a))))⟩] [] (tabs [some (.int .i8 w), some (.int .u64 (subV w a b)), some (.int .u64 (cutI a w)), some (.int .u64 (cutI b w)), some (.bool (decide ((cutI a w) < (cutI b w)))), some (.int .u64 (cutI a w)), some (.int .i8 w), some (.bool (negB w a)), some (.int .u64 (cutI b w)), some (.int .i8 w), some (.bool (negB w b)), oT, oT, some (.int .u64 (subV w a b)), some (.int .i8 w), some (.bool (negB w (subV w a b))), some (.int .u64 (cutI a w)), some (.int .i8 w), some (.bool (negB w a)), some (.bool ((negB w (subV w a b)) != (negB w a)))] [some (.bool ((negB w (subV w a b)) != (negB w a))), some (.agg (fC (aftF w (subV w a b) (decide ((cutI a w) < (cutI b w))) ((negB w (subV w a b)) != (negB w a))))), none, some (.int .i64 0)]) mo f5.d f5.z f5.b (by kernel_rfl) ⟨b_g1_14, trivial⟩ (
   hk (fun cx => cx.q (ex_mv rfl (cx.rq 0 s0_15))) <|
   hk (fun cx => cx.q (ex_mv rfl (cx.rq 8 (f5.v 5 rfl rfl rfl)))) <|
   hk (fun cx => cx.q (ex_mv rfl (cx.rq 1 s1_16))) <|
   hk (fun cx => cx.q (ex_mv rfl (cx.rq 2 s2_17))) <|
   hk (fun cx => cx.q (ex_lt (x := .tmp 26) (y := .tmp 27) rfl (cx.u 0 rfl) (cx.u 1 rfl))) <|
   hk (fun cx => cx.q (ex_mv rfl (cx.rq 1 s1_16))) <|
   hk (fun cx => cx.q (ex_mv rfl (cx.rq 0 s0_15))) <|
   hc (fun _ _ wx cx => cx.c rfl (args2 (cx.u 0 rfl) (cx.u 1 rfl)) Try.func33 (by decide +kernel) (((top_n w (cutI a w) wx hl (cut_long hl a ha.1 ha.2).1 (cut_long hl a ha.1 ha.2).2.1).mono (by rintro e w' ⟨rfl, rfl⟩; exact ⟨rfl, Below.refl _ _⟩))) rfl (congrArg Value.bool (neg_cut hl a))) <|
   hk (fun cx => cx.q (ex_mv rfl (cx.rq 2 s2_17))) <|
   hk (fun cx => cx.q (ex_mv rfl (cx.rq 0 s0_15))) <|
   hc (fun _ _ wx cx => cx.c rfl (args2 (cx.u 0 rfl) (cx.u 1 rfl)) Try.func33 (by decide +kernel) (((top_n w (cutI b w) wx hl (cut_long hl b hb.1 hb.2).1 (cut_long hl b hb.1 hb.2).2.1).mono (by rintro e w' ⟨rfl, rfl⟩; exact ⟨rfl, Below.refl _ _⟩))) rfl (congrArg Value.bool (neg_cut hl b))) <|
   hk (fun cx => cx.v (v := .bool ((negB w a) != (negB w b))) (ex_bne (x := .tmp 31) (y := .tmp 34) rfl (cx.u 0 rfl) (cx.u 1 rfl)) rfl (congrArg Value.bool Ffk1.out)) <|
   kmu 0 <|
   hk (fun cx => cx.vy 0 (ex_mv rfl (cx.rq 8 (f5.v 5 rfl rfl rfl)))) <|
   hk (fun cx => cx.vy 0 (ex_mv rfl (cx.rq 0 s0_15))) <|
   hc (fun _ _ wx cx => cx.call (cx.wy rfl rfl rfl rfl (cx.u 2 rfl)) rfl rfl (args2 (cx.u 0 rfl) (cx.u 1 rfl)) Try.func33 (by decide +kernel) rfl (((top_n w (subV w a b) wx hl (subV_bd hl a b).1 (subV_bd hl a b).2.1).mono (by rintro e w' ⟨rfl, rfl⟩; exact ⟨rfl, Below.refl _ _⟩))) rfl rfl rfl rfl) <|
   hk (fun cx => cx.vy 0 (ex_mv rfl (cx.rq 1 s1_16))) <|
   hk (fun cx => cx.vy 0 (ex_mv rfl (cx.rq 0 s0_15))) <|
   hc (fun _ _ wx cx => cx.call (cx.wy rfl rfl rfl rfl (cx.u 3 rfl)) rfl rfl (args2 (cx.u 0 rfl) (cx.u 1 rfl)) Try.func33 (by decide +kernel) rfl (((top_n w (cutI a w) wx hl (cut_long hl a ha.1 ha.2).1 (cut_long hl a ha.1 ha.2).2.1).mono (by rintro e w' ⟨rfl, rfl⟩; exact ⟨rfl, Below.refl _ _⟩))) rfl rfl (congrArg Value.bool (neg_cut hl a)) rfl) <|
   hk (fun cx => cx.vy 2 (ex_bne (x := .tmp 39) (y := .tmp 42) rfl (cx.u 0 rfl) (cx.u 1 rfl))) <|
   hk (fun cx => cx.q (ex_pt rfl (cx.u 0 rfl) (cx.u 1 rfl))) <|
   hc (fun _ _ wx cx => cx.c rfl (args4 (cx.u 0 rfl) (cx.u 1 rfl) (cx.u 2 rfl) (cx.u 3 rfl)) Try.func32 (by decide +kernel) (made_c w (subV w a b) (decide ((cutI a w) < (cutI b w))) ((negB w (subV w a b)) != (negB w a)) wx hl (subV_bd hl a b).1 (subV_bd hl a b).2.1 (subV_bd hl a b).2.2) rfl rfl) <|
   hk (fun cx => cx.stR (wn rfl) rfl rfl 0 rfl (cx.rq 6 s6_18) (cx.u 0 rfl) (by kernel_rfl) (Eq.refl 5) (by simp [Value.oneCell']) q_g1 rfl trivial trivial) <|
   hk (fun cx => cx.q (ex_as rfl rfl)) <|
   hn) ?_
  intro a7 w7 f7
  refine wp_ret ?_
  have s6_19 := f7.q 6 s6_18
  try simp only [Exit.inBlock, Exit.then]
  refine bodyPost_ret (res_ct (fn := Try.f12) rfl s6_19 (load_row 25 f7.rows.1 Try.underlying25 rfl (by kernel_rfl)) (f7.v 23 rfl rfl rfl)) f7.d ?_
  have HE : (.tuple #[.agg (fC (aftF w (subV w a b) (decide ((cutI a w) < (cutI b w))) ((negB w (subV w a b)) != (negB w a)))), .int .i64 0] : Value) = .tuple #[.agg (fC (aftF w (subV w a b) (decide (cutI a w < cutI b w)) (overS w a b (subV w a b)))), .int .i64 0] := by unfold overS; simp only [Ffk1.out, Bool.true_and, Bool.and_true, Bool.false_and, Bool.and_false, Bool.or_false, Bool.false_or, Bool.true_or, Bool.or_true, Bool.not_true, Bool.not_false, if_true, if_false, Bool.false_eq_true, Bool.true_eq_false, reduceCtorEq]; try rfl
  exact ⟨retV HE, f7.b⟩

set_option maxHeartbeats 4000000 in
theorem qsub_f (w a b : Int) (W : World) (ha : 0 ≤ a ∧ a < 18446744073709551616) (hb : 0 ≤ b ∧ b < 18446744073709551616) (hl : longB w = false) : Calls Try.prog 12 #[.int .i8 w, .int .u64 a, .int .u64 b] W fun e w' => e = .returned (.tuple #[.agg (fC zF), .int .i64 2]) ∧ Below W.heap.size W w' := by
  refine calls_abs Try.func12 rfl (Nat.le_of_ble_eq_true rfl) ?_
  intro a0 d0 z0 h0
  replace z0 : a0.tmps.size = 46 := z0
  have s0_0 : a0.tmps.getD 0 undef = .int .i8 w := h0 0 (Nat.le_of_ble_eq_true rfl)
  have s1_0 : a0.tmps.getD 1 undef = .int .u64 a := h0 1 (Nat.le_of_ble_eq_true rfl)
  have s2_0 : a0.tmps.getD 2 undef = .int .u64 b := h0 2 (Nat.le_of_ble_eq_true rfl)
  refine wp_seq ?_
  refine go_reg [] [⟨0, 6, 25, (fC zF), none, #[]⟩] [none, some (.int .i64 0)] mo d0 z0 (Below.refl _ _) (by kernel_rfl) trivial (
   hk (fun cx => cx.al (wn rfl) 0 rfl (al_f rfl) rfl rfl rfl rfl rfl trivial) <|
   hk (fun cx => cx.q (ex_as rfl rfl)) <|
   hn) ?_
  intro a1 w1 f1
  obtain ⟨g1, u_g1, q_g1, b_g1⟩ := f1.al.1
  refine wp_seq ?_
  refine wp_seq ?_
  have s0_1 := f1.q 0 s0_0
  refine go_reg [] [] [some (.int .i8 w), oF, oT] mo f1.d f1.z f1.b (by kernel_rfl) trivial (
   hk (fun cx => cx.q (ex_mv rfl (cx.rq 0 s0_1))) <|
   hc (fun _ _ wx cx => cx.c rfl (args1 (cx.u 0 rfl)) Try.func31 (by decide +kernel) (((width_n w wx).mono (by rintro e w' ⟨rfl, rfl⟩; exact ⟨rfl, Below.refl _ _⟩))) rfl (congrArg Value.bool hl)) <|
   hk (fun cx => cx.q (ex_not (x := .tmp 10) rfl (cx.u 0 rfl))) <|
   hn) ?_
  intro a2 w2 f2
  refine wp_cond_true (f2.v 2 rfl rfl rfl) ?_
  refine wp_seq ?_
  have b_g1_2 := f2.k b_g1
  have s6_3 := f2.q 6 u_g1
  refine go_reg [⟨g1, 25, (fC zF), some 1, (fC zF)⟩] [] [some (.agg (fC zF)), none, some (.int .i64 2)] mo f2.d f2.z f2.b (by kernel_rfl) ⟨b_g1_2, trivial⟩ (
   hk (fun cx => cx.q (ex_z5 rfl)) <|
   hk (fun cx => cx.stR (wn rfl) rfl rfl 0 rfl (cx.rq 6 s6_3) (cx.u 0 rfl) (by kernel_rfl) (Eq.refl 5) (by simp [Value.oneCell']) q_g1 rfl trivial trivial) <|
   hk (fun cx => cx.q (ex_as rfl rfl)) <|
   hn) ?_
  intro a3 w3 f3
  refine wp_ret ?_
  have s6_4 := f3.q 6 s6_3
  try simp only [Exit.inBlock, Exit.then]
  refine bodyPost_ret (res_ct (fn := Try.f12) rfl s6_4 (load_row 25 f3.rows.1 Try.underlying25 rfl (by kernel_rfl)) (f3.v 2 rfl rfl rfl)) f3.d ?_
  exact ⟨rfl, f3.b⟩

set_option maxHeartbeats 4000000 in
theorem qof_t (w v : Int) (W : World) (hv : 0 ≤ v ∧ v < 18446744073709551616) (hl : longB w = true) : Calls Try.prog 14 #[.int .i8 w, .int .u64 v] W fun e w' => e = .returned (.tuple #[.agg (fC (aftF w (cutI v w) false false)), .int .i64 0]) ∧ Below W.heap.size W w' := by
  refine calls_abs Try.func14 rfl (Nat.le_of_ble_eq_true rfl) ?_
  intro a0 d0 z0 h0
  replace z0 : a0.tmps.size = 13 := z0
  have s0_0 : a0.tmps.getD 0 undef = .int .i8 w := h0 0 (Nat.le_of_ble_eq_true rfl)
  have s1_0 : a0.tmps.getD 1 undef = .int .u64 v := h0 1 (Nat.le_of_ble_eq_true rfl)
  refine wp_seq ?_
  refine go_reg [] [⟨0, 4, 25, (fC zF), none, #[]⟩] [none, some (.int .i64 0)] mo d0 z0 (Below.refl _ _) (by kernel_rfl) trivial (
   hk (fun cx => cx.al (wn rfl) 0 rfl (al_f rfl) rfl rfl rfl rfl rfl trivial) <|
   hk (fun cx => cx.q (ex_as rfl rfl)) <|
   hn) ?_
  intro a1 w1 f1
  obtain ⟨g1, u_g1, q_g1, b_g1⟩ := f1.al.1
  refine wp_seq ?_
  refine wp_seq ?_
  have s0_1 := f1.q 0 s0_0
  refine go_reg [] [] [some (.int .i8 w), oT, oF] mo f1.d f1.z f1.b (by kernel_rfl) trivial (
   hk (fun cx => cx.q (ex_mv rfl (cx.rq 0 s0_1))) <|
   hc (fun _ _ wx cx => cx.c rfl (args1 (cx.u 0 rfl)) Try.func31 (by decide +kernel) (((width_n w wx).mono (by rintro e w' ⟨rfl, rfl⟩; exact ⟨rfl, Below.refl _ _⟩))) rfl (congrArg Value.bool hl)) <|
   hk (fun cx => cx.q (ex_not (x := .tmp 7) rfl (cx.u 0 rfl))) <|
   hn) ?_
  intro a2 w2 f2
  refine wp_cond_false (f2.v 2 rfl rfl rfl) ?_
  refine wp_skip ?_
  refine wp_seq ?_
  have b_g1_2 := f2.k b_g1
  have s0_3 := f2.q 0 s0_1
  have s1_4 := f2.q 1 (f1.q 1 s1_0)
  have s4_5 := f2.q 4 u_g1
  refine go_reg [⟨g1, 25, (fC zF), some 3, (fC (aftF w (cutI v w) false false))⟩] [] [some (.int .i8 w), some (.int .u64 v), some (.agg (fC (aftF w (cutI v w) false false))), none, some (.int .i64 0)] mo f2.d f2.z f2.b (by kernel_rfl) ⟨b_g1_2, trivial⟩ (
   hk (fun cx => cx.q (ex_mv rfl (cx.rq 0 s0_3))) <|
   hk (fun cx => cx.q (ex_mv rfl (cx.rq 1 s1_4))) <|
   hc (fun _ _ wx cx => cx.c rfl (args4 (cx.u 0 rfl) (cx.u 1 rfl) rfl rfl) Try.func32 (by decide +kernel) (made_n w v false false wx hl hv) rfl rfl) <|
   hk (fun cx => cx.stR (wn rfl) rfl rfl 0 rfl (cx.rq 4 s4_5) (cx.u 0 rfl) (by kernel_rfl) (Eq.refl 5) (by simp [Value.oneCell']) q_g1 rfl trivial trivial) <|
   hk (fun cx => cx.q (ex_as rfl rfl)) <|
   hn) ?_
  intro a3 w3 f3
  refine wp_ret ?_
  have s4_6 := f3.q 4 s4_5
  try simp only [Exit.inBlock, Exit.then]
  refine bodyPost_ret (res_ct (fn := Try.f14) rfl s4_6 (load_row 25 f3.rows.1 Try.underlying25 rfl (by kernel_rfl)) (f3.v 4 rfl rfl rfl)) f3.d ?_
  exact ⟨rfl, f3.b⟩

set_option maxHeartbeats 4000000 in
theorem qof_f (w v : Int) (W : World) (hv : 0 ≤ v ∧ v < 18446744073709551616) (hl : longB w = false) : Calls Try.prog 14 #[.int .i8 w, .int .u64 v] W fun e w' => e = .returned (.tuple #[.agg (fC zF), .int .i64 2]) ∧ Below W.heap.size W w' := by
  refine calls_abs Try.func14 rfl (Nat.le_of_ble_eq_true rfl) ?_
  intro a0 d0 z0 h0
  replace z0 : a0.tmps.size = 13 := z0
  have s0_0 : a0.tmps.getD 0 undef = .int .i8 w := h0 0 (Nat.le_of_ble_eq_true rfl)
  have s1_0 : a0.tmps.getD 1 undef = .int .u64 v := h0 1 (Nat.le_of_ble_eq_true rfl)
  refine wp_seq ?_
  refine go_reg [] [⟨0, 4, 25, (fC zF), none, #[]⟩] [none, some (.int .i64 0)] mo d0 z0 (Below.refl _ _) (by kernel_rfl) trivial (
   hk (fun cx => cx.al (wn rfl) 0 rfl (al_f rfl) rfl rfl rfl rfl rfl trivial) <|
   hk (fun cx => cx.q (ex_as rfl rfl)) <|
   hn) ?_
  intro a1 w1 f1
  obtain ⟨g1, u_g1, q_g1, b_g1⟩ := f1.al.1
  refine wp_seq ?_
  refine wp_seq ?_
  have s0_1 := f1.q 0 s0_0
  refine go_reg [] [] [some (.int .i8 w), oF, oT] mo f1.d f1.z f1.b (by kernel_rfl) trivial (
   hk (fun cx => cx.q (ex_mv rfl (cx.rq 0 s0_1))) <|
   hc (fun _ _ wx cx => cx.c rfl (args1 (cx.u 0 rfl)) Try.func31 (by decide +kernel) (((width_n w wx).mono (by rintro e w' ⟨rfl, rfl⟩; exact ⟨rfl, Below.refl _ _⟩))) rfl (congrArg Value.bool hl)) <|
   hk (fun cx => cx.q (ex_not (x := .tmp 7) rfl (cx.u 0 rfl))) <|
   hn) ?_
  intro a2 w2 f2
  refine wp_cond_true (f2.v 2 rfl rfl rfl) ?_
  refine wp_seq ?_
  have b_g1_2 := f2.k b_g1
  have s4_3 := f2.q 4 u_g1
  refine go_reg [⟨g1, 25, (fC zF), some 1, (fC zF)⟩] [] [some (.agg (fC zF)), none, some (.int .i64 2)] mo f2.d f2.z f2.b (by kernel_rfl) ⟨b_g1_2, trivial⟩ (
   hk (fun cx => cx.q (ex_z5 rfl)) <|
   hk (fun cx => cx.stR (wn rfl) rfl rfl 0 rfl (cx.rq 4 s4_3) (cx.u 0 rfl) (by kernel_rfl) (Eq.refl 5) (by simp [Value.oneCell']) q_g1 rfl trivial trivial) <|
   hk (fun cx => cx.q (ex_as rfl rfl)) <|
   hn) ?_
  intro a3 w3 f3
  refine wp_ret ?_
  have s4_4 := f3.q 4 s4_3
  try simp only [Exit.inBlock, Exit.then]
  refine bodyPost_ret (res_ct (fn := Try.f14) rfl s4_4 (load_row 25 f3.rows.1 Try.underlying25 rfl (by kernel_rfl)) (f3.v 2 rfl rfl rfl)) f3.d ?_
  exact ⟨rfl, f3.b⟩

theorem qadd_n (w a b : Int) (W : World) (ha : 0 ≤ a ∧ a < 18446744073709551616) (hb : 0 ≤ b ∧ b < 18446744073709551616) : Calls Try.prog 10 #[.int .i8 w, .int .u64 a, .int .u64 b] W fun e w' => e = .returned (.tuple #[.agg (fC (addF w a b)), .int .i64 (errW w)]) ∧ Below W.heap.size W w' := by
  cases hl : longB w
  · rw [show addF w a b = zF from if_neg (by simp [hl]), show errW w = 2 from if_neg (by simp [hl])]
    exact qadd_f w a b W ha hb hl
  · rw [show addF w a b = _ from if_pos hl, show errW w = 0 from if_pos hl]
    exact qadd_t w a b W ha hb hl

theorem qsub_n (w a b : Int) (W : World) (ha : 0 ≤ a ∧ a < 18446744073709551616) (hb : 0 ≤ b ∧ b < 18446744073709551616) : Calls Try.prog 12 #[.int .i8 w, .int .u64 a, .int .u64 b] W fun e w' => e = .returned (.tuple #[.agg (fC (subF w a b)), .int .i64 (errW w)]) ∧ Below W.heap.size W w' := by
  cases hl : longB w
  · rw [show subF w a b = zF from if_neg (by simp [hl]), show errW w = 2 from if_neg (by simp [hl])]
    exact qsub_f w a b W ha hb hl
  · rw [show subF w a b = _ from if_pos hl, show errW w = 0 from if_pos hl]
    exact qsub_t w a b W ha hb hl

theorem qof_n (w v : Int) (W : World) (hv : 0 ≤ v ∧ v < 18446744073709551616) : Calls Try.prog 14 #[.int .i8 w, .int .u64 v] W fun e w' => e = .returned (.tuple #[.agg (fC (ofF w v)), .int .i64 (errW w)]) ∧ Below W.heap.size W w' := by
  cases hl : longB w
  · rw [show ofF w v = zF from if_neg (by simp [hl]), show errW w = 2 from if_neg (by simp [hl])]
    exact qof_f w v W hv hl
  · rw [show ofF w v = _ from if_pos hl, show errW w = 0 from if_pos hl]
    exact qof_t w v W hv hl
end Go.Proofs.Ytllnengcmfgmhaa.Flg
