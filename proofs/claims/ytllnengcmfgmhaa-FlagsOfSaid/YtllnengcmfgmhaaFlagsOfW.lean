/-
  The walk of the law FlagsOf. (Written by gen_fli.py.)
-/
import Derived.Test.YtllnengcmfgmhaaFlI
namespace Go.Proofs.Ytllnengcmfgmhaa.Flg
open Go Go.RowKit
set_option linter.unusedVariables false
set_option linter.unusedSimpArgs false
set_option linter.unnecessarySimpa false
set_option maxRecDepth 100000

theorem faFlagsOfW25_2_0 (g : Nat) (w : World) : (Instr.fieldAt 25 (.pointer (some ⟨g, 0, none⟩)) 2).run Try.prog w = .ok (.pointer (some ⟨g, 2, none⟩)) w := by simp [go_sem]
theorem faFlagsOfW25_3_0 (g : Nat) (w : World) : (Instr.fieldAt 25 (.pointer (some ⟨g, 0, none⟩)) 3).run Try.prog w = .ok (.pointer (some ⟨g, 3, none⟩)) w := by simp [go_sem]
theorem faFlagsOfW25_0_0 (g : Nat) (w : World) : (Instr.fieldAt 25 (.pointer (some ⟨g, 0, none⟩)) 0).run Try.prog w = .ok (.pointer (some ⟨g, 0, none⟩)) w := by simp [go_sem]


theorem ex_sh31 {ρ : Operand → Value} {o : Oper} {w : World} {x y : Operand} {a : Int} (ho : o.op = .binOp .shr 23 x y 22) (hx : ρ x = .int .u64 a) (hy : ρ y = .int .i8 31) : (execOp ρ o).run Try.prog w = .ok (.value (.int .u64 (a / 2147483648))) w := by
  simp [execOp, ho, hx, hy, go_sem]
theorem ex_sh63 {ρ : Operand → Value} {o : Oper} {w : World} {x y : Operand} {a : Int} (ho : o.op = .binOp .shr 23 x y 22) (hx : ρ x = .int .u64 a) (hy : ρ y = .int .i8 63) : (execOp ρ o).run Try.prog w = .ok (.value (.int .u64 (a / 9223372036854775808))) w := by
  simp [execOp, ho, hx, hy, go_sem]
theorem addV_of {w : Int} (h : longB w = true) (a b : Int) : addV w a b = cutI (IntKind.u64.wrap (a + b)) w := by
  unfold addV
  rw [opI_0, IntKind.wrap_u64]
  rcases longB_cases h with rfl | rfl
  · rw [cutI_32, cutI_32, cutI_32, cutI_32]; omega
  · rw [cutI_64, cutI_64, cutI_64, cutI_64]
theorem subV_of {w : Int} (h : longB w = true) (a b : Int) : subV w a b = cutI (IntKind.u64.wrap (a - b)) w := by
  unfold subV
  rw [opI_1, IntKind.wrap_u64]
  rcases longB_cases h with rfl | rfl
  · rw [cutI_32, cutI_32, cutI_32, cutI_32]; omega
  · rw [cutI_64, cutI_64, cutI_64, cutI_64]
theorem addF_zs {w : Int} (h : longB w = true) (a b : Int) : (addF w a b).k = true ∧ ((addF w a b).z == (ofF w (IntKind.u64.wrap (a + b))).z) = true ∧ ((addF w a b).s == (ofF w (IntKind.u64.wrap (a + b))).s) = true := by
  unfold addF ofF aftF
  rw [if_pos h, if_pos h, addV_of h]
  simp
theorem subF_zs {w : Int} (h : longB w = true) (a b : Int) : (subF w a b).k = true ∧ ((subF w a b).z == (ofF w (IntKind.u64.wrap (a - b))).z) = true ∧ ((subF w a b).s == (ofF w (IntKind.u64.wrap (a - b))).s) = true := by
  unfold subF ofF aftF
  rw [if_pos h, if_pos h, subV_of h]
  simp
theorem ofF_is {w t : Int} (h : longB w = true) {a : Int} (ht : ((cutI a w / t) == 1) = negB w (cutI a w)) : eqF (ofF w a) ⟨true, false, cutI a w == 0, (cutI a w / t) == 1, false⟩ = true := by
  unfold ofF aftF eqF
  rw [if_pos h, ht]
  simp
theorem tp_32 (a : Int) : ((cutI a 32 / 2147483648) == 1) = negB 32 (cutI a 32) := by
  rw [cutI_32]; unfold negB; rw [sgn_32, Bool.eq_iff_iff, decide_eq_true_iff, beq_iff_eq]; omega
theorem tp_64 {a : Int} (h : 0 ≤ a ∧ a < 18446744073709551616) : ((cutI a 64 / 9223372036854775808) == 1) = negB 64 (cutI a 64) := by
  rw [cutI_64]; unfold negB; rw [sgn_64, Bool.eq_iff_iff, decide_eq_true_iff, beq_iff_eq]; omega

set_option maxHeartbeats 4000000 in
theorem of_w (wide : Bool) (a b : Int) (W : World) (ha : 0 ≤ a ∧ a < 18446744073709551616) (hb : 0 ≤ b ∧ b < 18446744073709551616) : Calls Try.prog 8 #[.bool wide, .int .u64 a, .int .u64 b] W fun e w' => e = .returned (.bool true) ∧ Below W.heap.size W w' := by
  refine calls_abs Try.func8 rfl (Nat.le_of_ble_eq_true rfl) ?_
  intro a0 d0 z0 h0
  replace z0 : a0.tmps.size = 126 := z0
  have s0_0 : a0.tmps.getD 0 undef = .bool wide := h0 0 (Nat.le_of_ble_eq_true rfl)
  have s1_0 : a0.tmps.getD 1 undef = .int .u64 a := h0 1 (Nat.le_of_ble_eq_true rfl)
  have s2_0 : a0.tmps.getD 2 undef = .int .u64 b := h0 2 (Nat.le_of_ble_eq_true rfl)
  refine wp_seq ?_
  refine go_reg [] [] [oF] mo d0 z0 (Below.refl _ _) (by kernel_rfl) trivial (
   hk (fun cx => cx.q (ex_as rfl rfl)) <|
   hn) ?_
  intro a1 w1 f1
  refine wp_seq ?_
  refine go_reg [] [] [some (.int .i8 32)] mo f1.d f1.z f1.b (by kernel_rfl) trivial (
   hk (fun cx => cx.q (ex_as rfl rfl)) <|
   hn) ?_
  intro a2 w2 f2
  refine wp_seq ?_
  refine wp_seq ?_
  cases fk1 : wide
  case false =>
   have Ffk1 := Lib.hid fk1; clear fk1
   have s0_1 := f2.q 0 (f1.q 0 s0_0)
   refine go_reg [] [] [oF] mo f2.d f2.z f2.b (by kernel_rfl) trivial (
    hk (fun cx => cx.v (ex_mv rfl (cx.rq 0 s0_1)) rfl (congrArg Value.bool Ffk1.out)) <|
    hn) ?_
   intro a3 w3 f3
   refine wp_cond_false (f3.v 0 rfl rfl rfl) ?_
   refine wp_skip ?_
   refine wp_seq ?_
   have s7_2 := f3.q 7 (f2.v 0 rfl rfl rfl)
   have s1_3 := f3.q 1 (f2.q 1 (f1.q 1 s1_0))
   refine go_reg [] [⟨6, 8, 25, (fC zF), some 7, (fC (ofF 32 a))⟩] [some (.int .i8 32), some (.int .u64 a), some (.tuple #[.agg (fC (ofF 32 a)), .int .i64 (errW 32)]), some (.tuple #[.agg (fC (ofF 32 a)), .int .i64 (errW 32)]), some (.agg (fC (ofF 32 a))), some (.int .i64 (errW 32)), none, none, some (.int .i64 (errW 32))] mo f3.d f3.z f3.b (by kernel_rfl) trivial (
    hk (fun cx => cx.q (ex_mv rfl (cx.rq 7 s7_2))) <|
    hk (fun cx => cx.q (ex_mv rfl (cx.rq 1 s1_3))) <|
    hc (fun _ _ wx cx => cx.c rfl (args2 (cx.u 0 rfl) (cx.u 1 rfl)) Try.func13 (by decide +kernel) (of_n 32 a wx ha) rfl rfl) <|
    kmu 0 <|
    hk (fun cx => cx.q (ex_ext (x := .tmp 20) rfl (cx.u 0 rfl) rfl)) <|
    hk (fun cx => cx.q (ex_ext (x := .tmp 20) rfl (cx.u 0 rfl) rfl)) <|
    hk (fun cx => cx.al (wn rfl) 0 rfl (al_f rfl) rfl rfl rfl rfl (by kernel_rfl) trivial) <|
    hk (fun cx => cx.stA (wn rfl) rfl rfl 0 0 rfl rfl rfl rfl (cx.u 1 rfl) (by kernel_rfl) (Eq.refl 5) (by simp [Value.oneCell']) f3.b.size rfl rfl trivial) <|
    kmu 0 <|
    hn) ?_
   intro a4 w4 f4
   obtain ⟨g1, u_g1, q_g1, b_g1⟩ := f4.al.1
   refine wp_seq ?_
   have s7_4 := f4.q 7 s7_2
   have s1_5 := f4.q 1 s1_3
   have s2_6 := f4.q 2 (f3.q 2 (f2.q 2 (f1.q 2 s2_0)))
   refine go_reg [] [⟨7, 10, 25, (fC zF), some 8, (fC (addF 32 a b))⟩] [some (.int .i8 32), some (.int .u64 a), some (.int .u64 b), some (.tuple #[.agg (fC (addF 32 a b)), .int .i64 (errW 32)]), some (.tuple #[.agg (fC (addF 32 a b)), .int .i64 (errW 32)]), some (.agg (fC (addF 32 a b))), some (.int .i64 (errW 32)), none, none, some (.int .i64 (errW 32))] mo f4.d f4.z f4.b (by kernel_rfl) trivial (
    hk (fun cx => cx.q (ex_mv rfl (cx.rq 7 s7_4))) <|
    hk (fun cx => cx.q (ex_mv rfl (cx.rq 1 s1_5))) <|
    hk (fun cx => cx.q (ex_mv rfl (cx.rq 2 s2_6))) <|
    hc (fun _ _ wx cx => cx.c rfl (args3 (cx.u 0 rfl) (cx.u 1 rfl) (cx.u 2 rfl)) Try.func9 (by decide +kernel) (add_n 32 a b wx ha hb) rfl rfl) <|
    kmu 0 <|
    hk (fun cx => cx.q (ex_ext (x := .tmp 26) rfl (cx.u 0 rfl) rfl)) <|
    hk (fun cx => cx.q (ex_ext (x := .tmp 26) rfl (cx.u 0 rfl) rfl)) <|
    hk (fun cx => cx.al (wn rfl) 0 rfl (al_f rfl) rfl rfl rfl rfl (by kernel_rfl) trivial) <|
    hk (fun cx => cx.stA (wn rfl) rfl rfl 0 0 rfl rfl rfl rfl (cx.u 1 rfl) (by kernel_rfl) (Eq.refl 5) (by simp [Value.oneCell']) f4.b.size rfl rfl trivial) <|
    kmu 0 <|
    hn) ?_
   intro a5 w5 f5
   obtain ⟨g2, u_g2, q_g2, b_g2⟩ := f5.al.1
   refine wp_seq ?_
   have s7_7 := f5.q 7 s7_4
   have s1_8 := f5.q 1 s1_5
   have s2_9 := f5.q 2 s2_6
   refine go_reg [] [⟨7, 12, 25, (fC zF), some 8, (fC (subF 32 a b))⟩] [some (.int .i8 32), some (.int .u64 a), some (.int .u64 b), some (.tuple #[.agg (fC (subF 32 a b)), .int .i64 (errW 32)]), some (.tuple #[.agg (fC (subF 32 a b)), .int .i64 (errW 32)]), some (.agg (fC (subF 32 a b))), some (.int .i64 (errW 32)), none, none, some (.int .i64 (errW 32))] mo f5.d f5.z f5.b (by kernel_rfl) trivial (
    hk (fun cx => cx.q (ex_mv rfl (cx.rq 7 s7_7))) <|
    hk (fun cx => cx.q (ex_mv rfl (cx.rq 1 s1_8))) <|
    hk (fun cx => cx.q (ex_mv rfl (cx.rq 2 s2_9))) <|
    hc (fun _ _ wx cx => cx.c rfl (args3 (cx.u 0 rfl) (cx.u 1 rfl) (cx.u 2 rfl)) Try.func11 (by decide +kernel) (sub_n 32 a b wx ha hb) rfl rfl) <|
    kmu 0 <|
    hk (fun cx => cx.q (ex_ext (x := .tmp 33) rfl (cx.u 0 rfl) rfl)) <|
    hk (fun cx => cx.q (ex_ext (x := .tmp 33) rfl (cx.u 0 rfl) rfl)) <|
    hk (fun cx => cx.al (wn rfl) 0 rfl (al_f rfl) rfl rfl rfl rfl (by kernel_rfl) trivial) <|
    hk (fun cx => cx.stA (wn rfl) rfl rfl 0 0 rfl rfl rfl rfl (cx.u 1 rfl) (by kernel_rfl) (Eq.refl 5) (by simp [Value.oneCell']) f5.b.size rfl rfl trivial) <|
    kmu 0 <|
    hn) ?_
   intro a6 w6 f6
   obtain ⟨g3, u_g3, q_g3, b_g3⟩ := f6.al.1
   refine wp_seq ?_
   have s7_10 := f6.q 7 s7_7
   have s1_11 := f6.q 1 s1_8
   have s2_12 := f6.q 2 s2_9
   refine go_reg [] [⟨8, 14, 25, (fC zF), some 9, (fC (ofF 32 (IntKind.u64.wrap (a + b))))⟩] [some (.int .i8 32), some (.int .u64 a), some (.int .u64 b), some (.int .u64 (IntKind.u64.wrap (a + b))), some (.tuple #[.agg (fC (ofF 32 (IntKind.u64.wrap (a + b)))), .int .i64 (errW 32)]), some (.tuple #[.agg (fC (ofF 32 (IntKind.u64.wrap (a + b)))), .int .i64 (errW 32)]), some (.agg (fC (ofF 32 (IntKind.u64.wrap (a + b))))), some (.int .i64 (errW 32)), none, none, some (.int .i64 (errW 32))] mo f6.d f6.z f6.b (by kernel_rfl) trivial (
    hk (fun cx => cx.q (ex_mv rfl (cx.rq 7 s7_10))) <|
    hk (fun cx => cx.q (ex_mv rfl (cx.rq 1 s1_11))) <|
    hk (fun cx => cx.q (ex_mv rfl (cx.rq 2 s2_12))) <|
    hk (fun cx => cx.q (ex_add (x := .tmp 42) (y := .tmp 43) rfl (cx.u 0 rfl) (cx.u 1 rfl))) <|
    hc (fun _ _ wx cx => cx.c rfl (args2 (cx.u 0 rfl) (cx.u 1 rfl)) Try.func13 (by decide +kernel) (of_n 32 (IntKind.u64.wrap (a + b)) wx (wrap_bd _)) rfl rfl) <|
    kmu 0 <|
    hk (fun cx => cx.q (ex_ext (x := .tmp 40) rfl (cx.u 0 rfl) rfl)) <|
    hk (fun cx => cx.q (ex_ext (x := .tmp 40) rfl (cx.u 0 rfl) rfl)) <|
    hk (fun cx => cx.al (wn rfl) 0 rfl (al_f rfl) rfl rfl rfl rfl (by kernel_rfl) trivial) <|
    hk (fun cx => cx.stA (wn rfl) rfl rfl 0 0 rfl rfl rfl rfl (cx.u 1 rfl) (by kernel_rfl) (Eq.refl 5) (by simp [Value.oneCell']) f6.b.size rfl rfl trivial) <|
    kmu 0 <|
    hn) ?_
   intro a7 w7 f7
   obtain ⟨g4, u_g4, q_g4, b_g4⟩ := f7.al.1
   refine wp_seq ?_
   have s7_13 := f7.q 7 s7_10
   have s1_14 := f7.q 1 s1_11
   have s2_15 := f7.q 2 s2_12
   refine go_reg [] [⟨8, 16, 25, (fC zF), some 9, (fC (ofF 32 (IntKind.u64.wrap (a - b))))⟩] [some (.int .i8 32), some (.int .u64 a), some (.int .u64 b), some (.int .u64 (IntKind.u64.wrap (a - b))), some (.tuple #[.agg (fC (ofF 32 (IntKind.u64.wrap (a - b)))), .int .i64 (errW 32)]), some (.tuple #[.agg (fC (ofF 32 (IntKind.u64.wrap (a - b)))), .int .i64 (errW 32)]), some (.agg (fC (ofF 32 (IntKind.u64.wrap (a - b))))), some (.int .i64 (errW 32)), none, none, some (.int .i64 (errW 32))] mo f7.d f7.z f7.b (by kernel_rfl) trivial (
    hk (fun cx => cx.q (ex_mv rfl (cx.rq 7 s7_13))) <|
    hk (fun cx => cx.q (ex_mv rfl (cx.rq 1 s1_14))) <|
    hk (fun cx => cx.q (ex_mv rfl (cx.rq 2 s2_15))) <|
    hk (fun cx => cx.q (ex_sub (x := .tmp 50) (y := .tmp 51) rfl (cx.u 0 rfl) (cx.u 1 rfl))) <|
    hc (fun _ _ wx cx => cx.c rfl (args2 (cx.u 0 rfl) (cx.u 1 rfl)) Try.func13 (by decide +kernel) (of_n 32 (IntKind.u64.wrap (a - b)) wx (wrap_bd _)) rfl rfl) <|
    kmu 0 <|
    hk (fun cx => cx.q (ex_ext (x := .tmp 48) rfl (cx.u 0 rfl) rfl)) <|
    hk (fun cx => cx.q (ex_ext (x := .tmp 48) rfl (cx.u 0 rfl) rfl)) <|
    hk (fun cx => cx.al (wn rfl) 0 rfl (al_f rfl) rfl rfl rfl rfl (by kernel_rfl) trivial) <|
    hk (fun cx => cx.stA (wn rfl) rfl rfl 0 0 rfl rfl rfl rfl (cx.u 1 rfl) (by kernel_rfl) (Eq.refl 5) (by simp [Value.oneCell']) f7.b.size rfl rfl trivial) <|
    kmu 0 <|
    hn) ?_
   intro a8 w8 f8
   obtain ⟨g5, u_g5, q_g5, b_g5⟩ := f8.al.1
   refine wp_seq ?_
   refine wp_seq ?_
   have s9_16 := f8.q 9 (f7.q 9 (f6.q 9 (f5.q 9 (f4.v 8 rfl rfl rfl))))
   have s11_17 := f8.q 11 (f7.q 11 (f6.q 11 (f5.v 9 rfl rfl rfl)))
   have s13_18 := f8.q 13 (f7.q 13 (f6.v 9 rfl rfl rfl))
   have s15_19 := f8.q 15 (f7.v 10 rfl rfl rfl)
   refine go_reg [] [] [some (.int .i64 (errW 32)), oF, oF, some (.int .i64 (errW 32)), oF, oF, oF, some (.int .i64 (errW 32)), oF, oF, oF, some (.int .i64 (errW 32)), oF, oF, oF, some (.int .i64 (errW 32)), oF, oF] mo f8.d f8.z f8.b (by kernel_rfl) trivial (
    hk (fun cx => cx.q (ex_mv rfl (cx.rq 9 s9_16))) <|
    hk (fun cx => cx.v (ex_ne (x := .tmp 56) rfl (cx.u 0 rfl) rfl) rfl (congrArg Value.bool (by decide +kernel))) <|
    kmu 0 <|
    hk (fun cx => cx.vy 0 (ex_mv rfl (cx.rq 11 s11_17))) <|
    hk (fun cx => cx.vy 1 (ex_ne (x := .tmp 59) rfl (cx.u 0 rfl) rfl) (congrArg Value.bool (by decide +kernel))) <|
    hk (fun cx => cx.q (ex_pf rfl (cx.u 0 rfl) (cx.u 1 rfl))) <|
    kmu 0 <|
    hk (fun cx => cx.vy 0 (ex_mv rfl (cx.rq 13 s13_18))) <|
    hk (fun cx => cx.vy 1 (ex_ne (x := .tmp 63) rfl (cx.u 0 rfl) rfl) (congrArg Value.bool (by decide +kernel))) <|
    hk (fun cx => cx.q (ex_pf rfl (cx.u 0 rfl) (cx.u 1 rfl))) <|
    kmu 0 <|
    hk (fun cx => cx.vy 0 (ex_mv rfl (cx.rq 15 s15_19))) <|
    hk (fun cx => cx.vy 1 (ex_ne (x := .tmp 67) rfl (cx.u 0 rfl) rfl) (congrArg Value.bool (by decide +kernel))) <|
    hk (fun cx => cx.q (ex_pf rfl (cx.u 0 rfl) (cx.u 1 rfl))) <|
    kmu 0 <|
    hk (fun cx => cx.vy 0 (ex_mv rfl (cx.rq 17 (f8.v 10 rfl rfl rfl)))) <|
    hk (fun cx => cx.vy 1 (ex_ne (x := .tmp 71) rfl (cx.u 0 rfl) rfl) (congrArg Value.bool (by decide +kernel))) <|
    hk (fun cx => cx.q (ex_pf rfl (cx.u 0 rfl) (cx.u 1 rfl))) <|
    hn) ?_
   intro a9 w9 f9
   refine wp_cond_false (f9.v 17 rfl rfl rfl) ?_
   refine wp_skip ?_
   refine wp_seq ?_
   have s1_20 := f9.q 1 (f8.q 1 s1_14)
   have s7_21 := f9.q 7 (f8.q 7 s7_13)
   refine go_reg [] [] [some (.int .u64 a), some (.int .i8 32), some (.int .u64 (cutI a 32)), some (.int .u64 (cutI a 32))] mo f9.d f9.z f9.b (by kernel_rfl) trivial (
    hk (fun cx => cx.q (ex_mv rfl (cx.rq 1 s1_20))) <|
    hk (fun cx => cx.q (ex_mv rfl (cx.rq 7 s7_21))) <|
    hc (fun _ _ wx cx => cx.c rfl (args2 (cx.u 0 rfl) (cx.u 1 rfl)) Try.func25 (by decide +kernel) (((refcut_any a 32 wx).mono (by rintro e w' ⟨rfl, rfl⟩; exact ⟨rfl, Below.refl _ _⟩))) rfl rfl) <|
    kmu 0 <|
    hn) ?_
   intro a10 w10 f10
   refine wp_seq ?_
   have b_g1_22 := f10.k (f9.k (f8.k (f7.k (f6.k (f5.k b_g1)))))
   have b_g2_23 := f10.k (f9.k (f8.k (f7.k (f6.k b_g2))))
   have b_g4_24 := f10.k (f9.k (f8.k b_g4))
   have b_g3_25 := f10.k (f9.k (f8.k (f7.k b_g3)))
   have b_g5_26 := f10.k (f9.k b_g5)
   have s8_27 := f10.q 8 (f9.q 8 (f8.q 8 (f7.q 8 (f6.q 8 (f5.q 8 u_g1)))))
   have s7_28 := f10.q 7 s7_21
   have s10_29 := f10.q 10 (f9.q 10 (f8.q 10 (f7.q 10 (f6.q 10 u_g2))))
   have s14_30 := f10.q 14 (f9.q 14 (f8.q 14 u_g4))
   have s12_31 := f10.q 12 (f9.q 12 (f8.q 12 (f7.q 12 u_g3)))
   have s16_32 := f10.q 16 (f9.q 16 u_g5)
   refine go_reg [bx g1 25 (fC (ofF 32 a)), bx g2 25 (fC (addF 32 a b)), bx g4 25 (fC (ofF 32 (IntKind.u64.wrap (a + b)))), bx g3 25 (fC (subF 32 a b)), bx g5 25 (fC (ofF 32 (IntKind.u64.wrap (a - b))))] [] (tabs [some (.agg (fC (ofF 32 a))), some (.int .u64 (cutI a 32)), some (.bool ((cutI a 32) == 0)), some (.int .u64 (cutI a 32)), some (.int .i8 32), some (.int .i8 31), some (.int .u64 ((cutI a 32) / 2147483648)), some (.bool (((cutI a 32) / 2147483648) == 1)), some (.agg (fC ⟨true, false, (cutI a 32) == 0, ((cutI a 32) / 2147483648) == 1, false⟩)), oT, oT, some (pt g2 2), some (.bool (addF 32 a b).z), some (pt g4 2), some (.bool (ofF 32 (IntKind.u64.wrap (a + b))).z), oT, oT, oT, some (pt g2 3), some (.bool (addF 32 a b).s)] (tabs [some (pt g4 3), some (.bool (ofF 32 (IntKind.u64.wrap (a + b))).s), oT, oT, oT, some (pt g3 2), some (.bool (subF 32 a b).z), some (pt g5 2), some (.bool (ofF 32 (IntKind.u64.wrap (a - b))).z), oT, oT, oT, some (pt g3 3), some (.bool (subF 32 a b).s), some (pt g5 3), some (.bool (ofF 32 (IntKind.u64.wrap (a - b))).s), oT, oT, oT, some (pt g2 0)] [oT, oT, oT, some (pt g3 0), oT, oT, oT, oT, oT, oT])) mo f10.d f10.z f10.b (by kernel_rfl) ⟨b_g1_22, b_g2_23, b_g4_24, b_g3_25, b_g5_26, trivial⟩ (
    hk (fun cx => cx.q (ldF rfl (cx.rq 8 s8_27) (cx.rn 0 rfl))) <|
    hk (fun cx => cx.q (ex_mv rfl (cx.rq 18 (f10.v 3 rfl rfl rfl)))) <|
    hk (fun cx => cx.q (ex_eq (x := .tmp 78) rfl (cx.u 0 rfl) rfl)) <|
    hk (fun cx => cx.q (ex_mv rfl (cx.rq 18 (f10.v 3 rfl rfl rfl)))) <|
    hk (fun cx => cx.q (ex_mv rfl (cx.rq 7 s7_28))) <|
    hk (fun cx => cx.v (ex_sub (x := .tmp 81) rfl (cx.u 0 rfl) rfl) rfl (congrArg (Value.int .i8) (by decide +kernel))) <|
    hk (fun cx => cx.q (ex_sh31 (x := .tmp 80) (y := .tmp 82) rfl (cx.u 0 rfl) (cx.u 1 rfl))) <|
    hk (fun cx => cx.q (ex_eq (x := .tmp 83) rfl (cx.u 0 rfl) rfl)) <|
    hk (fun cx => cx.q (exec_build rfl (parts3 rfl (cx.u 0 rfl) (cx.u 1 rfl)) (by kernel_rfl))) <|
    hk (fun cx => cx.v (v := .bool (eqF (ofF 32 a) ⟨true, false, (cutI a 32) == 0, ((cutI a 32) / 2147483648) == 1, false⟩)) (exec_eql (x := .tmp 77) (y := .tmp 85) rfl (cx.u 0 rfl) (cx.u 1 rfl) (by kernel_rfl) (eq_f (ofF 32 a) ⟨true, false, (cutI a 32) == 0, ((cutI a 32) / 2147483648) == 1, false⟩ _)) rfl (congrArg Value.bool (ofF_is rfl (tp_32 a)))) <|
    kmu 0 <|
    hk (fun cx => cx.vy 0 (ex_fa rfl (cx.rq 10 s10_29) (faFlagsOfW25_2_0 _ _))) <|
    hk (fun cx => cx.vy 1 (ex_ld rfl (cx.u 0 rfl) (cx.rn 1 rfl) rfl Try.isAgg4)) <|
    hk (fun cx => cx.vy 0 (ex_fa rfl (cx.rq 14 s14_30) (faFlagsOfW25_2_0 _ _))) <|
    hk (fun cx => cx.vy 1 (ex_ld rfl (cx.u 0 rfl) (cx.rn 2 rfl) rfl Try.isAgg4)) <|
    hk (fun cx => cx.vy (v := .bool ((addF 32 a b).z == (ofF 32 (IntKind.u64.wrap (a + b))).z)) 2 (ex_beq (x := .tmp 89) (y := .tmp 91) rfl (cx.u 0 rfl) (cx.u 1 rfl)) (congrArg Value.bool (addF_zs (w := 32) rfl a b).2.1)) <|
    hk (fun cx => cx.q (ex_pt rfl (cx.u 0 rfl) (cx.u 1 rfl))) <|
    kmu 0 <|
    hk (fun cx => cx.vy 0 (ex_fa rfl (cx.rq 10 s10_29) (faFlagsOfW25_3_0 _ _))) <|
    hk (fun cx => cx.vy 1 (ex_ld rfl (cx.u 0 rfl) (cx.rn 1 rfl) rfl Try.isAgg4)) <|
    hk (fun cx => cx.vy 0 (ex_fa rfl (cx.rq 14 s14_30) (faFlagsOfW25_3_0 _ _))) <|
    hk (fun cx => cx.vy 1 (ex_ld rfl (cx.u 0 rfl) (cx.rn 2 rfl) rfl Try.isAgg4)) <|
    hk (fun cx => cx.vy (v := .bool ((addF 32 a b).s == (ofF 32 (IntKind.u64.wrap (a + b))).s)) 2 (ex_beq (x := .tmp 96) (y := .tmp 98) rfl (cx.u 0 rfl) (cx.u 1 rfl)) (congrArg Value.bool (addF_zs (w := 32) rfl a b).2.2)) <|
    hk (fun cx => cx.q (ex_pt rfl (cx.u 0 rfl) (cx.u 1 rfl))) <|
    kmu 0 <|
    hk (fun cx => cx.vy 0 (ex_fa rfl (cx.rq 12 s12_31) (faFlagsOfW25_2_0 _ _))) <|
    hk (fun cx => cx.vy 1 (ex_ld rfl (cx.u 0 rfl) (cx.rn 3 rfl) rfl Try.isAgg4)) <|
    hk (fun cx => cx.vy 0 (ex_fa rfl (cx.rq 16 s16_32) (faFlagsOfW25_2_0 _ _))) <|
    hk (fun cx => cx.vy 1 (ex_ld rfl (cx.u 0 rfl) (cx.rn 4 rfl) rfl Try.isAgg4)) <|
    hk (fun cx => cx.vy (v := .bool ((subF 32 a b).z == (ofF 32 (IntKind.u64.wrap (a - b))).z)) 2 (ex_beq (x := .tmp 103) (y := .tmp 105) rfl (cx.u 0 rfl) (cx.u 1 rfl)) (congrArg Value.bool (subF_zs (w := 32) rfl a b).2.1)) <|
    hk (fun cx => cx.q (ex_pt rfl (cx.u 0 rfl) (cx.u 1 rfl))) <|
    kmu 0 <|
    hk (fun cx => cx.vy 0 (ex_fa rfl (cx.rq 12 s12_31) (faFlagsOfW25_3_0 _ _))) <|
    hk (fun cx => cx.vy 1 (ex_ld rfl (cx.u 0 rfl) (cx.rn 3 rfl) rfl Try.isAgg4)) <|
    hk (fun cx => cx.vy 0 (ex_fa rfl (cx.rq 16 s16_32) (faFlagsOfW25_3_0 _ _))) <|
    hk (fun cx => cx.vy 1 (ex_ld rfl (cx.u 0 rfl) (cx.rn 4 rfl) rfl Try.isAgg4)) <|
    hk (fun cx => cx.vy (v := .bool ((subF 32 a b).s == (ofF 32 (IntKind.u64.wrap (a - b))).s)) 2 (ex_beq (x := .tmp 110) (y := .tmp 112) rfl (cx.u 0 rfl) (cx.u 1 rfl)) (congrArg Value.bool (subF_zs (w := 32) rfl a b).2.2)) <|
    hk (fun cx => cx.q (ex_pt rfl (cx.u 0 rfl) (cx.u 1 rfl))) <|
    kmu 0 <|
    hk (fun cx => cx.vy 0 (ex_fa rfl (cx.rq 10 s10_29) (faFlagsOfW25_0_0 _ _))) <|
    hk (fun cx => cx.vy 1 (ex_ld rfl (cx.u 0 rfl) (cx.rn 1 rfl) rfl Try.isAgg4) (congrArg Value.bool (addF_zs (w := 32) rfl a b).1)) <|
    hk (fun cx => cx.q (ex_pt rfl (cx.u 0 rfl) (cx.u 1 rfl))) <|
    kmu 0 <|
    hk (fun cx => cx.vy 0 (ex_fa rfl (cx.rq 12 s12_31) (faFlagsOfW25_0_0 _ _))) <|
    hk (fun cx => cx.vy 1 (ex_ld rfl (cx.u 0 rfl) (cx.rn 3 rfl) rfl Try.isAgg4) (congrArg Value.bool (subF_zs (w := 32) rfl a b).1)) <|
    hk (fun cx => cx.q (ex_pt rfl (cx.u 0 rfl) (cx.u 1 rfl))) <|
    kmu 0 <|
    hc (fun _ _ wx cx => cx.call (cx.wy rfl rfl rfl rfl (cx.u 0 rfl)) rfl rfl (args0 ) Try.func17 (by decide +kernel) rfl (wakes_n wx) rfl rfl rfl rfl) <|
    hk (fun cx => cx.q (ex_pt rfl (cx.u 0 rfl) (cx.u 1 rfl))) <|
    kmu 0 <|
    hn) ?_
   intro a11 w11 f11
   refine wp_ret ?_
   try simp only [Exit.inBlock, Exit.then]
   refine bodyPost_ret (res_t (fn := Try.f8) rfl (f11.v 49 rfl rfl rfl)) f11.d ?_
   exact ⟨rfl, f11.b⟩
  have Ffk1 := Lib.hid fk1; clear fk1
  have s0_33 := f2.q 0 (f1.q 0 s0_0)
  refine go_reg [] [] [oT] mo f2.d f2.z f2.b (by kernel_rfl) trivial (
   hk (fun cx => cx.v (ex_mv rfl (cx.rq 0 s0_33)) rfl (congrArg Value.bool Ffk1.out)) <|
   hn) ?_
  intro a12 w12 f12
  refine wp_cond_true (f12.v 0 rfl rfl rfl) ?_
  refine go_reg [] [] [some (.int .i8 64)] mo f12.d f12.z f12.b (by kernel_rfl) trivial (
   hk (fun cx => cx.q (ex_as rfl rfl)) <|
   hn) ?_
  intro a13 w13 f13
  refine wp_seq ?_
  have s1_34 := f13.q 1 (f12.q 1 (f2.q 1 (f1.q 1 s1_0)))
  refine go_reg [] [⟨6, 8, 25, (fC zF), some 7, (fC (ofF 64 a))⟩] [some (.int .i8 64), some (.int .u64 a), some (.tuple #[.agg (fC (ofF 64 a)), .int .i64 (errW 64)]), some (.tuple #[.agg (fC (ofF 64 a)), .int .i64 (errW 64)]), some (.agg (fC (ofF 64 a))), some (.int .i64 (errW 64)), none, none, some (.int .i64 (errW 64))] mo f13.d f13.z f13.b (by kernel_rfl) trivial (
   hk (fun cx => cx.q (ex_mv rfl (cx.rq 7 (f13.v 0 rfl rfl rfl)))) <|
   hk (fun cx => cx.q (ex_mv rfl (cx.rq 1 s1_34))) <|
   hc (fun _ _ wx cx => cx.c rfl (args2 (cx.u 0 rfl) (cx.u 1 rfl)) Try.func13 (by decide +kernel) (of_n 64 a wx ha) rfl rfl) <|
   kmu 0 <|
   hk (fun cx => cx.q (ex_ext (x := .tmp 20) rfl (cx.u 0 rfl) rfl)) <|
   hk (fun cx => cx.q (ex_ext (x := .tmp 20) rfl (cx.u 0 rfl) rfl)) <|
   hk (fun cx => cx.al (wn rfl) 0 rfl (al_f rfl) rfl rfl rfl rfl (by kernel_rfl) trivial) <|
   hk (fun cx => cx.stA (wn rfl) rfl rfl 0 0 rfl rfl rfl rfl (cx.u 1 rfl) (by kernel_rfl) (Eq.refl 5) (by simp [Value.oneCell']) f13.b.size rfl rfl trivial) <|
   kmu 0 <|
   hn) ?_
  intro a14 w14 f14
  obtain ⟨g1, u_g1, q_g1, b_g1⟩ := f14.al.1
  refine wp_seq ?_
  have s7_35 := f14.q 7 (f13.v 0 rfl rfl rfl)
  have s1_36 := f14.q 1 s1_34
  have s2_37 := f14.q 2 (f13.q 2 (f12.q 2 (f2.q 2 (f1.q 2 s2_0))))
  refine go_reg [] [⟨7, 10, 25, (fC zF), some 8, (fC (addF 64 a b))⟩] [some (.int .i8 64), some (.int .u64 a), some (.int .u64 b), some (.tuple #[.agg (fC (addF 64 a b)), .int .i64 (errW 64)]), some (.tuple #[.agg (fC (addF 64 a b)), .int .i64 (errW 64)]), some (.agg (fC (addF 64 a b))), some (.int .i64 (errW 64)), none, none, some (.int .i64 (errW 64))] mo f14.d f14.z f14.b (by kernel_rfl) trivial (
   hk (fun cx => cx.q (ex_mv rfl (cx.rq 7 s7_35))) <|
   hk (fun cx => cx.q (ex_mv rfl (cx.rq 1 s1_36))) <|
   hk (fun cx => cx.q (ex_mv rfl (cx.rq 2 s2_37))) <|
   hc (fun _ _ wx cx => cx.c rfl (args3 (cx.u 0 rfl) (cx.u 1 rfl) (cx.u 2 rfl)) Try.func9 (by decide +kernel) (add_n 64 a b wx ha hb) rfl rfl) <|
   kmu 0 <|
   hk (fun cx => cx.q (ex_ext (x := .tmp 26) rfl (cx.u 0 rfl) rfl)) <|
   hk (fun cx => cx.q (ex_ext (x := .tmp 26) rfl (cx.u 0 rfl) rfl)) <|
   hk (fun cx => cx.al (wn rfl) 0 rfl (al_f rfl) rfl rfl rfl rfl (by kernel_rfl) trivial) <|
   hk (fun cx => cx.stA (wn rfl) rfl rfl 0 0 rfl rfl rfl rfl (cx.u 1 rfl) (by kernel_rfl) (Eq.refl 5) (by simp [Value.oneCell']) f14.b.size rfl rfl trivial) <|
   kmu 0 <|
   hn) ?_
  intro a15 w15 f15
  obtain ⟨g2, u_g2, q_g2, b_g2⟩ := f15.al.1
  refine wp_seq ?_
  have s7_38 := f15.q 7 s7_35
  have s1_39 := f15.q 1 s1_36
  have s2_40 := f15.q 2 s2_37
  refine go_reg [] [⟨7, 12, 25, (fC zF), some 8, (fC (subF 64 a b))⟩] [some (.int .i8 64), some (.int .u64 a), some (.int .u64 b), some (.tuple #[.agg (fC (subF 64 a b)), .int .i64 (errW 64)]), some (.tuple #[.agg (fC (subF 64 a b)), .int .i64 (errW 64)]), some (.agg (fC (subF 64 a b))), some (.int .i64 (errW 64)), none, none, some (.int .i64 (errW 64))] mo f15.d f15.z f15.b (by kernel_rfl) trivial (
   hk (fun cx => cx.q (ex_mv rfl (cx.rq 7 s7_38))) <|
   hk (fun cx => cx.q (ex_mv rfl (cx.rq 1 s1_39))) <|
   hk (fun cx => cx.q (ex_mv rfl (cx.rq 2 s2_40))) <|
   hc (fun _ _ wx cx => cx.c rfl (args3 (cx.u 0 rfl) (cx.u 1 rfl) (cx.u 2 rfl)) Try.func11 (by decide +kernel) (sub_n 64 a b wx ha hb) rfl rfl) <|
   kmu 0 <|
   hk (fun cx => cx.q (ex_ext (x := .tmp 33) rfl (cx.u 0 rfl) rfl)) <|
   hk (fun cx => cx.q (ex_ext (x := .tmp 33) rfl (cx.u 0 rfl) rfl)) <|
   hk (fun cx => cx.al (wn rfl) 0 rfl (al_f rfl) rfl rfl rfl rfl (by kernel_rfl) trivial) <|
   hk (fun cx => cx.stA (wn rfl) rfl rfl 0 0 rfl rfl rfl rfl (cx.u 1 rfl) (by kernel_rfl) (Eq.refl 5) (by simp [Value.oneCell']) f15.b.size rfl rfl trivial) <|
   kmu 0 <|
   hn) ?_
  intro a16 w16 f16
  obtain ⟨g3, u_g3, q_g3, b_g3⟩ := f16.al.1
  refine wp_seq ?_
  have s7_41 := f16.q 7 s7_38
  have s1_42 := f16.q 1 s1_39
  have s2_43 := f16.q 2 s2_40
  refine go_reg [] [⟨8, 14, 25, (fC zF), some 9, (fC (ofF 64 (IntKind.u64.wrap (a + b))))⟩] [some (.int .i8 64), some (.int .u64 a), some (.int .u64 b), some (.int .u64 (IntKind.u64.wrap (a + b))), some (.tuple #[.agg (fC (ofF 64 (IntKind.u64.wrap (a + b)))), .int .i64 (errW 64)]), some (.tuple #[.agg (fC (ofF 64 (IntKind.u64.wrap (a + b)))), .int .i64 (errW 64)]), some (.agg (fC (ofF 64 (IntKind.u64.wrap (a + b))))), some (.int .i64 (errW 64)), none, none, some (.int .i64 (errW 64))] mo f16.d f16.z f16.b (by kernel_rfl) trivial (
   hk (fun cx => cx.q (ex_mv rfl (cx.rq 7 s7_41))) <|
   hk (fun cx => cx.q (ex_mv rfl (cx.rq 1 s1_42))) <|
   hk (fun cx => cx.q (ex_mv rfl (cx.rq 2 s2_43))) <|
   hk (fun cx => cx.q (ex_add (x := .tmp 42) (y := .tmp 43) rfl (cx.u 0 rfl) (cx.u 1 rfl))) <|
   hc (fun _ _ wx cx => cx.c rfl (args2 (cx.u 0 rfl) (cx.u 1 rfl)) Try.func13 (by decide +kernel) (of_n 64 (IntKind.u64.wrap (a + b)) wx (wrap_bd _)) rfl rfl) <|
   kmu 0 <|
   hk (fun cx => cx.q (ex_ext (x := .tmp 40) rfl (cx.u 0 rfl) rfl)) <|
   hk (fun cx => cx.q (ex_ext (x := .tmp 40) rfl (cx.u 0 rfl) rfl)) <|
   hk (fun cx => cx.al (wn rfl) 0 rfl (al_f rfl) rfl rfl rfl rfl (by kernel_rfl) trivial) <|
   hk (fun cx => cx.stA (wn rfl) rfl rfl 0 0 rfl rfl rfl rfl (cx.u 1 rfl) (by kernel_rfl) (Eq.refl 5) (by simp [Value.oneCell']) f16.b.size rfl rfl trivial) <|
   kmu 0 <|
   hn) ?_
  intro a17 w17 f17
  obtain ⟨g4, u_g4, q_g4, b_g4⟩ := f17.al.1
  refine wp_seq ?_
  have s7_44 := f17.q 7 s7_41
  have s1_45 := f17.q 1 s1_42
  have s2_46 := f17.q 2 s2_43
  refine go_reg [] [⟨8, 16, 25, (fC zF), some 9, (fC (ofF 64 (IntKind.u64.wrap (a - b))))⟩] [some (.int .i8 64), some (.int .u64 a), some (.int .u64 b), some (.int .u64 (IntKind.u64.wrap (a - b))), some (.tuple #[.agg (fC (ofF 64 (IntKind.u64.wrap (a - b)))), .int .i64 (errW 64)]), some (.tuple #[.agg (fC (ofF 64 (IntKind.u64.wrap (a - b)))), .int .i64 (errW 64)]), some (.agg (fC (ofF 64 (IntKind.u64.wrap (a - b))))), some (.int .i64 (errW 64)), none, none, some (.int .i64 (errW 64))] mo f17.d f17.z f17.b (by kernel_rfl) trivial (
   hk (fun cx => cx.q (ex_mv rfl (cx.rq 7 s7_44))) <|
   hk (fun cx => cx.q (ex_mv rfl (cx.rq 1 s1_45))) <|
   hk (fun cx => cx.q (ex_mv rfl (cx.rq 2 s2_46))) <|
   hk (fun cx => cx.q (ex_sub (x := .tmp 50) (y := .tmp 51) rfl (cx.u 0 rfl) (cx.u 1 rfl))) <|
   hc (fun _ _ wx cx => cx.c rfl (args2 (cx.u 0 rfl) (cx.u 1 rfl)) Try.func13 (by decide +kernel) (of_n 64 (IntKind.u64.wrap (a - b)) wx (wrap_bd _)) rfl rfl) <|
   kmu 0 <|
   hk (fun cx => cx.q (ex_ext (x := .tmp 48) rfl (cx.u 0 rfl) rfl)) <|
   hk (fun cx => cx.q (ex_ext (x := .tmp 48) rfl (cx.u 0 rfl) rfl)) <|
   hk (fun cx => cx.al (wn rfl) 0 rfl (al_f rfl) rfl rfl rfl rfl (by kernel_rfl) trivial) <|
   hk (fun cx => cx.stA (wn rfl) rfl rfl 0 0 rfl rfl rfl rfl (cx.u 1 rfl) (by kernel_rfl) (Eq.refl 5) (by simp [Value.oneCell']) f17.b.size rfl rfl trivial) <|
   kmu 0 <|
   hn) ?_
  intro a18 w18 f18
  obtain ⟨g5, u_g5, q_g5, b_g5⟩ := f18.al.1
  refine wp_seq ?_
  refine wp_seq ?_
  have s9_47 := f18.q 9 (f17.q 9 (f16.q 9 (f15.q 9 (f14.v 8 rfl rfl rfl))))
  have s11_48 := f18.q 11 (f17.q 11 (f16.q 11 (f15.v 9 rfl rfl rfl)))
  have s13_49 := f18.q 13 (f17.q 13 (f16.v 9 rfl rfl rfl))
  have s15_50 := f18.q 15 (f17.v 10 rfl rfl rfl)
  refine go_reg [] [] [some (.int .i64 (errW 64)), oF, oF, some (.int .i64 (errW 64)), oF, oF, oF, some (.int .i64 (errW 64)), oF, oF, oF, some (.int .i64 (errW 64)), oF, oF, oF, some (.int .i64 (errW 64)), oF, oF] mo f18.d f18.z f18.b (by kernel_rfl) trivial (
   hk (fun cx => cx.q (ex_mv rfl (cx.rq 9 s9_47))) <|
   hk (fun cx => cx.v (ex_ne (x := .tmp 56) rfl (cx.u 0 rfl) rfl) rfl (congrArg Value.bool (by decide +kernel))) <|
   kmu 0 <|
   hk (fun cx => cx.vy 0 (ex_mv rfl (cx.rq 11 s11_48))) <|
   hk (fun cx => cx.vy 1 (ex_ne (x := .tmp 59) rfl (cx.u 0 rfl) rfl) (congrArg Value.bool (by decide +kernel))) <|
   hk (fun cx => cx.q (ex_pf rfl (cx.u 0 rfl) (cx.u 1 rfl))) <|
   kmu 0 <|
   hk (fun cx => cx.vy 0 (ex_mv rfl (cx.rq 13 s13_49))) <|
   hk (fun cx => cx.vy 1 (ex_ne (x := .tmp 63) rfl (cx.u 0 rfl) rfl) (congrArg Value.bool (by decide +kernel))) <|
   hk (fun cx => cx.q (ex_pf rfl (cx.u 0 rfl) (cx.u 1 rfl))) <|
   kmu 0 <|
   hk (fun cx => cx.vy 0 (ex_mv rfl (cx.rq 15 s15_50))) <|
   hk (fun cx => cx.vy 1 (ex_ne (x := .tmp 67) rfl (cx.u 0 rfl) rfl) (congrArg Value.bool (by decide +kernel))) <|
   hk (fun cx => cx.q (ex_pf rfl (cx.u 0 rfl) (cx.u 1 rfl))) <|
   kmu 0 <|
   hk (fun cx => cx.vy 0 (ex_mv rfl (cx.rq 17 (f18.v 10 rfl rfl rfl)))) <|
   hk (fun cx => cx.vy 1 (ex_ne (x := .tmp 71) rfl (cx.u 0 rfl) rfl) (congrArg Value.bool (by decide +kernel))) <|
   hk (fun cx => cx.q (ex_pf rfl (cx.u 0 rfl) (cx.u 1 rfl))) <|
   hn) ?_
  intro a19 w19 f19
  refine wp_cond_false (f19.v 17 rfl rfl rfl) ?_
  refine wp_skip ?_
  refine wp_seq ?_
  have s1_51 := f19.q 1 (f18.q 1 s1_45)
  have s7_52 := f19.q 7 (f18.q 7 s7_44)
  refine go_reg [] [] [some (.int .u64 a), some (.int .i8 64), some (.int .u64 (cutI a 64)), some (.int .u64 (cutI a 64))] mo f19.d f19.z f19.b (by kernel_rfl) trivial (
   hk (fun cx => cx.q (ex_mv rfl (cx.rq 1 s1_51))) <|
   hk (fun cx => cx.q (ex_mv rfl (cx.rq 7 s7_52))) <|
   hc (fun _ _ wx cx => cx.c rfl (args2 (cx.u 0 rfl) (cx.u 1 rfl)) Try.func25 (by decide +kernel) (((refcut_any a 64 wx).mono (by rintro e w' ⟨rfl, rfl⟩; exact ⟨rfl, Below.refl _ _⟩))) rfl rfl) <|
   kmu 0 <|
   hn) ?_
  intro a20 w20 f20
  refine wp_seq ?_
  have b_g1_53 := f20.k (f19.k (f18.k (f17.k (f16.k (f15.k b_g1)))))
  have b_g2_54 := f20.k (f19.k (f18.k (f17.k (f16.k b_g2))))
  have b_g4_55 := f20.k (f19.k (f18.k b_g4))
  have b_g3_56 := f20.k (f19.k (f18.k (f17.k b_g3)))
  have b_g5_57 := f20.k (f19.k b_g5)
  have s8_58 := f20.q 8 (f19.q 8 (f18.q 8 (f17.q 8 (f16.q 8 (f15.q 8 u_g1)))))
  have s7_59 := f20.q 7 s7_52
  have s10_60 := f20.q 10 (f19.q 10 (f18.q 10 (f17.q 10 (f16.q 10 u_g2))))
  have s14_61 := f20.q 14 (f19.q 14 (f18.q 14 u_g4))
  have s12_62 := f20.q 12 (f19.q 12 (f18.q 12 (f17.q 12 u_g3)))
  have s16_63 := f20.q 16 (f19.q 16 u_g5)
  refine go_reg [bx g1 25 (fC (ofF 64 a)), bx g2 25 (fC (addF 64 a b)), bx g4 25 (fC (ofF 64 (IntKind.u64.wrap (a + b)))), bx g3 25 (fC (subF 64 a b)), bx g5 25 (fC (ofF 64 (IntKind.u64.wrap (a - b))))] [] (tabs [some (.agg (fC (ofF 64 a))), some (.int .u64 (cutI a 64)), some (.bool ((cutI a 64) == 0)), some (.int .u64 (cutI a 64)), some (.int .i8 64), some (.int .i8 63), some (.int .u64 ((cutI a 64) / 9223372036854775808)), some (.bool (((cutI a 64) / 9223372036854775808) == 1)), some (.agg (fC ⟨true, false, (cutI a 64) == 0, ((cutI a 64) / 9223372036854775808) == 1, false⟩)), oT, oT, some (pt g2 2), some (.bool (addF 64 a b).z), some (pt g4 2), some (.bool (ofF 64 (IntKind.u64.wrap (a + b))).z), oT, oT, oT, some (pt g2 3), some (.bool (addF 64 a b).s)] (tabs [some (pt g4 3), some (.bool (ofF 64 (IntKind.u64.wrap (a + b))).s), oT, oT, oT, some (pt g3 2), some (.bool (subF 64 a b).z), some (pt g5 2), some (.bool (ofF 64 (IntKind.u64.wrap (a - b))).z), oT, oT, oT, some (pt g3 3), some (.bool (subF 64 a b).s), some (pt g5 3), some (.bool (ofF 64 (IntKind.u64.wrap (a - b))).s), oT, oT, oT, some (pt g2 0)] [oT, oT, oT, some (pt g3 0), oT, oT, oT, oT, oT, oT])) mo f20.d f20.z f20.b (by kernel_rfl) ⟨b_g1_53, b_g2_54, b_g4_55, b_g3_56, b_g5_57, trivial⟩ (
   hk (fun cx => cx.q (ldF rfl (cx.rq 8 s8_58) (cx.rn 0 rfl))) <|
   hk (fun cx => cx.q (ex_mv rfl (cx.rq 18 (f20.v 3 rfl rfl rfl)))) <|
   hk (fun cx => cx.q (ex_eq (x := .tmp 78) rfl (cx.u 0 rfl) rfl)) <|
   hk (fun cx => cx.q (ex_mv rfl (cx.rq 18 (f20.v 3 rfl rfl rfl)))) <|
   hk (fun cx => cx.q (ex_mv rfl (cx.rq 7 s7_59))) <|
   hk (fun cx => cx.v (ex_sub (x := .tmp 81) rfl (cx.u 0 rfl) rfl) rfl (congrArg (Value.int .i8) (by decide +kernel))) <|
   hk (fun cx => cx.q (ex_sh63 (x := .tmp 80) (y := .tmp 82) rfl (cx.u 0 rfl) (cx.u 1 rfl))) <|
   hk (fun cx => cx.q (ex_eq (x := .tmp 83) rfl (cx.u 0 rfl) rfl)) <|
   hk (fun cx => cx.q (exec_build rfl (parts3 rfl (cx.u 0 rfl) (cx.u 1 rfl)) (by kernel_rfl))) <|
   hk (fun cx => cx.v (v := .bool (eqF (ofF 64 a) ⟨true, false, (cutI a 64) == 0, ((cutI a 64) / 9223372036854775808) == 1, false⟩)) (exec_eql (x := .tmp 77) (y := .tmp 85) rfl (cx.u 0 rfl) (cx.u 1 rfl) (by kernel_rfl) (eq_f (ofF 64 a) ⟨true, false, (cutI a 64) == 0, ((cutI a 64) / 9223372036854775808) == 1, false⟩ _)) rfl (congrArg Value.bool (ofF_is rfl (tp_64 ha)))) <|
   kmu 0 <|
   hk (fun cx => cx.vy 0 (ex_fa rfl (cx.rq 10 s10_60) (faFlagsOfW25_2_0 _ _))) <|
   hk (fun cx => cx.vy 1 (ex_ld rfl (cx.u 0 rfl) (cx.rn 1 rfl) rfl Try.isAgg4)) <|
   hk (fun cx => cx.vy 0 (ex_fa rfl (cx.rq 14 s14_61) (faFlagsOfW25_2_0 _ _))) <|
   hk (fun cx => cx.vy 1 (ex_ld rfl (cx.u 0 rfl) (cx.rn 2 rfl) rfl Try.isAgg4)) <|
   hk (fun cx => cx.vy (v := .bool ((addF 64 a b).z == (ofF 64 (IntKind.u64.wrap (a + b))).z)) 2 (ex_beq (x := .tmp 89) (y := .tmp 91) rfl (cx.u 0 rfl) (cx.u 1 rfl)) (congrArg Value.bool (addF_zs (w := 64) rfl a b).2.1)) <|
   hk (fun cx => cx.q (ex_pt rfl (cx.u 0 rfl) (cx.u 1 rfl))) <|
   kmu 0 <|
   hk (fun cx => cx.vy 0 (ex_fa rfl (cx.rq 10 s10_60) (faFlagsOfW25_3_0 _ _))) <|
   hk (fun cx => cx.vy 1 (ex_ld rfl (cx.u 0 rfl) (cx.rn 1 rfl) rfl Try.isAgg4)) <|
   hk (fun cx => cx.vy 0 (ex_fa rfl (cx.rq 14 s14_61) (faFlagsOfW25_3_0 _ _))) <|
   hk (fun cx => cx.vy 1 (ex_ld rfl (cx.u 0 rfl) (cx.rn 2 rfl) rfl Try.isAgg4)) <|
   hk (fun cx => cx.vy (v := .bool ((addF 64 a b).s == (ofF 64 (IntKind.u64.wrap (a + b))).s)) 2 (ex_beq (x := .tmp 96) (y := .tmp 98) rfl (cx.u 0 rfl) (cx.u 1 rfl)) (congrArg Value.bool (addF_zs (w := 64) rfl a b).2.2)) <|
   hk (fun cx => cx.q (ex_pt rfl (cx.u 0 rfl) (cx.u 1 rfl))) <|
   kmu 0 <|
   hk (fun cx => cx.vy 0 (ex_fa rfl (cx.rq 12 s12_62) (faFlagsOfW25_2_0 _ _))) <|
   hk (fun cx => cx.vy 1 (ex_ld rfl (cx.u 0 rfl) (cx.rn 3 rfl) rfl Try.isAgg4)) <|
   hk (fun cx => cx.vy 0 (ex_fa rfl (cx.rq 16 s16_63) (faFlagsOfW25_2_0 _ _))) <|
   hk (fun cx => cx.vy 1 (ex_ld rfl (cx.u 0 rfl) (cx.rn 4 rfl) rfl Try.isAgg4)) <|
   hk (fun cx => cx.vy (v := .bool ((subF 64 a b).z == (ofF 64 (IntKind.u64.wrap (a - b))).z)) 2 (ex_beq (x := .tmp 103) (y := .tmp 105) rfl (cx.u 0 rfl) (cx.u 1 rfl)) (congrArg Value.bool (subF_zs (w := 64) rfl a b).2.1)) <|
   hk (fun cx => cx.q (ex_pt rfl (cx.u 0 rfl) (cx.u 1 rfl))) <|
   kmu 0 <|
   hk (fun cx => cx.vy 0 (ex_fa rfl (cx.rq 12 s12_62) (faFlagsOfW25_3_0 _ _))) <|
   hk (fun cx => cx.vy 1 (ex_ld rfl (cx.u 0 rfl) (cx.rn 3 rfl) rfl Try.isAgg4)) <|
   hk (fun cx => cx.vy 0 (ex_fa rfl (cx.rq 16 s16_63) (faFlagsOfW25_3_0 _ _))) <|
   hk (fun cx => cx.vy 1 (ex_ld rfl (cx.u 0 rfl) (cx.rn 4 rfl) rfl Try.isAgg4)) <|
   hk (fun cx => cx.vy (v := .bool ((subF 64 a b).s == (ofF 64 (IntKind.u64.wrap (a - b))).s)) 2 (ex_beq (x := .tmp 110) (y := .tmp 112) rfl (cx.u 0 rfl) (cx.u 1 rfl)) (congrArg Value.bool (subF_zs (w := 64) rfl a b).2.2)) <|
   hk (fun cx => cx.q (ex_pt rfl (cx.u 0 rfl) (cx.u 1 rfl))) <|
   kmu 0 <|
   hk (fun cx => cx.vy 0 (ex_fa rfl (cx.rq 10 s10_60) (faFlagsOfW25_0_0 _ _))) <|
   hk (fun cx => cx.vy 1 (ex_ld rfl (cx.u 0 rfl) (cx.rn 1 rfl) rfl Try.isAgg4) (congrArg Value.bool (addF_zs (w := 64) rfl a b).1)) <|
   hk (fun cx => cx.q (ex_pt rfl (cx.u 0 rfl) (cx.u 1 rfl))) <|
   kmu 0 <|
   hk (fun cx => cx.vy 0 (ex_fa rfl (cx.rq 12 s12_62) (faFlagsOfW25_0_0 _ _))) <|
   hk (fun cx => cx.vy 1 (ex_ld rfl (cx.u 0 rfl) (cx.rn 3 rfl) rfl Try.isAgg4) (congrArg Value.bool (subF_zs (w := 64) rfl a b).1)) <|
   hk (fun cx => cx.q (ex_pt rfl (cx.u 0 rfl) (cx.u 1 rfl))) <|
   kmu 0 <|
   hc (fun _ _ wx cx => cx.call (cx.wy rfl rfl rfl rfl (cx.u 0 rfl)) rfl rfl (args0 ) Try.func17 (by decide +kernel) rfl (wakes_n wx) rfl rfl rfl rfl) <|
   hk (fun cx => cx.q (ex_pt rfl (cx.u 0 rfl) (cx.u 1 rfl))) <|
   kmu 0 <|
   hn) ?_
  intro a21 w21 f21
  refine wp_ret ?_
  try simp only [Exit.inBlock, Exit.then]
  refine bodyPost_ret (res_t (fn := Try.f8) rfl (f21.v 49 rfl rfl rfl)) f21.d ?_
  exact ⟨rfl, f21.b⟩

theorem of_law (wide : Bool) (a b : Int) (W : World) (ha : (Lit.int .u64 a).wf = true) (hb : (Lit.int .u64 b).wf = true) : Calls Try.prog 8 #[.bool wide, .int .u64 a, .int .u64 b] W fun e w' => e = .returned (.bool true) ∧ Below W.heap.size W w' :=
  of_w wide a b W (bd_u64 ha) (bd_u64 hb)
end Go.Proofs.Ytllnengcmfgmhaa.Flg
