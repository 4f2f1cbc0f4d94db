/-
  What wakes asks; small facts. (Written by gen_fli.py.)
-/
import Derived.Test.YtllnengcmfgmhaaFlH
import Derived.Test.YtllnengcmfgmhaaEnd
namespace Go.Proofs.Ytllnengcmfgmhaa.Flg
open Go Go.RowKit
set_option linter.unusedVariables false
set_option linter.unusedSimpArgs false
set_option linter.unnecessarySimpa false
set_option maxRecDepth 100000

theorem faFlI25_4_0 (g : Nat) (w : World) : (Instr.fieldAt 25 (.pointer (some ⟨g, 0, none⟩)) 4).run Try.prog w = .ok (.pointer (some ⟨g, 4, none⟩)) w := by simp [go_sem]
theorem faFlI25_1_0 (g : Nat) (w : World) : (Instr.fieldAt 25 (.pointer (some ⟨g, 0, none⟩)) 1).run Try.prog w = .ok (.pointer (some ⟨g, 1, none⟩)) w := by simp [go_sem]


set_option maxHeartbeats 4000000 in
theorem wakes_n  (W : World) : Calls Try.prog 17 #[] W fun e w' => e = .returned (.bool true) ∧ Below W.heap.size W w' := by
  refine calls_abs Try.func17 rfl (Nat.le_of_ble_eq_true rfl) ?_
  intro a0 d0 z0 h0
  replace z0 : a0.tmps.size = 56 := z0
  refine wp_seq ?_
  refine go_reg [] [] [oF] mo d0 z0 (Below.refl _ _) (by kernel_rfl) trivial (
   hk (fun cx => cx.q (ex_as rfl rfl)) <|
   hn) ?_
  intro a1 w1 f1
  refine wp_seq ?_
  refine go_reg [] [⟨4, 1, 25, (fC zF), some 5, (fC (subF 64 5 7))⟩] [some (.tuple #[.agg (fC (subF 64 5 7)), .int .i64 (errW 64)]), some (.tuple #[.agg (fC (subF 64 5 7)), .int .i64 (errW 64)]), some (.agg (fC (subF 64 5 7))), some (.int .i64 (errW 64)), none, none, some (.int .i64 (errW 64))] mo f1.d f1.z f1.b (by kernel_rfl) trivial (
   hc (fun _ _ wx cx => cx.c rfl (args3 rfl rfl rfl) Try.func11 (by decide +kernel) (sub_n 64 5 7 wx ⟨by omega, by omega⟩ ⟨by omega, by omega⟩) rfl rfl) <|
   kmu 0 <|
   hk (fun cx => cx.q (ex_ext (x := .tmp 9) rfl (cx.u 0 rfl) rfl)) <|
   hk (fun cx => cx.q (ex_ext (x := .tmp 9) rfl (cx.u 0 rfl) rfl)) <|
   hk (fun cx => cx.al (wn rfl) 0 rfl (al_f rfl) rfl rfl rfl rfl (by kernel_rfl) trivial) <|
   hk (fun cx => cx.stA (wn rfl) rfl rfl 0 0 rfl rfl rfl rfl (cx.u 1 rfl) (by kernel_rfl) (Eq.refl 5) (by simp [Value.oneCell']) f1.b.size rfl rfl trivial) <|
   kmu 0 <|
   hn) ?_
  intro a2 w2 f2
  obtain ⟨g1, u_g1, q_g1, b_g1⟩ := f2.al.1
  refine wp_seq ?_
  refine go_reg [] [⟨4, 3, 25, (fC zF), some 5, (fC (subF 64 9223372036854775808 1))⟩] [some (.tuple #[.agg (fC (subF 64 9223372036854775808 1)), .int .i64 (errW 64)]), some (.tuple #[.agg (fC (subF 64 9223372036854775808 1)), .int .i64 (errW 64)]), some (.agg (fC (subF 64 9223372036854775808 1))), some (.int .i64 (errW 64)), none, none, some (.int .i64 (errW 64))] mo f2.d f2.z f2.b (by kernel_rfl) trivial (
   hc (fun _ _ wx cx => cx.c rfl (args3 rfl rfl rfl) Try.func11 (by decide +kernel) (sub_n 64 9223372036854775808 1 wx ⟨by omega, by omega⟩ ⟨by omega, by omega⟩) rfl rfl) <|
   kmu 0 <|
   hk (fun cx => cx.q (ex_ext (x := .tmp 13) rfl (cx.u 0 rfl) rfl)) <|
   hk (fun cx => cx.q (ex_ext (x := .tmp 13) rfl (cx.u 0 rfl) rfl)) <|
   hk (fun cx => cx.al (wn rfl) 0 rfl (al_f rfl) rfl rfl rfl rfl (by kernel_rfl) trivial) <|
   hk (fun cx => cx.stA (wn rfl) rfl rfl 0 0 rfl rfl rfl rfl (cx.u 1 rfl) (by kernel_rfl) (Eq.refl 5) (by simp [Value.oneCell']) f2.b.size rfl rfl trivial) <|
   kmu 0 <|
   hn) ?_
  intro a3 w3 f3
  obtain ⟨g2, u_g2, q_g2, b_g2⟩ := f3.al.1
  refine wp_seq ?_
  have b_g1_1 := f3.k b_g1
  have s1_2 := f3.q 1 u_g1
  refine go_reg [bx g1 25 (fC (subF 64 5 7))] [] [some (.agg (fC (subF 64 5 7))), some (.tuple #[.bool (holF 2 (subF 64 5 7)), .int .i64 (holE 2 (subF 64 5 7))]), some (.tuple #[.bool (holF 2 (subF 64 5 7)), .int .i64 (holE 2 (subF 64 5 7))]), oT, some (.int .i64 (holE 2 (subF 64 5 7))), oT, some (.int .i64 (holE 2 (subF 64 5 7)))] mo f3.d f3.z f3.b (by kernel_rfl) ⟨b_g1_1, trivial⟩ (
   hk (fun cx => cx.q (ldF rfl (cx.rq 1 s1_2) (cx.rn 0 rfl))) <|
   hc (fun _ _ wx cx => cx.c rfl (args2 rfl (cx.u 0 rfl)) Try.func18 (by decide +kernel) (holds_n 2 (subF 64 5 7) wx (by omega)) rfl rfl) <|
   kmu 0 <|
   hk (fun cx => cx.v (ex_ext (x := .tmp 17) rfl (cx.u 0 rfl) rfl) rfl (congrArg Value.bool (by decide +kernel))) <|
   hk (fun cx => cx.q (ex_ext (x := .tmp 17) rfl (cx.u 0 rfl) rfl)) <|
   kmu 0 <|
   kmu 0 <|
   hn) ?_
  intro a4 w4 f4
  refine wp_seq ?_
  have b_g1_3 := f4.k b_g1_1
  have s1_4 := f4.q 1 s1_2
  refine go_reg [bx g1 25 (fC (subF 64 5 7))] [] [some (.agg (fC (subF 64 5 7))), some (.tuple #[.bool (holF 12 (subF 64 5 7)), .int .i64 (holE 12 (subF 64 5 7))]), some (.tuple #[.bool (holF 12 (subF 64 5 7)), .int .i64 (holE 12 (subF 64 5 7))]), oT, some (.int .i64 (holE 12 (subF 64 5 7))), oT, some (.int .i64 (holE 12 (subF 64 5 7)))] mo f4.d f4.z f4.b (by kernel_rfl) ⟨b_g1_3, trivial⟩ (
   hk (fun cx => cx.q (ldF rfl (cx.rq 1 s1_4) (cx.rn 0 rfl))) <|
   hc (fun _ _ wx cx => cx.c rfl (args2 rfl (cx.u 0 rfl)) Try.func18 (by decide +kernel) (holds_n 12 (subF 64 5 7) wx (by omega)) rfl rfl) <|
   kmu 0 <|
   hk (fun cx => cx.v (ex_ext (x := .tmp 22) rfl (cx.u 0 rfl) rfl) rfl (congrArg Value.bool (by decide +kernel))) <|
   hk (fun cx => cx.q (ex_ext (x := .tmp 22) rfl (cx.u 0 rfl) rfl)) <|
   kmu 0 <|
   kmu 0 <|
   hn) ?_
  intro a5 w5 f5
  refine wp_seq ?_
  have b_g2_5 := f5.k (f4.k b_g2)
  have s2_6 := f5.q 2 (f4.q 2 (f3.q 2 (f2.v 6 rfl rfl rfl)))
  have s4_7 := f5.q 4 (f4.q 4 (f3.v 6 rfl rfl rfl))
  have s6_8 := f5.q 6 (f4.v 6 rfl rfl rfl)
  have s5_9 := f5.q 5 (f4.v 5 rfl rfl rfl)
  have s3_10 := f5.q 3 (f4.q 3 u_g2)
  refine go_reg [bx g2 25 (fC (subF 64 9223372036854775808 1))] [] (tabs [some (.int .i64 (errW 64)), oT, oT, some (.int .i64 (errW 64)), oT, oT, oT, some (.int .i64 (holE 2 (subF 64 5 7))), oT, oT, oT, some (.int .i64 (holE 12 (subF 64 5 7))), oT, oT, oT, oT, oT, oT, oT, oT] [oT, some (pt g2 4), oT, oT, oT, some (pt g2 1), oF, oT, oT, oT]) mo f5.d f5.z f5.b (by kernel_rfl) ⟨b_g2_5, trivial⟩ (
   hk (fun cx => cx.q (ex_mv rfl (cx.rq 2 s2_6))) <|
   hk (fun cx => cx.v (ex_eq (x := .tmp 27) rfl (cx.u 0 rfl) rfl) rfl (congrArg Value.bool (by decide +kernel))) <|
   kmu 0 <|
   hk (fun cx => cx.vy 0 (ex_mv rfl (cx.rq 4 s4_7))) <|
   hk (fun cx => cx.vy 1 (ex_eq (x := .tmp 30) rfl (cx.u 0 rfl) rfl) (congrArg Value.bool (by decide +kernel))) <|
   hk (fun cx => cx.q (ex_pt rfl (cx.u 0 rfl) (cx.u 1 rfl))) <|
   kmu 0 <|
   hk (fun cx => cx.vy 0 (ex_mv rfl (cx.rq 6 s6_8))) <|
   hk (fun cx => cx.vy 1 (ex_eq (x := .tmp 34) rfl (cx.u 0 rfl) rfl) (congrArg Value.bool (by decide +kernel))) <|
   hk (fun cx => cx.q (ex_pt rfl (cx.u 0 rfl) (cx.u 1 rfl))) <|
   kmu 0 <|
   hk (fun cx => cx.vy 0 (ex_mv rfl (cx.rq 8 (f5.v 6 rfl rfl rfl)))) <|
   hk (fun cx => cx.vy 1 (ex_eq (x := .tmp 38) rfl (cx.u 0 rfl) rfl) (congrArg Value.bool (by decide +kernel))) <|
   hk (fun cx => cx.q (ex_pt rfl (cx.u 0 rfl) (cx.u 1 rfl))) <|
   kmu 0 <|
   hk (fun cx => cx.vy 0 (ex_mv rfl (cx.rq 5 s5_9))) <|
   hk (fun cx => cx.q (ex_pt rfl (cx.u 0 rfl) (cx.u 1 rfl))) <|
   kmu 0 <|
   hk (fun cx => cx.vy 0 (ex_mv rfl (cx.rq 7 (f5.v 5 rfl rfl rfl)))) <|
   hk (fun cx => cx.q (ex_pt rfl (cx.u 0 rfl) (cx.u 1 rfl))) <|
   kmu 0 <|
   hk (fun cx => cx.vy 0 (ex_fa rfl (cx.rq 3 s3_10) (faFlI25_4_0 _ _))) <|
   hk (fun cx => cx.vy 1 (ex_ld rfl (cx.u 0 rfl) (cx.rn 0 rfl) rfl Try.isAgg4) (congrArg Value.bool (by decide +kernel))) <|
   hk (fun cx => cx.q (ex_pt rfl (cx.u 0 rfl) (cx.u 1 rfl))) <|
   kmu 0 <|
   hk (fun cx => cx.vy 0 (ex_fa rfl (cx.rq 3 s3_10) (faFlI25_1_0 _ _))) <|
   hk (fun cx => cx.vy 1 (ex_ld rfl (cx.u 0 rfl) (cx.rn 0 rfl) rfl Try.isAgg4) (congrArg Value.bool (by decide +kernel))) <|
   hk (fun cx => cx.vy 1 (ex_not (x := .tmp 53) rfl (cx.u 0 rfl))) <|
   hk (fun cx => cx.q (ex_pt rfl (cx.u 0 rfl) (cx.u 1 rfl))) <|
   kmu 0 <|
   hn) ?_
  intro a6 w6 f6
  refine wp_ret ?_
  try simp only [Exit.inBlock, Exit.then]
  refine bodyPost_ret (res_t (fn := Try.f17) rfl (f6.v 29 rfl rfl rfl)) f6.d ?_
  exact ⟨rfl, f6.b⟩

theorem eq_f_self (a : Fl) (w : World) : (Op.equalIn 10000 25 (.agg (fC a)) (.agg (fC a))).run Try.prog w = .ok true w := by
  have := eq_f a a w
  rw [eqF_self] at this
  exact this
theorem wrap_bd (x : Int) : 0 ≤ IntKind.u64.wrap x ∧ IntKind.u64.wrap x < 18446744073709551616 := by rw [IntKind.wrap_u64]; omega
theorem bd_i8 {a : Int} (h : (Lit.int .i8 a).wf = true) : -128 ≤ a ∧ a ≤ 127 := by simpa [Lit.wf, IntKind.min, IntKind.max, IntKind.bits, IntKind.signed] using h
theorem bd_u64 {a : Int} (h : (Lit.int .u64 a).wf = true) : 0 ≤ a ∧ a < 18446744073709551616 := by
  have : 0 ≤ a ∧ a ≤ 18446744073709551615 := by simpa [Lit.wf, IntKind.min, IntKind.max, IntKind.bits, IntKind.signed] using h
  omega
end Go.Proofs.Ytllnengcmfgmhaa.Flg
