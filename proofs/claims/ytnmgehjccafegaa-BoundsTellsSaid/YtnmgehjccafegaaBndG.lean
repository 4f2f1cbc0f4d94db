/-
  Package bounds: Do. (Written by gen_bndd.py.)
-/
import Derived.Test.YtnmgehjccafegaaBndE
import Derived.Test.YtnmgehjccafegaaBndF
namespace Go.Proofs.Ytnmgehjccafegaa.Bnd
open Go.RowKit
set_option linter.unusedVariables false
set_option linter.unusedSimpArgs false
set_option linter.unnecessarySimpa false
set_option maxRecDepth 100000



set_option maxHeartbeats 8000000 in
theorem do_n (op a b c d p q r t : Int) (W : World) (ha : Rg.Ok ⟨⟨a, b⟩, ⟨c, d⟩⟩) (hb : Rg.Ok ⟨⟨p, q⟩, ⟨r, t⟩⟩) : Calls Try.prog 39 #[.int .i8 op, .agg #[.int .u64 a, .int .u64 b, .int .i64 c, .int .i64 d], .agg #[.int .u64 p, .int .u64 q, .int .i64 r, .int .i64 t]] W fun e w' => e = .returned (.agg #[.int .u64 (Rg.doR op ⟨⟨a, b⟩, ⟨c, d⟩⟩ ⟨⟨p, q⟩, ⟨r, t⟩⟩).u.lo, .int .u64 (Rg.doR op ⟨⟨a, b⟩, ⟨c, d⟩⟩ ⟨⟨p, q⟩, ⟨r, t⟩⟩).u.hi, .int .i64 (Rg.doR op ⟨⟨a, b⟩, ⟨c, d⟩⟩ ⟨⟨p, q⟩, ⟨r, t⟩⟩).s.lo, .int .i64 (Rg.doR op ⟨⟨a, b⟩, ⟨c, d⟩⟩ ⟨⟨p, q⟩, ⟨r, t⟩⟩).s.hi]) ∧ Below W.heap.size W w' := by
  have HA := Lib.hid ha
  have HB := Lib.hid hb
  clear ha hb
  refine calls_abs Try.func39 rfl (Nat.le_of_ble_eq_true rfl) ?_
  intro a0 d0 z0 h0
  replace z0 : a0.tmps.size = 71 := z0
  have s0_0 : a0.tmps.getD 0 undef = .int .i8 op := h0 0 (Nat.le_of_ble_eq_true rfl)
  have s1_0 : a0.tmps.getD 1 undef = .agg (cR a b c d) := h0 1 (Nat.le_of_ble_eq_true rfl)
  have s2_0 : a0.tmps.getD 2 undef = .agg (cR p q r t) := h0 2 (Nat.le_of_ble_eq_true rfl)
  refine wp_seq ?_
  refine go_reg [] [⟨0, 4, 60, (cR a b c d), none, #[]⟩, ⟨1, 5, 60, (cR p q r t), none, #[]⟩, ⟨2, 6, 60, (cR 0 0 0 0), none, #[]⟩] [none, none, none] mo d0 z0 (Below.refl _ _) (by kernel_rfl) trivial (
   hc (fun _ ax _ cx => cx.al (wn rfl) 0 rfl (by simp [execOp, Act.eval, (show ax.tmps.getD 1 undef = .agg (cR a b c d) from (cx.rq 1 s1_0)), go_sem]) rfl rfl rfl rfl rfl trivial) <|
   hc (fun _ ax _ cx => cx.al (wn rfl) 1 rfl (by simp [execOp, Act.eval, (show ax.tmps.getD 2 undef = .agg (cR p q r t) from (cx.rq 2 s2_0)), go_sem]) rfl rfl rfl rfl rfl trivial) <|
   hk (fun cx => cx.al (wn rfl) 2 rfl (by simp [execOp, Act.eval, go_sem]) rfl rfl rfl rfl rfl trivial) <|
   hn) ?_
  intro a1 w1 f1
  obtain ⟨g1, u_g1, q_g1, b_g1⟩ := f1.al.1
  obtain ⟨g2, u_g2, q_g2, b_g2⟩ := f1.al.2.1
  obtain ⟨g3, u_g3, q_g3, b_g3⟩ := f1.al.2.2.1
  refine wp_seq ?_
  refine wp_seq ?_
  cases fk1 : Rg.mayB ⟨⟨a, b⟩, ⟨c, d⟩⟩
  case false =>
   have Ffk1 := Lib.hid fk1; clear fk1
   refine go_reg [bx g1 60 (cR a b c d)] [] [some (.agg (cR a b c d)), some (.bool false), some (.bool true), some (.bool true), some (undef), some (undef), some (undef), some (.bool true)] mo f1.d f1.z f1.b (by kernel_rfl) ⟨b_g1, trivial⟩ (
    hk (fun cx => cx.v (ldR rfl (cx.rq 4 u_g1) (cx.rn 0 rfl)) rfl rfl) <|
    hc (fun _ _ wx cx => cx.c rfl (args1 (cx.u 0 rfl)) Try.func27 (by decide +kernel) (may_n a b c d wx) rfl (congrArg Value.bool Ffk1.out)) <|
    hk (fun cx => cx.v (ex_not (x := .tmp 12) rfl (cx.u 0 rfl)) rfl rfl) <|
    hk (fun cx => cx.v (ex_mv rfl (cx.u 0 rfl)) rfl rfl) <|
    hk (fun cx => cx.no (cx.wo rfl rfl rfl rfl (cx.u 0 rfl) rfl) rfl rfl rfl rfl) <|
    hk (fun cx => cx.no (cx.wo rfl rfl rfl rfl (cx.u 1 rfl) rfl) rfl rfl rfl rfl) <|
    hk (fun cx => cx.no (cx.wo rfl rfl rfl rfl (cx.u 1 rfl) rfl) rfl rfl rfl rfl) <|
    hk (fun cx => cx.v (ex_pt rfl (cx.u 0 rfl) rfl) rfl rfl) <|
    hn) ?_
   intro a2 w2 f2
   refine wp_cond_true (f2.v 7 rfl rfl rfl) ?_
   refine wp_seq ?_
   have b_g3_1 := f2.k b_g3
   have s6_2 := f2.q 6 u_g3
   refine go_reg [⟨g3, 60, (cR 0 0 0 0), some 1, (cR allR.u.lo allR.u.hi allR.s.lo allR.s.hi)⟩] [] [some (.agg (cR allR.u.lo allR.u.hi allR.s.lo allR.s.hi)), none] mo f2.d f2.z f2.b (by kernel_rfl) ⟨b_g3_1, trivial⟩ (
    hc (fun _ _ wx cx => cx.c rfl (args0 ) Try.func29 (by decide +kernel) (all_n wx) rfl rfl) <|
    hk (fun cx => cx.stR (wn rfl) rfl rfl 0 rfl (cx.rq 6 s6_2) (cx.u 0 rfl) (by kernel_rfl) rfl (by simp [Value.oneCell']) q_g3 rfl trivial trivial) <|
    hn) ?_
   intro a3 w3 f3
   refine wp_ret ?_
   have s6_3 := f3.q 6 s6_2
   try simp only [Exit.inBlock, Exit.then]
   refine bodyPost_ret (res_c (fn := Try.f39) rfl s6_3 (load_row 60 f3.rows.1 Try.underlying60 rfl (by kernel_rfl))) f3.d ?_
   have HE : (.agg (cR allR.u.lo allR.u.hi allR.s.lo allR.s.hi) : Value) = Rg.val (Rg.doR op ⟨⟨a, b⟩, ⟨c, d⟩⟩ ⟨⟨p, q⟩, ⟨r, t⟩⟩) := by unfold Rg.doR; rw [Ffk1.out]; rfl
   exact ⟨retV HE, f3.b⟩
  have Ffk1 := Lib.hid fk1; clear fk1
  cases fk2 : Rg.mayB ⟨⟨p, q⟩, ⟨r, t⟩⟩
  case false =>
   have Ffk2 := Lib.hid fk2; clear fk2
   refine go_reg [bx g1 60 (cR a b c d), bx g2 60 (cR p q r t)] [] [some (.agg (cR a b c d)), some (.bool true), some (.bool false), some (.bool false), some (.agg (cR p q r t)), some (.bool false), some (.bool true), some (.bool true)] mo f1.d f1.z f1.b (by kernel_rfl) ⟨b_g1, b_g2, trivial⟩ (
    hk (fun cx => cx.v (ldR rfl (cx.rq 4 u_g1) (cx.rn 0 rfl)) rfl rfl) <|
    hc (fun _ _ wx cx => cx.c rfl (args1 (cx.u 0 rfl)) Try.func27 (by decide +kernel) (may_n a b c d wx) rfl (congrArg Value.bool Ffk1.out)) <|
    hk (fun cx => cx.v (ex_not (x := .tmp 12) rfl (cx.u 0 rfl)) rfl rfl) <|
    hk (fun cx => cx.v (ex_mv rfl (cx.u 0 rfl)) rfl rfl) <|
    hk (fun cx => cx.val (cx.wy rfl rfl rfl rfl (cx.u 0 rfl)) (ldR rfl (cx.rq 5 u_g2) (cx.rn 1 rfl)) rfl rfl rfl rfl) <|
    hc (fun _ _ wx cx => cx.call (cx.wy rfl rfl rfl rfl (cx.u 1 rfl)) rfl rfl (args1 (cx.u 0 rfl)) Try.func27 (by decide +kernel) rfl (may_n p q r t wx) rfl rfl (congrArg Value.bool Ffk2.out) rfl) <|
    hk (fun cx => cx.val (cx.wy rfl rfl rfl rfl (cx.u 1 rfl)) (ex_not (x := .tmp 16) rfl (cx.u 0 rfl)) rfl rfl rfl rfl) <|
    hk (fun cx => cx.v (ex_pf rfl (cx.u 0 rfl) (cx.u 1 rfl)) rfl rfl) <|
    hn) ?_
   intro a4 w4 f4
   refine wp_cond_true (f4.v 7 rfl rfl rfl) ?_
   refine wp_seq ?_
   have b_g3_4 := f4.k b_g3
   have s6_5 := f4.q 6 u_g3
   refine go_reg [⟨g3, 60, (cR 0 0 0 0), some 1, (cR allR.u.lo allR.u.hi allR.s.lo allR.s.hi)⟩] [] [some (.agg (cR allR.u.lo allR.u.hi allR.s.lo allR.s.hi)), none] mo f4.d f4.z f4.b (by kernel_rfl) ⟨b_g3_4, trivial⟩ (
    hc (fun _ _ wx cx => cx.c rfl (args0 ) Try.func29 (by decide +kernel) (all_n wx) rfl rfl) <|
    hk (fun cx => cx.stR (wn rfl) rfl rfl 0 rfl (cx.rq 6 s6_5) (cx.u 0 rfl) (by kernel_rfl) rfl (by simp [Value.oneCell']) q_g3 rfl trivial trivial) <|
    hn) ?_
   intro a5 w5 f5
   refine wp_ret ?_
   have s6_6 := f5.q 6 s6_5
   try simp only [Exit.inBlock, Exit.then]
   refine bodyPost_ret (res_c (fn := Try.f39) rfl s6_6 (load_row 60 f5.rows.1 Try.underlying60 rfl (by kernel_rfl))) f5.d ?_
   have HE : (.agg (cR allR.u.lo allR.u.hi allR.s.lo allR.s.hi) : Value) = Rg.val (Rg.doR op ⟨⟨a, b⟩, ⟨c, d⟩⟩ ⟨⟨p, q⟩, ⟨r, t⟩⟩) := by unfold Rg.doR; rw [Ffk1.out, Ffk2.out]; rfl
   exact ⟨retV HE, f5.b⟩
  have Ffk2 := Lib.hid fk2; clear fk2
  refine go_reg [bx g1 60 (cR a b c d), bx g2 60 (cR p q r t)] [] [some (.agg (cR a b c d)), some (.bool true), some (.bool false), some (.bool false), some (.agg (cR p q r t)), some (.bool true), some (.bool false), some (.bool false)] mo f1.d f1.z f1.b (by kernel_rfl) ⟨b_g1, b_g2, trivial⟩ (
   hk (fun cx => cx.v (ldR rfl (cx.rq 4 u_g1) (cx.rn 0 rfl)) rfl rfl) <|
   hc (fun _ _ wx cx => cx.c rfl (args1 (cx.u 0 rfl)) Try.func27 (by decide +kernel) (may_n a b c d wx) rfl (congrArg Value.bool Ffk1.out)) <|
   hk (fun cx => cx.v (ex_not (x := .tmp 12) rfl (cx.u 0 rfl)) rfl rfl) <|
   hk (fun cx => cx.v (ex_mv rfl (cx.u 0 rfl)) rfl rfl) <|
   hk (fun cx => cx.val (cx.wy rfl rfl rfl rfl (cx.u 0 rfl)) (ldR rfl (cx.rq 5 u_g2) (cx.rn 1 rfl)) rfl rfl rfl rfl) <|
   hc (fun _ _ wx cx => cx.call (cx.wy rfl rfl rfl rfl (cx.u 1 rfl)) rfl rfl (args1 (cx.u 0 rfl)) Try.func27 (by decide +kernel) rfl (may_n p q r t wx) rfl rfl (congrArg Value.bool Ffk2.out) rfl) <|
   hk (fun cx => cx.val (cx.wy rfl rfl rfl rfl (cx.u 1 rfl)) (ex_not (x := .tmp 16) rfl (cx.u 0 rfl)) rfl rfl rfl rfl) <|
   hk (fun cx => cx.v (ex_pf rfl (cx.u 0 rfl) (cx.u 1 rfl)) rfl rfl) <|
   hn) ?_
  intro a6 w6 f6
  refine wp_cond_false (f6.v 7 rfl rfl rfl) ?_
  refine wp_skip ?_
  refine wp_seq ?_
  refine go_reg [] [⟨4, 7, 89, (cU 0 0), some 6, (cU allR.u.lo allR.u.hi)⟩, ⟨5, 8, 93, (cS 0 0), some 7, (cS allR.s.lo allR.s.hi)⟩] [some (.agg (cR allR.u.lo allR.u.hi allR.s.lo allR.s.hi)), some (.agg (cU allR.u.lo allR.u.hi)), some (.agg (cR allR.u.lo allR.u.hi allR.s.lo allR.s.hi)), some (.agg (cS allR.s.lo allR.s.hi)), none, none, none, none] mo f6.d f6.z f6.b (by kernel_rfl) trivial (
   hc (fun _ _ wx cx => cx.c rfl (args0 ) Try.func29 (by decide +kernel) (all_n wx) rfl rfl) <|
   hc (fun _ _ wx cx => cx.c rfl (args1 (cx.u 0 rfl)) Try.func55 (by decide +kernel) (unsigned_n allR.u.lo allR.u.hi allR.s.lo allR.s.hi wx) rfl rfl) <|
   hc (fun _ _ wx cx => cx.c rfl (args0 ) Try.func29 (by decide +kernel) (all_n wx) rfl rfl) <|
   hc (fun _ _ wx cx => cx.c rfl (args1 (cx.u 0 rfl)) Try.func57 (by decide +kernel) (signed_n allR.u.lo allR.u.hi allR.s.lo allR.s.hi wx) rfl rfl) <|
   hk (fun cx => cx.al (wn rfl) 0 rfl (by simp [execOp, Act.eval, go_sem]) rfl rfl rfl rfl (by kernel_rfl) trivial) <|
   hk (fun cx => cx.al (wn rfl) 1 rfl (by simp [execOp, Act.eval, go_sem]) rfl rfl rfl rfl (by kernel_rfl) trivial) <|
   hk (fun cx => cx.stA (wn rfl) rfl rfl 0 0 rfl rfl rfl rfl (cx.u 1 rfl) (by kernel_rfl) rfl (by simp [Value.oneCell']) f6.b.size rfl rfl trivial) <|
   hk (fun cx => cx.stA (wn rfl) rfl rfl 1 0 rfl rfl rfl rfl (cx.u 1 rfl) (by kernel_rfl) rfl (by simp [Value.oneCell']) f6.b.size rfl rfl trivial) <|
   hn) ?_
  intro a7 w7 f7
  obtain ⟨g4, u_g4, q_g4, b_g4⟩ := f7.al.1
  obtain ⟨g5, u_g5, q_g5, b_g5⟩ := f7.al.2.1
  refine wp_seq ?_
  refine wp_seq ?_
  have s0_7 := f7.q 0 (f6.q 0 (f1.q 0 s0_0))
  refine go_reg [] [] [some (.int .i8 op)] mo f7.d f7.z f7.b (by kernel_rfl) trivial (
   hk (fun cx => cx.v (ex_mv rfl (cx.rq 0 s0_7)) rfl rfl) <|
   hn) ?_
  intro a8 w8 f8
  refine wp_block ?_
  refine wp_seq ?_
  cases fk3 : op == 11
  case true =>
   have Ffk3 := Lib.hid fk3; clear fk3
   refine go_reg [] [] [some (.bool true), some (.bool true)] mo f8.d f8.z f8.b (by kernel_rfl) trivial (
    hk (fun cx => cx.v (ex_eq (x := .tmp 24) rfl (cx.rq 24 (f8.v 0 rfl rfl rfl)) rfl) rfl (congrArg Value.bool Ffk3.out)) <|
    hk (fun cx => cx.v (ex_as rfl (cx.u 0 rfl)) rfl rfl) <|
    hn) ?_
   intro a9 w9 f9
   refine wp_cond_true (f9.v 1 rfl rfl rfl) ?_
   have b_g2_8 := f9.k (f8.k (f7.k (f6.k b_g2)))
   have b_g4_9 := f9.k (f8.k b_g4)
   have b_g5_10 := f9.k (f8.k b_g5)
   have s5_11 := f9.q 5 (f8.q 5 (f7.q 5 (f6.q 5 u_g2)))
   have s7_12 := f9.q 7 (f8.q 7 u_g4)
   have s8_13 := f9.q 8 (f8.q 8 u_g5)
   refine go_reg [bx g2 60 (cR p q r t), ⟨g4, 89, (cU allR.u.lo allR.u.hi), some 4, (cU p q)⟩, ⟨g5, 93, (cS allR.s.lo allR.s.hi), some 5, (cS r t)⟩] [] [some (.agg (cR p q r t)), some (.agg (cU p q)), some (.agg (cR p q r t)), some (.agg (cS r t)), none, none] mo f9.d f9.z f9.b (by kernel_rfl) ⟨b_g2_8, b_g4_9, b_g5_10, trivial⟩ (
    hk (fun cx => cx.v (ldR rfl (cx.rq 5 s5_11) (cx.rn 0 rfl)) rfl rfl) <|
    hc (fun _ _ wx cx => cx.c rfl (args1 (cx.u 0 rfl)) Try.func55 (by decide +kernel) (unsigned_n p q r t wx) rfl rfl) <|
    hk (fun cx => cx.v (ldR rfl (cx.rq 5 s5_11) (cx.rn 0 rfl)) rfl rfl) <|
    hc (fun _ _ wx cx => cx.c rfl (args1 (cx.u 0 rfl)) Try.func57 (by decide +kernel) (signed_n p q r t wx) rfl rfl) <|
    hk (fun cx => cx.stR (wn rfl) rfl rfl 1 rfl (cx.rq 7 s7_12) (cx.u 0 rfl) (by kernel_rfl) rfl (by simp [Value.oneCell']) (Nat.le_trans f6.b.size q_g4) rfl ⟨(ne_row (f6.k b_g2) q_g4), (ne_ptr (pairAt f7.ps 0 1 (by decide) rfl rfl) u_g4 u_g5).symm, trivial⟩ trivial) <|
    hk (fun cx => cx.stR (wn rfl) rfl rfl 2 rfl (cx.rq 8 s8_13) (cx.u 0 rfl) (by kernel_rfl) rfl (by simp [Value.oneCell']) (Nat.le_trans f6.b.size q_g5) rfl ⟨(ne_row (f6.k b_g2) q_g5), (ne_ptr (pairAt f7.ps 0 1 (by decide) rfl rfl) u_g4 u_g5), trivial⟩ trivial) <|
    hn) ?_
   intro a10 w10 f10
   refine wp_seq ?_
   have s7_14 := f10.q 7 s7_12
   have s8_15 := f10.q 8 s8_13
   refine go_reg [bx g4 89 (cU p q), bx g5 93 (cS r t)] [⟨7, 9, 60, (cR 0 0 0 0), some 8, (cR ((Rg.nar ⟨⟨p, q⟩, ⟨r, t⟩⟩).u.lo) ((Rg.nar ⟨⟨p, q⟩, ⟨r, t⟩⟩).u.hi) ((Rg.nar ⟨⟨p, q⟩, ⟨r, t⟩⟩).s.lo) ((Rg.nar ⟨⟨p, q⟩, ⟨r, t⟩⟩).s.hi))⟩] [some (.agg (cU p q)), some (.agg (cS r t)), some (.agg (cR p q r t)), some (.tuple #[.agg (cR ((Rg.nar ⟨⟨p, q⟩, ⟨r, t⟩⟩).u.lo) ((Rg.nar ⟨⟨p, q⟩, ⟨r, t⟩⟩).u.hi) ((Rg.nar ⟨⟨p, q⟩, ⟨r, t⟩⟩).s.lo) ((Rg.nar ⟨⟨p, q⟩, ⟨r, t⟩⟩).s.hi)), .bool (Rg.narB ⟨⟨p, q⟩, ⟨r, t⟩⟩)]), some (.tuple #[.agg (cR ((Rg.nar ⟨⟨p, q⟩, ⟨r, t⟩⟩).u.lo) ((Rg.nar ⟨⟨p, q⟩, ⟨r, t⟩⟩).u.hi) ((Rg.nar ⟨⟨p, q⟩, ⟨r, t⟩⟩).s.lo) ((Rg.nar ⟨⟨p, q⟩, ⟨r, t⟩⟩).s.hi)), .bool (Rg.narB ⟨⟨p, q⟩, ⟨r, t⟩⟩)]), some (.agg (cR ((Rg.nar ⟨⟨p, q⟩, ⟨r, t⟩⟩).u.lo) ((Rg.nar ⟨⟨p, q⟩, ⟨r, t⟩⟩).u.hi) ((Rg.nar ⟨⟨p, q⟩, ⟨r, t⟩⟩).s.lo) ((Rg.nar ⟨⟨p, q⟩, ⟨r, t⟩⟩).s.hi))), some (.bool (Rg.narB ⟨⟨p, q⟩, ⟨r, t⟩⟩)), none, none, some (.bool (Rg.narB ⟨⟨p, q⟩, ⟨r, t⟩⟩))] mo f10.d f10.z f10.b (by kernel_rfl) ⟨f10.rows.2.1, f10.rows.2.2.1, trivial⟩ (
    hk (fun cx => cx.v (ldU rfl (cx.rq 7 s7_14) (cx.rn 0 rfl)) rfl rfl) <|
    hk (fun cx => cx.v (ldS rfl (cx.rq 8 s8_15) (cx.rn 1 rfl)) rfl rfl) <|
    hc (fun _ _ wx cx => cx.c rfl (args2 (cx.u 0 rfl) (cx.u 1 rfl)) Try.func54 (by decide +kernel) (both_n p q r t wx) rfl rfl) <|
    hc (fun _ _ wx cx => cx.c rfl (args1 (cx.u 0 rfl)) Try.func25 (by decide +kernel) (narrow_n p q r t wx HB.out) rfl rfl) <|
    hk (fun cx => cx.v (ex_mv rfl (cx.u 0 rfl)) rfl rfl) <|
    hk (fun cx => cx.v (ex_ext (x := .tmp 63) rfl (cx.u 0 rfl) rfl) rfl rfl) <|
    hk (fun cx => cx.v (ex_ext (x := .tmp 63) rfl (cx.u 0 rfl) rfl) rfl rfl) <|
    hk (fun cx => cx.al (wn rfl) 0 rfl (by simp [execOp, Act.eval, go_sem]) rfl rfl rfl rfl (by kernel_rfl) trivial) <|
    hk (fun cx => cx.stA (wn rfl) rfl rfl 0 0 rfl rfl rfl rfl (cx.u 1 rfl) (by kernel_rfl) rfl (by simp [Value.oneCell']) f10.b.size rfl rfl trivial) <|
    hk (fun cx => cx.v (ex_as rfl (cx.u 0 rfl)) rfl rfl) <|
    hn) ?_
   intro a11 w11 f11
   obtain ⟨g6, u_g6, q_g6, b_g6⟩ := f11.al.1
   refine wp_seq ?_
   have b_g3_16 := f11.k (f10.kp (f9.k (f8.k (f7.k (f6.k b_g3)))) ⟨.inl rfl, .inr (ne_row (f6.k b_g3) q_g4), .inr (ne_row (f6.k b_g3) q_g5), trivial⟩)
   have s6_17 := f11.q 6 (f10.q 6 (f9.q 6 (f8.q 6 (f7.q 6 (f6.q 6 u_g3)))))
   refine go_reg [bx g6 60 (cR ((Rg.nar ⟨⟨p, q⟩, ⟨r, t⟩⟩).u.lo) ((Rg.nar ⟨⟨p, q⟩, ⟨r, t⟩⟩).u.hi) ((Rg.nar ⟨⟨p, q⟩, ⟨r, t⟩⟩).s.lo) ((Rg.nar ⟨⟨p, q⟩, ⟨r, t⟩⟩).s.hi)), ⟨g3, 60, (cR 0 0 0 0), some 1, (cR ((Rg.nar ⟨⟨p, q⟩, ⟨r, t⟩⟩).u.lo) ((Rg.nar ⟨⟨p, q⟩, ⟨r, t⟩⟩).u.hi) ((Rg.nar ⟨⟨p, q⟩, ⟨r, t⟩⟩).s.lo) ((Rg.nar ⟨⟨p, q⟩, ⟨r, t⟩⟩).s.hi))⟩] [] [some (.agg (cR ((Rg.nar ⟨⟨p, q⟩, ⟨r, t⟩⟩).u.lo) ((Rg.nar ⟨⟨p, q⟩, ⟨r, t⟩⟩).u.hi) ((Rg.nar ⟨⟨p, q⟩, ⟨r, t⟩⟩).s.lo) ((Rg.nar ⟨⟨p, q⟩, ⟨r, t⟩⟩).s.hi))), none] mo f11.d f11.z f11.b (by kernel_rfl) ⟨b_g6, b_g3_16, trivial⟩ (
    hk (fun cx => cx.v (ldR rfl (cx.rq 9 u_g6) (cx.rn 0 rfl)) rfl rfl) <|
    hk (fun cx => cx.stR (wn rfl) rfl rfl 1 rfl (cx.rq 6 s6_17) (cx.u 0 rfl) (by kernel_rfl) rfl (by simp [Value.oneCell']) q_g3 rfl ⟨(ne_row (f10.kp (f9.k (f8.k (f7.k (f6.k b_g3)))) ⟨.inl rfl, .inr (ne_row (f6.k b_g3) q_g4), .inr (ne_row (f6.k b_g3) q_g5), trivial⟩) q_g6).symm, trivial⟩ trivial) <|
    hn) ?_
   intro a12 w12 f12
   refine wp_ret ?_
   have s6_18 := f12.q 6 s6_17
   try simp only [Exit.inBlock, Exit.then]
   refine bodyPost_ret (res_c (fn := Try.f39) rfl s6_18 (load_row 60 f12.rows.2.1 Try.underlying60 rfl (by kernel_rfl))) f12.d ?_
   have ho : op = 11 := yb Ffk3.out
   have HD : (⟨doU op ⟨⟨a, b⟩, ⟨c, d⟩⟩ ⟨⟨p, q⟩, ⟨r, t⟩⟩, doS op ⟨⟨a, b⟩, ⟨c, d⟩⟩ ⟨⟨p, q⟩, ⟨r, t⟩⟩⟩ : Rg) = ⟨⟨p, q⟩, ⟨r, t⟩⟩ := by
     unfold doU doS
     simp only [if_pos ho]
     try rfl
   have HE : (.agg (cR ((Rg.nar ⟨⟨p, q⟩, ⟨r, t⟩⟩).u.lo) ((Rg.nar ⟨⟨p, q⟩, ⟨r, t⟩⟩).u.hi) ((Rg.nar ⟨⟨p, q⟩, ⟨r, t⟩⟩).s.lo) ((Rg.nar ⟨⟨p, q⟩, ⟨r, t⟩⟩).s.hi)) : Value) = Rg.val (Rg.doR op ⟨⟨a, b⟩, ⟨c, d⟩⟩ ⟨⟨p, q⟩, ⟨r, t⟩⟩) := by unfold Rg.doR; rw [Ffk1.out, Ffk2.out, if_pos (by rfl), HD]; try rfl
   exact ⟨retV HE, f12.b⟩
  have Ffk3 := Lib.hid fk3; clear fk3
  refine go_reg [] [] [some (.bool false), some (.bool false)] mo f8.d f8.z f8.b (by kernel_rfl) trivial (
   hk (fun cx => cx.v (ex_eq (x := .tmp 24) rfl (cx.rq 24 (f8.v 0 rfl rfl rfl)) rfl) rfl (congrArg Value.bool Ffk3.out)) <|
   hk (fun cx => cx.v (ex_as rfl (cx.u 0 rfl)) rfl rfl) <|
   hn) ?_
  intro a13 w13 f13
  refine wp_cond_false (f13.v 1 rfl rfl rfl) ?_
  refine wp_seq ?_
  cases fk4 : op == 0
  case true =>
   have Ffk4 := Lib.hid fk4; clear fk4
   have s24_19 := f13.q 24 (f8.v 0 rfl rfl rfl)
   refine go_reg [] [] [some (.bool true), some (.bool true)] mo f13.d f13.z f13.b (by kernel_rfl) trivial (
    hk (fun cx => cx.v (ex_eq (x := .tmp 24) rfl (cx.rq 24 s24_19) rfl) rfl (congrArg Value.bool Ffk4.out)) <|
    hk (fun cx => cx.v (ex_as rfl (cx.u 0 rfl)) rfl rfl) <|
    hn) ?_
   intro a14 w14 f14
   refine wp_cond_true (f14.v 1 rfl rfl rfl) ?_
   have b_g1_20 := f14.k (f13.k (f8.k (f7.k (f6.k b_g1))))
   have b_g2_21 := f14.k (f13.k (f8.k (f7.k (f6.k b_g2))))
   have b_g4_22 := f14.k (f13.k (f8.k b_g4))
   have b_g5_23 := f14.k (f13.k (f8.k b_g5))
   have s4_24 := f14.q 4 (f13.q 4 (f8.q 4 (f7.q 4 (f6.q 4 u_g1))))
   have s5_25 := f14.q 5 (f13.q 5 (f8.q 5 (f7.q 5 (f6.q 5 u_g2))))
   have s7_26 := f14.q 7 (f13.q 7 (f8.q 7 u_g4))
   have s8_27 := f14.q 8 (f13.q 8 (f8.q 8 u_g5))
   refine go_reg [bx g1 60 (cR a b c d), bx g2 60 (cR p q r t), ⟨g4, 89, (cU allR.u.lo allR.u.hi), some 12, (cU ((plusU ⟨a, b⟩ ⟨p, q⟩).lo) ((plusU ⟨a, b⟩ ⟨p, q⟩).hi))⟩, ⟨g5, 93, (cS allR.s.lo allR.s.hi), some 13, (cS ((plusS ⟨c, d⟩ ⟨r, t⟩).lo) ((plusS ⟨c, d⟩ ⟨r, t⟩).hi))⟩] [] [some (.agg (cR a b c d)), some (.agg (cU a b)), some (.agg (cR p q r t)), some (.agg (cU p q)), some (.agg (cU allR.u.lo allR.u.hi)), some (.agg (cU ((plusU ⟨a, b⟩ ⟨p, q⟩).lo) ((plusU ⟨a, b⟩ ⟨p, q⟩).hi))), some (.agg (cR a b c d)), some (.agg (cS c d)), some (.agg (cR p q r t)), some (.agg (cS r t)), some (.agg (cS allR.s.lo allR.s.hi)), some (.agg (cS ((plusS ⟨c, d⟩ ⟨r, t⟩).lo) ((plusS ⟨c, d⟩ ⟨r, t⟩).hi))), none, none] mo f14.d f14.z f14.b (by kernel_rfl) ⟨b_g1_20, b_g2_21, b_g4_22, b_g5_23, trivial⟩ (
    hk (fun cx => cx.v (ldR rfl (cx.rq 4 s4_24) (cx.rn 0 rfl)) rfl rfl) <|
    hc (fun _ _ wx cx => cx.c rfl (args1 (cx.u 0 rfl)) Try.func55 (by decide +kernel) (unsigned_n a b c d wx) rfl rfl) <|
    hk (fun cx => cx.v (ldR rfl (cx.rq 5 s5_25) (cx.rn 1 rfl)) rfl rfl) <|
    hc (fun _ _ wx cx => cx.c rfl (args1 (cx.u 0 rfl)) Try.func55 (by decide +kernel) (unsigned_n p q r t wx) rfl rfl) <|
    hk (fun cx => cx.v (ldU rfl (cx.rq 7 s7_26) (cx.rf 2 rfl (by kernel_rfl))) rfl rfl) <|
    hc (fun _ _ wx cx => cx.c rfl (args3 (cx.u 0 rfl) (cx.u 1 rfl) (cx.u 2 rfl)) Try.func82 (by decide +kernel) (plusU_n a b p q wx HA.out.1 HB.out.1) rfl rfl) <|
    hk (fun cx => cx.v (ldR rfl (cx.rq 4 s4_24) (cx.rn 0 rfl)) rfl rfl) <|
    hc (fun _ _ wx cx => cx.c rfl (args1 (cx.u 0 rfl)) Try.func57 (by decide +kernel) (signed_n a b c d wx) rfl rfl) <|
    hk (fun cx => cx.v (ldR rfl (cx.rq 5 s5_25) (cx.rn 1 rfl)) rfl rfl) <|
    hc (fun _ _ wx cx => cx.c rfl (args1 (cx.u 0 rfl)) Try.func57 (by decide +kernel) (signed_n p q r t wx) rfl rfl) <|
    hk (fun cx => cx.v (ldS rfl (cx.rq 8 s8_27) (cx.rf 3 rfl (by kernel_rfl))) rfl rfl) <|
    hc (fun _ _ wx cx => cx.c rfl (args3 (cx.u 0 rfl) (cx.u 1 rfl) (cx.u 2 rfl)) Try.func83 (by decide +kernel) (plusS_n c d r t wx HA.out.2 HB.out.2) rfl rfl) <|
    hk (fun cx => cx.stR (wn rfl) rfl rfl 2 rfl (cx.rq 7 s7_26) (cx.u 0 rfl) (by kernel_rfl) rfl (by simp [Value.oneCell']) (Nat.le_trans f6.b.size q_g4) rfl ⟨(ne_row (f6.k b_g1) q_g4), (ne_row (f6.k b_g2) q_g4), (ne_ptr (pairAt f7.ps 0 1 (by decide) rfl rfl) u_g4 u_g5).symm, trivial⟩ trivial) <|
    hk (fun cx => cx.stR (wn rfl) rfl rfl 3 rfl (cx.rq 8 s8_27) (cx.u 0 rfl) (by kernel_rfl) rfl (by simp [Value.oneCell']) (Nat.le_trans f6.b.size q_g5) rfl ⟨(ne_row (f6.k b_g1) q_g5), (ne_row (f6.k b_g2) q_g5), (ne_ptr (pairAt f7.ps 0 1 (by decide) rfl rfl) u_g4 u_g5), trivial⟩ trivial) <|
    hn) ?_
   intro a15 w15 f15
   refine wp_seq ?_
   have s7_28 := f15.q 7 s7_26
   have s8_29 := f15.q 8 s8_27
   refine go_reg [bx g4 89 (cU ((plusU ⟨a, b⟩ ⟨p, q⟩).lo) ((plusU ⟨a, b⟩ ⟨p, q⟩).hi)), bx g5 93 (cS ((plusS ⟨c, d⟩ ⟨r, t⟩).lo) ((plusS ⟨c, d⟩ ⟨r, t⟩).hi))] [⟨7, 9, 60, (cR 0 0 0 0), some 8, (cR ((Rg.nar ⟨plusU ⟨a, b⟩ ⟨p, q⟩, plusS ⟨c, d⟩ ⟨r, t⟩⟩).u.lo) ((Rg.nar ⟨plusU ⟨a, b⟩ ⟨p, q⟩, plusS ⟨c, d⟩ ⟨r, t⟩⟩).u.hi) ((Rg.nar ⟨plusU ⟨a, b⟩ ⟨p, q⟩, plusS ⟨c, d⟩ ⟨r, t⟩⟩).s.lo) ((Rg.nar ⟨plusU ⟨a, b⟩ ⟨p, q⟩, plusS ⟨c, d⟩ ⟨r, t⟩⟩).s.hi))⟩] [some (.agg (cU ((plusU ⟨a, b⟩ ⟨p, q⟩).lo) ((plusU ⟨a, b⟩ ⟨p, q⟩).hi))), some (.agg (cS ((plusS ⟨c, d⟩ ⟨r, t⟩).lo) ((plusS ⟨c, d⟩ ⟨r, t⟩).hi))), some (.agg (cR ((plusU ⟨a, b⟩ ⟨p, q⟩).lo) ((plusU ⟨a, b⟩ ⟨p, q⟩).hi) ((plusS ⟨c, d⟩ ⟨r, t⟩).lo) ((plusS ⟨c, d⟩ ⟨r, t⟩).hi))), some (.tuple #[.agg (cR ((Rg.nar ⟨plusU ⟨a, b⟩ ⟨p, q⟩, plusS ⟨c, d⟩ ⟨r, t⟩⟩).u.lo) ((Rg.nar ⟨plusU ⟨a, b⟩ ⟨p, q⟩, plusS ⟨c, d⟩ ⟨r, t⟩⟩).u.hi) ((Rg.nar ⟨plusU ⟨a, b⟩ ⟨p, q⟩, plusS ⟨c, d⟩ ⟨r, t⟩⟩).s.lo) ((Rg.nar ⟨plusU ⟨a, b⟩ ⟨p, q⟩, plusS ⟨c, d⟩ ⟨r, t⟩⟩).s.hi)), .bool (Rg.narB ⟨plusU ⟨a, b⟩ ⟨p, q⟩, plusS ⟨c, d⟩ ⟨r, t⟩⟩)]), some (.tuple #[.agg (cR ((Rg.nar ⟨plusU ⟨a, b⟩ ⟨p, q⟩, plusS ⟨c, d⟩ ⟨r, t⟩⟩).u.lo) ((Rg.nar ⟨plusU ⟨a, b⟩ ⟨p, q⟩, plusS ⟨c, d⟩ ⟨r, t⟩⟩).u.hi) ((Rg.nar ⟨plusU ⟨a, b⟩ ⟨p, q⟩, plusS ⟨c, d⟩ ⟨r, t⟩⟩).s.lo) ((Rg.nar ⟨plusU ⟨a, b⟩ ⟨p, q⟩, plusS ⟨c, d⟩ ⟨r, t⟩⟩).s.hi)), .bool (Rg.narB ⟨plusU ⟨a, b⟩ ⟨p, q⟩, plusS ⟨c, d⟩ ⟨r, t⟩⟩)]), some (.agg (cR ((Rg.nar ⟨plusU ⟨a, b⟩ ⟨p, q⟩, plusS ⟨c, d⟩ ⟨r, t⟩⟩).u.lo) ((Rg.nar ⟨plusU ⟨a, b⟩ ⟨p, q⟩, plusS ⟨c, d⟩ ⟨r, t⟩⟩).u.hi) ((Rg.nar ⟨plusU ⟨a, b⟩ ⟨p, q⟩, plusS ⟨c, d⟩ ⟨r, t⟩⟩).s.lo) ((Rg.nar ⟨plusU ⟨a, b⟩ ⟨p, q⟩, plusS ⟨c, d⟩ ⟨r, t⟩⟩).s.hi))), some (.bool (Rg.narB ⟨plusU ⟨a, b⟩ ⟨p, q⟩, plusS ⟨c, d⟩ ⟨r, t⟩⟩)), none, none, some (.bool (Rg.narB ⟨plusU ⟨a, b⟩ ⟨p, q⟩, plusS ⟨c, d⟩ ⟨r, t⟩⟩))] mo f15.d f15.z f15.b (by kernel_rfl) ⟨f15.rows.2.2.1, f15.rows.2.2.2.1, trivial⟩ (
    hk (fun cx => cx.v (ldU rfl (cx.rq 7 s7_28) (cx.rn 0 rfl)) rfl rfl) <|
    hk (fun cx => cx.v (ldS rfl (cx.rq 8 s8_29) (cx.rn 1 rfl)) rfl rfl) <|
    hc (fun _ _ wx cx => cx.c rfl (args2 (cx.u 0 rfl) (cx.u 1 rfl)) Try.func54 (by decide +kernel) (both_n ((plusU ⟨a, b⟩ ⟨p, q⟩).lo) ((plusU ⟨a, b⟩ ⟨p, q⟩).hi) ((plusS ⟨c, d⟩ ⟨r, t⟩).lo) ((plusS ⟨c, d⟩ ⟨r, t⟩).hi) wx) rfl rfl) <|
    hc (fun _ _ wx cx => cx.c rfl (args1 (cx.u 0 rfl)) Try.func25 (by decide +kernel) (narrow_n ((plusU ⟨a, b⟩ ⟨p, q⟩).lo) ((plusU ⟨a, b⟩ ⟨p, q⟩).hi) ((plusS ⟨c, d⟩ ⟨r, t⟩).lo) ((plusS ⟨c, d⟩ ⟨r, t⟩).hi) wx ⟨plusU_ok HA.out.1 HB.out.1, plusS_ok HA.out.2 HB.out.2⟩) rfl rfl) <|
    hk (fun cx => cx.v (ex_mv rfl (cx.u 0 rfl)) rfl rfl) <|
    hk (fun cx => cx.v (ex_ext (x := .tmp 63) rfl (cx.u 0 rfl) rfl) rfl rfl) <|
    hk (fun cx => cx.v (ex_ext (x := .tmp 63) rfl (cx.u 0 rfl) rfl) rfl rfl) <|
    hk (fun cx => cx.al (wn rfl) 0 rfl (by simp [execOp, Act.eval, go_sem]) rfl rfl rfl rfl (by kernel_rfl) trivial) <|
    hk (fun cx => cx.stA (wn rfl) rfl rfl 0 0 rfl rfl rfl rfl (cx.u 1 rfl) (by kernel_rfl) rfl (by simp [Value.oneCell']) f15.b.size rfl rfl trivial) <|
    hk (fun cx => cx.v (ex_as rfl (cx.u 0 rfl)) rfl rfl) <|
    hn) ?_
   intro a16 w16 f16
   obtain ⟨g6, u_g6, q_g6, b_g6⟩ := f16.al.1
   refine wp_seq ?_
   have b_g3_30 := f16.k (f15.kp (f14.k (f13.k (f8.k (f7.k (f6.k b_g3))))) ⟨.inl rfl, .inl rfl, .inr (ne_row (f6.k b_g3) q_g4), .inr (ne_row (f6.k b_g3) q_g5), trivial⟩)
   have s6_31 := f16.q 6 (f15.q 6 (f14.q 6 (f13.q 6 (f8.q 6 (f7.q 6 (f6.q 6 u_g3))))))
   refine go_reg [bx g6 60 (cR ((Rg.nar ⟨plusU ⟨a, b⟩ ⟨p, q⟩, plusS ⟨c, d⟩ ⟨r, t⟩⟩).u.lo) ((Rg.nar ⟨plusU ⟨a, b⟩ ⟨p, q⟩, plusS ⟨c, d⟩ ⟨r, t⟩⟩).u.hi) ((Rg.nar ⟨plusU ⟨a, b⟩ ⟨p, q⟩, plusS ⟨c, d⟩ ⟨r, t⟩⟩).s.lo) ((Rg.nar ⟨plusU ⟨a, b⟩ ⟨p, q⟩, plusS ⟨c, d⟩ ⟨r, t⟩⟩).s.hi)), ⟨g3, 60, (cR 0 0 0 0), some 1, (cR ((Rg.nar ⟨plusU ⟨a, b⟩ ⟨p, q⟩, plusS ⟨c, d⟩ ⟨r, t⟩⟩).u.lo) ((Rg.nar ⟨plusU ⟨a, b⟩ ⟨p, q⟩, plusS ⟨c, d⟩ ⟨r, t⟩⟩).u.hi) ((Rg.nar ⟨plusU ⟨a, b⟩ ⟨p, q⟩, plusS ⟨c, d⟩ ⟨r, t⟩⟩).s.lo) ((Rg.nar ⟨plusU ⟨a, b⟩ ⟨p, q⟩, plusS ⟨c, d⟩ ⟨r, t⟩⟩).s.hi))⟩] [] [some (.agg (cR ((Rg.nar ⟨plusU ⟨a, b⟩ ⟨p, q⟩, plusS ⟨c, d⟩ ⟨r, t⟩⟩).u.lo) ((Rg.nar ⟨plusU ⟨a, b⟩ ⟨p, q⟩, plusS ⟨c, d⟩ ⟨r, t⟩⟩).u.hi) ((Rg.nar ⟨plusU ⟨a, b⟩ ⟨p, q⟩, plusS ⟨c, d⟩ ⟨r, t⟩⟩).s.lo) ((Rg.nar ⟨plusU ⟨a, b⟩ ⟨p, q⟩, plusS ⟨c, d⟩ ⟨r, t⟩⟩).s.hi))), none] mo f16.d f16.z f16.b (by kernel_rfl) ⟨b_g6, b_g3_30, trivial⟩ (
    hk (fun cx => cx.v (ldR rfl (cx.rq 9 u_g6) (cx.rn 0 rfl)) rfl rfl) <|
    hk (fun cx => cx.stR (wn rfl) rfl rfl 1 rfl (cx.rq 6 s6_31) (cx.u 0 rfl) (by kernel_rfl) rfl (by simp [Value.oneCell']) q_g3 rfl ⟨(ne_row (f15.kp (f14.k (f13.k (f8.k (f7.k (f6.k b_g3))))) ⟨.inl rfl, .inl rfl, .inr (ne_row (f6.k b_g3) q_g4), .inr (ne_row (f6.k b_g3) q_g5), trivial⟩) q_g6).symm, trivial⟩ trivial) <|
    hn) ?_
   intro a17 w17 f17
   refine wp_ret ?_
   have s6_32 := f17.q 6 s6_31
   try simp only [Exit.inBlock, Exit.then]
   refine bodyPost_ret (res_c (fn := Try.f39) rfl s6_32 (load_row 60 f17.rows.2.1 Try.underlying60 rfl (by kernel_rfl))) f17.d ?_
   have no11 := nb Ffk3.out
   have ho : op = 0 := yb Ffk4.out
   have HD : (⟨doU op ⟨⟨a, b⟩, ⟨c, d⟩⟩ ⟨⟨p, q⟩, ⟨r, t⟩⟩, doS op ⟨⟨a, b⟩, ⟨c, d⟩⟩ ⟨⟨p, q⟩, ⟨r, t⟩⟩⟩ : Rg) = ⟨plusU ⟨a, b⟩ ⟨p, q⟩, plusS ⟨c, d⟩ ⟨r, t⟩⟩ := by
     unfold doU doS
     simp only [if_neg no11, if_pos ho]
     try rfl
   have HE : (.agg (cR ((Rg.nar ⟨plusU ⟨a, b⟩ ⟨p, q⟩, plusS ⟨c, d⟩ ⟨r, t⟩⟩).u.lo) ((Rg.nar ⟨plusU ⟨a, b⟩ ⟨p, q⟩, plusS ⟨c, d⟩ ⟨r, t⟩⟩).u.hi) ((Rg.nar ⟨plusU ⟨a, b⟩ ⟨p, q⟩, plusS ⟨c, d⟩ ⟨r, t⟩⟩).s.lo) ((Rg.nar ⟨plusU ⟨a, b⟩ ⟨p, q⟩, plusS ⟨c, d⟩ ⟨r, t⟩⟩).s.hi)) : Value) = Rg.val (Rg.doR op ⟨⟨a, b⟩, ⟨c, d⟩⟩ ⟨⟨p, q⟩, ⟨r, t⟩⟩) := by unfold Rg.doR; rw [Ffk1.out, Ffk2.out, if_pos (by rfl), HD]; try rfl
   exact ⟨retV HE, f17.b⟩
  have Ffk4 := Lib.hid fk4; clear fk4
  have s24_33 := f13.q 24 (f8.v 0 rfl rfl rfl)
  refine go_reg [] [] [some (.bool false), some (.bool false)] mo f13.d f13.z f13.b (by kernel_rfl) trivial (
   hk (fun cx => cx.v (ex_eq (x := .tmp 24) rfl (cx.rq 24 s24_33) rfl) rfl (congrArg Value.bool Ffk4.out)) <|
   hk (fun cx => cx.v (ex_as rfl (cx.u 0 rfl)) rfl rfl) <|
   hn) ?_
  intro a18 w18 f18
  refine wp_cond_false (f18.v 1 rfl rfl rfl) ?_
  refine wp_seq ?_
  cases fk5 : op == 1
  case true =>
   have Ffk5 := Lib.hid fk5; clear fk5
   have s24_34 := f18.q 24 s24_33
   refine go_reg [] [] [some (.bool true), some (.bool true)] mo f18.d f18.z f18.b (by kernel_rfl) trivial (
    hk (fun cx => cx.v (ex_eq (x := .tmp 24) rfl (cx.rq 24 s24_34) rfl) rfl (congrArg Value.bool Ffk5.out)) <|
    hk (fun cx => cx.v (ex_as rfl (cx.u 0 rfl)) rfl rfl) <|
    hn) ?_
   intro a19 w19 f19
   refine wp_cond_true (f19.v 1 rfl rfl rfl) ?_
   have b_g1_35 := f19.k (f18.k (f13.k (f8.k (f7.k (f6.k b_g1)))))
   have b_g2_36 := f19.k (f18.k (f13.k (f8.k (f7.k (f6.k b_g2)))))
   have b_g4_37 := f19.k (f18.k (f13.k (f8.k b_g4)))
   have b_g5_38 := f19.k (f18.k (f13.k (f8.k b_g5)))
   have s4_39 := f19.q 4 (f18.q 4 (f13.q 4 (f8.q 4 (f7.q 4 (f6.q 4 u_g1)))))
   have s5_40 := f19.q 5 (f18.q 5 (f13.q 5 (f8.q 5 (f7.q 5 (f6.q 5 u_g2)))))
   have s7_41 := f19.q 7 (f18.q 7 (f13.q 7 (f8.q 7 u_g4)))
   have s8_42 := f19.q 8 (f18.q 8 (f13.q 8 (f8.q 8 u_g5)))
   refine go_reg [bx g1 60 (cR a b c d), bx g2 60 (cR p q r t), ⟨g4, 89, (cU allR.u.lo allR.u.hi), some 12, (cU ((minusU ⟨a, b⟩ ⟨p, q⟩).lo) ((minusU ⟨a, b⟩ ⟨p, q⟩).hi))⟩, ⟨g5, 93, (cS allR.s.lo allR.s.hi), some 13, (cS ((minusS ⟨c, d⟩ ⟨r, t⟩).lo) ((minusS ⟨c, d⟩ ⟨r, t⟩).hi))⟩] [] [some (.agg (cR a b c d)), some (.agg (cU a b)), some (.agg (cR p q r t)), some (.agg (cU p q)), some (.agg (cU allR.u.lo allR.u.hi)), some (.agg (cU ((minusU ⟨a, b⟩ ⟨p, q⟩).lo) ((minusU ⟨a, b⟩ ⟨p, q⟩).hi))), some (.agg (cR a b c d)), some (.agg (cS c d)), some (.agg (cR p q r t)), some (.agg (cS r t)), some (.agg (cS allR.s.lo allR.s.hi)), some (.agg (cS ((minusS ⟨c, d⟩ ⟨r, t⟩).lo) ((minusS ⟨c, d⟩ ⟨r, t⟩).hi))), none, none] mo f19.d f19.z f19.b (by kernel_rfl) ⟨b_g1_35, b_g2_36, b_g4_37, b_g5_38, trivial⟩ (
    hk (fun cx => cx.v (ldR rfl (cx.rq 4 s4_39) (cx.rn 0 rfl)) rfl rfl) <|
    hc (fun _ _ wx cx => cx.c rfl (args1 (cx.u 0 rfl)) Try.func55 (by decide +kernel) (unsigned_n a b c d wx) rfl rfl) <|
    hk (fun cx => cx.v (ldR rfl (cx.rq 5 s5_40) (cx.rn 1 rfl)) rfl rfl) <|
    hc (fun _ _ wx cx => cx.c rfl (args1 (cx.u 0 rfl)) Try.func55 (by decide +kernel) (unsigned_n p q r t wx) rfl rfl) <|
    hk (fun cx => cx.v (ldU rfl (cx.rq 7 s7_41) (cx.rf 2 rfl (by kernel_rfl))) rfl rfl) <|
    hc (fun _ _ wx cx => cx.c rfl (args3 (cx.u 0 rfl) (cx.u 1 rfl) (cx.u 2 rfl)) Try.func84 (by decide +kernel) (minusU_n a b p q wx HA.out.1 HB.out.1) rfl rfl) <|
    hk (fun cx => cx.v (ldR rfl (cx.rq 4 s4_39) (cx.rn 0 rfl)) rfl rfl) <|
    hc (fun _ _ wx cx => cx.c rfl (args1 (cx.u 0 rfl)) Try.func57 (by decide +kernel) (signed_n a b c d wx) rfl rfl) <|
    hk (fun cx => cx.v (ldR rfl (cx.rq 5 s5_40) (cx.rn 1 rfl)) rfl rfl) <|
    hc (fun _ _ wx cx => cx.c rfl (args1 (cx.u 0 rfl)) Try.func57 (by decide +kernel) (signed_n p q r t wx) rfl rfl) <|
    hk (fun cx => cx.v (ldS rfl (cx.rq 8 s8_42) (cx.rf 3 rfl (by kernel_rfl))) rfl rfl) <|
    hc (fun _ _ wx cx => cx.c rfl (args3 (cx.u 0 rfl) (cx.u 1 rfl) (cx.u 2 rfl)) Try.func85 (by decide +kernel) (minusS_n c d r t wx HA.out.2 HB.out.2) rfl rfl) <|
    hk (fun cx => cx.stR (wn rfl) rfl rfl 2 rfl (cx.rq 7 s7_41) (cx.u 0 rfl) (by kernel_rfl) rfl (by simp [Value.oneCell']) (Nat.le_trans f6.b.size q_g4) rfl ⟨(ne_row (f6.k b_g1) q_g4), (ne_row (f6.k b_g2) q_g4), (ne_ptr (pairAt f7.ps 0 1 (by decide) rfl rfl) u_g4 u_g5).symm, trivial⟩ trivial) <|
    hk (fun cx => cx.stR (wn rfl) rfl rfl 3 rfl (cx.rq 8 s8_42) (cx.u 0 rfl) (by kernel_rfl) rfl (by simp [Value.oneCell']) (Nat.le_trans f6.b.size q_g5) rfl ⟨(ne_row (f6.k b_g1) q_g5), (ne_row (f6.k b_g2) q_g5), (ne_ptr (pairAt f7.ps 0 1 (by decide) rfl rfl) u_g4 u_g5), trivial⟩ trivial) <|
    hn) ?_
   intro a20 w20 f20
   refine wp_seq ?_
   have s7_43 := f20.q 7 s7_41
   have s8_44 := f20.q 8 s8_42
   refine go_reg [bx g4 89 (cU ((minusU ⟨a, b⟩ ⟨p, q⟩).lo) ((minusU ⟨a, b⟩ ⟨p, q⟩).hi)), bx g5 93 (cS ((minusS ⟨c, d⟩ ⟨r, t⟩).lo) ((minusS ⟨c, d⟩ ⟨r, t⟩).hi))] [⟨7, 9, 60, (cR 0 0 0 0), some 8, (cR ((Rg.nar ⟨minusU ⟨a, b⟩ ⟨p, q⟩, minusS ⟨c, d⟩ ⟨r, t⟩⟩).u.lo) ((Rg.nar ⟨minusU ⟨a, b⟩ ⟨p, q⟩, minusS ⟨c, d⟩ ⟨r, t⟩⟩).u.hi) ((Rg.nar ⟨minusU ⟨a, b⟩ ⟨p, q⟩, minusS ⟨c, d⟩ ⟨r, t⟩⟩).s.lo) ((Rg.nar ⟨minusU ⟨a, b⟩ ⟨p, q⟩, minusS ⟨c, d⟩ ⟨r, t⟩⟩).s.hi))⟩] [some (.agg (cU ((minusU ⟨a, b⟩ ⟨p, q⟩).lo) ((minusU ⟨a, b⟩ ⟨p, q⟩).hi))), some (.agg (cS ((minusS ⟨c, d⟩ ⟨r, t⟩).lo) ((minusS ⟨c, d⟩ ⟨r, t⟩).hi))), some (.agg (cR ((minusU ⟨a, b⟩ ⟨p, q⟩).lo) ((minusU ⟨a, b⟩ ⟨p, q⟩).hi) ((minusS ⟨c, d⟩ ⟨r, t⟩).lo) ((minusS ⟨c, d⟩ ⟨r, t⟩).hi))), some (.tuple #[.agg (cR ((Rg.nar ⟨minusU ⟨a, b⟩ ⟨p, q⟩, minusS ⟨c, d⟩ ⟨r, t⟩⟩).u.lo) ((Rg.nar ⟨minusU ⟨a, b⟩ ⟨p, q⟩, minusS ⟨c, d⟩ ⟨r, t⟩⟩).u.hi) ((Rg.nar ⟨minusU ⟨a, b⟩ ⟨p, q⟩, minusS ⟨c, d⟩ ⟨r, t⟩⟩).s.lo) ((Rg.nar ⟨minusU ⟨a, b⟩ ⟨p, q⟩, minusS ⟨c, d⟩ ⟨r, t⟩⟩).s.hi)), .bool (Rg.narB ⟨minusU ⟨a, b⟩ ⟨p, q⟩, minusS ⟨c, d⟩ ⟨r, t⟩⟩)]), some (.tuple #[.agg (cR ((Rg.nar ⟨minusU ⟨a, b⟩ ⟨p, q⟩, minusS ⟨c, d⟩ ⟨r, t⟩⟩).u.lo) ((Rg.nar ⟨minusU ⟨a, b⟩ ⟨p, q⟩, minusS ⟨c, d⟩ ⟨r, t⟩⟩).u.hi) ((Rg.nar ⟨minusU ⟨a, b⟩ ⟨p, q⟩, minusS ⟨c, d⟩ ⟨r, t⟩⟩).s.lo) ((Rg.nar ⟨minusU ⟨a, b⟩ ⟨p, q⟩, minusS ⟨c, d⟩ ⟨r, t⟩⟩).s.hi)), .bool (Rg.narB ⟨minusU ⟨a, b⟩ ⟨p, q⟩, minusS ⟨c, d⟩ ⟨r, t⟩⟩)]), some (.agg (cR ((Rg.nar ⟨minusU ⟨a, b⟩ ⟨p, q⟩, minusS ⟨c, d⟩ ⟨r, t⟩⟩).u.lo) ((Rg.nar ⟨minusU ⟨a, b⟩ ⟨p, q⟩, minusS ⟨c, d⟩ ⟨r, t⟩⟩).u.hi) ((Rg.nar ⟨minusU ⟨a, b⟩ ⟨p, q⟩, minusS ⟨c, d⟩ ⟨r, t⟩⟩).s.lo) ((Rg.nar ⟨minusU ⟨a, b⟩ ⟨p, q⟩, minusS ⟨c, d⟩ ⟨r, t⟩⟩).s.hi))), some (.bool (Rg.narB ⟨minusU ⟨a, b⟩ ⟨p, q⟩, minusS ⟨c, d⟩ ⟨r, t⟩⟩)), none, none, some (.bool (Rg.narB ⟨minusU ⟨a, b⟩ ⟨p, q⟩, minusS ⟨c, d⟩ ⟨r, t⟩⟩))] mo f20.d f20.z f20.b (by kernel_rfl) ⟨f20.rows.2.2.1, f20.rows.2.2.2.1, trivial⟩ (
    hk (fun cx => cx.v (ldU rfl (cx.rq 7 s7_43) (cx.rn 0 rfl)) rfl rfl) <|
    hk (fun cx => cx.v (ldS rfl (cx.rq 8 s8_44) (cx.rn 1 rfl)) rfl rfl) <|
    hc (fun _ _ wx cx => cx.c rfl (args2 (cx.u 0 rfl) (cx.u 1 rfl)) Try.func54 (by decide +kernel) (both_n ((minusU ⟨a, b⟩ ⟨p, q⟩).lo) ((minusU ⟨a, b⟩ ⟨p, q⟩).hi) ((minusS ⟨c, d⟩ ⟨r, t⟩).lo) ((minusS ⟨c, d⟩ ⟨r, t⟩).hi) wx) rfl rfl) <|
    hc (fun _ _ wx cx => cx.c rfl (args1 (cx.u 0 rfl)) Try.func25 (by decide +kernel) (narrow_n ((minusU ⟨a, b⟩ ⟨p, q⟩).lo) ((minusU ⟨a, b⟩ ⟨p, q⟩).hi) ((minusS ⟨c, d⟩ ⟨r, t⟩).lo) ((minusS ⟨c, d⟩ ⟨r, t⟩).hi) wx ⟨minusU_ok HA.out.1 HB.out.1, minusS_ok HA.out.2 HB.out.2⟩) rfl rfl) <|
    hk (fun cx => cx.v (ex_mv rfl (cx.u 0 rfl)) rfl rfl) <|
    hk (fun cx => cx.v (ex_ext (x := .tmp 63) rfl (cx.u 0 rfl) rfl) rfl rfl) <|
    hk (fun cx => cx.v (ex_ext (x := .tmp 63) rfl (cx.u 0 rfl) rfl) rfl rfl) <|
    hk (fun cx => cx.al (wn rfl) 0 rfl (by simp [execOp, Act.eval, go_sem]) rfl rfl rfl rfl (by kernel_rfl) trivial) <|
    hk (fun cx => cx.stA (wn rfl) rfl rfl 0 0 rfl rfl rfl rfl (cx.u 1 rfl) (by kernel_rfl) rfl (by simp [Value.oneCell']) f20.b.size rfl rfl trivial) <|
    hk (fun cx => cx.v (ex_as rfl (cx.u 0 rfl)) rfl rfl) <|
    hn) ?_
   intro a21 w21 f21
   obtain ⟨g6, u_g6, q_g6, b_g6⟩ := f21.al.1
   refine wp_seq ?_
   have b_g3_45 := f21.k (f20.kp (f19.k (f18.k (f13.k (f8.k (f7.k (f6.k b_g3)))))) ⟨.inl rfl, .inl rfl, .inr (ne_row (f6.k b_g3) q_g4), .inr (ne_row (f6.k b_g3) q_g5), trivial⟩)
   have s6_46 := f21.q 6 (f20.q 6 (f19.q 6 (f18.q 6 (f13.q 6 (f8.q 6 (f7.q 6 (f6.q 6 u_g3)))))))
   refine go_reg [bx g6 60 (cR ((Rg.nar ⟨minusU ⟨a, b⟩ ⟨p, q⟩, minusS ⟨c, d⟩ ⟨r, t⟩⟩).u.lo) ((Rg.nar ⟨minusU ⟨a, b⟩ ⟨p, q⟩, minusS ⟨c, d⟩ ⟨r, t⟩⟩).u.hi) ((Rg.nar ⟨minusU ⟨a, b⟩ ⟨p, q⟩, minusS ⟨c, d⟩ ⟨r, t⟩⟩).s.lo) ((Rg.nar ⟨minusU ⟨a, b⟩ ⟨p, q⟩, minusS ⟨c, d⟩ ⟨r, t⟩⟩).s.hi)), ⟨g3, 60, (cR 0 0 0 0), some 1, (cR ((Rg.nar ⟨minusU ⟨a, b⟩ ⟨p, q⟩, minusS ⟨c, d⟩ ⟨r, t⟩⟩).u.lo) ((Rg.nar ⟨minusU ⟨a, b⟩ ⟨p, q⟩, minusS ⟨c, d⟩ ⟨r, t⟩⟩).u.hi) ((Rg.nar ⟨minusU ⟨a, b⟩ ⟨p, q⟩, minusS ⟨c, d⟩ ⟨r, t⟩⟩).s.lo) ((Rg.nar ⟨minusU ⟨a, b⟩ ⟨p, q⟩, minusS ⟨c, d⟩ ⟨r, t⟩⟩).s.hi))⟩] [] [some (.agg (cR ((Rg.nar ⟨minusU ⟨a, b⟩ ⟨p, q⟩, minusS ⟨c, d⟩ ⟨r, t⟩⟩).u.lo) ((Rg.nar ⟨minusU ⟨a, b⟩ ⟨p, q⟩, minusS ⟨c, d⟩ ⟨r, t⟩⟩).u.hi) ((Rg.nar ⟨minusU ⟨a, b⟩ ⟨p, q⟩, minusS ⟨c, d⟩ ⟨r, t⟩⟩).s.lo) ((Rg.nar ⟨minusU ⟨a, b⟩ ⟨p, q⟩, minusS ⟨c, d⟩ ⟨r, t⟩⟩).s.hi))), none] mo f21.d f21.z f21.b (by kernel_rfl) ⟨b_g6, b_g3_45, trivial⟩ (
    hk (fun cx => cx.v (ldR rfl (cx.rq 9 u_g6) (cx.rn 0 rfl)) rfl rfl) <|
    hk (fun cx => cx.stR (wn rfl) rfl rfl 1 rfl (cx.rq 6 s6_46) (cx.u 0 rfl) (by kernel_rfl) rfl (by simp [Value.oneCell']) q_g3 rfl ⟨(ne_row (f20.kp (f19.k (f18.k (f13.k (f8.k (f7.k (f6.k b_g3)))))) ⟨.inl rfl, .inl rfl, .inr (ne_row (f6.k b_g3) q_g4), .inr (ne_row (f6.k b_g3) q_g5), trivial⟩) q_g6).symm, trivial⟩ trivial) <|
    hn) ?_
   intro a22 w22 f22
   refine wp_ret ?_
   have s6_47 := f22.q 6 s6_46
   try simp only [Exit.inBlock, Exit.then]
   refine bodyPost_ret (res_c (fn := Try.f39) rfl s6_47 (load_row 60 f22.rows.2.1 Try.underlying60 rfl (by kernel_rfl))) f22.d ?_
   have no11 := nb Ffk3.out
   have no0 := nb Ffk4.out
   have ho : op = 1 := yb Ffk5.out
   have HD : (⟨doU op ⟨⟨a, b⟩, ⟨c, d⟩⟩ ⟨⟨p, q⟩, ⟨r, t⟩⟩, doS op ⟨⟨a, b⟩, ⟨c, d⟩⟩ ⟨⟨p, q⟩, ⟨r, t⟩⟩⟩ : Rg) = ⟨minusU ⟨a, b⟩ ⟨p, q⟩, minusS ⟨c, d⟩ ⟨r, t⟩⟩ := by
     unfold doU doS
     simp only [if_neg no11, if_neg no0, if_pos ho]
     try rfl
   have HE : (.agg (cR ((Rg.nar ⟨minusU ⟨a, b⟩ ⟨p, q⟩, minusS ⟨c, d⟩ ⟨r, t⟩⟩).u.lo) ((Rg.nar ⟨minusU ⟨a, b⟩ ⟨p, q⟩, minusS ⟨c, d⟩ ⟨r, t⟩⟩).u.hi) ((Rg.nar ⟨minusU ⟨a, b⟩ ⟨p, q⟩, minusS ⟨c, d⟩ ⟨r, t⟩⟩).s.lo) ((Rg.nar ⟨minusU ⟨a, b⟩ ⟨p, q⟩, minusS ⟨c, d⟩ ⟨r, t⟩⟩).s.hi)) : Value) = Rg.val (Rg.doR op ⟨⟨a, b⟩, ⟨c, d⟩⟩ ⟨⟨p, q⟩, ⟨r, t⟩⟩) := by unfold Rg.doR; rw [Ffk1.out, Ffk2.out, if_pos (by rfl), HD]; try rfl
   exact ⟨retV HE, f22.b⟩
  have Ffk5 := Lib.hid fk5; clear fk5
  have s24_48 := f18.q 24 s24_33
  refine go_reg [] [] [some (.bool false), some (.bool false)] mo f18.d f18.z f18.b (by kernel_rfl) trivial (
   hk (fun cx => cx.v (ex_eq (x := .tmp 24) rfl (cx.rq 24 s24_48) rfl) rfl (congrArg Value.bool Ffk5.out)) <|
   hk (fun cx => cx.v (ex_as rfl (cx.u 0 rfl)) rfl rfl) <|
   hn) ?_
  intro a23 w23 f23
  refine wp_cond_false (f23.v 1 rfl rfl rfl) ?_
  have b_g1_49 := f23.k (f18.k (f13.k (f8.k (f7.k (f6.k b_g1)))))
  have b_g2_50 := f23.k (f18.k (f13.k (f8.k (f7.k (f6.k b_g2)))))
  have b_g4_51 := f23.k (f18.k (f13.k (f8.k b_g4)))
  have s0_52 := f23.q 0 (f18.q 0 (f13.q 0 (f8.q 0 s0_7)))
  have s4_53 := f23.q 4 (f18.q 4 (f13.q 4 (f8.q 4 (f7.q 4 (f6.q 4 u_g1)))))
  have s5_54 := f23.q 5 (f18.q 5 (f13.q 5 (f8.q 5 (f7.q 5 (f6.q 5 u_g2)))))
  have s7_55 := f23.q 7 (f18.q 7 (f13.q 7 (f8.q 7 u_g4)))
  refine go_reg [bx g1 60 (cR a b c d), bx g2 60 (cR p q r t), ⟨g4, 89, (cU allR.u.lo allR.u.hi), some 4, (cU ((restU op ⟨⟨a, b⟩, ⟨c, d⟩⟩ ⟨⟨p, q⟩, ⟨r, t⟩⟩).lo) ((restU op ⟨⟨a, b⟩, ⟨c, d⟩⟩ ⟨⟨p, q⟩, ⟨r, t⟩⟩).hi))⟩] [] [some (.int .i8 op), some (.agg (cR a b c d)), some (.agg (cR p q r t)), some (.agg (cU ((restU op ⟨⟨a, b⟩, ⟨c, d⟩⟩ ⟨⟨p, q⟩, ⟨r, t⟩⟩).lo) ((restU op ⟨⟨a, b⟩, ⟨c, d⟩⟩ ⟨⟨p, q⟩, ⟨r, t⟩⟩).hi))), none] mo f23.d f23.z f23.b (by kernel_rfl) ⟨b_g1_49, b_g2_50, b_g4_51, trivial⟩ (
   hk (fun cx => cx.v (ex_mv rfl (cx.rq 0 s0_52)) rfl rfl) <|
   hk (fun cx => cx.v (ldR rfl (cx.rq 4 s4_53) (cx.rn 0 rfl)) rfl rfl) <|
   hk (fun cx => cx.v (ldR rfl (cx.rq 5 s5_54) (cx.rn 1 rfl)) rfl rfl) <|
   hc (fun _ _ wx cx => cx.c rfl (args3 (cx.u 0 rfl) (cx.u 1 rfl) (cx.u 2 rfl)) Try.func86 (by decide +kernel) (rest_n op a b c d p q r t wx ⟨HA.out.1, HB.out.1⟩ ((may_iff ⟨⟨p, q⟩, ⟨r, t⟩⟩).1 Ffk2.out).1) rfl rfl) <|
   hk (fun cx => cx.stR (wn rfl) rfl rfl 2 rfl (cx.rq 7 s7_55) (cx.u 0 rfl) (by kernel_rfl) rfl (by simp [Value.oneCell']) (Nat.le_trans f6.b.size q_g4) rfl ⟨(ne_row (f6.k b_g1) q_g4), (ne_row (f6.k b_g2) q_g4), trivial⟩ trivial) <|
   hn) ?_
  intro a24 w24 f24
  refine wp_seq ?_
  have b_g5_56 := f24.kp (f23.k (f18.k (f13.k (f8.k b_g5)))) ⟨.inl rfl, .inl rfl, .inr (ne_ptr (pairAt f7.ps 0 1 (by decide) rfl rfl) u_g4 u_g5).symm, trivial⟩
  have s7_57 := f24.q 7 s7_55
  have s8_58 := f24.q 8 (f23.q 8 (f18.q 8 (f13.q 8 (f8.q 8 u_g5))))
  refine go_reg [bx g4 89 (cU ((restU op ⟨⟨a, b⟩, ⟨c, d⟩⟩ ⟨⟨p, q⟩, ⟨r, t⟩⟩).lo) ((restU op ⟨⟨a, b⟩, ⟨c, d⟩⟩ ⟨⟨p, q⟩, ⟨r, t⟩⟩).hi)), bx g5 93 (cS allR.s.lo allR.s.hi)] [⟨7, 9, 60, (cR 0 0 0 0), some 8, (cR ((Rg.nar ⟨restU op ⟨⟨a, b⟩, ⟨c, d⟩⟩ ⟨⟨p, q⟩, ⟨r, t⟩⟩, allR.s⟩).u.lo) ((Rg.nar ⟨restU op ⟨⟨a, b⟩, ⟨c, d⟩⟩ ⟨⟨p, q⟩, ⟨r, t⟩⟩, allR.s⟩).u.hi) ((Rg.nar ⟨restU op ⟨⟨a, b⟩, ⟨c, d⟩⟩ ⟨⟨p, q⟩, ⟨r, t⟩⟩, allR.s⟩).s.lo) ((Rg.nar ⟨restU op ⟨⟨a, b⟩, ⟨c, d⟩⟩ ⟨⟨p, q⟩, ⟨r, t⟩⟩, allR.s⟩).s.hi))⟩] [some (.agg (cU ((restU op ⟨⟨a, b⟩, ⟨c, d⟩⟩ ⟨⟨p, q⟩, ⟨r, t⟩⟩).lo) ((restU op ⟨⟨a, b⟩, ⟨c, d⟩⟩ ⟨⟨p, q⟩, ⟨r, t⟩⟩).hi))), some (.agg (cS allR.s.lo allR.s.hi)), some (.agg (cR ((restU op ⟨⟨a, b⟩, ⟨c, d⟩⟩ ⟨⟨p, q⟩, ⟨r, t⟩⟩).lo) ((restU op ⟨⟨a, b⟩, ⟨c, d⟩⟩ ⟨⟨p, q⟩, ⟨r, t⟩⟩).hi) allR.s.lo allR.s.hi)), some (.tuple #[.agg (cR ((Rg.nar ⟨restU op ⟨⟨a, b⟩, ⟨c, d⟩⟩ ⟨⟨p, q⟩, ⟨r, t⟩⟩, allR.s⟩).u.lo) ((Rg.nar ⟨restU op ⟨⟨a, b⟩, ⟨c, d⟩⟩ ⟨⟨p, q⟩, ⟨r, t⟩⟩, allR.s⟩).u.hi) ((Rg.nar ⟨restU op ⟨⟨a, b⟩, ⟨c, d⟩⟩ ⟨⟨p, q⟩, ⟨r, t⟩⟩, allR.s⟩).s.lo) ((Rg.nar ⟨restU op ⟨⟨a, b⟩, ⟨c, d⟩⟩ ⟨⟨p, q⟩, ⟨r, t⟩⟩, allR.s⟩).s.hi)), .bool (Rg.narB ⟨restU op ⟨⟨a, b⟩, ⟨c, d⟩⟩ ⟨⟨p, q⟩, ⟨r, t⟩⟩, allR.s⟩)]), some (.tuple #[.agg (cR ((Rg.nar ⟨restU op ⟨⟨a, b⟩, ⟨c, d⟩⟩ ⟨⟨p, q⟩, ⟨r, t⟩⟩, allR.s⟩).u.lo) ((Rg.nar ⟨restU op ⟨⟨a, b⟩, ⟨c, d⟩⟩ ⟨⟨p, q⟩, ⟨r, t⟩⟩, allR.s⟩).u.hi) ((Rg.nar ⟨restU op ⟨⟨a, b⟩, ⟨c, d⟩⟩ ⟨⟨p, q⟩, ⟨r, t⟩⟩, allR.s⟩).s.lo) ((Rg.nar ⟨restU op ⟨⟨a, b⟩, ⟨c, d⟩⟩ ⟨⟨p, q⟩, ⟨r, t⟩⟩, allR.s⟩).s.hi)), .bool (Rg.narB ⟨restU op ⟨⟨a, b⟩, ⟨c, d⟩⟩ ⟨⟨p, q⟩, ⟨r, t⟩⟩, allR.s⟩)]), some (.agg (cR ((Rg.nar ⟨restU op ⟨⟨a, b⟩, ⟨c, d⟩⟩ ⟨⟨p, q⟩, ⟨r, t⟩⟩, allR.s⟩).u.lo) ((Rg.nar ⟨restU op ⟨⟨a, b⟩, ⟨c, d⟩⟩ ⟨⟨p, q⟩, ⟨r, t⟩⟩, allR.s⟩).u.hi) ((Rg.nar ⟨restU op ⟨⟨a, b⟩, ⟨c, d⟩⟩ ⟨⟨p, q⟩, ⟨r, t⟩⟩, allR.s⟩).s.lo) ((Rg.nar ⟨restU op ⟨⟨a, b⟩, ⟨c, d⟩⟩ ⟨⟨p, q⟩, ⟨r, t⟩⟩, allR.s⟩).s.hi))), some (.bool (Rg.narB ⟨restU op ⟨⟨a, b⟩, ⟨c, d⟩⟩ ⟨⟨p, q⟩, ⟨r, t⟩⟩, allR.s⟩)), none, none, some (.bool (Rg.narB ⟨restU op ⟨⟨a, b⟩, ⟨c, d⟩⟩ ⟨⟨p, q⟩, ⟨r, t⟩⟩, allR.s⟩))] mo f24.d f24.z f24.b (by kernel_rfl) ⟨f24.rows.2.2.1, b_g5_56, trivial⟩ (
   hk (fun cx => cx.v (ldU rfl (cx.rq 7 s7_57) (cx.rn 0 rfl)) rfl rfl) <|
   hk (fun cx => cx.v (ldS rfl (cx.rq 8 s8_58) (cx.rn 1 rfl)) rfl rfl) <|
   hc (fun _ _ wx cx => cx.c rfl (args2 (cx.u 0 rfl) (cx.u 1 rfl)) Try.func54 (by decide +kernel) (both_n ((restU op ⟨⟨a, b⟩, ⟨c, d⟩⟩ ⟨⟨p, q⟩, ⟨r, t⟩⟩).lo) ((restU op ⟨⟨a, b⟩, ⟨c, d⟩⟩ ⟨⟨p, q⟩, ⟨r, t⟩⟩).hi) allR.s.lo allR.s.hi wx) rfl rfl) <|
   hc (fun _ _ wx cx => cx.c rfl (args1 (cx.u 0 rfl)) Try.func25 (by decide +kernel) (narrow_n ((restU op ⟨⟨a, b⟩, ⟨c, d⟩⟩ ⟨⟨p, q⟩, ⟨r, t⟩⟩).lo) ((restU op ⟨⟨a, b⟩, ⟨c, d⟩⟩ ⟨⟨p, q⟩, ⟨r, t⟩⟩).hi) allR.s.lo allR.s.hi wx ⟨restU_ok op (a := ⟨⟨a, b⟩, ⟨c, d⟩⟩) (b := ⟨⟨p, q⟩, ⟨r, t⟩⟩) HA.out.1 HB.out.1 ((may_iff _).1 Ffk2.out).1, S_all⟩) rfl rfl) <|
   hk (fun cx => cx.v (ex_mv rfl (cx.u 0 rfl)) rfl rfl) <|
   hk (fun cx => cx.v (ex_ext (x := .tmp 63) rfl (cx.u 0 rfl) rfl) rfl rfl) <|
   hk (fun cx => cx.v (ex_ext (x := .tmp 63) rfl (cx.u 0 rfl) rfl) rfl rfl) <|
   hk (fun cx => cx.al (wn rfl) 0 rfl (by simp [execOp, Act.eval, go_sem]) rfl rfl rfl rfl (by kernel_rfl) trivial) <|
   hk (fun cx => cx.stA (wn rfl) rfl rfl 0 0 rfl rfl rfl rfl (cx.u 1 rfl) (by kernel_rfl) rfl (by simp [Value.oneCell']) f24.b.size rfl rfl trivial) <|
   hk (fun cx => cx.v (ex_as rfl (cx.u 0 rfl)) rfl rfl) <|
   hn) ?_
  intro a25 w25 f25
  obtain ⟨g6, u_g6, q_g6, b_g6⟩ := f25.al.1
  refine wp_seq ?_
  have b_g3_59 := f25.k (f24.kp (f23.k (f18.k (f13.k (f8.k (f7.k (f6.k b_g3)))))) ⟨.inl rfl, .inl rfl, .inr (ne_row (f6.k b_g3) q_g4), trivial⟩)
  have s6_60 := f25.q 6 (f24.q 6 (f23.q 6 (f18.q 6 (f13.q 6 (f8.q 6 (f7.q 6 (f6.q 6 u_g3)))))))
  refine go_reg [bx g6 60 (cR ((Rg.nar ⟨restU op ⟨⟨a, b⟩, ⟨c, d⟩⟩ ⟨⟨p, q⟩, ⟨r, t⟩⟩, allR.s⟩).u.lo) ((Rg.nar ⟨restU op ⟨⟨a, b⟩, ⟨c, d⟩⟩ ⟨⟨p, q⟩, ⟨r, t⟩⟩, allR.s⟩).u.hi) ((Rg.nar ⟨restU op ⟨⟨a, b⟩, ⟨c, d⟩⟩ ⟨⟨p, q⟩, ⟨r, t⟩⟩, allR.s⟩).s.lo) ((Rg.nar ⟨restU op ⟨⟨a, b⟩, ⟨c, d⟩⟩ ⟨⟨p, q⟩, ⟨r, t⟩⟩, allR.s⟩).s.hi)), ⟨g3, 60, (cR 0 0 0 0), some 1, (cR ((Rg.nar ⟨restU op ⟨⟨a, b⟩, ⟨c, d⟩⟩ ⟨⟨p, q⟩, ⟨r, t⟩⟩, allR.s⟩).u.lo) ((Rg.nar ⟨restU op ⟨⟨a, b⟩, ⟨c, d⟩⟩ ⟨⟨p, q⟩, ⟨r, t⟩⟩, allR.s⟩).u.hi) ((Rg.nar ⟨restU op ⟨⟨a, b⟩, ⟨c, d⟩⟩ ⟨⟨p, q⟩, ⟨r, t⟩⟩, allR.s⟩).s.lo) ((Rg.nar ⟨restU op ⟨⟨a, b⟩, ⟨c, d⟩⟩ ⟨⟨p, q⟩, ⟨r, t⟩⟩, allR.s⟩).s.hi))⟩] [] [some (.agg (cR ((Rg.nar ⟨restU op ⟨⟨a, b⟩, ⟨c, d⟩⟩ ⟨⟨p, q⟩, ⟨r, t⟩⟩, allR.s⟩).u.lo) ((Rg.nar ⟨restU op ⟨⟨a, b⟩, ⟨c, d⟩⟩ ⟨⟨p, q⟩, ⟨r, t⟩⟩, allR.s⟩).u.hi) ((Rg.nar ⟨restU op ⟨⟨a, b⟩, ⟨c, d⟩⟩ ⟨⟨p, q⟩, ⟨r, t⟩⟩, allR.s⟩).s.lo) ((Rg.nar ⟨restU op ⟨⟨a, b⟩, ⟨c, d⟩⟩ ⟨⟨p, q⟩, ⟨r, t⟩⟩, allR.s⟩).s.hi))), none] mo f25.d f25.z f25.b (by kernel_rfl) ⟨b_g6, b_g3_59, trivial⟩ (
   hk (fun cx => cx.v (ldR rfl (cx.rq 9 u_g6) (cx.rn 0 rfl)) rfl rfl) <|
   hk (fun cx => cx.stR (wn rfl) rfl rfl 1 rfl (cx.rq 6 s6_60) (cx.u 0 rfl) (by kernel_rfl) rfl (by simp [Value.oneCell']) q_g3 rfl ⟨(ne_row (f24.kp (f23.k (f18.k (f13.k (f8.k (f7.k (f6.k b_g3)))))) ⟨.inl rfl, .inl rfl, .inr (ne_row (f6.k b_g3) q_g4), trivial⟩) q_g6).symm, trivial⟩ trivial) <|
   hn) ?_
  intro a26 w26 f26
  refine wp_ret ?_
  have s6_61 := f26.q 6 s6_60
  try simp only [Exit.inBlock, Exit.then]
  refine bodyPost_ret (res_c (fn := Try.f39) rfl s6_61 (load_row 60 f26.rows.2.1 Try.underlying60 rfl (by kernel_rfl))) f26.d ?_
  have no11 := nb Ffk3.out
  have no0 := nb Ffk4.out
  have no1 := nb Ffk5.out
  have HD : (⟨doU op ⟨⟨a, b⟩, ⟨c, d⟩⟩ ⟨⟨p, q⟩, ⟨r, t⟩⟩, doS op ⟨⟨a, b⟩, ⟨c, d⟩⟩ ⟨⟨p, q⟩, ⟨r, t⟩⟩⟩ : Rg) = ⟨restU op ⟨⟨a, b⟩, ⟨c, d⟩⟩ ⟨⟨p, q⟩, ⟨r, t⟩⟩, allR.s⟩ := by
    unfold doU doS
    simp only [if_neg no11, if_neg no0, if_neg no1]
    try rfl
  have HE : (.agg (cR ((Rg.nar ⟨restU op ⟨⟨a, b⟩, ⟨c, d⟩⟩ ⟨⟨p, q⟩, ⟨r, t⟩⟩, allR.s⟩).u.lo) ((Rg.nar ⟨restU op ⟨⟨a, b⟩, ⟨c, d⟩⟩ ⟨⟨p, q⟩, ⟨r, t⟩⟩, allR.s⟩).u.hi) ((Rg.nar ⟨restU op ⟨⟨a, b⟩, ⟨c, d⟩⟩ ⟨⟨p, q⟩, ⟨r, t⟩⟩, allR.s⟩).s.lo) ((Rg.nar ⟨restU op ⟨⟨a, b⟩, ⟨c, d⟩⟩ ⟨⟨p, q⟩, ⟨r, t⟩⟩, allR.s⟩).s.hi)) : Value) = Rg.val (Rg.doR op ⟨⟨a, b⟩, ⟨c, d⟩⟩ ⟨⟨p, q⟩, ⟨r, t⟩⟩) := by unfold Rg.doR; rw [Ffk1.out, Ffk2.out, if_pos (by rfl), HD]; try rfl
  exact ⟨retV HE, f26.b⟩
end Go.Proofs.Ytnmgehjccafegaa.Bnd
