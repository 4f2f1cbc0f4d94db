/-
  Package bounds: Given. (Written by gen_bndd.py.)
-/
import Derived.Test.YtnmgehjccafegaaBndE
namespace Go.Proofs.Ytnmgehjccafegaa.Bnd
open Go.RowKit
set_option linter.unusedVariables false
set_option linter.unusedSimpArgs false
set_option linter.unnecessarySimpa false
set_option maxRecDepth 100000



set_option maxHeartbeats 16000000 in
theorem given_n (cc a b c d p q r t : Int) (W : World) (ha : Rg.Ok ⟨⟨a, b⟩, ⟨c, d⟩⟩) (hb : Rg.Ok ⟨⟨p, q⟩, ⟨r, t⟩⟩) : Calls Try.prog 21 #[.int .i8 cc, .agg #[.int .u64 a, .int .u64 b, .int .i64 c, .int .i64 d], .agg #[.int .u64 p, .int .u64 q, .int .i64 r, .int .i64 t]] W fun e w' => e = .returned (.tuple #[.agg #[.int .u64 (Rg.giv cc ⟨⟨a, b⟩, ⟨c, d⟩⟩ ⟨⟨p, q⟩, ⟨r, t⟩⟩).u.lo, .int .u64 (Rg.giv cc ⟨⟨a, b⟩, ⟨c, d⟩⟩ ⟨⟨p, q⟩, ⟨r, t⟩⟩).u.hi, .int .i64 (Rg.giv cc ⟨⟨a, b⟩, ⟨c, d⟩⟩ ⟨⟨p, q⟩, ⟨r, t⟩⟩).s.lo, .int .i64 (Rg.giv cc ⟨⟨a, b⟩, ⟨c, d⟩⟩ ⟨⟨p, q⟩, ⟨r, t⟩⟩).s.hi], .bool (Rg.givB cc ⟨⟨a, b⟩, ⟨c, d⟩⟩ ⟨⟨p, q⟩, ⟨r, t⟩⟩)]) ∧ Below W.heap.size W w' := by
  have HA := Lib.hid ha
  have HB := Lib.hid hb
  clear ha hb
  refine calls_abs Try.func21 rfl (Nat.le_of_ble_eq_true rfl) ?_
  intro a0 d0 z0 h0
  replace z0 : a0.tmps.size = 105 := z0
  have s0_0 : a0.tmps.getD 0 undef = .int .i8 cc := h0 0 (Nat.le_of_ble_eq_true rfl)
  have s1_0 : a0.tmps.getD 1 undef = .agg (cR a b c d) := h0 1 (Nat.le_of_ble_eq_true rfl)
  have s2_0 : a0.tmps.getD 2 undef = .agg (cR p q r t) := h0 2 (Nat.le_of_ble_eq_true rfl)
  refine wp_seq ?_
  refine go_reg [] [⟨0, 4, 60, (cR a b c d), none, #[]⟩, ⟨1, 5, 60, (cR p q r t), none, #[]⟩, ⟨2, 6, 60, (cR 0 0 0 0), none, #[]⟩] [none, none, none, some (.bool false)] mo d0 z0 (Below.refl _ _) (by kernel_rfl) trivial (
   hc (fun _ ax _ cx => cx.al (wn rfl) 0 rfl (by simp [execOp, Act.eval, (show ax.tmps.getD 1 undef = .agg (cR a b c d) from (cx.rq 1 s1_0)), go_sem]) rfl rfl rfl rfl rfl trivial) <|
   hc (fun _ ax _ cx => cx.al (wn rfl) 1 rfl (by simp [execOp, Act.eval, (show ax.tmps.getD 2 undef = .agg (cR p q r t) from (cx.rq 2 s2_0)), go_sem]) rfl rfl rfl rfl rfl trivial) <|
   hk (fun cx => cx.al (wn rfl) 2 rfl (by simp [execOp, Act.eval, go_sem]) rfl rfl rfl rfl rfl trivial) <|
   hk (fun cx => cx.v (ex_as rfl rfl) rfl rfl) <|
   hn) ?_
  intro a1 w1 f1
  obtain ⟨g1, u_g1, q_g1, b_g1⟩ := f1.al.1
  obtain ⟨g2, u_g2, q_g2, b_g2⟩ := f1.al.2.1
  obtain ⟨g3, u_g3, q_g3, b_g3⟩ := f1.al.2.2.1
  refine wp_seq ?_
  refine wp_seq ?_
  cases fk1 : Rg.mayB ⟨⟨a, b⟩, ⟨c, d⟩⟩
  case false =>
   have Ffk1 := Lib.hid fk1; clear fk1
   refine go_reg [bx g1 60 (cR a b c d)] [] [some (.agg (cR a b c d)), some (.bool false), some (.bool true), some (.bool true), some (undef), some (undef), some (undef), some (.bool true)] mo f1.d f1.z f1.b (by kernel_rfl) ⟨b_g1, trivial⟩ (
    hk (fun cx => cx.v (ldR rfl (cx.rq 4 u_g1) (cx.rn 0 rfl)) rfl rfl) <|
    hc (fun _ _ wx cx => cx.c rfl (args1 (cx.u 0 rfl)) Try.func27 (by decide +kernel) (may_n a b c d wx) rfl (congrArg Value.bool Ffk1.out)) <|
    hk (fun cx => cx.v (ex_not (x := .tmp 13) rfl (cx.u 0 rfl)) rfl rfl) <|
    hk (fun cx => cx.v (ex_mv rfl (cx.u 0 rfl)) rfl rfl) <|
    hk (fun cx => cx.no (cx.wo rfl rfl rfl rfl (cx.u 0 rfl) rfl) rfl rfl rfl rfl) <|
    hk (fun cx => cx.no (cx.wo rfl rfl rfl rfl (cx.u 1 rfl) rfl) rfl rfl rfl rfl) <|
    hk (fun cx => cx.no (cx.wo rfl rfl rfl rfl (cx.u 1 rfl) rfl) rfl rfl rfl rfl) <|
    hk (fun cx => cx.v (ex_pt rfl (cx.u 0 rfl) rfl) rfl rfl) <|
    hn) ?_
   intro a2 w2 f2
   refine wp_cond_true (f2.v 7 rfl rfl rfl) ?_
   refine wp_seq ?_
   have b_g3_1 := f2.k b_g3
   have s6_2 := f2.q 6 u_g3
   refine go_reg [⟨g3, 60, (cR 0 0 0 0), some 1, (cR allR.u.lo allR.u.hi allR.s.lo allR.s.hi)⟩] [] [some (.agg (cR allR.u.lo allR.u.hi allR.s.lo allR.s.hi)), none, some (.bool false)] mo f2.d f2.z f2.b (by kernel_rfl) ⟨b_g3_1, trivial⟩ (
    hc (fun _ _ wx cx => cx.c rfl (args0 ) Try.func29 (by decide +kernel) (all_n wx) rfl rfl) <|
    hk (fun cx => cx.stR (wn rfl) rfl rfl 0 rfl (cx.rq 6 s6_2) (cx.u 0 rfl) (by kernel_rfl) rfl (by simp [Value.oneCell']) q_g3 rfl trivial trivial) <|
    hk (fun cx => cx.v (ex_as rfl rfl) rfl rfl) <|
    hn) ?_
   intro a3 w3 f3
   refine wp_ret ?_
   have s6_3 := f3.q 6 s6_2
   try simp only [Exit.inBlock, Exit.then]
   refine bodyPost_ret (res_ct (fn := Try.f21) rfl s6_3 (load_row 60 f3.rows.1 Try.underlying60 rfl (by kernel_rfl)) (f3.v 2 rfl rfl rfl)) f3.d ?_
   have HE : Value.tuple #[.agg (cR allR.u.lo allR.u.hi allR.s.lo allR.s.hi), .bool false] = .tuple #[Rg.val (Rg.giv cc ⟨⟨a, b⟩, ⟨c, d⟩⟩ ⟨⟨p, q⟩, ⟨r, t⟩⟩), .bool (Rg.givB cc ⟨⟨a, b⟩, ⟨c, d⟩⟩ ⟨⟨p, q⟩, ⟨r, t⟩⟩)] := by unfold Rg.giv Rg.givB; rw [Ffk1.out]; rfl
   exact ⟨retV HE, f3.b⟩
  have Ffk1 := Lib.hid fk1; clear fk1
  cases fk2 : Rg.mayB ⟨⟨p, q⟩, ⟨r, t⟩⟩
  case false =>
   have Ffk2 := Lib.hid fk2; clear fk2
   refine go_reg [bx g1 60 (cR a b c d), bx g2 60 (cR p q r t)] [] [some (.agg (cR a b c d)), some (.bool true), some (.bool false), some (.bool false), some (.agg (cR p q r t)), some (.bool false), some (.bool true), some (.bool true)] mo f1.d f1.z f1.b (by kernel_rfl) ⟨b_g1, b_g2, trivial⟩ (
    hk (fun cx => cx.v (ldR rfl (cx.rq 4 u_g1) (cx.rn 0 rfl)) rfl rfl) <|
    hc (fun _ _ wx cx => cx.c rfl (args1 (cx.u 0 rfl)) Try.func27 (by decide +kernel) (may_n a b c d wx) rfl (congrArg Value.bool Ffk1.out)) <|
    hk (fun cx => cx.v (ex_not (x := .tmp 13) rfl (cx.u 0 rfl)) rfl rfl) <|
    hk (fun cx => cx.v (ex_mv rfl (cx.u 0 rfl)) rfl rfl) <|
    hk (fun cx => cx.val (cx.wy rfl rfl rfl rfl (cx.u 0 rfl)) (ldR rfl (cx.rq 5 u_g2) (cx.rn 1 rfl)) rfl rfl rfl rfl) <|
    hc (fun _ _ wx cx => cx.call (cx.wy rfl rfl rfl rfl (cx.u 1 rfl)) rfl rfl (args1 (cx.u 0 rfl)) Try.func27 (by decide +kernel) rfl (may_n p q r t wx) rfl rfl (congrArg Value.bool Ffk2.out) rfl) <|
    hk (fun cx => cx.val (cx.wy rfl rfl rfl rfl (cx.u 1 rfl)) (ex_not (x := .tmp 17) rfl (cx.u 0 rfl)) rfl rfl rfl rfl) <|
    hk (fun cx => cx.v (ex_pf rfl (cx.u 0 rfl) (cx.u 1 rfl)) rfl rfl) <|
    hn) ?_
   intro a4 w4 f4
   refine wp_cond_true (f4.v 7 rfl rfl rfl) ?_
   refine wp_seq ?_
   have b_g3_4 := f4.k b_g3
   have s6_5 := f4.q 6 u_g3
   refine go_reg [⟨g3, 60, (cR 0 0 0 0), some 1, (cR allR.u.lo allR.u.hi allR.s.lo allR.s.hi)⟩] [] [some (.agg (cR allR.u.lo allR.u.hi allR.s.lo allR.s.hi)), none, some (.bool false)] mo f4.d f4.z f4.b (by kernel_rfl) ⟨b_g3_4, trivial⟩ (
    hc (fun _ _ wx cx => cx.c rfl (args0 ) Try.func29 (by decide +kernel) (all_n wx) rfl rfl) <|
    hk (fun cx => cx.stR (wn rfl) rfl rfl 0 rfl (cx.rq 6 s6_5) (cx.u 0 rfl) (by kernel_rfl) rfl (by simp [Value.oneCell']) q_g3 rfl trivial trivial) <|
    hk (fun cx => cx.v (ex_as rfl rfl) rfl rfl) <|
    hn) ?_
   intro a5 w5 f5
   refine wp_ret ?_
   have s6_6 := f5.q 6 s6_5
   try simp only [Exit.inBlock, Exit.then]
   refine bodyPost_ret (res_ct (fn := Try.f21) rfl s6_6 (load_row 60 f5.rows.1 Try.underlying60 rfl (by kernel_rfl)) (f5.v 2 rfl rfl rfl)) f5.d ?_
   have HE : Value.tuple #[.agg (cR allR.u.lo allR.u.hi allR.s.lo allR.s.hi), .bool false] = .tuple #[Rg.val (Rg.giv cc ⟨⟨a, b⟩, ⟨c, d⟩⟩ ⟨⟨p, q⟩, ⟨r, t⟩⟩), .bool (Rg.givB cc ⟨⟨a, b⟩, ⟨c, d⟩⟩ ⟨⟨p, q⟩, ⟨r, t⟩⟩)] := by unfold Rg.giv Rg.givB; rw [Ffk1.out, Ffk2.out]; rfl
   exact ⟨retV HE, f5.b⟩
  have Ffk2 := Lib.hid fk2; clear fk2
  refine go_reg [bx g1 60 (cR a b c d), bx g2 60 (cR p q r t)] [] [some (.agg (cR a b c d)), some (.bool true), some (.bool false), some (.bool false), some (.agg (cR p q r t)), some (.bool true), some (.bool false), some (.bool false)] mo f1.d f1.z f1.b (by kernel_rfl) ⟨b_g1, b_g2, trivial⟩ (
   hk (fun cx => cx.v (ldR rfl (cx.rq 4 u_g1) (cx.rn 0 rfl)) rfl rfl) <|
   hc (fun _ _ wx cx => cx.c rfl (args1 (cx.u 0 rfl)) Try.func27 (by decide +kernel) (may_n a b c d wx) rfl (congrArg Value.bool Ffk1.out)) <|
   hk (fun cx => cx.v (ex_not (x := .tmp 13) rfl (cx.u 0 rfl)) rfl rfl) <|
   hk (fun cx => cx.v (ex_mv rfl (cx.u 0 rfl)) rfl rfl) <|
   hk (fun cx => cx.val (cx.wy rfl rfl rfl rfl (cx.u 0 rfl)) (ldR rfl (cx.rq 5 u_g2) (cx.rn 1 rfl)) rfl rfl rfl rfl) <|
   hc (fun _ _ wx cx => cx.call (cx.wy rfl rfl rfl rfl (cx.u 1 rfl)) rfl rfl (args1 (cx.u 0 rfl)) Try.func27 (by decide +kernel) rfl (may_n p q r t wx) rfl rfl (congrArg Value.bool Ffk2.out) rfl) <|
   hk (fun cx => cx.val (cx.wy rfl rfl rfl rfl (cx.u 1 rfl)) (ex_not (x := .tmp 17) rfl (cx.u 0 rfl)) rfl rfl rfl rfl) <|
   hk (fun cx => cx.v (ex_pf rfl (cx.u 0 rfl) (cx.u 1 rfl)) rfl rfl) <|
   hn) ?_
  intro a6 w6 f6
  refine wp_cond_false (f6.v 7 rfl rfl rfl) ?_
  refine wp_skip ?_
  refine wp_seq ?_
  have b_g1_7 := f6.k b_g1
  have s4_8 := f6.q 4 u_g1
  refine go_reg [bx g1 60 (cR a b c d)] [⟨4, 8, 89, (cU 0 0), some 6, (cU a b)⟩, ⟨5, 9, 93, (cS 0 0), some 7, (cS c d)⟩] [some (.agg (cR a b c d)), some (.agg (cU a b)), some (.agg (cR a b c d)), some (.agg (cS c d)), none, none, none, none] mo f6.d f6.z f6.b (by kernel_rfl) ⟨b_g1_7, trivial⟩ (
   hk (fun cx => cx.v (ldR rfl (cx.rq 4 s4_8) (cx.rn 0 rfl)) rfl rfl) <|
   hc (fun _ _ wx cx => cx.c rfl (args1 (cx.u 0 rfl)) Try.func55 (by decide +kernel) (unsigned_n a b c d wx) rfl rfl) <|
   hk (fun cx => cx.v (ldR rfl (cx.rq 4 s4_8) (cx.rn 0 rfl)) rfl rfl) <|
   hc (fun _ _ wx cx => cx.c rfl (args1 (cx.u 0 rfl)) Try.func57 (by decide +kernel) (signed_n a b c d wx) rfl rfl) <|
   hk (fun cx => cx.al (wn rfl) 0 rfl (by simp [execOp, Act.eval, go_sem]) rfl rfl rfl rfl (by kernel_rfl) trivial) <|
   hk (fun cx => cx.al (wn rfl) 1 rfl (by simp [execOp, Act.eval, go_sem]) rfl rfl rfl rfl (by kernel_rfl) trivial) <|
   hk (fun cx => cx.stA (wn rfl) rfl rfl 0 0 rfl rfl rfl rfl (cx.u 1 rfl) (by kernel_rfl) rfl (by simp [Value.oneCell']) f6.b.size rfl rfl trivial) <|
   hk (fun cx => cx.stA (wn rfl) rfl rfl 1 0 rfl rfl rfl rfl (cx.u 1 rfl) (by kernel_rfl) rfl (by simp [Value.oneCell']) f6.b.size rfl rfl trivial) <|
   hn) ?_
  intro a7 w7 f7
  obtain ⟨g4, u_g4, q_g4, b_g4⟩ := f7.al.1
  obtain ⟨g5, u_g5, q_g5, b_g5⟩ := f7.al.2.1
  have neM0_1 := (ne_row (f6.k b_g3) q_g4)
  have neM0_2 := (ne_row (f6.k b_g3) q_g5)
  have neM1_2 := (ne_ptr (pairAt f7.ps 0 1 (by decide) rfl rfl) u_g4 u_g5)
  refine wp_cut (fun aI wI => ∃ z : Rg, (givC cc ⟨⟨a, b⟩, ⟨c, d⟩⟩ ⟨⟨p, q⟩, ⟨r, t⟩⟩ = z ∧ ccOk cc = true) ∧ Mid 105 W [(6, .pointer (some ⟨g3, 0, none⟩)), (8, .pointer (some ⟨g4, 0, none⟩)), (9, .pointer (some ⟨g5, 0, none⟩))] [(g3, 60, (cR 0 0 0 0)), (g4, 89, (cU z.u.lo z.u.hi)), (g5, 93, (cS z.s.lo z.s.hi))] aI wI) ?_ ?_
  refine wp_seq ?_
  have s0_9 := f7.q 0 (f6.q 0 (f1.q 0 s0_0))
  refine go_reg [] [] [some (.int .i8 cc)] mo f7.d f7.z f7.b (by kernel_rfl) trivial (
   hk (fun cx => cx.v (ex_mv rfl (cx.rq 0 s0_9)) rfl rfl) <|
   hn) ?_
  intro a8 w8 f8
  refine wp_block ?_
  refine wp_seq ?_
  cases fk3 : cc == 0
  case true =>
   have Ffk3 := Lib.hid fk3; clear fk3
   refine go_reg [] [] [some (.bool true), some (.bool true)] mo f8.d f8.z f8.b (by kernel_rfl) trivial (
    hk (fun cx => cx.v (ex_eq (x := .tmp 25) rfl (cx.rq 25 (f8.v 0 rfl rfl rfl)) rfl) rfl (congrArg Value.bool Ffk3.out)) <|
    hk (fun cx => cx.v (ex_as rfl (cx.u 0 rfl)) rfl rfl) <|
    hn) ?_
   intro a9 w9 f9
   refine wp_cond_true (f9.v 1 rfl rfl rfl) ?_
   refine wp_seq ?_
   have b_g1_10 := f9.k (f8.k (f7.k b_g1_7))
   have b_g2_11 := f9.k (f8.k (f7.k (f6.k b_g2)))
   have b_g3_12 := f9.k (f8.k (f7.k (f6.k b_g3)))
   have s4_13 := f9.q 4 (f8.q 4 (f7.q 4 s4_8))
   have s5_14 := f9.q 5 (f8.q 5 (f7.q 5 (f6.q 5 u_g2)))
   have s6_15 := f9.q 6 (f8.q 6 (f7.q 6 (f6.q 6 u_g3)))
   refine go_reg [bx g1 60 (cR a b c d), bx g2 60 (cR p q r t), ⟨g3, 60, (cR 0 0 0 0), some 5, (cR ((Rg.meetR ⟨⟨a, b⟩, ⟨c, d⟩⟩ ⟨⟨p, q⟩, ⟨r, t⟩⟩).u.lo) ((Rg.meetR ⟨⟨a, b⟩, ⟨c, d⟩⟩ ⟨⟨p, q⟩, ⟨r, t⟩⟩).u.hi) ((Rg.meetR ⟨⟨a, b⟩, ⟨c, d⟩⟩ ⟨⟨p, q⟩, ⟨r, t⟩⟩).s.lo) ((Rg.meetR ⟨⟨a, b⟩, ⟨c, d⟩⟩ ⟨⟨p, q⟩, ⟨r, t⟩⟩).s.hi))⟩] [] [some (.agg (cR a b c d)), some (.agg (cR p q r t)), some (.tuple #[.agg (cR ((Rg.meetR ⟨⟨a, b⟩, ⟨c, d⟩⟩ ⟨⟨p, q⟩, ⟨r, t⟩⟩).u.lo) ((Rg.meetR ⟨⟨a, b⟩, ⟨c, d⟩⟩ ⟨⟨p, q⟩, ⟨r, t⟩⟩).u.hi) ((Rg.meetR ⟨⟨a, b⟩, ⟨c, d⟩⟩ ⟨⟨p, q⟩, ⟨r, t⟩⟩).s.lo) ((Rg.meetR ⟨⟨a, b⟩, ⟨c, d⟩⟩ ⟨⟨p, q⟩, ⟨r, t⟩⟩).s.hi)), .bool (Rg.meetB ⟨⟨a, b⟩, ⟨c, d⟩⟩ ⟨⟨p, q⟩, ⟨r, t⟩⟩)]), some (.agg (cR ((Rg.meetR ⟨⟨a, b⟩, ⟨c, d⟩⟩ ⟨⟨p, q⟩, ⟨r, t⟩⟩).u.lo) ((Rg.meetR ⟨⟨a, b⟩, ⟨c, d⟩⟩ ⟨⟨p, q⟩, ⟨r, t⟩⟩).u.hi) ((Rg.meetR ⟨⟨a, b⟩, ⟨c, d⟩⟩ ⟨⟨p, q⟩, ⟨r, t⟩⟩).s.lo) ((Rg.meetR ⟨⟨a, b⟩, ⟨c, d⟩⟩ ⟨⟨p, q⟩, ⟨r, t⟩⟩).s.hi))), some (.bool (Rg.meetB ⟨⟨a, b⟩, ⟨c, d⟩⟩ ⟨⟨p, q⟩, ⟨r, t⟩⟩)), none, some (.bool (Rg.meetB ⟨⟨a, b⟩, ⟨c, d⟩⟩ ⟨⟨p, q⟩, ⟨r, t⟩⟩))] mo f9.d f9.z f9.b (by kernel_rfl) ⟨b_g1_10, b_g2_11, b_g3_12, trivial⟩ (
    hk (fun cx => cx.v (ldR rfl (cx.rq 4 s4_13) (cx.rn 0 rfl)) rfl rfl) <|
    hk (fun cx => cx.v (ldR rfl (cx.rq 5 s5_14) (cx.rn 1 rfl)) rfl rfl) <|
    hc (fun _ _ wx cx => cx.c rfl (args2 (cx.u 0 rfl) (cx.u 1 rfl)) Try.func19 (by decide +kernel) (meet_n a b c d p q r t wx HA.out HB.out) rfl rfl) <|
    hk (fun cx => cx.v (ex_ext (x := .tmp 31) rfl (cx.u 0 rfl) rfl) rfl rfl) <|
    hk (fun cx => cx.v (ex_ext (x := .tmp 31) rfl (cx.u 0 rfl) rfl) rfl rfl) <|
    hk (fun cx => cx.stR (wn rfl) rfl rfl 2 rfl (cx.rq 6 s6_15) (cx.u 0 rfl) (by kernel_rfl) rfl (by simp [Value.oneCell']) q_g3 rfl ⟨(ne_ptr (pairAt f1.ps 0 2 (by decide) rfl rfl) u_g1 u_g3), (ne_ptr (pairAt f1.ps 1 2 (by decide) rfl rfl) u_g2 u_g3), trivial⟩ trivial) <|
    hk (fun cx => cx.v (ex_as rfl (cx.u 0 rfl)) rfl rfl) <|
    hn) ?_
   intro a10 w10 f10
   refine wp_ret ?_
   have s6_16 := f10.q 6 s6_15
   try simp only [Exit.inBlock, Exit.then]
   refine bodyPost_ret (res_ct (fn := Try.f21) rfl s6_16 (load_row 60 f10.rows.2.2.1 Try.underlying60 rfl (by kernel_rfl)) (f10.v 6 rfl rfl rfl)) f10.d ?_
   have ho : cc = 0 := yb Ffk3.out
   have hk : ccOk cc = true := by rw [ho]; rfl
   have HD : givC cc ⟨⟨a, b⟩, ⟨c, d⟩⟩ ⟨⟨p, q⟩, ⟨r, t⟩⟩ = Rg.meet2 ⟨⟨a, b⟩, ⟨c, d⟩⟩ ⟨⟨p, q⟩, ⟨r, t⟩⟩ := by unfold givC; rw [if_pos ho]
   have HE : Value.tuple #[.agg (cR ((Rg.meetR ⟨⟨a, b⟩, ⟨c, d⟩⟩ ⟨⟨p, q⟩, ⟨r, t⟩⟩).u.lo) ((Rg.meetR ⟨⟨a, b⟩, ⟨c, d⟩⟩ ⟨⟨p, q⟩, ⟨r, t⟩⟩).u.hi) ((Rg.meetR ⟨⟨a, b⟩, ⟨c, d⟩⟩ ⟨⟨p, q⟩, ⟨r, t⟩⟩).s.lo) ((Rg.meetR ⟨⟨a, b⟩, ⟨c, d⟩⟩ ⟨⟨p, q⟩, ⟨r, t⟩⟩).s.hi)), .bool (Rg.meetB ⟨⟨a, b⟩, ⟨c, d⟩⟩ ⟨⟨p, q⟩, ⟨r, t⟩⟩)] = .tuple #[Rg.val (Rg.giv cc ⟨⟨a, b⟩, ⟨c, d⟩⟩ ⟨⟨p, q⟩, ⟨r, t⟩⟩), .bool (Rg.givB cc ⟨⟨a, b⟩, ⟨c, d⟩⟩ ⟨⟨p, q⟩, ⟨r, t⟩⟩)] := by unfold Rg.giv Rg.givB; rw [Ffk1.out, Ffk2.out, hk, if_pos (by rfl), HD]; unfold Rg.meetR Rg.meetB; rw [Ffk1.out, Ffk2.out, if_pos (by rfl)]; rfl
   exact ⟨retV HE, f10.b⟩
  have Ffk3 := Lib.hid fk3; clear fk3
  refine go_reg [] [] [some (.bool false), some (.bool false)] mo f8.d f8.z f8.b (by kernel_rfl) trivial (
   hk (fun cx => cx.v (ex_eq (x := .tmp 25) rfl (cx.rq 25 (f8.v 0 rfl rfl rfl)) rfl) rfl (congrArg Value.bool Ffk3.out)) <|
   hk (fun cx => cx.v (ex_as rfl (cx.u 0 rfl)) rfl rfl) <|
   hn) ?_
  intro a11 w11 f11
  refine wp_cond_false (f11.v 1 rfl rfl rfl) ?_
  refine wp_seq ?_
  cases fk4 : cc == 1
  case true =>
   have Ffk4 := Lib.hid fk4; clear fk4
   have s25_17 := f11.q 25 (f8.v 0 rfl rfl rfl)
   refine go_reg [] [] [some (.bool true), some (.bool true)] mo f11.d f11.z f11.b (by kernel_rfl) trivial (
    hk (fun cx => cx.v (ex_eq (x := .tmp 25) rfl (cx.rq 25 s25_17) rfl) rfl (congrArg Value.bool Ffk4.out)) <|
    hk (fun cx => cx.v (ex_as rfl (cx.u 0 rfl)) rfl rfl) <|
    hn) ?_
   intro a12 w12 f12
   refine wp_cond_true (f12.v 1 rfl rfl rfl) ?_
   refine wp_seq ?_
   cases fk5 : Rg.oneB ⟨⟨p, q⟩, ⟨r, t⟩⟩
   case false =>
    have Ffk5 := Lib.hid fk5; clear fk5
    have b_g2_18 := f12.k (f11.k (f8.k (f7.k (f6.k b_g2))))
    have s5_19 := f12.q 5 (f11.q 5 (f8.q 5 (f7.q 5 (f6.q 5 u_g2))))
    refine go_reg [bx g2 60 (cR p q r t)] [] [some (.agg (cR p q r t)), some (.tuple #[.int .u64 (Rg.oneV ⟨⟨p, q⟩, ⟨r, t⟩⟩), .bool (Rg.oneB ⟨⟨p, q⟩, ⟨r, t⟩⟩)]), some (.tuple #[.int .u64 (Rg.oneV ⟨⟨p, q⟩, ⟨r, t⟩⟩), .bool (Rg.oneB ⟨⟨p, q⟩, ⟨r, t⟩⟩)]), some (.int .u64 (Rg.oneV ⟨⟨p, q⟩, ⟨r, t⟩⟩)), some (.bool false), some (.int .u64 (Rg.oneV ⟨⟨p, q⟩, ⟨r, t⟩⟩)), some (.bool false)] mo f12.d f12.z f12.b (by kernel_rfl) ⟨b_g2_18, trivial⟩ (
     hk (fun cx => cx.v (ldR rfl (cx.rq 5 s5_19) (cx.rn 0 rfl)) rfl rfl) <|
     hc (fun _ _ wx cx => cx.c rfl (args1 (cx.u 0 rfl)) Try.func23 (by decide +kernel) (single_n p q r t wx) rfl rfl) <|
     hk (fun cx => cx.v (ex_mv rfl (cx.u 0 rfl)) rfl rfl) <|
     hk (fun cx => cx.v (ex_ext (x := .tmp 36) rfl (cx.u 0 rfl) rfl) rfl rfl) <|
     hk (fun cx => cx.v (ex_ext (x := .tmp 36) rfl (cx.u 0 rfl) rfl) rfl (congrArg Value.bool Ffk5.out)) <|
     hk (fun cx => cx.v (ex_as rfl (cx.u 0 rfl)) rfl rfl) <|
     hk (fun cx => cx.v (ex_as rfl (cx.u 0 rfl)) rfl rfl) <|
     hn) ?_
    intro a13 w13 f13
    refine wp_seq ?_
    refine go_reg [] [] [some (.bool false)] mo f13.d f13.z f13.b (by kernel_rfl) trivial (
     hk (fun cx => cx.v (ex_mv rfl (cx.rq 11 (f13.v 6 rfl rfl rfl))) rfl rfl) <|
     hn) ?_
    intro a14 w14 f14
    refine wp_cond_false (f14.v 0 rfl rfl rfl) ?_
    refine wp_skip ?_
    have s6_20 := f14.q 6 (f13.q 6 (f12.q 6 (f11.q 6 (f8.q 6 (f7.q 6 (f6.q 6 u_g3))))))
    have s8_21 := f14.q 8 (f13.q 8 (f12.q 8 (f11.q 8 (f8.q 8 u_g4))))
    have s9_22 := f14.q 9 (f13.q 9 (f12.q 9 (f11.q 9 (f8.q 9 u_g5))))
    have b_g3_23 := f14.k (f13.k (f12.k (f11.k (f8.k (f7.k (f6.k b_g3))))))
    have b_g4_24 := f14.k (f13.k (f12.k (f11.k (f8.k b_g4))))
    have b_g5_25 := f14.k (f13.k (f12.k (f11.k (f8.k b_g5))))
    exact ⟨⟨⟨a, b⟩, ⟨c, d⟩⟩, ⟨by unfold givC; simp only [if_neg (nb Ffk3.out), if_pos (yb Ffk4.out), if_neg (show ¬ Rg.oneB ⟨⟨p, q⟩, ⟨r, t⟩⟩ = true by rw [Ffk5.out]; decide)]; try rfl, by rw [yb Ffk4.out]; rfl⟩, f14.d, f14.z, f14.b, ⟨s6_20, s8_21, s9_22, trivial⟩, ⟨b_g3_23, b_g4_24, b_g5_25, trivial⟩⟩
   have Ffk5 := Lib.hid fk5; clear fk5
   have b_g2_26 := f12.k (f11.k (f8.k (f7.k (f6.k b_g2))))
   have s5_27 := f12.q 5 (f11.q 5 (f8.q 5 (f7.q 5 (f6.q 5 u_g2))))
   refine go_reg [bx g2 60 (cR p q r t)] [] [some (.agg (cR p q r t)), some (.tuple #[.int .u64 (Rg.oneV ⟨⟨p, q⟩, ⟨r, t⟩⟩), .bool (Rg.oneB ⟨⟨p, q⟩, ⟨r, t⟩⟩)]), some (.tuple #[.int .u64 (Rg.oneV ⟨⟨p, q⟩, ⟨r, t⟩⟩), .bool (Rg.oneB ⟨⟨p, q⟩, ⟨r, t⟩⟩)]), some (.int .u64 (Rg.oneV ⟨⟨p, q⟩, ⟨r, t⟩⟩)), some (.bool true), some (.int .u64 (Rg.oneV ⟨⟨p, q⟩, ⟨r, t⟩⟩)), some (.bool true)] mo f12.d f12.z f12.b (by kernel_rfl) ⟨b_g2_26, trivial⟩ (
    hk (fun cx => cx.v (ldR rfl (cx.rq 5 s5_27) (cx.rn 0 rfl)) rfl rfl) <|
    hc (fun _ _ wx cx => cx.c rfl (args1 (cx.u 0 rfl)) Try.func23 (by decide +kernel) (single_n p q r t wx) rfl rfl) <|
    hk (fun cx => cx.v (ex_mv rfl (cx.u 0 rfl)) rfl rfl) <|
    hk (fun cx => cx.v (ex_ext (x := .tmp 36) rfl (cx.u 0 rfl) rfl) rfl rfl) <|
    hk (fun cx => cx.v (ex_ext (x := .tmp 36) rfl (cx.u 0 rfl) rfl) rfl (congrArg Value.bool Ffk5.out)) <|
    hk (fun cx => cx.v (ex_as rfl (cx.u 0 rfl)) rfl rfl) <|
    hk (fun cx => cx.v (ex_as rfl (cx.u 0 rfl)) rfl rfl) <|
    hn) ?_
   intro a15 w15 f15
   refine wp_seq ?_
   refine go_reg [] [] [some (.bool true)] mo f15.d f15.z f15.b (by kernel_rfl) trivial (
    hk (fun cx => cx.v (ex_mv rfl (cx.rq 11 (f15.v 6 rfl rfl rfl))) rfl rfl) <|
    hn) ?_
   intro a16 w16 f16
   refine wp_cond_true (f16.v 0 rfl rfl rfl) ?_
   have b_g4_28 := f16.k (f15.k (f12.k (f11.k (f8.k b_g4))))
   have b_g5_29 := f16.k (f15.k (f12.k (f11.k (f8.k b_g5))))
   have s8_30 := f16.q 8 (f15.q 8 (f12.q 8 (f11.q 8 (f8.q 8 u_g4))))
   have s10_31 := f16.q 10 (f15.v 5 rfl rfl rfl)
   have s9_32 := f16.q 9 (f15.q 9 (f12.q 9 (f11.q 9 (f8.q 9 u_g5))))
   refine go_reg [⟨g4, 89, (cU a b), some 7, (cU ((Pr.without ⟨a, b⟩ (Rg.oneV ⟨⟨p, q⟩, ⟨r, t⟩⟩)).lo) ((Pr.without ⟨a, b⟩ (Rg.oneV ⟨⟨p, q⟩, ⟨r, t⟩⟩)).hi))⟩, ⟨g5, 93, (cS c d), some 8, (cS ((Pr.without ⟨c, d⟩ (sg (Rg.oneV ⟨⟨p, q⟩, ⟨r, t⟩⟩))).lo) ((Pr.without ⟨c, d⟩ (sg (Rg.oneV ⟨⟨p, q⟩, ⟨r, t⟩⟩))).hi))⟩] [] [some (.agg (cU a b)), some (.int .u64 (Rg.oneV ⟨⟨p, q⟩, ⟨r, t⟩⟩)), some (.agg (cU ((Pr.without ⟨a, b⟩ (Rg.oneV ⟨⟨p, q⟩, ⟨r, t⟩⟩)).lo) ((Pr.without ⟨a, b⟩ (Rg.oneV ⟨⟨p, q⟩, ⟨r, t⟩⟩)).hi))), some (.agg (cS c d)), some (.int .u64 (Rg.oneV ⟨⟨p, q⟩, ⟨r, t⟩⟩)), some (.int .i64 (sg (Rg.oneV ⟨⟨p, q⟩, ⟨r, t⟩⟩))), some (.agg (cS ((Pr.without ⟨c, d⟩ (sg (Rg.oneV ⟨⟨p, q⟩, ⟨r, t⟩⟩))).lo) ((Pr.without ⟨c, d⟩ (sg (Rg.oneV ⟨⟨p, q⟩, ⟨r, t⟩⟩))).hi))), none, none] mo f16.d f16.z f16.b (by kernel_rfl) ⟨b_g4_28, b_g5_29, trivial⟩ (
    hk (fun cx => cx.v (ldU rfl (cx.rq 8 s8_30) (cx.rf 0 rfl (by kernel_rfl))) rfl rfl) <|
    hk (fun cx => cx.v (ex_mv rfl (cx.rq 10 s10_31)) rfl rfl) <|
    hc (fun _ _ wx cx => cx.c rfl (args2 (cx.u 0 rfl) (cx.u 1 rfl)) Try.func59 (by decide +kernel) (withoutU_n a b (Rg.oneV ⟨⟨p, q⟩, ⟨r, t⟩⟩) wx HA.out.1 ((may_iff ⟨⟨a, b⟩, ⟨c, d⟩⟩).1 Ffk1.out).1) rfl rfl) <|
    hk (fun cx => cx.v (ldS rfl (cx.rq 9 s9_32) (cx.rf 1 rfl (by kernel_rfl))) rfl rfl) <|
    hk (fun cx => cx.v (ex_mv rfl (cx.rq 10 s10_31)) rfl rfl) <|
    hk (fun cx => cx.v (ex_conv (x := .tmp 46) rfl (cx.u 0 rfl) Try.underlying30 Try.underlying2) rfl (congrArg (Value.int .i64) (wrap_sg (Rg.oneV ⟨⟨p, q⟩, ⟨r, t⟩⟩)))) <|
    hc (fun _ _ wx cx => cx.c rfl (args2 (cx.u 0 rfl) (cx.u 1 rfl)) Try.func60 (by decide +kernel) (withoutS_n c d (sg (Rg.oneV ⟨⟨p, q⟩, ⟨r, t⟩⟩)) wx HA.out.2 ((may_iff ⟨⟨a, b⟩, ⟨c, d⟩⟩).1 Ffk1.out).2) rfl rfl) <|
    hk (fun cx => cx.stR (wn rfl) rfl rfl 0 rfl (cx.rq 8 s8_30) (cx.u 0 rfl) (by kernel_rfl) rfl (by simp [Value.oneCell']) (Nat.le_trans f6.b.size q_g4) rfl ⟨(ne_ptr (pairAt f7.ps 0 1 (by decide) rfl rfl) u_g4 u_g5).symm, trivial⟩ trivial) <|
    hk (fun cx => cx.stR (wn rfl) rfl rfl 1 rfl (cx.rq 9 s9_32) (cx.u 0 rfl) (by kernel_rfl) rfl (by simp [Value.oneCell']) (Nat.le_trans f6.b.size q_g5) rfl ⟨(ne_ptr (pairAt f7.ps 0 1 (by decide) rfl rfl) u_g4 u_g5), trivial⟩ trivial) <|
    hn) ?_
   intro a17 w17 f17
   have s6_33 := f17.q 6 (f16.q 6 (f15.q 6 (f12.q 6 (f11.q 6 (f8.q 6 (f7.q 6 (f6.q 6 u_g3)))))))
   have s8_34 := f17.q 8 s8_30
   have s9_35 := f17.q 9 s9_32
   have b_g3_36 := f17.kp (f16.k (f15.k (f12.k (f11.k (f8.k (f7.k (f6.k b_g3))))))) ⟨.inr (ne_row (f6.k b_g3) q_g4), .inr (ne_row (f6.k b_g3) q_g5), trivial⟩
   exact ⟨⟨Pr.without ⟨a, b⟩ (Rg.oneV ⟨⟨p, q⟩, ⟨r, t⟩⟩), Pr.without ⟨c, d⟩ (sg (Rg.oneV ⟨⟨p, q⟩, ⟨r, t⟩⟩))⟩, ⟨by unfold givC; simp only [if_neg (nb Ffk3.out), if_pos (yb Ffk4.out), if_pos (show Rg.oneB ⟨⟨p, q⟩, ⟨r, t⟩⟩ = true from Ffk5.out)]; try rfl, by rw [yb Ffk4.out]; rfl⟩, f17.d, f17.z, f17.b, ⟨s6_33, s8_34, s9_35, trivial⟩, ⟨b_g3_36, f17.rows.1, f17.rows.2.1, trivial⟩⟩
  have Ffk4 := Lib.hid fk4; clear fk4
  have s25_37 := f11.q 25 (f8.v 0 rfl rfl rfl)
  refine go_reg [] [] [some (.bool false), some (.bool false)] mo f11.d f11.z f11.b (by kernel_rfl) trivial (
   hk (fun cx => cx.v (ex_eq (x := .tmp 25) rfl (cx.rq 25 s25_37) rfl) rfl (congrArg Value.bool Ffk4.out)) <|
   hk (fun cx => cx.v (ex_as rfl (cx.u 0 rfl)) rfl rfl) <|
   hn) ?_
  intro a18 w18 f18
  refine wp_cond_false (f18.v 1 rfl rfl rfl) ?_
  refine wp_seq ?_
  cases fk6 : cc == 2
  case true =>
   have Ffk6 := Lib.hid fk6; clear fk6
   have s25_38 := f18.q 25 s25_37
   refine go_reg [] [] [some (.bool true), some (.bool true)] mo f18.d f18.z f18.b (by kernel_rfl) trivial (
    hk (fun cx => cx.v (ex_eq (x := .tmp 25) rfl (cx.rq 25 s25_38) rfl) rfl (congrArg Value.bool Ffk6.out)) <|
    hk (fun cx => cx.v (ex_as rfl (cx.u 0 rfl)) rfl rfl) <|
    hn) ?_
   intro a19 w19 f19
   refine wp_cond_true (f19.v 1 rfl rfl rfl) ?_
   have b_g4_39 := f19.k (f18.k (f11.k (f8.k b_g4)))
   have b_g2_40 := f19.k (f18.k (f11.k (f8.k (f7.k (f6.k b_g2)))))
   have s8_41 := f19.q 8 (f18.q 8 (f11.q 8 (f8.q 8 u_g4)))
   have s5_42 := f19.q 5 (f18.q 5 (f11.q 5 (f8.q 5 (f7.q 5 (f6.q 5 u_g2)))))
   refine go_reg [⟨g4, 89, (cU a b), some 4, (cU ((Pr.above ⟨a, b⟩ ⟨p, q⟩).lo) ((Pr.above ⟨a, b⟩ ⟨p, q⟩).hi))⟩, bx g2 60 (cR p q r t)] [] [some (.agg (cU a b)), some (.agg (cR p q r t)), some (.agg (cU p q)), some (.agg (cU ((Pr.above ⟨a, b⟩ ⟨p, q⟩).lo) ((Pr.above ⟨a, b⟩ ⟨p, q⟩).hi))), none] mo f19.d f19.z f19.b (by kernel_rfl) ⟨b_g4_39, b_g2_40, trivial⟩ (
    hk (fun cx => cx.v (ldU rfl (cx.rq 8 s8_41) (cx.rf 0 rfl (by kernel_rfl))) rfl rfl) <|
    hk (fun cx => cx.v (ldR rfl (cx.rq 5 s5_42) (cx.rn 1 rfl)) rfl rfl) <|
    hc (fun _ _ wx cx => cx.c rfl (args1 (cx.u 0 rfl)) Try.func55 (by decide +kernel) (unsigned_n p q r t wx) rfl rfl) <|
    hc (fun _ _ wx cx => cx.c rfl (args2 (cx.u 0 rfl) (cx.u 1 rfl)) Try.func61 (by decide +kernel) (aboveU_n a b p q wx HA.out.1 HB.out.1) rfl rfl) <|
    hk (fun cx => cx.stR (wn rfl) rfl rfl 0 rfl (cx.rq 8 s8_41) (cx.u 0 rfl) (by kernel_rfl) rfl (by simp [Value.oneCell']) (Nat.le_trans f6.b.size q_g4) rfl ⟨(ne_row (f6.k b_g2) q_g4), trivial⟩ trivial) <|
    hn) ?_
   intro a20 w20 f20
   have s6_43 := f20.q 6 (f19.q 6 (f18.q 6 (f11.q 6 (f8.q 6 (f7.q 6 (f6.q 6 u_g3))))))
   have s8_44 := f20.q 8 s8_41
   have s9_45 := f20.q 9 (f19.q 9 (f18.q 9 (f11.q 9 (f8.q 9 u_g5))))
   have b_g3_46 := f20.kp (f19.k (f18.k (f11.k (f8.k (f7.k (f6.k b_g3)))))) ⟨.inr (ne_row (f6.k b_g3) q_g4), .inl rfl, trivial⟩
   have b_g5_47 := f20.kp (f19.k (f18.k (f11.k (f8.k b_g5)))) ⟨.inr (ne_ptr (pairAt f7.ps 0 1 (by decide) rfl rfl) u_g4 u_g5).symm, .inl rfl, trivial⟩
   exact ⟨⟨Pr.above ⟨a, b⟩ ⟨p, q⟩, ⟨c, d⟩⟩, ⟨by unfold givC; simp only [if_neg (nb Ffk3.out), if_neg (nb Ffk4.out), if_pos (yb Ffk6.out)]; try rfl, by rw [yb Ffk6.out]; rfl⟩, f20.d, f20.z, f20.b, ⟨s6_43, s8_44, s9_45, trivial⟩, ⟨b_g3_46, f20.rows.1, b_g5_47, trivial⟩⟩
  have Ffk6 := Lib.hid fk6; clear fk6
  have s25_48 := f18.q 25 s25_37
  refine go_reg [] [] [some (.bool false), some (.bool false)] mo f18.d f18.z f18.b (by kernel_rfl) trivial (
   hk (fun cx => cx.v (ex_eq (x := .tmp 25) rfl (cx.rq 25 s25_48) rfl) rfl (congrArg Value.bool Ffk6.out)) <|
   hk (fun cx => cx.v (ex_as rfl (cx.u 0 rfl)) rfl rfl) <|
   hn) ?_
  intro a21 w21 f21
  refine wp_cond_false (f21.v 1 rfl rfl rfl) ?_
  refine wp_seq ?_
  cases fk7 : cc == 3
  case true =>
   have Ffk7 := Lib.hid fk7; clear fk7
   have s25_49 := f21.q 25 s25_48
   refine go_reg [] [] [some (.bool true), some (.bool true)] mo f21.d f21.z f21.b (by kernel_rfl) trivial (
    hk (fun cx => cx.v (ex_eq (x := .tmp 25) rfl (cx.rq 25 s25_49) rfl) rfl (congrArg Value.bool Ffk7.out)) <|
    hk (fun cx => cx.v (ex_as rfl (cx.u 0 rfl)) rfl rfl) <|
    hn) ?_
   intro a22 w22 f22
   refine wp_cond_true (f22.v 1 rfl rfl rfl) ?_
   have b_g4_50 := f22.k (f21.k (f18.k (f11.k (f8.k b_g4))))
   have b_g2_51 := f22.k (f21.k (f18.k (f11.k (f8.k (f7.k (f6.k b_g2))))))
   have s8_52 := f22.q 8 (f21.q 8 (f18.q 8 (f11.q 8 (f8.q 8 u_g4))))
   have s5_53 := f22.q 5 (f21.q 5 (f18.q 5 (f11.q 5 (f8.q 5 (f7.q 5 (f6.q 5 u_g2))))))
   refine go_reg [⟨g4, 89, (cU a b), some 4, (cU ((Pr.atLeast ⟨a, b⟩ ⟨p, q⟩).lo) ((Pr.atLeast ⟨a, b⟩ ⟨p, q⟩).hi))⟩, bx g2 60 (cR p q r t)] [] [some (.agg (cU a b)), some (.agg (cR p q r t)), some (.agg (cU p q)), some (.agg (cU ((Pr.atLeast ⟨a, b⟩ ⟨p, q⟩).lo) ((Pr.atLeast ⟨a, b⟩ ⟨p, q⟩).hi))), none] mo f22.d f22.z f22.b (by kernel_rfl) ⟨b_g4_50, b_g2_51, trivial⟩ (
    hk (fun cx => cx.v (ldU rfl (cx.rq 8 s8_52) (cx.rf 0 rfl (by kernel_rfl))) rfl rfl) <|
    hk (fun cx => cx.v (ldR rfl (cx.rq 5 s5_53) (cx.rn 1 rfl)) rfl rfl) <|
    hc (fun _ _ wx cx => cx.c rfl (args1 (cx.u 0 rfl)) Try.func55 (by decide +kernel) (unsigned_n p q r t wx) rfl rfl) <|
    hc (fun _ _ wx cx => cx.c rfl (args2 (cx.u 0 rfl) (cx.u 1 rfl)) Try.func62 (by decide +kernel) (atLeastU_n a b p q wx) rfl rfl) <|
    hk (fun cx => cx.stR (wn rfl) rfl rfl 0 rfl (cx.rq 8 s8_52) (cx.u 0 rfl) (by kernel_rfl) rfl (by simp [Value.oneCell']) (Nat.le_trans f6.b.size q_g4) rfl ⟨(ne_row (f6.k b_g2) q_g4), trivial⟩ trivial) <|
    hn) ?_
   intro a23 w23 f23
   have s6_54 := f23.q 6 (f22.q 6 (f21.q 6 (f18.q 6 (f11.q 6 (f8.q 6 (f7.q 6 (f6.q 6 u_g3)))))))
   have s8_55 := f23.q 8 s8_52
   have s9_56 := f23.q 9 (f22.q 9 (f21.q 9 (f18.q 9 (f11.q 9 (f8.q 9 u_g5)))))
   have b_g3_57 := f23.kp (f22.k (f21.k (f18.k (f11.k (f8.k (f7.k (f6.k b_g3))))))) ⟨.inr (ne_row (f6.k b_g3) q_g4), .inl rfl, trivial⟩
   have b_g5_58 := f23.kp (f22.k (f21.k (f18.k (f11.k (f8.k b_g5))))) ⟨.inr (ne_ptr (pairAt f7.ps 0 1 (by decide) rfl rfl) u_g4 u_g5).symm, .inl rfl, trivial⟩
   exact ⟨⟨Pr.atLeast ⟨a, b⟩ ⟨p, q⟩, ⟨c, d⟩⟩, ⟨by unfold givC; simp only [if_neg (nb Ffk3.out), if_neg (nb Ffk4.out), if_neg (nb Ffk6.out), if_pos (yb Ffk7.out)]; try rfl, by rw [yb Ffk7.out]; rfl⟩, f23.d, f23.z, f23.b, ⟨s6_54, s8_55, s9_56, trivial⟩, ⟨b_g3_57, f23.rows.1, b_g5_58, trivial⟩⟩
  have Ffk7 := Lib.hid fk7; clear fk7
  have s25_59 := f21.q 25 s25_48
  refine go_reg [] [] [some (.bool false), some (.bool false)] mo f21.d f21.z f21.b (by kernel_rfl) trivial (
   hk (fun cx => cx.v (ex_eq (x := .tmp 25) rfl (cx.rq 25 s25_59) rfl) rfl (congrArg Value.bool Ffk7.out)) <|
   hk (fun cx => cx.v (ex_as rfl (cx.u 0 rfl)) rfl rfl) <|
   hn) ?_
  intro a24 w24 f24
  refine wp_cond_false (f24.v 1 rfl rfl rfl) ?_
  refine wp_seq ?_
  cases fk8 : cc == 4
  case true =>
   have Ffk8 := Lib.hid fk8; clear fk8
   have s25_60 := f24.q 25 s25_59
   refine go_reg [] [] [some (.bool true), some (.bool true)] mo f24.d f24.z f24.b (by kernel_rfl) trivial (
    hk (fun cx => cx.v (ex_eq (x := .tmp 25) rfl (cx.rq 25 s25_60) rfl) rfl (congrArg Value.bool Ffk8.out)) <|
    hk (fun cx => cx.v (ex_as rfl (cx.u 0 rfl)) rfl rfl) <|
    hn) ?_
   intro a25 w25 f25
   refine wp_cond_true (f25.v 1 rfl rfl rfl) ?_
   have b_g4_61 := f25.k (f24.k (f21.k (f18.k (f11.k (f8.k b_g4)))))
   have b_g2_62 := f25.k (f24.k (f21.k (f18.k (f11.k (f8.k (f7.k (f6.k b_g2)))))))
   have s8_63 := f25.q 8 (f24.q 8 (f21.q 8 (f18.q 8 (f11.q 8 (f8.q 8 u_g4)))))
   have s5_64 := f25.q 5 (f24.q 5 (f21.q 5 (f18.q 5 (f11.q 5 (f8.q 5 (f7.q 5 (f6.q 5 u_g2)))))))
   refine go_reg [⟨g4, 89, (cU a b), some 4, (cU ((Pr.below ⟨a, b⟩ ⟨p, q⟩).lo) ((Pr.below ⟨a, b⟩ ⟨p, q⟩).hi))⟩, bx g2 60 (cR p q r t)] [] [some (.agg (cU a b)), some (.agg (cR p q r t)), some (.agg (cU p q)), some (.agg (cU ((Pr.below ⟨a, b⟩ ⟨p, q⟩).lo) ((Pr.below ⟨a, b⟩ ⟨p, q⟩).hi))), none] mo f25.d f25.z f25.b (by kernel_rfl) ⟨b_g4_61, b_g2_62, trivial⟩ (
    hk (fun cx => cx.v (ldU rfl (cx.rq 8 s8_63) (cx.rf 0 rfl (by kernel_rfl))) rfl rfl) <|
    hk (fun cx => cx.v (ldR rfl (cx.rq 5 s5_64) (cx.rn 1 rfl)) rfl rfl) <|
    hc (fun _ _ wx cx => cx.c rfl (args1 (cx.u 0 rfl)) Try.func55 (by decide +kernel) (unsigned_n p q r t wx) rfl rfl) <|
    hc (fun _ _ wx cx => cx.c rfl (args2 (cx.u 0 rfl) (cx.u 1 rfl)) Try.func63 (by decide +kernel) (belowU_n a b p q wx HA.out.1 HB.out.1) rfl rfl) <|
    hk (fun cx => cx.stR (wn rfl) rfl rfl 0 rfl (cx.rq 8 s8_63) (cx.u 0 rfl) (by kernel_rfl) rfl (by simp [Value.oneCell']) (Nat.le_trans f6.b.size q_g4) rfl ⟨(ne_row (f6.k b_g2) q_g4), trivial⟩ trivial) <|
    hn) ?_
   intro a26 w26 f26
   have s6_65 := f26.q 6 (f25.q 6 (f24.q 6 (f21.q 6 (f18.q 6 (f11.q 6 (f8.q 6 (f7.q 6 (f6.q 6 u_g3))))))))
   have s8_66 := f26.q 8 s8_63
   have s9_67 := f26.q 9 (f25.q 9 (f24.q 9 (f21.q 9 (f18.q 9 (f11.q 9 (f8.q 9 u_g5))))))
   have b_g3_68 := f26.kp (f25.k (f24.k (f21.k (f18.k (f11.k (f8.k (f7.k (f6.k b_g3)))))))) ⟨.inr (ne_row (f6.k b_g3) q_g4), .inl rfl, trivial⟩
   have b_g5_69 := f26.kp (f25.k (f24.k (f21.k (f18.k (f11.k (f8.k b_g5)))))) ⟨.inr (ne_ptr (pairAt f7.ps 0 1 (by decide) rfl rfl) u_g4 u_g5).symm, .inl rfl, trivial⟩
   exact ⟨⟨Pr.below ⟨a, b⟩ ⟨p, q⟩, ⟨c, d⟩⟩, ⟨by unfold givC; simp only [if_neg (nb Ffk3.out), if_neg (nb Ffk4.out), if_neg (nb Ffk6.out), if_neg (nb Ffk7.out), if_pos (yb Ffk8.out)]; try rfl, by rw [yb Ffk8.out]; rfl⟩, f26.d, f26.z, f26.b, ⟨s6_65, s8_66, s9_67, trivial⟩, ⟨b_g3_68, f26.rows.1, b_g5_69, trivial⟩⟩
  have Ffk8 := Lib.hid fk8; clear fk8
  have s25_70 := f24.q 25 s25_59
  refine go_reg [] [] [some (.bool false), some (.bool false)] mo f24.d f24.z f24.b (by kernel_rfl) trivial (
   hk (fun cx => cx.v (ex_eq (x := .tmp 25) rfl (cx.rq 25 s25_70) rfl) rfl (congrArg Value.bool Ffk8.out)) <|
   hk (fun cx => cx.v (ex_as rfl (cx.u 0 rfl)) rfl rfl) <|
   hn) ?_
  intro a27 w27 f27
  refine wp_cond_false (f27.v 1 rfl rfl rfl) ?_
  refine wp_seq ?_
  cases fk9 : cc == 5
  case true =>
   have Ffk9 := Lib.hid fk9; clear fk9
   have s25_71 := f27.q 25 s25_70
   refine go_reg [] [] [some (.bool true), some (.bool true)] mo f27.d f27.z f27.b (by kernel_rfl) trivial (
    hk (fun cx => cx.v (ex_eq (x := .tmp 25) rfl (cx.rq 25 s25_71) rfl) rfl (congrArg Value.bool Ffk9.out)) <|
    hk (fun cx => cx.v (ex_as rfl (cx.u 0 rfl)) rfl rfl) <|
    hn) ?_
   intro a28 w28 f28
   refine wp_cond_true (f28.v 1 rfl rfl rfl) ?_
   have b_g4_72 := f28.k (f27.k (f24.k (f21.k (f18.k (f11.k (f8.k b_g4))))))
   have b_g2_73 := f28.k (f27.k (f24.k (f21.k (f18.k (f11.k (f8.k (f7.k (f6.k b_g2))))))))
   have s8_74 := f28.q 8 (f27.q 8 (f24.q 8 (f21.q 8 (f18.q 8 (f11.q 8 (f8.q 8 u_g4))))))
   have s5_75 := f28.q 5 (f27.q 5 (f24.q 5 (f21.q 5 (f18.q 5 (f11.q 5 (f8.q 5 (f7.q 5 (f6.q 5 u_g2))))))))
   refine go_reg [⟨g4, 89, (cU a b), some 4, (cU ((Pr.atMost ⟨a, b⟩ ⟨p, q⟩).lo) ((Pr.atMost ⟨a, b⟩ ⟨p, q⟩).hi))⟩, bx g2 60 (cR p q r t)] [] [some (.agg (cU a b)), some (.agg (cR p q r t)), some (.agg (cU p q)), some (.agg (cU ((Pr.atMost ⟨a, b⟩ ⟨p, q⟩).lo) ((Pr.atMost ⟨a, b⟩ ⟨p, q⟩).hi))), none] mo f28.d f28.z f28.b (by kernel_rfl) ⟨b_g4_72, b_g2_73, trivial⟩ (
    hk (fun cx => cx.v (ldU rfl (cx.rq 8 s8_74) (cx.rf 0 rfl (by kernel_rfl))) rfl rfl) <|
    hk (fun cx => cx.v (ldR rfl (cx.rq 5 s5_75) (cx.rn 1 rfl)) rfl rfl) <|
    hc (fun _ _ wx cx => cx.c rfl (args1 (cx.u 0 rfl)) Try.func55 (by decide +kernel) (unsigned_n p q r t wx) rfl rfl) <|
    hc (fun _ _ wx cx => cx.c rfl (args2 (cx.u 0 rfl) (cx.u 1 rfl)) Try.func64 (by decide +kernel) (atMostU_n a b p q wx) rfl rfl) <|
    hk (fun cx => cx.stR (wn rfl) rfl rfl 0 rfl (cx.rq 8 s8_74) (cx.u 0 rfl) (by kernel_rfl) rfl (by simp [Value.oneCell']) (Nat.le_trans f6.b.size q_g4) rfl ⟨(ne_row (f6.k b_g2) q_g4), trivial⟩ trivial) <|
    hn) ?_
   intro a29 w29 f29
   have s6_76 := f29.q 6 (f28.q 6 (f27.q 6 (f24.q 6 (f21.q 6 (f18.q 6 (f11.q 6 (f8.q 6 (f7.q 6 (f6.q 6 u_g3)))))))))
   have s8_77 := f29.q 8 s8_74
   have s9_78 := f29.q 9 (f28.q 9 (f27.q 9 (f24.q 9 (f21.q 9 (f18.q 9 (f11.q 9 (f8.q 9 u_g5)))))))
   have b_g3_79 := f29.kp (f28.k (f27.k (f24.k (f21.k (f18.k (f11.k (f8.k (f7.k (f6.k b_g3))))))))) ⟨.inr (ne_row (f6.k b_g3) q_g4), .inl rfl, trivial⟩
   have b_g5_80 := f29.kp (f28.k (f27.k (f24.k (f21.k (f18.k (f11.k (f8.k b_g5))))))) ⟨.inr (ne_ptr (pairAt f7.ps 0 1 (by decide) rfl rfl) u_g4 u_g5).symm, .inl rfl, trivial⟩
   exact ⟨⟨Pr.atMost ⟨a, b⟩ ⟨p, q⟩, ⟨c, d⟩⟩, ⟨by unfold givC; simp only [if_neg (nb Ffk3.out), if_neg (nb Ffk4.out), if_neg (nb Ffk6.out), if_neg (nb Ffk7.out), if_neg (nb Ffk8.out), if_pos (yb Ffk9.out)]; try rfl, by rw [yb Ffk9.out]; rfl⟩, f29.d, f29.z, f29.b, ⟨s6_76, s8_77, s9_78, trivial⟩, ⟨b_g3_79, f29.rows.1, b_g5_80, trivial⟩⟩
  have Ffk9 := Lib.hid fk9; clear fk9
  have s25_81 := f27.q 25 s25_70
  refine go_reg [] [] [some (.bool false), some (.bool false)] mo f27.d f27.z f27.b (by kernel_rfl) trivial (
   hk (fun cx => cx.v (ex_eq (x := .tmp 25) rfl (cx.rq 25 s25_81) rfl) rfl (congrArg Value.bool Ffk9.out)) <|
   hk (fun cx => cx.v (ex_as rfl (cx.u 0 rfl)) rfl rfl) <|
   hn) ?_
  intro a30 w30 f30
  refine wp_cond_false (f30.v 1 rfl rfl rfl) ?_
  refine wp_seq ?_
  cases fk10 : cc == 6
  case true =>
   have Ffk10 := Lib.hid fk10; clear fk10
   have s25_82 := f30.q 25 s25_81
   refine go_reg [] [] [some (.bool true), some (.bool true)] mo f30.d f30.z f30.b (by kernel_rfl) trivial (
    hk (fun cx => cx.v (ex_eq (x := .tmp 25) rfl (cx.rq 25 s25_82) rfl) rfl (congrArg Value.bool Ffk10.out)) <|
    hk (fun cx => cx.v (ex_as rfl (cx.u 0 rfl)) rfl rfl) <|
    hn) ?_
   intro a31 w31 f31
   refine wp_cond_true (f31.v 1 rfl rfl rfl) ?_
   have b_g5_83 := f31.k (f30.k (f27.k (f24.k (f21.k (f18.k (f11.k (f8.k b_g5)))))))
   have b_g2_84 := f31.k (f30.k (f27.k (f24.k (f21.k (f18.k (f11.k (f8.k (f7.k (f6.k b_g2)))))))))
   have s9_85 := f31.q 9 (f30.q 9 (f27.q 9 (f24.q 9 (f21.q 9 (f18.q 9 (f11.q 9 (f8.q 9 u_g5)))))))
   have s5_86 := f31.q 5 (f30.q 5 (f27.q 5 (f24.q 5 (f21.q 5 (f18.q 5 (f11.q 5 (f8.q 5 (f7.q 5 (f6.q 5 u_g2)))))))))
   refine go_reg [⟨g5, 93, (cS c d), some 4, (cS ((Pr.above ⟨c, d⟩ ⟨r, t⟩).lo) ((Pr.above ⟨c, d⟩ ⟨r, t⟩).hi))⟩, bx g2 60 (cR p q r t)] [] [some (.agg (cS c d)), some (.agg (cR p q r t)), some (.agg (cS r t)), some (.agg (cS ((Pr.above ⟨c, d⟩ ⟨r, t⟩).lo) ((Pr.above ⟨c, d⟩ ⟨r, t⟩).hi))), none] mo f31.d f31.z f31.b (by kernel_rfl) ⟨b_g5_83, b_g2_84, trivial⟩ (
    hk (fun cx => cx.v (ldS rfl (cx.rq 9 s9_85) (cx.rf 0 rfl (by kernel_rfl))) rfl rfl) <|
    hk (fun cx => cx.v (ldR rfl (cx.rq 5 s5_86) (cx.rn 1 rfl)) rfl rfl) <|
    hc (fun _ _ wx cx => cx.c rfl (args1 (cx.u 0 rfl)) Try.func57 (by decide +kernel) (signed_n p q r t wx) rfl rfl) <|
    hc (fun _ _ wx cx => cx.c rfl (args2 (cx.u 0 rfl) (cx.u 1 rfl)) Try.func65 (by decide +kernel) (aboveS_n c d r t wx HA.out.2 HB.out.2) rfl rfl) <|
    hk (fun cx => cx.stR (wn rfl) rfl rfl 0 rfl (cx.rq 9 s9_85) (cx.u 0 rfl) (by kernel_rfl) rfl (by simp [Value.oneCell']) (Nat.le_trans f6.b.size q_g5) rfl ⟨(ne_row (f6.k b_g2) q_g5), trivial⟩ trivial) <|
    hn) ?_
   intro a32 w32 f32
   have s6_87 := f32.q 6 (f31.q 6 (f30.q 6 (f27.q 6 (f24.q 6 (f21.q 6 (f18.q 6 (f11.q 6 (f8.q 6 (f7.q 6 (f6.q 6 u_g3))))))))))
   have s8_88 := f32.q 8 (f31.q 8 (f30.q 8 (f27.q 8 (f24.q 8 (f21.q 8 (f18.q 8 (f11.q 8 (f8.q 8 u_g4))))))))
   have s9_89 := f32.q 9 s9_85
   have b_g3_90 := f32.kp (f31.k (f30.k (f27.k (f24.k (f21.k (f18.k (f11.k (f8.k (f7.k (f6.k b_g3)))))))))) ⟨.inr (ne_row (f6.k b_g3) q_g5), .inl rfl, trivial⟩
   have b_g4_91 := f32.kp (f31.k (f30.k (f27.k (f24.k (f21.k (f18.k (f11.k (f8.k b_g4)))))))) ⟨.inr (ne_ptr (pairAt f7.ps 0 1 (by decide) rfl rfl) u_g4 u_g5), .inl rfl, trivial⟩
   exact ⟨⟨⟨a, b⟩, Pr.above ⟨c, d⟩ ⟨r, t⟩⟩, ⟨by unfold givC; simp only [if_neg (nb Ffk3.out), if_neg (nb Ffk4.out), if_neg (nb Ffk6.out), if_neg (nb Ffk7.out), if_neg (nb Ffk8.out), if_neg (nb Ffk9.out), if_pos (yb Ffk10.out)]; try rfl, by rw [yb Ffk10.out]; rfl⟩, f32.d, f32.z, f32.b, ⟨s6_87, s8_88, s9_89, trivial⟩, ⟨b_g3_90, b_g4_91, f32.rows.1, trivial⟩⟩
  have Ffk10 := Lib.hid fk10; clear fk10
  have s25_92 := f30.q 25 s25_81
  refine go_reg [] [] [some (.bool false), some (.bool false)] mo f30.d f30.z f30.b (by kernel_rfl) trivial (
   hk (fun cx => cx.v (ex_eq (x := .tmp 25) rfl (cx.rq 25 s25_92) rfl) rfl (congrArg Value.bool Ffk10.out)) <|
   hk (fun cx => cx.v (ex_as rfl (cx.u 0 rfl)) rfl rfl) <|
   hn) ?_
  intro a33 w33 f33
  refine wp_cond_false (f33.v 1 rfl rfl rfl) ?_
  refine wp_seq ?_
  cases fk11 : cc == 7
  case true =>
   have Ffk11 := Lib.hid fk11; clear fk11
   have s25_93 := f33.q 25 s25_92
   refine go_reg [] [] [some (.bool true), some (.bool true)] mo f33.d f33.z f33.b (by kernel_rfl) trivial (
    hk (fun cx => cx.v (ex_eq (x := .tmp 25) rfl (cx.rq 25 s25_93) rfl) rfl (congrArg Value.bool Ffk11.out)) <|
    hk (fun cx => cx.v (ex_as rfl (cx.u 0 rfl)) rfl rfl) <|
    hn) ?_
   intro a34 w34 f34
   refine wp_cond_true (f34.v 1 rfl rfl rfl) ?_
   have b_g5_94 := f34.k (f33.k (f30.k (f27.k (f24.k (f21.k (f18.k (f11.k (f8.k b_g5))))))))
   have b_g2_95 := f34.k (f33.k (f30.k (f27.k (f24.k (f21.k (f18.k (f11.k (f8.k (f7.k (f6.k b_g2))))))))))
   have s9_96 := f34.q 9 (f33.q 9 (f30.q 9 (f27.q 9 (f24.q 9 (f21.q 9 (f18.q 9 (f11.q 9 (f8.q 9 u_g5))))))))
   have s5_97 := f34.q 5 (f33.q 5 (f30.q 5 (f27.q 5 (f24.q 5 (f21.q 5 (f18.q 5 (f11.q 5 (f8.q 5 (f7.q 5 (f6.q 5 u_g2))))))))))
   refine go_reg [⟨g5, 93, (cS c d), some 4, (cS ((Pr.atLeast ⟨c, d⟩ ⟨r, t⟩).lo) ((Pr.atLeast ⟨c, d⟩ ⟨r, t⟩).hi))⟩, bx g2 60 (cR p q r t)] [] [some (.agg (cS c d)), some (.agg (cR p q r t)), some (.agg (cS r t)), some (.agg (cS ((Pr.atLeast ⟨c, d⟩ ⟨r, t⟩).lo) ((Pr.atLeast ⟨c, d⟩ ⟨r, t⟩).hi))), none] mo f34.d f34.z f34.b (by kernel_rfl) ⟨b_g5_94, b_g2_95, trivial⟩ (
    hk (fun cx => cx.v (ldS rfl (cx.rq 9 s9_96) (cx.rf 0 rfl (by kernel_rfl))) rfl rfl) <|
    hk (fun cx => cx.v (ldR rfl (cx.rq 5 s5_97) (cx.rn 1 rfl)) rfl rfl) <|
    hc (fun _ _ wx cx => cx.c rfl (args1 (cx.u 0 rfl)) Try.func57 (by decide +kernel) (signed_n p q r t wx) rfl rfl) <|
    hc (fun _ _ wx cx => cx.c rfl (args2 (cx.u 0 rfl) (cx.u 1 rfl)) Try.func66 (by decide +kernel) (atLeastS_n c d r t wx) rfl rfl) <|
    hk (fun cx => cx.stR (wn rfl) rfl rfl 0 rfl (cx.rq 9 s9_96) (cx.u 0 rfl) (by kernel_rfl) rfl (by simp [Value.oneCell']) (Nat.le_trans f6.b.size q_g5) rfl ⟨(ne_row (f6.k b_g2) q_g5), trivial⟩ trivial) <|
    hn) ?_
   intro a35 w35 f35
   have s6_98 := f35.q 6 (f34.q 6 (f33.q 6 (f30.q 6 (f27.q 6 (f24.q 6 (f21.q 6 (f18.q 6 (f11.q 6 (f8.q 6 (f7.q 6 (f6.q 6 u_g3)))))))))))
   have s8_99 := f35.q 8 (f34.q 8 (f33.q 8 (f30.q 8 (f27.q 8 (f24.q 8 (f21.q 8 (f18.q 8 (f11.q 8 (f8.q 8 u_g4)))))))))
   have s9_100 := f35.q 9 s9_96
   have b_g3_101 := f35.kp (f34.k (f33.k (f30.k (f27.k (f24.k (f21.k (f18.k (f11.k (f8.k (f7.k (f6.k b_g3))))))))))) ⟨.inr (ne_row (f6.k b_g3) q_g5), .inl rfl, trivial⟩
   have b_g4_102 := f35.kp (f34.k (f33.k (f30.k (f27.k (f24.k (f21.k (f18.k (f11.k (f8.k b_g4))))))))) ⟨.inr (ne_ptr (pairAt f7.ps 0 1 (by decide) rfl rfl) u_g4 u_g5), .inl rfl, trivial⟩
   exact ⟨⟨⟨a, b⟩, Pr.atLeast ⟨c, d⟩ ⟨r, t⟩⟩, ⟨by unfold givC; simp only [if_neg (nb Ffk3.out), if_neg (nb Ffk4.out), if_neg (nb Ffk6.out), if_neg (nb Ffk7.out), if_neg (nb Ffk8.out), if_neg (nb Ffk9.out), if_neg (nb Ffk10.out), if_pos (yb Ffk11.out)]; try rfl, by rw [yb Ffk11.out]; rfl⟩, f35.d, f35.z, f35.b, ⟨s6_98, s8_99, s9_100, trivial⟩, ⟨b_g3_101, b_g4_102, f35.rows.1, trivial⟩⟩
  have Ffk11 := Lib.hid fk11; clear fk11
  have s25_103 := f33.q 25 s25_92
  refine go_reg [] [] [some (.bool false), some (.bool false)] mo f33.d f33.z f33.b (by kernel_rfl) trivial (
   hk (fun cx => cx.v (ex_eq (x := .tmp 25) rfl (cx.rq 25 s25_103) rfl) rfl (congrArg Value.bool Ffk11.out)) <|
   hk (fun cx => cx.v (ex_as rfl (cx.u 0 rfl)) rfl rfl) <|
   hn) ?_
  intro a36 w36 f36
  refine wp_cond_false (f36.v 1 rfl rfl rfl) ?_
  refine wp_seq ?_
  cases fk12 : cc == 8
  case true =>
   have Ffk12 := Lib.hid fk12; clear fk12
   have s25_104 := f36.q 25 s25_103
   refine go_reg [] [] [some (.bool true), some (.bool true)] mo f36.d f36.z f36.b (by kernel_rfl) trivial (
    hk (fun cx => cx.v (ex_eq (x := .tmp 25) rfl (cx.rq 25 s25_104) rfl) rfl (congrArg Value.bool Ffk12.out)) <|
    hk (fun cx => cx.v (ex_as rfl (cx.u 0 rfl)) rfl rfl) <|
    hn) ?_
   intro a37 w37 f37
   refine wp_cond_true (f37.v 1 rfl rfl rfl) ?_
   have b_g5_105 := f37.k (f36.k (f33.k (f30.k (f27.k (f24.k (f21.k (f18.k (f11.k (f8.k b_g5)))))))))
   have b_g2_106 := f37.k (f36.k (f33.k (f30.k (f27.k (f24.k (f21.k (f18.k (f11.k (f8.k (f7.k (f6.k b_g2)))))))))))
   have s9_107 := f37.q 9 (f36.q 9 (f33.q 9 (f30.q 9 (f27.q 9 (f24.q 9 (f21.q 9 (f18.q 9 (f11.q 9 (f8.q 9 u_g5)))))))))
   have s5_108 := f37.q 5 (f36.q 5 (f33.q 5 (f30.q 5 (f27.q 5 (f24.q 5 (f21.q 5 (f18.q 5 (f11.q 5 (f8.q 5 (f7.q 5 (f6.q 5 u_g2)))))))))))
   refine go_reg [⟨g5, 93, (cS c d), some 4, (cS ((Pr.below ⟨c, d⟩ ⟨r, t⟩).lo) ((Pr.below ⟨c, d⟩ ⟨r, t⟩).hi))⟩, bx g2 60 (cR p q r t)] [] [some (.agg (cS c d)), some (.agg (cR p q r t)), some (.agg (cS r t)), some (.agg (cS ((Pr.below ⟨c, d⟩ ⟨r, t⟩).lo) ((Pr.below ⟨c, d⟩ ⟨r, t⟩).hi))), none] mo f37.d f37.z f37.b (by kernel_rfl) ⟨b_g5_105, b_g2_106, trivial⟩ (
    hk (fun cx => cx.v (ldS rfl (cx.rq 9 s9_107) (cx.rf 0 rfl (by kernel_rfl))) rfl rfl) <|
    hk (fun cx => cx.v (ldR rfl (cx.rq 5 s5_108) (cx.rn 1 rfl)) rfl rfl) <|
    hc (fun _ _ wx cx => cx.c rfl (args1 (cx.u 0 rfl)) Try.func57 (by decide +kernel) (signed_n p q r t wx) rfl rfl) <|
    hc (fun _ _ wx cx => cx.c rfl (args2 (cx.u 0 rfl) (cx.u 1 rfl)) Try.func67 (by decide +kernel) (belowS_n c d r t wx HA.out.2 HB.out.2) rfl rfl) <|
    hk (fun cx => cx.stR (wn rfl) rfl rfl 0 rfl (cx.rq 9 s9_107) (cx.u 0 rfl) (by kernel_rfl) rfl (by simp [Value.oneCell']) (Nat.le_trans f6.b.size q_g5) rfl ⟨(ne_row (f6.k b_g2) q_g5), trivial⟩ trivial) <|
    hn) ?_
   intro a38 w38 f38
   have s6_109 := f38.q 6 (f37.q 6 (f36.q 6 (f33.q 6 (f30.q 6 (f27.q 6 (f24.q 6 (f21.q 6 (f18.q 6 (f11.q 6 (f8.q 6 (f7.q 6 (f6.q 6 u_g3))))))))))))
   have s8_110 := f38.q 8 (f37.q 8 (f36.q 8 (f33.q 8 (f30.q 8 (f27.q 8 (f24.q 8 (f21.q 8 (f18.q 8 (f11.q 8 (f8.q 8 u_g4))))))))))
   have s9_111 := f38.q 9 s9_107
   have b_g3_112 := f38.kp (f37.k (f36.k (f33.k (f30.k (f27.k (f24.k (f21.k (f18.k (f11.k (f8.k (f7.k (f6.k b_g3)))))))))))) ⟨.inr (ne_row (f6.k b_g3) q_g5), .inl rfl, trivial⟩
   have b_g4_113 := f38.kp (f37.k (f36.k (f33.k (f30.k (f27.k (f24.k (f21.k (f18.k (f11.k (f8.k b_g4)))))))))) ⟨.inr (ne_ptr (pairAt f7.ps 0 1 (by decide) rfl rfl) u_g4 u_g5), .inl rfl, trivial⟩
   exact ⟨⟨⟨a, b⟩, Pr.below ⟨c, d⟩ ⟨r, t⟩⟩, ⟨by unfold givC; simp only [if_neg (nb Ffk3.out), if_neg (nb Ffk4.out), if_neg (nb Ffk6.out), if_neg (nb Ffk7.out), if_neg (nb Ffk8.out), if_neg (nb Ffk9.out), if_neg (nb Ffk10.out), if_neg (nb Ffk11.out), if_pos (yb Ffk12.out)]; try rfl, by rw [yb Ffk12.out]; rfl⟩, f38.d, f38.z, f38.b, ⟨s6_109, s8_110, s9_111, trivial⟩, ⟨b_g3_112, b_g4_113, f38.rows.1, trivial⟩⟩
  have Ffk12 := Lib.hid fk12; clear fk12
  have s25_114 := f36.q 25 s25_103
  refine go_reg [] [] [some (.bool false), some (.bool false)] mo f36.d f36.z f36.b (by kernel_rfl) trivial (
   hk (fun cx => cx.v (ex_eq (x := .tmp 25) rfl (cx.rq 25 s25_114) rfl) rfl (congrArg Value.bool Ffk12.out)) <|
   hk (fun cx => cx.v (ex_as rfl (cx.u 0 rfl)) rfl rfl) <|
   hn) ?_
  intro a39 w39 f39
  refine wp_cond_false (f39.v 1 rfl rfl rfl) ?_
  refine wp_seq ?_
  cases fk13 : cc == 9
  case true =>
   have Ffk13 := Lib.hid fk13; clear fk13
   have s25_115 := f39.q 25 s25_114
   refine go_reg [] [] [some (.bool true), some (.bool true)] mo f39.d f39.z f39.b (by kernel_rfl) trivial (
    hk (fun cx => cx.v (ex_eq (x := .tmp 25) rfl (cx.rq 25 s25_115) rfl) rfl (congrArg Value.bool Ffk13.out)) <|
    hk (fun cx => cx.v (ex_as rfl (cx.u 0 rfl)) rfl rfl) <|
    hn) ?_
   intro a40 w40 f40
   refine wp_cond_true (f40.v 1 rfl rfl rfl) ?_
   have b_g5_116 := f40.k (f39.k (f36.k (f33.k (f30.k (f27.k (f24.k (f21.k (f18.k (f11.k (f8.k b_g5))))))))))
   have b_g2_117 := f40.k (f39.k (f36.k (f33.k (f30.k (f27.k (f24.k (f21.k (f18.k (f11.k (f8.k (f7.k (f6.k b_g2))))))))))))
   have s9_118 := f40.q 9 (f39.q 9 (f36.q 9 (f33.q 9 (f30.q 9 (f27.q 9 (f24.q 9 (f21.q 9 (f18.q 9 (f11.q 9 (f8.q 9 u_g5))))))))))
   have s5_119 := f40.q 5 (f39.q 5 (f36.q 5 (f33.q 5 (f30.q 5 (f27.q 5 (f24.q 5 (f21.q 5 (f18.q 5 (f11.q 5 (f8.q 5 (f7.q 5 (f6.q 5 u_g2))))))))))))
   refine go_reg [⟨g5, 93, (cS c d), some 4, (cS ((Pr.atMost ⟨c, d⟩ ⟨r, t⟩).lo) ((Pr.atMost ⟨c, d⟩ ⟨r, t⟩).hi))⟩, bx g2 60 (cR p q r t)] [] [some (.agg (cS c d)), some (.agg (cR p q r t)), some (.agg (cS r t)), some (.agg (cS ((Pr.atMost ⟨c, d⟩ ⟨r, t⟩).lo) ((Pr.atMost ⟨c, d⟩ ⟨r, t⟩).hi))), none] mo f40.d f40.z f40.b (by kernel_rfl) ⟨b_g5_116, b_g2_117, trivial⟩ (
    hk (fun cx => cx.v (ldS rfl (cx.rq 9 s9_118) (cx.rf 0 rfl (by kernel_rfl))) rfl rfl) <|
    hk (fun cx => cx.v (ldR rfl (cx.rq 5 s5_119) (cx.rn 1 rfl)) rfl rfl) <|
    hc (fun _ _ wx cx => cx.c rfl (args1 (cx.u 0 rfl)) Try.func57 (by decide +kernel) (signed_n p q r t wx) rfl rfl) <|
    hc (fun _ _ wx cx => cx.c rfl (args2 (cx.u 0 rfl) (cx.u 1 rfl)) Try.func68 (by decide +kernel) (atMostS_n c d r t wx) rfl rfl) <|
    hk (fun cx => cx.stR (wn rfl) rfl rfl 0 rfl (cx.rq 9 s9_118) (cx.u 0 rfl) (by kernel_rfl) rfl (by simp [Value.oneCell']) (Nat.le_trans f6.b.size q_g5) rfl ⟨(ne_row (f6.k b_g2) q_g5), trivial⟩ trivial) <|
    hn) ?_
   intro a41 w41 f41
   have s6_120 := f41.q 6 (f40.q 6 (f39.q 6 (f36.q 6 (f33.q 6 (f30.q 6 (f27.q 6 (f24.q 6 (f21.q 6 (f18.q 6 (f11.q 6 (f8.q 6 (f7.q 6 (f6.q 6 u_g3)))))))))))))
   have s8_121 := f41.q 8 (f40.q 8 (f39.q 8 (f36.q 8 (f33.q 8 (f30.q 8 (f27.q 8 (f24.q 8 (f21.q 8 (f18.q 8 (f11.q 8 (f8.q 8 u_g4)))))))))))
   have s9_122 := f41.q 9 s9_118
   have b_g3_123 := f41.kp (f40.k (f39.k (f36.k (f33.k (f30.k (f27.k (f24.k (f21.k (f18.k (f11.k (f8.k (f7.k (f6.k b_g3))))))))))))) ⟨.inr (ne_row (f6.k b_g3) q_g5), .inl rfl, trivial⟩
   have b_g4_124 := f41.kp (f40.k (f39.k (f36.k (f33.k (f30.k (f27.k (f24.k (f21.k (f18.k (f11.k (f8.k b_g4))))))))))) ⟨.inr (ne_ptr (pairAt f7.ps 0 1 (by decide) rfl rfl) u_g4 u_g5), .inl rfl, trivial⟩
   exact ⟨⟨⟨a, b⟩, Pr.atMost ⟨c, d⟩ ⟨r, t⟩⟩, ⟨by unfold givC; simp only [if_neg (nb Ffk3.out), if_neg (nb Ffk4.out), if_neg (nb Ffk6.out), if_neg (nb Ffk7.out), if_neg (nb Ffk8.out), if_neg (nb Ffk9.out), if_neg (nb Ffk10.out), if_neg (nb Ffk11.out), if_neg (nb Ffk12.out), if_pos (yb Ffk13.out)]; try rfl, by rw [yb Ffk13.out]; rfl⟩, f41.d, f41.z, f41.b, ⟨s6_120, s8_121, s9_122, trivial⟩, ⟨b_g3_123, b_g4_124, f41.rows.1, trivial⟩⟩
  have Ffk13 := Lib.hid fk13; clear fk13
  have s25_125 := f39.q 25 s25_114
  refine go_reg [] [] [some (.bool false), some (.bool false)] mo f39.d f39.z f39.b (by kernel_rfl) trivial (
   hk (fun cx => cx.v (ex_eq (x := .tmp 25) rfl (cx.rq 25 s25_125) rfl) rfl (congrArg Value.bool Ffk13.out)) <|
   hk (fun cx => cx.v (ex_as rfl (cx.u 0 rfl)) rfl rfl) <|
   hn) ?_
  intro a42 w42 f42
  refine wp_cond_false (f42.v 1 rfl rfl rfl) ?_
  refine wp_seq ?_
  cases fk14 : cc == 10
  case true =>
   have Ffk14 := Lib.hid fk14; clear fk14
   have s25_126 := f42.q 25 s25_125
   refine go_reg [] [] [some (.bool true), some (.bool true)] mo f42.d f42.z f42.b (by kernel_rfl) trivial (
    hk (fun cx => cx.v (ex_eq (x := .tmp 25) rfl (cx.rq 25 s25_126) rfl) rfl (congrArg Value.bool Ffk14.out)) <|
    hk (fun cx => cx.v (ex_as rfl (cx.u 0 rfl)) rfl rfl) <|
    hn) ?_
   intro a43 w43 f43
   refine wp_cond_true (f43.v 1 rfl rfl rfl) ?_
   refine wp_skip ?_
   have s6_127 := f43.q 6 (f42.q 6 (f39.q 6 (f36.q 6 (f33.q 6 (f30.q 6 (f27.q 6 (f24.q 6 (f21.q 6 (f18.q 6 (f11.q 6 (f8.q 6 (f7.q 6 (f6.q 6 u_g3)))))))))))))
   have s8_128 := f43.q 8 (f42.q 8 (f39.q 8 (f36.q 8 (f33.q 8 (f30.q 8 (f27.q 8 (f24.q 8 (f21.q 8 (f18.q 8 (f11.q 8 (f8.q 8 u_g4)))))))))))
   have s9_129 := f43.q 9 (f42.q 9 (f39.q 9 (f36.q 9 (f33.q 9 (f30.q 9 (f27.q 9 (f24.q 9 (f21.q 9 (f18.q 9 (f11.q 9 (f8.q 9 u_g5)))))))))))
   have b_g3_130 := f43.k (f42.k (f39.k (f36.k (f33.k (f30.k (f27.k (f24.k (f21.k (f18.k (f11.k (f8.k (f7.k (f6.k b_g3)))))))))))))
   have b_g4_131 := f43.k (f42.k (f39.k (f36.k (f33.k (f30.k (f27.k (f24.k (f21.k (f18.k (f11.k (f8.k b_g4)))))))))))
   have b_g5_132 := f43.k (f42.k (f39.k (f36.k (f33.k (f30.k (f27.k (f24.k (f21.k (f18.k (f11.k (f8.k b_g5)))))))))))
   exact ⟨⟨⟨a, b⟩, ⟨c, d⟩⟩, ⟨by unfold givC; simp only [if_neg (nb Ffk3.out), if_neg (nb Ffk4.out), if_neg (nb Ffk6.out), if_neg (nb Ffk7.out), if_neg (nb Ffk8.out), if_neg (nb Ffk9.out), if_neg (nb Ffk10.out), if_neg (nb Ffk11.out), if_neg (nb Ffk12.out), if_neg (nb Ffk13.out), if_pos (yb Ffk14.out)]; try rfl, by rw [yb Ffk14.out]; rfl⟩, f43.d, f43.z, f43.b, ⟨s6_127, s8_128, s9_129, trivial⟩, ⟨b_g3_130, b_g4_131, b_g5_132, trivial⟩⟩
  have Ffk14 := Lib.hid fk14; clear fk14
  have s25_133 := f42.q 25 s25_125
  refine go_reg [] [] [some (.bool false), some (.bool false)] mo f42.d f42.z f42.b (by kernel_rfl) trivial (
   hk (fun cx => cx.v (ex_eq (x := .tmp 25) rfl (cx.rq 25 s25_133) rfl) rfl (congrArg Value.bool Ffk14.out)) <|
   hk (fun cx => cx.v (ex_as rfl (cx.u 0 rfl)) rfl rfl) <|
   hn) ?_
  intro a44 w44 f44
  refine wp_cond_false (f44.v 1 rfl rfl rfl) ?_
  refine wp_seq ?_
  have b_g3_134 := f44.k (f42.k (f39.k (f36.k (f33.k (f30.k (f27.k (f24.k (f21.k (f18.k (f11.k (f8.k (f7.k (f6.k b_g3)))))))))))))
  have s6_135 := f44.q 6 (f42.q 6 (f39.q 6 (f36.q 6 (f33.q 6 (f30.q 6 (f27.q 6 (f24.q 6 (f21.q 6 (f18.q 6 (f11.q 6 (f8.q 6 (f7.q 6 (f6.q 6 u_g3)))))))))))))
  refine go_reg [⟨g3, 60, (cR 0 0 0 0), some 1, (cR allR.u.lo allR.u.hi allR.s.lo allR.s.hi)⟩] [] [some (.agg (cR allR.u.lo allR.u.hi allR.s.lo allR.s.hi)), none, some (.bool false)] mo f44.d f44.z f44.b (by kernel_rfl) ⟨b_g3_134, trivial⟩ (
   hc (fun _ _ wx cx => cx.c rfl (args0 ) Try.func29 (by decide +kernel) (all_n wx) rfl rfl) <|
   hk (fun cx => cx.stR (wn rfl) rfl rfl 0 rfl (cx.rq 6 s6_135) (cx.u 0 rfl) (by kernel_rfl) rfl (by simp [Value.oneCell']) q_g3 rfl trivial trivial) <|
   hk (fun cx => cx.v (ex_as rfl rfl) rfl rfl) <|
   hn) ?_
  intro a45 w45 f45
  refine wp_ret ?_
  have s6_136 := f45.q 6 s6_135
  try simp only [Exit.inBlock, Exit.then]
  refine bodyPost_ret (res_ct (fn := Try.f21) rfl s6_136 (load_row 60 f45.rows.1 Try.underlying60 rfl (by kernel_rfl)) (f45.v 2 rfl rfl rfl)) f45.d ?_
  have no0 := nb Ffk3.out
  have no1 := nb Ffk4.out
  have no2 := nb Ffk6.out
  have no3 := nb Ffk7.out
  have no4 := nb Ffk8.out
  have no5 := nb Ffk9.out
  have no6 := nb Ffk10.out
  have no7 := nb Ffk11.out
  have no8 := nb Ffk12.out
  have no9 := nb Ffk13.out
  have no10 := nb Ffk14.out
  have hk : ccOk cc = false := by unfold ccOk; rw [Bool.and_eq_false_iff, decide_eq_false_iff_not, decide_eq_false_iff_not]; omega
  have HE : Value.tuple #[.agg (cR allR.u.lo allR.u.hi allR.s.lo allR.s.hi), .bool false] = .tuple #[Rg.val (Rg.giv cc ⟨⟨a, b⟩, ⟨c, d⟩⟩ ⟨⟨p, q⟩, ⟨r, t⟩⟩), .bool (Rg.givB cc ⟨⟨a, b⟩, ⟨c, d⟩⟩ ⟨⟨p, q⟩, ⟨r, t⟩⟩)] := by unfold Rg.giv Rg.givB; rw [Ffk1.out, Ffk2.out, hk]; rfl
  exact ⟨retV HE, f45.b⟩
  rintro aM wM ⟨z, hM, dM, zM, BM, ⟨sM6, sM8, sM9, -⟩, ⟨bM_g3, bM_g4, bM_g5, -⟩⟩
  replace sM6 : aM.tmps.getD 6 undef = .pointer (some ⟨g3, 0, none⟩) := sM6
  replace sM8 : aM.tmps.getD 8 undef = .pointer (some ⟨g4, 0, none⟩) := sM8
  replace sM9 : aM.tmps.getD 9 undef = .pointer (some ⟨g5, 0, none⟩) := sM9
  refine wp_seq ?_
  refine go_reg [bx g4 89 (cU z.u.lo z.u.hi), bx g5 93 (cS z.s.lo z.s.hi), ⟨g3, 60, (cR 0 0 0 0), some 6, (cR ((Rg.nar z).u.lo) ((Rg.nar z).u.hi) ((Rg.nar z).s.lo) ((Rg.nar z).s.hi))⟩] [] [some (.agg (cU z.u.lo z.u.hi)), some (.agg (cS z.s.lo z.s.hi)), some (.agg (cR z.u.lo z.u.hi z.s.lo z.s.hi)), some (.tuple #[.agg (cR ((Rg.nar z).u.lo) ((Rg.nar z).u.hi) ((Rg.nar z).s.lo) ((Rg.nar z).s.hi)), .bool (Rg.narB z)]), some (.agg (cR ((Rg.nar z).u.lo) ((Rg.nar z).u.hi) ((Rg.nar z).s.lo) ((Rg.nar z).s.hi))), some (.bool (Rg.narB z)), none, some (.bool (Rg.narB z))] mo dM zM BM (by kernel_rfl) ⟨bM_g4, bM_g5, bM_g3, trivial⟩ (
   hk (fun cx => cx.v (ldU rfl (cx.rq 8 sM8) (cx.rn 0 rfl)) rfl rfl) <|
   hk (fun cx => cx.v (ldS rfl (cx.rq 9 sM9) (cx.rn 1 rfl)) rfl rfl) <|
   hc (fun _ _ wx cx => cx.c rfl (args2 (cx.u 0 rfl) (cx.u 1 rfl)) Try.func54 (by decide +kernel) (both_n z.u.lo z.u.hi z.s.lo z.s.hi wx) rfl rfl) <|
   hc (fun _ _ wx cx => cx.c rfl (args1 (cx.u 0 rfl)) Try.func25 (by decide +kernel) (narrow_n z.u.lo z.u.hi z.s.lo z.s.hi wx (by rw [← hM.1]; exact giv_ok cc HA.out HB.out Ffk1.out)) rfl rfl) <|
   hk (fun cx => cx.v (ex_ext (x := .tmp 102) rfl (cx.u 0 rfl) rfl) rfl rfl) <|
   hk (fun cx => cx.v (ex_ext (x := .tmp 102) rfl (cx.u 0 rfl) rfl) rfl rfl) <|
   hk (fun cx => cx.stR (wn rfl) rfl rfl 2 rfl (cx.rq 6 sM6) (cx.u 0 rfl) (by kernel_rfl) rfl (by simp [Value.oneCell']) q_g3 rfl ⟨neM0_1.symm, neM0_2.symm, trivial⟩ trivial) <|
   hk (fun cx => cx.v (ex_as rfl (cx.u 0 rfl)) rfl rfl) <|
   hn) ?_
  intro a46 w46 f46
  refine wp_ret ?_
  have s6_137 := f46.q 6 sM6
  try simp only [Exit.inBlock, Exit.then]
  refine bodyPost_ret (res_ct (fn := Try.f21) rfl s6_137 (load_row 60 f46.rows.2.2.1 Try.underlying60 rfl (by kernel_rfl)) (f46.v 7 rfl rfl rfl)) f46.d ?_
  have HE : Value.tuple #[.agg (cR ((Rg.nar z).u.lo) ((Rg.nar z).u.hi) ((Rg.nar z).s.lo) ((Rg.nar z).s.hi)), .bool (Rg.narB z)] = .tuple #[Rg.val (Rg.giv cc ⟨⟨a, b⟩, ⟨c, d⟩⟩ ⟨⟨p, q⟩, ⟨r, t⟩⟩), .bool (Rg.givB cc ⟨⟨a, b⟩, ⟨c, d⟩⟩ ⟨⟨p, q⟩, ⟨r, t⟩⟩)] := by unfold Rg.giv Rg.givB; rw [Ffk1.out, Ffk2.out, hM.2, if_pos (by rfl), hM.1]; rfl
  exact ⟨retV HE, f46.b⟩
end Go.Proofs.Ytnmgehjccafegaa.Bnd
