/-
  The document's own answer for layer 7: Given. (Written by gen_bndd.py.)
-/
import Derived.Test.YtnmgehjccafegaaBndS
import Derived.Test.YtnmgehjccafegaaBndP
namespace Go.Proofs.Ytnmgehjccafegaa.Bnd
open Go.RowKit
set_option linter.unusedVariables false
set_option linter.unusedSimpArgs false
set_option linter.unnecessarySimpa false
set_option maxRecDepth 100000

theorem faRV60_0_0 (g : Nat) (w : World) : (Instr.fieldAt 60 (.pointer (some ⟨g, 0, none⟩)) 0).run Try.prog w = .ok (.pointer (some ⟨g, 0, none⟩)) w := by simp [go_sem]
theorem faRV60_1_0 (g : Nat) (w : World) : (Instr.fieldAt 60 (.pointer (some ⟨g, 0, none⟩)) 1).run Try.prog w = .ok (.pointer (some ⟨g, 1, none⟩)) w := by simp [go_sem]
theorem faRV60_2_0 (g : Nat) (w : World) : (Instr.fieldAt 60 (.pointer (some ⟨g, 0, none⟩)) 2).run Try.prog w = .ok (.pointer (some ⟨g, 2, none⟩)) w := by simp [go_sem]
theorem faRV60_3_0 (g : Nat) (w : World) : (Instr.fieldAt 60 (.pointer (some ⟨g, 0, none⟩)) 3).run Try.prog w = .ok (.pointer (some ⟨g, 3, none⟩)) w := by simp [go_sem]

set_option maxHeartbeats 40000000 in
theorem rgiven_n (cc a b c d p q r t : Int) (W : World) (ha : Rg.Ok ⟨⟨a, b⟩, ⟨c, d⟩⟩) (hb : Rg.Ok ⟨⟨p, q⟩, ⟨r, t⟩⟩) : Calls Try.prog 22 #[.int .i8 cc, .agg #[.int .u64 a, .int .u64 b, .int .i64 c, .int .i64 d], .agg #[.int .u64 p, .int .u64 q, .int .i64 r, .int .i64 t]] W fun e w' => e = .returned (.tuple #[.agg #[.int .u64 (Rg.giv cc ⟨⟨a, b⟩, ⟨c, d⟩⟩ ⟨⟨p, q⟩, ⟨r, t⟩⟩).u.lo, .int .u64 (Rg.giv cc ⟨⟨a, b⟩, ⟨c, d⟩⟩ ⟨⟨p, q⟩, ⟨r, t⟩⟩).u.hi, .int .i64 (Rg.giv cc ⟨⟨a, b⟩, ⟨c, d⟩⟩ ⟨⟨p, q⟩, ⟨r, t⟩⟩).s.lo, .int .i64 (Rg.giv cc ⟨⟨a, b⟩, ⟨c, d⟩⟩ ⟨⟨p, q⟩, ⟨r, t⟩⟩).s.hi], .bool (Rg.givB cc ⟨⟨a, b⟩, ⟨c, d⟩⟩ ⟨⟨p, q⟩, ⟨r, t⟩⟩)]) ∧ Below W.heap.size W w' := by
  have HA := Lib.hid ha
  have HB := Lib.hid hb
  have HCC : Hid (decide (cc < 0) = false → decide (10 < cc) = false → ccOk cc = true) := Lib.hid (fun h1 h2 => by
    have := of_decide_eq_false h1
    have := of_decide_eq_false h2
    unfold ccOk; rw [decide_eq_true (by omega), decide_eq_true (by omega)]; rfl)
  have HC0 : Hid (decide (cc < 0) = true → ccOk cc = false) := Lib.hid (fun h1 => by
    have := of_decide_eq_true h1
    unfold ccOk; rw [decide_eq_false (by omega)]; rfl)
  have HC1 : Hid (decide (10 < cc) = true → ccOk cc = false) := Lib.hid (fun h1 => by
    have := of_decide_eq_true h1
    unfold ccOk; rw [decide_eq_false (show ¬ cc ≤ 10 by omega), Bool.and_false])
  obtain ⟨D, eD⟩ : ∃ D, D = Rg.giv cc ⟨⟨a, b⟩, ⟨c, d⟩⟩ ⟨⟨p, q⟩, ⟨r, t⟩⟩ := ⟨_, rfl⟩
  obtain ⟨DB, eB⟩ : ∃ D, D = Rg.givB cc ⟨⟨a, b⟩, ⟨c, d⟩⟩ ⟨⟨p, q⟩, ⟨r, t⟩⟩ := ⟨_, rfl⟩
  have ED := Lib.hid (And.intro eD eB)
  rw [← eD, ← eB]
  clear ha hb eD eB
  refine calls_abs Try.func22 rfl (Nat.le_of_ble_eq_true rfl) ?_
  intro a0 d0 z0 h0
  replace z0 : a0.tmps.size = 191 := z0
  have s0_0 : a0.tmps.getD 0 undef = .int .i8 cc := h0 0 (Nat.le_of_ble_eq_true rfl)
  have s1_0 : a0.tmps.getD 1 undef = .agg (cR a b c d) := h0 1 (Nat.le_of_ble_eq_true rfl)
  have s2_0 : a0.tmps.getD 2 undef = .agg (cR p q r t) := h0 2 (Nat.le_of_ble_eq_true rfl)
  refine wp_seq ?_
  refine go_reg [] [⟨0, 4, 60, (cR a b c d), none, #[]⟩, ⟨1, 5, 60, (cR p q r t), none, #[]⟩, ⟨2, 6, 60, (cR 0 0 0 0), none, #[]⟩] [none, none, none, some (.bool false)] mo d0 z0 (Below.refl _ _) (by kernel_rfl) trivial (
   hc (fun _ ax _ cx => cx.al (wn rfl) 0 rfl (by simp [execOp, Act.eval, (show ax.tmps.getD 1 undef = .agg (cR a b c d) from (cx.rq 1 s1_0)), go_sem]) rfl rfl rfl rfl rfl trivial) <|
   hc (fun _ ax _ cx => cx.al (wn rfl) 1 rfl (by simp [execOp, Act.eval, (show ax.tmps.getD 2 undef = .agg (cR p q r t) from (cx.rq 2 s2_0)), go_sem]) rfl rfl rfl rfl rfl trivial) <|
   hk (fun cx => cx.al (wn rfl) 2 rfl (by simp [execOp, Act.eval, go_sem]) rfl rfl rfl rfl rfl trivial) <|
   hk (fun cx => cx.v (ex_as rfl rfl) rfl rfl) <|
   hn) ?_
  intro a1 w1 f1
  obtain ⟨g1, u_g1, q_g1, b_g1⟩ := f1.al.1
  obtain ⟨g2, u_g2, q_g2, b_g2⟩ := f1.al.2.1
  obtain ⟨g3, u_g3, q_g3, b_g3⟩ := f1.al.2.2.1
  refine wp_seq ?_
  refine wp_seq ?_
  cases fk1 : Rg.mayB ⟨⟨a, b⟩, ⟨c, d⟩⟩
  case false =>
   have Ffk1 := Lib.hid fk1; clear fk1
   refine go_reg [bx g1 60 (cR a b c d)] [] [some (.agg (cR a b c d)), some (.bool false), some (.bool true), some (.bool true), some (undef), some (undef), some (undef), some (.bool true), some (.bool true), some (undef), some (undef), some (.bool true), some (.bool true), some (undef), some (undef), some (.bool true)] mo f1.d f1.z f1.b (by kernel_rfl) ⟨b_g1, trivial⟩ (
    hk (fun cx => cx.v (ldR rfl (cx.rq 4 u_g1) (cx.rn 0 rfl)) rfl rfl) <|
    hc (fun _ _ wx cx => cx.c rfl (args1 (cx.u 0 rfl)) Try.func28 (by decide +kernel) (rmay_n a b c d wx) rfl (congrArg Value.bool Ffk1.out)) <|
    hk (fun cx => cx.v (ex_not (x := .tmp 11) rfl (cx.u 0 rfl)) rfl rfl) <|
    hk (fun cx => cx.v (ex_mv rfl (cx.u 0 rfl)) rfl rfl) <|
    hk (fun cx => cx.no (cx.wo rfl rfl rfl rfl (cx.u 0 rfl) rfl) rfl rfl rfl rfl) <|
    hk (fun cx => cx.no (cx.wo rfl rfl rfl rfl (cx.u 1 rfl) rfl) rfl rfl rfl rfl) <|
    hk (fun cx => cx.no (cx.wo rfl rfl rfl rfl (cx.u 1 rfl) rfl) rfl rfl rfl rfl) <|
    hk (fun cx => cx.v (ex_pt rfl (cx.u 0 rfl) rfl) rfl rfl) <|
    hk (fun cx => cx.v (ex_mv rfl (cx.u 0 rfl)) rfl rfl) <|
    hk (fun cx => cx.no (cx.wo rfl rfl rfl rfl (cx.u 0 rfl) rfl) rfl rfl rfl rfl) <|
    hk (fun cx => cx.no (cx.wo rfl rfl rfl rfl (cx.u 1 rfl) rfl) rfl rfl rfl rfl) <|
    hk (fun cx => cx.v (ex_pt rfl (cx.u 0 rfl) rfl) rfl rfl) <|
    hk (fun cx => cx.v (ex_mv rfl (cx.u 0 rfl)) rfl rfl) <|
    hk (fun cx => cx.no (cx.wo rfl rfl rfl rfl (cx.u 0 rfl) rfl) rfl rfl rfl rfl) <|
    hk (fun cx => cx.no (cx.wo rfl rfl rfl rfl (cx.u 1 rfl) rfl) rfl rfl rfl rfl) <|
    hk (fun cx => cx.v (ex_pt rfl (cx.u 0 rfl) rfl) rfl rfl) <|
    hn) ?_
   intro a2 w2 f2
   refine wp_cond_true (f2.v 15 rfl rfl rfl) ?_
   refine wp_seq ?_
   have b_g3_1 := f2.k b_g3
   have s6_2 := f2.q 6 u_g3
   refine go_reg [⟨g3, 60, (cR 0 0 0 0), some 1, (cR allR.u.lo allR.u.hi allR.s.lo allR.s.hi)⟩] [] [some (.agg (cR allR.u.lo allR.u.hi allR.s.lo allR.s.hi)), none, some (.bool false)] mo f2.d f2.z f2.b (by kernel_rfl) ⟨b_g3_1, trivial⟩ (
    hc (fun _ _ wx cx => cx.c rfl (args0 ) Try.func30 (by decide +kernel) (rall_n wx) rfl rfl) <|
    hk (fun cx => cx.stR (wn rfl) rfl rfl 0 rfl (cx.rq 6 s6_2) (cx.u 0 rfl) (by kernel_rfl) rfl (by simp [Value.oneCell']) q_g3 rfl trivial trivial) <|
    hk (fun cx => cx.v (ex_as rfl rfl) rfl rfl) <|
    hn) ?_
   intro a3 w3 f3
   refine wp_ret ?_
   have s6_3 := f3.q 6 s6_2
   try simp only [Exit.inBlock, Exit.then]
   refine bodyPost_ret (res_ct (fn := Try.f22) rfl s6_3 (load_row 60 f3.rows.1 Try.underlying60 rfl (by kernel_rfl)) (f3.v 2 rfl rfl rfl)) f3.d ?_
   have HE : Value.tuple #[.agg (cR allR.u.lo allR.u.hi allR.s.lo allR.s.hi), .bool false] = .tuple #[Rg.val D, .bool DB] := by rw [ED.out.1, ED.out.2]; unfold Rg.giv Rg.givB; rw [Ffk1.out]; rfl
   exact ⟨retV HE, f3.b⟩
  have Ffk1 := Lib.hid fk1; clear fk1
  cases fk2 : Rg.mayB ⟨⟨p, q⟩, ⟨r, t⟩⟩
  case false =>
   have Ffk2 := Lib.hid fk2; clear fk2
   refine go_reg [bx g1 60 (cR a b c d), bx g2 60 (cR p q r t)] [] [some (.agg (cR a b c d)), some (.bool true), some (.bool false), some (.bool false), some (.agg (cR p q r t)), some (.bool false), some (.bool true), some (.bool true), some (.bool true), some (undef), some (undef), some (.bool true), some (.bool true), some (undef), some (undef), some (.bool true)] mo f1.d f1.z f1.b (by kernel_rfl) ⟨b_g1, b_g2, trivial⟩ (
    hk (fun cx => cx.v (ldR rfl (cx.rq 4 u_g1) (cx.rn 0 rfl)) rfl rfl) <|
    hc (fun _ _ wx cx => cx.c rfl (args1 (cx.u 0 rfl)) Try.func28 (by decide +kernel) (rmay_n a b c d wx) rfl (congrArg Value.bool Ffk1.out)) <|
    hk (fun cx => cx.v (ex_not (x := .tmp 11) rfl (cx.u 0 rfl)) rfl rfl) <|
    hk (fun cx => cx.v (ex_mv rfl (cx.u 0 rfl)) rfl rfl) <|
    hk (fun cx => cx.val (cx.wy rfl rfl rfl rfl (cx.u 0 rfl)) (ldR rfl (cx.rq 5 u_g2) (cx.rn 1 rfl)) rfl rfl rfl rfl) <|
    hc (fun _ _ wx cx => cx.call (cx.wy rfl rfl rfl rfl (cx.u 1 rfl)) rfl rfl (args1 (cx.u 0 rfl)) Try.func28 (by decide +kernel) rfl (rmay_n p q r t wx) rfl rfl (congrArg Value.bool Ffk2.out) rfl) <|
    hk (fun cx => cx.val (cx.wy rfl rfl rfl rfl (cx.u 1 rfl)) (ex_not (x := .tmp 15) rfl (cx.u 0 rfl)) rfl rfl rfl rfl) <|
    hk (fun cx => cx.v (ex_pf rfl (cx.u 0 rfl) (cx.u 1 rfl)) rfl rfl) <|
    hk (fun cx => cx.v (ex_mv rfl (cx.u 0 rfl)) rfl rfl) <|
    hk (fun cx => cx.no (cx.wo rfl rfl rfl rfl (cx.u 0 rfl) rfl) rfl rfl rfl rfl) <|
    hk (fun cx => cx.no (cx.wo rfl rfl rfl rfl (cx.u 1 rfl) rfl) rfl rfl rfl rfl) <|
    hk (fun cx => cx.v (ex_pt rfl (cx.u 0 rfl) rfl) rfl rfl) <|
    hk (fun cx => cx.v (ex_mv rfl (cx.u 0 rfl)) rfl rfl) <|
    hk (fun cx => cx.no (cx.wo rfl rfl rfl rfl (cx.u 0 rfl) rfl) rfl rfl rfl rfl) <|
    hk (fun cx => cx.no (cx.wo rfl rfl rfl rfl (cx.u 1 rfl) rfl) rfl rfl rfl rfl) <|
    hk (fun cx => cx.v (ex_pt rfl (cx.u 0 rfl) rfl) rfl rfl) <|
    hn) ?_
   intro a4 w4 f4
   refine wp_cond_true (f4.v 15 rfl rfl rfl) ?_
   refine wp_seq ?_
   have b_g3_4 := f4.k b_g3
   have s6_5 := f4.q 6 u_g3
   refine go_reg [⟨g3, 60, (cR 0 0 0 0), some 1, (cR allR.u.lo allR.u.hi allR.s.lo allR.s.hi)⟩] [] [some (.agg (cR allR.u.lo allR.u.hi allR.s.lo allR.s.hi)), none, some (.bool false)] mo f4.d f4.z f4.b (by kernel_rfl) ⟨b_g3_4, trivial⟩ (
    hc (fun _ _ wx cx => cx.c rfl (args0 ) Try.func30 (by decide +kernel) (rall_n wx) rfl rfl) <|
    hk (fun cx => cx.stR (wn rfl) rfl rfl 0 rfl (cx.rq 6 s6_5) (cx.u 0 rfl) (by kernel_rfl) rfl (by simp [Value.oneCell']) q_g3 rfl trivial trivial) <|
    hk (fun cx => cx.v (ex_as rfl rfl) rfl rfl) <|
    hn) ?_
   intro a5 w5 f5
   refine wp_ret ?_
   have s6_6 := f5.q 6 s6_5
   try simp only [Exit.inBlock, Exit.then]
   refine bodyPost_ret (res_ct (fn := Try.f22) rfl s6_6 (load_row 60 f5.rows.1 Try.underlying60 rfl (by kernel_rfl)) (f5.v 2 rfl rfl rfl)) f5.d ?_
   have HE : Value.tuple #[.agg (cR allR.u.lo allR.u.hi allR.s.lo allR.s.hi), .bool false] = .tuple #[Rg.val D, .bool DB] := by rw [ED.out.1, ED.out.2]; unfold Rg.giv Rg.givB; rw [Ffk1.out, Ffk2.out]; rfl
   exact ⟨retV HE, f5.b⟩
  have Ffk2 := Lib.hid fk2; clear fk2
  cases fk3 : decide (cc < 0)
  case false =>
   have Ffk3 := Lib.hid fk3; clear fk3
   cases fk4 : decide (10 < cc)
   case false =>
    have Ffk4 := Lib.hid fk4; clear fk4
    have s0_7 := f1.q 0 s0_0
    refine go_reg [bx g1 60 (cR a b c d), bx g2 60 (cR p q r t)] [] [some (.agg (cR a b c d)), some (.bool true), some (.bool false), some (.bool false), some (.agg (cR p q r t)), some (.bool true), some (.bool false), some (.bool false), some (.bool false), some (.int .i8 cc), some (.bool false), some (.bool false), some (.bool false), some (.int .i8 cc), some (.bool false), some (.bool false)] mo f1.d f1.z f1.b (by kernel_rfl) ⟨b_g1, b_g2, trivial⟩ (
     hk (fun cx => cx.v (ldR rfl (cx.rq 4 u_g1) (cx.rn 0 rfl)) rfl rfl) <|
     hc (fun _ _ wx cx => cx.c rfl (args1 (cx.u 0 rfl)) Try.func28 (by decide +kernel) (rmay_n a b c d wx) rfl (congrArg Value.bool Ffk1.out)) <|
     hk (fun cx => cx.v (ex_not (x := .tmp 11) rfl (cx.u 0 rfl)) rfl rfl) <|
     hk (fun cx => cx.v (ex_mv rfl (cx.u 0 rfl)) rfl rfl) <|
     hk (fun cx => cx.val (cx.wy rfl rfl rfl rfl (cx.u 0 rfl)) (ldR rfl (cx.rq 5 u_g2) (cx.rn 1 rfl)) rfl rfl rfl rfl) <|
     hc (fun _ _ wx cx => cx.call (cx.wy rfl rfl rfl rfl (cx.u 1 rfl)) rfl rfl (args1 (cx.u 0 rfl)) Try.func28 (by decide +kernel) rfl (rmay_n p q r t wx) rfl rfl (congrArg Value.bool Ffk2.out) rfl) <|
     hk (fun cx => cx.val (cx.wy rfl rfl rfl rfl (cx.u 1 rfl)) (ex_not (x := .tmp 15) rfl (cx.u 0 rfl)) rfl rfl rfl rfl) <|
     hk (fun cx => cx.v (ex_pf rfl (cx.u 0 rfl) (cx.u 1 rfl)) rfl rfl) <|
     hk (fun cx => cx.v (ex_mv rfl (cx.u 0 rfl)) rfl rfl) <|
     hk (fun cx => cx.val (cx.wy rfl rfl rfl rfl (cx.u 0 rfl)) (ex_mv rfl (cx.rq 0 s0_7)) rfl rfl rfl rfl) <|
     hk (fun cx => cx.val (cx.wy rfl rfl rfl rfl (cx.u 1 rfl)) (ex_lt (x := .tmp 19) rfl (cx.u 0 rfl) rfl) rfl rfl (congrArg Value.bool Ffk3.out) rfl) <|
     hk (fun cx => cx.v (ex_pf rfl (cx.u 0 rfl) (cx.u 1 rfl)) rfl rfl) <|
     hk (fun cx => cx.v (ex_mv rfl (cx.u 0 rfl)) rfl rfl) <|
     hk (fun cx => cx.val (cx.wy rfl rfl rfl rfl (cx.u 0 rfl)) (ex_mv rfl (cx.rq 0 s0_7)) rfl rfl rfl rfl) <|
     hk (fun cx => cx.val (cx.wy rfl rfl rfl rfl (cx.u 1 rfl)) (ex_gt (x := .tmp 23) rfl (cx.u 0 rfl) rfl) rfl rfl (congrArg Value.bool Ffk4.out) rfl) <|
     hk (fun cx => cx.v (ex_pf rfl (cx.u 0 rfl) (cx.u 1 rfl)) rfl rfl) <|
     hn) ?_
    intro a6 w6 f6
    refine wp_cond_false (f6.v 15 rfl rfl rfl) ?_
    refine wp_skip ?_
    have neM0_1 := (ne_ptr (pairAt f1.ps 0 2 (by decide) rfl rfl) u_g1 u_g3).symm
    refine wp_cut (fun aI wI => ∃ z : Rg, GC cc ⟨⟨a, b⟩, ⟨c, d⟩⟩ ⟨⟨p, q⟩, ⟨r, t⟩⟩ z ∧ Mid 191 W [(6, .pointer (some ⟨g3, 0, none⟩)), (4, .pointer (some ⟨g1, 0, none⟩))] [(g3, 60, (cR 0 0 0 0)), (g1, 60, (cR z.u.lo z.u.hi z.s.lo z.s.hi))] aI wI) ?_ ?_
    refine wp_seq ?_
    have s0_8 := f6.q 0 s0_7
    refine go_reg [] [] [some (.int .i8 cc)] mo f6.d f6.z f6.b (by kernel_rfl) trivial (
     hk (fun cx => cx.v (ex_mv rfl (cx.rq 0 s0_8)) rfl rfl) <|
     hn) ?_
    intro a7 w7 f7
    refine wp_block ?_
    refine wp_seq ?_
    cases fk5 : cc == 0
    case true =>
     have Ffk5 := Lib.hid fk5; clear fk5
     refine go_reg [] [] [some (.bool true), some (.bool true)] mo f7.d f7.z f7.b (by kernel_rfl) trivial (
      hk (fun cx => cx.v (ex_eq (x := .tmp 27) rfl (cx.rq 27 (f7.v 0 rfl rfl rfl)) rfl) rfl (congrArg Value.bool Ffk5.out)) <|
      hk (fun cx => cx.v (ex_as rfl (cx.u 0 rfl)) rfl rfl) <|
      hn) ?_
     intro a8 w8 f8
     refine wp_cond_true (f8.v 1 rfl rfl rfl) ?_
     refine wp_seq ?_
     have b_g1_9 := f8.k (f7.k (f6.k b_g1))
     have b_g2_10 := f8.k (f7.k (f6.k b_g2))
     have b_g3_11 := f8.k (f7.k (f6.k b_g3))
     have s4_12 := f8.q 4 (f7.q 4 (f6.q 4 u_g1))
     have s5_13 := f8.q 5 (f7.q 5 (f6.q 5 u_g2))
     have s6_14 := f8.q 6 (f7.q 6 (f6.q 6 u_g3))
     refine go_reg [bx g1 60 (cR a b c d), bx g2 60 (cR p q r t), ⟨g3, 60, (cR 0 0 0 0), some 5, (cR ((Rg.meetR ⟨⟨a, b⟩, ⟨c, d⟩⟩ ⟨⟨p, q⟩, ⟨r, t⟩⟩).u.lo) ((Rg.meetR ⟨⟨a, b⟩, ⟨c, d⟩⟩ ⟨⟨p, q⟩, ⟨r, t⟩⟩).u.hi) ((Rg.meetR ⟨⟨a, b⟩, ⟨c, d⟩⟩ ⟨⟨p, q⟩, ⟨r, t⟩⟩).s.lo) ((Rg.meetR ⟨⟨a, b⟩, ⟨c, d⟩⟩ ⟨⟨p, q⟩, ⟨r, t⟩⟩).s.hi))⟩] [] [some (.agg (cR a b c d)), some (.agg (cR p q r t)), some (.tuple #[.agg (cR ((Rg.meetR ⟨⟨a, b⟩, ⟨c, d⟩⟩ ⟨⟨p, q⟩, ⟨r, t⟩⟩).u.lo) ((Rg.meetR ⟨⟨a, b⟩, ⟨c, d⟩⟩ ⟨⟨p, q⟩, ⟨r, t⟩⟩).u.hi) ((Rg.meetR ⟨⟨a, b⟩, ⟨c, d⟩⟩ ⟨⟨p, q⟩, ⟨r, t⟩⟩).s.lo) ((Rg.meetR ⟨⟨a, b⟩, ⟨c, d⟩⟩ ⟨⟨p, q⟩, ⟨r, t⟩⟩).s.hi)), .bool (Rg.meetB ⟨⟨a, b⟩, ⟨c, d⟩⟩ ⟨⟨p, q⟩, ⟨r, t⟩⟩)]), some (.agg (cR ((Rg.meetR ⟨⟨a, b⟩, ⟨c, d⟩⟩ ⟨⟨p, q⟩, ⟨r, t⟩⟩).u.lo) ((Rg.meetR ⟨⟨a, b⟩, ⟨c, d⟩⟩ ⟨⟨p, q⟩, ⟨r, t⟩⟩).u.hi) ((Rg.meetR ⟨⟨a, b⟩, ⟨c, d⟩⟩ ⟨⟨p, q⟩, ⟨r, t⟩⟩).s.lo) ((Rg.meetR ⟨⟨a, b⟩, ⟨c, d⟩⟩ ⟨⟨p, q⟩, ⟨r, t⟩⟩).s.hi))), some (.bool (Rg.meetB ⟨⟨a, b⟩, ⟨c, d⟩⟩ ⟨⟨p, q⟩, ⟨r, t⟩⟩)), none, some (.bool (Rg.meetB ⟨⟨a, b⟩, ⟨c, d⟩⟩ ⟨⟨p, q⟩, ⟨r, t⟩⟩))] mo f8.d f8.z f8.b (by kernel_rfl) ⟨b_g1_9, b_g2_10, b_g3_11, trivial⟩ (
      hk (fun cx => cx.v (ldR rfl (cx.rq 4 s4_12) (cx.rn 0 rfl)) rfl rfl) <|
      hk (fun cx => cx.v (ldR rfl (cx.rq 5 s5_13) (cx.rn 1 rfl)) rfl rfl) <|
      hc (fun _ _ wx cx => cx.c rfl (args2 (cx.u 0 rfl) (cx.u 1 rfl)) Try.func20 (by decide +kernel) (rmeet_n a b c d p q r t wx HA.out HB.out) rfl rfl) <|
      hk (fun cx => cx.v (ex_ext (x := .tmp 32) rfl (cx.u 0 rfl) rfl) rfl rfl) <|
      hk (fun cx => cx.v (ex_ext (x := .tmp 32) rfl (cx.u 0 rfl) rfl) rfl rfl) <|
      hk (fun cx => cx.stR (wn rfl) rfl rfl 2 rfl (cx.rq 6 s6_14) (cx.u 0 rfl) (by kernel_rfl) rfl (by simp [Value.oneCell']) q_g3 rfl ⟨(ne_ptr (pairAt f1.ps 0 2 (by decide) rfl rfl) u_g1 u_g3), (ne_ptr (pairAt f1.ps 1 2 (by decide) rfl rfl) u_g2 u_g3), trivial⟩ trivial) <|
      hk (fun cx => cx.v (ex_as rfl (cx.u 0 rfl)) rfl rfl) <|
      hn) ?_
     intro a9 w9 f9
     refine wp_ret ?_
     have s6_15 := f9.q 6 s6_14
     try simp only [Exit.inBlock, Exit.then]
     refine bodyPost_ret (res_ct (fn := Try.f22) rfl s6_15 (load_row 60 f9.rows.2.2.1 Try.underlying60 rfl (by kernel_rfl)) (f9.v 6 rfl rfl rfl)) f9.d ?_
     have HE : Value.tuple #[.agg (cR ((Rg.meetR ⟨⟨a, b⟩, ⟨c, d⟩⟩ ⟨⟨p, q⟩, ⟨r, t⟩⟩).u.lo) ((Rg.meetR ⟨⟨a, b⟩, ⟨c, d⟩⟩ ⟨⟨p, q⟩, ⟨r, t⟩⟩).u.hi) ((Rg.meetR ⟨⟨a, b⟩, ⟨c, d⟩⟩ ⟨⟨p, q⟩, ⟨r, t⟩⟩).s.lo) ((Rg.meetR ⟨⟨a, b⟩, ⟨c, d⟩⟩ ⟨⟨p, q⟩, ⟨r, t⟩⟩).s.hi)), .bool (Rg.meetB ⟨⟨a, b⟩, ⟨c, d⟩⟩ ⟨⟨p, q⟩, ⟨r, t⟩⟩)] = .tuple #[Rg.val D, .bool DB] := by rw [ED.out.1, ED.out.2]; unfold Rg.giv Rg.givB; rw [Ffk1.out, Ffk2.out, HCC.out Ffk3.out Ffk4.out, if_pos (by rfl), show givC cc ⟨⟨a, b⟩, ⟨c, d⟩⟩ ⟨⟨p, q⟩, ⟨r, t⟩⟩ = Rg.meet2 ⟨⟨a, b⟩, ⟨c, d⟩⟩ ⟨⟨p, q⟩, ⟨r, t⟩⟩ by unfold givC; rw [if_pos (yb Ffk5.out)]]; unfold Rg.meetR Rg.meetB; rw [Ffk1.out, Ffk2.out, if_pos (by rfl)]; rfl
     exact ⟨retV HE, f9.b⟩
    have Ffk5 := Lib.hid fk5; clear fk5
    refine go_reg [] [] [some (.bool false), some (.bool false)] mo f7.d f7.z f7.b (by kernel_rfl) trivial (
     hk (fun cx => cx.v (ex_eq (x := .tmp 27) rfl (cx.rq 27 (f7.v 0 rfl rfl rfl)) rfl) rfl (congrArg Value.bool Ffk5.out)) <|
     hk (fun cx => cx.v (ex_as rfl (cx.u 0 rfl)) rfl rfl) <|
     hn) ?_
    intro a10 w10 f10
    refine wp_cond_false (f10.v 1 rfl rfl rfl) ?_
    refine wp_seq ?_
    cases fk6 : cc == 1
    case true =>
     have Ffk6 := Lib.hid fk6; clear fk6
     have s27_16 := f10.q 27 (f7.v 0 rfl rfl rfl)
     refine go_reg [] [] [some (.bool true), some (.bool true)] mo f10.d f10.z f10.b (by kernel_rfl) trivial (
      hk (fun cx => cx.v (ex_eq (x := .tmp 27) rfl (cx.rq 27 s27_16) rfl) rfl (congrArg Value.bool Ffk6.out)) <|
      hk (fun cx => cx.v (ex_as rfl (cx.u 0 rfl)) rfl rfl) <|
      hn) ?_
     intro a11 w11 f11
     refine wp_cond_true (f11.v 1 rfl rfl rfl) ?_
     refine wp_seq ?_
     cases fk7 : Rg.oneB ⟨⟨p, q⟩, ⟨r, t⟩⟩
     case false =>
      have Ffk7 := Lib.hid fk7; clear fk7
      have b_g2_17 := f11.k (f10.k (f7.k (f6.k b_g2)))
      have s5_18 := f11.q 5 (f10.q 5 (f7.q 5 (f6.q 5 u_g2)))
      refine go_reg [bx g2 60 (cR p q r t)] [] [some (.agg (cR p q r t)), some (.tuple #[.int .u64 (Rg.oneV ⟨⟨p, q⟩, ⟨r, t⟩⟩), .bool (Rg.oneB ⟨⟨p, q⟩, ⟨r, t⟩⟩)]), some (.tuple #[.int .u64 (Rg.oneV ⟨⟨p, q⟩, ⟨r, t⟩⟩), .bool (Rg.oneB ⟨⟨p, q⟩, ⟨r, t⟩⟩)]), some (.int .u64 (Rg.oneV ⟨⟨p, q⟩, ⟨r, t⟩⟩)), some (.bool false), some (.int .u64 (Rg.oneV ⟨⟨p, q⟩, ⟨r, t⟩⟩)), some (.bool false)] mo f11.d f11.z f11.b (by kernel_rfl) ⟨b_g2_17, trivial⟩ (
       hk (fun cx => cx.v (ldR rfl (cx.rq 5 s5_18) (cx.rn 0 rfl)) rfl rfl) <|
       hc (fun _ _ wx cx => cx.c rfl (args1 (cx.u 0 rfl)) Try.func24 (by decide +kernel) (rsingle_n p q r t wx) rfl rfl) <|
       hk (fun cx => cx.v (ex_mv rfl (cx.u 0 rfl)) rfl rfl) <|
       hk (fun cx => cx.v (ex_ext (x := .tmp 37) rfl (cx.u 0 rfl) rfl) rfl rfl) <|
       hk (fun cx => cx.v (ex_ext (x := .tmp 37) rfl (cx.u 0 rfl) rfl) rfl (congrArg Value.bool Ffk7.out)) <|
       hk (fun cx => cx.v (ex_as rfl (cx.u 0 rfl)) rfl rfl) <|
       hk (fun cx => cx.v (ex_as rfl (cx.u 0 rfl)) rfl rfl) <|
       hn) ?_
      intro a12 w12 f12
      refine wp_seq ?_
      refine go_reg [] [] [some (.bool false)] mo f12.d f12.z f12.b (by kernel_rfl) trivial (
       hk (fun cx => cx.v (ex_mv rfl (cx.rq 9 (f12.v 6 rfl rfl rfl))) rfl rfl) <|
       hn) ?_
      intro a13 w13 f13
      refine wp_cond_false (f13.v 0 rfl rfl rfl) ?_
      refine wp_skip ?_
      have s6_19 := f13.q 6 (f12.q 6 (f11.q 6 (f10.q 6 (f7.q 6 (f6.q 6 u_g3)))))
      have s4_20 := f13.q 4 (f12.q 4 (f11.q 4 (f10.q 4 (f7.q 4 (f6.q 4 u_g1)))))
      have b_g3_21 := f13.k (f12.k (f11.k (f10.k (f7.k (f6.k b_g3)))))
      have b_g1_22 := f13.k (f12.k (f11.k (f10.k (f7.k (f6.k b_g1)))))
      exact ⟨⟨⟨a, b⟩, ⟨c, d⟩⟩, (by rw [(yb Ffk6.out)]; exact gc_1n HA.out HB.out Ffk1.out Ffk2.out Ffk7.out), f13.d, f13.z, f13.b, ⟨s6_19, s4_20, trivial⟩, ⟨b_g3_21, b_g1_22, trivial⟩⟩
     have Ffk7 := Lib.hid fk7; clear fk7
     have b_g2_23 := f11.k (f10.k (f7.k (f6.k b_g2)))
     have s5_24 := f11.q 5 (f10.q 5 (f7.q 5 (f6.q 5 u_g2)))
     refine go_reg [bx g2 60 (cR p q r t)] [] [some (.agg (cR p q r t)), some (.tuple #[.int .u64 (Rg.oneV ⟨⟨p, q⟩, ⟨r, t⟩⟩), .bool (Rg.oneB ⟨⟨p, q⟩, ⟨r, t⟩⟩)]), some (.tuple #[.int .u64 (Rg.oneV ⟨⟨p, q⟩, ⟨r, t⟩⟩), .bool (Rg.oneB ⟨⟨p, q⟩, ⟨r, t⟩⟩)]), some (.int .u64 (Rg.oneV ⟨⟨p, q⟩, ⟨r, t⟩⟩)), some (.bool true), some (.int .u64 (Rg.oneV ⟨⟨p, q⟩, ⟨r, t⟩⟩)), some (.bool true)] mo f11.d f11.z f11.b (by kernel_rfl) ⟨b_g2_23, trivial⟩ (
      hk (fun cx => cx.v (ldR rfl (cx.rq 5 s5_24) (cx.rn 0 rfl)) rfl rfl) <|
      hc (fun _ _ wx cx => cx.c rfl (args1 (cx.u 0 rfl)) Try.func24 (by decide +kernel) (rsingle_n p q r t wx) rfl rfl) <|
      hk (fun cx => cx.v (ex_mv rfl (cx.u 0 rfl)) rfl rfl) <|
      hk (fun cx => cx.v (ex_ext (x := .tmp 37) rfl (cx.u 0 rfl) rfl) rfl rfl) <|
      hk (fun cx => cx.v (ex_ext (x := .tmp 37) rfl (cx.u 0 rfl) rfl) rfl (congrArg Value.bool Ffk7.out)) <|
      hk (fun cx => cx.v (ex_as rfl (cx.u 0 rfl)) rfl rfl) <|
      hk (fun cx => cx.v (ex_as rfl (cx.u 0 rfl)) rfl rfl) <|
      hn) ?_
     intro a14 w14 f14
     refine wp_seq ?_
     refine go_reg [] [] [some (.bool true)] mo f14.d f14.z f14.b (by kernel_rfl) trivial (
      hk (fun cx => cx.v (ex_mv rfl (cx.rq 9 (f14.v 6 rfl rfl rfl))) rfl rfl) <|
      hn) ?_
     intro a15 w15 f15
     refine wp_cond_true (f15.v 0 rfl rfl rfl) ?_
     refine wp_seq ?_
     refine wp_seq ?_
     cases fk8 : a == b
     case false =>
      have Ffk8 := Lib.hid fk8; clear fk8
      cases fk9 : c == d
      case false =>
       have Ffk9 := Lib.hid fk9; clear fk9
       have b_g1_25 := f15.k (f14.k (f11.k (f10.k (f7.k (f6.k b_g1)))))
       have s4_26 := f15.q 4 (f14.q 4 (f11.q 4 (f10.q 4 (f7.q 4 (f6.q 4 u_g1)))))
       refine go_reg [bx g1 60 (cR a b c d)] [] (tabs [some (pt g1 0), some (.int .u64 a), some (pt g1 1), some (.int .u64 b), some (.bool false), some (.bool false), some (undef), some (undef), some (undef), some (undef), some (.bool false), some (.bool false), some (pt g1 2), some (.int .i64 c), some (pt g1 3), some (.int .i64 d), some (.bool false), some (.bool false), some (undef), some (undef)] [some (undef), some (undef), some (undef), some (.bool false), some (.bool false)]) mo f15.d f15.z f15.b (by kernel_rfl) ⟨b_g1_25, trivial⟩ (
        hk (fun cx => cx.v (ex_fa rfl (cx.rq 4 s4_26) (faRV60_0_0 _ _)) rfl rfl) <|
        hk (fun cx => cx.v (ex_ld rfl (cx.u 0 rfl) (cx.rn 0 rfl) rfl Try.isAgg30) rfl rfl) <|
        hk (fun cx => cx.v (ex_fa rfl (cx.rq 4 s4_26) (faRV60_1_0 _ _)) rfl rfl) <|
        hk (fun cx => cx.v (ex_ld rfl (cx.u 0 rfl) (cx.rn 0 rfl) rfl Try.isAgg30) rfl rfl) <|
        hk (fun cx => cx.v (ex_eq (x := .tmp 44) (y := .tmp 46) rfl (cx.u 0 rfl) (cx.u 1 rfl)) rfl (congrArg Value.bool Ffk8.out)) <|
        hk (fun cx => cx.v (ex_mv rfl (cx.u 0 rfl)) rfl rfl) <|
        hk (fun cx => cx.no (cx.wo rfl rfl rfl rfl (cx.u 0 rfl) rfl) rfl rfl rfl rfl) <|
        hk (fun cx => cx.no (cx.wo rfl rfl rfl rfl (cx.u 1 rfl) rfl) rfl rfl rfl rfl) <|
        hk (fun cx => cx.no (cx.wo rfl rfl rfl rfl (cx.u 0 rfl) rfl) rfl rfl rfl rfl) <|
        hk (fun cx => cx.no (cx.wo rfl rfl rfl rfl (cx.u 2 rfl) rfl) rfl rfl rfl rfl) <|
        hk (fun cx => cx.v (ex_pf rfl (cx.u 0 rfl) rfl) rfl rfl) <|
        hk (fun cx => cx.v (ex_mv rfl (cx.u 0 rfl)) rfl rfl) <|
        hk (fun cx => cx.val (cx.wy rfl rfl rfl rfl (cx.u 0 rfl)) (ex_fa rfl (cx.rq 4 s4_26) (faRV60_2_0 _ _)) rfl rfl rfl rfl) <|
        hk (fun cx => cx.val (cx.wy rfl rfl rfl rfl (cx.u 1 rfl)) (ex_ld rfl (cx.u 0 rfl) (cx.rn 0 rfl) rfl Try.isAgg2) rfl rfl rfl rfl) <|
        hk (fun cx => cx.val (cx.wy rfl rfl rfl rfl (cx.u 0 rfl)) (ex_fa rfl (cx.rq 4 s4_26) (faRV60_3_0 _ _)) rfl rfl rfl rfl) <|
        hk (fun cx => cx.val (cx.wy rfl rfl rfl rfl (cx.u 1 rfl)) (ex_ld rfl (cx.u 0 rfl) (cx.rn 0 rfl) rfl Try.isAgg2) rfl rfl rfl rfl) <|
        hk (fun cx => cx.val (cx.wy rfl rfl rfl rfl (cx.u 2 rfl)) (ex_eq (x := .tmp 56) (y := .tmp 58) rfl (cx.u 0 rfl) (cx.u 1 rfl)) rfl rfl (congrArg Value.bool Ffk9.out) rfl) <|
        hk (fun cx => cx.val (cx.wy rfl rfl rfl rfl (cx.u 1 rfl)) (ex_mv rfl (cx.u 0 rfl)) rfl rfl rfl rfl) <|
        hk (fun cx => cx.no (cx.wo rfl rfl rfl rfl (cx.u 0 rfl) rfl) rfl rfl rfl rfl) <|
        hk (fun cx => cx.no (cx.wo rfl rfl rfl rfl (cx.u 1 rfl) rfl) rfl rfl rfl rfl) <|
        hk (fun cx => cx.no (cx.wo rfl rfl rfl rfl (cx.u 0 rfl) rfl) rfl rfl rfl rfl) <|
        hk (fun cx => cx.no (cx.wo rfl rfl rfl rfl (cx.u 1 rfl) rfl) rfl rfl rfl rfl) <|
        hk (fun cx => cx.no (cx.wo rfl rfl rfl rfl (cx.u 2 rfl) rfl) rfl rfl rfl rfl) <|
        hk (fun cx => cx.val (cx.wy rfl rfl rfl rfl (cx.u 2 rfl)) (ex_pf rfl (cx.u 0 rfl) rfl) rfl rfl rfl rfl) <|
        hk (fun cx => cx.v (ex_pf rfl (cx.u 0 rfl) (cx.u 1 rfl)) rfl rfl) <|
        hn) ?_
       intro a16 w16 f16
       refine wp_cond_false (f16.v 24 rfl rfl rfl) ?_
       refine wp_skip ?_
       refine wp_seq ?_
       refine wp_seq ?_
       cases fk10 : a == (Rg.oneV ⟨⟨p, q⟩, ⟨r, t⟩⟩)
       case false =>
        have Ffk10 := Lib.hid fk10; clear fk10
        have b_g1_27 := f16.k b_g1_25
        have s4_28 := f16.q 4 s4_26
        have s8_29 := f16.q 8 (f15.q 8 (f14.v 5 rfl rfl rfl))
        refine go_reg [bx g1 60 (cR a b c d)] [] [some (pt g1 0), some (.int .u64 a), some (.int .u64 (Rg.oneV ⟨⟨p, q⟩, ⟨r, t⟩⟩)), some (.bool false)] mo f16.d f16.z f16.b (by kernel_rfl) ⟨b_g1_27, trivial⟩ (
         hk (fun cx => cx.v (ex_fa rfl (cx.rq 4 s4_28) (faRV60_0_0 _ _)) rfl rfl) <|
         hk (fun cx => cx.v (ex_ld rfl (cx.u 0 rfl) (cx.rn 0 rfl) rfl Try.isAgg30) rfl rfl) <|
         hk (fun cx => cx.v (ex_mv rfl (cx.rq 8 s8_29)) rfl rfl) <|
         hk (fun cx => cx.v (ex_eq (x := .tmp 70) (y := .tmp 71) rfl (cx.u 0 rfl) (cx.u 1 rfl)) rfl (congrArg Value.bool Ffk10.out)) <|
         hn) ?_
        intro a17 w17 f17
        refine wp_cond_false (f17.v 3 rfl rfl rfl) ?_
        refine wp_seq ?_
        cases fk11 : b == (Rg.oneV ⟨⟨p, q⟩, ⟨r, t⟩⟩)
        case false =>
         have Ffk11 := Lib.hid fk11; clear fk11
         have b_g1_30 := f17.k b_g1_27
         have s4_31 := f17.q 4 s4_28
         have s8_32 := f17.q 8 s8_29
         refine go_reg [bx g1 60 (cR a b c d)] [] [some (pt g1 1), some (.int .u64 b), some (.int .u64 (Rg.oneV ⟨⟨p, q⟩, ⟨r, t⟩⟩)), some (.bool false)] mo f17.d f17.z f17.b (by kernel_rfl) ⟨b_g1_30, trivial⟩ (
          hk (fun cx => cx.v (ex_fa rfl (cx.rq 4 s4_31) (faRV60_1_0 _ _)) rfl rfl) <|
          hk (fun cx => cx.v (ex_ld rfl (cx.u 0 rfl) (cx.rn 0 rfl) rfl Try.isAgg30) rfl rfl) <|
          hk (fun cx => cx.v (ex_mv rfl (cx.rq 8 s8_32)) rfl rfl) <|
          hk (fun cx => cx.v (ex_eq (x := .tmp 78) (y := .tmp 79) rfl (cx.u 0 rfl) (cx.u 1 rfl)) rfl (congrArg Value.bool Ffk11.out)) <|
          hn) ?_
         intro a18 w18 f18
         refine wp_cond_false (f18.v 3 rfl rfl rfl) ?_
         refine wp_skip ?_
         refine wp_seq ?_
         cases fk12 : c == (sg (Rg.oneV ⟨⟨p, q⟩, ⟨r, t⟩⟩))
         case false =>
          have Ffk12 := Lib.hid fk12; clear fk12
          have b_g1_33 := f18.k b_g1_30
          have s4_34 := f18.q 4 s4_31
          have s8_35 := f18.q 8 s8_32
          refine go_reg [bx g1 60 (cR a b c d)] [] [some (pt g1 2), some (.int .i64 c), some (.int .u64 (Rg.oneV ⟨⟨p, q⟩, ⟨r, t⟩⟩)), some (.int .i64 (sg (Rg.oneV ⟨⟨p, q⟩, ⟨r, t⟩⟩))), some (.bool false)] mo f18.d f18.z f18.b (by kernel_rfl) ⟨b_g1_33, trivial⟩ (
           hk (fun cx => cx.v (ex_fa rfl (cx.rq 4 s4_34) (faRV60_2_0 _ _)) rfl rfl) <|
           hk (fun cx => cx.v (ex_ld rfl (cx.u 0 rfl) (cx.rn 0 rfl) rfl Try.isAgg2) rfl rfl) <|
           hk (fun cx => cx.v (ex_mv rfl (cx.rq 8 s8_35)) rfl rfl) <|
           hk (fun cx => cx.v (ex_conv (x := .tmp 87) rfl (cx.u 0 rfl) Try.underlying30 Try.underlying2) rfl (congrArg (Value.int .i64) (wrap_sg _))) <|
           hk (fun cx => cx.v (ex_eq (x := .tmp 86) (y := .tmp 88) rfl (cx.u 0 rfl) (cx.u 1 rfl)) rfl (congrArg Value.bool Ffk12.out)) <|
           hn) ?_
          intro a19 w19 f19
          refine wp_cond_false (f19.v 4 rfl rfl rfl) ?_
          refine wp_seq ?_
          cases fk13 : d == (sg (Rg.oneV ⟨⟨p, q⟩, ⟨r, t⟩⟩))
          case false =>
           have Ffk13 := Lib.hid fk13; clear fk13
           have b_g1_36 := f19.k b_g1_33
           have s4_37 := f19.q 4 s4_34
           have s8_38 := f19.q 8 s8_35
           refine go_reg [bx g1 60 (cR a b c d)] [] [some (pt g1 3), some (.int .i64 d), some (.int .u64 (Rg.oneV ⟨⟨p, q⟩, ⟨r, t⟩⟩)), some (.int .i64 (sg (Rg.oneV ⟨⟨p, q⟩, ⟨r, t⟩⟩))), some (.bool false)] mo f19.d f19.z f19.b (by kernel_rfl) ⟨b_g1_36, trivial⟩ (
            hk (fun cx => cx.v (ex_fa rfl (cx.rq 4 s4_37) (faRV60_3_0 _ _)) rfl rfl) <|
            hk (fun cx => cx.v (ex_ld rfl (cx.u 0 rfl) (cx.rn 0 rfl) rfl Try.isAgg2) rfl rfl) <|
            hk (fun cx => cx.v (ex_mv rfl (cx.rq 8 s8_38)) rfl rfl) <|
            hk (fun cx => cx.v (ex_conv (x := .tmp 96) rfl (cx.u 0 rfl) Try.underlying30 Try.underlying2) rfl (congrArg (Value.int .i64) (wrap_sg _))) <|
            hk (fun cx => cx.v (ex_eq (x := .tmp 95) (y := .tmp 97) rfl (cx.u 0 rfl) (cx.u 1 rfl)) rfl (congrArg Value.bool Ffk13.out)) <|
            hn) ?_
           intro a20 w20 f20
           refine wp_cond_false (f20.v 4 rfl rfl rfl) ?_
           refine wp_skip ?_
           have s6_39 := f20.q 6 (f19.q 6 (f18.q 6 (f17.q 6 (f16.q 6 (f15.q 6 (f14.q 6 (f11.q 6 (f10.q 6 (f7.q 6 (f6.q 6 u_g3))))))))))
           have s4_40 := f20.q 4 s4_37
           have b_g3_41 := f20.k (f19.k (f18.k (f17.k (f16.k (f15.k (f14.k (f11.k (f10.k (f7.k (f6.k b_g3))))))))))
           have b_g1_42 := f20.k b_g1_36
           exact ⟨⟨⟨a, b⟩, ⟨c, d⟩⟩, (by rw [(yb Ffk6.out)]; exact gc_1 HA.out HB.out Ffk1.out Ffk2.out Ffk7.out (wu3 Ffk10.out Ffk11.out) (wu3 Ffk12.out Ffk13.out)), f20.d, f20.z, f20.b, ⟨s6_39, s4_40, trivial⟩, ⟨b_g3_41, b_g1_42, trivial⟩⟩
          have Ffk13 := Lib.hid fk13; clear fk13
          have b_g1_43 := f19.k b_g1_33
          have s4_44 := f19.q 4 s4_34
          have s8_45 := f19.q 8 s8_35
          refine go_reg [bx g1 60 (cR a b c d)] [] [some (pt g1 3), some (.int .i64 d), some (.int .u64 (Rg.oneV ⟨⟨p, q⟩, ⟨r, t⟩⟩)), some (.int .i64 (sg (Rg.oneV ⟨⟨p, q⟩, ⟨r, t⟩⟩))), some (.bool true)] mo f19.d f19.z f19.b (by kernel_rfl) ⟨b_g1_43, trivial⟩ (
           hk (fun cx => cx.v (ex_fa rfl (cx.rq 4 s4_44) (faRV60_3_0 _ _)) rfl rfl) <|
           hk (fun cx => cx.v (ex_ld rfl (cx.u 0 rfl) (cx.rn 0 rfl) rfl Try.isAgg2) rfl rfl) <|
           hk (fun cx => cx.v (ex_mv rfl (cx.rq 8 s8_45)) rfl rfl) <|
           hk (fun cx => cx.v (ex_conv (x := .tmp 96) rfl (cx.u 0 rfl) Try.underlying30 Try.underlying2) rfl (congrArg (Value.int .i64) (wrap_sg _))) <|
           hk (fun cx => cx.v (ex_eq (x := .tmp 95) (y := .tmp 97) rfl (cx.u 0 rfl) (cx.u 1 rfl)) rfl (congrArg Value.bool Ffk13.out)) <|
           hn) ?_
          intro a21 w21 f21
          refine wp_cond_true (f21.v 4 rfl rfl rfl) ?_
          have b_g1_46 := f21.k b_g1_43
          have s4_47 := f21.q 4 s4_44
          refine go_reg [⟨g1, 60, (cR a b c d), some 4, (cR a b c (IntKind.i64.wrap (d - 1)))⟩] [] [some (pt g1 3), some (.int .i64 d), some (.int .i64 (IntKind.i64.wrap (d - 1))), some (pt g1 3), none] mo f21.d f21.z f21.b (by kernel_rfl) ⟨b_g1_46, trivial⟩ (
           hk (fun cx => cx.v (ex_fa rfl (cx.rq 4 s4_47) (faRV60_3_0 _ _)) rfl rfl) <|
           hk (fun cx => cx.v (ex_ld rfl (cx.u 0 rfl) (cx.rf 0 rfl (by kernel_rfl)) rfl Try.isAgg2) rfl rfl) <|
           hk (fun cx => cx.v (ex_sub (x := .tmp 100) rfl (cx.u 0 rfl) rfl) rfl rfl) <|
           hk (fun cx => cx.v (ex_fa rfl (cx.rq 4 s4_47) (faRV60_3_0 _ _)) rfl rfl) <|
           hk (fun cx => cx.stC (wn rfl) rfl rfl 0 rfl (cx.u 0 rfl) (cx.u 1 rfl) rfl rfl (by kernel_rfl) rfl rfl q_g1 rfl trivial trivial) <|
           hn) ?_
          intro a22 w22 f22
          have s6_48 := f22.q 6 (f21.q 6 (f19.q 6 (f18.q 6 (f17.q 6 (f16.q 6 (f15.q 6 (f14.q 6 (f11.q 6 (f10.q 6 (f7.q 6 (f6.q 6 u_g3)))))))))))
          have s4_49 := f22.q 4 s4_47
          have b_g3_50 := f22.kp (f21.k (f19.k (f18.k (f17.k (f16.k (f15.k (f14.k (f11.k (f10.k (f7.k (f6.k b_g3))))))))))) ⟨.inr (ne_ptr (pairAt f1.ps 0 2 (by decide) rfl rfl) u_g1 u_g3).symm, trivial⟩
          exact ⟨⟨⟨a, b⟩, ⟨c, IntKind.i64.wrap (d - 1)⟩⟩, (by rw [(yb Ffk6.out)]; exact gc_1 HA.out HB.out Ffk1.out Ffk2.out Ffk7.out (wu3 Ffk10.out Ffk11.out) (ws2 HA.out.2.1 HA.out.2.2 ((may_iff ⟨⟨a, b⟩, ⟨c, d⟩⟩).1 Ffk1.out).2 Ffk12.out Ffk13.out)), f22.d, f22.z, f22.b, ⟨s6_48, s4_49, trivial⟩, ⟨b_g3_50, f22.rows.1, trivial⟩⟩
         have Ffk12 := Lib.hid fk12; clear fk12
         have b_g1_51 := f18.k b_g1_30
         have s4_52 := f18.q 4 s4_31
         have s8_53 := f18.q 8 s8_32
         refine go_reg [bx g1 60 (cR a b c d)] [] [some (pt g1 2), some (.int .i64 c), some (.int .u64 (Rg.oneV ⟨⟨p, q⟩, ⟨r, t⟩⟩)), some (.int .i64 (sg (Rg.oneV ⟨⟨p, q⟩, ⟨r, t⟩⟩))), some (.bool true)] mo f18.d f18.z f18.b (by kernel_rfl) ⟨b_g1_51, trivial⟩ (
          hk (fun cx => cx.v (ex_fa rfl (cx.rq 4 s4_52) (faRV60_2_0 _ _)) rfl rfl) <|
          hk (fun cx => cx.v (ex_ld rfl (cx.u 0 rfl) (cx.rn 0 rfl) rfl Try.isAgg2) rfl rfl) <|
          hk (fun cx => cx.v (ex_mv rfl (cx.rq 8 s8_53)) rfl rfl) <|
          hk (fun cx => cx.v (ex_conv (x := .tmp 87) rfl (cx.u 0 rfl) Try.underlying30 Try.underlying2) rfl (congrArg (Value.int .i64) (wrap_sg _))) <|
          hk (fun cx => cx.v (ex_eq (x := .tmp 86) (y := .tmp 88) rfl (cx.u 0 rfl) (cx.u 1 rfl)) rfl (congrArg Value.bool Ffk12.out)) <|
          hn) ?_
         intro a23 w23 f23
         refine wp_cond_true (f23.v 4 rfl rfl rfl) ?_
         have b_g1_54 := f23.k b_g1_51
         have s4_55 := f23.q 4 s4_52
         refine go_reg [⟨g1, 60, (cR a b c d), some 4, (cR a b (IntKind.i64.wrap (c + 1)) d)⟩] [] [some (pt g1 2), some (.int .i64 c), some (.int .i64 (IntKind.i64.wrap (c + 1))), some (pt g1 2), none] mo f23.d f23.z f23.b (by kernel_rfl) ⟨b_g1_54, trivial⟩ (
          hk (fun cx => cx.v (ex_fa rfl (cx.rq 4 s4_55) (faRV60_2_0 _ _)) rfl rfl) <|
          hk (fun cx => cx.v (ex_ld rfl (cx.u 0 rfl) (cx.rf 0 rfl (by kernel_rfl)) rfl Try.isAgg2) rfl rfl) <|
          hk (fun cx => cx.v (ex_add (x := .tmp 91) rfl (cx.u 0 rfl) rfl) rfl rfl) <|
          hk (fun cx => cx.v (ex_fa rfl (cx.rq 4 s4_55) (faRV60_2_0 _ _)) rfl rfl) <|
          hk (fun cx => cx.stC (wn rfl) rfl rfl 0 rfl (cx.u 0 rfl) (cx.u 1 rfl) rfl rfl (by kernel_rfl) rfl rfl q_g1 rfl trivial trivial) <|
          hn) ?_
         intro a24 w24 f24
         have s6_56 := f24.q 6 (f23.q 6 (f18.q 6 (f17.q 6 (f16.q 6 (f15.q 6 (f14.q 6 (f11.q 6 (f10.q 6 (f7.q 6 (f6.q 6 u_g3))))))))))
         have s4_57 := f24.q 4 s4_55
         have b_g3_58 := f24.kp (f23.k (f18.k (f17.k (f16.k (f15.k (f14.k (f11.k (f10.k (f7.k (f6.k b_g3)))))))))) ⟨.inr (ne_ptr (pairAt f1.ps 0 2 (by decide) rfl rfl) u_g1 u_g3).symm, trivial⟩
         exact ⟨⟨⟨a, b⟩, ⟨IntKind.i64.wrap (c + 1), d⟩⟩, (by rw [(yb Ffk6.out)]; exact gc_1 HA.out HB.out Ffk1.out Ffk2.out Ffk7.out (wu3 Ffk10.out Ffk11.out) (ws1 HA.out.2.1 HA.out.2.2 ((may_iff ⟨⟨a, b⟩, ⟨c, d⟩⟩).1 Ffk1.out).2 Ffk12.out (nb Ffk9.out))), f24.d, f24.z, f24.b, ⟨s6_56, s4_57, trivial⟩, ⟨b_g3_58, f24.rows.1, trivial⟩⟩
        have Ffk11 := Lib.hid fk11; clear fk11
        have b_g1_59 := f17.k b_g1_27
        have s4_60 := f17.q 4 s4_28
        have s8_61 := f17.q 8 s8_29
        refine go_reg [bx g1 60 (cR a b c d)] [] [some (pt g1 1), some (.int .u64 b), some (.int .u64 (Rg.oneV ⟨⟨p, q⟩, ⟨r, t⟩⟩)), some (.bool true)] mo f17.d f17.z f17.b (by kernel_rfl) ⟨b_g1_59, trivial⟩ (
         hk (fun cx => cx.v (ex_fa rfl (cx.rq 4 s4_60) (faRV60_1_0 _ _)) rfl rfl) <|
         hk (fun cx => cx.v (ex_ld rfl (cx.u 0 rfl) (cx.rn 0 rfl) rfl Try.isAgg30) rfl rfl) <|
         hk (fun cx => cx.v (ex_mv rfl (cx.rq 8 s8_61)) rfl rfl) <|
         hk (fun cx => cx.v (ex_eq (x := .tmp 78) (y := .tmp 79) rfl (cx.u 0 rfl) (cx.u 1 rfl)) rfl (congrArg Value.bool Ffk11.out)) <|
         hn) ?_
        intro a25 w25 f25
        refine wp_cond_true (f25.v 3 rfl rfl rfl) ?_
        have b_g1_62 := f25.k b_g1_59
        have s4_63 := f25.q 4 s4_60
        refine go_reg [⟨g1, 60, (cR a b c d), some 4, (cR a (IntKind.u64.wrap (b - 1)) c d)⟩] [] [some (pt g1 1), some (.int .u64 b), some (.int .u64 (IntKind.u64.wrap (b - 1))), some (pt g1 1), none] mo f25.d f25.z f25.b (by kernel_rfl) ⟨b_g1_62, trivial⟩ (
         hk (fun cx => cx.v (ex_fa rfl (cx.rq 4 s4_63) (faRV60_1_0 _ _)) rfl rfl) <|
         hk (fun cx => cx.v (ex_ld rfl (cx.u 0 rfl) (cx.rf 0 rfl (by kernel_rfl)) rfl Try.isAgg30) rfl rfl) <|
         hk (fun cx => cx.v (ex_sub (x := .tmp 82) rfl (cx.u 0 rfl) rfl) rfl rfl) <|
         hk (fun cx => cx.v (ex_fa rfl (cx.rq 4 s4_63) (faRV60_1_0 _ _)) rfl rfl) <|
         hk (fun cx => cx.stC (wn rfl) rfl rfl 0 rfl (cx.u 0 rfl) (cx.u 1 rfl) rfl rfl (by kernel_rfl) rfl rfl q_g1 rfl trivial trivial) <|
         hn) ?_
        intro a26 w26 f26
        refine wp_seq ?_
        cases fk14 : c == (sg (Rg.oneV ⟨⟨p, q⟩, ⟨r, t⟩⟩))
        case false =>
         have Ffk14 := Lib.hid fk14; clear fk14
         have s4_64 := f26.q 4 s4_63
         have s8_65 := f26.q 8 (f25.q 8 s8_61)
         refine go_reg [bx g1 60 (cR a (IntKind.u64.wrap (b - 1)) c d)] [] [some (pt g1 2), some (.int .i64 c), some (.int .u64 (Rg.oneV ⟨⟨p, q⟩, ⟨r, t⟩⟩)), some (.int .i64 (sg (Rg.oneV ⟨⟨p, q⟩, ⟨r, t⟩⟩))), some (.bool false)] mo f26.d f26.z f26.b (by kernel_rfl) ⟨f26.rows.1, trivial⟩ (
          hk (fun cx => cx.v (ex_fa rfl (cx.rq 4 s4_64) (faRV60_2_0 _ _)) rfl rfl) <|
          hk (fun cx => cx.v (ex_ld rfl (cx.u 0 rfl) (cx.rn 0 rfl) rfl Try.isAgg2) rfl rfl) <|
          hk (fun cx => cx.v (ex_mv rfl (cx.rq 8 s8_65)) rfl rfl) <|
          hk (fun cx => cx.v (ex_conv (x := .tmp 87) rfl (cx.u 0 rfl) Try.underlying30 Try.underlying2) rfl (congrArg (Value.int .i64) (wrap_sg _))) <|
          hk (fun cx => cx.v (ex_eq (x := .tmp 86) (y := .tmp 88) rfl (cx.u 0 rfl) (cx.u 1 rfl)) rfl (congrArg Value.bool Ffk14.out)) <|
          hn) ?_
         intro a27 w27 f27
         refine wp_cond_false (f27.v 4 rfl rfl rfl) ?_
         refine wp_seq ?_
         cases fk15 : d == (sg (Rg.oneV ⟨⟨p, q⟩, ⟨r, t⟩⟩))
         case false =>
          have Ffk15 := Lib.hid fk15; clear fk15
          have b_g1_66 := f27.k f26.rows.1
          have s4_67 := f27.q 4 s4_64
          have s8_68 := f27.q 8 s8_65
          refine go_reg [bx g1 60 (cR a (IntKind.u64.wrap (b - 1)) c d)] [] [some (pt g1 3), some (.int .i64 d), some (.int .u64 (Rg.oneV ⟨⟨p, q⟩, ⟨r, t⟩⟩)), some (.int .i64 (sg (Rg.oneV ⟨⟨p, q⟩, ⟨r, t⟩⟩))), some (.bool false)] mo f27.d f27.z f27.b (by kernel_rfl) ⟨b_g1_66, trivial⟩ (
           hk (fun cx => cx.v (ex_fa rfl (cx.rq 4 s4_67) (faRV60_3_0 _ _)) rfl rfl) <|
           hk (fun cx => cx.v (ex_ld rfl (cx.u 0 rfl) (cx.rn 0 rfl) rfl Try.isAgg2) rfl rfl) <|
           hk (fun cx => cx.v (ex_mv rfl (cx.rq 8 s8_68)) rfl rfl) <|
           hk (fun cx => cx.v (ex_conv (x := .tmp 96) rfl (cx.u 0 rfl) Try.underlying30 Try.underlying2) rfl (congrArg (Value.int .i64) (wrap_sg _))) <|
           hk (fun cx => cx.v (ex_eq (x := .tmp 95) (y := .tmp 97) rfl (cx.u 0 rfl) (cx.u 1 rfl)) rfl (congrArg Value.bool Ffk15.out)) <|
           hn) ?_
          intro a28 w28 f28
          refine wp_cond_false (f28.v 4 rfl rfl rfl) ?_
          refine wp_skip ?_
          have s6_69 := f28.q 6 (f27.q 6 (f26.q 6 (f25.q 6 (f17.q 6 (f16.q 6 (f15.q 6 (f14.q 6 (f11.q 6 (f10.q 6 (f7.q 6 (f6.q 6 u_g3)))))))))))
          have s4_70 := f28.q 4 s4_67
          have b_g3_71 := f28.k (f27.k (f26.kp (f25.k (f17.k (f16.k (f15.k (f14.k (f11.k (f10.k (f7.k (f6.k b_g3))))))))) ⟨.inr (ne_ptr (pairAt f1.ps 0 2 (by decide) rfl rfl) u_g1 u_g3).symm, trivial⟩))
          have b_g1_72 := f28.k b_g1_66
          exact ⟨⟨⟨a, IntKind.u64.wrap (b - 1)⟩, ⟨c, d⟩⟩, (by rw [(yb Ffk6.out)]; exact gc_1 HA.out HB.out Ffk1.out Ffk2.out Ffk7.out (wu2 HA.out.1.1.1 HA.out.1.2.2 ((may_iff ⟨⟨a, b⟩, ⟨c, d⟩⟩).1 Ffk1.out).1 Ffk10.out Ffk11.out) (wu3 Ffk14.out Ffk15.out)), f28.d, f28.z, f28.b, ⟨s6_69, s4_70, trivial⟩, ⟨b_g3_71, b_g1_72, trivial⟩⟩
         have Ffk15 := Lib.hid fk15; clear fk15
         have b_g1_73 := f27.k f26.rows.1
         have s4_74 := f27.q 4 s4_64
         have s8_75 := f27.q 8 s8_65
         refine go_reg [bx g1 60 (cR a (IntKind.u64.wrap (b - 1)) c d)] [] [some (pt g1 3), some (.int .i64 d), some (.int .u64 (Rg.oneV ⟨⟨p, q⟩, ⟨r, t⟩⟩)), some (.int .i64 (sg (Rg.oneV ⟨⟨p, q⟩, ⟨r, t⟩⟩))), some (.bool true)] mo f27.d f27.z f27.b (by kernel_rfl) ⟨b_g1_73, trivial⟩ (
          hk (fun cx => cx.v (ex_fa rfl (cx.rq 4 s4_74) (faRV60_3_0 _ _)) rfl rfl) <|
          hk (fun cx => cx.v (ex_ld rfl (cx.u 0 rfl) (cx.rn 0 rfl) rfl Try.isAgg2) rfl rfl) <|
          hk (fun cx => cx.v (ex_mv rfl (cx.rq 8 s8_75)) rfl rfl) <|
          hk (fun cx => cx.v (ex_conv (x := .tmp 96) rfl (cx.u 0 rfl) Try.underlying30 Try.underlying2) rfl (congrArg (Value.int .i64) (wrap_sg _))) <|
          hk (fun cx => cx.v (ex_eq (x := .tmp 95) (y := .tmp 97) rfl (cx.u 0 rfl) (cx.u 1 rfl)) rfl (congrArg Value.bool Ffk15.out)) <|
          hn) ?_
         intro a29 w29 f29
         refine wp_cond_true (f29.v 4 rfl rfl rfl) ?_
         have b_g1_76 := f29.k b_g1_73
         have s4_77 := f29.q 4 s4_74
         refine go_reg [⟨g1, 60, (cR a (IntKind.u64.wrap (b - 1)) c d), some 4, (cR a (IntKind.u64.wrap (b - 1)) c (IntKind.i64.wrap (d - 1)))⟩] [] [some (pt g1 3), some (.int .i64 d), some (.int .i64 (IntKind.i64.wrap (d - 1))), some (pt g1 3), none] mo f29.d f29.z f29.b (by kernel_rfl) ⟨b_g1_76, trivial⟩ (
          hk (fun cx => cx.v (ex_fa rfl (cx.rq 4 s4_77) (faRV60_3_0 _ _)) rfl rfl) <|
          hk (fun cx => cx.v (ex_ld rfl (cx.u 0 rfl) (cx.rf 0 rfl (by kernel_rfl)) rfl Try.isAgg2) rfl rfl) <|
          hk (fun cx => cx.v (ex_sub (x := .tmp 100) rfl (cx.u 0 rfl) rfl) rfl rfl) <|
          hk (fun cx => cx.v (ex_fa rfl (cx.rq 4 s4_77) (faRV60_3_0 _ _)) rfl rfl) <|
          hk (fun cx => cx.stC (wn rfl) rfl rfl 0 rfl (cx.u 0 rfl) (cx.u 1 rfl) rfl rfl (by kernel_rfl) rfl rfl q_g1 rfl trivial trivial) <|
          hn) ?_
         intro a30 w30 f30
         have s6_78 := f30.q 6 (f29.q 6 (f27.q 6 (f26.q 6 (f25.q 6 (f17.q 6 (f16.q 6 (f15.q 6 (f14.q 6 (f11.q 6 (f10.q 6 (f7.q 6 (f6.q 6 u_g3))))))))))))
         have s4_79 := f30.q 4 s4_77
         have b_g3_80 := f30.kp (f29.k (f27.k (f26.kp (f25.k (f17.k (f16.k (f15.k (f14.k (f11.k (f10.k (f7.k (f6.k b_g3))))))))) ⟨.inr (ne_ptr (pairAt f1.ps 0 2 (by decide) rfl rfl) u_g1 u_g3).symm, trivial⟩))) ⟨.inr (ne_ptr (pairAt f1.ps 0 2 (by decide) rfl rfl) u_g1 u_g3).symm, trivial⟩
         exact ⟨⟨⟨a, IntKind.u64.wrap (b - 1)⟩, ⟨c, IntKind.i64.wrap (d - 1)⟩⟩, (by rw [(yb Ffk6.out)]; exact gc_1 HA.out HB.out Ffk1.out Ffk2.out Ffk7.out (wu2 HA.out.1.1.1 HA.out.1.2.2 ((may_iff ⟨⟨a, b⟩, ⟨c, d⟩⟩).1 Ffk1.out).1 Ffk10.out Ffk11.out) (ws2 HA.out.2.1 HA.out.2.2 ((may_iff ⟨⟨a, b⟩, ⟨c, d⟩⟩).1 Ffk1.out).2 Ffk14.out Ffk15.out)), f30.d, f30.z, f30.b, ⟨s6_78, s4_79, trivial⟩, ⟨b_g3_80, f30.rows.1, trivial⟩⟩
        have Ffk14 := Lib.hid fk14; clear fk14
        have s4_81 := f26.q 4 s4_63
        have s8_82 := f26.q 8 (f25.q 8 s8_61)
        refine go_reg [bx g1 60 (cR a (IntKind.u64.wrap (b - 1)) c d)] [] [some (pt g1 2), some (.int .i64 c), some (.int .u64 (Rg.oneV ⟨⟨p, q⟩, ⟨r, t⟩⟩)), some (.int .i64 (sg (Rg.oneV ⟨⟨p, q⟩, ⟨r, t⟩⟩))), some (.bool true)] mo f26.d f26.z f26.b (by kernel_rfl) ⟨f26.rows.1, trivial⟩ (
         hk (fun cx => cx.v (ex_fa rfl (cx.rq 4 s4_81) (faRV60_2_0 _ _)) rfl rfl) <|
         hk (fun cx => cx.v (ex_ld rfl (cx.u 0 rfl) (cx.rn 0 rfl) rfl Try.isAgg2) rfl rfl) <|
         hk (fun cx => cx.v (ex_mv rfl (cx.rq 8 s8_82)) rfl rfl) <|
         hk (fun cx => cx.v (ex_conv (x := .tmp 87) rfl (cx.u 0 rfl) Try.underlying30 Try.underlying2) rfl (congrArg (Value.int .i64) (wrap_sg _))) <|
         hk (fun cx => cx.v (ex_eq (x := .tmp 86) (y := .tmp 88) rfl (cx.u 0 rfl) (cx.u 1 rfl)) rfl (congrArg Value.bool Ffk14.out)) <|
         hn) ?_
        intro a31 w31 f31
        refine wp_cond_true (f31.v 4 rfl rfl rfl) ?_
        have b_g1_83 := f31.k f26.rows.1
        have s4_84 := f31.q 4 s4_81
        refine go_reg [⟨g1, 60, (cR a (IntKind.u64.wrap (b - 1)) c d), some 4, (cR a (IntKind.u64.wrap (b - 1)) (IntKind.i64.wrap (c + 1)) d)⟩] [] [some (pt g1 2), some (.int .i64 c), some (.int .i64 (IntKind.i64.wrap (c + 1))), some (pt g1 2), none] mo f31.d f31.z f31.b (by kernel_rfl) ⟨b_g1_83, trivial⟩ (
         hk (fun cx => cx.v (ex_fa rfl (cx.rq 4 s4_84) (faRV60_2_0 _ _)) rfl rfl) <|
         hk (fun cx => cx.v (ex_ld rfl (cx.u 0 rfl) (cx.rf 0 rfl (by kernel_rfl)) rfl Try.isAgg2) rfl rfl) <|
         hk (fun cx => cx.v (ex_add (x := .tmp 91) rfl (cx.u 0 rfl) rfl) rfl rfl) <|
         hk (fun cx => cx.v (ex_fa rfl (cx.rq 4 s4_84) (faRV60_2_0 _ _)) rfl rfl) <|
         hk (fun cx => cx.stC (wn rfl) rfl rfl 0 rfl (cx.u 0 rfl) (cx.u 1 rfl) rfl rfl (by kernel_rfl) rfl rfl q_g1 rfl trivial trivial) <|
         hn) ?_
        intro a32 w32 f32
        have s6_85 := f32.q 6 (f31.q 6 (f26.q 6 (f25.q 6 (f17.q 6 (f16.q 6 (f15.q 6 (f14.q 6 (f11.q 6 (f10.q 6 (f7.q 6 (f6.q 6 u_g3)))))))))))
        have s4_86 := f32.q 4 s4_84
        have b_g3_87 := f32.kp (f31.k (f26.kp (f25.k (f17.k (f16.k (f15.k (f14.k (f11.k (f10.k (f7.k (f6.k b_g3))))))))) ⟨.inr (ne_ptr (pairAt f1.ps 0 2 (by decide) rfl rfl) u_g1 u_g3).symm, trivial⟩)) ⟨.inr (ne_ptr (pairAt f1.ps 0 2 (by decide) rfl rfl) u_g1 u_g3).symm, trivial⟩
        exact ⟨⟨⟨a, IntKind.u64.wrap (b - 1)⟩, ⟨IntKind.i64.wrap (c + 1), d⟩⟩, (by rw [(yb Ffk6.out)]; exact gc_1 HA.out HB.out Ffk1.out Ffk2.out Ffk7.out (wu2 HA.out.1.1.1 HA.out.1.2.2 ((may_iff ⟨⟨a, b⟩, ⟨c, d⟩⟩).1 Ffk1.out).1 Ffk10.out Ffk11.out) (ws1 HA.out.2.1 HA.out.2.2 ((may_iff ⟨⟨a, b⟩, ⟨c, d⟩⟩).1 Ffk1.out).2 Ffk14.out (nb Ffk9.out))), f32.d, f32.z, f32.b, ⟨s6_85, s4_86, trivial⟩, ⟨b_g3_87, f32.rows.1, trivial⟩⟩
       have Ffk10 := Lib.hid fk10; clear fk10
       have b_g1_88 := f16.k b_g1_25
       have s4_89 := f16.q 4 s4_26
       have s8_90 := f16.q 8 (f15.q 8 (f14.v 5 rfl rfl rfl))
       refine go_reg [bx g1 60 (cR a b c d)] [] [some (pt g1 0), some (.int .u64 a), some (.int .u64 (Rg.oneV ⟨⟨p, q⟩, ⟨r, t⟩⟩)), some (.bool true)] mo f16.d f16.z f16.b (by kernel_rfl) ⟨b_g1_88, trivial⟩ (
        hk (fun cx => cx.v (ex_fa rfl (cx.rq 4 s4_89) (faRV60_0_0 _ _)) rfl rfl) <|
        hk (fun cx => cx.v (ex_ld rfl (cx.u 0 rfl) (cx.rn 0 rfl) rfl Try.isAgg30) rfl rfl) <|
        hk (fun cx => cx.v (ex_mv rfl (cx.rq 8 s8_90)) rfl rfl) <|
        hk (fun cx => cx.v (ex_eq (x := .tmp 70) (y := .tmp 71) rfl (cx.u 0 rfl) (cx.u 1 rfl)) rfl (congrArg Value.bool Ffk10.out)) <|
        hn) ?_
       intro a33 w33 f33
       refine wp_cond_true (f33.v 3 rfl rfl rfl) ?_
       have b_g1_91 := f33.k b_g1_88
       have s4_92 := f33.q 4 s4_89
       refine go_reg [⟨g1, 60, (cR a b c d), some 4, (cR (IntKind.u64.wrap (a + 1)) b c d)⟩] [] [some (pt g1 0), some (.int .u64 a), some (.int .u64 (IntKind.u64.wrap (a + 1))), some (pt g1 0), none] mo f33.d f33.z f33.b (by kernel_rfl) ⟨b_g1_91, trivial⟩ (
        hk (fun cx => cx.v (ex_fa rfl (cx.rq 4 s4_92) (faRV60_0_0 _ _)) rfl rfl) <|
        hk (fun cx => cx.v (ex_ld rfl (cx.u 0 rfl) (cx.rf 0 rfl (by kernel_rfl)) rfl Try.isAgg30) rfl rfl) <|
        hk (fun cx => cx.v (ex_add (x := .tmp 74) rfl (cx.u 0 rfl) rfl) rfl rfl) <|
        hk (fun cx => cx.v (ex_fa rfl (cx.rq 4 s4_92) (faRV60_0_0 _ _)) rfl rfl) <|
        hk (fun cx => cx.stC (wn rfl) rfl rfl 0 rfl (cx.u 0 rfl) (cx.u 1 rfl) rfl rfl (by kernel_rfl) rfl rfl q_g1 rfl trivial trivial) <|
        hn) ?_
       intro a34 w34 f34
       refine wp_seq ?_
       cases fk16 : c == (sg (Rg.oneV ⟨⟨p, q⟩, ⟨r, t⟩⟩))
       case false =>
        have Ffk16 := Lib.hid fk16; clear fk16
        have s4_93 := f34.q 4 s4_92
        have s8_94 := f34.q 8 (f33.q 8 s8_90)
        refine go_reg [bx g1 60 (cR (IntKind.u64.wrap (a + 1)) b c d)] [] [some (pt g1 2), some (.int .i64 c), some (.int .u64 (Rg.oneV ⟨⟨p, q⟩, ⟨r, t⟩⟩)), some (.int .i64 (sg (Rg.oneV ⟨⟨p, q⟩, ⟨r, t⟩⟩))), some (.bool false)] mo f34.d f34.z f34.b (by kernel_rfl) ⟨f34.rows.1, trivial⟩ (
         hk (fun cx => cx.v (ex_fa rfl (cx.rq 4 s4_93) (faRV60_2_0 _ _)) rfl rfl) <|
         hk (fun cx => cx.v (ex_ld rfl (cx.u 0 rfl) (cx.rn 0 rfl) rfl Try.isAgg2) rfl rfl) <|
         hk (fun cx => cx.v (ex_mv rfl (cx.rq 8 s8_94)) rfl rfl) <|
         hk (fun cx => cx.v (ex_conv (x := .tmp 87) rfl (cx.u 0 rfl) Try.underlying30 Try.underlying2) rfl (congrArg (Value.int .i64) (wrap_sg _))) <|
         hk (fun cx => cx.v (ex_eq (x := .tmp 86) (y := .tmp 88) rfl (cx.u 0 rfl) (cx.u 1 rfl)) rfl (congrArg Value.bool Ffk16.out)) <|
         hn) ?_
        intro a35 w35 f35
        refine wp_cond_false (f35.v 4 rfl rfl rfl) ?_
        refine wp_seq ?_
        cases fk17 : d == (sg (Rg.oneV ⟨⟨p, q⟩, ⟨r, t⟩⟩))
        case false =>
         have Ffk17 := Lib.hid fk17; clear fk17
         have b_g1_95 := f35.k f34.rows.1
         have s4_96 := f35.q 4 s4_93
         have s8_97 := f35.q 8 s8_94
         refine go_reg [bx g1 60 (cR (IntKind.u64.wrap (a + 1)) b c d)] [] [some (pt g1 3), some (.int .i64 d), some (.int .u64 (Rg.oneV ⟨⟨p, q⟩, ⟨r, t⟩⟩)), some (.int .i64 (sg (Rg.oneV ⟨⟨p, q⟩, ⟨r, t⟩⟩))), some (.bool false)] mo f35.d f35.z f35.b (by kernel_rfl) ⟨b_g1_95, trivial⟩ (
          hk (fun cx => cx.v (ex_fa rfl (cx.rq 4 s4_96) (faRV60_3_0 _ _)) rfl rfl) <|
          hk (fun cx => cx.v (ex_ld rfl (cx.u 0 rfl) (cx.rn 0 rfl) rfl Try.isAgg2) rfl rfl) <|
          hk (fun cx => cx.v (ex_mv rfl (cx.rq 8 s8_97)) rfl rfl) <|
          hk (fun cx => cx.v (ex_conv (x := .tmp 96) rfl (cx.u 0 rfl) Try.underlying30 Try.underlying2) rfl (congrArg (Value.int .i64) (wrap_sg _))) <|
          hk (fun cx => cx.v (ex_eq (x := .tmp 95) (y := .tmp 97) rfl (cx.u 0 rfl) (cx.u 1 rfl)) rfl (congrArg Value.bool Ffk17.out)) <|
          hn) ?_
         intro a36 w36 f36
         refine wp_cond_false (f36.v 4 rfl rfl rfl) ?_
         refine wp_skip ?_
         have s6_98 := f36.q 6 (f35.q 6 (f34.q 6 (f33.q 6 (f16.q 6 (f15.q 6 (f14.q 6 (f11.q 6 (f10.q 6 (f7.q 6 (f6.q 6 u_g3))))))))))
         have s4_99 := f36.q 4 s4_96
         have b_g3_100 := f36.k (f35.k (f34.kp (f33.k (f16.k (f15.k (f14.k (f11.k (f10.k (f7.k (f6.k b_g3)))))))) ⟨.inr (ne_ptr (pairAt f1.ps 0 2 (by decide) rfl rfl) u_g1 u_g3).symm, trivial⟩))
         have b_g1_101 := f36.k b_g1_95
         exact ⟨⟨⟨IntKind.u64.wrap (a + 1), b⟩, ⟨c, d⟩⟩, (by rw [(yb Ffk6.out)]; exact gc_1 HA.out HB.out Ffk1.out Ffk2.out Ffk7.out (wu1 HA.out.1.1 HA.out.1.2.2 ((may_iff ⟨⟨a, b⟩, ⟨c, d⟩⟩).1 Ffk1.out).1 Ffk10.out (nb Ffk8.out)) (wu3 Ffk16.out Ffk17.out)), f36.d, f36.z, f36.b, ⟨s6_98, s4_99, trivial⟩, ⟨b_g3_100, b_g1_101, trivial⟩⟩
        have Ffk17 := Lib.hid fk17; clear fk17
        have b_g1_102 := f35.k f34.rows.1
        have s4_103 := f35.q 4 s4_93
        have s8_104 := f35.q 8 s8_94
        refine go_reg [bx g1 60 (cR (IntKind.u64.wrap (a + 1)) b c d)] [] [some (pt g1 3), some (.int .i64 d), some (.int .u64 (Rg.oneV ⟨⟨p, q⟩, ⟨r, t⟩⟩)), some (.int .i64 (sg (Rg.oneV ⟨⟨p, q⟩, ⟨r, t⟩⟩))), some (.bool true)] mo f35.d f35.z f35.b (by kernel_rfl) ⟨b_g1_102, trivial⟩ (
         hk (fun cx => cx.v (ex_fa rfl (cx.rq 4 s4_103) (faRV60_3_0 _ _)) rfl rfl) <|
         hk (fun cx => cx.v (ex_ld rfl (cx.u 0 rfl) (cx.rn 0 rfl) rfl Try.isAgg2) rfl rfl) <|
         hk (fun cx => cx.v (ex_mv rfl (cx.rq 8 s8_104)) rfl rfl) <|
         hk (fun cx => cx.v (ex_conv (x := .tmp 96) rfl (cx.u 0 rfl) Try.underlying30 Try.underlying2) rfl (congrArg (Value.int .i64) (wrap_sg _))) <|
         hk (fun cx => cx.v (ex_eq (x := .tmp 95) (y := .tmp 97) rfl (cx.u 0 rfl) (cx.u 1 rfl)) rfl (congrArg Value.bool Ffk17.out)) <|
         hn) ?_
        intro a37 w37 f37
        refine wp_cond_true (f37.v 4 rfl rfl rfl) ?_
        have b_g1_105 := f37.k b_g1_102
        have s4_106 := f37.q 4 s4_103
        refine go_reg [⟨g1, 60, (cR (IntKind.u64.wrap (a + 1)) b c d), some 4, (cR (IntKind.u64.wrap (a + 1)) b c (IntKind.i64.wrap (d - 1)))⟩] [] [some (pt g1 3), some (.int .i64 d), some (.int .i64 (IntKind.i64.wrap (d - 1))), some (pt g1 3), none] mo f37.d f37.z f37.b (by kernel_rfl) ⟨b_g1_105, trivial⟩ (
         hk (fun cx => cx.v (ex_fa rfl (cx.rq 4 s4_106) (faRV60_3_0 _ _)) rfl rfl) <|
         hk (fun cx => cx.v (ex_ld rfl (cx.u 0 rfl) (cx.rf 0 rfl (by kernel_rfl)) rfl Try.isAgg2) rfl rfl) <|
         hk (fun cx => cx.v (ex_sub (x := .tmp 100) rfl (cx.u 0 rfl) rfl) rfl rfl) <|
         hk (fun cx => cx.v (ex_fa rfl (cx.rq 4 s4_106) (faRV60_3_0 _ _)) rfl rfl) <|
         hk (fun cx => cx.stC (wn rfl) rfl rfl 0 rfl (cx.u 0 rfl) (cx.u 1 rfl) rfl rfl (by kernel_rfl) rfl rfl q_g1 rfl trivial trivial) <|
         hn) ?_
        intro a38 w38 f38
        have s6_107 := f38.q 6 (f37.q 6 (f35.q 6 (f34.q 6 (f33.q 6 (f16.q 6 (f15.q 6 (f14.q 6 (f11.q 6 (f10.q 6 (f7.q 6 (f6.q 6 u_g3)))))))))))
        have s4_108 := f38.q 4 s4_106
        have b_g3_109 := f38.kp (f37.k (f35.k (f34.kp (f33.k (f16.k (f15.k (f14.k (f11.k (f10.k (f7.k (f6.k b_g3)))))))) ⟨.inr (ne_ptr (pairAt f1.ps 0 2 (by decide) rfl rfl) u_g1 u_g3).symm, trivial⟩))) ⟨.inr (ne_ptr (pairAt f1.ps 0 2 (by decide) rfl rfl) u_g1 u_g3).symm, trivial⟩
        exact ⟨⟨⟨IntKind.u64.wrap (a + 1), b⟩, ⟨c, IntKind.i64.wrap (d - 1)⟩⟩, (by rw [(yb Ffk6.out)]; exact gc_1 HA.out HB.out Ffk1.out Ffk2.out Ffk7.out (wu1 HA.out.1.1 HA.out.1.2.2 ((may_iff ⟨⟨a, b⟩, ⟨c, d⟩⟩).1 Ffk1.out).1 Ffk10.out (nb Ffk8.out)) (ws2 HA.out.2.1 HA.out.2.2 ((may_iff ⟨⟨a, b⟩, ⟨c, d⟩⟩).1 Ffk1.out).2 Ffk16.out Ffk17.out)), f38.d, f38.z, f38.b, ⟨s6_107, s4_108, trivial⟩, ⟨b_g3_109, f38.rows.1, trivial⟩⟩
       have Ffk16 := Lib.hid fk16; clear fk16
       have s4_110 := f34.q 4 s4_92
       have s8_111 := f34.q 8 (f33.q 8 s8_90)
       refine go_reg [bx g1 60 (cR (IntKind.u64.wrap (a + 1)) b c d)] [] [some (pt g1 2), some (.int .i64 c), some (.int .u64 (Rg.oneV ⟨⟨p, q⟩, ⟨r, t⟩⟩)), some (.int .i64 (sg (Rg.oneV ⟨⟨p, q⟩, ⟨r, t⟩⟩))), some (.bool true)] mo f34.d f34.z f34.b (by kernel_rfl) ⟨f34.rows.1, trivial⟩ (
        hk (fun cx => cx.v (ex_fa rfl (cx.rq 4 s4_110) (faRV60_2_0 _ _)) rfl rfl) <|
        hk (fun cx => cx.v (ex_ld rfl (cx.u 0 rfl) (cx.rn 0 rfl) rfl Try.isAgg2) rfl rfl) <|
        hk (fun cx => cx.v (ex_mv rfl (cx.rq 8 s8_111)) rfl rfl) <|
        hk (fun cx => cx.v (ex_conv (x := .tmp 87) rfl (cx.u 0 rfl) Try.underlying30 Try.underlying2) rfl (congrArg (Value.int .i64) (wrap_sg _))) <|
        hk (fun cx => cx.v (ex_eq (x := .tmp 86) (y := .tmp 88) rfl (cx.u 0 rfl) (cx.u 1 rfl)) rfl (congrArg Value.bool Ffk16.out)) <|
        hn) ?_
       intro a39 w39 f39
       refine wp_cond_true (f39.v 4 rfl rfl rfl) ?_
       have b_g1_112 := f39.k f34.rows.1
       have s4_113 := f39.q 4 s4_110
       refine go_reg [⟨g1, 60, (cR (IntKind.u64.wrap (a + 1)) b c d), some 4, (cR (IntKind.u64.wrap (a + 1)) b (IntKind.i64.wrap (c + 1)) d)⟩] [] [some (pt g1 2), some (.int .i64 c), some (.int .i64 (IntKind.i64.wrap (c + 1))), some (pt g1 2), none] mo f39.d f39.z f39.b (by kernel_rfl) ⟨b_g1_112, trivial⟩ (
        hk (fun cx => cx.v (ex_fa rfl (cx.rq 4 s4_113) (faRV60_2_0 _ _)) rfl rfl) <|
        hk (fun cx => cx.v (ex_ld rfl (cx.u 0 rfl) (cx.rf 0 rfl (by kernel_rfl)) rfl Try.isAgg2) rfl rfl) <|
        hk (fun cx => cx.v (ex_add (x := .tmp 91) rfl (cx.u 0 rfl) rfl) rfl rfl) <|
        hk (fun cx => cx.v (ex_fa rfl (cx.rq 4 s4_113) (faRV60_2_0 _ _)) rfl rfl) <|
        hk (fun cx => cx.stC (wn rfl) rfl rfl 0 rfl (cx.u 0 rfl) (cx.u 1 rfl) rfl rfl (by kernel_rfl) rfl rfl q_g1 rfl trivial trivial) <|
        hn) ?_
       intro a40 w40 f40
       have s6_114 := f40.q 6 (f39.q 6 (f34.q 6 (f33.q 6 (f16.q 6 (f15.q 6 (f14.q 6 (f11.q 6 (f10.q 6 (f7.q 6 (f6.q 6 u_g3))))))))))
       have s4_115 := f40.q 4 s4_113
       have b_g3_116 := f40.kp (f39.k (f34.kp (f33.k (f16.k (f15.k (f14.k (f11.k (f10.k (f7.k (f6.k b_g3)))))))) ⟨.inr (ne_ptr (pairAt f1.ps 0 2 (by decide) rfl rfl) u_g1 u_g3).symm, trivial⟩)) ⟨.inr (ne_ptr (pairAt f1.ps 0 2 (by decide) rfl rfl) u_g1 u_g3).symm, trivial⟩
       exact ⟨⟨⟨IntKind.u64.wrap (a + 1), b⟩, ⟨IntKind.i64.wrap (c + 1), d⟩⟩, (by rw [(yb Ffk6.out)]; exact gc_1 HA.out HB.out Ffk1.out Ffk2.out Ffk7.out (wu1 HA.out.1.1 HA.out.1.2.2 ((may_iff ⟨⟨a, b⟩, ⟨c, d⟩⟩).1 Ffk1.out).1 Ffk10.out (nb Ffk8.out)) (ws1 HA.out.2.1 HA.out.2.2 ((may_iff ⟨⟨a, b⟩, ⟨c, d⟩⟩).1 Ffk1.out).2 Ffk16.out (nb Ffk9.out))), f40.d, f40.z, f40.b, ⟨s6_114, s4_115, trivial⟩, ⟨b_g3_116, f40.rows.1, trivial⟩⟩
      have Ffk9 := Lib.hid fk9; clear fk9
      cases fk18 : c == (sg (Rg.oneV ⟨⟨p, q⟩, ⟨r, t⟩⟩))
      case false =>
       have Ffk18 := Lib.hid fk18; clear fk18
       have b_g1_117 := f15.k (f14.k (f11.k (f10.k (f7.k (f6.k b_g1)))))
       have s4_118 := f15.q 4 (f14.q 4 (f11.q 4 (f10.q 4 (f7.q 4 (f6.q 4 u_g1)))))
       have s8_119 := f15.q 8 (f14.v 5 rfl rfl rfl)
       refine go_reg [bx g1 60 (cR a b c d)] [] (tabs [some (pt g1 0), some (.int .u64 a), some (pt g1 1), some (.int .u64 b), some (.bool false), some (.bool false), some (undef), some (undef), some (undef), some (undef), some (.bool false), some (.bool false), some (pt g1 2), some (.int .i64 c), some (pt g1 3), some (.int .i64 d), some (.bool true), some (.bool true), some (pt g1 2), some (.int .i64 c)] [some (.int .u64 (Rg.oneV ⟨⟨p, q⟩, ⟨r, t⟩⟩)), some (.int .i64 (sg (Rg.oneV ⟨⟨p, q⟩, ⟨r, t⟩⟩))), some (.bool false), some (.bool false), some (.bool false)]) mo f15.d f15.z f15.b (by kernel_rfl) ⟨b_g1_117, trivial⟩ (
        hk (fun cx => cx.v (ex_fa rfl (cx.rq 4 s4_118) (faRV60_0_0 _ _)) rfl rfl) <|
        hk (fun cx => cx.v (ex_ld rfl (cx.u 0 rfl) (cx.rn 0 rfl) rfl Try.isAgg30) rfl rfl) <|
        hk (fun cx => cx.v (ex_fa rfl (cx.rq 4 s4_118) (faRV60_1_0 _ _)) rfl rfl) <|
        hk (fun cx => cx.v (ex_ld rfl (cx.u 0 rfl) (cx.rn 0 rfl) rfl Try.isAgg30) rfl rfl) <|
        hk (fun cx => cx.v (ex_eq (x := .tmp 44) (y := .tmp 46) rfl (cx.u 0 rfl) (cx.u 1 rfl)) rfl (congrArg Value.bool Ffk8.out)) <|
        hk (fun cx => cx.v (ex_mv rfl (cx.u 0 rfl)) rfl rfl) <|
        hk (fun cx => cx.no (cx.wo rfl rfl rfl rfl (cx.u 0 rfl) rfl) rfl rfl rfl rfl) <|
        hk (fun cx => cx.no (cx.wo rfl rfl rfl rfl (cx.u 1 rfl) rfl) rfl rfl rfl rfl) <|
        hk (fun cx => cx.no (cx.wo rfl rfl rfl rfl (cx.u 0 rfl) rfl) rfl rfl rfl rfl) <|
        hk (fun cx => cx.no (cx.wo rfl rfl rfl rfl (cx.u 2 rfl) rfl) rfl rfl rfl rfl) <|
        hk (fun cx => cx.v (ex_pf rfl (cx.u 0 rfl) rfl) rfl rfl) <|
        hk (fun cx => cx.v (ex_mv rfl (cx.u 0 rfl)) rfl rfl) <|
        hk (fun cx => cx.val (cx.wy rfl rfl rfl rfl (cx.u 0 rfl)) (ex_fa rfl (cx.rq 4 s4_118) (faRV60_2_0 _ _)) rfl rfl rfl rfl) <|
        hk (fun cx => cx.val (cx.wy rfl rfl rfl rfl (cx.u 1 rfl)) (ex_ld rfl (cx.u 0 rfl) (cx.rn 0 rfl) rfl Try.isAgg2) rfl rfl rfl rfl) <|
        hk (fun cx => cx.val (cx.wy rfl rfl rfl rfl (cx.u 0 rfl)) (ex_fa rfl (cx.rq 4 s4_118) (faRV60_3_0 _ _)) rfl rfl rfl rfl) <|
        hk (fun cx => cx.val (cx.wy rfl rfl rfl rfl (cx.u 1 rfl)) (ex_ld rfl (cx.u 0 rfl) (cx.rn 0 rfl) rfl Try.isAgg2) rfl rfl rfl rfl) <|
        hk (fun cx => cx.val (cx.wy rfl rfl rfl rfl (cx.u 2 rfl)) (ex_eq (x := .tmp 56) (y := .tmp 58) rfl (cx.u 0 rfl) (cx.u 1 rfl)) rfl rfl (congrArg Value.bool Ffk9.out) rfl) <|
        hk (fun cx => cx.val (cx.wy rfl rfl rfl rfl (cx.u 1 rfl)) (ex_mv rfl (cx.u 0 rfl)) rfl rfl rfl rfl) <|
        hk (fun cx => cx.val (cx.wy rfl rfl rfl rfl (cx.u 0 rfl)) (ex_fa rfl (cx.rq 4 s4_118) (faRV60_2_0 _ _)) rfl rfl rfl rfl) <|
        hk (fun cx => cx.val (cx.wy rfl rfl rfl rfl (cx.u 1 rfl)) (ex_ld rfl (cx.u 0 rfl) (cx.rn 0 rfl) rfl Try.isAgg2) rfl rfl rfl rfl) <|
        hk (fun cx => cx.val (cx.wy rfl rfl rfl rfl (cx.u 0 rfl)) (ex_mv rfl (cx.rq 8 s8_119)) rfl rfl rfl rfl) <|
        hk (fun cx => cx.val (cx.wy rfl rfl rfl rfl (cx.u 1 rfl)) (ex_conv (x := .tmp 63) rfl (cx.u 0 rfl) Try.underlying30 Try.underlying2) rfl rfl (congrArg (Value.int .i64) (wrap_sg _)) rfl) <|
        hk (fun cx => cx.val (cx.wy rfl rfl rfl rfl (cx.u 2 rfl)) (ex_eq (x := .tmp 62) (y := .tmp 64) rfl (cx.u 0 rfl) (cx.u 1 rfl)) rfl rfl (congrArg Value.bool Ffk18.out) rfl) <|
        hk (fun cx => cx.val (cx.wy rfl rfl rfl rfl (cx.u 2 rfl)) (ex_pt rfl (cx.u 0 rfl) (cx.u 1 rfl)) rfl rfl rfl rfl) <|
        hk (fun cx => cx.v (ex_pf rfl (cx.u 0 rfl) (cx.u 1 rfl)) rfl rfl) <|
        hn) ?_
       intro a41 w41 f41
       refine wp_cond_false (f41.v 24 rfl rfl rfl) ?_
       refine wp_skip ?_
       refine wp_seq ?_
       refine wp_seq ?_
       cases fk19 : a == (Rg.oneV ⟨⟨p, q⟩, ⟨r, t⟩⟩)
       case false =>
        have Ffk19 := Lib.hid fk19; clear fk19
        have b_g1_120 := f41.k b_g1_117
        have s4_121 := f41.q 4 s4_118
        have s8_122 := f41.q 8 s8_119
        refine go_reg [bx g1 60 (cR a b c d)] [] [some (pt g1 0), some (.int .u64 a), some (.int .u64 (Rg.oneV ⟨⟨p, q⟩, ⟨r, t⟩⟩)), some (.bool false)] mo f41.d f41.z f41.b (by kernel_rfl) ⟨b_g1_120, trivial⟩ (
         hk (fun cx => cx.v (ex_fa rfl (cx.rq 4 s4_121) (faRV60_0_0 _ _)) rfl rfl) <|
         hk (fun cx => cx.v (ex_ld rfl (cx.u 0 rfl) (cx.rn 0 rfl) rfl Try.isAgg30) rfl rfl) <|
         hk (fun cx => cx.v (ex_mv rfl (cx.rq 8 s8_122)) rfl rfl) <|
         hk (fun cx => cx.v (ex_eq (x := .tmp 70) (y := .tmp 71) rfl (cx.u 0 rfl) (cx.u 1 rfl)) rfl (congrArg Value.bool Ffk19.out)) <|
         hn) ?_
        intro a42 w42 f42
        refine wp_cond_false (f42.v 3 rfl rfl rfl) ?_
        refine wp_seq ?_
        cases fk20 : b == (Rg.oneV ⟨⟨p, q⟩, ⟨r, t⟩⟩)
        case false =>
         have Ffk20 := Lib.hid fk20; clear fk20
         have b_g1_123 := f42.k b_g1_120
         have s4_124 := f42.q 4 s4_121
         have s8_125 := f42.q 8 s8_122
         refine go_reg [bx g1 60 (cR a b c d)] [] [some (pt g1 1), some (.int .u64 b), some (.int .u64 (Rg.oneV ⟨⟨p, q⟩, ⟨r, t⟩⟩)), some (.bool false)] mo f42.d f42.z f42.b (by kernel_rfl) ⟨b_g1_123, trivial⟩ (
          hk (fun cx => cx.v (ex_fa rfl (cx.rq 4 s4_124) (faRV60_1_0 _ _)) rfl rfl) <|
          hk (fun cx => cx.v (ex_ld rfl (cx.u 0 rfl) (cx.rn 0 rfl) rfl Try.isAgg30) rfl rfl) <|
          hk (fun cx => cx.v (ex_mv rfl (cx.rq 8 s8_125)) rfl rfl) <|
          hk (fun cx => cx.v (ex_eq (x := .tmp 78) (y := .tmp 79) rfl (cx.u 0 rfl) (cx.u 1 rfl)) rfl (congrArg Value.bool Ffk20.out)) <|
          hn) ?_
         intro a43 w43 f43
         refine wp_cond_false (f43.v 3 rfl rfl rfl) ?_
         refine wp_skip ?_
         refine wp_seq ?_
         have b_g1_126 := f43.k b_g1_123
         have s4_127 := f43.q 4 s4_124
         have s8_128 := f43.q 8 s8_125
         refine go_reg [bx g1 60 (cR a b c d)] [] [some (pt g1 2), some (.int .i64 c), some (.int .u64 (Rg.oneV ⟨⟨p, q⟩, ⟨r, t⟩⟩)), some (.int .i64 (sg (Rg.oneV ⟨⟨p, q⟩, ⟨r, t⟩⟩))), some (.bool false)] mo f43.d f43.z f43.b (by kernel_rfl) ⟨b_g1_126, trivial⟩ (
          hk (fun cx => cx.v (ex_fa rfl (cx.rq 4 s4_127) (faRV60_2_0 _ _)) rfl rfl) <|
          hk (fun cx => cx.v (ex_ld rfl (cx.u 0 rfl) (cx.rn 0 rfl) rfl Try.isAgg2) rfl rfl) <|
          hk (fun cx => cx.v (ex_mv rfl (cx.rq 8 s8_128)) rfl rfl) <|
          hk (fun cx => cx.v (ex_conv (x := .tmp 87) rfl (cx.u 0 rfl) Try.underlying30 Try.underlying2) rfl (congrArg (Value.int .i64) (wrap_sg _))) <|
          hk (fun cx => cx.v (ex_eq (x := .tmp 86) (y := .tmp 88) rfl (cx.u 0 rfl) (cx.u 1 rfl)) rfl (congrArg Value.bool Ffk18.out)) <|
          hn) ?_
         intro a44 w44 f44
         refine wp_cond_false (f44.v 4 rfl rfl rfl) ?_
         refine wp_seq ?_
         cases fk21 : d == (sg (Rg.oneV ⟨⟨p, q⟩, ⟨r, t⟩⟩))
         case false =>
          have Ffk21 := Lib.hid fk21; clear fk21
          have b_g1_129 := f44.k b_g1_126
          have s4_130 := f44.q 4 s4_127
          have s8_131 := f44.q 8 s8_128
          refine go_reg [bx g1 60 (cR a b c d)] [] [some (pt g1 3), some (.int .i64 d), some (.int .u64 (Rg.oneV ⟨⟨p, q⟩, ⟨r, t⟩⟩)), some (.int .i64 (sg (Rg.oneV ⟨⟨p, q⟩, ⟨r, t⟩⟩))), some (.bool false)] mo f44.d f44.z f44.b (by kernel_rfl) ⟨b_g1_129, trivial⟩ (
           hk (fun cx => cx.v (ex_fa rfl (cx.rq 4 s4_130) (faRV60_3_0 _ _)) rfl rfl) <|
           hk (fun cx => cx.v (ex_ld rfl (cx.u 0 rfl) (cx.rn 0 rfl) rfl Try.isAgg2) rfl rfl) <|
           hk (fun cx => cx.v (ex_mv rfl (cx.rq 8 s8_131)) rfl rfl) <|
           hk (fun cx => cx.v (ex_conv (x := .tmp 96) rfl (cx.u 0 rfl) Try.underlying30 Try.underlying2) rfl (congrArg (Value.int .i64) (wrap_sg _))) <|
           hk (fun cx => cx.v (ex_eq (x := .tmp 95) (y := .tmp 97) rfl (cx.u 0 rfl) (cx.u 1 rfl)) rfl (congrArg Value.bool Ffk21.out)) <|
           hn) ?_
          intro a45 w45 f45
          refine wp_cond_false (f45.v 4 rfl rfl rfl) ?_
          refine wp_skip ?_
          have s6_132 := f45.q 6 (f44.q 6 (f43.q 6 (f42.q 6 (f41.q 6 (f15.q 6 (f14.q 6 (f11.q 6 (f10.q 6 (f7.q 6 (f6.q 6 u_g3))))))))))
          have s4_133 := f45.q 4 s4_130
          have b_g3_134 := f45.k (f44.k (f43.k (f42.k (f41.k (f15.k (f14.k (f11.k (f10.k (f7.k (f6.k b_g3))))))))))
          have b_g1_135 := f45.k b_g1_129
          exact ⟨⟨⟨a, b⟩, ⟨c, d⟩⟩, (by rw [(yb Ffk6.out)]; exact gc_1 HA.out HB.out Ffk1.out Ffk2.out Ffk7.out (wu3 Ffk19.out Ffk20.out) (wu3 Ffk18.out Ffk21.out)), f45.d, f45.z, f45.b, ⟨s6_132, s4_133, trivial⟩, ⟨b_g3_134, b_g1_135, trivial⟩⟩
         have Ffk21 := Lib.hid fk21; clear fk21
         have b_g1_136 := f44.k b_g1_126
         have s4_137 := f44.q 4 s4_127
         have s8_138 := f44.q 8 s8_128
         refine go_reg [bx g1 60 (cR a b c d)] [] [some (pt g1 3), some (.int .i64 d), some (.int .u64 (Rg.oneV ⟨⟨p, q⟩, ⟨r, t⟩⟩)), some (.int .i64 (sg (Rg.oneV ⟨⟨p, q⟩, ⟨r, t⟩⟩))), some (.bool true)] mo f44.d f44.z f44.b (by kernel_rfl) ⟨b_g1_136, trivial⟩ (
          hk (fun cx => cx.v (ex_fa rfl (cx.rq 4 s4_137) (faRV60_3_0 _ _)) rfl rfl) <|
          hk (fun cx => cx.v (ex_ld rfl (cx.u 0 rfl) (cx.rn 0 rfl) rfl Try.isAgg2) rfl rfl) <|
          hk (fun cx => cx.v (ex_mv rfl (cx.rq 8 s8_138)) rfl rfl) <|
          hk (fun cx => cx.v (ex_conv (x := .tmp 96) rfl (cx.u 0 rfl) Try.underlying30 Try.underlying2) rfl (congrArg (Value.int .i64) (wrap_sg _))) <|
          hk (fun cx => cx.v (ex_eq (x := .tmp 95) (y := .tmp 97) rfl (cx.u 0 rfl) (cx.u 1 rfl)) rfl (congrArg Value.bool Ffk21.out)) <|
          hn) ?_
         intro a46 w46 f46
         refine wp_cond_true (f46.v 4 rfl rfl rfl) ?_
         have b_g1_139 := f46.k b_g1_136
         have s4_140 := f46.q 4 s4_137
         refine go_reg [⟨g1, 60, (cR a b c d), some 4, (cR a b c (IntKind.i64.wrap (d - 1)))⟩] [] [some (pt g1 3), some (.int .i64 d), some (.int .i64 (IntKind.i64.wrap (d - 1))), some (pt g1 3), none] mo f46.d f46.z f46.b (by kernel_rfl) ⟨b_g1_139, trivial⟩ (
          hk (fun cx => cx.v (ex_fa rfl (cx.rq 4 s4_140) (faRV60_3_0 _ _)) rfl rfl) <|
          hk (fun cx => cx.v (ex_ld rfl (cx.u 0 rfl) (cx.rf 0 rfl (by kernel_rfl)) rfl Try.isAgg2) rfl rfl) <|
          hk (fun cx => cx.v (ex_sub (x := .tmp 100) rfl (cx.u 0 rfl) rfl) rfl rfl) <|
          hk (fun cx => cx.v (ex_fa rfl (cx.rq 4 s4_140) (faRV60_3_0 _ _)) rfl rfl) <|
          hk (fun cx => cx.stC (wn rfl) rfl rfl 0 rfl (cx.u 0 rfl) (cx.u 1 rfl) rfl rfl (by kernel_rfl) rfl rfl q_g1 rfl trivial trivial) <|
          hn) ?_
         intro a47 w47 f47
         have s6_141 := f47.q 6 (f46.q 6 (f44.q 6 (f43.q 6 (f42.q 6 (f41.q 6 (f15.q 6 (f14.q 6 (f11.q 6 (f10.q 6 (f7.q 6 (f6.q 6 u_g3)))))))))))
         have s4_142 := f47.q 4 s4_140
         have b_g3_143 := f47.kp (f46.k (f44.k (f43.k (f42.k (f41.k (f15.k (f14.k (f11.k (f10.k (f7.k (f6.k b_g3))))))))))) ⟨.inr (ne_ptr (pairAt f1.ps 0 2 (by decide) rfl rfl) u_g1 u_g3).symm, trivial⟩
         exact ⟨⟨⟨a, b⟩, ⟨c, IntKind.i64.wrap (d - 1)⟩⟩, (by rw [(yb Ffk6.out)]; exact gc_1 HA.out HB.out Ffk1.out Ffk2.out Ffk7.out (wu3 Ffk19.out Ffk20.out) (ws2 HA.out.2.1 HA.out.2.2 ((may_iff ⟨⟨a, b⟩, ⟨c, d⟩⟩).1 Ffk1.out).2 Ffk18.out Ffk21.out)), f47.d, f47.z, f47.b, ⟨s6_141, s4_142, trivial⟩, ⟨b_g3_143, f47.rows.1, trivial⟩⟩
        have Ffk20 := Lib.hid fk20; clear fk20
        have b_g1_144 := f42.k b_g1_120
        have s4_145 := f42.q 4 s4_121
        have s8_146 := f42.q 8 s8_122
        refine go_reg [bx g1 60 (cR a b c d)] [] [some (pt g1 1), some (.int .u64 b), some (.int .u64 (Rg.oneV ⟨⟨p, q⟩, ⟨r, t⟩⟩)), some (.bool true)] mo f42.d f42.z f42.b (by kernel_rfl) ⟨b_g1_144, trivial⟩ (
         hk (fun cx => cx.v (ex_fa rfl (cx.rq 4 s4_145) (faRV60_1_0 _ _)) rfl rfl) <|
         hk (fun cx => cx.v (ex_ld rfl (cx.u 0 rfl) (cx.rn 0 rfl) rfl Try.isAgg30) rfl rfl) <|
         hk (fun cx => cx.v (ex_mv rfl (cx.rq 8 s8_146)) rfl rfl) <|
         hk (fun cx => cx.v (ex_eq (x := .tmp 78) (y := .tmp 79) rfl (cx.u 0 rfl) (cx.u 1 rfl)) rfl (congrArg Value.bool Ffk20.out)) <|
         hn) ?_
        intro a48 w48 f48
        refine wp_cond_true (f48.v 3 rfl rfl rfl) ?_
        have b_g1_147 := f48.k b_g1_144
        have s4_148 := f48.q 4 s4_145
        refine go_reg [⟨g1, 60, (cR a b c d), some 4, (cR a (IntKind.u64.wrap (b - 1)) c d)⟩] [] [some (pt g1 1), some (.int .u64 b), some (.int .u64 (IntKind.u64.wrap (b - 1))), some (pt g1 1), none] mo f48.d f48.z f48.b (by kernel_rfl) ⟨b_g1_147, trivial⟩ (
         hk (fun cx => cx.v (ex_fa rfl (cx.rq 4 s4_148) (faRV60_1_0 _ _)) rfl rfl) <|
         hk (fun cx => cx.v (ex_ld rfl (cx.u 0 rfl) (cx.rf 0 rfl (by kernel_rfl)) rfl Try.isAgg30) rfl rfl) <|
         hk (fun cx => cx.v (ex_sub (x := .tmp 82) rfl (cx.u 0 rfl) rfl) rfl rfl) <|
         hk (fun cx => cx.v (ex_fa rfl (cx.rq 4 s4_148) (faRV60_1_0 _ _)) rfl rfl) <|
         hk (fun cx => cx.stC (wn rfl) rfl rfl 0 rfl (cx.u 0 rfl) (cx.u 1 rfl) rfl rfl (by kernel_rfl) rfl rfl q_g1 rfl trivial trivial) <|
         hn) ?_
        intro a49 w49 f49
        refine wp_seq ?_
        have s4_149 := f49.q 4 s4_148
        have s8_150 := f49.q 8 (f48.q 8 s8_146)
        refine go_reg [bx g1 60 (cR a (IntKind.u64.wrap (b - 1)) c d)] [] [some (pt g1 2), some (.int .i64 c), some (.int .u64 (Rg.oneV ⟨⟨p, q⟩, ⟨r, t⟩⟩)), some (.int .i64 (sg (Rg.oneV ⟨⟨p, q⟩, ⟨r, t⟩⟩))), some (.bool false)] mo f49.d f49.z f49.b (by kernel_rfl) ⟨f49.rows.1, trivial⟩ (
         hk (fun cx => cx.v (ex_fa rfl (cx.rq 4 s4_149) (faRV60_2_0 _ _)) rfl rfl) <|
         hk (fun cx => cx.v (ex_ld rfl (cx.u 0 rfl) (cx.rn 0 rfl) rfl Try.isAgg2) rfl rfl) <|
         hk (fun cx => cx.v (ex_mv rfl (cx.rq 8 s8_150)) rfl rfl) <|
         hk (fun cx => cx.v (ex_conv (x := .tmp 87) rfl (cx.u 0 rfl) Try.underlying30 Try.underlying2) rfl (congrArg (Value.int .i64) (wrap_sg _))) <|
         hk (fun cx => cx.v (ex_eq (x := .tmp 86) (y := .tmp 88) rfl (cx.u 0 rfl) (cx.u 1 rfl)) rfl (congrArg Value.bool Ffk18.out)) <|
         hn) ?_
        intro a50 w50 f50
        refine wp_cond_false (f50.v 4 rfl rfl rfl) ?_
        refine wp_seq ?_
        cases fk22 : d == (sg (Rg.oneV ⟨⟨p, q⟩, ⟨r, t⟩⟩))
        case false =>
         have Ffk22 := Lib.hid fk22; clear fk22
         have b_g1_151 := f50.k f49.rows.1
         have s4_152 := f50.q 4 s4_149
         have s8_153 := f50.q 8 s8_150
         refine go_reg [bx g1 60 (cR a (IntKind.u64.wrap (b - 1)) c d)] [] [some (pt g1 3), some (.int .i64 d), some (.int .u64 (Rg.oneV ⟨⟨p, q⟩, ⟨r, t⟩⟩)), some (.int .i64 (sg (Rg.oneV ⟨⟨p, q⟩, ⟨r, t⟩⟩))), some (.bool false)] mo f50.d f50.z f50.b (by kernel_rfl) ⟨b_g1_151, trivial⟩ (
          hk (fun cx => cx.v (ex_fa rfl (cx.rq 4 s4_152) (faRV60_3_0 _ _)) rfl rfl) <|
          hk (fun cx => cx.v (ex_ld rfl (cx.u 0 rfl) (cx.rn 0 rfl) rfl Try.isAgg2) rfl rfl) <|
          hk (fun cx => cx.v (ex_mv rfl (cx.rq 8 s8_153)) rfl rfl) <|
          hk (fun cx => cx.v (ex_conv (x := .tmp 96) rfl (cx.u 0 rfl) Try.underlying30 Try.underlying2) rfl (congrArg (Value.int .i64) (wrap_sg _))) <|
          hk (fun cx => cx.v (ex_eq (x := .tmp 95) (y := .tmp 97) rfl (cx.u 0 rfl) (cx.u 1 rfl)) rfl (congrArg Value.bool Ffk22.out)) <|
          hn) ?_
         intro a51 w51 f51
         refine wp_cond_false (f51.v 4 rfl rfl rfl) ?_
         refine wp_skip ?_
         have s6_154 := f51.q 6 (f50.q 6 (f49.q 6 (f48.q 6 (f42.q 6 (f41.q 6 (f15.q 6 (f14.q 6 (f11.q 6 (f10.q 6 (f7.q 6 (f6.q 6 u_g3)))))))))))
         have s4_155 := f51.q 4 s4_152
         have b_g3_156 := f51.k (f50.k (f49.kp (f48.k (f42.k (f41.k (f15.k (f14.k (f11.k (f10.k (f7.k (f6.k b_g3))))))))) ⟨.inr (ne_ptr (pairAt f1.ps 0 2 (by decide) rfl rfl) u_g1 u_g3).symm, trivial⟩))
         have b_g1_157 := f51.k b_g1_151
         exact ⟨⟨⟨a, IntKind.u64.wrap (b - 1)⟩, ⟨c, d⟩⟩, (by rw [(yb Ffk6.out)]; exact gc_1 HA.out HB.out Ffk1.out Ffk2.out Ffk7.out (wu2 HA.out.1.1.1 HA.out.1.2.2 ((may_iff ⟨⟨a, b⟩, ⟨c, d⟩⟩).1 Ffk1.out).1 Ffk19.out Ffk20.out) (wu3 Ffk18.out Ffk22.out)), f51.d, f51.z, f51.b, ⟨s6_154, s4_155, trivial⟩, ⟨b_g3_156, b_g1_157, trivial⟩⟩
        have Ffk22 := Lib.hid fk22; clear fk22
        have b_g1_158 := f50.k f49.rows.1
        have s4_159 := f50.q 4 s4_149
        have s8_160 := f50.q 8 s8_150
        refine go_reg [bx g1 60 (cR a (IntKind.u64.wrap (b - 1)) c d)] [] [some (pt g1 3), some (.int .i64 d), some (.int .u64 (Rg.oneV ⟨⟨p, q⟩, ⟨r, t⟩⟩)), some (.int .i64 (sg (Rg.oneV ⟨⟨p, q⟩, ⟨r, t⟩⟩))), some (.bool true)] mo f50.d f50.z f50.b (by kernel_rfl) ⟨b_g1_158, trivial⟩ (
         hk (fun cx => cx.v (ex_fa rfl (cx.rq 4 s4_159) (faRV60_3_0 _ _)) rfl rfl) <|
         hk (fun cx => cx.v (ex_ld rfl (cx.u 0 rfl) (cx.rn 0 rfl) rfl Try.isAgg2) rfl rfl) <|
         hk (fun cx => cx.v (ex_mv rfl (cx.rq 8 s8_160)) rfl rfl) <|
         hk (fun cx => cx.v (ex_conv (x := .tmp 96) rfl (cx.u 0 rfl) Try.underlying30 Try.underlying2) rfl (congrArg (Value.int .i64) (wrap_sg _))) <|
         hk (fun cx => cx.v (ex_eq (x := .tmp 95) (y := .tmp 97) rfl (cx.u 0 rfl) (cx.u 1 rfl)) rfl (congrArg Value.bool Ffk22.out)) <|
         hn) ?_
        intro a52 w52 f52
        refine wp_cond_true (f52.v 4 rfl rfl rfl) ?_
        have b_g1_161 := f52.k b_g1_158
        have s4_162 := f52.q 4 s4_159
        refine go_reg [⟨g1, 60, (cR a (IntKind.u64.wrap (b - 1)) c d), some 4, (cR a (IntKind.u64.wrap (b - 1)) c (IntKind.i64.wrap (d - 1)))⟩] [] [some (pt g1 3), some (.int .i64 d), some (.int .i64 (IntKind.i64.wrap (d - 1))), some (pt g1 3), none] mo f52.d f52.z f52.b (by kernel_rfl) ⟨b_g1_161, trivial⟩ (
         hk (fun cx => cx.v (ex_fa rfl (cx.rq 4 s4_162) (faRV60_3_0 _ _)) rfl rfl) <|
         hk (fun cx => cx.v (ex_ld rfl (cx.u 0 rfl) (cx.rf 0 rfl (by kernel_rfl)) rfl Try.isAgg2) rfl rfl) <|
         hk (fun cx => cx.v (ex_sub (x := .tmp 100) rfl (cx.u 0 rfl) rfl) rfl rfl) <|
         hk (fun cx => cx.v (ex_fa rfl (cx.rq 4 s4_162) (faRV60_3_0 _ _)) rfl rfl) <|
         hk (fun cx => cx.stC (wn rfl) rfl rfl 0 rfl (cx.u 0 rfl) (cx.u 1 rfl) rfl rfl (by kernel_rfl) rfl rfl q_g1 rfl trivial trivial) <|
         hn) ?_
        intro a53 w53 f53
        have s6_163 := f53.q 6 (f52.q 6 (f50.q 6 (f49.q 6 (f48.q 6 (f42.q 6 (f41.q 6 (f15.q 6 (f14.q 6 (f11.q 6 (f10.q 6 (f7.q 6 (f6.q 6 u_g3))))))))))))
        have s4_164 := f53.q 4 s4_162
        have b_g3_165 := f53.kp (f52.k (f50.k (f49.kp (f48.k (f42.k (f41.k (f15.k (f14.k (f11.k (f10.k (f7.k (f6.k b_g3))))))))) ⟨.inr (ne_ptr (pairAt f1.ps 0 2 (by decide) rfl rfl) u_g1 u_g3).symm, trivial⟩))) ⟨.inr (ne_ptr (pairAt f1.ps 0 2 (by decide) rfl rfl) u_g1 u_g3).symm, trivial⟩
        exact ⟨⟨⟨a, IntKind.u64.wrap (b - 1)⟩, ⟨c, IntKind.i64.wrap (d - 1)⟩⟩, (by rw [(yb Ffk6.out)]; exact gc_1 HA.out HB.out Ffk1.out Ffk2.out Ffk7.out (wu2 HA.out.1.1.1 HA.out.1.2.2 ((may_iff ⟨⟨a, b⟩, ⟨c, d⟩⟩).1 Ffk1.out).1 Ffk19.out Ffk20.out) (ws2 HA.out.2.1 HA.out.2.2 ((may_iff ⟨⟨a, b⟩, ⟨c, d⟩⟩).1 Ffk1.out).2 Ffk18.out Ffk22.out)), f53.d, f53.z, f53.b, ⟨s6_163, s4_164, trivial⟩, ⟨b_g3_165, f53.rows.1, trivial⟩⟩
       have Ffk19 := Lib.hid fk19; clear fk19
       have b_g1_166 := f41.k b_g1_117
       have s4_167 := f41.q 4 s4_118
       have s8_168 := f41.q 8 s8_119
       refine go_reg [bx g1 60 (cR a b c d)] [] [some (pt g1 0), some (.int .u64 a), some (.int .u64 (Rg.oneV ⟨⟨p, q⟩, ⟨r, t⟩⟩)), some (.bool true)] mo f41.d f41.z f41.b (by kernel_rfl) ⟨b_g1_166, trivial⟩ (
        hk (fun cx => cx.v (ex_fa rfl (cx.rq 4 s4_167) (faRV60_0_0 _ _)) rfl rfl) <|
        hk (fun cx => cx.v (ex_ld rfl (cx.u 0 rfl) (cx.rn 0 rfl) rfl Try.isAgg30) rfl rfl) <|
        hk (fun cx => cx.v (ex_mv rfl (cx.rq 8 s8_168)) rfl rfl) <|
        hk (fun cx => cx.v (ex_eq (x := .tmp 70) (y := .tmp 71) rfl (cx.u 0 rfl) (cx.u 1 rfl)) rfl (congrArg Value.bool Ffk19.out)) <|
        hn) ?_
       intro a54 w54 f54
       refine wp_cond_true (f54.v 3 rfl rfl rfl) ?_
       have b_g1_169 := f54.k b_g1_166
       have s4_170 := f54.q 4 s4_167
       refine go_reg [⟨g1, 60, (cR a b c d), some 4, (cR (IntKind.u64.wrap (a + 1)) b c d)⟩] [] [some (pt g1 0), some (.int .u64 a), some (.int .u64 (IntKind.u64.wrap (a + 1))), some (pt g1 0), none] mo f54.d f54.z f54.b (by kernel_rfl) ⟨b_g1_169, trivial⟩ (
        hk (fun cx => cx.v (ex_fa rfl (cx.rq 4 s4_170) (faRV60_0_0 _ _)) rfl rfl) <|
        hk (fun cx => cx.v (ex_ld rfl (cx.u 0 rfl) (cx.rf 0 rfl (by kernel_rfl)) rfl Try.isAgg30) rfl rfl) <|
        hk (fun cx => cx.v (ex_add (x := .tmp 74) rfl (cx.u 0 rfl) rfl) rfl rfl) <|
        hk (fun cx => cx.v (ex_fa rfl (cx.rq 4 s4_170) (faRV60_0_0 _ _)) rfl rfl) <|
        hk (fun cx => cx.stC (wn rfl) rfl rfl 0 rfl (cx.u 0 rfl) (cx.u 1 rfl) rfl rfl (by kernel_rfl) rfl rfl q_g1 rfl trivial trivial) <|
        hn) ?_
       intro a55 w55 f55
       refine wp_seq ?_
       have s4_171 := f55.q 4 s4_170
       have s8_172 := f55.q 8 (f54.q 8 s8_168)
       refine go_reg [bx g1 60 (cR (IntKind.u64.wrap (a + 1)) b c d)] [] [some (pt g1 2), some (.int .i64 c), some (.int .u64 (Rg.oneV ⟨⟨p, q⟩, ⟨r, t⟩⟩)), some (.int .i64 (sg (Rg.oneV ⟨⟨p, q⟩, ⟨r, t⟩⟩))), some (.bool false)] mo f55.d f55.z f55.b (by kernel_rfl) ⟨f55.rows.1, trivial⟩ (
        hk (fun cx => cx.v (ex_fa rfl (cx.rq 4 s4_171) (faRV60_2_0 _ _)) rfl rfl) <|
        hk (fun cx => cx.v (ex_ld rfl (cx.u 0 rfl) (cx.rn 0 rfl) rfl Try.isAgg2) rfl rfl) <|
        hk (fun cx => cx.v (ex_mv rfl (cx.rq 8 s8_172)) rfl rfl) <|
        hk (fun cx => cx.v (ex_conv (x := .tmp 87) rfl (cx.u 0 rfl) Try.underlying30 Try.underlying2) rfl (congrArg (Value.int .i64) (wrap_sg _))) <|
        hk (fun cx => cx.v (ex_eq (x := .tmp 86) (y := .tmp 88) rfl (cx.u 0 rfl) (cx.u 1 rfl)) rfl (congrArg Value.bool Ffk18.out)) <|
        hn) ?_
       intro a56 w56 f56
       refine wp_cond_false (f56.v 4 rfl rfl rfl) ?_
       refine wp_seq ?_
       cases fk23 : d == (sg (Rg.oneV ⟨⟨p, q⟩, ⟨r, t⟩⟩))
       case false =>
        have Ffk23 := Lib.hid fk23; clear fk23
        have b_g1_173 := f56.k f55.rows.1
        have s4_174 := f56.q 4 s4_171
        have s8_175 := f56.q 8 s8_172
        refine go_reg [bx g1 60 (cR (IntKind.u64.wrap (a + 1)) b c d)] [] [some (pt g1 3), some (.int .i64 d), some (.int .u64 (Rg.oneV ⟨⟨p, q⟩, ⟨r, t⟩⟩)), some (.int .i64 (sg (Rg.oneV ⟨⟨p, q⟩, ⟨r, t⟩⟩))), some (.bool false)] mo f56.d f56.z f56.b (by kernel_rfl) ⟨b_g1_173, trivial⟩ (
         hk (fun cx => cx.v (ex_fa rfl (cx.rq 4 s4_174) (faRV60_3_0 _ _)) rfl rfl) <|
         hk (fun cx => cx.v (ex_ld rfl (cx.u 0 rfl) (cx.rn 0 rfl) rfl Try.isAgg2) rfl rfl) <|
         hk (fun cx => cx.v (ex_mv rfl (cx.rq 8 s8_175)) rfl rfl) <|
         hk (fun cx => cx.v (ex_conv (x := .tmp 96) rfl (cx.u 0 rfl) Try.underlying30 Try.underlying2) rfl (congrArg (Value.int .i64) (wrap_sg _))) <|
         hk (fun cx => cx.v (ex_eq (x := .tmp 95) (y := .tmp 97) rfl (cx.u 0 rfl) (cx.u 1 rfl)) rfl (congrArg Value.bool Ffk23.out)) <|
         hn) ?_
        intro a57 w57 f57
        refine wp_cond_false (f57.v 4 rfl rfl rfl) ?_
        refine wp_skip ?_
        have s6_176 := f57.q 6 (f56.q 6 (f55.q 6 (f54.q 6 (f41.q 6 (f15.q 6 (f14.q 6 (f11.q 6 (f10.q 6 (f7.q 6 (f6.q 6 u_g3))))))))))
        have s4_177 := f57.q 4 s4_174
        have b_g3_178 := f57.k (f56.k (f55.kp (f54.k (f41.k (f15.k (f14.k (f11.k (f10.k (f7.k (f6.k b_g3)))))))) ⟨.inr (ne_ptr (pairAt f1.ps 0 2 (by decide) rfl rfl) u_g1 u_g3).symm, trivial⟩))
        have b_g1_179 := f57.k b_g1_173
        exact ⟨⟨⟨IntKind.u64.wrap (a + 1), b⟩, ⟨c, d⟩⟩, (by rw [(yb Ffk6.out)]; exact gc_1 HA.out HB.out Ffk1.out Ffk2.out Ffk7.out (wu1 HA.out.1.1 HA.out.1.2.2 ((may_iff ⟨⟨a, b⟩, ⟨c, d⟩⟩).1 Ffk1.out).1 Ffk19.out (nb Ffk8.out)) (wu3 Ffk18.out Ffk23.out)), f57.d, f57.z, f57.b, ⟨s6_176, s4_177, trivial⟩, ⟨b_g3_178, b_g1_179, trivial⟩⟩
       have Ffk23 := Lib.hid fk23; clear fk23
       have b_g1_180 := f56.k f55.rows.1
       have s4_181 := f56.q 4 s4_171
       have s8_182 := f56.q 8 s8_172
       refine go_reg [bx g1 60 (cR (IntKind.u64.wrap (a + 1)) b c d)] [] [some (pt g1 3), some (.int .i64 d), some (.int .u64 (Rg.oneV ⟨⟨p, q⟩, ⟨r, t⟩⟩)), some (.int .i64 (sg (Rg.oneV ⟨⟨p, q⟩, ⟨r, t⟩⟩))), some (.bool true)] mo f56.d f56.z f56.b (by kernel_rfl) ⟨b_g1_180, trivial⟩ (
        hk (fun cx => cx.v (ex_fa rfl (cx.rq 4 s4_181) (faRV60_3_0 _ _)) rfl rfl) <|
        hk (fun cx => cx.v (ex_ld rfl (cx.u 0 rfl) (cx.rn 0 rfl) rfl Try.isAgg2) rfl rfl) <|
        hk (fun cx => cx.v (ex_mv rfl (cx.rq 8 s8_182)) rfl rfl) <|
        hk (fun cx => cx.v (ex_conv (x := .tmp 96) rfl (cx.u 0 rfl) Try.underlying30 Try.underlying2) rfl (congrArg (Value.int .i64) (wrap_sg _))) <|
        hk (fun cx => cx.v (ex_eq (x := .tmp 95) (y := .tmp 97) rfl (cx.u 0 rfl) (cx.u 1 rfl)) rfl (congrArg Value.bool Ffk23.out)) <|
        hn) ?_
       intro a58 w58 f58
       refine wp_cond_true (f58.v 4 rfl rfl rfl) ?_
       have b_g1_183 := f58.k b_g1_180
       have s4_184 := f58.q 4 s4_181
       refine go_reg [⟨g1, 60, (cR (IntKind.u64.wrap (a + 1)) b c d), some 4, (cR (IntKind.u64.wrap (a + 1)) b c (IntKind.i64.wrap (d - 1)))⟩] [] [some (pt g1 3), some (.int .i64 d), some (.int .i64 (IntKind.i64.wrap (d - 1))), some (pt g1 3), none] mo f58.d f58.z f58.b (by kernel_rfl) ⟨b_g1_183, trivial⟩ (
        hk (fun cx => cx.v (ex_fa rfl (cx.rq 4 s4_184) (faRV60_3_0 _ _)) rfl rfl) <|
        hk (fun cx => cx.v (ex_ld rfl (cx.u 0 rfl) (cx.rf 0 rfl (by kernel_rfl)) rfl Try.isAgg2) rfl rfl) <|
        hk (fun cx => cx.v (ex_sub (x := .tmp 100) rfl (cx.u 0 rfl) rfl) rfl rfl) <|
        hk (fun cx => cx.v (ex_fa rfl (cx.rq 4 s4_184) (faRV60_3_0 _ _)) rfl rfl) <|
        hk (fun cx => cx.stC (wn rfl) rfl rfl 0 rfl (cx.u 0 rfl) (cx.u 1 rfl) rfl rfl (by kernel_rfl) rfl rfl q_g1 rfl trivial trivial) <|
        hn) ?_
       intro a59 w59 f59
       have s6_185 := f59.q 6 (f58.q 6 (f56.q 6 (f55.q 6 (f54.q 6 (f41.q 6 (f15.q 6 (f14.q 6 (f11.q 6 (f10.q 6 (f7.q 6 (f6.q 6 u_g3)))))))))))
       have s4_186 := f59.q 4 s4_184
       have b_g3_187 := f59.kp (f58.k (f56.k (f55.kp (f54.k (f41.k (f15.k (f14.k (f11.k (f10.k (f7.k (f6.k b_g3)))))))) ⟨.inr (ne_ptr (pairAt f1.ps 0 2 (by decide) rfl rfl) u_g1 u_g3).symm, trivial⟩))) ⟨.inr (ne_ptr (pairAt f1.ps 0 2 (by decide) rfl rfl) u_g1 u_g3).symm, trivial⟩
       exact ⟨⟨⟨IntKind.u64.wrap (a + 1), b⟩, ⟨c, IntKind.i64.wrap (d - 1)⟩⟩, (by rw [(yb Ffk6.out)]; exact gc_1 HA.out HB.out Ffk1.out Ffk2.out Ffk7.out (wu1 HA.out.1.1 HA.out.1.2.2 ((may_iff ⟨⟨a, b⟩, ⟨c, d⟩⟩).1 Ffk1.out).1 Ffk19.out (nb Ffk8.out)) (ws2 HA.out.2.1 HA.out.2.2 ((may_iff ⟨⟨a, b⟩, ⟨c, d⟩⟩).1 Ffk1.out).2 Ffk18.out Ffk23.out)), f59.d, f59.z, f59.b, ⟨s6_185, s4_186, trivial⟩, ⟨b_g3_187, f59.rows.1, trivial⟩⟩
      have Ffk18 := Lib.hid fk18; clear fk18
      have b_g1_188 := f15.k (f14.k (f11.k (f10.k (f7.k (f6.k b_g1)))))
      have s4_189 := f15.q 4 (f14.q 4 (f11.q 4 (f10.q 4 (f7.q 4 (f6.q 4 u_g1)))))
      have s8_190 := f15.q 8 (f14.v 5 rfl rfl rfl)
      refine go_reg [bx g1 60 (cR a b c d)] [] (tabs [some (pt g1 0), some (.int .u64 a), some (pt g1 1), some (.int .u64 b), some (.bool false), some (.bool false), some (undef), some (undef), some (undef), some (undef), some (.bool false), some (.bool false), some (pt g1 2), some (.int .i64 c), some (pt g1 3), some (.int .i64 d), some (.bool true), some (.bool true), some (pt g1 2), some (.int .i64 c)] [some (.int .u64 (Rg.oneV ⟨⟨p, q⟩, ⟨r, t⟩⟩)), some (.int .i64 (sg (Rg.oneV ⟨⟨p, q⟩, ⟨r, t⟩⟩))), some (.bool true), some (.bool true), some (.bool true)]) mo f15.d f15.z f15.b (by kernel_rfl) ⟨b_g1_188, trivial⟩ (
       hk (fun cx => cx.v (ex_fa rfl (cx.rq 4 s4_189) (faRV60_0_0 _ _)) rfl rfl) <|
       hk (fun cx => cx.v (ex_ld rfl (cx.u 0 rfl) (cx.rn 0 rfl) rfl Try.isAgg30) rfl rfl) <|
       hk (fun cx => cx.v (ex_fa rfl (cx.rq 4 s4_189) (faRV60_1_0 _ _)) rfl rfl) <|
       hk (fun cx => cx.v (ex_ld rfl (cx.u 0 rfl) (cx.rn 0 rfl) rfl Try.isAgg30) rfl rfl) <|
       hk (fun cx => cx.v (ex_eq (x := .tmp 44) (y := .tmp 46) rfl (cx.u 0 rfl) (cx.u 1 rfl)) rfl (congrArg Value.bool Ffk8.out)) <|
       hk (fun cx => cx.v (ex_mv rfl (cx.u 0 rfl)) rfl rfl) <|
       hk (fun cx => cx.no (cx.wo rfl rfl rfl rfl (cx.u 0 rfl) rfl) rfl rfl rfl rfl) <|
       hk (fun cx => cx.no (cx.wo rfl rfl rfl rfl (cx.u 1 rfl) rfl) rfl rfl rfl rfl) <|
       hk (fun cx => cx.no (cx.wo rfl rfl rfl rfl (cx.u 0 rfl) rfl) rfl rfl rfl rfl) <|
       hk (fun cx => cx.no (cx.wo rfl rfl rfl rfl (cx.u 2 rfl) rfl) rfl rfl rfl rfl) <|
       hk (fun cx => cx.v (ex_pf rfl (cx.u 0 rfl) rfl) rfl rfl) <|
       hk (fun cx => cx.v (ex_mv rfl (cx.u 0 rfl)) rfl rfl) <|
       hk (fun cx => cx.val (cx.wy rfl rfl rfl rfl (cx.u 0 rfl)) (ex_fa rfl (cx.rq 4 s4_189) (faRV60_2_0 _ _)) rfl rfl rfl rfl) <|
       hk (fun cx => cx.val (cx.wy rfl rfl rfl rfl (cx.u 1 rfl)) (ex_ld rfl (cx.u 0 rfl) (cx.rn 0 rfl) rfl Try.isAgg2) rfl rfl rfl rfl) <|
       hk (fun cx => cx.val (cx.wy rfl rfl rfl rfl (cx.u 0 rfl)) (ex_fa rfl (cx.rq 4 s4_189) (faRV60_3_0 _ _)) rfl rfl rfl rfl) <|
       hk (fun cx => cx.val (cx.wy rfl rfl rfl rfl (cx.u 1 rfl)) (ex_ld rfl (cx.u 0 rfl) (cx.rn 0 rfl) rfl Try.isAgg2) rfl rfl rfl rfl) <|
       hk (fun cx => cx.val (cx.wy rfl rfl rfl rfl (cx.u 2 rfl)) (ex_eq (x := .tmp 56) (y := .tmp 58) rfl (cx.u 0 rfl) (cx.u 1 rfl)) rfl rfl (congrArg Value.bool Ffk9.out) rfl) <|
       hk (fun cx => cx.val (cx.wy rfl rfl rfl rfl (cx.u 1 rfl)) (ex_mv rfl (cx.u 0 rfl)) rfl rfl rfl rfl) <|
       hk (fun cx => cx.val (cx.wy rfl rfl rfl rfl (cx.u 0 rfl)) (ex_fa rfl (cx.rq 4 s4_189) (faRV60_2_0 _ _)) rfl rfl rfl rfl) <|
       hk (fun cx => cx.val (cx.wy rfl rfl rfl rfl (cx.u 1 rfl)) (ex_ld rfl (cx.u 0 rfl) (cx.rn 0 rfl) rfl Try.isAgg2) rfl rfl rfl rfl) <|
       hk (fun cx => cx.val (cx.wy rfl rfl rfl rfl (cx.u 0 rfl)) (ex_mv rfl (cx.rq 8 s8_190)) rfl rfl rfl rfl) <|
       hk (fun cx => cx.val (cx.wy rfl rfl rfl rfl (cx.u 1 rfl)) (ex_conv (x := .tmp 63) rfl (cx.u 0 rfl) Try.underlying30 Try.underlying2) rfl rfl (congrArg (Value.int .i64) (wrap_sg _)) rfl) <|
       hk (fun cx => cx.val (cx.wy rfl rfl rfl rfl (cx.u 2 rfl)) (ex_eq (x := .tmp 62) (y := .tmp 64) rfl (cx.u 0 rfl) (cx.u 1 rfl)) rfl rfl (congrArg Value.bool Ffk18.out) rfl) <|
       hk (fun cx => cx.val (cx.wy rfl rfl rfl rfl (cx.u 2 rfl)) (ex_pt rfl (cx.u 0 rfl) (cx.u 1 rfl)) rfl rfl rfl rfl) <|
       hk (fun cx => cx.v (ex_pf rfl (cx.u 0 rfl) (cx.u 1 rfl)) rfl rfl) <|
       hn) ?_
      intro a60 w60 f60
      refine wp_cond_true (f60.v 24 rfl rfl rfl) ?_
      refine wp_seq ?_
      have b_g3_191 := f60.k (f15.k (f14.k (f11.k (f10.k (f7.k (f6.k b_g3))))))
      have s6_192 := f60.q 6 (f15.q 6 (f14.q 6 (f11.q 6 (f10.q 6 (f7.q 6 (f6.q 6 u_g3))))))
      refine go_reg [⟨g3, 60, (cR 0 0 0 0), some 1, (cR allR.u.lo allR.u.hi allR.s.lo allR.s.hi)⟩] [] [some (.agg (cR allR.u.lo allR.u.hi allR.s.lo allR.s.hi)), none, some (.bool false)] mo f60.d f60.z f60.b (by kernel_rfl) ⟨b_g3_191, trivial⟩ (
       hc (fun _ _ wx cx => cx.c rfl (args0 ) Try.func30 (by decide +kernel) (rall_n wx) rfl rfl) <|
       hk (fun cx => cx.stR (wn rfl) rfl rfl 0 rfl (cx.rq 6 s6_192) (cx.u 0 rfl) (by kernel_rfl) rfl (by simp [Value.oneCell']) q_g3 rfl trivial trivial) <|
       hk (fun cx => cx.v (ex_as rfl rfl) rfl rfl) <|
       hn) ?_
      intro a61 w61 f61
      refine wp_ret ?_
      have s6_193 := f61.q 6 s6_192
      try simp only [Exit.inBlock, Exit.then]
      refine bodyPost_ret (res_ct (fn := Try.f22) rfl s6_193 (load_row 60 f61.rows.1 Try.underlying60 rfl (by kernel_rfl)) (f61.v 2 rfl rfl rfl)) f61.d ?_
      have HN : Rg.narB (givC cc ⟨⟨a, b⟩, ⟨c, d⟩⟩ ⟨⟨p, q⟩, ⟨r, t⟩⟩) = false := by rw [(yb Ffk6.out)]; exact ga_1s Ffk7.out Ffk9.out Ffk18.out
      have HE : Value.tuple #[.agg (cR allR.u.lo allR.u.hi allR.s.lo allR.s.hi), .bool false] = .tuple #[Rg.val D, .bool DB] := by rw [ED.out.1, ED.out.2]; unfold Rg.giv Rg.givB; rw [Ffk1.out, Ffk2.out, HCC.out Ffk3.out Ffk4.out, if_pos (by rfl)]; unfold Rg.nar; rw [HN]; rfl
      exact ⟨retV HE, f61.b⟩
     have Ffk8 := Lib.hid fk8; clear fk8
     cases fk24 : a == (Rg.oneV ⟨⟨p, q⟩, ⟨r, t⟩⟩)
     case false =>
      have Ffk24 := Lib.hid fk24; clear fk24
      cases fk25 : c == d
      case false =>
       have Ffk25 := Lib.hid fk25; clear fk25
       have b_g1_194 := f15.k (f14.k (f11.k (f10.k (f7.k (f6.k b_g1)))))
       have s4_195 := f15.q 4 (f14.q 4 (f11.q 4 (f10.q 4 (f7.q 4 (f6.q 4 u_g1)))))
       have s8_196 := f15.q 8 (f14.v 5 rfl rfl rfl)
       refine go_reg [bx g1 60 (cR a b c d)] [] (tabs [some (pt g1 0), some (.int .u64 a), some (pt g1 1), some (.int .u64 b), some (.bool true), some (.bool true), some (pt g1 0), some (.int .u64 a), some (.int .u64 (Rg.oneV ⟨⟨p, q⟩, ⟨r, t⟩⟩)), some (.bool false), some (.bool false), some (.bool false), some (pt g1 2), some (.int .i64 c), some (pt g1 3), some (.int .i64 d), some (.bool false), some (.bool false), some (undef), some (undef)] [some (undef), some (undef), some (undef), some (.bool false), some (.bool false)]) mo f15.d f15.z f15.b (by kernel_rfl) ⟨b_g1_194, trivial⟩ (
        hk (fun cx => cx.v (ex_fa rfl (cx.rq 4 s4_195) (faRV60_0_0 _ _)) rfl rfl) <|
        hk (fun cx => cx.v (ex_ld rfl (cx.u 0 rfl) (cx.rn 0 rfl) rfl Try.isAgg30) rfl rfl) <|
        hk (fun cx => cx.v (ex_fa rfl (cx.rq 4 s4_195) (faRV60_1_0 _ _)) rfl rfl) <|
        hk (fun cx => cx.v (ex_ld rfl (cx.u 0 rfl) (cx.rn 0 rfl) rfl Try.isAgg30) rfl rfl) <|
        hk (fun cx => cx.v (ex_eq (x := .tmp 44) (y := .tmp 46) rfl (cx.u 0 rfl) (cx.u 1 rfl)) rfl (congrArg Value.bool Ffk8.out)) <|
        hk (fun cx => cx.v (ex_mv rfl (cx.u 0 rfl)) rfl rfl) <|
        hk (fun cx => cx.val (cx.wy rfl rfl rfl rfl (cx.u 0 rfl)) (ex_fa rfl (cx.rq 4 s4_195) (faRV60_0_0 _ _)) rfl rfl rfl rfl) <|
        hk (fun cx => cx.val (cx.wy rfl rfl rfl rfl (cx.u 1 rfl)) (ex_ld rfl (cx.u 0 rfl) (cx.rn 0 rfl) rfl Try.isAgg30) rfl rfl rfl rfl) <|
        hk (fun cx => cx.val (cx.wy rfl rfl rfl rfl (cx.u 0 rfl)) (ex_mv rfl (cx.rq 8 s8_196)) rfl rfl rfl rfl) <|
        hk (fun cx => cx.val (cx.wy rfl rfl rfl rfl (cx.u 2 rfl)) (ex_eq (x := .tmp 50) (y := .tmp 51) rfl (cx.u 0 rfl) (cx.u 1 rfl)) rfl rfl (congrArg Value.bool Ffk24.out) rfl) <|
        hk (fun cx => cx.v (ex_pt rfl (cx.u 0 rfl) (cx.u 1 rfl)) rfl rfl) <|
        hk (fun cx => cx.v (ex_mv rfl (cx.u 0 rfl)) rfl rfl) <|
        hk (fun cx => cx.val (cx.wy rfl rfl rfl rfl (cx.u 0 rfl)) (ex_fa rfl (cx.rq 4 s4_195) (faRV60_2_0 _ _)) rfl rfl rfl rfl) <|
        hk (fun cx => cx.val (cx.wy rfl rfl rfl rfl (cx.u 1 rfl)) (ex_ld rfl (cx.u 0 rfl) (cx.rn 0 rfl) rfl Try.isAgg2) rfl rfl rfl rfl) <|
        hk (fun cx => cx.val (cx.wy rfl rfl rfl rfl (cx.u 0 rfl)) (ex_fa rfl (cx.rq 4 s4_195) (faRV60_3_0 _ _)) rfl rfl rfl rfl) <|
        hk (fun cx => cx.val (cx.wy rfl rfl rfl rfl (cx.u 1 rfl)) (ex_ld rfl (cx.u 0 rfl) (cx.rn 0 rfl) rfl Try.isAgg2) rfl rfl rfl rfl) <|
        hk (fun cx => cx.val (cx.wy rfl rfl rfl rfl (cx.u 2 rfl)) (ex_eq (x := .tmp 56) (y := .tmp 58) rfl (cx.u 0 rfl) (cx.u 1 rfl)) rfl rfl (congrArg Value.bool Ffk25.out) rfl) <|
        hk (fun cx => cx.val (cx.wy rfl rfl rfl rfl (cx.u 1 rfl)) (ex_mv rfl (cx.u 0 rfl)) rfl rfl rfl rfl) <|
        hk (fun cx => cx.no (cx.wo rfl rfl rfl rfl (cx.u 0 rfl) rfl) rfl rfl rfl rfl) <|
        hk (fun cx => cx.no (cx.wo rfl rfl rfl rfl (cx.u 1 rfl) rfl) rfl rfl rfl rfl) <|
        hk (fun cx => cx.no (cx.wo rfl rfl rfl rfl (cx.u 0 rfl) rfl) rfl rfl rfl rfl) <|
        hk (fun cx => cx.no (cx.wo rfl rfl rfl rfl (cx.u 1 rfl) rfl) rfl rfl rfl rfl) <|
        hk (fun cx => cx.no (cx.wo rfl rfl rfl rfl (cx.u 2 rfl) rfl) rfl rfl rfl rfl) <|
        hk (fun cx => cx.val (cx.wy rfl rfl rfl rfl (cx.u 2 rfl)) (ex_pf rfl (cx.u 0 rfl) rfl) rfl rfl rfl rfl) <|
        hk (fun cx => cx.v (ex_pf rfl (cx.u 0 rfl) (cx.u 1 rfl)) rfl rfl) <|
        hn) ?_
       intro a62 w62 f62
       refine wp_cond_false (f62.v 24 rfl rfl rfl) ?_
       refine wp_skip ?_
       refine wp_seq ?_
       refine wp_seq ?_
       have b_g1_197 := f62.k b_g1_194
       have s4_198 := f62.q 4 s4_195
       have s8_199 := f62.q 8 s8_196
       refine go_reg [bx g1 60 (cR a b c d)] [] [some (pt g1 0), some (.int .u64 a), some (.int .u64 (Rg.oneV ⟨⟨p, q⟩, ⟨r, t⟩⟩)), some (.bool false)] mo f62.d f62.z f62.b (by kernel_rfl) ⟨b_g1_197, trivial⟩ (
        hk (fun cx => cx.v (ex_fa rfl (cx.rq 4 s4_198) (faRV60_0_0 _ _)) rfl rfl) <|
        hk (fun cx => cx.v (ex_ld rfl (cx.u 0 rfl) (cx.rn 0 rfl) rfl Try.isAgg30) rfl rfl) <|
        hk (fun cx => cx.v (ex_mv rfl (cx.rq 8 s8_199)) rfl rfl) <|
        hk (fun cx => cx.v (ex_eq (x := .tmp 70) (y := .tmp 71) rfl (cx.u 0 rfl) (cx.u 1 rfl)) rfl (congrArg Value.bool Ffk24.out)) <|
        hn) ?_
       intro a63 w63 f63
       refine wp_cond_false (f63.v 3 rfl rfl rfl) ?_
       refine wp_seq ?_
       cases fk26 : b == (Rg.oneV ⟨⟨p, q⟩, ⟨r, t⟩⟩)
       case false =>
        have Ffk26 := Lib.hid fk26; clear fk26
        have b_g1_200 := f63.k b_g1_197
        have s4_201 := f63.q 4 s4_198
        have s8_202 := f63.q 8 s8_199
        refine go_reg [bx g1 60 (cR a b c d)] [] [some (pt g1 1), some (.int .u64 b), some (.int .u64 (Rg.oneV ⟨⟨p, q⟩, ⟨r, t⟩⟩)), some (.bool false)] mo f63.d f63.z f63.b (by kernel_rfl) ⟨b_g1_200, trivial⟩ (
         hk (fun cx => cx.v (ex_fa rfl (cx.rq 4 s4_201) (faRV60_1_0 _ _)) rfl rfl) <|
         hk (fun cx => cx.v (ex_ld rfl (cx.u 0 rfl) (cx.rn 0 rfl) rfl Try.isAgg30) rfl rfl) <|
         hk (fun cx => cx.v (ex_mv rfl (cx.rq 8 s8_202)) rfl rfl) <|
         hk (fun cx => cx.v (ex_eq (x := .tmp 78) (y := .tmp 79) rfl (cx.u 0 rfl) (cx.u 1 rfl)) rfl (congrArg Value.bool Ffk26.out)) <|
         hn) ?_
        intro a64 w64 f64
        refine wp_cond_false (f64.v 3 rfl rfl rfl) ?_
        refine wp_skip ?_
        refine wp_seq ?_
        cases fk27 : c == (sg (Rg.oneV ⟨⟨p, q⟩, ⟨r, t⟩⟩))
        case false =>
         have Ffk27 := Lib.hid fk27; clear fk27
         have b_g1_203 := f64.k b_g1_200
         have s4_204 := f64.q 4 s4_201
         have s8_205 := f64.q 8 s8_202
         refine go_reg [bx g1 60 (cR a b c d)] [] [some (pt g1 2), some (.int .i64 c), some (.int .u64 (Rg.oneV ⟨⟨p, q⟩, ⟨r, t⟩⟩)), some (.int .i64 (sg (Rg.oneV ⟨⟨p, q⟩, ⟨r, t⟩⟩))), some (.bool false)] mo f64.d f64.z f64.b (by kernel_rfl) ⟨b_g1_203, trivial⟩ (
          hk (fun cx => cx.v (ex_fa rfl (cx.rq 4 s4_204) (faRV60_2_0 _ _)) rfl rfl) <|
          hk (fun cx => cx.v (ex_ld rfl (cx.u 0 rfl) (cx.rn 0 rfl) rfl Try.isAgg2) rfl rfl) <|
          hk (fun cx => cx.v (ex_mv rfl (cx.rq 8 s8_205)) rfl rfl) <|
          hk (fun cx => cx.v (ex_conv (x := .tmp 87) rfl (cx.u 0 rfl) Try.underlying30 Try.underlying2) rfl (congrArg (Value.int .i64) (wrap_sg _))) <|
          hk (fun cx => cx.v (ex_eq (x := .tmp 86) (y := .tmp 88) rfl (cx.u 0 rfl) (cx.u 1 rfl)) rfl (congrArg Value.bool Ffk27.out)) <|
          hn) ?_
         intro a65 w65 f65
         refine wp_cond_false (f65.v 4 rfl rfl rfl) ?_
         refine wp_seq ?_
         cases fk28 : d == (sg (Rg.oneV ⟨⟨p, q⟩, ⟨r, t⟩⟩))
         case false =>
          have Ffk28 := Lib.hid fk28; clear fk28
          have b_g1_206 := f65.k b_g1_203
          have s4_207 := f65.q 4 s4_204
          have s8_208 := f65.q 8 s8_205
          refine go_reg [bx g1 60 (cR a b c d)] [] [some (pt g1 3), some (.int .i64 d), some (.int .u64 (Rg.oneV ⟨⟨p, q⟩, ⟨r, t⟩⟩)), some (.int .i64 (sg (Rg.oneV ⟨⟨p, q⟩, ⟨r, t⟩⟩))), some (.bool false)] mo f65.d f65.z f65.b (by kernel_rfl) ⟨b_g1_206, trivial⟩ (
           hk (fun cx => cx.v (ex_fa rfl (cx.rq 4 s4_207) (faRV60_3_0 _ _)) rfl rfl) <|
           hk (fun cx => cx.v (ex_ld rfl (cx.u 0 rfl) (cx.rn 0 rfl) rfl Try.isAgg2) rfl rfl) <|
           hk (fun cx => cx.v (ex_mv rfl (cx.rq 8 s8_208)) rfl rfl) <|
           hk (fun cx => cx.v (ex_conv (x := .tmp 96) rfl (cx.u 0 rfl) Try.underlying30 Try.underlying2) rfl (congrArg (Value.int .i64) (wrap_sg _))) <|
           hk (fun cx => cx.v (ex_eq (x := .tmp 95) (y := .tmp 97) rfl (cx.u 0 rfl) (cx.u 1 rfl)) rfl (congrArg Value.bool Ffk28.out)) <|
           hn) ?_
          intro a66 w66 f66
          refine wp_cond_false (f66.v 4 rfl rfl rfl) ?_
          refine wp_skip ?_
          have s6_209 := f66.q 6 (f65.q 6 (f64.q 6 (f63.q 6 (f62.q 6 (f15.q 6 (f14.q 6 (f11.q 6 (f10.q 6 (f7.q 6 (f6.q 6 u_g3))))))))))
          have s4_210 := f66.q 4 s4_207
          have b_g3_211 := f66.k (f65.k (f64.k (f63.k (f62.k (f15.k (f14.k (f11.k (f10.k (f7.k (f6.k b_g3))))))))))
          have b_g1_212 := f66.k b_g1_206
          exact ⟨⟨⟨a, b⟩, ⟨c, d⟩⟩, (by rw [(yb Ffk6.out)]; exact gc_1 HA.out HB.out Ffk1.out Ffk2.out Ffk7.out (wu3 Ffk24.out Ffk26.out) (wu3 Ffk27.out Ffk28.out)), f66.d, f66.z, f66.b, ⟨s6_209, s4_210, trivial⟩, ⟨b_g3_211, b_g1_212, trivial⟩⟩
         have Ffk28 := Lib.hid fk28; clear fk28
         have b_g1_213 := f65.k b_g1_203
         have s4_214 := f65.q 4 s4_204
         have s8_215 := f65.q 8 s8_205
         refine go_reg [bx g1 60 (cR a b c d)] [] [some (pt g1 3), some (.int .i64 d), some (.int .u64 (Rg.oneV ⟨⟨p, q⟩, ⟨r, t⟩⟩)), some (.int .i64 (sg (Rg.oneV ⟨⟨p, q⟩, ⟨r, t⟩⟩))), some (.bool true)] mo f65.d f65.z f65.b (by kernel_rfl) ⟨b_g1_213, trivial⟩ (
          hk (fun cx => cx.v (ex_fa rfl (cx.rq 4 s4_214) (faRV60_3_0 _ _)) rfl rfl) <|
          hk (fun cx => cx.v (ex_ld rfl (cx.u 0 rfl) (cx.rn 0 rfl) rfl Try.isAgg2) rfl rfl) <|
          hk (fun cx => cx.v (ex_mv rfl (cx.rq 8 s8_215)) rfl rfl) <|
          hk (fun cx => cx.v (ex_conv (x := .tmp 96) rfl (cx.u 0 rfl) Try.underlying30 Try.underlying2) rfl (congrArg (Value.int .i64) (wrap_sg _))) <|
          hk (fun cx => cx.v (ex_eq (x := .tmp 95) (y := .tmp 97) rfl (cx.u 0 rfl) (cx.u 1 rfl)) rfl (congrArg Value.bool Ffk28.out)) <|
          hn) ?_
         intro a67 w67 f67
         refine wp_cond_true (f67.v 4 rfl rfl rfl) ?_
         have b_g1_216 := f67.k b_g1_213
         have s4_217 := f67.q 4 s4_214
         refine go_reg [⟨g1, 60, (cR a b c d), some 4, (cR a b c (IntKind.i64.wrap (d - 1)))⟩] [] [some (pt g1 3), some (.int .i64 d), some (.int .i64 (IntKind.i64.wrap (d - 1))), some (pt g1 3), none] mo f67.d f67.z f67.b (by kernel_rfl) ⟨b_g1_216, trivial⟩ (
          hk (fun cx => cx.v (ex_fa rfl (cx.rq 4 s4_217) (faRV60_3_0 _ _)) rfl rfl) <|
          hk (fun cx => cx.v (ex_ld rfl (cx.u 0 rfl) (cx.rf 0 rfl (by kernel_rfl)) rfl Try.isAgg2) rfl rfl) <|
          hk (fun cx => cx.v (ex_sub (x := .tmp 100) rfl (cx.u 0 rfl) rfl) rfl rfl) <|
          hk (fun cx => cx.v (ex_fa rfl (cx.rq 4 s4_217) (faRV60_3_0 _ _)) rfl rfl) <|
          hk (fun cx => cx.stC (wn rfl) rfl rfl 0 rfl (cx.u 0 rfl) (cx.u 1 rfl) rfl rfl (by kernel_rfl) rfl rfl q_g1 rfl trivial trivial) <|
          hn) ?_
         intro a68 w68 f68
         have s6_218 := f68.q 6 (f67.q 6 (f65.q 6 (f64.q 6 (f63.q 6 (f62.q 6 (f15.q 6 (f14.q 6 (f11.q 6 (f10.q 6 (f7.q 6 (f6.q 6 u_g3)))))))))))
         have s4_219 := f68.q 4 s4_217
         have b_g3_220 := f68.kp (f67.k (f65.k (f64.k (f63.k (f62.k (f15.k (f14.k (f11.k (f10.k (f7.k (f6.k b_g3))))))))))) ⟨.inr (ne_ptr (pairAt f1.ps 0 2 (by decide) rfl rfl) u_g1 u_g3).symm, trivial⟩
         exact ⟨⟨⟨a, b⟩, ⟨c, IntKind.i64.wrap (d - 1)⟩⟩, (by rw [(yb Ffk6.out)]; exact gc_1 HA.out HB.out Ffk1.out Ffk2.out Ffk7.out (wu3 Ffk24.out Ffk26.out) (ws2 HA.out.2.1 HA.out.2.2 ((may_iff ⟨⟨a, b⟩, ⟨c, d⟩⟩).1 Ffk1.out).2 Ffk27.out Ffk28.out)), f68.d, f68.z, f68.b, ⟨s6_218, s4_219, trivial⟩, ⟨b_g3_220, f68.rows.1, trivial⟩⟩
        have Ffk27 := Lib.hid fk27; clear fk27
        have b_g1_221 := f64.k b_g1_200
        have s4_222 := f64.q 4 s4_201
        have s8_223 := f64.q 8 s8_202
        refine go_reg [bx g1 60 (cR a b c d)] [] [some (pt g1 2), some (.int .i64 c), some (.int .u64 (Rg.oneV ⟨⟨p, q⟩, ⟨r, t⟩⟩)), some (.int .i64 (sg (Rg.oneV ⟨⟨p, q⟩, ⟨r, t⟩⟩))), some (.bool true)] mo f64.d f64.z f64.b (by kernel_rfl) ⟨b_g1_221, trivial⟩ (
         hk (fun cx => cx.v (ex_fa rfl (cx.rq 4 s4_222) (faRV60_2_0 _ _)) rfl rfl) <|
         hk (fun cx => cx.v (ex_ld rfl (cx.u 0 rfl) (cx.rn 0 rfl) rfl Try.isAgg2) rfl rfl) <|
         hk (fun cx => cx.v (ex_mv rfl (cx.rq 8 s8_223)) rfl rfl) <|
         hk (fun cx => cx.v (ex_conv (x := .tmp 87) rfl (cx.u 0 rfl) Try.underlying30 Try.underlying2) rfl (congrArg (Value.int .i64) (wrap_sg _))) <|
         hk (fun cx => cx.v (ex_eq (x := .tmp 86) (y := .tmp 88) rfl (cx.u 0 rfl) (cx.u 1 rfl)) rfl (congrArg Value.bool Ffk27.out)) <|
         hn) ?_
        intro a69 w69 f69
        refine wp_cond_true (f69.v 4 rfl rfl rfl) ?_
        have b_g1_224 := f69.k b_g1_221
        have s4_225 := f69.q 4 s4_222
        refine go_reg [⟨g1, 60, (cR a b c d), some 4, (cR a b (IntKind.i64.wrap (c + 1)) d)⟩] [] [some (pt g1 2), some (.int .i64 c), some (.int .i64 (IntKind.i64.wrap (c + 1))), some (pt g1 2), none] mo f69.d f69.z f69.b (by kernel_rfl) ⟨b_g1_224, trivial⟩ (
         hk (fun cx => cx.v (ex_fa rfl (cx.rq 4 s4_225) (faRV60_2_0 _ _)) rfl rfl) <|
         hk (fun cx => cx.v (ex_ld rfl (cx.u 0 rfl) (cx.rf 0 rfl (by kernel_rfl)) rfl Try.isAgg2) rfl rfl) <|
         hk (fun cx => cx.v (ex_add (x := .tmp 91) rfl (cx.u 0 rfl) rfl) rfl rfl) <|
         hk (fun cx => cx.v (ex_fa rfl (cx.rq 4 s4_225) (faRV60_2_0 _ _)) rfl rfl) <|
         hk (fun cx => cx.stC (wn rfl) rfl rfl 0 rfl (cx.u 0 rfl) (cx.u 1 rfl) rfl rfl (by kernel_rfl) rfl rfl q_g1 rfl trivial trivial) <|
         hn) ?_
        intro a70 w70 f70
        have s6_226 := f70.q 6 (f69.q 6 (f64.q 6 (f63.q 6 (f62.q 6 (f15.q 6 (f14.q 6 (f11.q 6 (f10.q 6 (f7.q 6 (f6.q 6 u_g3))))))))))
        have s4_227 := f70.q 4 s4_225
        have b_g3_228 := f70.kp (f69.k (f64.k (f63.k (f62.k (f15.k (f14.k (f11.k (f10.k (f7.k (f6.k b_g3)))))))))) ⟨.inr (ne_ptr (pairAt f1.ps 0 2 (by decide) rfl rfl) u_g1 u_g3).symm, trivial⟩
        exact ⟨⟨⟨a, b⟩, ⟨IntKind.i64.wrap (c + 1), d⟩⟩, (by rw [(yb Ffk6.out)]; exact gc_1 HA.out HB.out Ffk1.out Ffk2.out Ffk7.out (wu3 Ffk24.out Ffk26.out) (ws1 HA.out.2.1 HA.out.2.2 ((may_iff ⟨⟨a, b⟩, ⟨c, d⟩⟩).1 Ffk1.out).2 Ffk27.out (nb Ffk25.out))), f70.d, f70.z, f70.b, ⟨s6_226, s4_227, trivial⟩, ⟨b_g3_228, f70.rows.1, trivial⟩⟩
       have Ffk26 := Lib.hid fk26; clear fk26
       have b_g1_229 := f63.k b_g1_197
       have s4_230 := f63.q 4 s4_198
       have s8_231 := f63.q 8 s8_199
       refine go_reg [bx g1 60 (cR a b c d)] [] [some (pt g1 1), some (.int .u64 b), some (.int .u64 (Rg.oneV ⟨⟨p, q⟩, ⟨r, t⟩⟩)), some (.bool true)] mo f63.d f63.z f63.b (by kernel_rfl) ⟨b_g1_229, trivial⟩ (
        hk (fun cx => cx.v (ex_fa rfl (cx.rq 4 s4_230) (faRV60_1_0 _ _)) rfl rfl) <|
        hk (fun cx => cx.v (ex_ld rfl (cx.u 0 rfl) (cx.rn 0 rfl) rfl Try.isAgg30) rfl rfl) <|
        hk (fun cx => cx.v (ex_mv rfl (cx.rq 8 s8_231)) rfl rfl) <|
        hk (fun cx => cx.v (ex_eq (x := .tmp 78) (y := .tmp 79) rfl (cx.u 0 rfl) (cx.u 1 rfl)) rfl (congrArg Value.bool Ffk26.out)) <|
        hn) ?_
       intro a71 w71 f71
       refine wp_cond_true (f71.v 3 rfl rfl rfl) ?_
       have b_g1_232 := f71.k b_g1_229
       have s4_233 := f71.q 4 s4_230
       refine go_reg [⟨g1, 60, (cR a b c d), some 4, (cR a (IntKind.u64.wrap (b - 1)) c d)⟩] [] [some (pt g1 1), some (.int .u64 b), some (.int .u64 (IntKind.u64.wrap (b - 1))), some (pt g1 1), none] mo f71.d f71.z f71.b (by kernel_rfl) ⟨b_g1_232, trivial⟩ (
        hk (fun cx => cx.v (ex_fa rfl (cx.rq 4 s4_233) (faRV60_1_0 _ _)) rfl rfl) <|
        hk (fun cx => cx.v (ex_ld rfl (cx.u 0 rfl) (cx.rf 0 rfl (by kernel_rfl)) rfl Try.isAgg30) rfl rfl) <|
        hk (fun cx => cx.v (ex_sub (x := .tmp 82) rfl (cx.u 0 rfl) rfl) rfl rfl) <|
        hk (fun cx => cx.v (ex_fa rfl (cx.rq 4 s4_233) (faRV60_1_0 _ _)) rfl rfl) <|
        hk (fun cx => cx.stC (wn rfl) rfl rfl 0 rfl (cx.u 0 rfl) (cx.u 1 rfl) rfl rfl (by kernel_rfl) rfl rfl q_g1 rfl trivial trivial) <|
        hn) ?_
       intro a72 w72 f72
       refine wp_seq ?_
       cases fk29 : c == (sg (Rg.oneV ⟨⟨p, q⟩, ⟨r, t⟩⟩))
       case false =>
        have Ffk29 := Lib.hid fk29; clear fk29
        have s4_234 := f72.q 4 s4_233
        have s8_235 := f72.q 8 (f71.q 8 s8_231)
        refine go_reg [bx g1 60 (cR a (IntKind.u64.wrap (b - 1)) c d)] [] [some (pt g1 2), some (.int .i64 c), some (.int .u64 (Rg.oneV ⟨⟨p, q⟩, ⟨r, t⟩⟩)), some (.int .i64 (sg (Rg.oneV ⟨⟨p, q⟩, ⟨r, t⟩⟩))), some (.bool false)] mo f72.d f72.z f72.b (by kernel_rfl) ⟨f72.rows.1, trivial⟩ (
         hk (fun cx => cx.v (ex_fa rfl (cx.rq 4 s4_234) (faRV60_2_0 _ _)) rfl rfl) <|
         hk (fun cx => cx.v (ex_ld rfl (cx.u 0 rfl) (cx.rn 0 rfl) rfl Try.isAgg2) rfl rfl) <|
         hk (fun cx => cx.v (ex_mv rfl (cx.rq 8 s8_235)) rfl rfl) <|
         hk (fun cx => cx.v (ex_conv (x := .tmp 87) rfl (cx.u 0 rfl) Try.underlying30 Try.underlying2) rfl (congrArg (Value.int .i64) (wrap_sg _))) <|
         hk (fun cx => cx.v (ex_eq (x := .tmp 86) (y := .tmp 88) rfl (cx.u 0 rfl) (cx.u 1 rfl)) rfl (congrArg Value.bool Ffk29.out)) <|
         hn) ?_
        intro a73 w73 f73
        refine wp_cond_false (f73.v 4 rfl rfl rfl) ?_
        refine wp_seq ?_
        cases fk30 : d == (sg (Rg.oneV ⟨⟨p, q⟩, ⟨r, t⟩⟩))
        case false =>
         have Ffk30 := Lib.hid fk30; clear fk30
         have b_g1_236 := f73.k f72.rows.1
         have s4_237 := f73.q 4 s4_234
         have s8_238 := f73.q 8 s8_235
         refine go_reg [bx g1 60 (cR a (IntKind.u64.wrap (b - 1)) c d)] [] [some (pt g1 3), some (.int .i64 d), some (.int .u64 (Rg.oneV ⟨⟨p, q⟩, ⟨r, t⟩⟩)), some (.int .i64 (sg (Rg.oneV ⟨⟨p, q⟩, ⟨r, t⟩⟩))), some (.bool false)] mo f73.d f73.z f73.b (by kernel_rfl) ⟨b_g1_236, trivial⟩ (
          hk (fun cx => cx.v (ex_fa rfl (cx.rq 4 s4_237) (faRV60_3_0 _ _)) rfl rfl) <|
          hk (fun cx => cx.v (ex_ld rfl (cx.u 0 rfl) (cx.rn 0 rfl) rfl Try.isAgg2) rfl rfl) <|
          hk (fun cx => cx.v (ex_mv rfl (cx.rq 8 s8_238)) rfl rfl) <|
          hk (fun cx => cx.v (ex_conv (x := .tmp 96) rfl (cx.u 0 rfl) Try.underlying30 Try.underlying2) rfl (congrArg (Value.int .i64) (wrap_sg _))) <|
          hk (fun cx => cx.v (ex_eq (x := .tmp 95) (y := .tmp 97) rfl (cx.u 0 rfl) (cx.u 1 rfl)) rfl (congrArg Value.bool Ffk30.out)) <|
          hn) ?_
         intro a74 w74 f74
         refine wp_cond_false (f74.v 4 rfl rfl rfl) ?_
         refine wp_skip ?_
         have s6_239 := f74.q 6 (f73.q 6 (f72.q 6 (f71.q 6 (f63.q 6 (f62.q 6 (f15.q 6 (f14.q 6 (f11.q 6 (f10.q 6 (f7.q 6 (f6.q 6 u_g3)))))))))))
         have s4_240 := f74.q 4 s4_237
         have b_g3_241 := f74.k (f73.k (f72.kp (f71.k (f63.k (f62.k (f15.k (f14.k (f11.k (f10.k (f7.k (f6.k b_g3))))))))) ⟨.inr (ne_ptr (pairAt f1.ps 0 2 (by decide) rfl rfl) u_g1 u_g3).symm, trivial⟩))
         have b_g1_242 := f74.k b_g1_236
         exact ⟨⟨⟨a, IntKind.u64.wrap (b - 1)⟩, ⟨c, d⟩⟩, (by rw [(yb Ffk6.out)]; exact gc_1 HA.out HB.out Ffk1.out Ffk2.out Ffk7.out (wu2 HA.out.1.1.1 HA.out.1.2.2 ((may_iff ⟨⟨a, b⟩, ⟨c, d⟩⟩).1 Ffk1.out).1 Ffk24.out Ffk26.out) (wu3 Ffk29.out Ffk30.out)), f74.d, f74.z, f74.b, ⟨s6_239, s4_240, trivial⟩, ⟨b_g3_241, b_g1_242, trivial⟩⟩
        have Ffk30 := Lib.hid fk30; clear fk30
        have b_g1_243 := f73.k f72.rows.1
        have s4_244 := f73.q 4 s4_234
        have s8_245 := f73.q 8 s8_235
        refine go_reg [bx g1 60 (cR a (IntKind.u64.wrap (b - 1)) c d)] [] [some (pt g1 3), some (.int .i64 d), some (.int .u64 (Rg.oneV ⟨⟨p, q⟩, ⟨r, t⟩⟩)), some (.int .i64 (sg (Rg.oneV ⟨⟨p, q⟩, ⟨r, t⟩⟩))), some (.bool true)] mo f73.d f73.z f73.b (by kernel_rfl) ⟨b_g1_243, trivial⟩ (
         hk (fun cx => cx.v (ex_fa rfl (cx.rq 4 s4_244) (faRV60_3_0 _ _)) rfl rfl) <|
         hk (fun cx => cx.v (ex_ld rfl (cx.u 0 rfl) (cx.rn 0 rfl) rfl Try.isAgg2) rfl rfl) <|
         hk (fun cx => cx.v (ex_mv rfl (cx.rq 8 s8_245)) rfl rfl) <|
         hk (fun cx => cx.v (ex_conv (x := .tmp 96) rfl (cx.u 0 rfl) Try.underlying30 Try.underlying2) rfl (congrArg (Value.int .i64) (wrap_sg _))) <|
         hk (fun cx => cx.v (ex_eq (x := .tmp 95) (y := .tmp 97) rfl (cx.u 0 rfl) (cx.u 1 rfl)) rfl (congrArg Value.bool Ffk30.out)) <|
         hn) ?_
        intro a75 w75 f75
        refine wp_cond_true (f75.v 4 rfl rfl rfl) ?_
        have b_g1_246 := f75.k b_g1_243
        have s4_247 := f75.q 4 s4_244
        refine go_reg [⟨g1, 60, (cR a (IntKind.u64.wrap (b - 1)) c d), some 4, (cR a (IntKind.u64.wrap (b - 1)) c (IntKind.i64.wrap (d - 1)))⟩] [] [some (pt g1 3), some (.int .i64 d), some (.int .i64 (IntKind.i64.wrap (d - 1))), some (pt g1 3), none] mo f75.d f75.z f75.b (by kernel_rfl) ⟨b_g1_246, trivial⟩ (
         hk (fun cx => cx.v (ex_fa rfl (cx.rq 4 s4_247) (faRV60_3_0 _ _)) rfl rfl) <|
         hk (fun cx => cx.v (ex_ld rfl (cx.u 0 rfl) (cx.rf 0 rfl (by kernel_rfl)) rfl Try.isAgg2) rfl rfl) <|
         hk (fun cx => cx.v (ex_sub (x := .tmp 100) rfl (cx.u 0 rfl) rfl) rfl rfl) <|
         hk (fun cx => cx.v (ex_fa rfl (cx.rq 4 s4_247) (faRV60_3_0 _ _)) rfl rfl) <|
         hk (fun cx => cx.stC (wn rfl) rfl rfl 0 rfl (cx.u 0 rfl) (cx.u 1 rfl) rfl rfl (by kernel_rfl) rfl rfl q_g1 rfl trivial trivial) <|
         hn) ?_
        intro a76 w76 f76
        have s6_248 := f76.q 6 (f75.q 6 (f73.q 6 (f72.q 6 (f71.q 6 (f63.q 6 (f62.q 6 (f15.q 6 (f14.q 6 (f11.q 6 (f10.q 6 (f7.q 6 (f6.q 6 u_g3))))))))))))
        have s4_249 := f76.q 4 s4_247
        have b_g3_250 := f76.kp (f75.k (f73.k (f72.kp (f71.k (f63.k (f62.k (f15.k (f14.k (f11.k (f10.k (f7.k (f6.k b_g3))))))))) ⟨.inr (ne_ptr (pairAt f1.ps 0 2 (by decide) rfl rfl) u_g1 u_g3).symm, trivial⟩))) ⟨.inr (ne_ptr (pairAt f1.ps 0 2 (by decide) rfl rfl) u_g1 u_g3).symm, trivial⟩
        exact ⟨⟨⟨a, IntKind.u64.wrap (b - 1)⟩, ⟨c, IntKind.i64.wrap (d - 1)⟩⟩, (by rw [(yb Ffk6.out)]; exact gc_1 HA.out HB.out Ffk1.out Ffk2.out Ffk7.out (wu2 HA.out.1.1.1 HA.out.1.2.2 ((may_iff ⟨⟨a, b⟩, ⟨c, d⟩⟩).1 Ffk1.out).1 Ffk24.out Ffk26.out) (ws2 HA.out.2.1 HA.out.2.2 ((may_iff ⟨⟨a, b⟩, ⟨c, d⟩⟩).1 Ffk1.out).2 Ffk29.out Ffk30.out)), f76.d, f76.z, f76.b, ⟨s6_248, s4_249, trivial⟩, ⟨b_g3_250, f76.rows.1, trivial⟩⟩
       have Ffk29 := Lib.hid fk29; clear fk29
       have s4_251 := f72.q 4 s4_233
       have s8_252 := f72.q 8 (f71.q 8 s8_231)
       refine go_reg [bx g1 60 (cR a (IntKind.u64.wrap (b - 1)) c d)] [] [some (pt g1 2), some (.int .i64 c), some (.int .u64 (Rg.oneV ⟨⟨p, q⟩, ⟨r, t⟩⟩)), some (.int .i64 (sg (Rg.oneV ⟨⟨p, q⟩, ⟨r, t⟩⟩))), some (.bool true)] mo f72.d f72.z f72.b (by kernel_rfl) ⟨f72.rows.1, trivial⟩ (
        hk (fun cx => cx.v (ex_fa rfl (cx.rq 4 s4_251) (faRV60_2_0 _ _)) rfl rfl) <|
        hk (fun cx => cx.v (ex_ld rfl (cx.u 0 rfl) (cx.rn 0 rfl) rfl Try.isAgg2) rfl rfl) <|
        hk (fun cx => cx.v (ex_mv rfl (cx.rq 8 s8_252)) rfl rfl) <|
        hk (fun cx => cx.v (ex_conv (x := .tmp 87) rfl (cx.u 0 rfl) Try.underlying30 Try.underlying2) rfl (congrArg (Value.int .i64) (wrap_sg _))) <|
        hk (fun cx => cx.v (ex_eq (x := .tmp 86) (y := .tmp 88) rfl (cx.u 0 rfl) (cx.u 1 rfl)) rfl (congrArg Value.bool Ffk29.out)) <|
        hn) ?_
       intro a77 w77 f77
       refine wp_cond_true (f77.v 4 rfl rfl rfl) ?_
       have b_g1_253 := f77.k f72.rows.1
       have s4_254 := f77.q 4 s4_251
       refine go_reg [⟨g1, 60, (cR a (IntKind.u64.wrap (b - 1)) c d), some 4, (cR a (IntKind.u64.wrap (b - 1)) (IntKind.i64.wrap (c + 1)) d)⟩] [] [some (pt g1 2), some (.int .i64 c), some (.int .i64 (IntKind.i64.wrap (c + 1))), some (pt g1 2), none] mo f77.d f77.z f77.b (by kernel_rfl) ⟨b_g1_253, trivial⟩ (
        hk (fun cx => cx.v (ex_fa rfl (cx.rq 4 s4_254) (faRV60_2_0 _ _)) rfl rfl) <|
        hk (fun cx => cx.v (ex_ld rfl (cx.u 0 rfl) (cx.rf 0 rfl (by kernel_rfl)) rfl Try.isAgg2) rfl rfl) <|
        hk (fun cx => cx.v (ex_add (x := .tmp 91) rfl (cx.u 0 rfl) rfl) rfl rfl) <|
        hk (fun cx => cx.v (ex_fa rfl (cx.rq 4 s4_254) (faRV60_2_0 _ _)) rfl rfl) <|
        hk (fun cx => cx.stC (wn rfl) rfl rfl 0 rfl (cx.u 0 rfl) (cx.u 1 rfl) rfl rfl (by kernel_rfl) rfl rfl q_g1 rfl trivial trivial) <|
        hn) ?_
       intro a78 w78 f78
       have s6_255 := f78.q 6 (f77.q 6 (f72.q 6 (f71.q 6 (f63.q 6 (f62.q 6 (f15.q 6 (f14.q 6 (f11.q 6 (f10.q 6 (f7.q 6 (f6.q 6 u_g3)))))))))))
       have s4_256 := f78.q 4 s4_254
       have b_g3_257 := f78.kp (f77.k (f72.kp (f71.k (f63.k (f62.k (f15.k (f14.k (f11.k (f10.k (f7.k (f6.k b_g3))))))))) ⟨.inr (ne_ptr (pairAt f1.ps 0 2 (by decide) rfl rfl) u_g1 u_g3).symm, trivial⟩)) ⟨.inr (ne_ptr (pairAt f1.ps 0 2 (by decide) rfl rfl) u_g1 u_g3).symm, trivial⟩
       exact ⟨⟨⟨a, IntKind.u64.wrap (b - 1)⟩, ⟨IntKind.i64.wrap (c + 1), d⟩⟩, (by rw [(yb Ffk6.out)]; exact gc_1 HA.out HB.out Ffk1.out Ffk2.out Ffk7.out (wu2 HA.out.1.1.1 HA.out.1.2.2 ((may_iff ⟨⟨a, b⟩, ⟨c, d⟩⟩).1 Ffk1.out).1 Ffk24.out Ffk26.out) (ws1 HA.out.2.1 HA.out.2.2 ((may_iff ⟨⟨a, b⟩, ⟨c, d⟩⟩).1 Ffk1.out).2 Ffk29.out (nb Ffk25.out))), f78.d, f78.z, f78.b, ⟨s6_255, s4_256, trivial⟩, ⟨b_g3_257, f78.rows.1, trivial⟩⟩
      have Ffk25 := Lib.hid fk25; clear fk25
      cases fk31 : c == (sg (Rg.oneV ⟨⟨p, q⟩, ⟨r, t⟩⟩))
      case false =>
       have Ffk31 := Lib.hid fk31; clear fk31
       have b_g1_258 := f15.k (f14.k (f11.k (f10.k (f7.k (f6.k b_g1)))))
       have s4_259 := f15.q 4 (f14.q 4 (f11.q 4 (f10.q 4 (f7.q 4 (f6.q 4 u_g1)))))
       have s8_260 := f15.q 8 (f14.v 5 rfl rfl rfl)
       refine go_reg [bx g1 60 (cR a b c d)] [] (tabs [some (pt g1 0), some (.int .u64 a), some (pt g1 1), some (.int .u64 b), some (.bool true), some (.bool true), some (pt g1 0), some (.int .u64 a), some (.int .u64 (Rg.oneV ⟨⟨p, q⟩, ⟨r, t⟩⟩)), some (.bool false), some (.bool false), some (.bool false), some (pt g1 2), some (.int .i64 c), some (pt g1 3), some (.int .i64 d), some (.bool true), some (.bool true), some (pt g1 2), some (.int .i64 c)] [some (.int .u64 (Rg.oneV ⟨⟨p, q⟩, ⟨r, t⟩⟩)), some (.int .i64 (sg (Rg.oneV ⟨⟨p, q⟩, ⟨r, t⟩⟩))), some (.bool false), some (.bool false), some (.bool false)]) mo f15.d f15.z f15.b (by kernel_rfl) ⟨b_g1_258, trivial⟩ (
        hk (fun cx => cx.v (ex_fa rfl (cx.rq 4 s4_259) (faRV60_0_0 _ _)) rfl rfl) <|
        hk (fun cx => cx.v (ex_ld rfl (cx.u 0 rfl) (cx.rn 0 rfl) rfl Try.isAgg30) rfl rfl) <|
        hk (fun cx => cx.v (ex_fa rfl (cx.rq 4 s4_259) (faRV60_1_0 _ _)) rfl rfl) <|
        hk (fun cx => cx.v (ex_ld rfl (cx.u 0 rfl) (cx.rn 0 rfl) rfl Try.isAgg30) rfl rfl) <|
        hk (fun cx => cx.v (ex_eq (x := .tmp 44) (y := .tmp 46) rfl (cx.u 0 rfl) (cx.u 1 rfl)) rfl (congrArg Value.bool Ffk8.out)) <|
        hk (fun cx => cx.v (ex_mv rfl (cx.u 0 rfl)) rfl rfl) <|
        hk (fun cx => cx.val (cx.wy rfl rfl rfl rfl (cx.u 0 rfl)) (ex_fa rfl (cx.rq 4 s4_259) (faRV60_0_0 _ _)) rfl rfl rfl rfl) <|
        hk (fun cx => cx.val (cx.wy rfl rfl rfl rfl (cx.u 1 rfl)) (ex_ld rfl (cx.u 0 rfl) (cx.rn 0 rfl) rfl Try.isAgg30) rfl rfl rfl rfl) <|
        hk (fun cx => cx.val (cx.wy rfl rfl rfl rfl (cx.u 0 rfl)) (ex_mv rfl (cx.rq 8 s8_260)) rfl rfl rfl rfl) <|
        hk (fun cx => cx.val (cx.wy rfl rfl rfl rfl (cx.u 2 rfl)) (ex_eq (x := .tmp 50) (y := .tmp 51) rfl (cx.u 0 rfl) (cx.u 1 rfl)) rfl rfl (congrArg Value.bool Ffk24.out) rfl) <|
        hk (fun cx => cx.v (ex_pt rfl (cx.u 0 rfl) (cx.u 1 rfl)) rfl rfl) <|
        hk (fun cx => cx.v (ex_mv rfl (cx.u 0 rfl)) rfl rfl) <|
        hk (fun cx => cx.val (cx.wy rfl rfl rfl rfl (cx.u 0 rfl)) (ex_fa rfl (cx.rq 4 s4_259) (faRV60_2_0 _ _)) rfl rfl rfl rfl) <|
        hk (fun cx => cx.val (cx.wy rfl rfl rfl rfl (cx.u 1 rfl)) (ex_ld rfl (cx.u 0 rfl) (cx.rn 0 rfl) rfl Try.isAgg2) rfl rfl rfl rfl) <|
        hk (fun cx => cx.val (cx.wy rfl rfl rfl rfl (cx.u 0 rfl)) (ex_fa rfl (cx.rq 4 s4_259) (faRV60_3_0 _ _)) rfl rfl rfl rfl) <|
        hk (fun cx => cx.val (cx.wy rfl rfl rfl rfl (cx.u 1 rfl)) (ex_ld rfl (cx.u 0 rfl) (cx.rn 0 rfl) rfl Try.isAgg2) rfl rfl rfl rfl) <|
        hk (fun cx => cx.val (cx.wy rfl rfl rfl rfl (cx.u 2 rfl)) (ex_eq (x := .tmp 56) (y := .tmp 58) rfl (cx.u 0 rfl) (cx.u 1 rfl)) rfl rfl (congrArg Value.bool Ffk25.out) rfl) <|
        hk (fun cx => cx.val (cx.wy rfl rfl rfl rfl (cx.u 1 rfl)) (ex_mv rfl (cx.u 0 rfl)) rfl rfl rfl rfl) <|
        hk (fun cx => cx.val (cx.wy rfl rfl rfl rfl (cx.u 0 rfl)) (ex_fa rfl (cx.rq 4 s4_259) (faRV60_2_0 _ _)) rfl rfl rfl rfl) <|
        hk (fun cx => cx.val (cx.wy rfl rfl rfl rfl (cx.u 1 rfl)) (ex_ld rfl (cx.u 0 rfl) (cx.rn 0 rfl) rfl Try.isAgg2) rfl rfl rfl rfl) <|
        hk (fun cx => cx.val (cx.wy rfl rfl rfl rfl (cx.u 0 rfl)) (ex_mv rfl (cx.rq 8 s8_260)) rfl rfl rfl rfl) <|
        hk (fun cx => cx.val (cx.wy rfl rfl rfl rfl (cx.u 1 rfl)) (ex_conv (x := .tmp 63) rfl (cx.u 0 rfl) Try.underlying30 Try.underlying2) rfl rfl (congrArg (Value.int .i64) (wrap_sg _)) rfl) <|
        hk (fun cx => cx.val (cx.wy rfl rfl rfl rfl (cx.u 2 rfl)) (ex_eq (x := .tmp 62) (y := .tmp 64) rfl (cx.u 0 rfl) (cx.u 1 rfl)) rfl rfl (congrArg Value.bool Ffk31.out) rfl) <|
        hk (fun cx => cx.val (cx.wy rfl rfl rfl rfl (cx.u 2 rfl)) (ex_pt rfl (cx.u 0 rfl) (cx.u 1 rfl)) rfl rfl rfl rfl) <|
        hk (fun cx => cx.v (ex_pf rfl (cx.u 0 rfl) (cx.u 1 rfl)) rfl rfl) <|
        hn) ?_
       intro a79 w79 f79
       refine wp_cond_false (f79.v 24 rfl rfl rfl) ?_
       refine wp_skip ?_
       refine wp_seq ?_
       refine wp_seq ?_
       have b_g1_261 := f79.k b_g1_258
       have s4_262 := f79.q 4 s4_259
       have s8_263 := f79.q 8 s8_260
       refine go_reg [bx g1 60 (cR a b c d)] [] [some (pt g1 0), some (.int .u64 a), some (.int .u64 (Rg.oneV ⟨⟨p, q⟩, ⟨r, t⟩⟩)), some (.bool false)] mo f79.d f79.z f79.b (by kernel_rfl) ⟨b_g1_261, trivial⟩ (
        hk (fun cx => cx.v (ex_fa rfl (cx.rq 4 s4_262) (faRV60_0_0 _ _)) rfl rfl) <|
        hk (fun cx => cx.v (ex_ld rfl (cx.u 0 rfl) (cx.rn 0 rfl) rfl Try.isAgg30) rfl rfl) <|
        hk (fun cx => cx.v (ex_mv rfl (cx.rq 8 s8_263)) rfl rfl) <|
        hk (fun cx => cx.v (ex_eq (x := .tmp 70) (y := .tmp 71) rfl (cx.u 0 rfl) (cx.u 1 rfl)) rfl (congrArg Value.bool Ffk24.out)) <|
        hn) ?_
       intro a80 w80 f80
       refine wp_cond_false (f80.v 3 rfl rfl rfl) ?_
       refine wp_seq ?_
       cases fk32 : b == (Rg.oneV ⟨⟨p, q⟩, ⟨r, t⟩⟩)
       case false =>
        have Ffk32 := Lib.hid fk32; clear fk32
        have b_g1_264 := f80.k b_g1_261
        have s4_265 := f80.q 4 s4_262
        have s8_266 := f80.q 8 s8_263
        refine go_reg [bx g1 60 (cR a b c d)] [] [some (pt g1 1), some (.int .u64 b), some (.int .u64 (Rg.oneV ⟨⟨p, q⟩, ⟨r, t⟩⟩)), some (.bool false)] mo f80.d f80.z f80.b (by kernel_rfl) ⟨b_g1_264, trivial⟩ (
         hk (fun cx => cx.v (ex_fa rfl (cx.rq 4 s4_265) (faRV60_1_0 _ _)) rfl rfl) <|
         hk (fun cx => cx.v (ex_ld rfl (cx.u 0 rfl) (cx.rn 0 rfl) rfl Try.isAgg30) rfl rfl) <|
         hk (fun cx => cx.v (ex_mv rfl (cx.rq 8 s8_266)) rfl rfl) <|
         hk (fun cx => cx.v (ex_eq (x := .tmp 78) (y := .tmp 79) rfl (cx.u 0 rfl) (cx.u 1 rfl)) rfl (congrArg Value.bool Ffk32.out)) <|
         hn) ?_
        intro a81 w81 f81
        refine wp_cond_false (f81.v 3 rfl rfl rfl) ?_
        refine wp_skip ?_
        refine wp_seq ?_
        have b_g1_267 := f81.k b_g1_264
        have s4_268 := f81.q 4 s4_265
        have s8_269 := f81.q 8 s8_266
        refine go_reg [bx g1 60 (cR a b c d)] [] [some (pt g1 2), some (.int .i64 c), some (.int .u64 (Rg.oneV ⟨⟨p, q⟩, ⟨r, t⟩⟩)), some (.int .i64 (sg (Rg.oneV ⟨⟨p, q⟩, ⟨r, t⟩⟩))), some (.bool false)] mo f81.d f81.z f81.b (by kernel_rfl) ⟨b_g1_267, trivial⟩ (
         hk (fun cx => cx.v (ex_fa rfl (cx.rq 4 s4_268) (faRV60_2_0 _ _)) rfl rfl) <|
         hk (fun cx => cx.v (ex_ld rfl (cx.u 0 rfl) (cx.rn 0 rfl) rfl Try.isAgg2) rfl rfl) <|
         hk (fun cx => cx.v (ex_mv rfl (cx.rq 8 s8_269)) rfl rfl) <|
         hk (fun cx => cx.v (ex_conv (x := .tmp 87) rfl (cx.u 0 rfl) Try.underlying30 Try.underlying2) rfl (congrArg (Value.int .i64) (wrap_sg _))) <|
         hk (fun cx => cx.v (ex_eq (x := .tmp 86) (y := .tmp 88) rfl (cx.u 0 rfl) (cx.u 1 rfl)) rfl (congrArg Value.bool Ffk31.out)) <|
         hn) ?_
        intro a82 w82 f82
        refine wp_cond_false (f82.v 4 rfl rfl rfl) ?_
        refine wp_seq ?_
        cases fk33 : d == (sg (Rg.oneV ⟨⟨p, q⟩, ⟨r, t⟩⟩))
        case false =>
         have Ffk33 := Lib.hid fk33; clear fk33
         have b_g1_270 := f82.k b_g1_267
         have s4_271 := f82.q 4 s4_268
         have s8_272 := f82.q 8 s8_269
         refine go_reg [bx g1 60 (cR a b c d)] [] [some (pt g1 3), some (.int .i64 d), some (.int .u64 (Rg.oneV ⟨⟨p, q⟩, ⟨r, t⟩⟩)), some (.int .i64 (sg (Rg.oneV ⟨⟨p, q⟩, ⟨r, t⟩⟩))), some (.bool false)] mo f82.d f82.z f82.b (by kernel_rfl) ⟨b_g1_270, trivial⟩ (
          hk (fun cx => cx.v (ex_fa rfl (cx.rq 4 s4_271) (faRV60_3_0 _ _)) rfl rfl) <|
          hk (fun cx => cx.v (ex_ld rfl (cx.u 0 rfl) (cx.rn 0 rfl) rfl Try.isAgg2) rfl rfl) <|
          hk (fun cx => cx.v (ex_mv rfl (cx.rq 8 s8_272)) rfl rfl) <|
          hk (fun cx => cx.v (ex_conv (x := .tmp 96) rfl (cx.u 0 rfl) Try.underlying30 Try.underlying2) rfl (congrArg (Value.int .i64) (wrap_sg _))) <|
          hk (fun cx => cx.v (ex_eq (x := .tmp 95) (y := .tmp 97) rfl (cx.u 0 rfl) (cx.u 1 rfl)) rfl (congrArg Value.bool Ffk33.out)) <|
          hn) ?_
         intro a83 w83 f83
         refine wp_cond_false (f83.v 4 rfl rfl rfl) ?_
         refine wp_skip ?_
         have s6_273 := f83.q 6 (f82.q 6 (f81.q 6 (f80.q 6 (f79.q 6 (f15.q 6 (f14.q 6 (f11.q 6 (f10.q 6 (f7.q 6 (f6.q 6 u_g3))))))))))
         have s4_274 := f83.q 4 s4_271
         have b_g3_275 := f83.k (f82.k (f81.k (f80.k (f79.k (f15.k (f14.k (f11.k (f10.k (f7.k (f6.k b_g3))))))))))
         have b_g1_276 := f83.k b_g1_270
         exact ⟨⟨⟨a, b⟩, ⟨c, d⟩⟩, (by rw [(yb Ffk6.out)]; exact gc_1 HA.out HB.out Ffk1.out Ffk2.out Ffk7.out (wu3 Ffk24.out Ffk32.out) (wu3 Ffk31.out Ffk33.out)), f83.d, f83.z, f83.b, ⟨s6_273, s4_274, trivial⟩, ⟨b_g3_275, b_g1_276, trivial⟩⟩
        have Ffk33 := Lib.hid fk33; clear fk33
        have b_g1_277 := f82.k b_g1_267
        have s4_278 := f82.q 4 s4_268
        have s8_279 := f82.q 8 s8_269
        refine go_reg [bx g1 60 (cR a b c d)] [] [some (pt g1 3), some (.int .i64 d), some (.int .u64 (Rg.oneV ⟨⟨p, q⟩, ⟨r, t⟩⟩)), some (.int .i64 (sg (Rg.oneV ⟨⟨p, q⟩, ⟨r, t⟩⟩))), some (.bool true)] mo f82.d f82.z f82.b (by kernel_rfl) ⟨b_g1_277, trivial⟩ (
         hk (fun cx => cx.v (ex_fa rfl (cx.rq 4 s4_278) (faRV60_3_0 _ _)) rfl rfl) <|
         hk (fun cx => cx.v (ex_ld rfl (cx.u 0 rfl) (cx.rn 0 rfl) rfl Try.isAgg2) rfl rfl) <|
         hk (fun cx => cx.v (ex_mv rfl (cx.rq 8 s8_279)) rfl rfl) <|
         hk (fun cx => cx.v (ex_conv (x := .tmp 96) rfl (cx.u 0 rfl) Try.underlying30 Try.underlying2) rfl (congrArg (Value.int .i64) (wrap_sg _))) <|
         hk (fun cx => cx.v (ex_eq (x := .tmp 95) (y := .tmp 97) rfl (cx.u 0 rfl) (cx.u 1 rfl)) rfl (congrArg Value.bool Ffk33.out)) <|
         hn) ?_
        intro a84 w84 f84
        refine wp_cond_true (f84.v 4 rfl rfl rfl) ?_
        have b_g1_280 := f84.k b_g1_277
        have s4_281 := f84.q 4 s4_278
        refine go_reg [⟨g1, 60, (cR a b c d), some 4, (cR a b c (IntKind.i64.wrap (d - 1)))⟩] [] [some (pt g1 3), some (.int .i64 d), some (.int .i64 (IntKind.i64.wrap (d - 1))), some (pt g1 3), none] mo f84.d f84.z f84.b (by kernel_rfl) ⟨b_g1_280, trivial⟩ (
         hk (fun cx => cx.v (ex_fa rfl (cx.rq 4 s4_281) (faRV60_3_0 _ _)) rfl rfl) <|
         hk (fun cx => cx.v (ex_ld rfl (cx.u 0 rfl) (cx.rf 0 rfl (by kernel_rfl)) rfl Try.isAgg2) rfl rfl) <|
         hk (fun cx => cx.v (ex_sub (x := .tmp 100) rfl (cx.u 0 rfl) rfl) rfl rfl) <|
         hk (fun cx => cx.v (ex_fa rfl (cx.rq 4 s4_281) (faRV60_3_0 _ _)) rfl rfl) <|
         hk (fun cx => cx.stC (wn rfl) rfl rfl 0 rfl (cx.u 0 rfl) (cx.u 1 rfl) rfl rfl (by kernel_rfl) rfl rfl q_g1 rfl trivial trivial) <|
         hn) ?_
        intro a85 w85 f85
        have s6_282 := f85.q 6 (f84.q 6 (f82.q 6 (f81.q 6 (f80.q 6 (f79.q 6 (f15.q 6 (f14.q 6 (f11.q 6 (f10.q 6 (f7.q 6 (f6.q 6 u_g3)))))))))))
        have s4_283 := f85.q 4 s4_281
        have b_g3_284 := f85.kp (f84.k (f82.k (f81.k (f80.k (f79.k (f15.k (f14.k (f11.k (f10.k (f7.k (f6.k b_g3))))))))))) ⟨.inr (ne_ptr (pairAt f1.ps 0 2 (by decide) rfl rfl) u_g1 u_g3).symm, trivial⟩
        exact ⟨⟨⟨a, b⟩, ⟨c, IntKind.i64.wrap (d - 1)⟩⟩, (by rw [(yb Ffk6.out)]; exact gc_1 HA.out HB.out Ffk1.out Ffk2.out Ffk7.out (wu3 Ffk24.out Ffk32.out) (ws2 HA.out.2.1 HA.out.2.2 ((may_iff ⟨⟨a, b⟩, ⟨c, d⟩⟩).1 Ffk1.out).2 Ffk31.out Ffk33.out)), f85.d, f85.z, f85.b, ⟨s6_282, s4_283, trivial⟩, ⟨b_g3_284, f85.rows.1, trivial⟩⟩
       have Ffk32 := Lib.hid fk32; clear fk32
       have b_g1_285 := f80.k b_g1_261
       have s4_286 := f80.q 4 s4_262
       have s8_287 := f80.q 8 s8_263
       refine go_reg [bx g1 60 (cR a b c d)] [] [some (pt g1 1), some (.int .u64 b), some (.int .u64 (Rg.oneV ⟨⟨p, q⟩, ⟨r, t⟩⟩)), some (.bool true)] mo f80.d f80.z f80.b (by kernel_rfl) ⟨b_g1_285, trivial⟩ (
        hk (fun cx => cx.v (ex_fa rfl (cx.rq 4 s4_286) (faRV60_1_0 _ _)) rfl rfl) <|
        hk (fun cx => cx.v (ex_ld rfl (cx.u 0 rfl) (cx.rn 0 rfl) rfl Try.isAgg30) rfl rfl) <|
        hk (fun cx => cx.v (ex_mv rfl (cx.rq 8 s8_287)) rfl rfl) <|
        hk (fun cx => cx.v (ex_eq (x := .tmp 78) (y := .tmp 79) rfl (cx.u 0 rfl) (cx.u 1 rfl)) rfl (congrArg Value.bool Ffk32.out)) <|
        hn) ?_
       intro a86 w86 f86
       refine wp_cond_true (f86.v 3 rfl rfl rfl) ?_
       have b_g1_288 := f86.k b_g1_285
       have s4_289 := f86.q 4 s4_286
       refine go_reg [⟨g1, 60, (cR a b c d), some 4, (cR a (IntKind.u64.wrap (b - 1)) c d)⟩] [] [some (pt g1 1), some (.int .u64 b), some (.int .u64 (IntKind.u64.wrap (b - 1))), some (pt g1 1), none] mo f86.d f86.z f86.b (by kernel_rfl) ⟨b_g1_288, trivial⟩ (
        hk (fun cx => cx.v (ex_fa rfl (cx.rq 4 s4_289) (faRV60_1_0 _ _)) rfl rfl) <|
        hk (fun cx => cx.v (ex_ld rfl (cx.u 0 rfl) (cx.rf 0 rfl (by kernel_rfl)) rfl Try.isAgg30) rfl rfl) <|
        hk (fun cx => cx.v (ex_sub (x := .tmp 82) rfl (cx.u 0 rfl) rfl) rfl rfl) <|
        hk (fun cx => cx.v (ex_fa rfl (cx.rq 4 s4_289) (faRV60_1_0 _ _)) rfl rfl) <|
        hk (fun cx => cx.stC (wn rfl) rfl rfl 0 rfl (cx.u 0 rfl) (cx.u 1 rfl) rfl rfl (by kernel_rfl) rfl rfl q_g1 rfl trivial trivial) <|
        hn) ?_
       intro a87 w87 f87
       refine wp_seq ?_
       have s4_290 := f87.q 4 s4_289
       have s8_291 := f87.q 8 (f86.q 8 s8_287)
       refine go_reg [bx g1 60 (cR a (IntKind.u64.wrap (b - 1)) c d)] [] [some (pt g1 2), some (.int .i64 c), some (.int .u64 (Rg.oneV ⟨⟨p, q⟩, ⟨r, t⟩⟩)), some (.int .i64 (sg (Rg.oneV ⟨⟨p, q⟩, ⟨r, t⟩⟩))), some (.bool false)] mo f87.d f87.z f87.b (by kernel_rfl) ⟨f87.rows.1, trivial⟩ (
        hk (fun cx => cx.v (ex_fa rfl (cx.rq 4 s4_290) (faRV60_2_0 _ _)) rfl rfl) <|
        hk (fun cx => cx.v (ex_ld rfl (cx.u 0 rfl) (cx.rn 0 rfl) rfl Try.isAgg2) rfl rfl) <|
        hk (fun cx => cx.v (ex_mv rfl (cx.rq 8 s8_291)) rfl rfl) <|
        hk (fun cx => cx.v (ex_conv (x := .tmp 87) rfl (cx.u 0 rfl) Try.underlying30 Try.underlying2) rfl (congrArg (Value.int .i64) (wrap_sg _))) <|
        hk (fun cx => cx.v (ex_eq (x := .tmp 86) (y := .tmp 88) rfl (cx.u 0 rfl) (cx.u 1 rfl)) rfl (congrArg Value.bool Ffk31.out)) <|
        hn) ?_
       intro a88 w88 f88
       refine wp_cond_false (f88.v 4 rfl rfl rfl) ?_
       refine wp_seq ?_
       cases fk34 : d == (sg (Rg.oneV ⟨⟨p, q⟩, ⟨r, t⟩⟩))
       case false =>
        have Ffk34 := Lib.hid fk34; clear fk34
        have b_g1_292 := f88.k f87.rows.1
        have s4_293 := f88.q 4 s4_290
        have s8_294 := f88.q 8 s8_291
        refine go_reg [bx g1 60 (cR a (IntKind.u64.wrap (b - 1)) c d)] [] [some (pt g1 3), some (.int .i64 d), some (.int .u64 (Rg.oneV ⟨⟨p, q⟩, ⟨r, t⟩⟩)), some (.int .i64 (sg (Rg.oneV ⟨⟨p, q⟩, ⟨r, t⟩⟩))), some (.bool false)] mo f88.d f88.z f88.b (by kernel_rfl) ⟨b_g1_292, trivial⟩ (
         hk (fun cx => cx.v (ex_fa rfl (cx.rq 4 s4_293) (faRV60_3_0 _ _)) rfl rfl) <|
         hk (fun cx => cx.v (ex_ld rfl (cx.u 0 rfl) (cx.rn 0 rfl) rfl Try.isAgg2) rfl rfl) <|
         hk (fun cx => cx.v (ex_mv rfl (cx.rq 8 s8_294)) rfl rfl) <|
         hk (fun cx => cx.v (ex_conv (x := .tmp 96) rfl (cx.u 0 rfl) Try.underlying30 Try.underlying2) rfl (congrArg (Value.int .i64) (wrap_sg _))) <|
         hk (fun cx => cx.v (ex_eq (x := .tmp 95) (y := .tmp 97) rfl (cx.u 0 rfl) (cx.u 1 rfl)) rfl (congrArg Value.bool Ffk34.out)) <|
         hn) ?_
        intro a89 w89 f89
        refine wp_cond_false (f89.v 4 rfl rfl rfl) ?_
        refine wp_skip ?_
        have s6_295 := f89.q 6 (f88.q 6 (f87.q 6 (f86.q 6 (f80.q 6 (f79.q 6 (f15.q 6 (f14.q 6 (f11.q 6 (f10.q 6 (f7.q 6 (f6.q 6 u_g3)))))))))))
        have s4_296 := f89.q 4 s4_293
        have b_g3_297 := f89.k (f88.k (f87.kp (f86.k (f80.k (f79.k (f15.k (f14.k (f11.k (f10.k (f7.k (f6.k b_g3))))))))) ⟨.inr (ne_ptr (pairAt f1.ps 0 2 (by decide) rfl rfl) u_g1 u_g3).symm, trivial⟩))
        have b_g1_298 := f89.k b_g1_292
        exact ⟨⟨⟨a, IntKind.u64.wrap (b - 1)⟩, ⟨c, d⟩⟩, (by rw [(yb Ffk6.out)]; exact gc_1 HA.out HB.out Ffk1.out Ffk2.out Ffk7.out (wu2 HA.out.1.1.1 HA.out.1.2.2 ((may_iff ⟨⟨a, b⟩, ⟨c, d⟩⟩).1 Ffk1.out).1 Ffk24.out Ffk32.out) (wu3 Ffk31.out Ffk34.out)), f89.d, f89.z, f89.b, ⟨s6_295, s4_296, trivial⟩, ⟨b_g3_297, b_g1_298, trivial⟩⟩
       have Ffk34 := Lib.hid fk34; clear fk34
       have b_g1_299 := f88.k f87.rows.1
       have s4_300 := f88.q 4 s4_290
       have s8_301 := f88.q 8 s8_291
       refine go_reg [bx g1 60 (cR a (IntKind.u64.wrap (b - 1)) c d)] [] [some (pt g1 3), some (.int .i64 d), some (.int .u64 (Rg.oneV ⟨⟨p, q⟩, ⟨r, t⟩⟩)), some (.int .i64 (sg (Rg.oneV ⟨⟨p, q⟩, ⟨r, t⟩⟩))), some (.bool true)] mo f88.d f88.z f88.b (by kernel_rfl) ⟨b_g1_299, trivial⟩ (
        hk (fun cx => cx.v (ex_fa rfl (cx.rq 4 s4_300) (faRV60_3_0 _ _)) rfl rfl) <|
        hk (fun cx => cx.v (ex_ld rfl (cx.u 0 rfl) (cx.rn 0 rfl) rfl Try.isAgg2) rfl rfl) <|
        hk (fun cx => cx.v (ex_mv rfl (cx.rq 8 s8_301)) rfl rfl) <|
        hk (fun cx => cx.v (ex_conv (x := .tmp 96) rfl (cx.u 0 rfl) Try.underlying30 Try.underlying2) rfl (congrArg (Value.int .i64) (wrap_sg _))) <|
        hk (fun cx => cx.v (ex_eq (x := .tmp 95) (y := .tmp 97) rfl (cx.u 0 rfl) (cx.u 1 rfl)) rfl (congrArg Value.bool Ffk34.out)) <|
        hn) ?_
       intro a90 w90 f90
       refine wp_cond_true (f90.v 4 rfl rfl rfl) ?_
       have b_g1_302 := f90.k b_g1_299
       have s4_303 := f90.q 4 s4_300
       refine go_reg [⟨g1, 60, (cR a (IntKind.u64.wrap (b - 1)) c d), some 4, (cR a (IntKind.u64.wrap (b - 1)) c (IntKind.i64.wrap (d - 1)))⟩] [] [some (pt g1 3), some (.int .i64 d), some (.int .i64 (IntKind.i64.wrap (d - 1))), some (pt g1 3), none] mo f90.d f90.z f90.b (by kernel_rfl) ⟨b_g1_302, trivial⟩ (
        hk (fun cx => cx.v (ex_fa rfl (cx.rq 4 s4_303) (faRV60_3_0 _ _)) rfl rfl) <|
        hk (fun cx => cx.v (ex_ld rfl (cx.u 0 rfl) (cx.rf 0 rfl (by kernel_rfl)) rfl Try.isAgg2) rfl rfl) <|
        hk (fun cx => cx.v (ex_sub (x := .tmp 100) rfl (cx.u 0 rfl) rfl) rfl rfl) <|
        hk (fun cx => cx.v (ex_fa rfl (cx.rq 4 s4_303) (faRV60_3_0 _ _)) rfl rfl) <|
        hk (fun cx => cx.stC (wn rfl) rfl rfl 0 rfl (cx.u 0 rfl) (cx.u 1 rfl) rfl rfl (by kernel_rfl) rfl rfl q_g1 rfl trivial trivial) <|
        hn) ?_
       intro a91 w91 f91
       have s6_304 := f91.q 6 (f90.q 6 (f88.q 6 (f87.q 6 (f86.q 6 (f80.q 6 (f79.q 6 (f15.q 6 (f14.q 6 (f11.q 6 (f10.q 6 (f7.q 6 (f6.q 6 u_g3))))))))))))
       have s4_305 := f91.q 4 s4_303
       have b_g3_306 := f91.kp (f90.k (f88.k (f87.kp (f86.k (f80.k (f79.k (f15.k (f14.k (f11.k (f10.k (f7.k (f6.k b_g3))))))))) ⟨.inr (ne_ptr (pairAt f1.ps 0 2 (by decide) rfl rfl) u_g1 u_g3).symm, trivial⟩))) ⟨.inr (ne_ptr (pairAt f1.ps 0 2 (by decide) rfl rfl) u_g1 u_g3).symm, trivial⟩
       exact ⟨⟨⟨a, IntKind.u64.wrap (b - 1)⟩, ⟨c, IntKind.i64.wrap (d - 1)⟩⟩, (by rw [(yb Ffk6.out)]; exact gc_1 HA.out HB.out Ffk1.out Ffk2.out Ffk7.out (wu2 HA.out.1.1.1 HA.out.1.2.2 ((may_iff ⟨⟨a, b⟩, ⟨c, d⟩⟩).1 Ffk1.out).1 Ffk24.out Ffk32.out) (ws2 HA.out.2.1 HA.out.2.2 ((may_iff ⟨⟨a, b⟩, ⟨c, d⟩⟩).1 Ffk1.out).2 Ffk31.out Ffk34.out)), f91.d, f91.z, f91.b, ⟨s6_304, s4_305, trivial⟩, ⟨b_g3_306, f91.rows.1, trivial⟩⟩
      have Ffk31 := Lib.hid fk31; clear fk31
      have b_g1_307 := f15.k (f14.k (f11.k (f10.k (f7.k (f6.k b_g1)))))
      have s4_308 := f15.q 4 (f14.q 4 (f11.q 4 (f10.q 4 (f7.q 4 (f6.q 4 u_g1)))))
      have s8_309 := f15.q 8 (f14.v 5 rfl rfl rfl)
      refine go_reg [bx g1 60 (cR a b c d)] [] (tabs [some (pt g1 0), some (.int .u64 a), some (pt g1 1), some (.int .u64 b), some (.bool true), some (.bool true), some (pt g1 0), some (.int .u64 a), some (.int .u64 (Rg.oneV ⟨⟨p, q⟩, ⟨r, t⟩⟩)), some (.bool false), some (.bool false), some (.bool false), some (pt g1 2), some (.int .i64 c), some (pt g1 3), some (.int .i64 d), some (.bool true), some (.bool true), some (pt g1 2), some (.int .i64 c)] [some (.int .u64 (Rg.oneV ⟨⟨p, q⟩, ⟨r, t⟩⟩)), some (.int .i64 (sg (Rg.oneV ⟨⟨p, q⟩, ⟨r, t⟩⟩))), some (.bool true), some (.bool true), some (.bool true)]) mo f15.d f15.z f15.b (by kernel_rfl) ⟨b_g1_307, trivial⟩ (
       hk (fun cx => cx.v (ex_fa rfl (cx.rq 4 s4_308) (faRV60_0_0 _ _)) rfl rfl) <|
       hk (fun cx => cx.v (ex_ld rfl (cx.u 0 rfl) (cx.rn 0 rfl) rfl Try.isAgg30) rfl rfl) <|
       hk (fun cx => cx.v (ex_fa rfl (cx.rq 4 s4_308) (faRV60_1_0 _ _)) rfl rfl) <|
       hk (fun cx => cx.v (ex_ld rfl (cx.u 0 rfl) (cx.rn 0 rfl) rfl Try.isAgg30) rfl rfl) <|
       hk (fun cx => cx.v (ex_eq (x := .tmp 44) (y := .tmp 46) rfl (cx.u 0 rfl) (cx.u 1 rfl)) rfl (congrArg Value.bool Ffk8.out)) <|
       hk (fun cx => cx.v (ex_mv rfl (cx.u 0 rfl)) rfl rfl) <|
       hk (fun cx => cx.val (cx.wy rfl rfl rfl rfl (cx.u 0 rfl)) (ex_fa rfl (cx.rq 4 s4_308) (faRV60_0_0 _ _)) rfl rfl rfl rfl) <|
       hk (fun cx => cx.val (cx.wy rfl rfl rfl rfl (cx.u 1 rfl)) (ex_ld rfl (cx.u 0 rfl) (cx.rn 0 rfl) rfl Try.isAgg30) rfl rfl rfl rfl) <|
       hk (fun cx => cx.val (cx.wy rfl rfl rfl rfl (cx.u 0 rfl)) (ex_mv rfl (cx.rq 8 s8_309)) rfl rfl rfl rfl) <|
       hk (fun cx => cx.val (cx.wy rfl rfl rfl rfl (cx.u 2 rfl)) (ex_eq (x := .tmp 50) (y := .tmp 51) rfl (cx.u 0 rfl) (cx.u 1 rfl)) rfl rfl (congrArg Value.bool Ffk24.out) rfl) <|
       hk (fun cx => cx.v (ex_pt rfl (cx.u 0 rfl) (cx.u 1 rfl)) rfl rfl) <|
       hk (fun cx => cx.v (ex_mv rfl (cx.u 0 rfl)) rfl rfl) <|
       hk (fun cx => cx.val (cx.wy rfl rfl rfl rfl (cx.u 0 rfl)) (ex_fa rfl (cx.rq 4 s4_308) (faRV60_2_0 _ _)) rfl rfl rfl rfl) <|
       hk (fun cx => cx.val (cx.wy rfl rfl rfl rfl (cx.u 1 rfl)) (ex_ld rfl (cx.u 0 rfl) (cx.rn 0 rfl) rfl Try.isAgg2) rfl rfl rfl rfl) <|
       hk (fun cx => cx.val (cx.wy rfl rfl rfl rfl (cx.u 0 rfl)) (ex_fa rfl (cx.rq 4 s4_308) (faRV60_3_0 _ _)) rfl rfl rfl rfl) <|
       hk (fun cx => cx.val (cx.wy rfl rfl rfl rfl (cx.u 1 rfl)) (ex_ld rfl (cx.u 0 rfl) (cx.rn 0 rfl) rfl Try.isAgg2) rfl rfl rfl rfl) <|
       hk (fun cx => cx.val (cx.wy rfl rfl rfl rfl (cx.u 2 rfl)) (ex_eq (x := .tmp 56) (y := .tmp 58) rfl (cx.u 0 rfl) (cx.u 1 rfl)) rfl rfl (congrArg Value.bool Ffk25.out) rfl) <|
       hk (fun cx => cx.val (cx.wy rfl rfl rfl rfl (cx.u 1 rfl)) (ex_mv rfl (cx.u 0 rfl)) rfl rfl rfl rfl) <|
       hk (fun cx => cx.val (cx.wy rfl rfl rfl rfl (cx.u 0 rfl)) (ex_fa rfl (cx.rq 4 s4_308) (faRV60_2_0 _ _)) rfl rfl rfl rfl) <|
       hk (fun cx => cx.val (cx.wy rfl rfl rfl rfl (cx.u 1 rfl)) (ex_ld rfl (cx.u 0 rfl) (cx.rn 0 rfl) rfl Try.isAgg2) rfl rfl rfl rfl) <|
       hk (fun cx => cx.val (cx.wy rfl rfl rfl rfl (cx.u 0 rfl)) (ex_mv rfl (cx.rq 8 s8_309)) rfl rfl rfl rfl) <|
       hk (fun cx => cx.val (cx.wy rfl rfl rfl rfl (cx.u 1 rfl)) (ex_conv (x := .tmp 63) rfl (cx.u 0 rfl) Try.underlying30 Try.underlying2) rfl rfl (congrArg (Value.int .i64) (wrap_sg _)) rfl) <|
       hk (fun cx => cx.val (cx.wy rfl rfl rfl rfl (cx.u 2 rfl)) (ex_eq (x := .tmp 62) (y := .tmp 64) rfl (cx.u 0 rfl) (cx.u 1 rfl)) rfl rfl (congrArg Value.bool Ffk31.out) rfl) <|
       hk (fun cx => cx.val (cx.wy rfl rfl rfl rfl (cx.u 2 rfl)) (ex_pt rfl (cx.u 0 rfl) (cx.u 1 rfl)) rfl rfl rfl rfl) <|
       hk (fun cx => cx.v (ex_pf rfl (cx.u 0 rfl) (cx.u 1 rfl)) rfl rfl) <|
       hn) ?_
      intro a92 w92 f92
      refine wp_cond_true (f92.v 24 rfl rfl rfl) ?_
      refine wp_seq ?_
      have b_g3_310 := f92.k (f15.k (f14.k (f11.k (f10.k (f7.k (f6.k b_g3))))))
      have s6_311 := f92.q 6 (f15.q 6 (f14.q 6 (f11.q 6 (f10.q 6 (f7.q 6 (f6.q 6 u_g3))))))
      refine go_reg [⟨g3, 60, (cR 0 0 0 0), some 1, (cR allR.u.lo allR.u.hi allR.s.lo allR.s.hi)⟩] [] [some (.agg (cR allR.u.lo allR.u.hi allR.s.lo allR.s.hi)), none, some (.bool false)] mo f92.d f92.z f92.b (by kernel_rfl) ⟨b_g3_310, trivial⟩ (
       hc (fun _ _ wx cx => cx.c rfl (args0 ) Try.func30 (by decide +kernel) (rall_n wx) rfl rfl) <|
       hk (fun cx => cx.stR (wn rfl) rfl rfl 0 rfl (cx.rq 6 s6_311) (cx.u 0 rfl) (by kernel_rfl) rfl (by simp [Value.oneCell']) q_g3 rfl trivial trivial) <|
       hk (fun cx => cx.v (ex_as rfl rfl) rfl rfl) <|
       hn) ?_
      intro a93 w93 f93
      refine wp_ret ?_
      have s6_312 := f93.q 6 s6_311
      try simp only [Exit.inBlock, Exit.then]
      refine bodyPost_ret (res_ct (fn := Try.f22) rfl s6_312 (load_row 60 f93.rows.1 Try.underlying60 rfl (by kernel_rfl)) (f93.v 2 rfl rfl rfl)) f93.d ?_
      have HN : Rg.narB (givC cc ⟨⟨a, b⟩, ⟨c, d⟩⟩ ⟨⟨p, q⟩, ⟨r, t⟩⟩) = false := by rw [(yb Ffk6.out)]; exact ga_1s Ffk7.out Ffk25.out Ffk31.out
      have HE : Value.tuple #[.agg (cR allR.u.lo allR.u.hi allR.s.lo allR.s.hi), .bool false] = .tuple #[Rg.val D, .bool DB] := by rw [ED.out.1, ED.out.2]; unfold Rg.giv Rg.givB; rw [Ffk1.out, Ffk2.out, HCC.out Ffk3.out Ffk4.out, if_pos (by rfl)]; unfold Rg.nar; rw [HN]; rfl
      exact ⟨retV HE, f93.b⟩
     have Ffk24 := Lib.hid fk24; clear fk24
     have b_g1_313 := f15.k (f14.k (f11.k (f10.k (f7.k (f6.k b_g1)))))
     have s4_314 := f15.q 4 (f14.q 4 (f11.q 4 (f10.q 4 (f7.q 4 (f6.q 4 u_g1)))))
     have s8_315 := f15.q 8 (f14.v 5 rfl rfl rfl)
     refine go_reg [bx g1 60 (cR a b c d)] [] (tabs [some (pt g1 0), some (.int .u64 a), some (pt g1 1), some (.int .u64 b), some (.bool true), some (.bool true), some (pt g1 0), some (.int .u64 a), some (.int .u64 (Rg.oneV ⟨⟨p, q⟩, ⟨r, t⟩⟩)), some (.bool true), some (.bool true), some (.bool true), some (undef), some (undef), some (undef), some (undef), some (undef), some (undef), some (undef), some (undef)] [some (undef), some (undef), some (undef), some (undef), some (.bool true)]) mo f15.d f15.z f15.b (by kernel_rfl) ⟨b_g1_313, trivial⟩ (
      hk (fun cx => cx.v (ex_fa rfl (cx.rq 4 s4_314) (faRV60_0_0 _ _)) rfl rfl) <|
      hk (fun cx => cx.v (ex_ld rfl (cx.u 0 rfl) (cx.rn 0 rfl) rfl Try.isAgg30) rfl rfl) <|
      hk (fun cx => cx.v (ex_fa rfl (cx.rq 4 s4_314) (faRV60_1_0 _ _)) rfl rfl) <|
      hk (fun cx => cx.v (ex_ld rfl (cx.u 0 rfl) (cx.rn 0 rfl) rfl Try.isAgg30) rfl rfl) <|
      hk (fun cx => cx.v (ex_eq (x := .tmp 44) (y := .tmp 46) rfl (cx.u 0 rfl) (cx.u 1 rfl)) rfl (congrArg Value.bool Ffk8.out)) <|
      hk (fun cx => cx.v (ex_mv rfl (cx.u 0 rfl)) rfl rfl) <|
      hk (fun cx => cx.val (cx.wy rfl rfl rfl rfl (cx.u 0 rfl)) (ex_fa rfl (cx.rq 4 s4_314) (faRV60_0_0 _ _)) rfl rfl rfl rfl) <|
      hk (fun cx => cx.val (cx.wy rfl rfl rfl rfl (cx.u 1 rfl)) (ex_ld rfl (cx.u 0 rfl) (cx.rn 0 rfl) rfl Try.isAgg30) rfl rfl rfl rfl) <|
      hk (fun cx => cx.val (cx.wy rfl rfl rfl rfl (cx.u 0 rfl)) (ex_mv rfl (cx.rq 8 s8_315)) rfl rfl rfl rfl) <|
      hk (fun cx => cx.val (cx.wy rfl rfl rfl rfl (cx.u 2 rfl)) (ex_eq (x := .tmp 50) (y := .tmp 51) rfl (cx.u 0 rfl) (cx.u 1 rfl)) rfl rfl (congrArg Value.bool Ffk24.out) rfl) <|
      hk (fun cx => cx.v (ex_pt rfl (cx.u 0 rfl) (cx.u 1 rfl)) rfl rfl) <|
      hk (fun cx => cx.v (ex_mv rfl (cx.u 0 rfl)) rfl rfl) <|
      hk (fun cx => cx.no (cx.wo rfl rfl rfl rfl (cx.u 0 rfl) rfl) rfl rfl rfl rfl) <|
      hk (fun cx => cx.no (cx.wo rfl rfl rfl rfl (cx.u 1 rfl) rfl) rfl rfl rfl rfl) <|
      hk (fun cx => cx.no (cx.wo rfl rfl rfl rfl (cx.u 0 rfl) rfl) rfl rfl rfl rfl) <|
      hk (fun cx => cx.no (cx.wo rfl rfl rfl rfl (cx.u 1 rfl) rfl) rfl rfl rfl rfl) <|
      hk (fun cx => cx.no (cx.wo rfl rfl rfl rfl (cx.u 2 rfl) rfl) rfl rfl rfl rfl) <|
      hk (fun cx => cx.no (cx.wo rfl rfl rfl rfl (cx.u 1 rfl) rfl) rfl rfl rfl rfl) <|
      hk (fun cx => cx.no (cx.wu rfl rfl rfl rfl (cx.u 0 rfl)) rfl rfl rfl rfl) <|
      hk (fun cx => cx.no (cx.wu rfl rfl rfl rfl (cx.u 1 rfl)) rfl rfl rfl rfl) <|
      hk (fun cx => cx.no (cx.wu rfl rfl rfl rfl (cx.u 0 rfl)) rfl rfl rfl rfl) <|
      hk (fun cx => cx.no (cx.wu rfl rfl rfl rfl (cx.u 1 rfl)) rfl rfl rfl rfl) <|
      hk (fun cx => cx.no (cx.wu rfl rfl rfl rfl (cx.u 2 rfl)) rfl rfl rfl rfl) <|
      hk (fun cx => cx.no (cx.wo rfl rfl rfl rfl (cx.u 2 rfl) rfl) rfl rfl rfl rfl) <|
      hk (fun cx => cx.v (ex_pt rfl (cx.u 0 rfl) rfl) rfl rfl) <|
      hn) ?_
     intro a94 w94 f94
     refine wp_cond_true (f94.v 24 rfl rfl rfl) ?_
     refine wp_seq ?_
     have b_g3_316 := f94.k (f15.k (f14.k (f11.k (f10.k (f7.k (f6.k b_g3))))))
     have s6_317 := f94.q 6 (f15.q 6 (f14.q 6 (f11.q 6 (f10.q 6 (f7.q 6 (f6.q 6 u_g3))))))
     refine go_reg [⟨g3, 60, (cR 0 0 0 0), some 1, (cR allR.u.lo allR.u.hi allR.s.lo allR.s.hi)⟩] [] [some (.agg (cR allR.u.lo allR.u.hi allR.s.lo allR.s.hi)), none, some (.bool false)] mo f94.d f94.z f94.b (by kernel_rfl) ⟨b_g3_316, trivial⟩ (
      hc (fun _ _ wx cx => cx.c rfl (args0 ) Try.func30 (by decide +kernel) (rall_n wx) rfl rfl) <|
      hk (fun cx => cx.stR (wn rfl) rfl rfl 0 rfl (cx.rq 6 s6_317) (cx.u 0 rfl) (by kernel_rfl) rfl (by simp [Value.oneCell']) q_g3 rfl trivial trivial) <|
      hk (fun cx => cx.v (ex_as rfl rfl) rfl rfl) <|
      hn) ?_
     intro a95 w95 f95
     refine wp_ret ?_
     have s6_318 := f95.q 6 s6_317
     try simp only [Exit.inBlock, Exit.then]
     refine bodyPost_ret (res_ct (fn := Try.f22) rfl s6_318 (load_row 60 f95.rows.1 Try.underlying60 rfl (by kernel_rfl)) (f95.v 2 rfl rfl rfl)) f95.d ?_
     have HN : Rg.narB (givC cc ⟨⟨a, b⟩, ⟨c, d⟩⟩ ⟨⟨p, q⟩, ⟨r, t⟩⟩) = false := by rw [(yb Ffk6.out)]; exact ga_1u Ffk7.out Ffk8.out Ffk24.out
     have HE : Value.tuple #[.agg (cR allR.u.lo allR.u.hi allR.s.lo allR.s.hi), .bool false] = .tuple #[Rg.val D, .bool DB] := by rw [ED.out.1, ED.out.2]; unfold Rg.giv Rg.givB; rw [Ffk1.out, Ffk2.out, HCC.out Ffk3.out Ffk4.out, if_pos (by rfl)]; unfold Rg.nar; rw [HN]; rfl
     exact ⟨retV HE, f95.b⟩
    have Ffk6 := Lib.hid fk6; clear fk6
    have s27_319 := f10.q 27 (f7.v 0 rfl rfl rfl)
    refine go_reg [] [] [some (.bool false), some (.bool false)] mo f10.d f10.z f10.b (by kernel_rfl) trivial (
     hk (fun cx => cx.v (ex_eq (x := .tmp 27) rfl (cx.rq 27 s27_319) rfl) rfl (congrArg Value.bool Ffk6.out)) <|
     hk (fun cx => cx.v (ex_as rfl (cx.u 0 rfl)) rfl rfl) <|
     hn) ?_
    intro a96 w96 f96
    refine wp_cond_false (f96.v 1 rfl rfl rfl) ?_
    refine wp_seq ?_
    cases fk35 : cc == 2
    case true =>
     have Ffk35 := Lib.hid fk35; clear fk35
     have s27_320 := f96.q 27 s27_319
     refine go_reg [] [] [some (.bool true), some (.bool true)] mo f96.d f96.z f96.b (by kernel_rfl) trivial (
      hk (fun cx => cx.v (ex_eq (x := .tmp 27) rfl (cx.rq 27 s27_320) rfl) rfl (congrArg Value.bool Ffk35.out)) <|
      hk (fun cx => cx.v (ex_as rfl (cx.u 0 rfl)) rfl rfl) <|
      hn) ?_
     intro a97 w97 f97
     refine wp_cond_true (f97.v 1 rfl rfl rfl) ?_
     refine wp_seq ?_
     refine wp_seq ?_
     cases fk36 : p == 18446744073709551615
     case true =>
      have Ffk36 := Lib.hid fk36; clear fk36
      have b_g2_321 := f97.k (f96.k (f10.k (f7.k (f6.k b_g2))))
      have s5_322 := f97.q 5 (f96.q 5 (f10.q 5 (f7.q 5 (f6.q 5 u_g2))))
      refine go_reg [bx g2 60 (cR p q r t)] [] [some (pt g2 0), some (.int .u64 p), some (.bool true)] mo f97.d f97.z f97.b (by kernel_rfl) ⟨b_g2_321, trivial⟩ (
       hk (fun cx => cx.v (ex_fa rfl (cx.rq 5 s5_322) (faRV60_0_0 _ _)) rfl rfl) <|
       hk (fun cx => cx.v (ex_ld rfl (cx.u 0 rfl) (cx.rn 0 rfl) rfl Try.isAgg30) rfl rfl) <|
       hk (fun cx => cx.v (ex_eq (x := .tmp 106) rfl (cx.u 0 rfl) rfl) rfl (congrArg Value.bool Ffk36.out)) <|
       hn) ?_
      intro a98 w98 f98
      refine wp_cond_true (f98.v 2 rfl rfl rfl) ?_
      refine wp_seq ?_
      have b_g3_323 := f98.k (f97.k (f96.k (f10.k (f7.k (f6.k b_g3)))))
      have s6_324 := f98.q 6 (f97.q 6 (f96.q 6 (f10.q 6 (f7.q 6 (f6.q 6 u_g3)))))
      refine go_reg [⟨g3, 60, (cR 0 0 0 0), some 1, (cR allR.u.lo allR.u.hi allR.s.lo allR.s.hi)⟩] [] [some (.agg (cR allR.u.lo allR.u.hi allR.s.lo allR.s.hi)), none, some (.bool false)] mo f98.d f98.z f98.b (by kernel_rfl) ⟨b_g3_323, trivial⟩ (
       hc (fun _ _ wx cx => cx.c rfl (args0 ) Try.func30 (by decide +kernel) (rall_n wx) rfl rfl) <|
       hk (fun cx => cx.stR (wn rfl) rfl rfl 0 rfl (cx.rq 6 s6_324) (cx.u 0 rfl) (by kernel_rfl) rfl (by simp [Value.oneCell']) q_g3 rfl trivial trivial) <|
       hk (fun cx => cx.v (ex_as rfl rfl) rfl rfl) <|
       hn) ?_
      intro a99 w99 f99
      refine wp_ret ?_
      have s6_325 := f99.q 6 s6_324
      try simp only [Exit.inBlock, Exit.then]
      refine bodyPost_ret (res_ct (fn := Try.f22) rfl s6_325 (load_row 60 f99.rows.1 Try.underlying60 rfl (by kernel_rfl)) (f99.v 2 rfl rfl rfl)) f99.d ?_
      have HN : Rg.narB (givC cc ⟨⟨a, b⟩, ⟨c, d⟩⟩ ⟨⟨p, q⟩, ⟨r, t⟩⟩) = false := by rw [(yb Ffk35.out)]; exact ga_2 HA.out HB.out Ffk1.out Ffk2.out Ffk36.out
      have HE : Value.tuple #[.agg (cR allR.u.lo allR.u.hi allR.s.lo allR.s.hi), .bool false] = .tuple #[Rg.val D, .bool DB] := by rw [ED.out.1, ED.out.2]; unfold Rg.giv Rg.givB; rw [Ffk1.out, Ffk2.out, HCC.out Ffk3.out Ffk4.out, if_pos (by rfl)]; unfold Rg.nar; rw [HN]; rfl
      exact ⟨retV HE, f99.b⟩
     have Ffk36 := Lib.hid fk36; clear fk36
     have b_g2_326 := f97.k (f96.k (f10.k (f7.k (f6.k b_g2))))
     have s5_327 := f97.q 5 (f96.q 5 (f10.q 5 (f7.q 5 (f6.q 5 u_g2))))
     refine go_reg [bx g2 60 (cR p q r t)] [] [some (pt g2 0), some (.int .u64 p), some (.bool false)] mo f97.d f97.z f97.b (by kernel_rfl) ⟨b_g2_326, trivial⟩ (
      hk (fun cx => cx.v (ex_fa rfl (cx.rq 5 s5_327) (faRV60_0_0 _ _)) rfl rfl) <|
      hk (fun cx => cx.v (ex_ld rfl (cx.u 0 rfl) (cx.rn 0 rfl) rfl Try.isAgg30) rfl rfl) <|
      hk (fun cx => cx.v (ex_eq (x := .tmp 106) rfl (cx.u 0 rfl) rfl) rfl (congrArg Value.bool Ffk36.out)) <|
      hn) ?_
     intro a100 w100 f100
     refine wp_cond_false (f100.v 2 rfl rfl rfl) ?_
     refine wp_skip ?_
     have b_g1_328 := f100.k (f97.k (f96.k (f10.k (f7.k (f6.k b_g1)))))
     have b_g2_329 := f100.k b_g2_326
     have s4_330 := f100.q 4 (f97.q 4 (f96.q 4 (f10.q 4 (f7.q 4 (f6.q 4 u_g1)))))
     have s5_331 := f100.q 5 s5_327
     refine go_reg [⟨g1, 60, (cR a b c d), some 7, (cR (max a (IntKind.u64.wrap (p + 1))) b c d)⟩, bx g2 60 (cR p q r t)] [] [some (pt g1 0), some (.int .u64 a), some (pt g2 0), some (.int .u64 p), some (.int .u64 (IntKind.u64.wrap (p + 1))), some (.int .u64 (max a (IntKind.u64.wrap (p + 1)))), some (pt g1 0), none] mo f100.d f100.z f100.b (by kernel_rfl) ⟨b_g1_328, b_g2_329, trivial⟩ (
      hk (fun cx => cx.v (ex_fa rfl (cx.rq 4 s4_330) (faRV60_0_0 _ _)) rfl rfl) <|
      hk (fun cx => cx.v (ex_ld rfl (cx.u 0 rfl) (cx.rf 0 rfl (by kernel_rfl)) rfl Try.isAgg30) rfl rfl) <|
      hk (fun cx => cx.v (ex_fa rfl (cx.rq 5 s5_331) (faRV60_0_0 _ _)) rfl rfl) <|
      hk (fun cx => cx.v (ex_ld rfl (cx.u 0 rfl) (cx.rn 1 rfl) rfl Try.isAgg30) rfl rfl) <|
      hk (fun cx => cx.v (ex_add (x := .tmp 112) rfl (cx.u 0 rfl) rfl) rfl rfl) <|
      hc (fun _ ax _ cx => cx.v (ex_max (x := .tmp 110) (y := .tmp 113) rfl (cx.u 0 rfl) (cx.u 1 rfl)) rfl rfl) <|
      hk (fun cx => cx.v (ex_fa rfl (cx.rq 4 s4_330) (faRV60_0_0 _ _)) rfl rfl) <|
      hk (fun cx => cx.stC (wn rfl) rfl rfl 0 rfl (cx.u 0 rfl) (cx.u 1 rfl) rfl rfl (by kernel_rfl) rfl rfl q_g1 rfl ⟨(ne_ptr (pairAt f1.ps 0 1 (by decide) rfl rfl) u_g1 u_g2).symm, trivial⟩ trivial) <|
      hn) ?_
     intro a101 w101 f101
     have s6_332 := f101.q 6 (f100.q 6 (f97.q 6 (f96.q 6 (f10.q 6 (f7.q 6 (f6.q 6 u_g3))))))
     have s4_333 := f101.q 4 s4_330
     have b_g3_334 := f101.kp (f100.k (f97.k (f96.k (f10.k (f7.k (f6.k b_g3)))))) ⟨.inr (ne_ptr (pairAt f1.ps 0 2 (by decide) rfl rfl) u_g1 u_g3).symm, .inl rfl, trivial⟩
     exact ⟨⟨⟨max a (IntKind.u64.wrap (p + 1)), b⟩, ⟨c, d⟩⟩, (by rw [(yb Ffk35.out)]; exact gc_2 HA.out HB.out Ffk1.out Ffk2.out Ffk36.out), f101.d, f101.z, f101.b, ⟨s6_332, s4_333, trivial⟩, ⟨b_g3_334, f101.rows.1, trivial⟩⟩
    have Ffk35 := Lib.hid fk35; clear fk35
    have s27_335 := f96.q 27 s27_319
    refine go_reg [] [] [some (.bool false), some (.bool false)] mo f96.d f96.z f96.b (by kernel_rfl) trivial (
     hk (fun cx => cx.v (ex_eq (x := .tmp 27) rfl (cx.rq 27 s27_335) rfl) rfl (congrArg Value.bool Ffk35.out)) <|
     hk (fun cx => cx.v (ex_as rfl (cx.u 0 rfl)) rfl rfl) <|
     hn) ?_
    intro a102 w102 f102
    refine wp_cond_false (f102.v 1 rfl rfl rfl) ?_
    refine wp_seq ?_
    cases fk37 : cc == 3
    case true =>
     have Ffk37 := Lib.hid fk37; clear fk37
     have s27_336 := f102.q 27 s27_335
     refine go_reg [] [] [some (.bool true), some (.bool true)] mo f102.d f102.z f102.b (by kernel_rfl) trivial (
      hk (fun cx => cx.v (ex_eq (x := .tmp 27) rfl (cx.rq 27 s27_336) rfl) rfl (congrArg Value.bool Ffk37.out)) <|
      hk (fun cx => cx.v (ex_as rfl (cx.u 0 rfl)) rfl rfl) <|
      hn) ?_
     intro a103 w103 f103
     refine wp_cond_true (f103.v 1 rfl rfl rfl) ?_
     have b_g1_337 := f103.k (f102.k (f96.k (f10.k (f7.k (f6.k b_g1)))))
     have b_g2_338 := f103.k (f102.k (f96.k (f10.k (f7.k (f6.k b_g2)))))
     have s4_339 := f103.q 4 (f102.q 4 (f96.q 4 (f10.q 4 (f7.q 4 (f6.q 4 u_g1)))))
     have s5_340 := f103.q 5 (f102.q 5 (f96.q 5 (f10.q 5 (f7.q 5 (f6.q 5 u_g2)))))
     refine go_reg [⟨g1, 60, (cR a b c d), some 6, (cR (max a p) b c d)⟩, bx g2 60 (cR p q r t)] [] [some (pt g1 0), some (.int .u64 a), some (pt g2 0), some (.int .u64 p), some (.int .u64 (max a p)), some (pt g1 0), none] mo f103.d f103.z f103.b (by kernel_rfl) ⟨b_g1_337, b_g2_338, trivial⟩ (
      hk (fun cx => cx.v (ex_fa rfl (cx.rq 4 s4_339) (faRV60_0_0 _ _)) rfl rfl) <|
      hk (fun cx => cx.v (ex_ld rfl (cx.u 0 rfl) (cx.rf 0 rfl (by kernel_rfl)) rfl Try.isAgg30) rfl rfl) <|
      hk (fun cx => cx.v (ex_fa rfl (cx.rq 5 s5_340) (faRV60_0_0 _ _)) rfl rfl) <|
      hk (fun cx => cx.v (ex_ld rfl (cx.u 0 rfl) (cx.rn 1 rfl) rfl Try.isAgg30) rfl rfl) <|
      hc (fun _ ax _ cx => cx.v (ex_max (x := .tmp 119) (y := .tmp 121) rfl (cx.u 0 rfl) (cx.u 1 rfl)) rfl rfl) <|
      hk (fun cx => cx.v (ex_fa rfl (cx.rq 4 s4_339) (faRV60_0_0 _ _)) rfl rfl) <|
      hk (fun cx => cx.stC (wn rfl) rfl rfl 0 rfl (cx.u 0 rfl) (cx.u 1 rfl) rfl rfl (by kernel_rfl) rfl rfl q_g1 rfl ⟨(ne_ptr (pairAt f1.ps 0 1 (by decide) rfl rfl) u_g1 u_g2).symm, trivial⟩ trivial) <|
      hn) ?_
     intro a104 w104 f104
     have s6_341 := f104.q 6 (f103.q 6 (f102.q 6 (f96.q 6 (f10.q 6 (f7.q 6 (f6.q 6 u_g3))))))
     have s4_342 := f104.q 4 s4_339
     have b_g3_343 := f104.kp (f103.k (f102.k (f96.k (f10.k (f7.k (f6.k b_g3)))))) ⟨.inr (ne_ptr (pairAt f1.ps 0 2 (by decide) rfl rfl) u_g1 u_g3).symm, .inl rfl, trivial⟩
     exact ⟨⟨⟨max a p, b⟩, ⟨c, d⟩⟩, (by rw [(yb Ffk37.out)]; exact gc_3 HA.out HB.out Ffk1.out Ffk2.out), f104.d, f104.z, f104.b, ⟨s6_341, s4_342, trivial⟩, ⟨b_g3_343, f104.rows.1, trivial⟩⟩
    have Ffk37 := Lib.hid fk37; clear fk37
    have s27_344 := f102.q 27 s27_335
    refine go_reg [] [] [some (.bool false), some (.bool false)] mo f102.d f102.z f102.b (by kernel_rfl) trivial (
     hk (fun cx => cx.v (ex_eq (x := .tmp 27) rfl (cx.rq 27 s27_344) rfl) rfl (congrArg Value.bool Ffk37.out)) <|
     hk (fun cx => cx.v (ex_as rfl (cx.u 0 rfl)) rfl rfl) <|
     hn) ?_
    intro a105 w105 f105
    refine wp_cond_false (f105.v 1 rfl rfl rfl) ?_
    refine wp_seq ?_
    cases fk38 : cc == 4
    case true =>
     have Ffk38 := Lib.hid fk38; clear fk38
     have s27_345 := f105.q 27 s27_344
     refine go_reg [] [] [some (.bool true), some (.bool true)] mo f105.d f105.z f105.b (by kernel_rfl) trivial (
      hk (fun cx => cx.v (ex_eq (x := .tmp 27) rfl (cx.rq 27 s27_345) rfl) rfl (congrArg Value.bool Ffk38.out)) <|
      hk (fun cx => cx.v (ex_as rfl (cx.u 0 rfl)) rfl rfl) <|
      hn) ?_
     intro a106 w106 f106
     refine wp_cond_true (f106.v 1 rfl rfl rfl) ?_
     refine wp_seq ?_
     refine wp_seq ?_
     cases fk39 : q == 0
     case true =>
      have Ffk39 := Lib.hid fk39; clear fk39
      have b_g2_346 := f106.k (f105.k (f102.k (f96.k (f10.k (f7.k (f6.k b_g2))))))
      have s5_347 := f106.q 5 (f105.q 5 (f102.q 5 (f96.q 5 (f10.q 5 (f7.q 5 (f6.q 5 u_g2))))))
      refine go_reg [bx g2 60 (cR p q r t)] [] [some (pt g2 1), some (.int .u64 q), some (.bool true)] mo f106.d f106.z f106.b (by kernel_rfl) ⟨b_g2_346, trivial⟩ (
       hk (fun cx => cx.v (ex_fa rfl (cx.rq 5 s5_347) (faRV60_1_0 _ _)) rfl rfl) <|
       hk (fun cx => cx.v (ex_ld rfl (cx.u 0 rfl) (cx.rn 0 rfl) rfl Try.isAgg30) rfl rfl) <|
       hk (fun cx => cx.v (ex_eq (x := .tmp 127) rfl (cx.u 0 rfl) rfl) rfl (congrArg Value.bool Ffk39.out)) <|
       hn) ?_
      intro a107 w107 f107
      refine wp_cond_true (f107.v 2 rfl rfl rfl) ?_
      refine wp_seq ?_
      have b_g3_348 := f107.k (f106.k (f105.k (f102.k (f96.k (f10.k (f7.k (f6.k b_g3)))))))
      have s6_349 := f107.q 6 (f106.q 6 (f105.q 6 (f102.q 6 (f96.q 6 (f10.q 6 (f7.q 6 (f6.q 6 u_g3)))))))
      refine go_reg [⟨g3, 60, (cR 0 0 0 0), some 1, (cR allR.u.lo allR.u.hi allR.s.lo allR.s.hi)⟩] [] [some (.agg (cR allR.u.lo allR.u.hi allR.s.lo allR.s.hi)), none, some (.bool false)] mo f107.d f107.z f107.b (by kernel_rfl) ⟨b_g3_348, trivial⟩ (
       hc (fun _ _ wx cx => cx.c rfl (args0 ) Try.func30 (by decide +kernel) (rall_n wx) rfl rfl) <|
       hk (fun cx => cx.stR (wn rfl) rfl rfl 0 rfl (cx.rq 6 s6_349) (cx.u 0 rfl) (by kernel_rfl) rfl (by simp [Value.oneCell']) q_g3 rfl trivial trivial) <|
       hk (fun cx => cx.v (ex_as rfl rfl) rfl rfl) <|
       hn) ?_
      intro a108 w108 f108
      refine wp_ret ?_
      have s6_350 := f108.q 6 s6_349
      try simp only [Exit.inBlock, Exit.then]
      refine bodyPost_ret (res_ct (fn := Try.f22) rfl s6_350 (load_row 60 f108.rows.1 Try.underlying60 rfl (by kernel_rfl)) (f108.v 2 rfl rfl rfl)) f108.d ?_
      have HN : Rg.narB (givC cc ⟨⟨a, b⟩, ⟨c, d⟩⟩ ⟨⟨p, q⟩, ⟨r, t⟩⟩) = false := by rw [(yb Ffk38.out)]; exact ga_4 HA.out HB.out Ffk1.out Ffk2.out Ffk39.out
      have HE : Value.tuple #[.agg (cR allR.u.lo allR.u.hi allR.s.lo allR.s.hi), .bool false] = .tuple #[Rg.val D, .bool DB] := by rw [ED.out.1, ED.out.2]; unfold Rg.giv Rg.givB; rw [Ffk1.out, Ffk2.out, HCC.out Ffk3.out Ffk4.out, if_pos (by rfl)]; unfold Rg.nar; rw [HN]; rfl
      exact ⟨retV HE, f108.b⟩
     have Ffk39 := Lib.hid fk39; clear fk39
     have b_g2_351 := f106.k (f105.k (f102.k (f96.k (f10.k (f7.k (f6.k b_g2))))))
     have s5_352 := f106.q 5 (f105.q 5 (f102.q 5 (f96.q 5 (f10.q 5 (f7.q 5 (f6.q 5 u_g2))))))
     refine go_reg [bx g2 60 (cR p q r t)] [] [some (pt g2 1), some (.int .u64 q), some (.bool false)] mo f106.d f106.z f106.b (by kernel_rfl) ⟨b_g2_351, trivial⟩ (
      hk (fun cx => cx.v (ex_fa rfl (cx.rq 5 s5_352) (faRV60_1_0 _ _)) rfl rfl) <|
      hk (fun cx => cx.v (ex_ld rfl (cx.u 0 rfl) (cx.rn 0 rfl) rfl Try.isAgg30) rfl rfl) <|
      hk (fun cx => cx.v (ex_eq (x := .tmp 127) rfl (cx.u 0 rfl) rfl) rfl (congrArg Value.bool Ffk39.out)) <|
      hn) ?_
     intro a109 w109 f109
     refine wp_cond_false (f109.v 2 rfl rfl rfl) ?_
     refine wp_skip ?_
     have b_g1_353 := f109.k (f106.k (f105.k (f102.k (f96.k (f10.k (f7.k (f6.k b_g1)))))))
     have b_g2_354 := f109.k b_g2_351
     have s4_355 := f109.q 4 (f106.q 4 (f105.q 4 (f102.q 4 (f96.q 4 (f10.q 4 (f7.q 4 (f6.q 4 u_g1)))))))
     have s5_356 := f109.q 5 s5_352
     refine go_reg [⟨g1, 60, (cR a b c d), some 7, (cR a (min b (IntKind.u64.wrap (q - 1))) c d)⟩, bx g2 60 (cR p q r t)] [] [some (pt g1 1), some (.int .u64 b), some (pt g2 1), some (.int .u64 q), some (.int .u64 (IntKind.u64.wrap (q - 1))), some (.int .u64 (min b (IntKind.u64.wrap (q - 1)))), some (pt g1 1), none] mo f109.d f109.z f109.b (by kernel_rfl) ⟨b_g1_353, b_g2_354, trivial⟩ (
      hk (fun cx => cx.v (ex_fa rfl (cx.rq 4 s4_355) (faRV60_1_0 _ _)) rfl rfl) <|
      hk (fun cx => cx.v (ex_ld rfl (cx.u 0 rfl) (cx.rf 0 rfl (by kernel_rfl)) rfl Try.isAgg30) rfl rfl) <|
      hk (fun cx => cx.v (ex_fa rfl (cx.rq 5 s5_356) (faRV60_1_0 _ _)) rfl rfl) <|
      hk (fun cx => cx.v (ex_ld rfl (cx.u 0 rfl) (cx.rn 1 rfl) rfl Try.isAgg30) rfl rfl) <|
      hk (fun cx => cx.v (ex_sub (x := .tmp 133) rfl (cx.u 0 rfl) rfl) rfl rfl) <|
      hk (fun cx => cx.v (ex_min (x := .tmp 131) (y := .tmp 134) rfl (cx.u 0 rfl) (cx.u 1 rfl)) rfl rfl) <|
      hk (fun cx => cx.v (ex_fa rfl (cx.rq 4 s4_355) (faRV60_1_0 _ _)) rfl rfl) <|
      hk (fun cx => cx.stC (wn rfl) rfl rfl 0 rfl (cx.u 0 rfl) (cx.u 1 rfl) rfl rfl (by kernel_rfl) rfl rfl q_g1 rfl ⟨(ne_ptr (pairAt f1.ps 0 1 (by decide) rfl rfl) u_g1 u_g2).symm, trivial⟩ trivial) <|
      hn) ?_
     intro a110 w110 f110
     have s6_357 := f110.q 6 (f109.q 6 (f106.q 6 (f105.q 6 (f102.q 6 (f96.q 6 (f10.q 6 (f7.q 6 (f6.q 6 u_g3))))))))
     have s4_358 := f110.q 4 s4_355
     have b_g3_359 := f110.kp (f109.k (f106.k (f105.k (f102.k (f96.k (f10.k (f7.k (f6.k b_g3)))))))) ⟨.inr (ne_ptr (pairAt f1.ps 0 2 (by decide) rfl rfl) u_g1 u_g3).symm, .inl rfl, trivial⟩
     exact ⟨⟨⟨a, min b (IntKind.u64.wrap (q - 1))⟩, ⟨c, d⟩⟩, (by rw [(yb Ffk38.out)]; exact gc_4 HA.out HB.out Ffk1.out Ffk2.out Ffk39.out), f110.d, f110.z, f110.b, ⟨s6_357, s4_358, trivial⟩, ⟨b_g3_359, f110.rows.1, trivial⟩⟩
    have Ffk38 := Lib.hid fk38; clear fk38
    have s27_360 := f105.q 27 s27_344
    refine go_reg [] [] [some (.bool false), some (.bool false)] mo f105.d f105.z f105.b (by kernel_rfl) trivial (
     hk (fun cx => cx.v (ex_eq (x := .tmp 27) rfl (cx.rq 27 s27_360) rfl) rfl (congrArg Value.bool Ffk38.out)) <|
     hk (fun cx => cx.v (ex_as rfl (cx.u 0 rfl)) rfl rfl) <|
     hn) ?_
    intro a111 w111 f111
    refine wp_cond_false (f111.v 1 rfl rfl rfl) ?_
    refine wp_seq ?_
    cases fk40 : cc == 5
    case true =>
     have Ffk40 := Lib.hid fk40; clear fk40
     have s27_361 := f111.q 27 s27_360
     refine go_reg [] [] [some (.bool true), some (.bool true)] mo f111.d f111.z f111.b (by kernel_rfl) trivial (
      hk (fun cx => cx.v (ex_eq (x := .tmp 27) rfl (cx.rq 27 s27_361) rfl) rfl (congrArg Value.bool Ffk40.out)) <|
      hk (fun cx => cx.v (ex_as rfl (cx.u 0 rfl)) rfl rfl) <|
      hn) ?_
     intro a112 w112 f112
     refine wp_cond_true (f112.v 1 rfl rfl rfl) ?_
     have b_g1_362 := f112.k (f111.k (f105.k (f102.k (f96.k (f10.k (f7.k (f6.k b_g1)))))))
     have b_g2_363 := f112.k (f111.k (f105.k (f102.k (f96.k (f10.k (f7.k (f6.k b_g2)))))))
     have s4_364 := f112.q 4 (f111.q 4 (f105.q 4 (f102.q 4 (f96.q 4 (f10.q 4 (f7.q 4 (f6.q 4 u_g1)))))))
     have s5_365 := f112.q 5 (f111.q 5 (f105.q 5 (f102.q 5 (f96.q 5 (f10.q 5 (f7.q 5 (f6.q 5 u_g2)))))))
     refine go_reg [⟨g1, 60, (cR a b c d), some 6, (cR a (min b q) c d)⟩, bx g2 60 (cR p q r t)] [] [some (pt g1 1), some (.int .u64 b), some (pt g2 1), some (.int .u64 q), some (.int .u64 (min b q)), some (pt g1 1), none] mo f112.d f112.z f112.b (by kernel_rfl) ⟨b_g1_362, b_g2_363, trivial⟩ (
      hk (fun cx => cx.v (ex_fa rfl (cx.rq 4 s4_364) (faRV60_1_0 _ _)) rfl rfl) <|
      hk (fun cx => cx.v (ex_ld rfl (cx.u 0 rfl) (cx.rf 0 rfl (by kernel_rfl)) rfl Try.isAgg30) rfl rfl) <|
      hk (fun cx => cx.v (ex_fa rfl (cx.rq 5 s5_365) (faRV60_1_0 _ _)) rfl rfl) <|
      hk (fun cx => cx.v (ex_ld rfl (cx.u 0 rfl) (cx.rn 1 rfl) rfl Try.isAgg30) rfl rfl) <|
      hk (fun cx => cx.v (ex_min (x := .tmp 140) (y := .tmp 142) rfl (cx.u 0 rfl) (cx.u 1 rfl)) rfl rfl) <|
      hk (fun cx => cx.v (ex_fa rfl (cx.rq 4 s4_364) (faRV60_1_0 _ _)) rfl rfl) <|
      hk (fun cx => cx.stC (wn rfl) rfl rfl 0 rfl (cx.u 0 rfl) (cx.u 1 rfl) rfl rfl (by kernel_rfl) rfl rfl q_g1 rfl ⟨(ne_ptr (pairAt f1.ps 0 1 (by decide) rfl rfl) u_g1 u_g2).symm, trivial⟩ trivial) <|
      hn) ?_
     intro a113 w113 f113
     have s6_366 := f113.q 6 (f112.q 6 (f111.q 6 (f105.q 6 (f102.q 6 (f96.q 6 (f10.q 6 (f7.q 6 (f6.q 6 u_g3))))))))
     have s4_367 := f113.q 4 s4_364
     have b_g3_368 := f113.kp (f112.k (f111.k (f105.k (f102.k (f96.k (f10.k (f7.k (f6.k b_g3)))))))) ⟨.inr (ne_ptr (pairAt f1.ps 0 2 (by decide) rfl rfl) u_g1 u_g3).symm, .inl rfl, trivial⟩
     exact ⟨⟨⟨a, min b q⟩, ⟨c, d⟩⟩, (by rw [(yb Ffk40.out)]; exact gc_5 HA.out HB.out Ffk1.out Ffk2.out), f113.d, f113.z, f113.b, ⟨s6_366, s4_367, trivial⟩, ⟨b_g3_368, f113.rows.1, trivial⟩⟩
    have Ffk40 := Lib.hid fk40; clear fk40
    have s27_369 := f111.q 27 s27_360
    refine go_reg [] [] [some (.bool false), some (.bool false)] mo f111.d f111.z f111.b (by kernel_rfl) trivial (
     hk (fun cx => cx.v (ex_eq (x := .tmp 27) rfl (cx.rq 27 s27_369) rfl) rfl (congrArg Value.bool Ffk40.out)) <|
     hk (fun cx => cx.v (ex_as rfl (cx.u 0 rfl)) rfl rfl) <|
     hn) ?_
    intro a114 w114 f114
    refine wp_cond_false (f114.v 1 rfl rfl rfl) ?_
    refine wp_seq ?_
    cases fk41 : cc == 6
    case true =>
     have Ffk41 := Lib.hid fk41; clear fk41
     have s27_370 := f114.q 27 s27_369
     refine go_reg [] [] [some (.bool true), some (.bool true)] mo f114.d f114.z f114.b (by kernel_rfl) trivial (
      hk (fun cx => cx.v (ex_eq (x := .tmp 27) rfl (cx.rq 27 s27_370) rfl) rfl (congrArg Value.bool Ffk41.out)) <|
      hk (fun cx => cx.v (ex_as rfl (cx.u 0 rfl)) rfl rfl) <|
      hn) ?_
     intro a115 w115 f115
     refine wp_cond_true (f115.v 1 rfl rfl rfl) ?_
     refine wp_seq ?_
     refine wp_seq ?_
     cases fk42 : r == 9223372036854775807
     case true =>
      have Ffk42 := Lib.hid fk42; clear fk42
      have b_g2_371 := f115.k (f114.k (f111.k (f105.k (f102.k (f96.k (f10.k (f7.k (f6.k b_g2))))))))
      have s5_372 := f115.q 5 (f114.q 5 (f111.q 5 (f105.q 5 (f102.q 5 (f96.q 5 (f10.q 5 (f7.q 5 (f6.q 5 u_g2))))))))
      refine go_reg [bx g2 60 (cR p q r t)] [] [some (pt g2 2), some (.int .i64 r), some (.bool true)] mo f115.d f115.z f115.b (by kernel_rfl) ⟨b_g2_371, trivial⟩ (
       hk (fun cx => cx.v (ex_fa rfl (cx.rq 5 s5_372) (faRV60_2_0 _ _)) rfl rfl) <|
       hk (fun cx => cx.v (ex_ld rfl (cx.u 0 rfl) (cx.rn 0 rfl) rfl Try.isAgg2) rfl rfl) <|
       hk (fun cx => cx.v (ex_eq (x := .tmp 148) rfl (cx.u 0 rfl) rfl) rfl (congrArg Value.bool Ffk42.out)) <|
       hn) ?_
      intro a116 w116 f116
      refine wp_cond_true (f116.v 2 rfl rfl rfl) ?_
      refine wp_seq ?_
      have b_g3_373 := f116.k (f115.k (f114.k (f111.k (f105.k (f102.k (f96.k (f10.k (f7.k (f6.k b_g3)))))))))
      have s6_374 := f116.q 6 (f115.q 6 (f114.q 6 (f111.q 6 (f105.q 6 (f102.q 6 (f96.q 6 (f10.q 6 (f7.q 6 (f6.q 6 u_g3)))))))))
      refine go_reg [⟨g3, 60, (cR 0 0 0 0), some 1, (cR allR.u.lo allR.u.hi allR.s.lo allR.s.hi)⟩] [] [some (.agg (cR allR.u.lo allR.u.hi allR.s.lo allR.s.hi)), none, some (.bool false)] mo f116.d f116.z f116.b (by kernel_rfl) ⟨b_g3_373, trivial⟩ (
       hc (fun _ _ wx cx => cx.c rfl (args0 ) Try.func30 (by decide +kernel) (rall_n wx) rfl rfl) <|
       hk (fun cx => cx.stR (wn rfl) rfl rfl 0 rfl (cx.rq 6 s6_374) (cx.u 0 rfl) (by kernel_rfl) rfl (by simp [Value.oneCell']) q_g3 rfl trivial trivial) <|
       hk (fun cx => cx.v (ex_as rfl rfl) rfl rfl) <|
       hn) ?_
      intro a117 w117 f117
      refine wp_ret ?_
      have s6_375 := f117.q 6 s6_374
      try simp only [Exit.inBlock, Exit.then]
      refine bodyPost_ret (res_ct (fn := Try.f22) rfl s6_375 (load_row 60 f117.rows.1 Try.underlying60 rfl (by kernel_rfl)) (f117.v 2 rfl rfl rfl)) f117.d ?_
      have HN : Rg.narB (givC cc ⟨⟨a, b⟩, ⟨c, d⟩⟩ ⟨⟨p, q⟩, ⟨r, t⟩⟩) = false := by rw [(yb Ffk41.out)]; exact ga_6 HA.out HB.out Ffk1.out Ffk2.out Ffk42.out
      have HE : Value.tuple #[.agg (cR allR.u.lo allR.u.hi allR.s.lo allR.s.hi), .bool false] = .tuple #[Rg.val D, .bool DB] := by rw [ED.out.1, ED.out.2]; unfold Rg.giv Rg.givB; rw [Ffk1.out, Ffk2.out, HCC.out Ffk3.out Ffk4.out, if_pos (by rfl)]; unfold Rg.nar; rw [HN]; rfl
      exact ⟨retV HE, f117.b⟩
     have Ffk42 := Lib.hid fk42; clear fk42
     have b_g2_376 := f115.k (f114.k (f111.k (f105.k (f102.k (f96.k (f10.k (f7.k (f6.k b_g2))))))))
     have s5_377 := f115.q 5 (f114.q 5 (f111.q 5 (f105.q 5 (f102.q 5 (f96.q 5 (f10.q 5 (f7.q 5 (f6.q 5 u_g2))))))))
     refine go_reg [bx g2 60 (cR p q r t)] [] [some (pt g2 2), some (.int .i64 r), some (.bool false)] mo f115.d f115.z f115.b (by kernel_rfl) ⟨b_g2_376, trivial⟩ (
      hk (fun cx => cx.v (ex_fa rfl (cx.rq 5 s5_377) (faRV60_2_0 _ _)) rfl rfl) <|
      hk (fun cx => cx.v (ex_ld rfl (cx.u 0 rfl) (cx.rn 0 rfl) rfl Try.isAgg2) rfl rfl) <|
      hk (fun cx => cx.v (ex_eq (x := .tmp 148) rfl (cx.u 0 rfl) rfl) rfl (congrArg Value.bool Ffk42.out)) <|
      hn) ?_
     intro a118 w118 f118
     refine wp_cond_false (f118.v 2 rfl rfl rfl) ?_
     refine wp_skip ?_
     have b_g1_378 := f118.k (f115.k (f114.k (f111.k (f105.k (f102.k (f96.k (f10.k (f7.k (f6.k b_g1)))))))))
     have b_g2_379 := f118.k b_g2_376
     have s4_380 := f118.q 4 (f115.q 4 (f114.q 4 (f111.q 4 (f105.q 4 (f102.q 4 (f96.q 4 (f10.q 4 (f7.q 4 (f6.q 4 u_g1)))))))))
     have s5_381 := f118.q 5 s5_377
     refine go_reg [⟨g1, 60, (cR a b c d), some 7, (cR a b (max c (IntKind.i64.wrap (r + 1))) d)⟩, bx g2 60 (cR p q r t)] [] [some (pt g1 2), some (.int .i64 c), some (pt g2 2), some (.int .i64 r), some (.int .i64 (IntKind.i64.wrap (r + 1))), some (.int .i64 (max c (IntKind.i64.wrap (r + 1)))), some (pt g1 2), none] mo f118.d f118.z f118.b (by kernel_rfl) ⟨b_g1_378, b_g2_379, trivial⟩ (
      hk (fun cx => cx.v (ex_fa rfl (cx.rq 4 s4_380) (faRV60_2_0 _ _)) rfl rfl) <|
      hk (fun cx => cx.v (ex_ld rfl (cx.u 0 rfl) (cx.rf 0 rfl (by kernel_rfl)) rfl Try.isAgg2) rfl rfl) <|
      hk (fun cx => cx.v (ex_fa rfl (cx.rq 5 s5_381) (faRV60_2_0 _ _)) rfl rfl) <|
      hk (fun cx => cx.v (ex_ld rfl (cx.u 0 rfl) (cx.rn 1 rfl) rfl Try.isAgg2) rfl rfl) <|
      hk (fun cx => cx.v (ex_add (x := .tmp 154) rfl (cx.u 0 rfl) rfl) rfl rfl) <|
      hc (fun _ ax _ cx => cx.v (ex_max (x := .tmp 152) (y := .tmp 155) rfl (cx.u 0 rfl) (cx.u 1 rfl)) rfl rfl) <|
      hk (fun cx => cx.v (ex_fa rfl (cx.rq 4 s4_380) (faRV60_2_0 _ _)) rfl rfl) <|
      hk (fun cx => cx.stC (wn rfl) rfl rfl 0 rfl (cx.u 0 rfl) (cx.u 1 rfl) rfl rfl (by kernel_rfl) rfl rfl q_g1 rfl ⟨(ne_ptr (pairAt f1.ps 0 1 (by decide) rfl rfl) u_g1 u_g2).symm, trivial⟩ trivial) <|
      hn) ?_
     intro a119 w119 f119
     have s6_382 := f119.q 6 (f118.q 6 (f115.q 6 (f114.q 6 (f111.q 6 (f105.q 6 (f102.q 6 (f96.q 6 (f10.q 6 (f7.q 6 (f6.q 6 u_g3))))))))))
     have s4_383 := f119.q 4 s4_380
     have b_g3_384 := f119.kp (f118.k (f115.k (f114.k (f111.k (f105.k (f102.k (f96.k (f10.k (f7.k (f6.k b_g3)))))))))) ⟨.inr (ne_ptr (pairAt f1.ps 0 2 (by decide) rfl rfl) u_g1 u_g3).symm, .inl rfl, trivial⟩
     exact ⟨⟨⟨a, b⟩, ⟨max c (IntKind.i64.wrap (r + 1)), d⟩⟩, (by rw [(yb Ffk41.out)]; exact gc_6 HA.out HB.out Ffk1.out Ffk2.out Ffk42.out), f119.d, f119.z, f119.b, ⟨s6_382, s4_383, trivial⟩, ⟨b_g3_384, f119.rows.1, trivial⟩⟩
    have Ffk41 := Lib.hid fk41; clear fk41
    have s27_385 := f114.q 27 s27_369
    refine go_reg [] [] [some (.bool false), some (.bool false)] mo f114.d f114.z f114.b (by kernel_rfl) trivial (
     hk (fun cx => cx.v (ex_eq (x := .tmp 27) rfl (cx.rq 27 s27_385) rfl) rfl (congrArg Value.bool Ffk41.out)) <|
     hk (fun cx => cx.v (ex_as rfl (cx.u 0 rfl)) rfl rfl) <|
     hn) ?_
    intro a120 w120 f120
    refine wp_cond_false (f120.v 1 rfl rfl rfl) ?_
    refine wp_seq ?_
    cases fk43 : cc == 7
    case true =>
     have Ffk43 := Lib.hid fk43; clear fk43
     have s27_386 := f120.q 27 s27_385
     refine go_reg [] [] [some (.bool true), some (.bool true)] mo f120.d f120.z f120.b (by kernel_rfl) trivial (
      hk (fun cx => cx.v (ex_eq (x := .tmp 27) rfl (cx.rq 27 s27_386) rfl) rfl (congrArg Value.bool Ffk43.out)) <|
      hk (fun cx => cx.v (ex_as rfl (cx.u 0 rfl)) rfl rfl) <|
      hn) ?_
     intro a121 w121 f121
     refine wp_cond_true (f121.v 1 rfl rfl rfl) ?_
     have b_g1_387 := f121.k (f120.k (f114.k (f111.k (f105.k (f102.k (f96.k (f10.k (f7.k (f6.k b_g1)))))))))
     have b_g2_388 := f121.k (f120.k (f114.k (f111.k (f105.k (f102.k (f96.k (f10.k (f7.k (f6.k b_g2)))))))))
     have s4_389 := f121.q 4 (f120.q 4 (f114.q 4 (f111.q 4 (f105.q 4 (f102.q 4 (f96.q 4 (f10.q 4 (f7.q 4 (f6.q 4 u_g1)))))))))
     have s5_390 := f121.q 5 (f120.q 5 (f114.q 5 (f111.q 5 (f105.q 5 (f102.q 5 (f96.q 5 (f10.q 5 (f7.q 5 (f6.q 5 u_g2)))))))))
     refine go_reg [⟨g1, 60, (cR a b c d), some 6, (cR a b (max c r) d)⟩, bx g2 60 (cR p q r t)] [] [some (pt g1 2), some (.int .i64 c), some (pt g2 2), some (.int .i64 r), some (.int .i64 (max c r)), some (pt g1 2), none] mo f121.d f121.z f121.b (by kernel_rfl) ⟨b_g1_387, b_g2_388, trivial⟩ (
      hk (fun cx => cx.v (ex_fa rfl (cx.rq 4 s4_389) (faRV60_2_0 _ _)) rfl rfl) <|
      hk (fun cx => cx.v (ex_ld rfl (cx.u 0 rfl) (cx.rf 0 rfl (by kernel_rfl)) rfl Try.isAgg2) rfl rfl) <|
      hk (fun cx => cx.v (ex_fa rfl (cx.rq 5 s5_390) (faRV60_2_0 _ _)) rfl rfl) <|
      hk (fun cx => cx.v (ex_ld rfl (cx.u 0 rfl) (cx.rn 1 rfl) rfl Try.isAgg2) rfl rfl) <|
      hc (fun _ ax _ cx => cx.v (ex_max (x := .tmp 161) (y := .tmp 163) rfl (cx.u 0 rfl) (cx.u 1 rfl)) rfl rfl) <|
      hk (fun cx => cx.v (ex_fa rfl (cx.rq 4 s4_389) (faRV60_2_0 _ _)) rfl rfl) <|
      hk (fun cx => cx.stC (wn rfl) rfl rfl 0 rfl (cx.u 0 rfl) (cx.u 1 rfl) rfl rfl (by kernel_rfl) rfl rfl q_g1 rfl ⟨(ne_ptr (pairAt f1.ps 0 1 (by decide) rfl rfl) u_g1 u_g2).symm, trivial⟩ trivial) <|
      hn) ?_
     intro a122 w122 f122
     have s6_391 := f122.q 6 (f121.q 6 (f120.q 6 (f114.q 6 (f111.q 6 (f105.q 6 (f102.q 6 (f96.q 6 (f10.q 6 (f7.q 6 (f6.q 6 u_g3))))))))))
     have s4_392 := f122.q 4 s4_389
     have b_g3_393 := f122.kp (f121.k (f120.k (f114.k (f111.k (f105.k (f102.k (f96.k (f10.k (f7.k (f6.k b_g3)))))))))) ⟨.inr (ne_ptr (pairAt f1.ps 0 2 (by decide) rfl rfl) u_g1 u_g3).symm, .inl rfl, trivial⟩
     exact ⟨⟨⟨a, b⟩, ⟨max c r, d⟩⟩, (by rw [(yb Ffk43.out)]; exact gc_7 HA.out HB.out Ffk1.out Ffk2.out), f122.d, f122.z, f122.b, ⟨s6_391, s4_392, trivial⟩, ⟨b_g3_393, f122.rows.1, trivial⟩⟩
    have Ffk43 := Lib.hid fk43; clear fk43
    have s27_394 := f120.q 27 s27_385
    refine go_reg [] [] [some (.bool false), some (.bool false)] mo f120.d f120.z f120.b (by kernel_rfl) trivial (
     hk (fun cx => cx.v (ex_eq (x := .tmp 27) rfl (cx.rq 27 s27_394) rfl) rfl (congrArg Value.bool Ffk43.out)) <|
     hk (fun cx => cx.v (ex_as rfl (cx.u 0 rfl)) rfl rfl) <|
     hn) ?_
    intro a123 w123 f123
    refine wp_cond_false (f123.v 1 rfl rfl rfl) ?_
    refine wp_seq ?_
    cases fk44 : cc == 8
    case true =>
     have Ffk44 := Lib.hid fk44; clear fk44
     have s27_395 := f123.q 27 s27_394
     refine go_reg [] [] [some (.bool true), some (.bool true)] mo f123.d f123.z f123.b (by kernel_rfl) trivial (
      hk (fun cx => cx.v (ex_eq (x := .tmp 27) rfl (cx.rq 27 s27_395) rfl) rfl (congrArg Value.bool Ffk44.out)) <|
      hk (fun cx => cx.v (ex_as rfl (cx.u 0 rfl)) rfl rfl) <|
      hn) ?_
     intro a124 w124 f124
     refine wp_cond_true (f124.v 1 rfl rfl rfl) ?_
     refine wp_seq ?_
     refine wp_seq ?_
     cases fk45 : t == (-9223372036854775808)
     case true =>
      have Ffk45 := Lib.hid fk45; clear fk45
      have b_g2_396 := f124.k (f123.k (f120.k (f114.k (f111.k (f105.k (f102.k (f96.k (f10.k (f7.k (f6.k b_g2))))))))))
      have s5_397 := f124.q 5 (f123.q 5 (f120.q 5 (f114.q 5 (f111.q 5 (f105.q 5 (f102.q 5 (f96.q 5 (f10.q 5 (f7.q 5 (f6.q 5 u_g2))))))))))
      refine go_reg [bx g2 60 (cR p q r t)] [] [some (pt g2 3), some (.int .i64 t), some (.bool true)] mo f124.d f124.z f124.b (by kernel_rfl) ⟨b_g2_396, trivial⟩ (
       hk (fun cx => cx.v (ex_fa rfl (cx.rq 5 s5_397) (faRV60_3_0 _ _)) rfl rfl) <|
       hk (fun cx => cx.v (ex_ld rfl (cx.u 0 rfl) (cx.rn 0 rfl) rfl Try.isAgg2) rfl rfl) <|
       hk (fun cx => cx.v (ex_eq (x := .tmp 169) rfl (cx.u 0 rfl) rfl) rfl (congrArg Value.bool Ffk45.out)) <|
       hn) ?_
      intro a125 w125 f125
      refine wp_cond_true (f125.v 2 rfl rfl rfl) ?_
      refine wp_seq ?_
      have b_g3_398 := f125.k (f124.k (f123.k (f120.k (f114.k (f111.k (f105.k (f102.k (f96.k (f10.k (f7.k (f6.k b_g3)))))))))))
      have s6_399 := f125.q 6 (f124.q 6 (f123.q 6 (f120.q 6 (f114.q 6 (f111.q 6 (f105.q 6 (f102.q 6 (f96.q 6 (f10.q 6 (f7.q 6 (f6.q 6 u_g3)))))))))))
      refine go_reg [⟨g3, 60, (cR 0 0 0 0), some 1, (cR allR.u.lo allR.u.hi allR.s.lo allR.s.hi)⟩] [] [some (.agg (cR allR.u.lo allR.u.hi allR.s.lo allR.s.hi)), none, some (.bool false)] mo f125.d f125.z f125.b (by kernel_rfl) ⟨b_g3_398, trivial⟩ (
       hc (fun _ _ wx cx => cx.c rfl (args0 ) Try.func30 (by decide +kernel) (rall_n wx) rfl rfl) <|
       hk (fun cx => cx.stR (wn rfl) rfl rfl 0 rfl (cx.rq 6 s6_399) (cx.u 0 rfl) (by kernel_rfl) rfl (by simp [Value.oneCell']) q_g3 rfl trivial trivial) <|
       hk (fun cx => cx.v (ex_as rfl rfl) rfl rfl) <|
       hn) ?_
      intro a126 w126 f126
      refine wp_ret ?_
      have s6_400 := f126.q 6 s6_399
      try simp only [Exit.inBlock, Exit.then]
      refine bodyPost_ret (res_ct (fn := Try.f22) rfl s6_400 (load_row 60 f126.rows.1 Try.underlying60 rfl (by kernel_rfl)) (f126.v 2 rfl rfl rfl)) f126.d ?_
      have HN : Rg.narB (givC cc ⟨⟨a, b⟩, ⟨c, d⟩⟩ ⟨⟨p, q⟩, ⟨r, t⟩⟩) = false := by rw [(yb Ffk44.out)]; exact ga_8 HA.out HB.out Ffk1.out Ffk2.out Ffk45.out
      have HE : Value.tuple #[.agg (cR allR.u.lo allR.u.hi allR.s.lo allR.s.hi), .bool false] = .tuple #[Rg.val D, .bool DB] := by rw [ED.out.1, ED.out.2]; unfold Rg.giv Rg.givB; rw [Ffk1.out, Ffk2.out, HCC.out Ffk3.out Ffk4.out, if_pos (by rfl)]; unfold Rg.nar; rw [HN]; rfl
      exact ⟨retV HE, f126.b⟩
     have Ffk45 := Lib.hid fk45; clear fk45
     have b_g2_401 := f124.k (f123.k (f120.k (f114.k (f111.k (f105.k (f102.k (f96.k (f10.k (f7.k (f6.k b_g2))))))))))
     have s5_402 := f124.q 5 (f123.q 5 (f120.q 5 (f114.q 5 (f111.q 5 (f105.q 5 (f102.q 5 (f96.q 5 (f10.q 5 (f7.q 5 (f6.q 5 u_g2))))))))))
     refine go_reg [bx g2 60 (cR p q r t)] [] [some (pt g2 3), some (.int .i64 t), some (.bool false)] mo f124.d f124.z f124.b (by kernel_rfl) ⟨b_g2_401, trivial⟩ (
      hk (fun cx => cx.v (ex_fa rfl (cx.rq 5 s5_402) (faRV60_3_0 _ _)) rfl rfl) <|
      hk (fun cx => cx.v (ex_ld rfl (cx.u 0 rfl) (cx.rn 0 rfl) rfl Try.isAgg2) rfl rfl) <|
      hk (fun cx => cx.v (ex_eq (x := .tmp 169) rfl (cx.u 0 rfl) rfl) rfl (congrArg Value.bool Ffk45.out)) <|
      hn) ?_
     intro a127 w127 f127
     refine wp_cond_false (f127.v 2 rfl rfl rfl) ?_
     refine wp_skip ?_
     have b_g1_403 := f127.k (f124.k (f123.k (f120.k (f114.k (f111.k (f105.k (f102.k (f96.k (f10.k (f7.k (f6.k b_g1)))))))))))
     have b_g2_404 := f127.k b_g2_401
     have s4_405 := f127.q 4 (f124.q 4 (f123.q 4 (f120.q 4 (f114.q 4 (f111.q 4 (f105.q 4 (f102.q 4 (f96.q 4 (f10.q 4 (f7.q 4 (f6.q 4 u_g1)))))))))))
     have s5_406 := f127.q 5 s5_402
     refine go_reg [⟨g1, 60, (cR a b c d), some 7, (cR a b c (min d (IntKind.i64.wrap (t - 1))))⟩, bx g2 60 (cR p q r t)] [] [some (pt g1 3), some (.int .i64 d), some (pt g2 3), some (.int .i64 t), some (.int .i64 (IntKind.i64.wrap (t - 1))), some (.int .i64 (min d (IntKind.i64.wrap (t - 1)))), some (pt g1 3), none] mo f127.d f127.z f127.b (by kernel_rfl) ⟨b_g1_403, b_g2_404, trivial⟩ (
      hk (fun cx => cx.v (ex_fa rfl (cx.rq 4 s4_405) (faRV60_3_0 _ _)) rfl rfl) <|
      hk (fun cx => cx.v (ex_ld rfl (cx.u 0 rfl) (cx.rf 0 rfl (by kernel_rfl)) rfl Try.isAgg2) rfl rfl) <|
      hk (fun cx => cx.v (ex_fa rfl (cx.rq 5 s5_406) (faRV60_3_0 _ _)) rfl rfl) <|
      hk (fun cx => cx.v (ex_ld rfl (cx.u 0 rfl) (cx.rn 1 rfl) rfl Try.isAgg2) rfl rfl) <|
      hk (fun cx => cx.v (ex_sub (x := .tmp 175) rfl (cx.u 0 rfl) rfl) rfl rfl) <|
      hk (fun cx => cx.v (ex_min (x := .tmp 173) (y := .tmp 176) rfl (cx.u 0 rfl) (cx.u 1 rfl)) rfl rfl) <|
      hk (fun cx => cx.v (ex_fa rfl (cx.rq 4 s4_405) (faRV60_3_0 _ _)) rfl rfl) <|
      hk (fun cx => cx.stC (wn rfl) rfl rfl 0 rfl (cx.u 0 rfl) (cx.u 1 rfl) rfl rfl (by kernel_rfl) rfl rfl q_g1 rfl ⟨(ne_ptr (pairAt f1.ps 0 1 (by decide) rfl rfl) u_g1 u_g2).symm, trivial⟩ trivial) <|
      hn) ?_
     intro a128 w128 f128
     have s6_407 := f128.q 6 (f127.q 6 (f124.q 6 (f123.q 6 (f120.q 6 (f114.q 6 (f111.q 6 (f105.q 6 (f102.q 6 (f96.q 6 (f10.q 6 (f7.q 6 (f6.q 6 u_g3))))))))))))
     have s4_408 := f128.q 4 s4_405
     have b_g3_409 := f128.kp (f127.k (f124.k (f123.k (f120.k (f114.k (f111.k (f105.k (f102.k (f96.k (f10.k (f7.k (f6.k b_g3)))))))))))) ⟨.inr (ne_ptr (pairAt f1.ps 0 2 (by decide) rfl rfl) u_g1 u_g3).symm, .inl rfl, trivial⟩
     exact ⟨⟨⟨a, b⟩, ⟨c, min d (IntKind.i64.wrap (t - 1))⟩⟩, (by rw [(yb Ffk44.out)]; exact gc_8 HA.out HB.out Ffk1.out Ffk2.out Ffk45.out), f128.d, f128.z, f128.b, ⟨s6_407, s4_408, trivial⟩, ⟨b_g3_409, f128.rows.1, trivial⟩⟩
    have Ffk44 := Lib.hid fk44; clear fk44
    have s27_410 := f123.q 27 s27_394
    refine go_reg [] [] [some (.bool false), some (.bool false)] mo f123.d f123.z f123.b (by kernel_rfl) trivial (
     hk (fun cx => cx.v (ex_eq (x := .tmp 27) rfl (cx.rq 27 s27_410) rfl) rfl (congrArg Value.bool Ffk44.out)) <|
     hk (fun cx => cx.v (ex_as rfl (cx.u 0 rfl)) rfl rfl) <|
     hn) ?_
    intro a129 w129 f129
    refine wp_cond_false (f129.v 1 rfl rfl rfl) ?_
    refine wp_seq ?_
    cases fk46 : cc == 9
    case true =>
     have Ffk46 := Lib.hid fk46; clear fk46
     have s27_411 := f129.q 27 s27_410
     refine go_reg [] [] [some (.bool true), some (.bool true)] mo f129.d f129.z f129.b (by kernel_rfl) trivial (
      hk (fun cx => cx.v (ex_eq (x := .tmp 27) rfl (cx.rq 27 s27_411) rfl) rfl (congrArg Value.bool Ffk46.out)) <|
      hk (fun cx => cx.v (ex_as rfl (cx.u 0 rfl)) rfl rfl) <|
      hn) ?_
     intro a130 w130 f130
     refine wp_cond_true (f130.v 1 rfl rfl rfl) ?_
     have b_g1_412 := f130.k (f129.k (f123.k (f120.k (f114.k (f111.k (f105.k (f102.k (f96.k (f10.k (f7.k (f6.k b_g1)))))))))))
     have b_g2_413 := f130.k (f129.k (f123.k (f120.k (f114.k (f111.k (f105.k (f102.k (f96.k (f10.k (f7.k (f6.k b_g2)))))))))))
     have s4_414 := f130.q 4 (f129.q 4 (f123.q 4 (f120.q 4 (f114.q 4 (f111.q 4 (f105.q 4 (f102.q 4 (f96.q 4 (f10.q 4 (f7.q 4 (f6.q 4 u_g1)))))))))))
     have s5_415 := f130.q 5 (f129.q 5 (f123.q 5 (f120.q 5 (f114.q 5 (f111.q 5 (f105.q 5 (f102.q 5 (f96.q 5 (f10.q 5 (f7.q 5 (f6.q 5 u_g2)))))))))))
     refine go_reg [⟨g1, 60, (cR a b c d), some 6, (cR a b c (min d t))⟩, bx g2 60 (cR p q r t)] [] [some (pt g1 3), some (.int .i64 d), some (pt g2 3), some (.int .i64 t), some (.int .i64 (min d t)), some (pt g1 3), none] mo f130.d f130.z f130.b (by kernel_rfl) ⟨b_g1_412, b_g2_413, trivial⟩ (
      hk (fun cx => cx.v (ex_fa rfl (cx.rq 4 s4_414) (faRV60_3_0 _ _)) rfl rfl) <|
      hk (fun cx => cx.v (ex_ld rfl (cx.u 0 rfl) (cx.rf 0 rfl (by kernel_rfl)) rfl Try.isAgg2) rfl rfl) <|
      hk (fun cx => cx.v (ex_fa rfl (cx.rq 5 s5_415) (faRV60_3_0 _ _)) rfl rfl) <|
      hk (fun cx => cx.v (ex_ld rfl (cx.u 0 rfl) (cx.rn 1 rfl) rfl Try.isAgg2) rfl rfl) <|
      hk (fun cx => cx.v (ex_min (x := .tmp 182) (y := .tmp 184) rfl (cx.u 0 rfl) (cx.u 1 rfl)) rfl rfl) <|
      hk (fun cx => cx.v (ex_fa rfl (cx.rq 4 s4_414) (faRV60_3_0 _ _)) rfl rfl) <|
      hk (fun cx => cx.stC (wn rfl) rfl rfl 0 rfl (cx.u 0 rfl) (cx.u 1 rfl) rfl rfl (by kernel_rfl) rfl rfl q_g1 rfl ⟨(ne_ptr (pairAt f1.ps 0 1 (by decide) rfl rfl) u_g1 u_g2).symm, trivial⟩ trivial) <|
      hn) ?_
     intro a131 w131 f131
     have s6_416 := f131.q 6 (f130.q 6 (f129.q 6 (f123.q 6 (f120.q 6 (f114.q 6 (f111.q 6 (f105.q 6 (f102.q 6 (f96.q 6 (f10.q 6 (f7.q 6 (f6.q 6 u_g3))))))))))))
     have s4_417 := f131.q 4 s4_414
     have b_g3_418 := f131.kp (f130.k (f129.k (f123.k (f120.k (f114.k (f111.k (f105.k (f102.k (f96.k (f10.k (f7.k (f6.k b_g3)))))))))))) ⟨.inr (ne_ptr (pairAt f1.ps 0 2 (by decide) rfl rfl) u_g1 u_g3).symm, .inl rfl, trivial⟩
     exact ⟨⟨⟨a, b⟩, ⟨c, min d t⟩⟩, (by rw [(yb Ffk46.out)]; exact gc_9 HA.out HB.out Ffk1.out Ffk2.out), f131.d, f131.z, f131.b, ⟨s6_416, s4_417, trivial⟩, ⟨b_g3_418, f131.rows.1, trivial⟩⟩
    have Ffk46 := Lib.hid fk46; clear fk46
    have s27_419 := f129.q 27 s27_410
    refine go_reg [] [] [some (.bool false), some (.bool false)] mo f129.d f129.z f129.b (by kernel_rfl) trivial (
     hk (fun cx => cx.v (ex_eq (x := .tmp 27) rfl (cx.rq 27 s27_419) rfl) rfl (congrArg Value.bool Ffk46.out)) <|
     hk (fun cx => cx.v (ex_as rfl (cx.u 0 rfl)) rfl rfl) <|
     hn) ?_
    intro a132 w132 f132
    refine wp_cond_false (f132.v 1 rfl rfl rfl) ?_
    refine wp_skip ?_
    have s6_420 := f132.q 6 (f129.q 6 (f123.q 6 (f120.q 6 (f114.q 6 (f111.q 6 (f105.q 6 (f102.q 6 (f96.q 6 (f10.q 6 (f7.q 6 (f6.q 6 u_g3)))))))))))
    have s4_421 := f132.q 4 (f129.q 4 (f123.q 4 (f120.q 4 (f114.q 4 (f111.q 4 (f105.q 4 (f102.q 4 (f96.q 4 (f10.q 4 (f7.q 4 (f6.q 4 u_g1)))))))))))
    have b_g3_422 := f132.k (f129.k (f123.k (f120.k (f114.k (f111.k (f105.k (f102.k (f96.k (f10.k (f7.k (f6.k b_g3)))))))))))
    have b_g1_423 := f132.k (f129.k (f123.k (f120.k (f114.k (f111.k (f105.k (f102.k (f96.k (f10.k (f7.k (f6.k b_g1)))))))))))
    exact ⟨⟨⟨a, b⟩, ⟨c, d⟩⟩, (by rw [(show cc = 10 by have n0 := nb Ffk5.out; have n1 := nb Ffk6.out; have n2 := nb Ffk35.out; have n3 := nb Ffk37.out; have n4 := nb Ffk38.out; have n5 := nb Ffk40.out; have n6 := nb Ffk41.out; have n7 := nb Ffk43.out; have n8 := nb Ffk44.out; have n9 := nb Ffk46.out; have l := of_decide_eq_false Ffk3.out; have h := of_decide_eq_false Ffk4.out; omega)]; exact gc_10 HA.out HB.out Ffk1.out Ffk2.out), f132.d, f132.z, f132.b, ⟨s6_420, s4_421, trivial⟩, ⟨b_g3_422, b_g1_423, trivial⟩⟩
    rintro aM wM ⟨z, hM, dM, zM, BM, ⟨sM6, sM4, -⟩, ⟨bM_g3, bM_g1, -⟩⟩
    replace sM6 : aM.tmps.getD 6 undef = .pointer (some ⟨g3, 0, none⟩) := sM6
    replace sM4 : aM.tmps.getD 4 undef = .pointer (some ⟨g1, 0, none⟩) := sM4
    refine wp_seq ?_
    refine go_reg [bx g1 60 (cR z.u.lo z.u.hi z.s.lo z.s.hi), ⟨g3, 60, (cR 0 0 0 0), some 4, (cR ((Rg.nar z).u.lo) ((Rg.nar z).u.hi) ((Rg.nar z).s.lo) ((Rg.nar z).s.hi))⟩] [] [some (.agg (cR z.u.lo z.u.hi z.s.lo z.s.hi)), some (.tuple #[.agg (cR ((Rg.nar z).u.lo) ((Rg.nar z).u.hi) ((Rg.nar z).s.lo) ((Rg.nar z).s.hi)), .bool (Rg.narB z)]), some (.agg (cR ((Rg.nar z).u.lo) ((Rg.nar z).u.hi) ((Rg.nar z).s.lo) ((Rg.nar z).s.hi))), some (.bool (Rg.narB z)), none, some (.bool (Rg.narB z))] mo dM zM BM (by kernel_rfl) ⟨bM_g1, bM_g3, trivial⟩ (
     hk (fun cx => cx.v (ldR rfl (cx.rq 4 sM4) (cx.rn 0 rfl)) rfl rfl) <|
     hc (fun _ _ wx cx => cx.c rfl (args1 (cx.u 0 rfl)) Try.func26 (by decide +kernel) (rnarrow_n z.u.lo z.u.hi z.s.lo z.s.hi wx hM.1) rfl rfl) <|
     hk (fun cx => cx.v (ex_ext (x := .tmp 188) rfl (cx.u 0 rfl) rfl) rfl rfl) <|
     hk (fun cx => cx.v (ex_ext (x := .tmp 188) rfl (cx.u 0 rfl) rfl) rfl rfl) <|
     hk (fun cx => cx.stR (wn rfl) rfl rfl 1 rfl (cx.rq 6 sM6) (cx.u 0 rfl) (by kernel_rfl) rfl (by simp [Value.oneCell']) q_g3 rfl ⟨neM0_1.symm, trivial⟩ trivial) <|
     hk (fun cx => cx.v (ex_as rfl (cx.u 0 rfl)) rfl rfl) <|
     hn) ?_
    intro a133 w133 f133
    refine wp_ret ?_
    have s6_424 := f133.q 6 sM6
    try simp only [Exit.inBlock, Exit.then]
    refine bodyPost_ret (res_ct (fn := Try.f22) rfl s6_424 (load_row 60 f133.rows.2.1 Try.underlying60 rfl (by kernel_rfl)) (f133.v 5 rfl rfl rfl)) f133.d ?_
    have HE : Value.tuple #[.agg (cR ((Rg.nar z).u.lo) ((Rg.nar z).u.hi) ((Rg.nar z).s.lo) ((Rg.nar z).s.hi)), .bool (Rg.narB z)] = .tuple #[Rg.val D, .bool DB] := by rw [ED.out.1, ED.out.2]; unfold Rg.giv Rg.givB; rw [Ffk1.out, Ffk2.out, HCC.out Ffk3.out Ffk4.out, if_pos (by rfl), hM.2.1, hM.2.2]; rfl
    exact ⟨retV HE, f133.b⟩
   have Ffk4 := Lib.hid fk4; clear fk4
   have s0_425 := f1.q 0 s0_0
   refine go_reg [bx g1 60 (cR a b c d), bx g2 60 (cR p q r t)] [] [some (.agg (cR a b c d)), some (.bool true), some (.bool false), some (.bool false), some (.agg (cR p q r t)), some (.bool true), some (.bool false), some (.bool false), some (.bool false), some (.int .i8 cc), some (.bool false), some (.bool false), some (.bool false), some (.int .i8 cc), some (.bool true), some (.bool true)] mo f1.d f1.z f1.b (by kernel_rfl) ⟨b_g1, b_g2, trivial⟩ (
    hk (fun cx => cx.v (ldR rfl (cx.rq 4 u_g1) (cx.rn 0 rfl)) rfl rfl) <|
    hc (fun _ _ wx cx => cx.c rfl (args1 (cx.u 0 rfl)) Try.func28 (by decide +kernel) (rmay_n a b c d wx) rfl (congrArg Value.bool Ffk1.out)) <|
    hk (fun cx => cx.v (ex_not (x := .tmp 11) rfl (cx.u 0 rfl)) rfl rfl) <|
    hk (fun cx => cx.v (ex_mv rfl (cx.u 0 rfl)) rfl rfl) <|
    hk (fun cx => cx.val (cx.wy rfl rfl rfl rfl (cx.u 0 rfl)) (ldR rfl (cx.rq 5 u_g2) (cx.rn 1 rfl)) rfl rfl rfl rfl) <|
    hc (fun _ _ wx cx => cx.call (cx.wy rfl rfl rfl rfl (cx.u 1 rfl)) rfl rfl (args1 (cx.u 0 rfl)) Try.func28 (by decide +kernel) rfl (rmay_n p q r t wx) rfl rfl (congrArg Value.bool Ffk2.out) rfl) <|
    hk (fun cx => cx.val (cx.wy rfl rfl rfl rfl (cx.u 1 rfl)) (ex_not (x := .tmp 15) rfl (cx.u 0 rfl)) rfl rfl rfl rfl) <|
    hk (fun cx => cx.v (ex_pf rfl (cx.u 0 rfl) (cx.u 1 rfl)) rfl rfl) <|
    hk (fun cx => cx.v (ex_mv rfl (cx.u 0 rfl)) rfl rfl) <|
    hk (fun cx => cx.val (cx.wy rfl rfl rfl rfl (cx.u 0 rfl)) (ex_mv rfl (cx.rq 0 s0_425)) rfl rfl rfl rfl) <|
    hk (fun cx => cx.val (cx.wy rfl rfl rfl rfl (cx.u 1 rfl)) (ex_lt (x := .tmp 19) rfl (cx.u 0 rfl) rfl) rfl rfl (congrArg Value.bool Ffk3.out) rfl) <|
    hk (fun cx => cx.v (ex_pf rfl (cx.u 0 rfl) (cx.u 1 rfl)) rfl rfl) <|
    hk (fun cx => cx.v (ex_mv rfl (cx.u 0 rfl)) rfl rfl) <|
    hk (fun cx => cx.val (cx.wy rfl rfl rfl rfl (cx.u 0 rfl)) (ex_mv rfl (cx.rq 0 s0_425)) rfl rfl rfl rfl) <|
    hk (fun cx => cx.val (cx.wy rfl rfl rfl rfl (cx.u 1 rfl)) (ex_gt (x := .tmp 23) rfl (cx.u 0 rfl) rfl) rfl rfl (congrArg Value.bool Ffk4.out) rfl) <|
    hk (fun cx => cx.v (ex_pf rfl (cx.u 0 rfl) (cx.u 1 rfl)) rfl rfl) <|
    hn) ?_
   intro a134 w134 f134
   refine wp_cond_true (f134.v 15 rfl rfl rfl) ?_
   refine wp_seq ?_
   have b_g3_426 := f134.k b_g3
   have s6_427 := f134.q 6 u_g3
   refine go_reg [⟨g3, 60, (cR 0 0 0 0), some 1, (cR allR.u.lo allR.u.hi allR.s.lo allR.s.hi)⟩] [] [some (.agg (cR allR.u.lo allR.u.hi allR.s.lo allR.s.hi)), none, some (.bool false)] mo f134.d f134.z f134.b (by kernel_rfl) ⟨b_g3_426, trivial⟩ (
    hc (fun _ _ wx cx => cx.c rfl (args0 ) Try.func30 (by decide +kernel) (rall_n wx) rfl rfl) <|
    hk (fun cx => cx.stR (wn rfl) rfl rfl 0 rfl (cx.rq 6 s6_427) (cx.u 0 rfl) (by kernel_rfl) rfl (by simp [Value.oneCell']) q_g3 rfl trivial trivial) <|
    hk (fun cx => cx.v (ex_as rfl rfl) rfl rfl) <|
    hn) ?_
   intro a135 w135 f135
   refine wp_ret ?_
   have s6_428 := f135.q 6 s6_427
   try simp only [Exit.inBlock, Exit.then]
   refine bodyPost_ret (res_ct (fn := Try.f22) rfl s6_428 (load_row 60 f135.rows.1 Try.underlying60 rfl (by kernel_rfl)) (f135.v 2 rfl rfl rfl)) f135.d ?_
   have HE : Value.tuple #[.agg (cR allR.u.lo allR.u.hi allR.s.lo allR.s.hi), .bool false] = .tuple #[Rg.val D, .bool DB] := by rw [ED.out.1, ED.out.2]; unfold Rg.giv Rg.givB; rw [Ffk1.out, Ffk2.out, HC1.out Ffk4.out]; rfl
   exact ⟨retV HE, f135.b⟩
  have Ffk3 := Lib.hid fk3; clear fk3
  have s0_429 := f1.q 0 s0_0
  refine go_reg [bx g1 60 (cR a b c d), bx g2 60 (cR p q r t)] [] [some (.agg (cR a b c d)), some (.bool true), some (.bool false), some (.bool false), some (.agg (cR p q r t)), some (.bool true), some (.bool false), some (.bool false), some (.bool false), some (.int .i8 cc), some (.bool true), some (.bool true), some (.bool true), some (undef), some (undef), some (.bool true)] mo f1.d f1.z f1.b (by kernel_rfl) ⟨b_g1, b_g2, trivial⟩ (
   hk (fun cx => cx.v (ldR rfl (cx.rq 4 u_g1) (cx.rn 0 rfl)) rfl rfl) <|
   hc (fun _ _ wx cx => cx.c rfl (args1 (cx.u 0 rfl)) Try.func28 (by decide +kernel) (rmay_n a b c d wx) rfl (congrArg Value.bool Ffk1.out)) <|
   hk (fun cx => cx.v (ex_not (x := .tmp 11) rfl (cx.u 0 rfl)) rfl rfl) <|
   hk (fun cx => cx.v (ex_mv rfl (cx.u 0 rfl)) rfl rfl) <|
   hk (fun cx => cx.val (cx.wy rfl rfl rfl rfl (cx.u 0 rfl)) (ldR rfl (cx.rq 5 u_g2) (cx.rn 1 rfl)) rfl rfl rfl rfl) <|
   hc (fun _ _ wx cx => cx.call (cx.wy rfl rfl rfl rfl (cx.u 1 rfl)) rfl rfl (args1 (cx.u 0 rfl)) Try.func28 (by decide +kernel) rfl (rmay_n p q r t wx) rfl rfl (congrArg Value.bool Ffk2.out) rfl) <|
   hk (fun cx => cx.val (cx.wy rfl rfl rfl rfl (cx.u 1 rfl)) (ex_not (x := .tmp 15) rfl (cx.u 0 rfl)) rfl rfl rfl rfl) <|
   hk (fun cx => cx.v (ex_pf rfl (cx.u 0 rfl) (cx.u 1 rfl)) rfl rfl) <|
   hk (fun cx => cx.v (ex_mv rfl (cx.u 0 rfl)) rfl rfl) <|
   hk (fun cx => cx.val (cx.wy rfl rfl rfl rfl (cx.u 0 rfl)) (ex_mv rfl (cx.rq 0 s0_429)) rfl rfl rfl rfl) <|
   hk (fun cx => cx.val (cx.wy rfl rfl rfl rfl (cx.u 1 rfl)) (ex_lt (x := .tmp 19) rfl (cx.u 0 rfl) rfl) rfl rfl (congrArg Value.bool Ffk3.out) rfl) <|
   hk (fun cx => cx.v (ex_pf rfl (cx.u 0 rfl) (cx.u 1 rfl)) rfl rfl) <|
   hk (fun cx => cx.v (ex_mv rfl (cx.u 0 rfl)) rfl rfl) <|
   hk (fun cx => cx.no (cx.wo rfl rfl rfl rfl (cx.u 0 rfl) rfl) rfl rfl rfl rfl) <|
   hk (fun cx => cx.no (cx.wo rfl rfl rfl rfl (cx.u 1 rfl) rfl) rfl rfl rfl rfl) <|
   hk (fun cx => cx.v (ex_pt rfl (cx.u 0 rfl) rfl) rfl rfl) <|
   hn) ?_
  intro a136 w136 f136
  refine wp_cond_true (f136.v 15 rfl rfl rfl) ?_
  refine wp_seq ?_
  have b_g3_430 := f136.k b_g3
  have s6_431 := f136.q 6 u_g3
  refine go_reg [⟨g3, 60, (cR 0 0 0 0), some 1, (cR allR.u.lo allR.u.hi allR.s.lo allR.s.hi)⟩] [] [some (.agg (cR allR.u.lo allR.u.hi allR.s.lo allR.s.hi)), none, some (.bool false)] mo f136.d f136.z f136.b (by kernel_rfl) ⟨b_g3_430, trivial⟩ (
   hc (fun _ _ wx cx => cx.c rfl (args0 ) Try.func30 (by decide +kernel) (rall_n wx) rfl rfl) <|
   hk (fun cx => cx.stR (wn rfl) rfl rfl 0 rfl (cx.rq 6 s6_431) (cx.u 0 rfl) (by kernel_rfl) rfl (by simp [Value.oneCell']) q_g3 rfl trivial trivial) <|
   hk (fun cx => cx.v (ex_as rfl rfl) rfl rfl) <|
   hn) ?_
  intro a137 w137 f137
  refine wp_ret ?_
  have s6_432 := f137.q 6 s6_431
  try simp only [Exit.inBlock, Exit.then]
  refine bodyPost_ret (res_ct (fn := Try.f22) rfl s6_432 (load_row 60 f137.rows.1 Try.underlying60 rfl (by kernel_rfl)) (f137.v 2 rfl rfl rfl)) f137.d ?_
  have HE : Value.tuple #[.agg (cR allR.u.lo allR.u.hi allR.s.lo allR.s.hi), .bool false] = .tuple #[Rg.val D, .bool DB] := by rw [ED.out.1, ED.out.2]; unfold Rg.giv Rg.givB; rw [Ffk1.out, Ffk2.out, HC0.out Ffk3.out]; rfl
  exact ⟨retV HE, f137.b⟩
end Go.Proofs.Ytnmgehjccafegaa.Bnd
