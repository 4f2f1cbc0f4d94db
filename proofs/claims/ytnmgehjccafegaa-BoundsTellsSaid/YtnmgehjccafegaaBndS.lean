/-
  The document's own answer for layer 7: Single, Join, Meet, In, Low, sums, filled. (Written by gen_bndd.py.)
-/
import Derived.Test.YtnmgehjccafegaaBndR
import Derived.Test.YtnmgehjccafegaaBndD
import Derived.Test.YtnmgehjccafegaaBndL
namespace Go.Proofs.Ytnmgehjccafegaa.Bnd
open Go.RowKit
set_option linter.unusedVariables false
set_option linter.unusedSimpArgs false
set_option linter.unnecessarySimpa false
set_option maxRecDepth 100000

theorem faRS60_0_0 (g : Nat) (w : World) : (Instr.fieldAt 60 (.pointer (some ⟨g, 0, none⟩)) 0).run Try.prog w = .ok (.pointer (some ⟨g, 0, none⟩)) w := by simp [go_sem]
theorem faRS60_1_0 (g : Nat) (w : World) : (Instr.fieldAt 60 (.pointer (some ⟨g, 0, none⟩)) 1).run Try.prog w = .ok (.pointer (some ⟨g, 1, none⟩)) w := by simp [go_sem]
theorem faRS60_2_0 (g : Nat) (w : World) : (Instr.fieldAt 60 (.pointer (some ⟨g, 0, none⟩)) 2).run Try.prog w = .ok (.pointer (some ⟨g, 2, none⟩)) w := by simp [go_sem]
theorem faRS60_3_0 (g : Nat) (w : World) : (Instr.fieldAt 60 (.pointer (some ⟨g, 0, none⟩)) 3).run Try.prog w = .ok (.pointer (some ⟨g, 3, none⟩)) w := by simp [go_sem]

set_option maxHeartbeats 4000000 in
theorem rsingle_n (a b c d : Int) (W : World) : Calls Try.prog 24 #[.agg #[.int .u64 a, .int .u64 b, .int .i64 c, .int .i64 d]] W fun e w' => e = .returned (.tuple #[.int .u64 (Rg.oneV ⟨⟨a, b⟩, ⟨c, d⟩⟩), .bool (Rg.oneB ⟨⟨a, b⟩, ⟨c, d⟩⟩)]) ∧ Below W.heap.size W w' := by
  refine calls_abs Try.func24 rfl (Nat.le_of_ble_eq_true rfl) ?_
  intro a0 d0 z0 h0
  replace z0 : a0.tmps.size = 18 := z0
  have s0_0 : a0.tmps.getD 0 undef = .agg (cR a b c d) := h0 0 (Nat.le_of_ble_eq_true rfl)
  refine wp_seq ?_
  refine go_reg [] [⟨0, 1, 60, (cR a b c d), none, #[]⟩] [none, some (.int .u64 0), some (.bool false)] mo d0 z0 (Below.refl _ _) (by kernel_rfl) trivial (
   hc (fun _ ax _ cx => cx.al (wn rfl) 0 rfl (by simp [execOp, Act.eval, (show ax.tmps.getD 0 undef = .agg (cR a b c d) from (cx.rq 0 s0_0)), go_sem]) rfl rfl rfl rfl rfl trivial) <|
   hk (fun cx => cx.v (ex_as rfl rfl) rfl rfl) <|
   hk (fun cx => cx.v (ex_as rfl rfl) rfl rfl) <|
   hn) ?_
  intro a1 w1 f1
  obtain ⟨g1, u_g1, q_g1, b_g1⟩ := f1.al.1
  refine wp_seq ?_
  refine wp_seq ?_
  cases fk1 : a != b
  case false =>
   have Ffk1 := Lib.hid fk1; clear fk1
   cases fk2 : Rg.hasB ⟨⟨a, b⟩, ⟨c, d⟩⟩ a
   case false =>
    have Ffk2 := Lib.hid fk2; clear fk2
    refine go_reg [bx g1 60 (cR a b c d)] [] [some (pt g1 0), some (.int .u64 a), some (pt g1 1), some (.int .u64 b), some (.bool false), some (.bool false), some (.agg (cR a b c d)), some (pt g1 0), some (.int .u64 a), some (.bool false), some (.bool true), some (.bool true)] mo f1.d f1.z f1.b (by kernel_rfl) ⟨b_g1, trivial⟩ (
     hk (fun cx => cx.v (ex_fa rfl (cx.rq 1 u_g1) (faRS60_0_0 _ _)) rfl rfl) <|
     hk (fun cx => cx.v (ex_ld rfl (cx.u 0 rfl) (cx.rn 0 rfl) rfl Try.isAgg30) rfl rfl) <|
     hk (fun cx => cx.v (ex_fa rfl (cx.rq 1 u_g1) (faRS60_1_0 _ _)) rfl rfl) <|
     hk (fun cx => cx.v (ex_ld rfl (cx.u 0 rfl) (cx.rn 0 rfl) rfl Try.isAgg30) rfl rfl) <|
     hk (fun cx => cx.v (ex_ne (x := .tmp 5) (y := .tmp 7) rfl (cx.u 0 rfl) (cx.u 1 rfl)) rfl (congrArg Value.bool Ffk1.out)) <|
     hk (fun cx => cx.v (ex_mv rfl (cx.u 0 rfl)) rfl rfl) <|
     hk (fun cx => cx.val (cx.wy rfl rfl rfl rfl (cx.u 0 rfl)) (ldR rfl (cx.rq 1 u_g1) (cx.rn 0 rfl)) rfl rfl rfl rfl) <|
     hk (fun cx => cx.val (cx.wy rfl rfl rfl rfl (cx.u 0 rfl)) (ex_fa rfl (cx.rq 1 u_g1) (faRS60_0_0 _ _)) rfl rfl rfl rfl) <|
     hk (fun cx => cx.val (cx.wy rfl rfl rfl rfl (cx.u 1 rfl)) (ex_ld rfl (cx.u 0 rfl) (cx.rn 0 rfl) rfl Try.isAgg30) rfl rfl rfl rfl) <|
     hc (fun _ _ wx cx => cx.call (cx.wy rfl rfl rfl rfl (cx.u 2 rfl)) rfl rfl (args2 (cx.u 0 rfl) (cx.u 1 rfl)) Try.func34 (by decide +kernel) rfl (rhas_n a b c d a wx) rfl rfl (congrArg Value.bool Ffk2.out) rfl) <|
     hk (fun cx => cx.val (cx.wy rfl rfl rfl rfl (cx.u 1 rfl)) (ex_not (x := .tmp 13) rfl (cx.u 0 rfl)) rfl rfl rfl rfl) <|
     hk (fun cx => cx.v (ex_pf rfl (cx.u 0 rfl) (cx.u 1 rfl)) rfl rfl) <|
     hn) ?_
    intro a2 w2 f2
    refine wp_cond_true (f2.v 11 rfl rfl rfl) ?_
    refine wp_seq ?_
    refine go_reg [] [] [some (.int .u64 0), some (.bool false)] mo f2.d f2.z f2.b (by kernel_rfl) trivial (
     hk (fun cx => cx.v (ex_as rfl rfl) rfl rfl) <|
     hk (fun cx => cx.v (ex_as rfl rfl) rfl rfl) <|
     hn) ?_
    intro a3 w3 f3
    refine wp_ret ?_
    try simp only [Exit.inBlock, Exit.then]
    refine bodyPost_ret (res_tt (fn := Try.f24) rfl (f3.v 0 rfl rfl rfl) (f3.v 1 rfl rfl rfl)) f3.d ?_
    have ob : Rg.oneB ⟨⟨a, b⟩, ⟨c, d⟩⟩ = false := by show (a == b && Rg.hasB ⟨⟨a, b⟩, ⟨c, d⟩⟩ a) = _; rw [show (a == b) = true by have := Ffk1.out; simpa using this, Ffk2.out]; rfl
    have HE : Value.tuple #[.int .u64 0, .bool false] = .tuple #[.int .u64 (Rg.oneV ⟨⟨a, b⟩, ⟨c, d⟩⟩), .bool (Rg.oneB ⟨⟨a, b⟩, ⟨c, d⟩⟩)] := by unfold Rg.oneV; rw [ob]; rfl
    exact ⟨retV HE, f3.b⟩
   have Ffk2 := Lib.hid fk2; clear fk2
   refine go_reg [bx g1 60 (cR a b c d)] [] [some (pt g1 0), some (.int .u64 a), some (pt g1 1), some (.int .u64 b), some (.bool false), some (.bool false), some (.agg (cR a b c d)), some (pt g1 0), some (.int .u64 a), some (.bool true), some (.bool false), some (.bool false)] mo f1.d f1.z f1.b (by kernel_rfl) ⟨b_g1, trivial⟩ (
    hk (fun cx => cx.v (ex_fa rfl (cx.rq 1 u_g1) (faRS60_0_0 _ _)) rfl rfl) <|
    hk (fun cx => cx.v (ex_ld rfl (cx.u 0 rfl) (cx.rn 0 rfl) rfl Try.isAgg30) rfl rfl) <|
    hk (fun cx => cx.v (ex_fa rfl (cx.rq 1 u_g1) (faRS60_1_0 _ _)) rfl rfl) <|
    hk (fun cx => cx.v (ex_ld rfl (cx.u 0 rfl) (cx.rn 0 rfl) rfl Try.isAgg30) rfl rfl) <|
    hk (fun cx => cx.v (ex_ne (x := .tmp 5) (y := .tmp 7) rfl (cx.u 0 rfl) (cx.u 1 rfl)) rfl (congrArg Value.bool Ffk1.out)) <|
    hk (fun cx => cx.v (ex_mv rfl (cx.u 0 rfl)) rfl rfl) <|
    hk (fun cx => cx.val (cx.wy rfl rfl rfl rfl (cx.u 0 rfl)) (ldR rfl (cx.rq 1 u_g1) (cx.rn 0 rfl)) rfl rfl rfl rfl) <|
    hk (fun cx => cx.val (cx.wy rfl rfl rfl rfl (cx.u 0 rfl)) (ex_fa rfl (cx.rq 1 u_g1) (faRS60_0_0 _ _)) rfl rfl rfl rfl) <|
    hk (fun cx => cx.val (cx.wy rfl rfl rfl rfl (cx.u 1 rfl)) (ex_ld rfl (cx.u 0 rfl) (cx.rn 0 rfl) rfl Try.isAgg30) rfl rfl rfl rfl) <|
    hc (fun _ _ wx cx => cx.call (cx.wy rfl rfl rfl rfl (cx.u 2 rfl)) rfl rfl (args2 (cx.u 0 rfl) (cx.u 1 rfl)) Try.func34 (by decide +kernel) rfl (rhas_n a b c d a wx) rfl rfl (congrArg Value.bool Ffk2.out) rfl) <|
    hk (fun cx => cx.val (cx.wy rfl rfl rfl rfl (cx.u 1 rfl)) (ex_not (x := .tmp 13) rfl (cx.u 0 rfl)) rfl rfl rfl rfl) <|
    hk (fun cx => cx.v (ex_pf rfl (cx.u 0 rfl) (cx.u 1 rfl)) rfl rfl) <|
    hn) ?_
   intro a4 w4 f4
   refine wp_cond_false (f4.v 11 rfl rfl rfl) ?_
   refine wp_skip ?_
   refine wp_seq ?_
   have b_g1_1 := f4.k b_g1
   have s1_2 := f4.q 1 u_g1
   refine go_reg [bx g1 60 (cR a b c d)] [] [some (pt g1 0), some (.int .u64 a), some (.int .u64 a), some (.bool true)] mo f4.d f4.z f4.b (by kernel_rfl) ⟨b_g1_1, trivial⟩ (
    hk (fun cx => cx.v (ex_fa rfl (cx.rq 1 s1_2) (faRS60_0_0 _ _)) rfl rfl) <|
    hk (fun cx => cx.v (ex_ld rfl (cx.u 0 rfl) (cx.rn 0 rfl) rfl Try.isAgg30) rfl rfl) <|
    hk (fun cx => cx.v (ex_as rfl (cx.u 0 rfl)) rfl rfl) <|
    hk (fun cx => cx.v (ex_as rfl rfl) rfl rfl) <|
    hn) ?_
   intro a5 w5 f5
   refine wp_ret ?_
   try simp only [Exit.inBlock, Exit.then]
   refine bodyPost_ret (res_tt (fn := Try.f24) rfl (f5.v 2 rfl rfl rfl) (f5.v 3 rfl rfl rfl)) f5.d ?_
   have ob : Rg.oneB ⟨⟨a, b⟩, ⟨c, d⟩⟩ = true := by show (a == b && Rg.hasB ⟨⟨a, b⟩, ⟨c, d⟩⟩ a) = _; rw [show (a == b) = true by have := Ffk1.out; simpa using this, Ffk2.out]; rfl
   have HE : Value.tuple #[.int .u64 a, .bool true] = .tuple #[.int .u64 (Rg.oneV ⟨⟨a, b⟩, ⟨c, d⟩⟩), .bool (Rg.oneB ⟨⟨a, b⟩, ⟨c, d⟩⟩)] := by unfold Rg.oneV; rw [ob]; rfl
   exact ⟨retV HE, f5.b⟩
  have Ffk1 := Lib.hid fk1; clear fk1
  refine go_reg [bx g1 60 (cR a b c d)] [] [some (pt g1 0), some (.int .u64 a), some (pt g1 1), some (.int .u64 b), some (.bool true), some (.bool true), some (undef), some (undef), some (undef), some (undef), some (undef), some (.bool true)] mo f1.d f1.z f1.b (by kernel_rfl) ⟨b_g1, trivial⟩ (
   hk (fun cx => cx.v (ex_fa rfl (cx.rq 1 u_g1) (faRS60_0_0 _ _)) rfl rfl) <|
   hk (fun cx => cx.v (ex_ld rfl (cx.u 0 rfl) (cx.rn 0 rfl) rfl Try.isAgg30) rfl rfl) <|
   hk (fun cx => cx.v (ex_fa rfl (cx.rq 1 u_g1) (faRS60_1_0 _ _)) rfl rfl) <|
   hk (fun cx => cx.v (ex_ld rfl (cx.u 0 rfl) (cx.rn 0 rfl) rfl Try.isAgg30) rfl rfl) <|
   hk (fun cx => cx.v (ex_ne (x := .tmp 5) (y := .tmp 7) rfl (cx.u 0 rfl) (cx.u 1 rfl)) rfl (congrArg Value.bool Ffk1.out)) <|
   hk (fun cx => cx.v (ex_mv rfl (cx.u 0 rfl)) rfl rfl) <|
   hk (fun cx => cx.no (cx.wo rfl rfl rfl rfl (cx.u 0 rfl) rfl) rfl rfl rfl rfl) <|
   hk (fun cx => cx.no (cx.wo rfl rfl rfl rfl (cx.u 0 rfl) rfl) rfl rfl rfl rfl) <|
   hk (fun cx => cx.no (cx.wo rfl rfl rfl rfl (cx.u 1 rfl) rfl) rfl rfl rfl rfl) <|
   hk (fun cx => cx.no (cx.wo rfl rfl rfl rfl (cx.u 2 rfl) rfl) rfl rfl rfl rfl) <|
   hk (fun cx => cx.no (cx.wo rfl rfl rfl rfl (cx.u 1 rfl) rfl) rfl rfl rfl rfl) <|
   hk (fun cx => cx.v (ex_pt rfl (cx.u 0 rfl) rfl) rfl rfl) <|
   hn) ?_
  intro a6 w6 f6
  refine wp_cond_true (f6.v 11 rfl rfl rfl) ?_
  refine wp_seq ?_
  refine go_reg [] [] [some (.int .u64 0), some (.bool false)] mo f6.d f6.z f6.b (by kernel_rfl) trivial (
   hk (fun cx => cx.v (ex_as rfl rfl) rfl rfl) <|
   hk (fun cx => cx.v (ex_as rfl rfl) rfl rfl) <|
   hn) ?_
  intro a7 w7 f7
  refine wp_ret ?_
  try simp only [Exit.inBlock, Exit.then]
  refine bodyPost_ret (res_tt (fn := Try.f24) rfl (f7.v 0 rfl rfl rfl) (f7.v 1 rfl rfl rfl)) f7.d ?_
  have ob : Rg.oneB ⟨⟨a, b⟩, ⟨c, d⟩⟩ = false := by show (a == b && Rg.hasB ⟨⟨a, b⟩, ⟨c, d⟩⟩ a) = false; rw [show (a == b) = false by have := Ffk1.out; simpa using this]; rfl
  have HE : Value.tuple #[.int .u64 0, .bool false] = .tuple #[.int .u64 (Rg.oneV ⟨⟨a, b⟩, ⟨c, d⟩⟩), .bool (Rg.oneB ⟨⟨a, b⟩, ⟨c, d⟩⟩)] := by unfold Rg.oneV; rw [ob]; rfl
  exact ⟨retV HE, f7.b⟩

set_option maxHeartbeats 4000000 in
theorem rjoin_n (a b c d p q r t : Int) (W : World) : Calls Try.prog 36 #[.agg #[.int .u64 a, .int .u64 b, .int .i64 c, .int .i64 d], .agg #[.int .u64 p, .int .u64 q, .int .i64 r, .int .i64 t]] W fun e w' => e = .returned (.agg #[.int .u64 (Rg.joinR ⟨⟨a, b⟩, ⟨c, d⟩⟩ ⟨⟨p, q⟩, ⟨r, t⟩⟩).u.lo, .int .u64 (Rg.joinR ⟨⟨a, b⟩, ⟨c, d⟩⟩ ⟨⟨p, q⟩, ⟨r, t⟩⟩).u.hi, .int .i64 (Rg.joinR ⟨⟨a, b⟩, ⟨c, d⟩⟩ ⟨⟨p, q⟩, ⟨r, t⟩⟩).s.lo, .int .i64 (Rg.joinR ⟨⟨a, b⟩, ⟨c, d⟩⟩ ⟨⟨p, q⟩, ⟨r, t⟩⟩).s.hi]) ∧ Below W.heap.size W w' := by
  refine calls_abs Try.func36 rfl (Nat.le_of_ble_eq_true rfl) ?_
  intro a0 d0 z0 h0
  replace z0 : a0.tmps.size = 35 := z0
  have s0_0 : a0.tmps.getD 0 undef = .agg (cR a b c d) := h0 0 (Nat.le_of_ble_eq_true rfl)
  have s1_0 : a0.tmps.getD 1 undef = .agg (cR p q r t) := h0 1 (Nat.le_of_ble_eq_true rfl)
  refine wp_seq ?_
  refine go_reg [] [⟨0, 2, 60, (cR a b c d), none, #[]⟩, ⟨1, 3, 60, (cR p q r t), none, #[]⟩, ⟨2, 4, 60, (cR 0 0 0 0), none, #[]⟩] [none, none, none] mo d0 z0 (Below.refl _ _) (by kernel_rfl) trivial (
   hc (fun _ ax _ cx => cx.al (wn rfl) 0 rfl (by simp [execOp, Act.eval, (show ax.tmps.getD 0 undef = .agg (cR a b c d) from (cx.rq 0 s0_0)), go_sem]) rfl rfl rfl rfl rfl trivial) <|
   hc (fun _ ax _ cx => cx.al (wn rfl) 1 rfl (by simp [execOp, Act.eval, (show ax.tmps.getD 1 undef = .agg (cR p q r t) from (cx.rq 1 s1_0)), go_sem]) rfl rfl rfl rfl rfl trivial) <|
   hk (fun cx => cx.al (wn rfl) 2 rfl (by simp [execOp, Act.eval, go_sem]) rfl rfl rfl rfl rfl trivial) <|
   hn) ?_
  intro a1 w1 f1
  obtain ⟨g1, u_g1, q_g1, b_g1⟩ := f1.al.1
  obtain ⟨g2, u_g2, q_g2, b_g2⟩ := f1.al.2.1
  obtain ⟨g3, u_g3, q_g3, b_g3⟩ := f1.al.2.2.1
  refine wp_seq ?_
  refine wp_seq ?_
  cases fk1 : Rg.mayB ⟨⟨a, b⟩, ⟨c, d⟩⟩
  case false =>
   have Ffk1 := Lib.hid fk1; clear fk1
   refine go_reg [bx g1 60 (cR a b c d)] [] [some (.agg (cR a b c d)), some (.bool false), some (.bool true), some (.bool true), some (undef), some (undef), some (undef), some (.bool true)] mo f1.d f1.z f1.b (by kernel_rfl) ⟨b_g1, trivial⟩ (
    hk (fun cx => cx.v (ldR rfl (cx.rq 2 u_g1) (cx.rn 0 rfl)) rfl rfl) <|
    hc (fun _ _ wx cx => cx.c rfl (args1 (cx.u 0 rfl)) Try.func28 (by decide +kernel) (rmay_n a b c d wx) rfl (congrArg Value.bool Ffk1.out)) <|
    hk (fun cx => cx.v (ex_not (x := .tmp 6) rfl (cx.u 0 rfl)) rfl rfl) <|
    hk (fun cx => cx.v (ex_mv rfl (cx.u 0 rfl)) rfl rfl) <|
    hk (fun cx => cx.no (cx.wo rfl rfl rfl rfl (cx.u 0 rfl) rfl) rfl rfl rfl rfl) <|
    hk (fun cx => cx.no (cx.wo rfl rfl rfl rfl (cx.u 1 rfl) rfl) rfl rfl rfl rfl) <|
    hk (fun cx => cx.no (cx.wo rfl rfl rfl rfl (cx.u 1 rfl) rfl) rfl rfl rfl rfl) <|
    hk (fun cx => cx.v (ex_pt rfl (cx.u 0 rfl) rfl) rfl rfl) <|
    hn) ?_
   intro a2 w2 f2
   refine wp_cond_true (f2.v 7 rfl rfl rfl) ?_
   refine wp_seq ?_
   have b_g3_1 := f2.k b_g3
   have s4_2 := f2.q 4 u_g3
   refine go_reg [⟨g3, 60, (cR 0 0 0 0), some 1, (cR allR.u.lo allR.u.hi allR.s.lo allR.s.hi)⟩] [] [some (.agg (cR allR.u.lo allR.u.hi allR.s.lo allR.s.hi)), none] mo f2.d f2.z f2.b (by kernel_rfl) ⟨b_g3_1, trivial⟩ (
    hc (fun _ _ wx cx => cx.c rfl (args0 ) Try.func30 (by decide +kernel) (rall_n wx) rfl rfl) <|
    hk (fun cx => cx.stR (wn rfl) rfl rfl 0 rfl (cx.rq 4 s4_2) (cx.u 0 rfl) (by kernel_rfl) rfl (by simp [Value.oneCell']) q_g3 rfl trivial trivial) <|
    hn) ?_
   intro a3 w3 f3
   refine wp_ret ?_
   have s4_3 := f3.q 4 s4_2
   try simp only [Exit.inBlock, Exit.then]
   refine bodyPost_ret (res_c (fn := Try.f36) rfl s4_3 (load_row 60 f3.rows.1 Try.underlying60 rfl (by kernel_rfl))) f3.d ?_
   have HE : (.agg (cR allR.u.lo allR.u.hi allR.s.lo allR.s.hi) : Value) = Rg.val (Rg.joinR ⟨⟨a, b⟩, ⟨c, d⟩⟩ ⟨⟨p, q⟩, ⟨r, t⟩⟩) := by unfold Rg.joinR; rw [Ffk1.out]; rfl
   exact ⟨retV HE, f3.b⟩
  have Ffk1 := Lib.hid fk1; clear fk1
  cases fk2 : Rg.mayB ⟨⟨p, q⟩, ⟨r, t⟩⟩
  case false =>
   have Ffk2 := Lib.hid fk2; clear fk2
   refine go_reg [bx g1 60 (cR a b c d), bx g2 60 (cR p q r t)] [] [some (.agg (cR a b c d)), some (.bool true), some (.bool false), some (.bool false), some (.agg (cR p q r t)), some (.bool false), some (.bool true), some (.bool true)] mo f1.d f1.z f1.b (by kernel_rfl) ⟨b_g1, b_g2, trivial⟩ (
    hk (fun cx => cx.v (ldR rfl (cx.rq 2 u_g1) (cx.rn 0 rfl)) rfl rfl) <|
    hc (fun _ _ wx cx => cx.c rfl (args1 (cx.u 0 rfl)) Try.func28 (by decide +kernel) (rmay_n a b c d wx) rfl (congrArg Value.bool Ffk1.out)) <|
    hk (fun cx => cx.v (ex_not (x := .tmp 6) rfl (cx.u 0 rfl)) rfl rfl) <|
    hk (fun cx => cx.v (ex_mv rfl (cx.u 0 rfl)) rfl rfl) <|
    hk (fun cx => cx.val (cx.wy rfl rfl rfl rfl (cx.u 0 rfl)) (ldR rfl (cx.rq 3 u_g2) (cx.rn 1 rfl)) rfl rfl rfl rfl) <|
    hc (fun _ _ wx cx => cx.call (cx.wy rfl rfl rfl rfl (cx.u 1 rfl)) rfl rfl (args1 (cx.u 0 rfl)) Try.func28 (by decide +kernel) rfl (rmay_n p q r t wx) rfl rfl (congrArg Value.bool Ffk2.out) rfl) <|
    hk (fun cx => cx.val (cx.wy rfl rfl rfl rfl (cx.u 1 rfl)) (ex_not (x := .tmp 10) rfl (cx.u 0 rfl)) rfl rfl rfl rfl) <|
    hk (fun cx => cx.v (ex_pf rfl (cx.u 0 rfl) (cx.u 1 rfl)) rfl rfl) <|
    hn) ?_
   intro a4 w4 f4
   refine wp_cond_true (f4.v 7 rfl rfl rfl) ?_
   refine wp_seq ?_
   have b_g3_4 := f4.k b_g3
   have s4_5 := f4.q 4 u_g3
   refine go_reg [⟨g3, 60, (cR 0 0 0 0), some 1, (cR allR.u.lo allR.u.hi allR.s.lo allR.s.hi)⟩] [] [some (.agg (cR allR.u.lo allR.u.hi allR.s.lo allR.s.hi)), none] mo f4.d f4.z f4.b (by kernel_rfl) ⟨b_g3_4, trivial⟩ (
    hc (fun _ _ wx cx => cx.c rfl (args0 ) Try.func30 (by decide +kernel) (rall_n wx) rfl rfl) <|
    hk (fun cx => cx.stR (wn rfl) rfl rfl 0 rfl (cx.rq 4 s4_5) (cx.u 0 rfl) (by kernel_rfl) rfl (by simp [Value.oneCell']) q_g3 rfl trivial trivial) <|
    hn) ?_
   intro a5 w5 f5
   refine wp_ret ?_
   have s4_6 := f5.q 4 s4_5
   try simp only [Exit.inBlock, Exit.then]
   refine bodyPost_ret (res_c (fn := Try.f36) rfl s4_6 (load_row 60 f5.rows.1 Try.underlying60 rfl (by kernel_rfl))) f5.d ?_
   have HE : (.agg (cR allR.u.lo allR.u.hi allR.s.lo allR.s.hi) : Value) = Rg.val (Rg.joinR ⟨⟨a, b⟩, ⟨c, d⟩⟩ ⟨⟨p, q⟩, ⟨r, t⟩⟩) := by unfold Rg.joinR; rw [Ffk1.out, Ffk2.out]; rfl
   exact ⟨retV HE, f5.b⟩
  have Ffk2 := Lib.hid fk2; clear fk2
  refine go_reg [bx g1 60 (cR a b c d), bx g2 60 (cR p q r t)] [] [some (.agg (cR a b c d)), some (.bool true), some (.bool false), some (.bool false), some (.agg (cR p q r t)), some (.bool true), some (.bool false), some (.bool false)] mo f1.d f1.z f1.b (by kernel_rfl) ⟨b_g1, b_g2, trivial⟩ (
   hk (fun cx => cx.v (ldR rfl (cx.rq 2 u_g1) (cx.rn 0 rfl)) rfl rfl) <|
   hc (fun _ _ wx cx => cx.c rfl (args1 (cx.u 0 rfl)) Try.func28 (by decide +kernel) (rmay_n a b c d wx) rfl (congrArg Value.bool Ffk1.out)) <|
   hk (fun cx => cx.v (ex_not (x := .tmp 6) rfl (cx.u 0 rfl)) rfl rfl) <|
   hk (fun cx => cx.v (ex_mv rfl (cx.u 0 rfl)) rfl rfl) <|
   hk (fun cx => cx.val (cx.wy rfl rfl rfl rfl (cx.u 0 rfl)) (ldR rfl (cx.rq 3 u_g2) (cx.rn 1 rfl)) rfl rfl rfl rfl) <|
   hc (fun _ _ wx cx => cx.call (cx.wy rfl rfl rfl rfl (cx.u 1 rfl)) rfl rfl (args1 (cx.u 0 rfl)) Try.func28 (by decide +kernel) rfl (rmay_n p q r t wx) rfl rfl (congrArg Value.bool Ffk2.out) rfl) <|
   hk (fun cx => cx.val (cx.wy rfl rfl rfl rfl (cx.u 1 rfl)) (ex_not (x := .tmp 10) rfl (cx.u 0 rfl)) rfl rfl rfl rfl) <|
   hk (fun cx => cx.v (ex_pf rfl (cx.u 0 rfl) (cx.u 1 rfl)) rfl rfl) <|
   hn) ?_
  intro a6 w6 f6
  refine wp_cond_false (f6.v 7 rfl rfl rfl) ?_
  refine wp_skip ?_
  refine wp_seq ?_
  have b_g1_7 := f6.k b_g1
  have b_g2_8 := f6.k b_g2
  have b_g3_9 := f6.k b_g3
  have s2_10 := f6.q 2 u_g1
  have s3_11 := f6.q 3 u_g2
  have s4_12 := f6.q 4 u_g3
  refine go_reg [bx g1 60 (cR a b c d), bx g2 60 (cR p q r t), ⟨g3, 60, (cR 0 0 0 0), some 21, (cR (min a p) (max b q) (min c r) (max d t))⟩] [] (tabs [some (pt g1 0), some (.int .u64 a), some (pt g2 0), some (.int .u64 p), some (.int .u64 (min a p)), some (pt g1 1), some (.int .u64 b), some (pt g2 1), some (.int .u64 q), some (.int .u64 (max b q)), some (pt g1 2), some (.int .i64 c), some (pt g2 2), some (.int .i64 r), some (.int .i64 (min c r)), some (pt g1 3), some (.int .i64 d), some (pt g2 3), some (.int .i64 t), some (.int .i64 (max d t))] [some (.agg (cR (min a p) (max b q) (min c r) (max d t))), none]) mo f6.d f6.z f6.b (by kernel_rfl) ⟨b_g1_7, b_g2_8, b_g3_9, trivial⟩ (
   hk (fun cx => cx.v (ex_fa rfl (cx.rq 2 s2_10) (faRS60_0_0 _ _)) rfl rfl) <|
   hk (fun cx => cx.v (ex_ld rfl (cx.u 0 rfl) (cx.rn 0 rfl) rfl Try.isAgg30) rfl rfl) <|
   hk (fun cx => cx.v (ex_fa rfl (cx.rq 3 s3_11) (faRS60_0_0 _ _)) rfl rfl) <|
   hk (fun cx => cx.v (ex_ld rfl (cx.u 0 rfl) (cx.rn 1 rfl) rfl Try.isAgg30) rfl rfl) <|
   hk (fun cx => cx.v (ex_min (x := .tmp 15) (y := .tmp 17) rfl (cx.u 0 rfl) (cx.u 1 rfl)) rfl rfl) <|
   hk (fun cx => cx.v (ex_fa rfl (cx.rq 2 s2_10) (faRS60_1_0 _ _)) rfl rfl) <|
   hk (fun cx => cx.v (ex_ld rfl (cx.u 0 rfl) (cx.rn 0 rfl) rfl Try.isAgg30) rfl rfl) <|
   hk (fun cx => cx.v (ex_fa rfl (cx.rq 3 s3_11) (faRS60_1_0 _ _)) rfl rfl) <|
   hk (fun cx => cx.v (ex_ld rfl (cx.u 0 rfl) (cx.rn 1 rfl) rfl Try.isAgg30) rfl rfl) <|
   hc (fun _ ax _ cx => cx.v (ex_max (x := .tmp 20) (y := .tmp 22) rfl (cx.u 0 rfl) (cx.u 1 rfl)) rfl rfl) <|
   hk (fun cx => cx.v (ex_fa rfl (cx.rq 2 s2_10) (faRS60_2_0 _ _)) rfl rfl) <|
   hk (fun cx => cx.v (ex_ld rfl (cx.u 0 rfl) (cx.rn 0 rfl) rfl Try.isAgg2) rfl rfl) <|
   hk (fun cx => cx.v (ex_fa rfl (cx.rq 3 s3_11) (faRS60_2_0 _ _)) rfl rfl) <|
   hk (fun cx => cx.v (ex_ld rfl (cx.u 0 rfl) (cx.rn 1 rfl) rfl Try.isAgg2) rfl rfl) <|
   hk (fun cx => cx.v (ex_min (x := .tmp 25) (y := .tmp 27) rfl (cx.u 0 rfl) (cx.u 1 rfl)) rfl rfl) <|
   hk (fun cx => cx.v (ex_fa rfl (cx.rq 2 s2_10) (faRS60_3_0 _ _)) rfl rfl) <|
   hk (fun cx => cx.v (ex_ld rfl (cx.u 0 rfl) (cx.rn 0 rfl) rfl Try.isAgg2) rfl rfl) <|
   hk (fun cx => cx.v (ex_fa rfl (cx.rq 3 s3_11) (faRS60_3_0 _ _)) rfl rfl) <|
   hk (fun cx => cx.v (ex_ld rfl (cx.u 0 rfl) (cx.rn 1 rfl) rfl Try.isAgg2) rfl rfl) <|
   hc (fun _ ax _ cx => cx.v (ex_max (x := .tmp 30) (y := .tmp 32) rfl (cx.u 0 rfl) (cx.u 1 rfl)) rfl rfl) <|
   hk (fun cx => cx.v (exec_build rfl (parts4 (cx.u 0 rfl) (cx.u 1 rfl) (cx.u 2 rfl) (cx.u 3 rfl)) (by kernel_rfl)) rfl rfl) <|
   hk (fun cx => cx.stR (wn rfl) rfl rfl 2 rfl (cx.rq 4 s4_12) (cx.u 0 rfl) (by kernel_rfl) rfl (by simp [Value.oneCell']) q_g3 rfl ⟨(ne_ptr (pairAt f1.ps 0 2 (by decide) rfl rfl) u_g1 u_g3), (ne_ptr (pairAt f1.ps 1 2 (by decide) rfl rfl) u_g2 u_g3), trivial⟩ trivial) <|
   hn) ?_
  intro a7 w7 f7
  refine wp_ret ?_
  have s4_13 := f7.q 4 s4_12
  try simp only [Exit.inBlock, Exit.then]
  refine bodyPost_ret (res_c (fn := Try.f36) rfl s4_13 (load_row 60 f7.rows.2.2.1 Try.underlying60 rfl (by kernel_rfl))) f7.d ?_
  have HE : (.agg (cR (min a p) (max b q) (min c r) (max d t)) : Value) = Rg.val (Rg.joinR ⟨⟨a, b⟩, ⟨c, d⟩⟩ ⟨⟨p, q⟩, ⟨r, t⟩⟩) := by unfold Rg.joinR; rw [Ffk1.out, Ffk2.out]; rfl
  exact ⟨retV HE, f7.b⟩

set_option maxHeartbeats 4000000 in
theorem rin_n (a b c d p q r t : Int) (W : World) : Calls Try.prog 38 #[.agg #[.int .u64 a, .int .u64 b, .int .i64 c, .int .i64 d], .agg #[.int .u64 p, .int .u64 q, .int .i64 r, .int .i64 t]] W fun e w' => e = .returned (.bool (Rg.inB ⟨⟨a, b⟩, ⟨c, d⟩⟩ ⟨⟨p, q⟩, ⟨r, t⟩⟩)) ∧ Below W.heap.size W w' := by
  refine calls_abs Try.func38 rfl (Nat.le_of_ble_eq_true rfl) ?_
  intro a0 d0 z0 h0
  replace z0 : a0.tmps.size = 39 := z0
  have s0_0 : a0.tmps.getD 0 undef = .agg (cR a b c d) := h0 0 (Nat.le_of_ble_eq_true rfl)
  have s1_0 : a0.tmps.getD 1 undef = .agg (cR p q r t) := h0 1 (Nat.le_of_ble_eq_true rfl)
  refine wp_seq ?_
  refine go_reg [] [⟨0, 2, 60, (cR a b c d), none, #[]⟩, ⟨1, 3, 60, (cR p q r t), none, #[]⟩] [none, none, some (.bool false)] mo d0 z0 (Below.refl _ _) (by kernel_rfl) trivial (
   hc (fun _ ax _ cx => cx.al (wn rfl) 0 rfl (by simp [execOp, Act.eval, (show ax.tmps.getD 0 undef = .agg (cR a b c d) from (cx.rq 0 s0_0)), go_sem]) rfl rfl rfl rfl rfl trivial) <|
   hc (fun _ ax _ cx => cx.al (wn rfl) 1 rfl (by simp [execOp, Act.eval, (show ax.tmps.getD 1 undef = .agg (cR p q r t) from (cx.rq 1 s1_0)), go_sem]) rfl rfl rfl rfl rfl trivial) <|
   hk (fun cx => cx.v (ex_as rfl rfl) rfl rfl) <|
   hn) ?_
  intro a1 w1 f1
  obtain ⟨g1, u_g1, q_g1, b_g1⟩ := f1.al.1
  obtain ⟨g2, u_g2, q_g2, b_g2⟩ := f1.al.2.1
  refine wp_seq ?_
  cases fk1 : Rg.mayB ⟨⟨a, b⟩, ⟨c, d⟩⟩
  case false =>
   have Ffk1 := Lib.hid fk1; clear fk1
   refine go_reg [bx g1 60 (cR a b c d)] [] (tabs [some (.agg (cR a b c d)), some (.bool false), some (.bool false), some (undef), some (undef), some (.bool false), some (.bool false), some (undef), some (undef), some (undef), some (undef), some (undef), some (.bool false), some (.bool false), some (undef), some (undef), some (undef), some (undef), some (undef), some (.bool false)] [some (.bool false), some (undef), some (undef), some (undef), some (undef), some (undef), some (.bool false), some (.bool false), some (undef), some (undef), some (undef), some (undef), some (undef), some (.bool false), some (.bool false)]) mo f1.d f1.z f1.b (by kernel_rfl) ⟨b_g1, trivial⟩ (
    hk (fun cx => cx.v (ldR rfl (cx.rq 2 u_g1) (cx.rn 0 rfl)) rfl rfl) <|
    hc (fun _ _ wx cx => cx.c rfl (args1 (cx.u 0 rfl)) Try.func28 (by decide +kernel) (rmay_n a b c d wx) rfl (congrArg Value.bool Ffk1.out)) <|
    hk (fun cx => cx.v (ex_mv rfl (cx.u 0 rfl)) rfl rfl) <|
    hk (fun cx => cx.no (cx.wo rfl rfl rfl rfl (cx.u 0 rfl) rfl) rfl rfl rfl rfl) <|
    hk (fun cx => cx.no (cx.wo rfl rfl rfl rfl (cx.u 1 rfl) rfl) rfl rfl rfl rfl) <|
    hk (fun cx => cx.v (ex_pf rfl (cx.u 0 rfl) rfl) rfl rfl) <|
    hk (fun cx => cx.v (ex_mv rfl (cx.u 0 rfl)) rfl rfl) <|
    hk (fun cx => cx.no (cx.wo rfl rfl rfl rfl (cx.u 0 rfl) rfl) rfl rfl rfl rfl) <|
    hk (fun cx => cx.no (cx.wo rfl rfl rfl rfl (cx.u 1 rfl) rfl) rfl rfl rfl rfl) <|
    hk (fun cx => cx.no (cx.wo rfl rfl rfl rfl (cx.u 0 rfl) rfl) rfl rfl rfl rfl) <|
    hk (fun cx => cx.no (cx.wo rfl rfl rfl rfl (cx.u 1 rfl) rfl) rfl rfl rfl rfl) <|
    hk (fun cx => cx.no (cx.wo rfl rfl rfl rfl (cx.u 2 rfl) rfl) rfl rfl rfl rfl) <|
    hk (fun cx => cx.v (ex_pf rfl (cx.u 0 rfl) rfl) rfl rfl) <|
    hk (fun cx => cx.v (ex_mv rfl (cx.u 0 rfl)) rfl rfl) <|
    hk (fun cx => cx.no (cx.wo rfl rfl rfl rfl (cx.u 0 rfl) rfl) rfl rfl rfl rfl) <|
    hk (fun cx => cx.no (cx.wo rfl rfl rfl rfl (cx.u 1 rfl) rfl) rfl rfl rfl rfl) <|
    hk (fun cx => cx.no (cx.wo rfl rfl rfl rfl (cx.u 0 rfl) rfl) rfl rfl rfl rfl) <|
    hk (fun cx => cx.no (cx.wo rfl rfl rfl rfl (cx.u 1 rfl) rfl) rfl rfl rfl rfl) <|
    hk (fun cx => cx.no (cx.wo rfl rfl rfl rfl (cx.u 2 rfl) rfl) rfl rfl rfl rfl) <|
    hk (fun cx => cx.v (ex_pf rfl (cx.u 0 rfl) rfl) rfl rfl) <|
    hk (fun cx => cx.v (ex_mv rfl (cx.u 0 rfl)) rfl rfl) <|
    hk (fun cx => cx.no (cx.wo rfl rfl rfl rfl (cx.u 0 rfl) rfl) rfl rfl rfl rfl) <|
    hk (fun cx => cx.no (cx.wo rfl rfl rfl rfl (cx.u 1 rfl) rfl) rfl rfl rfl rfl) <|
    hk (fun cx => cx.no (cx.wo rfl rfl rfl rfl (cx.u 0 rfl) rfl) rfl rfl rfl rfl) <|
    hk (fun cx => cx.no (cx.wo rfl rfl rfl rfl (cx.u 1 rfl) rfl) rfl rfl rfl rfl) <|
    hk (fun cx => cx.no (cx.wo rfl rfl rfl rfl (cx.u 2 rfl) rfl) rfl rfl rfl rfl) <|
    hk (fun cx => cx.v (ex_pf rfl (cx.u 0 rfl) rfl) rfl rfl) <|
    hk (fun cx => cx.v (ex_mv rfl (cx.u 0 rfl)) rfl rfl) <|
    hk (fun cx => cx.no (cx.wo rfl rfl rfl rfl (cx.u 0 rfl) rfl) rfl rfl rfl rfl) <|
    hk (fun cx => cx.no (cx.wo rfl rfl rfl rfl (cx.u 1 rfl) rfl) rfl rfl rfl rfl) <|
    hk (fun cx => cx.no (cx.wo rfl rfl rfl rfl (cx.u 0 rfl) rfl) rfl rfl rfl rfl) <|
    hk (fun cx => cx.no (cx.wo rfl rfl rfl rfl (cx.u 1 rfl) rfl) rfl rfl rfl rfl) <|
    hk (fun cx => cx.no (cx.wo rfl rfl rfl rfl (cx.u 2 rfl) rfl) rfl rfl rfl rfl) <|
    hk (fun cx => cx.v (ex_pf rfl (cx.u 0 rfl) rfl) rfl rfl) <|
    hk (fun cx => cx.v (ex_as rfl (cx.u 0 rfl)) rfl rfl) <|
    hn) ?_
   intro a2 w2 f2
   refine wp_ret ?_
   try simp only [Exit.inBlock, Exit.then]
   refine bodyPost_ret (res_t (fn := Try.f38) rfl (f2.v 34 rfl rfl rfl)) f2.d ?_
   have HE : Value.bool false = .bool (Rg.inB ⟨⟨a, b⟩, ⟨c, d⟩⟩ ⟨⟨p, q⟩, ⟨r, t⟩⟩) := by show _ = Value.bool (Rg.mayB ⟨⟨a, b⟩, ⟨c, d⟩⟩ && (Rg.mayB ⟨⟨p, q⟩, ⟨r, t⟩⟩ && ((decide (p ≤ a) && decide (b ≤ q)) && (decide (r ≤ c) && decide (d ≤ t))))); simp only [Ffk1.out, Bool.false_and, Bool.true_and, Bool.and_false, Bool.and_true]
   exact ⟨retV HE, f2.b⟩
  have Ffk1 := Lib.hid fk1; clear fk1
  cases fk2 : Rg.mayB ⟨⟨p, q⟩, ⟨r, t⟩⟩
  case false =>
   have Ffk2 := Lib.hid fk2; clear fk2
   refine go_reg [bx g1 60 (cR a b c d), bx g2 60 (cR p q r t)] [] (tabs [some (.agg (cR a b c d)), some (.bool true), some (.bool true), some (.agg (cR p q r t)), some (.bool false), some (.bool false), some (.bool false), some (undef), some (undef), some (undef), some (undef), some (undef), some (.bool false), some (.bool false), some (undef), some (undef), some (undef), some (undef), some (undef), some (.bool false)] [some (.bool false), some (undef), some (undef), some (undef), some (undef), some (undef), some (.bool false), some (.bool false), some (undef), some (undef), some (undef), some (undef), some (undef), some (.bool false), some (.bool false)]) mo f1.d f1.z f1.b (by kernel_rfl) ⟨b_g1, b_g2, trivial⟩ (
    hk (fun cx => cx.v (ldR rfl (cx.rq 2 u_g1) (cx.rn 0 rfl)) rfl rfl) <|
    hc (fun _ _ wx cx => cx.c rfl (args1 (cx.u 0 rfl)) Try.func28 (by decide +kernel) (rmay_n a b c d wx) rfl (congrArg Value.bool Ffk1.out)) <|
    hk (fun cx => cx.v (ex_mv rfl (cx.u 0 rfl)) rfl rfl) <|
    hk (fun cx => cx.val (cx.wy rfl rfl rfl rfl (cx.u 0 rfl)) (ldR rfl (cx.rq 3 u_g2) (cx.rn 1 rfl)) rfl rfl rfl rfl) <|
    hc (fun _ _ wx cx => cx.call (cx.wy rfl rfl rfl rfl (cx.u 1 rfl)) rfl rfl (args1 (cx.u 0 rfl)) Try.func28 (by decide +kernel) rfl (rmay_n p q r t wx) rfl rfl (congrArg Value.bool Ffk2.out) rfl) <|
    hk (fun cx => cx.v (ex_pt rfl (cx.u 0 rfl) (cx.u 1 rfl)) rfl rfl) <|
    hk (fun cx => cx.v (ex_mv rfl (cx.u 0 rfl)) rfl rfl) <|
    hk (fun cx => cx.no (cx.wo rfl rfl rfl rfl (cx.u 0 rfl) rfl) rfl rfl rfl rfl) <|
    hk (fun cx => cx.no (cx.wo rfl rfl rfl rfl (cx.u 1 rfl) rfl) rfl rfl rfl rfl) <|
    hk (fun cx => cx.no (cx.wo rfl rfl rfl rfl (cx.u 0 rfl) rfl) rfl rfl rfl rfl) <|
    hk (fun cx => cx.no (cx.wo rfl rfl rfl rfl (cx.u 1 rfl) rfl) rfl rfl rfl rfl) <|
    hk (fun cx => cx.no (cx.wo rfl rfl rfl rfl (cx.u 2 rfl) rfl) rfl rfl rfl rfl) <|
    hk (fun cx => cx.v (ex_pf rfl (cx.u 0 rfl) rfl) rfl rfl) <|
    hk (fun cx => cx.v (ex_mv rfl (cx.u 0 rfl)) rfl rfl) <|
    hk (fun cx => cx.no (cx.wo rfl rfl rfl rfl (cx.u 0 rfl) rfl) rfl rfl rfl rfl) <|
    hk (fun cx => cx.no (cx.wo rfl rfl rfl rfl (cx.u 1 rfl) rfl) rfl rfl rfl rfl) <|
    hk (fun cx => cx.no (cx.wo rfl rfl rfl rfl (cx.u 0 rfl) rfl) rfl rfl rfl rfl) <|
    hk (fun cx => cx.no (cx.wo rfl rfl rfl rfl (cx.u 1 rfl) rfl) rfl rfl rfl rfl) <|
    hk (fun cx => cx.no (cx.wo rfl rfl rfl rfl (cx.u 2 rfl) rfl) rfl rfl rfl rfl) <|
    hk (fun cx => cx.v (ex_pf rfl (cx.u 0 rfl) rfl) rfl rfl) <|
    hk (fun cx => cx.v (ex_mv rfl (cx.u 0 rfl)) rfl rfl) <|
    hk (fun cx => cx.no (cx.wo rfl rfl rfl rfl (cx.u 0 rfl) rfl) rfl rfl rfl rfl) <|
    hk (fun cx => cx.no (cx.wo rfl rfl rfl rfl (cx.u 1 rfl) rfl) rfl rfl rfl rfl) <|
    hk (fun cx => cx.no (cx.wo rfl rfl rfl rfl (cx.u 0 rfl) rfl) rfl rfl rfl rfl) <|
    hk (fun cx => cx.no (cx.wo rfl rfl rfl rfl (cx.u 1 rfl) rfl) rfl rfl rfl rfl) <|
    hk (fun cx => cx.no (cx.wo rfl rfl rfl rfl (cx.u 2 rfl) rfl) rfl rfl rfl rfl) <|
    hk (fun cx => cx.v (ex_pf rfl (cx.u 0 rfl) rfl) rfl rfl) <|
    hk (fun cx => cx.v (ex_mv rfl (cx.u 0 rfl)) rfl rfl) <|
    hk (fun cx => cx.no (cx.wo rfl rfl rfl rfl (cx.u 0 rfl) rfl) rfl rfl rfl rfl) <|
    hk (fun cx => cx.no (cx.wo rfl rfl rfl rfl (cx.u 1 rfl) rfl) rfl rfl rfl rfl) <|
    hk (fun cx => cx.no (cx.wo rfl rfl rfl rfl (cx.u 0 rfl) rfl) rfl rfl rfl rfl) <|
    hk (fun cx => cx.no (cx.wo rfl rfl rfl rfl (cx.u 1 rfl) rfl) rfl rfl rfl rfl) <|
    hk (fun cx => cx.no (cx.wo rfl rfl rfl rfl (cx.u 2 rfl) rfl) rfl rfl rfl rfl) <|
    hk (fun cx => cx.v (ex_pf rfl (cx.u 0 rfl) rfl) rfl rfl) <|
    hk (fun cx => cx.v (ex_as rfl (cx.u 0 rfl)) rfl rfl) <|
    hn) ?_
   intro a3 w3 f3
   refine wp_ret ?_
   try simp only [Exit.inBlock, Exit.then]
   refine bodyPost_ret (res_t (fn := Try.f38) rfl (f3.v 34 rfl rfl rfl)) f3.d ?_
   have HE : Value.bool false = .bool (Rg.inB ⟨⟨a, b⟩, ⟨c, d⟩⟩ ⟨⟨p, q⟩, ⟨r, t⟩⟩) := by show _ = Value.bool (Rg.mayB ⟨⟨a, b⟩, ⟨c, d⟩⟩ && (Rg.mayB ⟨⟨p, q⟩, ⟨r, t⟩⟩ && ((decide (p ≤ a) && decide (b ≤ q)) && (decide (r ≤ c) && decide (d ≤ t))))); simp only [Ffk1.out, Ffk2.out, Bool.false_and, Bool.true_and, Bool.and_false, Bool.and_true]
   exact ⟨retV HE, f3.b⟩
  have Ffk2 := Lib.hid fk2; clear fk2
  cases fk3 : decide (p ≤ a)
  case false =>
   have Ffk3 := Lib.hid fk3; clear fk3
   refine go_reg [bx g1 60 (cR a b c d), bx g2 60 (cR p q r t)] [] (tabs [some (.agg (cR a b c d)), some (.bool true), some (.bool true), some (.agg (cR p q r t)), some (.bool true), some (.bool true), some (.bool true), some (pt g1 0), some (.int .u64 a), some (pt g2 0), some (.int .u64 p), some (.bool false), some (.bool false), some (.bool false), some (undef), some (undef), some (undef), some (undef), some (undef), some (.bool false)] [some (.bool false), some (undef), some (undef), some (undef), some (undef), some (undef), some (.bool false), some (.bool false), some (undef), some (undef), some (undef), some (undef), some (undef), some (.bool false), some (.bool false)]) mo f1.d f1.z f1.b (by kernel_rfl) ⟨b_g1, b_g2, trivial⟩ (
    hk (fun cx => cx.v (ldR rfl (cx.rq 2 u_g1) (cx.rn 0 rfl)) rfl rfl) <|
    hc (fun _ _ wx cx => cx.c rfl (args1 (cx.u 0 rfl)) Try.func28 (by decide +kernel) (rmay_n a b c d wx) rfl (congrArg Value.bool Ffk1.out)) <|
    hk (fun cx => cx.v (ex_mv rfl (cx.u 0 rfl)) rfl rfl) <|
    hk (fun cx => cx.val (cx.wy rfl rfl rfl rfl (cx.u 0 rfl)) (ldR rfl (cx.rq 3 u_g2) (cx.rn 1 rfl)) rfl rfl rfl rfl) <|
    hc (fun _ _ wx cx => cx.call (cx.wy rfl rfl rfl rfl (cx.u 1 rfl)) rfl rfl (args1 (cx.u 0 rfl)) Try.func28 (by decide +kernel) rfl (rmay_n p q r t wx) rfl rfl (congrArg Value.bool Ffk2.out) rfl) <|
    hk (fun cx => cx.v (ex_pt rfl (cx.u 0 rfl) (cx.u 1 rfl)) rfl rfl) <|
    hk (fun cx => cx.v (ex_mv rfl (cx.u 0 rfl)) rfl rfl) <|
    hk (fun cx => cx.val (cx.wy rfl rfl rfl rfl (cx.u 0 rfl)) (ex_fa rfl (cx.rq 2 u_g1) (faRS60_0_0 _ _)) rfl rfl rfl rfl) <|
    hk (fun cx => cx.val (cx.wy rfl rfl rfl rfl (cx.u 1 rfl)) (ex_ld rfl (cx.u 0 rfl) (cx.rn 0 rfl) rfl Try.isAgg30) rfl rfl rfl rfl) <|
    hk (fun cx => cx.val (cx.wy rfl rfl rfl rfl (cx.u 0 rfl)) (ex_fa rfl (cx.rq 3 u_g2) (faRS60_0_0 _ _)) rfl rfl rfl rfl) <|
    hk (fun cx => cx.val (cx.wy rfl rfl rfl rfl (cx.u 1 rfl)) (ex_ld rfl (cx.u 0 rfl) (cx.rn 1 rfl) rfl Try.isAgg30) rfl rfl rfl rfl) <|
    hk (fun cx => cx.val (cx.wy rfl rfl rfl rfl (cx.u 2 rfl)) (ex_ge (x := .tmp 13) (y := .tmp 15) rfl (cx.u 0 rfl) (cx.u 1 rfl)) rfl rfl (congrArg Value.bool Ffk3.out) rfl) <|
    hk (fun cx => cx.v (ex_pt rfl (cx.u 0 rfl) (cx.u 1 rfl)) rfl rfl) <|
    hk (fun cx => cx.v (ex_mv rfl (cx.u 0 rfl)) rfl rfl) <|
    hk (fun cx => cx.no (cx.wo rfl rfl rfl rfl (cx.u 0 rfl) rfl) rfl rfl rfl rfl) <|
    hk (fun cx => cx.no (cx.wo rfl rfl rfl rfl (cx.u 1 rfl) rfl) rfl rfl rfl rfl) <|
    hk (fun cx => cx.no (cx.wo rfl rfl rfl rfl (cx.u 0 rfl) rfl) rfl rfl rfl rfl) <|
    hk (fun cx => cx.no (cx.wo rfl rfl rfl rfl (cx.u 1 rfl) rfl) rfl rfl rfl rfl) <|
    hk (fun cx => cx.no (cx.wo rfl rfl rfl rfl (cx.u 2 rfl) rfl) rfl rfl rfl rfl) <|
    hk (fun cx => cx.v (ex_pf rfl (cx.u 0 rfl) rfl) rfl rfl) <|
    hk (fun cx => cx.v (ex_mv rfl (cx.u 0 rfl)) rfl rfl) <|
    hk (fun cx => cx.no (cx.wo rfl rfl rfl rfl (cx.u 0 rfl) rfl) rfl rfl rfl rfl) <|
    hk (fun cx => cx.no (cx.wo rfl rfl rfl rfl (cx.u 1 rfl) rfl) rfl rfl rfl rfl) <|
    hk (fun cx => cx.no (cx.wo rfl rfl rfl rfl (cx.u 0 rfl) rfl) rfl rfl rfl rfl) <|
    hk (fun cx => cx.no (cx.wo rfl rfl rfl rfl (cx.u 1 rfl) rfl) rfl rfl rfl rfl) <|
    hk (fun cx => cx.no (cx.wo rfl rfl rfl rfl (cx.u 2 rfl) rfl) rfl rfl rfl rfl) <|
    hk (fun cx => cx.v (ex_pf rfl (cx.u 0 rfl) rfl) rfl rfl) <|
    hk (fun cx => cx.v (ex_mv rfl (cx.u 0 rfl)) rfl rfl) <|
    hk (fun cx => cx.no (cx.wo rfl rfl rfl rfl (cx.u 0 rfl) rfl) rfl rfl rfl rfl) <|
    hk (fun cx => cx.no (cx.wo rfl rfl rfl rfl (cx.u 1 rfl) rfl) rfl rfl rfl rfl) <|
    hk (fun cx => cx.no (cx.wo rfl rfl rfl rfl (cx.u 0 rfl) rfl) rfl rfl rfl rfl) <|
    hk (fun cx => cx.no (cx.wo rfl rfl rfl rfl (cx.u 1 rfl) rfl) rfl rfl rfl rfl) <|
    hk (fun cx => cx.no (cx.wo rfl rfl rfl rfl (cx.u 2 rfl) rfl) rfl rfl rfl rfl) <|
    hk (fun cx => cx.v (ex_pf rfl (cx.u 0 rfl) rfl) rfl rfl) <|
    hk (fun cx => cx.v (ex_as rfl (cx.u 0 rfl)) rfl rfl) <|
    hn) ?_
   intro a4 w4 f4
   refine wp_ret ?_
   try simp only [Exit.inBlock, Exit.then]
   refine bodyPost_ret (res_t (fn := Try.f38) rfl (f4.v 34 rfl rfl rfl)) f4.d ?_
   have HE : Value.bool false = .bool (Rg.inB ⟨⟨a, b⟩, ⟨c, d⟩⟩ ⟨⟨p, q⟩, ⟨r, t⟩⟩) := by show _ = Value.bool (Rg.mayB ⟨⟨a, b⟩, ⟨c, d⟩⟩ && (Rg.mayB ⟨⟨p, q⟩, ⟨r, t⟩⟩ && ((decide (p ≤ a) && decide (b ≤ q)) && (decide (r ≤ c) && decide (d ≤ t))))); simp only [Ffk1.out, Ffk2.out, Ffk3.out, Bool.false_and, Bool.true_and, Bool.and_false, Bool.and_true]
   exact ⟨retV HE, f4.b⟩
  have Ffk3 := Lib.hid fk3; clear fk3
  cases fk4 : decide (b ≤ q)
  case false =>
   have Ffk4 := Lib.hid fk4; clear fk4
   refine go_reg [bx g1 60 (cR a b c d), bx g2 60 (cR p q r t)] [] (tabs [some (.agg (cR a b c d)), some (.bool true), some (.bool true), some (.agg (cR p q r t)), some (.bool true), some (.bool true), some (.bool true), some (pt g1 0), some (.int .u64 a), some (pt g2 0), some (.int .u64 p), some (.bool true), some (.bool true), some (.bool true), some (pt g1 1), some (.int .u64 b), some (pt g2 1), some (.int .u64 q), some (.bool false), some (.bool false)] [some (.bool false), some (undef), some (undef), some (undef), some (undef), some (undef), some (.bool false), some (.bool false), some (undef), some (undef), some (undef), some (undef), some (undef), some (.bool false), some (.bool false)]) mo f1.d f1.z f1.b (by kernel_rfl) ⟨b_g1, b_g2, trivial⟩ (
    hk (fun cx => cx.v (ldR rfl (cx.rq 2 u_g1) (cx.rn 0 rfl)) rfl rfl) <|
    hc (fun _ _ wx cx => cx.c rfl (args1 (cx.u 0 rfl)) Try.func28 (by decide +kernel) (rmay_n a b c d wx) rfl (congrArg Value.bool Ffk1.out)) <|
    hk (fun cx => cx.v (ex_mv rfl (cx.u 0 rfl)) rfl rfl) <|
    hk (fun cx => cx.val (cx.wy rfl rfl rfl rfl (cx.u 0 rfl)) (ldR rfl (cx.rq 3 u_g2) (cx.rn 1 rfl)) rfl rfl rfl rfl) <|
    hc (fun _ _ wx cx => cx.call (cx.wy rfl rfl rfl rfl (cx.u 1 rfl)) rfl rfl (args1 (cx.u 0 rfl)) Try.func28 (by decide +kernel) rfl (rmay_n p q r t wx) rfl rfl (congrArg Value.bool Ffk2.out) rfl) <|
    hk (fun cx => cx.v (ex_pt rfl (cx.u 0 rfl) (cx.u 1 rfl)) rfl rfl) <|
    hk (fun cx => cx.v (ex_mv rfl (cx.u 0 rfl)) rfl rfl) <|
    hk (fun cx => cx.val (cx.wy rfl rfl rfl rfl (cx.u 0 rfl)) (ex_fa rfl (cx.rq 2 u_g1) (faRS60_0_0 _ _)) rfl rfl rfl rfl) <|
    hk (fun cx => cx.val (cx.wy rfl rfl rfl rfl (cx.u 1 rfl)) (ex_ld rfl (cx.u 0 rfl) (cx.rn 0 rfl) rfl Try.isAgg30) rfl rfl rfl rfl) <|
    hk (fun cx => cx.val (cx.wy rfl rfl rfl rfl (cx.u 0 rfl)) (ex_fa rfl (cx.rq 3 u_g2) (faRS60_0_0 _ _)) rfl rfl rfl rfl) <|
    hk (fun cx => cx.val (cx.wy rfl rfl rfl rfl (cx.u 1 rfl)) (ex_ld rfl (cx.u 0 rfl) (cx.rn 1 rfl) rfl Try.isAgg30) rfl rfl rfl rfl) <|
    hk (fun cx => cx.val (cx.wy rfl rfl rfl rfl (cx.u 2 rfl)) (ex_ge (x := .tmp 13) (y := .tmp 15) rfl (cx.u 0 rfl) (cx.u 1 rfl)) rfl rfl (congrArg Value.bool Ffk3.out) rfl) <|
    hk (fun cx => cx.v (ex_pt rfl (cx.u 0 rfl) (cx.u 1 rfl)) rfl rfl) <|
    hk (fun cx => cx.v (ex_mv rfl (cx.u 0 rfl)) rfl rfl) <|
    hk (fun cx => cx.val (cx.wy rfl rfl rfl rfl (cx.u 0 rfl)) (ex_fa rfl (cx.rq 2 u_g1) (faRS60_1_0 _ _)) rfl rfl rfl rfl) <|
    hk (fun cx => cx.val (cx.wy rfl rfl rfl rfl (cx.u 1 rfl)) (ex_ld rfl (cx.u 0 rfl) (cx.rn 0 rfl) rfl Try.isAgg30) rfl rfl rfl rfl) <|
    hk (fun cx => cx.val (cx.wy rfl rfl rfl rfl (cx.u 0 rfl)) (ex_fa rfl (cx.rq 3 u_g2) (faRS60_1_0 _ _)) rfl rfl rfl rfl) <|
    hk (fun cx => cx.val (cx.wy rfl rfl rfl rfl (cx.u 1 rfl)) (ex_ld rfl (cx.u 0 rfl) (cx.rn 1 rfl) rfl Try.isAgg30) rfl rfl rfl rfl) <|
    hk (fun cx => cx.val (cx.wy rfl rfl rfl rfl (cx.u 2 rfl)) (ex_le (x := .tmp 20) (y := .tmp 22) rfl (cx.u 0 rfl) (cx.u 1 rfl)) rfl rfl (congrArg Value.bool Ffk4.out) rfl) <|
    hk (fun cx => cx.v (ex_pt rfl (cx.u 0 rfl) (cx.u 1 rfl)) rfl rfl) <|
    hk (fun cx => cx.v (ex_mv rfl (cx.u 0 rfl)) rfl rfl) <|
    hk (fun cx => cx.no (cx.wo rfl rfl rfl rfl (cx.u 0 rfl) rfl) rfl rfl rfl rfl) <|
    hk (fun cx => cx.no (cx.wo rfl rfl rfl rfl (cx.u 1 rfl) rfl) rfl rfl rfl rfl) <|
    hk (fun cx => cx.no (cx.wo rfl rfl rfl rfl (cx.u 0 rfl) rfl) rfl rfl rfl rfl) <|
    hk (fun cx => cx.no (cx.wo rfl rfl rfl rfl (cx.u 1 rfl) rfl) rfl rfl rfl rfl) <|
    hk (fun cx => cx.no (cx.wo rfl rfl rfl rfl (cx.u 2 rfl) rfl) rfl rfl rfl rfl) <|
    hk (fun cx => cx.v (ex_pf rfl (cx.u 0 rfl) rfl) rfl rfl) <|
    hk (fun cx => cx.v (ex_mv rfl (cx.u 0 rfl)) rfl rfl) <|
    hk (fun cx => cx.no (cx.wo rfl rfl rfl rfl (cx.u 0 rfl) rfl) rfl rfl rfl rfl) <|
    hk (fun cx => cx.no (cx.wo rfl rfl rfl rfl (cx.u 1 rfl) rfl) rfl rfl rfl rfl) <|
    hk (fun cx => cx.no (cx.wo rfl rfl rfl rfl (cx.u 0 rfl) rfl) rfl rfl rfl rfl) <|
    hk (fun cx => cx.no (cx.wo rfl rfl rfl rfl (cx.u 1 rfl) rfl) rfl rfl rfl rfl) <|
    hk (fun cx => cx.no (cx.wo rfl rfl rfl rfl (cx.u 2 rfl) rfl) rfl rfl rfl rfl) <|
    hk (fun cx => cx.v (ex_pf rfl (cx.u 0 rfl) rfl) rfl rfl) <|
    hk (fun cx => cx.v (ex_as rfl (cx.u 0 rfl)) rfl rfl) <|
    hn) ?_
   intro a5 w5 f5
   refine wp_ret ?_
   try simp only [Exit.inBlock, Exit.then]
   refine bodyPost_ret (res_t (fn := Try.f38) rfl (f5.v 34 rfl rfl rfl)) f5.d ?_
   have HE : Value.bool false = .bool (Rg.inB ⟨⟨a, b⟩, ⟨c, d⟩⟩ ⟨⟨p, q⟩, ⟨r, t⟩⟩) := by show _ = Value.bool (Rg.mayB ⟨⟨a, b⟩, ⟨c, d⟩⟩ && (Rg.mayB ⟨⟨p, q⟩, ⟨r, t⟩⟩ && ((decide (p ≤ a) && decide (b ≤ q)) && (decide (r ≤ c) && decide (d ≤ t))))); simp only [Ffk1.out, Ffk2.out, Ffk3.out, Ffk4.out, Bool.false_and, Bool.true_and, Bool.and_false, Bool.and_true]
   exact ⟨retV HE, f5.b⟩
  have Ffk4 := Lib.hid fk4; clear fk4
  cases fk5 : decide (r ≤ c)
  case false =>
   have Ffk5 := Lib.hid fk5; clear fk5
   refine go_reg [bx g1 60 (cR a b c d), bx g2 60 (cR p q r t)] [] (tabs [some (.agg (cR a b c d)), some (.bool true), some (.bool true), some (.agg (cR p q r t)), some (.bool true), some (.bool true), some (.bool true), some (pt g1 0), some (.int .u64 a), some (pt g2 0), some (.int .u64 p), some (.bool true), some (.bool true), some (.bool true), some (pt g1 1), some (.int .u64 b), some (pt g2 1), some (.int .u64 q), some (.bool true), some (.bool true)] [some (.bool true), some (pt g1 2), some (.int .i64 c), some (pt g2 2), some (.int .i64 r), some (.bool false), some (.bool false), some (.bool false), some (undef), some (undef), some (undef), some (undef), some (undef), some (.bool false), some (.bool false)]) mo f1.d f1.z f1.b (by kernel_rfl) ⟨b_g1, b_g2, trivial⟩ (
    hk (fun cx => cx.v (ldR rfl (cx.rq 2 u_g1) (cx.rn 0 rfl)) rfl rfl) <|
    hc (fun _ _ wx cx => cx.c rfl (args1 (cx.u 0 rfl)) Try.func28 (by decide +kernel) (rmay_n a b c d wx) rfl (congrArg Value.bool Ffk1.out)) <|
    hk (fun cx => cx.v (ex_mv rfl (cx.u 0 rfl)) rfl rfl) <|
    hk (fun cx => cx.val (cx.wy rfl rfl rfl rfl (cx.u 0 rfl)) (ldR rfl (cx.rq 3 u_g2) (cx.rn 1 rfl)) rfl rfl rfl rfl) <|
    hc (fun _ _ wx cx => cx.call (cx.wy rfl rfl rfl rfl (cx.u 1 rfl)) rfl rfl (args1 (cx.u 0 rfl)) Try.func28 (by decide +kernel) rfl (rmay_n p q r t wx) rfl rfl (congrArg Value.bool Ffk2.out) rfl) <|
    hk (fun cx => cx.v (ex_pt rfl (cx.u 0 rfl) (cx.u 1 rfl)) rfl rfl) <|
    hk (fun cx => cx.v (ex_mv rfl (cx.u 0 rfl)) rfl rfl) <|
    hk (fun cx => cx.val (cx.wy rfl rfl rfl rfl (cx.u 0 rfl)) (ex_fa rfl (cx.rq 2 u_g1) (faRS60_0_0 _ _)) rfl rfl rfl rfl) <|
    hk (fun cx => cx.val (cx.wy rfl rfl rfl rfl (cx.u 1 rfl)) (ex_ld rfl (cx.u 0 rfl) (cx.rn 0 rfl) rfl Try.isAgg30) rfl rfl rfl rfl) <|
    hk (fun cx => cx.val (cx.wy rfl rfl rfl rfl (cx.u 0 rfl)) (ex_fa rfl (cx.rq 3 u_g2) (faRS60_0_0 _ _)) rfl rfl rfl rfl) <|
    hk (fun cx => cx.val (cx.wy rfl rfl rfl rfl (cx.u 1 rfl)) (ex_ld rfl (cx.u 0 rfl) (cx.rn 1 rfl) rfl Try.isAgg30) rfl rfl rfl rfl) <|
    hk (fun cx => cx.val (cx.wy rfl rfl rfl rfl (cx.u 2 rfl)) (ex_ge (x := .tmp 13) (y := .tmp 15) rfl (cx.u 0 rfl) (cx.u 1 rfl)) rfl rfl (congrArg Value.bool Ffk3.out) rfl) <|
    hk (fun cx => cx.v (ex_pt rfl (cx.u 0 rfl) (cx.u 1 rfl)) rfl rfl) <|
    hk (fun cx => cx.v (ex_mv rfl (cx.u 0 rfl)) rfl rfl) <|
    hk (fun cx => cx.val (cx.wy rfl rfl rfl rfl (cx.u 0 rfl)) (ex_fa rfl (cx.rq 2 u_g1) (faRS60_1_0 _ _)) rfl rfl rfl rfl) <|
    hk (fun cx => cx.val (cx.wy rfl rfl rfl rfl (cx.u 1 rfl)) (ex_ld rfl (cx.u 0 rfl) (cx.rn 0 rfl) rfl Try.isAgg30) rfl rfl rfl rfl) <|
    hk (fun cx => cx.val (cx.wy rfl rfl rfl rfl (cx.u 0 rfl)) (ex_fa rfl (cx.rq 3 u_g2) (faRS60_1_0 _ _)) rfl rfl rfl rfl) <|
    hk (fun cx => cx.val (cx.wy rfl rfl rfl rfl (cx.u 1 rfl)) (ex_ld rfl (cx.u 0 rfl) (cx.rn 1 rfl) rfl Try.isAgg30) rfl rfl rfl rfl) <|
    hk (fun cx => cx.val (cx.wy rfl rfl rfl rfl (cx.u 2 rfl)) (ex_le (x := .tmp 20) (y := .tmp 22) rfl (cx.u 0 rfl) (cx.u 1 rfl)) rfl rfl (congrArg Value.bool Ffk4.out) rfl) <|
    hk (fun cx => cx.v (ex_pt rfl (cx.u 0 rfl) (cx.u 1 rfl)) rfl rfl) <|
    hk (fun cx => cx.v (ex_mv rfl (cx.u 0 rfl)) rfl rfl) <|
    hk (fun cx => cx.val (cx.wy rfl rfl rfl rfl (cx.u 0 rfl)) (ex_fa rfl (cx.rq 2 u_g1) (faRS60_2_0 _ _)) rfl rfl rfl rfl) <|
    hk (fun cx => cx.val (cx.wy rfl rfl rfl rfl (cx.u 1 rfl)) (ex_ld rfl (cx.u 0 rfl) (cx.rn 0 rfl) rfl Try.isAgg2) rfl rfl rfl rfl) <|
    hk (fun cx => cx.val (cx.wy rfl rfl rfl rfl (cx.u 0 rfl)) (ex_fa rfl (cx.rq 3 u_g2) (faRS60_2_0 _ _)) rfl rfl rfl rfl) <|
    hk (fun cx => cx.val (cx.wy rfl rfl rfl rfl (cx.u 1 rfl)) (ex_ld rfl (cx.u 0 rfl) (cx.rn 1 rfl) rfl Try.isAgg2) rfl rfl rfl rfl) <|
    hk (fun cx => cx.val (cx.wy rfl rfl rfl rfl (cx.u 2 rfl)) (ex_ge (x := .tmp 27) (y := .tmp 29) rfl (cx.u 0 rfl) (cx.u 1 rfl)) rfl rfl (congrArg Value.bool Ffk5.out) rfl) <|
    hk (fun cx => cx.v (ex_pt rfl (cx.u 0 rfl) (cx.u 1 rfl)) rfl rfl) <|
    hk (fun cx => cx.v (ex_mv rfl (cx.u 0 rfl)) rfl rfl) <|
    hk (fun cx => cx.no (cx.wo rfl rfl rfl rfl (cx.u 0 rfl) rfl) rfl rfl rfl rfl) <|
    hk (fun cx => cx.no (cx.wo rfl rfl rfl rfl (cx.u 1 rfl) rfl) rfl rfl rfl rfl) <|
    hk (fun cx => cx.no (cx.wo rfl rfl rfl rfl (cx.u 0 rfl) rfl) rfl rfl rfl rfl) <|
    hk (fun cx => cx.no (cx.wo rfl rfl rfl rfl (cx.u 1 rfl) rfl) rfl rfl rfl rfl) <|
    hk (fun cx => cx.no (cx.wo rfl rfl rfl rfl (cx.u 2 rfl) rfl) rfl rfl rfl rfl) <|
    hk (fun cx => cx.v (ex_pf rfl (cx.u 0 rfl) rfl) rfl rfl) <|
    hk (fun cx => cx.v (ex_as rfl (cx.u 0 rfl)) rfl rfl) <|
    hn) ?_
   intro a6 w6 f6
   refine wp_ret ?_
   try simp only [Exit.inBlock, Exit.then]
   refine bodyPost_ret (res_t (fn := Try.f38) rfl (f6.v 34 rfl rfl rfl)) f6.d ?_
   have HE : Value.bool false = .bool (Rg.inB ⟨⟨a, b⟩, ⟨c, d⟩⟩ ⟨⟨p, q⟩, ⟨r, t⟩⟩) := by show _ = Value.bool (Rg.mayB ⟨⟨a, b⟩, ⟨c, d⟩⟩ && (Rg.mayB ⟨⟨p, q⟩, ⟨r, t⟩⟩ && ((decide (p ≤ a) && decide (b ≤ q)) && (decide (r ≤ c) && decide (d ≤ t))))); simp only [Ffk1.out, Ffk2.out, Ffk3.out, Ffk4.out, Ffk5.out, Bool.false_and, Bool.true_and, Bool.and_false, Bool.and_true]
   exact ⟨retV HE, f6.b⟩
  have Ffk5 := Lib.hid fk5; clear fk5
  cases fk6 : decide (d ≤ t)
  case false =>
   have Ffk6 := Lib.hid fk6; clear fk6
   refine go_reg [bx g1 60 (cR a b c d), bx g2 60 (cR p q r t)] [] (tabs [some (.agg (cR a b c d)), some (.bool true), some (.bool true), some (.agg (cR p q r t)), some (.bool true), some (.bool true), some (.bool true), some (pt g1 0), some (.int .u64 a), some (pt g2 0), some (.int .u64 p), some (.bool true), some (.bool true), some (.bool true), some (pt g1 1), some (.int .u64 b), some (pt g2 1), some (.int .u64 q), some (.bool true), some (.bool true)] [some (.bool true), some (pt g1 2), some (.int .i64 c), some (pt g2 2), some (.int .i64 r), some (.bool true), some (.bool true), some (.bool true), some (pt g1 3), some (.int .i64 d), some (pt g2 3), some (.int .i64 t), some (.bool false), some (.bool false), some (.bool false)]) mo f1.d f1.z f1.b (by kernel_rfl) ⟨b_g1, b_g2, trivial⟩ (
    hk (fun cx => cx.v (ldR rfl (cx.rq 2 u_g1) (cx.rn 0 rfl)) rfl rfl) <|
    hc (fun _ _ wx cx => cx.c rfl (args1 (cx.u 0 rfl)) Try.func28 (by decide +kernel) (rmay_n a b c d wx) rfl (congrArg Value.bool Ffk1.out)) <|
    hk (fun cx => cx.v (ex_mv rfl (cx.u 0 rfl)) rfl rfl) <|
    hk (fun cx => cx.val (cx.wy rfl rfl rfl rfl (cx.u 0 rfl)) (ldR rfl (cx.rq 3 u_g2) (cx.rn 1 rfl)) rfl rfl rfl rfl) <|
    hc (fun _ _ wx cx => cx.call (cx.wy rfl rfl rfl rfl (cx.u 1 rfl)) rfl rfl (args1 (cx.u 0 rfl)) Try.func28 (by decide +kernel) rfl (rmay_n p q r t wx) rfl rfl (congrArg Value.bool Ffk2.out) rfl) <|
    hk (fun cx => cx.v (ex_pt rfl (cx.u 0 rfl) (cx.u 1 rfl)) rfl rfl) <|
    hk (fun cx => cx.v (ex_mv rfl (cx.u 0 rfl)) rfl rfl) <|
    hk (fun cx => cx.val (cx.wy rfl rfl rfl rfl (cx.u 0 rfl)) (ex_fa rfl (cx.rq 2 u_g1) (faRS60_0_0 _ _)) rfl rfl rfl rfl) <|
    hk (fun cx => cx.val (cx.wy rfl rfl rfl rfl (cx.u 1 rfl)) (ex_ld rfl (cx.u 0 rfl) (cx.rn 0 rfl) rfl Try.isAgg30) rfl rfl rfl rfl) <|
    hk (fun cx => cx.val (cx.wy rfl rfl rfl rfl (cx.u 0 rfl)) (ex_fa rfl (cx.rq 3 u_g2) (faRS60_0_0 _ _)) rfl rfl rfl rfl) <|
    hk (fun cx => cx.val (cx.wy rfl rfl rfl rfl (cx.u 1 rfl)) (ex_ld rfl (cx.u 0 rfl) (cx.rn 1 rfl) rfl Try.isAgg30) rfl rfl rfl rfl) <|
    hk (fun cx => cx.val (cx.wy rfl rfl rfl rfl (cx.u 2 rfl)) (ex_ge (x := .tmp 13) (y := .tmp 15) rfl (cx.u 0 rfl) (cx.u 1 rfl)) rfl rfl (congrArg Value.bool Ffk3.out) rfl) <|
    hk (fun cx => cx.v (ex_pt rfl (cx.u 0 rfl) (cx.u 1 rfl)) rfl rfl) <|
    hk (fun cx => cx.v (ex_mv rfl (cx.u 0 rfl)) rfl rfl) <|
    hk (fun cx => cx.val (cx.wy rfl rfl rfl rfl (cx.u 0 rfl)) (ex_fa rfl (cx.rq 2 u_g1) (faRS60_1_0 _ _)) rfl rfl rfl rfl) <|
    hk (fun cx => cx.val (cx.wy rfl rfl rfl rfl (cx.u 1 rfl)) (ex_ld rfl (cx.u 0 rfl) (cx.rn 0 rfl) rfl Try.isAgg30) rfl rfl rfl rfl) <|
    hk (fun cx => cx.val (cx.wy rfl rfl rfl rfl (cx.u 0 rfl)) (ex_fa rfl (cx.rq 3 u_g2) (faRS60_1_0 _ _)) rfl rfl rfl rfl) <|
    hk (fun cx => cx.val (cx.wy rfl rfl rfl rfl (cx.u 1 rfl)) (ex_ld rfl (cx.u 0 rfl) (cx.rn 1 rfl) rfl Try.isAgg30) rfl rfl rfl rfl) <|
    hk (fun cx => cx.val (cx.wy rfl rfl rfl rfl (cx.u 2 rfl)) (ex_le (x := .tmp 20) (y := .tmp 22) rfl (cx.u 0 rfl) (cx.u 1 rfl)) rfl rfl (congrArg Value.bool Ffk4.out) rfl) <|
    hk (fun cx => cx.v (ex_pt rfl (cx.u 0 rfl) (cx.u 1 rfl)) rfl rfl) <|
    hk (fun cx => cx.v (ex_mv rfl (cx.u 0 rfl)) rfl rfl) <|
    hk (fun cx => cx.val (cx.wy rfl rfl rfl rfl (cx.u 0 rfl)) (ex_fa rfl (cx.rq 2 u_g1) (faRS60_2_0 _ _)) rfl rfl rfl rfl) <|
    hk (fun cx => cx.val (cx.wy rfl rfl rfl rfl (cx.u 1 rfl)) (ex_ld rfl (cx.u 0 rfl) (cx.rn 0 rfl) rfl Try.isAgg2) rfl rfl rfl rfl) <|
    hk (fun cx => cx.val (cx.wy rfl rfl rfl rfl (cx.u 0 rfl)) (ex_fa rfl (cx.rq 3 u_g2) (faRS60_2_0 _ _)) rfl rfl rfl rfl) <|
    hk (fun cx => cx.val (cx.wy rfl rfl rfl rfl (cx.u 1 rfl)) (ex_ld rfl (cx.u 0 rfl) (cx.rn 1 rfl) rfl Try.isAgg2) rfl rfl rfl rfl) <|
    hk (fun cx => cx.val (cx.wy rfl rfl rfl rfl (cx.u 2 rfl)) (ex_ge (x := .tmp 27) (y := .tmp 29) rfl (cx.u 0 rfl) (cx.u 1 rfl)) rfl rfl (congrArg Value.bool Ffk5.out) rfl) <|
    hk (fun cx => cx.v (ex_pt rfl (cx.u 0 rfl) (cx.u 1 rfl)) rfl rfl) <|
    hk (fun cx => cx.v (ex_mv rfl (cx.u 0 rfl)) rfl rfl) <|
    hk (fun cx => cx.val (cx.wy rfl rfl rfl rfl (cx.u 0 rfl)) (ex_fa rfl (cx.rq 2 u_g1) (faRS60_3_0 _ _)) rfl rfl rfl rfl) <|
    hk (fun cx => cx.val (cx.wy rfl rfl rfl rfl (cx.u 1 rfl)) (ex_ld rfl (cx.u 0 rfl) (cx.rn 0 rfl) rfl Try.isAgg2) rfl rfl rfl rfl) <|
    hk (fun cx => cx.val (cx.wy rfl rfl rfl rfl (cx.u 0 rfl)) (ex_fa rfl (cx.rq 3 u_g2) (faRS60_3_0 _ _)) rfl rfl rfl rfl) <|
    hk (fun cx => cx.val (cx.wy rfl rfl rfl rfl (cx.u 1 rfl)) (ex_ld rfl (cx.u 0 rfl) (cx.rn 1 rfl) rfl Try.isAgg2) rfl rfl rfl rfl) <|
    hk (fun cx => cx.val (cx.wy rfl rfl rfl rfl (cx.u 2 rfl)) (ex_le (x := .tmp 34) (y := .tmp 36) rfl (cx.u 0 rfl) (cx.u 1 rfl)) rfl rfl (congrArg Value.bool Ffk6.out) rfl) <|
    hk (fun cx => cx.v (ex_pt rfl (cx.u 0 rfl) (cx.u 1 rfl)) rfl rfl) <|
    hk (fun cx => cx.v (ex_as rfl (cx.u 0 rfl)) rfl rfl) <|
    hn) ?_
   intro a7 w7 f7
   refine wp_ret ?_
   try simp only [Exit.inBlock, Exit.then]
   refine bodyPost_ret (res_t (fn := Try.f38) rfl (f7.v 34 rfl rfl rfl)) f7.d ?_
   have HE : Value.bool false = .bool (Rg.inB ⟨⟨a, b⟩, ⟨c, d⟩⟩ ⟨⟨p, q⟩, ⟨r, t⟩⟩) := by show _ = Value.bool (Rg.mayB ⟨⟨a, b⟩, ⟨c, d⟩⟩ && (Rg.mayB ⟨⟨p, q⟩, ⟨r, t⟩⟩ && ((decide (p ≤ a) && decide (b ≤ q)) && (decide (r ≤ c) && decide (d ≤ t))))); simp only [Ffk1.out, Ffk2.out, Ffk3.out, Ffk4.out, Ffk5.out, Ffk6.out, Bool.false_and, Bool.true_and, Bool.and_false, Bool.and_true]
   exact ⟨retV HE, f7.b⟩
  have Ffk6 := Lib.hid fk6; clear fk6
  refine go_reg [bx g1 60 (cR a b c d), bx g2 60 (cR p q r t)] [] (tabs [some (.agg (cR a b c d)), some (.bool true), some (.bool true), some (.agg (cR p q r t)), some (.bool true), some (.bool true), some (.bool true), some (pt g1 0), some (.int .u64 a), some (pt g2 0), some (.int .u64 p), some (.bool true), some (.bool true), some (.bool true), some (pt g1 1), some (.int .u64 b), some (pt g2 1), some (.int .u64 q), some (.bool true), some (.bool true)] [some (.bool true), some (pt g1 2), some (.int .i64 c), some (pt g2 2), some (.int .i64 r), some (.bool true), some (.bool true), some (.bool true), some (pt g1 3), some (.int .i64 d), some (pt g2 3), some (.int .i64 t), some (.bool true), some (.bool true), some (.bool true)]) mo f1.d f1.z f1.b (by kernel_rfl) ⟨b_g1, b_g2, trivial⟩ (
   hk (fun cx => cx.v (ldR rfl (cx.rq 2 u_g1) (cx.rn 0 rfl)) rfl rfl) <|
   hc (fun _ _ wx cx => cx.c rfl (args1 (cx.u 0 rfl)) Try.func28 (by decide +kernel) (rmay_n a b c d wx) rfl (congrArg Value.bool Ffk1.out)) <|
   hk (fun cx => cx.v (ex_mv rfl (cx.u 0 rfl)) rfl rfl) <|
   hk (fun cx => cx.val (cx.wy rfl rfl rfl rfl (cx.u 0 rfl)) (ldR rfl (cx.rq 3 u_g2) (cx.rn 1 rfl)) rfl rfl rfl rfl) <|
   hc (fun _ _ wx cx => cx.call (cx.wy rfl rfl rfl rfl (cx.u 1 rfl)) rfl rfl (args1 (cx.u 0 rfl)) Try.func28 (by decide +kernel) rfl (rmay_n p q r t wx) rfl rfl (congrArg Value.bool Ffk2.out) rfl) <|
   hk (fun cx => cx.v (ex_pt rfl (cx.u 0 rfl) (cx.u 1 rfl)) rfl rfl) <|
   hk (fun cx => cx.v (ex_mv rfl (cx.u 0 rfl)) rfl rfl) <|
   hk (fun cx => cx.val (cx.wy rfl rfl rfl rfl (cx.u 0 rfl)) (ex_fa rfl (cx.rq 2 u_g1) (faRS60_0_0 _ _)) rfl rfl rfl rfl) <|
   hk (fun cx => cx.val (cx.wy rfl rfl rfl rfl (cx.u 1 rfl)) (ex_ld rfl (cx.u 0 rfl) (cx.rn 0 rfl) rfl Try.isAgg30) rfl rfl rfl rfl) <|
   hk (fun cx => cx.val (cx.wy rfl rfl rfl rfl (cx.u 0 rfl)) (ex_fa rfl (cx.rq 3 u_g2) (faRS60_0_0 _ _)) rfl rfl rfl rfl) <|
   hk (fun cx => cx.val (cx.wy rfl rfl rfl rfl (cx.u 1 rfl)) (ex_ld rfl (cx.u 0 rfl) (cx.rn 1 rfl) rfl Try.isAgg30) rfl rfl rfl rfl) <|
   hk (fun cx => cx.val (cx.wy rfl rfl rfl rfl (cx.u 2 rfl)) (ex_ge (x := .tmp 13) (y := .tmp 15) rfl (cx.u 0 rfl) (cx.u 1 rfl)) rfl rfl (congrArg Value.bool Ffk3.out) rfl) <|
   hk (fun cx => cx.v (ex_pt rfl (cx.u 0 rfl) (cx.u 1 rfl)) rfl rfl) <|
   hk (fun cx => cx.v (ex_mv rfl (cx.u 0 rfl)) rfl rfl) <|
   hk (fun cx => cx.val (cx.wy rfl rfl rfl rfl (cx.u 0 rfl)) (ex_fa rfl (cx.rq 2 u_g1) (faRS60_1_0 _ _)) rfl rfl rfl rfl) <|
   hk (fun cx => cx.val (cx.wy rfl rfl rfl rfl (cx.u 1 rfl)) (ex_ld rfl (cx.u 0 rfl) (cx.rn 0 rfl) rfl Try.isAgg30) rfl rfl rfl rfl) <|
   hk (fun cx => cx.val (cx.wy rfl rfl rfl rfl (cx.u 0 rfl)) (ex_fa rfl (cx.rq 3 u_g2) (faRS60_1_0 _ _)) rfl rfl rfl rfl) <|
   hk (fun cx => cx.val (cx.wy rfl rfl rfl rfl (cx.u 1 rfl)) (ex_ld rfl (cx.u 0 rfl) (cx.rn 1 rfl) rfl Try.isAgg30) rfl rfl rfl rfl) <|
   hk (fun cx => cx.val (cx.wy rfl rfl rfl rfl (cx.u 2 rfl)) (ex_le (x := .tmp 20) (y := .tmp 22) rfl (cx.u 0 rfl) (cx.u 1 rfl)) rfl rfl (congrArg Value.bool Ffk4.out) rfl) <|
   hk (fun cx => cx.v (ex_pt rfl (cx.u 0 rfl) (cx.u 1 rfl)) rfl rfl) <|
   hk (fun cx => cx.v (ex_mv rfl (cx.u 0 rfl)) rfl rfl) <|
   hk (fun cx => cx.val (cx.wy rfl rfl rfl rfl (cx.u 0 rfl)) (ex_fa rfl (cx.rq 2 u_g1) (faRS60_2_0 _ _)) rfl rfl rfl rfl) <|
   hk (fun cx => cx.val (cx.wy rfl rfl rfl rfl (cx.u 1 rfl)) (ex_ld rfl (cx.u 0 rfl) (cx.rn 0 rfl) rfl Try.isAgg2) rfl rfl rfl rfl) <|
   hk (fun cx => cx.val (cx.wy rfl rfl rfl rfl (cx.u 0 rfl)) (ex_fa rfl (cx.rq 3 u_g2) (faRS60_2_0 _ _)) rfl rfl rfl rfl) <|
   hk (fun cx => cx.val (cx.wy rfl rfl rfl rfl (cx.u 1 rfl)) (ex_ld rfl (cx.u 0 rfl) (cx.rn 1 rfl) rfl Try.isAgg2) rfl rfl rfl rfl) <|
   hk (fun cx => cx.val (cx.wy rfl rfl rfl rfl (cx.u 2 rfl)) (ex_ge (x := .tmp 27) (y := .tmp 29) rfl (cx.u 0 rfl) (cx.u 1 rfl)) rfl rfl (congrArg Value.bool Ffk5.out) rfl) <|
   hk (fun cx => cx.v (ex_pt rfl (cx.u 0 rfl) (cx.u 1 rfl)) rfl rfl) <|
   hk (fun cx => cx.v (ex_mv rfl (cx.u 0 rfl)) rfl rfl) <|
   hk (fun cx => cx.val (cx.wy rfl rfl rfl rfl (cx.u 0 rfl)) (ex_fa rfl (cx.rq 2 u_g1) (faRS60_3_0 _ _)) rfl rfl rfl rfl) <|
   hk (fun cx => cx.val (cx.wy rfl rfl rfl rfl (cx.u 1 rfl)) (ex_ld rfl (cx.u 0 rfl) (cx.rn 0 rfl) rfl Try.isAgg2) rfl rfl rfl rfl) <|
   hk (fun cx => cx.val (cx.wy rfl rfl rfl rfl (cx.u 0 rfl)) (ex_fa rfl (cx.rq 3 u_g2) (faRS60_3_0 _ _)) rfl rfl rfl rfl) <|
   hk (fun cx => cx.val (cx.wy rfl rfl rfl rfl (cx.u 1 rfl)) (ex_ld rfl (cx.u 0 rfl) (cx.rn 1 rfl) rfl Try.isAgg2) rfl rfl rfl rfl) <|
   hk (fun cx => cx.val (cx.wy rfl rfl rfl rfl (cx.u 2 rfl)) (ex_le (x := .tmp 34) (y := .tmp 36) rfl (cx.u 0 rfl) (cx.u 1 rfl)) rfl rfl (congrArg Value.bool Ffk6.out) rfl) <|
   hk (fun cx => cx.v (ex_pt rfl (cx.u 0 rfl) (cx.u 1 rfl)) rfl rfl) <|
   hk (fun cx => cx.v (ex_as rfl (cx.u 0 rfl)) rfl rfl) <|
   hn) ?_
  intro a8 w8 f8
  refine wp_ret ?_
  try simp only [Exit.inBlock, Exit.then]
  refine bodyPost_ret (res_t (fn := Try.f38) rfl (f8.v 34 rfl rfl rfl)) f8.d ?_
  have HE : Value.bool true = .bool (Rg.inB ⟨⟨a, b⟩, ⟨c, d⟩⟩ ⟨⟨p, q⟩, ⟨r, t⟩⟩) := by show _ = Value.bool (Rg.mayB ⟨⟨a, b⟩, ⟨c, d⟩⟩ && (Rg.mayB ⟨⟨p, q⟩, ⟨r, t⟩⟩ && ((decide (p ≤ a) && decide (b ≤ q)) && (decide (r ≤ c) && decide (d ≤ t))))); simp only [Ffk1.out, Ffk2.out, Ffk3.out, Ffk4.out, Ffk5.out, Ffk6.out, Bool.false_and, Bool.true_and, Bool.and_false, Bool.and_true]
  exact ⟨retV HE, f8.b⟩

set_option maxHeartbeats 4000000 in
theorem rmeet_n (a b c d p q r t : Int) (W : World) (ha : Rg.Ok ⟨⟨a, b⟩, ⟨c, d⟩⟩) (hb : Rg.Ok ⟨⟨p, q⟩, ⟨r, t⟩⟩) : Calls Try.prog 20 #[.agg #[.int .u64 a, .int .u64 b, .int .i64 c, .int .i64 d], .agg #[.int .u64 p, .int .u64 q, .int .i64 r, .int .i64 t]] W fun e w' => e = .returned (.tuple #[.agg #[.int .u64 (Rg.meetR ⟨⟨a, b⟩, ⟨c, d⟩⟩ ⟨⟨p, q⟩, ⟨r, t⟩⟩).u.lo, .int .u64 (Rg.meetR ⟨⟨a, b⟩, ⟨c, d⟩⟩ ⟨⟨p, q⟩, ⟨r, t⟩⟩).u.hi, .int .i64 (Rg.meetR ⟨⟨a, b⟩, ⟨c, d⟩⟩ ⟨⟨p, q⟩, ⟨r, t⟩⟩).s.lo, .int .i64 (Rg.meetR ⟨⟨a, b⟩, ⟨c, d⟩⟩ ⟨⟨p, q⟩, ⟨r, t⟩⟩).s.hi], .bool (Rg.meetB ⟨⟨a, b⟩, ⟨c, d⟩⟩ ⟨⟨p, q⟩, ⟨r, t⟩⟩)]) ∧ Below W.heap.size W w' := by
  have HK : Hid (Rg.Ok ⟨Pr.meet ⟨a, b⟩ ⟨p, q⟩, Pr.meet ⟨c, d⟩ ⟨r, t⟩⟩) := Lib.hid (meet_ok ha hb)
  clear ha hb
  refine calls_abs Try.func20 rfl (Nat.le_of_ble_eq_true rfl) ?_
  intro a0 d0 z0 h0
  replace z0 : a0.tmps.size = 39 := z0
  have s0_0 : a0.tmps.getD 0 undef = .agg (cR a b c d) := h0 0 (Nat.le_of_ble_eq_true rfl)
  have s1_0 : a0.tmps.getD 1 undef = .agg (cR p q r t) := h0 1 (Nat.le_of_ble_eq_true rfl)
  refine wp_seq ?_
  refine go_reg [] [⟨0, 2, 60, (cR a b c d), none, #[]⟩, ⟨1, 3, 60, (cR p q r t), none, #[]⟩, ⟨2, 4, 60, (cR 0 0 0 0), none, #[]⟩] [none, none, none, some (.bool false)] mo d0 z0 (Below.refl _ _) (by kernel_rfl) trivial (
   hc (fun _ ax _ cx => cx.al (wn rfl) 0 rfl (by simp [execOp, Act.eval, (show ax.tmps.getD 0 undef = .agg (cR a b c d) from (cx.rq 0 s0_0)), go_sem]) rfl rfl rfl rfl rfl trivial) <|
   hc (fun _ ax _ cx => cx.al (wn rfl) 1 rfl (by simp [execOp, Act.eval, (show ax.tmps.getD 1 undef = .agg (cR p q r t) from (cx.rq 1 s1_0)), go_sem]) rfl rfl rfl rfl rfl trivial) <|
   hk (fun cx => cx.al (wn rfl) 2 rfl (by simp [execOp, Act.eval, go_sem]) rfl rfl rfl rfl rfl trivial) <|
   hk (fun cx => cx.v (ex_as rfl rfl) rfl rfl) <|
   hn) ?_
  intro a1 w1 f1
  obtain ⟨g1, u_g1, q_g1, b_g1⟩ := f1.al.1
  obtain ⟨g2, u_g2, q_g2, b_g2⟩ := f1.al.2.1
  obtain ⟨g3, u_g3, q_g3, b_g3⟩ := f1.al.2.2.1
  refine wp_seq ?_
  refine wp_seq ?_
  cases fk1 : Rg.mayB ⟨⟨a, b⟩, ⟨c, d⟩⟩
  case false =>
   have Ffk1 := Lib.hid fk1; clear fk1
   refine go_reg [bx g1 60 (cR a b c d)] [] [some (.agg (cR a b c d)), some (.bool false), some (.bool true), some (.bool true), some (undef), some (undef), some (undef), some (.bool true)] mo f1.d f1.z f1.b (by kernel_rfl) ⟨b_g1, trivial⟩ (
    hk (fun cx => cx.v (ldR rfl (cx.rq 2 u_g1) (cx.rn 0 rfl)) rfl rfl) <|
    hc (fun _ _ wx cx => cx.c rfl (args1 (cx.u 0 rfl)) Try.func28 (by decide +kernel) (rmay_n a b c d wx) rfl (congrArg Value.bool Ffk1.out)) <|
    hk (fun cx => cx.v (ex_not (x := .tmp 7) rfl (cx.u 0 rfl)) rfl rfl) <|
    hk (fun cx => cx.v (ex_mv rfl (cx.u 0 rfl)) rfl rfl) <|
    hk (fun cx => cx.no (cx.wo rfl rfl rfl rfl (cx.u 0 rfl) rfl) rfl rfl rfl rfl) <|
    hk (fun cx => cx.no (cx.wo rfl rfl rfl rfl (cx.u 1 rfl) rfl) rfl rfl rfl rfl) <|
    hk (fun cx => cx.no (cx.wo rfl rfl rfl rfl (cx.u 1 rfl) rfl) rfl rfl rfl rfl) <|
    hk (fun cx => cx.v (ex_pt rfl (cx.u 0 rfl) rfl) rfl rfl) <|
    hn) ?_
   intro a2 w2 f2
   refine wp_cond_true (f2.v 7 rfl rfl rfl) ?_
   refine wp_seq ?_
   have b_g3_1 := f2.k b_g3
   have s4_2 := f2.q 4 u_g3
   refine go_reg [⟨g3, 60, (cR 0 0 0 0), some 1, (cR allR.u.lo allR.u.hi allR.s.lo allR.s.hi)⟩] [] [some (.agg (cR allR.u.lo allR.u.hi allR.s.lo allR.s.hi)), none, some (.bool false)] mo f2.d f2.z f2.b (by kernel_rfl) ⟨b_g3_1, trivial⟩ (
    hc (fun _ _ wx cx => cx.c rfl (args0 ) Try.func30 (by decide +kernel) (rall_n wx) rfl rfl) <|
    hk (fun cx => cx.stR (wn rfl) rfl rfl 0 rfl (cx.rq 4 s4_2) (cx.u 0 rfl) (by kernel_rfl) rfl (by simp [Value.oneCell']) q_g3 rfl trivial trivial) <|
    hk (fun cx => cx.v (ex_as rfl rfl) rfl rfl) <|
    hn) ?_
   intro a3 w3 f3
   refine wp_ret ?_
   have s4_3 := f3.q 4 s4_2
   try simp only [Exit.inBlock, Exit.then]
   refine bodyPost_ret (res_ct (fn := Try.f20) rfl s4_3 (load_row 60 f3.rows.1 Try.underlying60 rfl (by kernel_rfl)) (f3.v 2 rfl rfl rfl)) f3.d ?_
   have HE : Value.tuple #[.agg (cR allR.u.lo allR.u.hi allR.s.lo allR.s.hi), .bool false] = .tuple #[Rg.val (Rg.meetR ⟨⟨a, b⟩, ⟨c, d⟩⟩ ⟨⟨p, q⟩, ⟨r, t⟩⟩), .bool (Rg.meetB ⟨⟨a, b⟩, ⟨c, d⟩⟩ ⟨⟨p, q⟩, ⟨r, t⟩⟩)] := by unfold Rg.meetR Rg.meetB; rw [Ffk1.out]; rfl
   exact ⟨retV HE, f3.b⟩
  have Ffk1 := Lib.hid fk1; clear fk1
  cases fk2 : Rg.mayB ⟨⟨p, q⟩, ⟨r, t⟩⟩
  case false =>
   have Ffk2 := Lib.hid fk2; clear fk2
   refine go_reg [bx g1 60 (cR a b c d), bx g2 60 (cR p q r t)] [] [some (.agg (cR a b c d)), some (.bool true), some (.bool false), some (.bool false), some (.agg (cR p q r t)), some (.bool false), some (.bool true), some (.bool true)] mo f1.d f1.z f1.b (by kernel_rfl) ⟨b_g1, b_g2, trivial⟩ (
    hk (fun cx => cx.v (ldR rfl (cx.rq 2 u_g1) (cx.rn 0 rfl)) rfl rfl) <|
    hc (fun _ _ wx cx => cx.c rfl (args1 (cx.u 0 rfl)) Try.func28 (by decide +kernel) (rmay_n a b c d wx) rfl (congrArg Value.bool Ffk1.out)) <|
    hk (fun cx => cx.v (ex_not (x := .tmp 7) rfl (cx.u 0 rfl)) rfl rfl) <|
    hk (fun cx => cx.v (ex_mv rfl (cx.u 0 rfl)) rfl rfl) <|
    hk (fun cx => cx.val (cx.wy rfl rfl rfl rfl (cx.u 0 rfl)) (ldR rfl (cx.rq 3 u_g2) (cx.rn 1 rfl)) rfl rfl rfl rfl) <|
    hc (fun _ _ wx cx => cx.call (cx.wy rfl rfl rfl rfl (cx.u 1 rfl)) rfl rfl (args1 (cx.u 0 rfl)) Try.func28 (by decide +kernel) rfl (rmay_n p q r t wx) rfl rfl (congrArg Value.bool Ffk2.out) rfl) <|
    hk (fun cx => cx.val (cx.wy rfl rfl rfl rfl (cx.u 1 rfl)) (ex_not (x := .tmp 11) rfl (cx.u 0 rfl)) rfl rfl rfl rfl) <|
    hk (fun cx => cx.v (ex_pf rfl (cx.u 0 rfl) (cx.u 1 rfl)) rfl rfl) <|
    hn) ?_
   intro a4 w4 f4
   refine wp_cond_true (f4.v 7 rfl rfl rfl) ?_
   refine wp_seq ?_
   have b_g3_4 := f4.k b_g3
   have s4_5 := f4.q 4 u_g3
   refine go_reg [⟨g3, 60, (cR 0 0 0 0), some 1, (cR allR.u.lo allR.u.hi allR.s.lo allR.s.hi)⟩] [] [some (.agg (cR allR.u.lo allR.u.hi allR.s.lo allR.s.hi)), none, some (.bool false)] mo f4.d f4.z f4.b (by kernel_rfl) ⟨b_g3_4, trivial⟩ (
    hc (fun _ _ wx cx => cx.c rfl (args0 ) Try.func30 (by decide +kernel) (rall_n wx) rfl rfl) <|
    hk (fun cx => cx.stR (wn rfl) rfl rfl 0 rfl (cx.rq 4 s4_5) (cx.u 0 rfl) (by kernel_rfl) rfl (by simp [Value.oneCell']) q_g3 rfl trivial trivial) <|
    hk (fun cx => cx.v (ex_as rfl rfl) rfl rfl) <|
    hn) ?_
   intro a5 w5 f5
   refine wp_ret ?_
   have s4_6 := f5.q 4 s4_5
   try simp only [Exit.inBlock, Exit.then]
   refine bodyPost_ret (res_ct (fn := Try.f20) rfl s4_6 (load_row 60 f5.rows.1 Try.underlying60 rfl (by kernel_rfl)) (f5.v 2 rfl rfl rfl)) f5.d ?_
   have HE : Value.tuple #[.agg (cR allR.u.lo allR.u.hi allR.s.lo allR.s.hi), .bool false] = .tuple #[Rg.val (Rg.meetR ⟨⟨a, b⟩, ⟨c, d⟩⟩ ⟨⟨p, q⟩, ⟨r, t⟩⟩), .bool (Rg.meetB ⟨⟨a, b⟩, ⟨c, d⟩⟩ ⟨⟨p, q⟩, ⟨r, t⟩⟩)] := by unfold Rg.meetR Rg.meetB; rw [Ffk1.out, Ffk2.out]; rfl
   exact ⟨retV HE, f5.b⟩
  have Ffk2 := Lib.hid fk2; clear fk2
  refine go_reg [bx g1 60 (cR a b c d), bx g2 60 (cR p q r t)] [] [some (.agg (cR a b c d)), some (.bool true), some (.bool false), some (.bool false), some (.agg (cR p q r t)), some (.bool true), some (.bool false), some (.bool false)] mo f1.d f1.z f1.b (by kernel_rfl) ⟨b_g1, b_g2, trivial⟩ (
   hk (fun cx => cx.v (ldR rfl (cx.rq 2 u_g1) (cx.rn 0 rfl)) rfl rfl) <|
   hc (fun _ _ wx cx => cx.c rfl (args1 (cx.u 0 rfl)) Try.func28 (by decide +kernel) (rmay_n a b c d wx) rfl (congrArg Value.bool Ffk1.out)) <|
   hk (fun cx => cx.v (ex_not (x := .tmp 7) rfl (cx.u 0 rfl)) rfl rfl) <|
   hk (fun cx => cx.v (ex_mv rfl (cx.u 0 rfl)) rfl rfl) <|
   hk (fun cx => cx.val (cx.wy rfl rfl rfl rfl (cx.u 0 rfl)) (ldR rfl (cx.rq 3 u_g2) (cx.rn 1 rfl)) rfl rfl rfl rfl) <|
   hc (fun _ _ wx cx => cx.call (cx.wy rfl rfl rfl rfl (cx.u 1 rfl)) rfl rfl (args1 (cx.u 0 rfl)) Try.func28 (by decide +kernel) rfl (rmay_n p q r t wx) rfl rfl (congrArg Value.bool Ffk2.out) rfl) <|
   hk (fun cx => cx.val (cx.wy rfl rfl rfl rfl (cx.u 1 rfl)) (ex_not (x := .tmp 11) rfl (cx.u 0 rfl)) rfl rfl rfl rfl) <|
   hk (fun cx => cx.v (ex_pf rfl (cx.u 0 rfl) (cx.u 1 rfl)) rfl rfl) <|
   hn) ?_
  intro a6 w6 f6
  refine wp_cond_false (f6.v 7 rfl rfl rfl) ?_
  refine wp_skip ?_
  refine wp_seq ?_
  have b_g1_7 := f6.k b_g1
  have b_g2_8 := f6.k b_g2
  have b_g3_9 := f6.k b_g3
  have s2_10 := f6.q 2 u_g1
  have s3_11 := f6.q 3 u_g2
  have s4_12 := f6.q 4 u_g3
  refine go_reg [bx g1 60 (cR a b c d), bx g2 60 (cR p q r t), ⟨g3, 60, (cR 0 0 0 0), some 24, (cR ((Rg.nar ⟨⟨max a p, min b q⟩, ⟨max c r, min d t⟩⟩).u.lo) ((Rg.nar ⟨⟨max a p, min b q⟩, ⟨max c r, min d t⟩⟩).u.hi) ((Rg.nar ⟨⟨max a p, min b q⟩, ⟨max c r, min d t⟩⟩).s.lo) ((Rg.nar ⟨⟨max a p, min b q⟩, ⟨max c r, min d t⟩⟩).s.hi))⟩] [] (tabs [some (pt g1 0), some (.int .u64 a), some (pt g2 0), some (.int .u64 p), some (.int .u64 (max a p)), some (pt g1 1), some (.int .u64 b), some (pt g2 1), some (.int .u64 q), some (.int .u64 (min b q)), some (pt g1 2), some (.int .i64 c), some (pt g2 2), some (.int .i64 r), some (.int .i64 (max c r)), some (pt g1 3), some (.int .i64 d), some (pt g2 3), some (.int .i64 t), some (.int .i64 (min d t))] [some (.agg (cR (max a p) (min b q) (max c r) (min d t))), some (.tuple #[.agg (cR ((Rg.nar ⟨⟨max a p, min b q⟩, ⟨max c r, min d t⟩⟩).u.lo) ((Rg.nar ⟨⟨max a p, min b q⟩, ⟨max c r, min d t⟩⟩).u.hi) ((Rg.nar ⟨⟨max a p, min b q⟩, ⟨max c r, min d t⟩⟩).s.lo) ((Rg.nar ⟨⟨max a p, min b q⟩, ⟨max c r, min d t⟩⟩).s.hi)), .bool (Rg.narB ⟨⟨max a p, min b q⟩, ⟨max c r, min d t⟩⟩)]), some (.agg (cR ((Rg.nar ⟨⟨max a p, min b q⟩, ⟨max c r, min d t⟩⟩).u.lo) ((Rg.nar ⟨⟨max a p, min b q⟩, ⟨max c r, min d t⟩⟩).u.hi) ((Rg.nar ⟨⟨max a p, min b q⟩, ⟨max c r, min d t⟩⟩).s.lo) ((Rg.nar ⟨⟨max a p, min b q⟩, ⟨max c r, min d t⟩⟩).s.hi))), some (.bool (Rg.narB ⟨⟨max a p, min b q⟩, ⟨max c r, min d t⟩⟩)), none, some (.bool (Rg.narB ⟨⟨max a p, min b q⟩, ⟨max c r, min d t⟩⟩))]) mo f6.d f6.z f6.b (by kernel_rfl) ⟨b_g1_7, b_g2_8, b_g3_9, trivial⟩ (
   hk (fun cx => cx.v (ex_fa rfl (cx.rq 2 s2_10) (faRS60_0_0 _ _)) rfl rfl) <|
   hk (fun cx => cx.v (ex_ld rfl (cx.u 0 rfl) (cx.rn 0 rfl) rfl Try.isAgg30) rfl rfl) <|
   hk (fun cx => cx.v (ex_fa rfl (cx.rq 3 s3_11) (faRS60_0_0 _ _)) rfl rfl) <|
   hk (fun cx => cx.v (ex_ld rfl (cx.u 0 rfl) (cx.rn 1 rfl) rfl Try.isAgg30) rfl rfl) <|
   hc (fun _ ax _ cx => cx.v (ex_max (x := .tmp 16) (y := .tmp 18) rfl (cx.u 0 rfl) (cx.u 1 rfl)) rfl rfl) <|
   hk (fun cx => cx.v (ex_fa rfl (cx.rq 2 s2_10) (faRS60_1_0 _ _)) rfl rfl) <|
   hk (fun cx => cx.v (ex_ld rfl (cx.u 0 rfl) (cx.rn 0 rfl) rfl Try.isAgg30) rfl rfl) <|
   hk (fun cx => cx.v (ex_fa rfl (cx.rq 3 s3_11) (faRS60_1_0 _ _)) rfl rfl) <|
   hk (fun cx => cx.v (ex_ld rfl (cx.u 0 rfl) (cx.rn 1 rfl) rfl Try.isAgg30) rfl rfl) <|
   hk (fun cx => cx.v (ex_min (x := .tmp 21) (y := .tmp 23) rfl (cx.u 0 rfl) (cx.u 1 rfl)) rfl rfl) <|
   hk (fun cx => cx.v (ex_fa rfl (cx.rq 2 s2_10) (faRS60_2_0 _ _)) rfl rfl) <|
   hk (fun cx => cx.v (ex_ld rfl (cx.u 0 rfl) (cx.rn 0 rfl) rfl Try.isAgg2) rfl rfl) <|
   hk (fun cx => cx.v (ex_fa rfl (cx.rq 3 s3_11) (faRS60_2_0 _ _)) rfl rfl) <|
   hk (fun cx => cx.v (ex_ld rfl (cx.u 0 rfl) (cx.rn 1 rfl) rfl Try.isAgg2) rfl rfl) <|
   hc (fun _ ax _ cx => cx.v (ex_max (x := .tmp 26) (y := .tmp 28) rfl (cx.u 0 rfl) (cx.u 1 rfl)) rfl rfl) <|
   hk (fun cx => cx.v (ex_fa rfl (cx.rq 2 s2_10) (faRS60_3_0 _ _)) rfl rfl) <|
   hk (fun cx => cx.v (ex_ld rfl (cx.u 0 rfl) (cx.rn 0 rfl) rfl Try.isAgg2) rfl rfl) <|
   hk (fun cx => cx.v (ex_fa rfl (cx.rq 3 s3_11) (faRS60_3_0 _ _)) rfl rfl) <|
   hk (fun cx => cx.v (ex_ld rfl (cx.u 0 rfl) (cx.rn 1 rfl) rfl Try.isAgg2) rfl rfl) <|
   hk (fun cx => cx.v (ex_min (x := .tmp 31) (y := .tmp 33) rfl (cx.u 0 rfl) (cx.u 1 rfl)) rfl rfl) <|
   hk (fun cx => cx.v (exec_build rfl (parts4 (cx.u 0 rfl) (cx.u 1 rfl) (cx.u 2 rfl) (cx.u 3 rfl)) (by kernel_rfl)) rfl rfl) <|
   hc (fun _ ax wx cx => cx.c rfl (args1 (cx.u 0 rfl)) Try.func26 (by decide +kernel) (rnarrow_n (max a p) (min b q) (max c r) (min d t) wx HK.out) rfl rfl) <|
   hk (fun cx => cx.v (ex_ext (x := .tmp 36) rfl (cx.u 0 rfl) rfl) rfl rfl) <|
   hk (fun cx => cx.v (ex_ext (x := .tmp 36) rfl (cx.u 0 rfl) rfl) rfl rfl) <|
   hk (fun cx => cx.stR (wn rfl) rfl rfl 2 rfl (cx.rq 4 s4_12) (cx.u 0 rfl) (by kernel_rfl) rfl (by simp [Value.oneCell']) q_g3 rfl ⟨(ne_ptr (pairAt f1.ps 0 2 (by decide) rfl rfl) u_g1 u_g3), (ne_ptr (pairAt f1.ps 1 2 (by decide) rfl rfl) u_g2 u_g3), trivial⟩ trivial) <|
   hk (fun cx => cx.v (ex_as rfl (cx.u 0 rfl)) rfl rfl) <|
   hn) ?_
  intro a7 w7 f7
  refine wp_ret ?_
  have s4_13 := f7.q 4 s4_12
  try simp only [Exit.inBlock, Exit.then]
  refine bodyPost_ret (res_ct (fn := Try.f20) rfl s4_13 (load_row 60 f7.rows.2.2.1 Try.underlying60 rfl (by kernel_rfl)) (f7.v 25 rfl rfl rfl)) f7.d ?_
  have HE : Value.tuple #[.agg (cR ((Rg.nar ⟨⟨max a p, min b q⟩, ⟨max c r, min d t⟩⟩).u.lo) ((Rg.nar ⟨⟨max a p, min b q⟩, ⟨max c r, min d t⟩⟩).u.hi) ((Rg.nar ⟨⟨max a p, min b q⟩, ⟨max c r, min d t⟩⟩).s.lo) ((Rg.nar ⟨⟨max a p, min b q⟩, ⟨max c r, min d t⟩⟩).s.hi)), .bool (Rg.narB ⟨⟨max a p, min b q⟩, ⟨max c r, min d t⟩⟩)] = .tuple #[Rg.val (Rg.meetR ⟨⟨a, b⟩, ⟨c, d⟩⟩ ⟨⟨p, q⟩, ⟨r, t⟩⟩), .bool (Rg.meetB ⟨⟨a, b⟩, ⟨c, d⟩⟩ ⟨⟨p, q⟩, ⟨r, t⟩⟩)] := by unfold Rg.meetR Rg.meetB; rw [Ffk1.out, Ffk2.out]; rfl
  exact ⟨retV HE, f7.b⟩

set_option maxHeartbeats 4000000 in
theorem rlow_n (a b c d : Int) (W : World) : Calls Try.prog 42 #[.agg #[.int .u64 a, .int .u64 b, .int .i64 c, .int .i64 d]] W fun e w' => e = .returned (.agg #[.int .u64 (Rg.low ⟨⟨a, b⟩, ⟨c, d⟩⟩).u.lo, .int .u64 (Rg.low ⟨⟨a, b⟩, ⟨c, d⟩⟩).u.hi, .int .i64 (Rg.low ⟨⟨a, b⟩, ⟨c, d⟩⟩).s.lo, .int .i64 (Rg.low ⟨⟨a, b⟩, ⟨c, d⟩⟩).s.hi]) ∧ Below W.heap.size W w' := by
  have HK : Hid (Rg.Ok ⟨⟨0, 4294967295⟩, ⟨-9223372036854775808, 9223372036854775807⟩⟩) := Lib.hid (by simp only [Rg.Ok, Pr.U, Pr.S]; omega)
  have HL : Hid (Rg.nar ⟨⟨0, 4294967295⟩, ⟨-9223372036854775808, 9223372036854775807⟩⟩ = ⟨low32, low32⟩) := Lib.hid (by decide +kernel)
  have HT : Hid (decide (b ≤ 4294967295) = decide (b < 4294967296)) := Lib.hid (by rw [Bool.eq_iff_iff, decide_eq_true_eq, decide_eq_true_eq]; omega)
  refine calls_abs Try.func42 rfl (Nat.le_of_ble_eq_true rfl) ?_
  intro a0 d0 z0 h0
  replace z0 : a0.tmps.size = 13 := z0
  have s0_0 : a0.tmps.getD 0 undef = .agg (cR a b c d) := h0 0 (Nat.le_of_ble_eq_true rfl)
  refine wp_seq ?_
  refine go_reg [] [⟨0, 1, 60, (cR a b c d), none, #[]⟩, ⟨1, 2, 60, (cR 0 0 0 0), none, #[]⟩] [none, none] mo d0 z0 (Below.refl _ _) (by kernel_rfl) trivial (
   hc (fun _ ax _ cx => cx.al (wn rfl) 0 rfl (by simp [execOp, Act.eval, (show ax.tmps.getD 0 undef = .agg (cR a b c d) from (cx.rq 0 s0_0)), go_sem]) rfl rfl rfl rfl rfl trivial) <|
   hk (fun cx => cx.al (wn rfl) 1 rfl (by simp [execOp, Act.eval, go_sem]) rfl rfl rfl rfl rfl trivial) <|
   hn) ?_
  intro a1 w1 f1
  obtain ⟨g1, u_g1, q_g1, b_g1⟩ := f1.al.1
  obtain ⟨g2, u_g2, q_g2, b_g2⟩ := f1.al.2.1
  refine wp_seq ?_
  refine wp_seq ?_
  cases fk1 : Rg.mayB ⟨⟨a, b⟩, ⟨c, d⟩⟩
  case false =>
   have Ffk1 := Lib.hid fk1; clear fk1
   refine go_reg [bx g1 60 (cR a b c d)] [] [some (.agg (cR a b c d)), some (.bool false), some (.bool false), some (undef), some (undef), some (undef), some (.bool false)] mo f1.d f1.z f1.b (by kernel_rfl) ⟨b_g1, trivial⟩ (
    hk (fun cx => cx.v (ldR rfl (cx.rq 1 u_g1) (cx.rn 0 rfl)) rfl rfl) <|
    hc (fun _ _ wx cx => cx.c rfl (args1 (cx.u 0 rfl)) Try.func28 (by decide +kernel) (rmay_n a b c d wx) rfl (congrArg Value.bool Ffk1.out)) <|
    hk (fun cx => cx.v (ex_mv rfl (cx.u 0 rfl)) rfl rfl) <|
    hk (fun cx => cx.no (cx.wo rfl rfl rfl rfl (cx.u 0 rfl) rfl) rfl rfl rfl rfl) <|
    hk (fun cx => cx.no (cx.wo rfl rfl rfl rfl (cx.u 1 rfl) rfl) rfl rfl rfl rfl) <|
    hk (fun cx => cx.no (cx.wo rfl rfl rfl rfl (cx.u 1 rfl) rfl) rfl rfl rfl rfl) <|
    hk (fun cx => cx.v (ex_pf rfl (cx.u 0 rfl) rfl) rfl rfl) <|
    hn) ?_
   intro a2 w2 f2
   refine wp_cond_false (f2.v 6 rfl rfl rfl) ?_
   refine wp_skip ?_
   refine wp_seq ?_
   have b_g2_1 := f2.k b_g2
   have s2_2 := f2.q 2 u_g2
   refine go_reg [⟨g2, 60, (cR 0 0 0 0), some 2, (cR ((⟨low32, low32⟩ : Rg).u.lo) ((⟨low32, low32⟩ : Rg).u.hi) ((⟨low32, low32⟩ : Rg).s.lo) ((⟨low32, low32⟩ : Rg).s.hi))⟩] [] [some (.agg (cR 0 4294967295 (-9223372036854775808) 9223372036854775807)), some (.agg (cR ((⟨low32, low32⟩ : Rg).u.lo) ((⟨low32, low32⟩ : Rg).u.hi) ((⟨low32, low32⟩ : Rg).s.lo) ((⟨low32, low32⟩ : Rg).s.hi))), none] mo f2.d f2.z f2.b (by kernel_rfl) ⟨b_g2_1, trivial⟩ (
    hk (fun cx => cx.v (exec_build rfl (parts3 rfl rfl rfl) (by kernel_rfl)) rfl rfl) <|
    hc (fun _ _ wx cx => cx.c rfl (args1 (cx.u 0 rfl)) Try.func87 (by decide +kernel) (rnarrowed_n 0 4294967295 (-9223372036854775808) 9223372036854775807 wx HK.out) rfl (congrArg (fun x : Rg => Value.agg #[.int .u64 x.u.lo, .int .u64 x.u.hi, .int .i64 x.s.lo, .int .i64 x.s.hi]) HL.out)) <|
    hk (fun cx => cx.stR (wn rfl) rfl rfl 0 rfl (cx.rq 2 s2_2) (cx.u 0 rfl) (by kernel_rfl) rfl (by simp [Value.oneCell']) q_g2 rfl trivial trivial) <|
    hn) ?_
   intro a3 w3 f3
   refine wp_ret ?_
   have s2_3 := f3.q 2 s2_2
   try simp only [Exit.inBlock, Exit.then]
   refine bodyPost_ret (res_c (fn := Try.f42) rfl s2_3 (load_row 60 f3.rows.1 Try.underlying60 rfl (by kernel_rfl))) f3.d ?_
   have HE : (.agg (cR ((⟨low32, low32⟩ : Rg).u.lo) ((⟨low32, low32⟩ : Rg).u.hi) ((⟨low32, low32⟩ : Rg).s.lo) ((⟨low32, low32⟩ : Rg).s.hi)) : Value) = Rg.val (Rg.low ⟨⟨a, b⟩, ⟨c, d⟩⟩) := by rw [show Rg.low ⟨⟨a, b⟩, ⟨c, d⟩⟩ = (if Rg.mayB ⟨⟨a, b⟩, ⟨c, d⟩⟩ && decide (b ≤ 4294967295) then ⟨⟨a, b⟩, ⟨c, d⟩⟩ else ⟨low32, low32⟩) from rfl, HT.out, Ffk1.out]; rfl
   exact ⟨retV HE, f3.b⟩
  have Ffk1 := Lib.hid fk1; clear fk1
  cases fk2 : decide (b < 4294967296)
  case false =>
   have Ffk2 := Lib.hid fk2; clear fk2
   refine go_reg [bx g1 60 (cR a b c d)] [] [some (.agg (cR a b c d)), some (.bool true), some (.bool true), some (pt g1 1), some (.int .u64 b), some (.bool false), some (.bool false)] mo f1.d f1.z f1.b (by kernel_rfl) ⟨b_g1, trivial⟩ (
    hk (fun cx => cx.v (ldR rfl (cx.rq 1 u_g1) (cx.rn 0 rfl)) rfl rfl) <|
    hc (fun _ _ wx cx => cx.c rfl (args1 (cx.u 0 rfl)) Try.func28 (by decide +kernel) (rmay_n a b c d wx) rfl (congrArg Value.bool Ffk1.out)) <|
    hk (fun cx => cx.v (ex_mv rfl (cx.u 0 rfl)) rfl rfl) <|
    hk (fun cx => cx.val (cx.wy rfl rfl rfl rfl (cx.u 0 rfl)) (ex_fa rfl (cx.rq 1 u_g1) (faRS60_1_0 _ _)) rfl rfl rfl rfl) <|
    hk (fun cx => cx.val (cx.wy rfl rfl rfl rfl (cx.u 1 rfl)) (ex_ld rfl (cx.u 0 rfl) (cx.rn 0 rfl) rfl Try.isAgg30) rfl rfl rfl rfl) <|
    hk (fun cx => cx.val (cx.wy rfl rfl rfl rfl (cx.u 1 rfl)) (ex_lt (x := .tmp 7) rfl (cx.u 0 rfl) rfl) rfl rfl (congrArg Value.bool Ffk2.out) rfl) <|
    hk (fun cx => cx.v (ex_pt rfl (cx.u 0 rfl) (cx.u 1 rfl)) rfl rfl) <|
    hn) ?_
   intro a4 w4 f4
   refine wp_cond_false (f4.v 6 rfl rfl rfl) ?_
   refine wp_skip ?_
   refine wp_seq ?_
   have b_g2_4 := f4.k b_g2
   have s2_5 := f4.q 2 u_g2
   refine go_reg [⟨g2, 60, (cR 0 0 0 0), some 2, (cR ((⟨low32, low32⟩ : Rg).u.lo) ((⟨low32, low32⟩ : Rg).u.hi) ((⟨low32, low32⟩ : Rg).s.lo) ((⟨low32, low32⟩ : Rg).s.hi))⟩] [] [some (.agg (cR 0 4294967295 (-9223372036854775808) 9223372036854775807)), some (.agg (cR ((⟨low32, low32⟩ : Rg).u.lo) ((⟨low32, low32⟩ : Rg).u.hi) ((⟨low32, low32⟩ : Rg).s.lo) ((⟨low32, low32⟩ : Rg).s.hi))), none] mo f4.d f4.z f4.b (by kernel_rfl) ⟨b_g2_4, trivial⟩ (
    hk (fun cx => cx.v (exec_build rfl (parts3 rfl rfl rfl) (by kernel_rfl)) rfl rfl) <|
    hc (fun _ _ wx cx => cx.c rfl (args1 (cx.u 0 rfl)) Try.func87 (by decide +kernel) (rnarrowed_n 0 4294967295 (-9223372036854775808) 9223372036854775807 wx HK.out) rfl (congrArg (fun x : Rg => Value.agg #[.int .u64 x.u.lo, .int .u64 x.u.hi, .int .i64 x.s.lo, .int .i64 x.s.hi]) HL.out)) <|
    hk (fun cx => cx.stR (wn rfl) rfl rfl 0 rfl (cx.rq 2 s2_5) (cx.u 0 rfl) (by kernel_rfl) rfl (by simp [Value.oneCell']) q_g2 rfl trivial trivial) <|
    hn) ?_
   intro a5 w5 f5
   refine wp_ret ?_
   have s2_6 := f5.q 2 s2_5
   try simp only [Exit.inBlock, Exit.then]
   refine bodyPost_ret (res_c (fn := Try.f42) rfl s2_6 (load_row 60 f5.rows.1 Try.underlying60 rfl (by kernel_rfl))) f5.d ?_
   have HE : (.agg (cR ((⟨low32, low32⟩ : Rg).u.lo) ((⟨low32, low32⟩ : Rg).u.hi) ((⟨low32, low32⟩ : Rg).s.lo) ((⟨low32, low32⟩ : Rg).s.hi)) : Value) = Rg.val (Rg.low ⟨⟨a, b⟩, ⟨c, d⟩⟩) := by rw [show Rg.low ⟨⟨a, b⟩, ⟨c, d⟩⟩ = (if Rg.mayB ⟨⟨a, b⟩, ⟨c, d⟩⟩ && decide (b ≤ 4294967295) then ⟨⟨a, b⟩, ⟨c, d⟩⟩ else ⟨low32, low32⟩) from rfl, HT.out, Ffk1.out, Ffk2.out]; rfl
   exact ⟨retV HE, f5.b⟩
  have Ffk2 := Lib.hid fk2; clear fk2
  refine go_reg [bx g1 60 (cR a b c d)] [] [some (.agg (cR a b c d)), some (.bool true), some (.bool true), some (pt g1 1), some (.int .u64 b), some (.bool true), some (.bool true)] mo f1.d f1.z f1.b (by kernel_rfl) ⟨b_g1, trivial⟩ (
   hk (fun cx => cx.v (ldR rfl (cx.rq 1 u_g1) (cx.rn 0 rfl)) rfl rfl) <|
   hc (fun _ _ wx cx => cx.c rfl (args1 (cx.u 0 rfl)) Try.func28 (by decide +kernel) (rmay_n a b c d wx) rfl (congrArg Value.bool Ffk1.out)) <|
   hk (fun cx => cx.v (ex_mv rfl (cx.u 0 rfl)) rfl rfl) <|
   hk (fun cx => cx.val (cx.wy rfl rfl rfl rfl (cx.u 0 rfl)) (ex_fa rfl (cx.rq 1 u_g1) (faRS60_1_0 _ _)) rfl rfl rfl rfl) <|
   hk (fun cx => cx.val (cx.wy rfl rfl rfl rfl (cx.u 1 rfl)) (ex_ld rfl (cx.u 0 rfl) (cx.rn 0 rfl) rfl Try.isAgg30) rfl rfl rfl rfl) <|
   hk (fun cx => cx.val (cx.wy rfl rfl rfl rfl (cx.u 1 rfl)) (ex_lt (x := .tmp 7) rfl (cx.u 0 rfl) rfl) rfl rfl (congrArg Value.bool Ffk2.out) rfl) <|
   hk (fun cx => cx.v (ex_pt rfl (cx.u 0 rfl) (cx.u 1 rfl)) rfl rfl) <|
   hn) ?_
  intro a6 w6 f6
  refine wp_cond_true (f6.v 6 rfl rfl rfl) ?_
  refine wp_seq ?_
  have b_g1_7 := f6.k b_g1
  have b_g2_8 := f6.k b_g2
  have s1_9 := f6.q 1 u_g1
  have s2_10 := f6.q 2 u_g2
  refine go_reg [bx g1 60 (cR a b c d), ⟨g2, 60, (cR 0 0 0 0), some 1, (cR a b c d)⟩] [] [some (.agg (cR a b c d)), none] mo f6.d f6.z f6.b (by kernel_rfl) ⟨b_g1_7, b_g2_8, trivial⟩ (
   hk (fun cx => cx.v (ldR rfl (cx.rq 1 s1_9) (cx.rn 0 rfl)) rfl rfl) <|
   hk (fun cx => cx.stR (wn rfl) rfl rfl 1 rfl (cx.rq 2 s2_10) (cx.u 0 rfl) (by kernel_rfl) rfl (by simp [Value.oneCell']) q_g2 rfl ⟨(ne_ptr (pairAt f1.ps 0 1 (by decide) rfl rfl) u_g1 u_g2), trivial⟩ trivial) <|
   hn) ?_
  intro a7 w7 f7
  refine wp_ret ?_
  have s2_11 := f7.q 2 s2_10
  try simp only [Exit.inBlock, Exit.then]
  refine bodyPost_ret (res_c (fn := Try.f42) rfl s2_11 (load_row 60 f7.rows.2.1 Try.underlying60 rfl (by kernel_rfl))) f7.d ?_
  have HE : (.agg (cR a b c d) : Value) = Rg.val (Rg.low ⟨⟨a, b⟩, ⟨c, d⟩⟩) := by rw [show Rg.low ⟨⟨a, b⟩, ⟨c, d⟩⟩ = (if Rg.mayB ⟨⟨a, b⟩, ⟨c, d⟩⟩ && decide (b ≤ 4294967295) then ⟨⟨a, b⟩, ⟨c, d⟩⟩ else ⟨low32, low32⟩) from rfl, HT.out, Ffk1.out, Ffk2.out]; rfl
  exact ⟨retV HE, f7.b⟩

set_option maxHeartbeats 4000000 in
theorem rplus_n (a b : Int) (W : World) (ha : inS a) (hb : inS b) : Calls Try.prog 88 #[.int .i64 a, .int .i64 b] W fun e w' => e = .returned (.tuple #[.int .i64 (IntKind.i64.wrap (a + b)), .bool (sumS a b)]) ∧ Below W.heap.size W w' := by
  have HA := Lib.hid ha
  have HB := Lib.hid hb
  clear ha hb
  refine calls_abs Try.func88 rfl (Nat.le_of_ble_eq_true rfl) ?_
  intro a0 d0 z0 h0
  replace z0 : a0.tmps.size = 23 := z0
  have s0_0 : a0.tmps.getD 0 undef = .int .i64 a := h0 0 (Nat.le_of_ble_eq_true rfl)
  have s1_0 : a0.tmps.getD 1 undef = .int .i64 b := h0 1 (Nat.le_of_ble_eq_true rfl)
  refine wp_seq ?_
  refine go_reg [] [] [some (.int .i64 0), some (.bool false)] mo d0 z0 (Below.refl _ _) (by kernel_rfl) trivial (
   hk (fun cx => cx.v (ex_as rfl rfl) rfl rfl) <|
   hk (fun cx => cx.v (ex_as rfl rfl) rfl rfl) <|
   hn) ?_
  intro a1 w1 f1
  refine wp_seq ?_
  have s0_1 := f1.q 0 s0_0
  have s1_2 := f1.q 1 s1_0
  refine go_reg [] [] [some (.int .i64 a), some (.int .i64 b), some (.int .i64 (IntKind.i64.wrap (a + b))), some (.int .i64 (IntKind.i64.wrap (a + b)))] mo f1.d f1.z f1.b (by kernel_rfl) trivial (
   hk (fun cx => cx.v (ex_mv rfl (cx.rq 0 s0_1)) rfl rfl) <|
   hk (fun cx => cx.v (ex_mv rfl (cx.rq 1 s1_2)) rfl rfl) <|
   hk (fun cx => cx.v (ex_add (x := .tmp 7) (y := .tmp 8) rfl (cx.u 0 rfl) (cx.u 1 rfl)) rfl rfl) <|
   hk (fun cx => cx.v (ex_as rfl (cx.u 0 rfl)) rfl rfl) <|
   hn) ?_
  intro a2 w2 f2
  refine wp_seq ?_
  cases fk1 : decide (a < 0)
  case false =>
   have Ffk1 := Lib.hid fk1; clear fk1
   cases fk2 : decide (b < 0)
   case false =>
    have Ffk2 := Lib.hid fk2; clear fk2
    cases fk3 : decide ((IntKind.i64.wrap (a + b)) < 0)
    case false =>
     have Ffk3 := Lib.hid fk3; clear fk3
     have s0_3 := f2.q 0 s0_1
     have s1_4 := f2.q 1 s1_2
     refine go_reg [] [] [some (.int .i64 (IntKind.i64.wrap (a + b))), some (.int .i64 a), some (.bool false), some (.int .i64 b), some (.bool false), some (.bool false), some (.bool false), some (.int .i64 (IntKind.i64.wrap (a + b))), some (.bool false), some (.int .i64 a), some (.bool false), some (.bool true), some (.bool true), some (.int .i64 (IntKind.i64.wrap (a + b))), some (.bool true)] mo f2.d f2.z f2.b (by kernel_rfl) trivial (
      hk (fun cx => cx.v (ex_mv rfl (cx.rq 6 (f2.v 3 rfl rfl rfl))) rfl rfl) <|
      hk (fun cx => cx.v (ex_mv rfl (cx.rq 0 s0_3)) rfl rfl) <|
      hk (fun cx => cx.v (ex_lt (x := .tmp 11) rfl (cx.u 0 rfl) rfl) rfl (congrArg Value.bool Ffk1.out)) <|
      hk (fun cx => cx.v (ex_mv rfl (cx.rq 1 s1_4)) rfl rfl) <|
      hk (fun cx => cx.v (ex_lt (x := .tmp 13) rfl (cx.u 0 rfl) rfl) rfl (congrArg Value.bool Ffk2.out)) <|
      hc (fun _ ax _ cx => cx.v (by simp [execOp, Act.eval, (show ax.tmps.getD 12 undef = .bool false from (cx.u 0 rfl)), (show ax.tmps.getD 14 undef = .bool false from (cx.u 1 rfl)), go_sem]) rfl rfl) <|
      hk (fun cx => cx.v (ex_mv rfl (cx.u 0 rfl)) rfl rfl) <|
      hk (fun cx => cx.val (cx.wy rfl rfl rfl rfl (cx.u 0 rfl)) (ex_mv rfl (cx.rq 6 (f2.v 3 rfl rfl rfl))) rfl rfl rfl rfl) <|
      hk (fun cx => cx.val (cx.wy rfl rfl rfl rfl (cx.u 1 rfl)) (ex_lt (x := .tmp 17) rfl (cx.u 0 rfl) rfl) rfl rfl (congrArg Value.bool Ffk3.out) rfl) <|
      hk (fun cx => cx.val (cx.wy rfl rfl rfl rfl (cx.u 0 rfl)) (ex_mv rfl (cx.rq 0 s0_3)) rfl rfl rfl rfl) <|
      hk (fun cx => cx.val (cx.wy rfl rfl rfl rfl (cx.u 1 rfl)) (ex_lt (x := .tmp 19) rfl (cx.u 0 rfl) rfl) rfl rfl (congrArg Value.bool Ffk1.out) rfl) <|
      hc (fun _ ax _ cx => cx.val (cx.wy rfl rfl rfl rfl (cx.u 2 rfl)) (by simp [execOp, Act.eval, (show ax.tmps.getD 18 undef = .bool false from (cx.u 0 rfl)), (show ax.tmps.getD 20 undef = .bool false from (cx.u 1 rfl)), go_sem]) rfl rfl rfl rfl) <|
      hk (fun cx => cx.v (ex_pf rfl (cx.u 0 rfl) (cx.u 1 rfl)) rfl rfl) <|
      hk (fun cx => cx.v (ex_as rfl (cx.u 0 rfl)) rfl rfl) <|
      hk (fun cx => cx.v (ex_as rfl (cx.u 0 rfl)) rfl rfl) <|
      hn) ?_
     intro a3 w3 f3
     refine wp_ret ?_
     try simp only [Exit.inBlock, Exit.then]
     refine bodyPost_ret (res_tt (fn := Try.f88) rfl (f3.v 13 rfl rfl rfl) (f3.v 14 rfl rfl rfl)) f3.d ?_
     have HF : sumS a b = true := by
       have h0 := Ffk1.out
       have h1 := Ffk2.out
       have h2 := Ffk3.out
       have ha := HA.out
       have hb := HB.out
       unfold inS at ha hb
       unfold sumS
       simp only [decide_eq_true_eq, decide_eq_false_iff_not, IntKind.wrap_i64] at *
       unfold inS
       omega
     have HE : Value.tuple #[.int .i64 (IntKind.i64.wrap (a + b)), .bool true] = .tuple #[.int .i64 (IntKind.i64.wrap (a + b)), .bool (sumS a b)] := by rw [HF]
     exact ⟨retV HE, f3.b⟩
    have Ffk3 := Lib.hid fk3; clear fk3
    have s0_5 := f2.q 0 s0_1
    have s1_6 := f2.q 1 s1_2
    refine go_reg [] [] [some (.int .i64 (IntKind.i64.wrap (a + b))), some (.int .i64 a), some (.bool false), some (.int .i64 b), some (.bool false), some (.bool false), some (.bool false), some (.int .i64 (IntKind.i64.wrap (a + b))), some (.bool true), some (.int .i64 a), some (.bool false), some (.bool false), some (.bool false), some (.int .i64 (IntKind.i64.wrap (a + b))), some (.bool false)] mo f2.d f2.z f2.b (by kernel_rfl) trivial (
     hk (fun cx => cx.v (ex_mv rfl (cx.rq 6 (f2.v 3 rfl rfl rfl))) rfl rfl) <|
     hk (fun cx => cx.v (ex_mv rfl (cx.rq 0 s0_5)) rfl rfl) <|
     hk (fun cx => cx.v (ex_lt (x := .tmp 11) rfl (cx.u 0 rfl) rfl) rfl (congrArg Value.bool Ffk1.out)) <|
     hk (fun cx => cx.v (ex_mv rfl (cx.rq 1 s1_6)) rfl rfl) <|
     hk (fun cx => cx.v (ex_lt (x := .tmp 13) rfl (cx.u 0 rfl) rfl) rfl (congrArg Value.bool Ffk2.out)) <|
     hc (fun _ ax _ cx => cx.v (by simp [execOp, Act.eval, (show ax.tmps.getD 12 undef = .bool false from (cx.u 0 rfl)), (show ax.tmps.getD 14 undef = .bool false from (cx.u 1 rfl)), go_sem]) rfl rfl) <|
     hk (fun cx => cx.v (ex_mv rfl (cx.u 0 rfl)) rfl rfl) <|
     hk (fun cx => cx.val (cx.wy rfl rfl rfl rfl (cx.u 0 rfl)) (ex_mv rfl (cx.rq 6 (f2.v 3 rfl rfl rfl))) rfl rfl rfl rfl) <|
     hk (fun cx => cx.val (cx.wy rfl rfl rfl rfl (cx.u 1 rfl)) (ex_lt (x := .tmp 17) rfl (cx.u 0 rfl) rfl) rfl rfl (congrArg Value.bool Ffk3.out) rfl) <|
     hk (fun cx => cx.val (cx.wy rfl rfl rfl rfl (cx.u 0 rfl)) (ex_mv rfl (cx.rq 0 s0_5)) rfl rfl rfl rfl) <|
     hk (fun cx => cx.val (cx.wy rfl rfl rfl rfl (cx.u 1 rfl)) (ex_lt (x := .tmp 19) rfl (cx.u 0 rfl) rfl) rfl rfl (congrArg Value.bool Ffk1.out) rfl) <|
     hc (fun _ ax _ cx => cx.val (cx.wy rfl rfl rfl rfl (cx.u 2 rfl)) (by simp [execOp, Act.eval, (show ax.tmps.getD 18 undef = .bool true from (cx.u 0 rfl)), (show ax.tmps.getD 20 undef = .bool false from (cx.u 1 rfl)), go_sem]) rfl rfl rfl rfl) <|
     hk (fun cx => cx.v (ex_pf rfl (cx.u 0 rfl) (cx.u 1 rfl)) rfl rfl) <|
     hk (fun cx => cx.v (ex_as rfl (cx.u 0 rfl)) rfl rfl) <|
     hk (fun cx => cx.v (ex_as rfl (cx.u 0 rfl)) rfl rfl) <|
     hn) ?_
    intro a4 w4 f4
    refine wp_ret ?_
    try simp only [Exit.inBlock, Exit.then]
    refine bodyPost_ret (res_tt (fn := Try.f88) rfl (f4.v 13 rfl rfl rfl) (f4.v 14 rfl rfl rfl)) f4.d ?_
    have HF : sumS a b = false := by
      have h0 := Ffk1.out
      have h1 := Ffk2.out
      have h2 := Ffk3.out
      have ha := HA.out
      have hb := HB.out
      unfold inS at ha hb
      unfold sumS
      simp only [decide_eq_true_eq, decide_eq_false_iff_not, IntKind.wrap_i64] at *
      unfold inS
      omega
    have HE : Value.tuple #[.int .i64 (IntKind.i64.wrap (a + b)), .bool false] = .tuple #[.int .i64 (IntKind.i64.wrap (a + b)), .bool (sumS a b)] := by rw [HF]
    exact ⟨retV HE, f4.b⟩
   have Ffk2 := Lib.hid fk2; clear fk2
   have s0_7 := f2.q 0 s0_1
   have s1_8 := f2.q 1 s1_2
   refine go_reg [] [] [some (.int .i64 (IntKind.i64.wrap (a + b))), some (.int .i64 a), some (.bool false), some (.int .i64 b), some (.bool true), some (.bool true), some (.bool true), some (undef), some (undef), some (undef), some (undef), some (undef), some (.bool true), some (.int .i64 (IntKind.i64.wrap (a + b))), some (.bool true)] mo f2.d f2.z f2.b (by kernel_rfl) trivial (
    hk (fun cx => cx.v (ex_mv rfl (cx.rq 6 (f2.v 3 rfl rfl rfl))) rfl rfl) <|
    hk (fun cx => cx.v (ex_mv rfl (cx.rq 0 s0_7)) rfl rfl) <|
    hk (fun cx => cx.v (ex_lt (x := .tmp 11) rfl (cx.u 0 rfl) rfl) rfl (congrArg Value.bool Ffk1.out)) <|
    hk (fun cx => cx.v (ex_mv rfl (cx.rq 1 s1_8)) rfl rfl) <|
    hk (fun cx => cx.v (ex_lt (x := .tmp 13) rfl (cx.u 0 rfl) rfl) rfl (congrArg Value.bool Ffk2.out)) <|
    hc (fun _ ax _ cx => cx.v (by simp [execOp, Act.eval, (show ax.tmps.getD 12 undef = .bool false from (cx.u 0 rfl)), (show ax.tmps.getD 14 undef = .bool true from (cx.u 1 rfl)), go_sem]) rfl rfl) <|
    hk (fun cx => cx.v (ex_mv rfl (cx.u 0 rfl)) rfl rfl) <|
    hk (fun cx => cx.no (cx.wo rfl rfl rfl rfl (cx.u 0 rfl) rfl) rfl rfl rfl rfl) <|
    hk (fun cx => cx.no (cx.wo rfl rfl rfl rfl (cx.u 1 rfl) rfl) rfl rfl rfl rfl) <|
    hk (fun cx => cx.no (cx.wo rfl rfl rfl rfl (cx.u 0 rfl) rfl) rfl rfl rfl rfl) <|
    hk (fun cx => cx.no (cx.wo rfl rfl rfl rfl (cx.u 1 rfl) rfl) rfl rfl rfl rfl) <|
    hk (fun cx => cx.no (cx.wo rfl rfl rfl rfl (cx.u 2 rfl) rfl) rfl rfl rfl rfl) <|
    hk (fun cx => cx.v (ex_pt rfl (cx.u 0 rfl) rfl) rfl rfl) <|
    hk (fun cx => cx.v (ex_as rfl (cx.u 0 rfl)) rfl rfl) <|
    hk (fun cx => cx.v (ex_as rfl (cx.u 0 rfl)) rfl rfl) <|
    hn) ?_
   intro a5 w5 f5
   refine wp_ret ?_
   try simp only [Exit.inBlock, Exit.then]
   refine bodyPost_ret (res_tt (fn := Try.f88) rfl (f5.v 13 rfl rfl rfl) (f5.v 14 rfl rfl rfl)) f5.d ?_
   have HF : sumS a b = true := by
     have h0 := Ffk1.out
     have h1 := Ffk2.out
     have ha := HA.out
     have hb := HB.out
     unfold inS at ha hb
     unfold sumS
     simp only [decide_eq_true_eq, decide_eq_false_iff_not, IntKind.wrap_i64] at *
     unfold inS
     omega
   have HE : Value.tuple #[.int .i64 (IntKind.i64.wrap (a + b)), .bool true] = .tuple #[.int .i64 (IntKind.i64.wrap (a + b)), .bool (sumS a b)] := by rw [HF]
   exact ⟨retV HE, f5.b⟩
  have Ffk1 := Lib.hid fk1; clear fk1
  cases fk4 : decide (b < 0)
  case false =>
   have Ffk4 := Lib.hid fk4; clear fk4
   have s0_9 := f2.q 0 s0_1
   have s1_10 := f2.q 1 s1_2
   refine go_reg [] [] [some (.int .i64 (IntKind.i64.wrap (a + b))), some (.int .i64 a), some (.bool true), some (.int .i64 b), some (.bool false), some (.bool true), some (.bool true), some (undef), some (undef), some (undef), some (undef), some (undef), some (.bool true), some (.int .i64 (IntKind.i64.wrap (a + b))), some (.bool true)] mo f2.d f2.z f2.b (by kernel_rfl) trivial (
    hk (fun cx => cx.v (ex_mv rfl (cx.rq 6 (f2.v 3 rfl rfl rfl))) rfl rfl) <|
    hk (fun cx => cx.v (ex_mv rfl (cx.rq 0 s0_9)) rfl rfl) <|
    hk (fun cx => cx.v (ex_lt (x := .tmp 11) rfl (cx.u 0 rfl) rfl) rfl (congrArg Value.bool Ffk1.out)) <|
    hk (fun cx => cx.v (ex_mv rfl (cx.rq 1 s1_10)) rfl rfl) <|
    hk (fun cx => cx.v (ex_lt (x := .tmp 13) rfl (cx.u 0 rfl) rfl) rfl (congrArg Value.bool Ffk4.out)) <|
    hc (fun _ ax _ cx => cx.v (by simp [execOp, Act.eval, (show ax.tmps.getD 12 undef = .bool true from (cx.u 0 rfl)), (show ax.tmps.getD 14 undef = .bool false from (cx.u 1 rfl)), go_sem]) rfl rfl) <|
    hk (fun cx => cx.v (ex_mv rfl (cx.u 0 rfl)) rfl rfl) <|
    hk (fun cx => cx.no (cx.wo rfl rfl rfl rfl (cx.u 0 rfl) rfl) rfl rfl rfl rfl) <|
    hk (fun cx => cx.no (cx.wo rfl rfl rfl rfl (cx.u 1 rfl) rfl) rfl rfl rfl rfl) <|
    hk (fun cx => cx.no (cx.wo rfl rfl rfl rfl (cx.u 0 rfl) rfl) rfl rfl rfl rfl) <|
    hk (fun cx => cx.no (cx.wo rfl rfl rfl rfl (cx.u 1 rfl) rfl) rfl rfl rfl rfl) <|
    hk (fun cx => cx.no (cx.wo rfl rfl rfl rfl (cx.u 2 rfl) rfl) rfl rfl rfl rfl) <|
    hk (fun cx => cx.v (ex_pt rfl (cx.u 0 rfl) rfl) rfl rfl) <|
    hk (fun cx => cx.v (ex_as rfl (cx.u 0 rfl)) rfl rfl) <|
    hk (fun cx => cx.v (ex_as rfl (cx.u 0 rfl)) rfl rfl) <|
    hn) ?_
   intro a6 w6 f6
   refine wp_ret ?_
   try simp only [Exit.inBlock, Exit.then]
   refine bodyPost_ret (res_tt (fn := Try.f88) rfl (f6.v 13 rfl rfl rfl) (f6.v 14 rfl rfl rfl)) f6.d ?_
   have HF : sumS a b = true := by
     have h0 := Ffk1.out
     have h1 := Ffk4.out
     have ha := HA.out
     have hb := HB.out
     unfold inS at ha hb
     unfold sumS
     simp only [decide_eq_true_eq, decide_eq_false_iff_not, IntKind.wrap_i64] at *
     unfold inS
     omega
   have HE : Value.tuple #[.int .i64 (IntKind.i64.wrap (a + b)), .bool true] = .tuple #[.int .i64 (IntKind.i64.wrap (a + b)), .bool (sumS a b)] := by rw [HF]
   exact ⟨retV HE, f6.b⟩
  have Ffk4 := Lib.hid fk4; clear fk4
  cases fk5 : decide ((IntKind.i64.wrap (a + b)) < 0)
  case false =>
   have Ffk5 := Lib.hid fk5; clear fk5
   have s0_11 := f2.q 0 s0_1
   have s1_12 := f2.q 1 s1_2
   refine go_reg [] [] [some (.int .i64 (IntKind.i64.wrap (a + b))), some (.int .i64 a), some (.bool true), some (.int .i64 b), some (.bool true), some (.bool false), some (.bool false), some (.int .i64 (IntKind.i64.wrap (a + b))), some (.bool false), some (.int .i64 a), some (.bool true), some (.bool false), some (.bool false), some (.int .i64 (IntKind.i64.wrap (a + b))), some (.bool false)] mo f2.d f2.z f2.b (by kernel_rfl) trivial (
    hk (fun cx => cx.v (ex_mv rfl (cx.rq 6 (f2.v 3 rfl rfl rfl))) rfl rfl) <|
    hk (fun cx => cx.v (ex_mv rfl (cx.rq 0 s0_11)) rfl rfl) <|
    hk (fun cx => cx.v (ex_lt (x := .tmp 11) rfl (cx.u 0 rfl) rfl) rfl (congrArg Value.bool Ffk1.out)) <|
    hk (fun cx => cx.v (ex_mv rfl (cx.rq 1 s1_12)) rfl rfl) <|
    hk (fun cx => cx.v (ex_lt (x := .tmp 13) rfl (cx.u 0 rfl) rfl) rfl (congrArg Value.bool Ffk4.out)) <|
    hc (fun _ ax _ cx => cx.v (by simp [execOp, Act.eval, (show ax.tmps.getD 12 undef = .bool true from (cx.u 0 rfl)), (show ax.tmps.getD 14 undef = .bool true from (cx.u 1 rfl)), go_sem]) rfl rfl) <|
    hk (fun cx => cx.v (ex_mv rfl (cx.u 0 rfl)) rfl rfl) <|
    hk (fun cx => cx.val (cx.wy rfl rfl rfl rfl (cx.u 0 rfl)) (ex_mv rfl (cx.rq 6 (f2.v 3 rfl rfl rfl))) rfl rfl rfl rfl) <|
    hk (fun cx => cx.val (cx.wy rfl rfl rfl rfl (cx.u 1 rfl)) (ex_lt (x := .tmp 17) rfl (cx.u 0 rfl) rfl) rfl rfl (congrArg Value.bool Ffk5.out) rfl) <|
    hk (fun cx => cx.val (cx.wy rfl rfl rfl rfl (cx.u 0 rfl)) (ex_mv rfl (cx.rq 0 s0_11)) rfl rfl rfl rfl) <|
    hk (fun cx => cx.val (cx.wy rfl rfl rfl rfl (cx.u 1 rfl)) (ex_lt (x := .tmp 19) rfl (cx.u 0 rfl) rfl) rfl rfl (congrArg Value.bool Ffk1.out) rfl) <|
    hc (fun _ ax _ cx => cx.val (cx.wy rfl rfl rfl rfl (cx.u 2 rfl)) (by simp [execOp, Act.eval, (show ax.tmps.getD 18 undef = .bool false from (cx.u 0 rfl)), (show ax.tmps.getD 20 undef = .bool true from (cx.u 1 rfl)), go_sem]) rfl rfl rfl rfl) <|
    hk (fun cx => cx.v (ex_pf rfl (cx.u 0 rfl) (cx.u 1 rfl)) rfl rfl) <|
    hk (fun cx => cx.v (ex_as rfl (cx.u 0 rfl)) rfl rfl) <|
    hk (fun cx => cx.v (ex_as rfl (cx.u 0 rfl)) rfl rfl) <|
    hn) ?_
   intro a7 w7 f7
   refine wp_ret ?_
   try simp only [Exit.inBlock, Exit.then]
   refine bodyPost_ret (res_tt (fn := Try.f88) rfl (f7.v 13 rfl rfl rfl) (f7.v 14 rfl rfl rfl)) f7.d ?_
   have HF : sumS a b = false := by
     have h0 := Ffk1.out
     have h1 := Ffk4.out
     have h2 := Ffk5.out
     have ha := HA.out
     have hb := HB.out
     unfold inS at ha hb
     unfold sumS
     simp only [decide_eq_true_eq, decide_eq_false_iff_not, IntKind.wrap_i64] at *
     unfold inS
     omega
   have HE : Value.tuple #[.int .i64 (IntKind.i64.wrap (a + b)), .bool false] = .tuple #[.int .i64 (IntKind.i64.wrap (a + b)), .bool (sumS a b)] := by rw [HF]
   exact ⟨retV HE, f7.b⟩
  have Ffk5 := Lib.hid fk5; clear fk5
  have s0_13 := f2.q 0 s0_1
  have s1_14 := f2.q 1 s1_2
  refine go_reg [] [] [some (.int .i64 (IntKind.i64.wrap (a + b))), some (.int .i64 a), some (.bool true), some (.int .i64 b), some (.bool true), some (.bool false), some (.bool false), some (.int .i64 (IntKind.i64.wrap (a + b))), some (.bool true), some (.int .i64 a), some (.bool true), some (.bool true), some (.bool true), some (.int .i64 (IntKind.i64.wrap (a + b))), some (.bool true)] mo f2.d f2.z f2.b (by kernel_rfl) trivial (
   hk (fun cx => cx.v (ex_mv rfl (cx.rq 6 (f2.v 3 rfl rfl rfl))) rfl rfl) <|
   hk (fun cx => cx.v (ex_mv rfl (cx.rq 0 s0_13)) rfl rfl) <|
   hk (fun cx => cx.v (ex_lt (x := .tmp 11) rfl (cx.u 0 rfl) rfl) rfl (congrArg Value.bool Ffk1.out)) <|
   hk (fun cx => cx.v (ex_mv rfl (cx.rq 1 s1_14)) rfl rfl) <|
   hk (fun cx => cx.v (ex_lt (x := .tmp 13) rfl (cx.u 0 rfl) rfl) rfl (congrArg Value.bool Ffk4.out)) <|
   hc (fun _ ax _ cx => cx.v (by simp [execOp, Act.eval, (show ax.tmps.getD 12 undef = .bool true from (cx.u 0 rfl)), (show ax.tmps.getD 14 undef = .bool true from (cx.u 1 rfl)), go_sem]) rfl rfl) <|
   hk (fun cx => cx.v (ex_mv rfl (cx.u 0 rfl)) rfl rfl) <|
   hk (fun cx => cx.val (cx.wy rfl rfl rfl rfl (cx.u 0 rfl)) (ex_mv rfl (cx.rq 6 (f2.v 3 rfl rfl rfl))) rfl rfl rfl rfl) <|
   hk (fun cx => cx.val (cx.wy rfl rfl rfl rfl (cx.u 1 rfl)) (ex_lt (x := .tmp 17) rfl (cx.u 0 rfl) rfl) rfl rfl (congrArg Value.bool Ffk5.out) rfl) <|
   hk (fun cx => cx.val (cx.wy rfl rfl rfl rfl (cx.u 0 rfl)) (ex_mv rfl (cx.rq 0 s0_13)) rfl rfl rfl rfl) <|
   hk (fun cx => cx.val (cx.wy rfl rfl rfl rfl (cx.u 1 rfl)) (ex_lt (x := .tmp 19) rfl (cx.u 0 rfl) rfl) rfl rfl (congrArg Value.bool Ffk1.out) rfl) <|
   hc (fun _ ax _ cx => cx.val (cx.wy rfl rfl rfl rfl (cx.u 2 rfl)) (by simp [execOp, Act.eval, (show ax.tmps.getD 18 undef = .bool true from (cx.u 0 rfl)), (show ax.tmps.getD 20 undef = .bool true from (cx.u 1 rfl)), go_sem]) rfl rfl rfl rfl) <|
   hk (fun cx => cx.v (ex_pf rfl (cx.u 0 rfl) (cx.u 1 rfl)) rfl rfl) <|
   hk (fun cx => cx.v (ex_as rfl (cx.u 0 rfl)) rfl rfl) <|
   hk (fun cx => cx.v (ex_as rfl (cx.u 0 rfl)) rfl rfl) <|
   hn) ?_
  intro a8 w8 f8
  refine wp_ret ?_
  try simp only [Exit.inBlock, Exit.then]
  refine bodyPost_ret (res_tt (fn := Try.f88) rfl (f8.v 13 rfl rfl rfl) (f8.v 14 rfl rfl rfl)) f8.d ?_
  have HF : sumS a b = true := by
    have h0 := Ffk1.out
    have h1 := Ffk4.out
    have h2 := Ffk5.out
    have ha := HA.out
    have hb := HB.out
    unfold inS at ha hb
    unfold sumS
    simp only [decide_eq_true_eq, decide_eq_false_iff_not, IntKind.wrap_i64] at *
    unfold inS
    omega
  have HE : Value.tuple #[.int .i64 (IntKind.i64.wrap (a + b)), .bool true] = .tuple #[.int .i64 (IntKind.i64.wrap (a + b)), .bool (sumS a b)] := by rw [HF]
  exact ⟨retV HE, f8.b⟩

set_option maxHeartbeats 4000000 in
theorem rminus_n (a b : Int) (W : World) (ha : inS a) (hb : inS b) : Calls Try.prog 89 #[.int .i64 a, .int .i64 b] W fun e w' => e = .returned (.tuple #[.int .i64 (IntKind.i64.wrap (a - b)), .bool (difS a b)]) ∧ Below W.heap.size W w' := by
  have HA := Lib.hid ha
  have HB := Lib.hid hb
  clear ha hb
  refine calls_abs Try.func89 rfl (Nat.le_of_ble_eq_true rfl) ?_
  intro a0 d0 z0 h0
  replace z0 : a0.tmps.size = 23 := z0
  have s0_0 : a0.tmps.getD 0 undef = .int .i64 a := h0 0 (Nat.le_of_ble_eq_true rfl)
  have s1_0 : a0.tmps.getD 1 undef = .int .i64 b := h0 1 (Nat.le_of_ble_eq_true rfl)
  refine wp_seq ?_
  refine go_reg [] [] [some (.int .i64 0), some (.bool false)] mo d0 z0 (Below.refl _ _) (by kernel_rfl) trivial (
   hk (fun cx => cx.v (ex_as rfl rfl) rfl rfl) <|
   hk (fun cx => cx.v (ex_as rfl rfl) rfl rfl) <|
   hn) ?_
  intro a1 w1 f1
  refine wp_seq ?_
  have s0_1 := f1.q 0 s0_0
  have s1_2 := f1.q 1 s1_0
  refine go_reg [] [] [some (.int .i64 a), some (.int .i64 b), some (.int .i64 (IntKind.i64.wrap (a - b))), some (.int .i64 (IntKind.i64.wrap (a - b)))] mo f1.d f1.z f1.b (by kernel_rfl) trivial (
   hk (fun cx => cx.v (ex_mv rfl (cx.rq 0 s0_1)) rfl rfl) <|
   hk (fun cx => cx.v (ex_mv rfl (cx.rq 1 s1_2)) rfl rfl) <|
   hk (fun cx => cx.v (ex_sub (x := .tmp 7) (y := .tmp 8) rfl (cx.u 0 rfl) (cx.u 1 rfl)) rfl rfl) <|
   hk (fun cx => cx.v (ex_as rfl (cx.u 0 rfl)) rfl rfl) <|
   hn) ?_
  intro a2 w2 f2
  refine wp_seq ?_
  cases fk1 : decide (a < 0)
  case false =>
   have Ffk1 := Lib.hid fk1; clear fk1
   cases fk2 : decide (b < 0)
   case false =>
    have Ffk2 := Lib.hid fk2; clear fk2
    have s0_3 := f2.q 0 s0_1
    have s1_4 := f2.q 1 s1_2
    refine go_reg [] [] [some (.int .i64 (IntKind.i64.wrap (a - b))), some (.int .i64 a), some (.bool false), some (.int .i64 b), some (.bool false), some (.bool true), some (.bool true), some (undef), some (undef), some (undef), some (undef), some (undef), some (.bool true), some (.int .i64 (IntKind.i64.wrap (a - b))), some (.bool true)] mo f2.d f2.z f2.b (by kernel_rfl) trivial (
     hk (fun cx => cx.v (ex_mv rfl (cx.rq 6 (f2.v 3 rfl rfl rfl))) rfl rfl) <|
     hk (fun cx => cx.v (ex_mv rfl (cx.rq 0 s0_3)) rfl rfl) <|
     hk (fun cx => cx.v (ex_lt (x := .tmp 11) rfl (cx.u 0 rfl) rfl) rfl (congrArg Value.bool Ffk1.out)) <|
     hk (fun cx => cx.v (ex_mv rfl (cx.rq 1 s1_4)) rfl rfl) <|
     hk (fun cx => cx.v (ex_lt (x := .tmp 13) rfl (cx.u 0 rfl) rfl) rfl (congrArg Value.bool Ffk2.out)) <|
     hc (fun _ ax _ cx => cx.v (by simp [execOp, Act.eval, (show ax.tmps.getD 12 undef = .bool false from (cx.u 0 rfl)), (show ax.tmps.getD 14 undef = .bool false from (cx.u 1 rfl)), go_sem]) rfl rfl) <|
     hk (fun cx => cx.v (ex_mv rfl (cx.u 0 rfl)) rfl rfl) <|
     hk (fun cx => cx.no (cx.wo rfl rfl rfl rfl (cx.u 0 rfl) rfl) rfl rfl rfl rfl) <|
     hk (fun cx => cx.no (cx.wo rfl rfl rfl rfl (cx.u 1 rfl) rfl) rfl rfl rfl rfl) <|
     hk (fun cx => cx.no (cx.wo rfl rfl rfl rfl (cx.u 0 rfl) rfl) rfl rfl rfl rfl) <|
     hk (fun cx => cx.no (cx.wo rfl rfl rfl rfl (cx.u 1 rfl) rfl) rfl rfl rfl rfl) <|
     hk (fun cx => cx.no (cx.wo rfl rfl rfl rfl (cx.u 2 rfl) rfl) rfl rfl rfl rfl) <|
     hk (fun cx => cx.v (ex_pt rfl (cx.u 0 rfl) rfl) rfl rfl) <|
     hk (fun cx => cx.v (ex_as rfl (cx.u 0 rfl)) rfl rfl) <|
     hk (fun cx => cx.v (ex_as rfl (cx.u 0 rfl)) rfl rfl) <|
     hn) ?_
    intro a3 w3 f3
    refine wp_ret ?_
    try simp only [Exit.inBlock, Exit.then]
    refine bodyPost_ret (res_tt (fn := Try.f89) rfl (f3.v 13 rfl rfl rfl) (f3.v 14 rfl rfl rfl)) f3.d ?_
    have HF : difS a b = true := by
      have h0 := Ffk1.out
      have h1 := Ffk2.out
      have ha := HA.out
      have hb := HB.out
      unfold inS at ha hb
      unfold difS
      simp only [decide_eq_true_eq, decide_eq_false_iff_not, IntKind.wrap_i64] at *
      unfold inS
      omega
    have HE : Value.tuple #[.int .i64 (IntKind.i64.wrap (a - b)), .bool true] = .tuple #[.int .i64 (IntKind.i64.wrap (a - b)), .bool (difS a b)] := by rw [HF]
    exact ⟨retV HE, f3.b⟩
   have Ffk2 := Lib.hid fk2; clear fk2
   cases fk3 : decide ((IntKind.i64.wrap (a - b)) < 0)
   case false =>
    have Ffk3 := Lib.hid fk3; clear fk3
    have s0_5 := f2.q 0 s0_1
    have s1_6 := f2.q 1 s1_2
    refine go_reg [] [] [some (.int .i64 (IntKind.i64.wrap (a - b))), some (.int .i64 a), some (.bool false), some (.int .i64 b), some (.bool true), some (.bool false), some (.bool false), some (.int .i64 (IntKind.i64.wrap (a - b))), some (.bool false), some (.int .i64 a), some (.bool false), some (.bool true), some (.bool true), some (.int .i64 (IntKind.i64.wrap (a - b))), some (.bool true)] mo f2.d f2.z f2.b (by kernel_rfl) trivial (
     hk (fun cx => cx.v (ex_mv rfl (cx.rq 6 (f2.v 3 rfl rfl rfl))) rfl rfl) <|
     hk (fun cx => cx.v (ex_mv rfl (cx.rq 0 s0_5)) rfl rfl) <|
     hk (fun cx => cx.v (ex_lt (x := .tmp 11) rfl (cx.u 0 rfl) rfl) rfl (congrArg Value.bool Ffk1.out)) <|
     hk (fun cx => cx.v (ex_mv rfl (cx.rq 1 s1_6)) rfl rfl) <|
     hk (fun cx => cx.v (ex_lt (x := .tmp 13) rfl (cx.u 0 rfl) rfl) rfl (congrArg Value.bool Ffk2.out)) <|
     hc (fun _ ax _ cx => cx.v (by simp [execOp, Act.eval, (show ax.tmps.getD 12 undef = .bool false from (cx.u 0 rfl)), (show ax.tmps.getD 14 undef = .bool true from (cx.u 1 rfl)), go_sem]) rfl rfl) <|
     hk (fun cx => cx.v (ex_mv rfl (cx.u 0 rfl)) rfl rfl) <|
     hk (fun cx => cx.val (cx.wy rfl rfl rfl rfl (cx.u 0 rfl)) (ex_mv rfl (cx.rq 6 (f2.v 3 rfl rfl rfl))) rfl rfl rfl rfl) <|
     hk (fun cx => cx.val (cx.wy rfl rfl rfl rfl (cx.u 1 rfl)) (ex_lt (x := .tmp 17) rfl (cx.u 0 rfl) rfl) rfl rfl (congrArg Value.bool Ffk3.out) rfl) <|
     hk (fun cx => cx.val (cx.wy rfl rfl rfl rfl (cx.u 0 rfl)) (ex_mv rfl (cx.rq 0 s0_5)) rfl rfl rfl rfl) <|
     hk (fun cx => cx.val (cx.wy rfl rfl rfl rfl (cx.u 1 rfl)) (ex_lt (x := .tmp 19) rfl (cx.u 0 rfl) rfl) rfl rfl (congrArg Value.bool Ffk1.out) rfl) <|
     hc (fun _ ax _ cx => cx.val (cx.wy rfl rfl rfl rfl (cx.u 2 rfl)) (by simp [execOp, Act.eval, (show ax.tmps.getD 18 undef = .bool false from (cx.u 0 rfl)), (show ax.tmps.getD 20 undef = .bool false from (cx.u 1 rfl)), go_sem]) rfl rfl rfl rfl) <|
     hk (fun cx => cx.v (ex_pf rfl (cx.u 0 rfl) (cx.u 1 rfl)) rfl rfl) <|
     hk (fun cx => cx.v (ex_as rfl (cx.u 0 rfl)) rfl rfl) <|
     hk (fun cx => cx.v (ex_as rfl (cx.u 0 rfl)) rfl rfl) <|
     hn) ?_
    intro a4 w4 f4
    refine wp_ret ?_
    try simp only [Exit.inBlock, Exit.then]
    refine bodyPost_ret (res_tt (fn := Try.f89) rfl (f4.v 13 rfl rfl rfl) (f4.v 14 rfl rfl rfl)) f4.d ?_
    have HF : difS a b = true := by
      have h0 := Ffk1.out
      have h1 := Ffk2.out
      have h2 := Ffk3.out
      have ha := HA.out
      have hb := HB.out
      unfold inS at ha hb
      unfold difS
      simp only [decide_eq_true_eq, decide_eq_false_iff_not, IntKind.wrap_i64] at *
      unfold inS
      omega
    have HE : Value.tuple #[.int .i64 (IntKind.i64.wrap (a - b)), .bool true] = .tuple #[.int .i64 (IntKind.i64.wrap (a - b)), .bool (difS a b)] := by rw [HF]
    exact ⟨retV HE, f4.b⟩
   have Ffk3 := Lib.hid fk3; clear fk3
   have s0_7 := f2.q 0 s0_1
   have s1_8 := f2.q 1 s1_2
   refine go_reg [] [] [some (.int .i64 (IntKind.i64.wrap (a - b))), some (.int .i64 a), some (.bool false), some (.int .i64 b), some (.bool true), some (.bool false), some (.bool false), some (.int .i64 (IntKind.i64.wrap (a - b))), some (.bool true), some (.int .i64 a), some (.bool false), some (.bool false), some (.bool false), some (.int .i64 (IntKind.i64.wrap (a - b))), some (.bool false)] mo f2.d f2.z f2.b (by kernel_rfl) trivial (
    hk (fun cx => cx.v (ex_mv rfl (cx.rq 6 (f2.v 3 rfl rfl rfl))) rfl rfl) <|
    hk (fun cx => cx.v (ex_mv rfl (cx.rq 0 s0_7)) rfl rfl) <|
    hk (fun cx => cx.v (ex_lt (x := .tmp 11) rfl (cx.u 0 rfl) rfl) rfl (congrArg Value.bool Ffk1.out)) <|
    hk (fun cx => cx.v (ex_mv rfl (cx.rq 1 s1_8)) rfl rfl) <|
    hk (fun cx => cx.v (ex_lt (x := .tmp 13) rfl (cx.u 0 rfl) rfl) rfl (congrArg Value.bool Ffk2.out)) <|
    hc (fun _ ax _ cx => cx.v (by simp [execOp, Act.eval, (show ax.tmps.getD 12 undef = .bool false from (cx.u 0 rfl)), (show ax.tmps.getD 14 undef = .bool true from (cx.u 1 rfl)), go_sem]) rfl rfl) <|
    hk (fun cx => cx.v (ex_mv rfl (cx.u 0 rfl)) rfl rfl) <|
    hk (fun cx => cx.val (cx.wy rfl rfl rfl rfl (cx.u 0 rfl)) (ex_mv rfl (cx.rq 6 (f2.v 3 rfl rfl rfl))) rfl rfl rfl rfl) <|
    hk (fun cx => cx.val (cx.wy rfl rfl rfl rfl (cx.u 1 rfl)) (ex_lt (x := .tmp 17) rfl (cx.u 0 rfl) rfl) rfl rfl (congrArg Value.bool Ffk3.out) rfl) <|
    hk (fun cx => cx.val (cx.wy rfl rfl rfl rfl (cx.u 0 rfl)) (ex_mv rfl (cx.rq 0 s0_7)) rfl rfl rfl rfl) <|
    hk (fun cx => cx.val (cx.wy rfl rfl rfl rfl (cx.u 1 rfl)) (ex_lt (x := .tmp 19) rfl (cx.u 0 rfl) rfl) rfl rfl (congrArg Value.bool Ffk1.out) rfl) <|
    hc (fun _ ax _ cx => cx.val (cx.wy rfl rfl rfl rfl (cx.u 2 rfl)) (by simp [execOp, Act.eval, (show ax.tmps.getD 18 undef = .bool true from (cx.u 0 rfl)), (show ax.tmps.getD 20 undef = .bool false from (cx.u 1 rfl)), go_sem]) rfl rfl rfl rfl) <|
    hk (fun cx => cx.v (ex_pf rfl (cx.u 0 rfl) (cx.u 1 rfl)) rfl rfl) <|
    hk (fun cx => cx.v (ex_as rfl (cx.u 0 rfl)) rfl rfl) <|
    hk (fun cx => cx.v (ex_as rfl (cx.u 0 rfl)) rfl rfl) <|
    hn) ?_
   intro a5 w5 f5
   refine wp_ret ?_
   try simp only [Exit.inBlock, Exit.then]
   refine bodyPost_ret (res_tt (fn := Try.f89) rfl (f5.v 13 rfl rfl rfl) (f5.v 14 rfl rfl rfl)) f5.d ?_
   have HF : difS a b = false := by
     have h0 := Ffk1.out
     have h1 := Ffk2.out
     have h2 := Ffk3.out
     have ha := HA.out
     have hb := HB.out
     unfold inS at ha hb
     unfold difS
     simp only [decide_eq_true_eq, decide_eq_false_iff_not, IntKind.wrap_i64] at *
     unfold inS
     omega
   have HE : Value.tuple #[.int .i64 (IntKind.i64.wrap (a - b)), .bool false] = .tuple #[.int .i64 (IntKind.i64.wrap (a - b)), .bool (difS a b)] := by rw [HF]
   exact ⟨retV HE, f5.b⟩
  have Ffk1 := Lib.hid fk1; clear fk1
  cases fk4 : decide (b < 0)
  case false =>
   have Ffk4 := Lib.hid fk4; clear fk4
   cases fk5 : decide ((IntKind.i64.wrap (a - b)) < 0)
   case false =>
    have Ffk5 := Lib.hid fk5; clear fk5
    have s0_9 := f2.q 0 s0_1
    have s1_10 := f2.q 1 s1_2
    refine go_reg [] [] [some (.int .i64 (IntKind.i64.wrap (a - b))), some (.int .i64 a), some (.bool true), some (.int .i64 b), some (.bool false), some (.bool false), some (.bool false), some (.int .i64 (IntKind.i64.wrap (a - b))), some (.bool false), some (.int .i64 a), some (.bool true), some (.bool false), some (.bool false), some (.int .i64 (IntKind.i64.wrap (a - b))), some (.bool false)] mo f2.d f2.z f2.b (by kernel_rfl) trivial (
     hk (fun cx => cx.v (ex_mv rfl (cx.rq 6 (f2.v 3 rfl rfl rfl))) rfl rfl) <|
     hk (fun cx => cx.v (ex_mv rfl (cx.rq 0 s0_9)) rfl rfl) <|
     hk (fun cx => cx.v (ex_lt (x := .tmp 11) rfl (cx.u 0 rfl) rfl) rfl (congrArg Value.bool Ffk1.out)) <|
     hk (fun cx => cx.v (ex_mv rfl (cx.rq 1 s1_10)) rfl rfl) <|
     hk (fun cx => cx.v (ex_lt (x := .tmp 13) rfl (cx.u 0 rfl) rfl) rfl (congrArg Value.bool Ffk4.out)) <|
     hc (fun _ ax _ cx => cx.v (by simp [execOp, Act.eval, (show ax.tmps.getD 12 undef = .bool true from (cx.u 0 rfl)), (show ax.tmps.getD 14 undef = .bool false from (cx.u 1 rfl)), go_sem]) rfl rfl) <|
     hk (fun cx => cx.v (ex_mv rfl (cx.u 0 rfl)) rfl rfl) <|
     hk (fun cx => cx.val (cx.wy rfl rfl rfl rfl (cx.u 0 rfl)) (ex_mv rfl (cx.rq 6 (f2.v 3 rfl rfl rfl))) rfl rfl rfl rfl) <|
     hk (fun cx => cx.val (cx.wy rfl rfl rfl rfl (cx.u 1 rfl)) (ex_lt (x := .tmp 17) rfl (cx.u 0 rfl) rfl) rfl rfl (congrArg Value.bool Ffk5.out) rfl) <|
     hk (fun cx => cx.val (cx.wy rfl rfl rfl rfl (cx.u 0 rfl)) (ex_mv rfl (cx.rq 0 s0_9)) rfl rfl rfl rfl) <|
     hk (fun cx => cx.val (cx.wy rfl rfl rfl rfl (cx.u 1 rfl)) (ex_lt (x := .tmp 19) rfl (cx.u 0 rfl) rfl) rfl rfl (congrArg Value.bool Ffk1.out) rfl) <|
     hc (fun _ ax _ cx => cx.val (cx.wy rfl rfl rfl rfl (cx.u 2 rfl)) (by simp [execOp, Act.eval, (show ax.tmps.getD 18 undef = .bool false from (cx.u 0 rfl)), (show ax.tmps.getD 20 undef = .bool true from (cx.u 1 rfl)), go_sem]) rfl rfl rfl rfl) <|
     hk (fun cx => cx.v (ex_pf rfl (cx.u 0 rfl) (cx.u 1 rfl)) rfl rfl) <|
     hk (fun cx => cx.v (ex_as rfl (cx.u 0 rfl)) rfl rfl) <|
     hk (fun cx => cx.v (ex_as rfl (cx.u 0 rfl)) rfl rfl) <|
     hn) ?_
    intro a6 w6 f6
    refine wp_ret ?_
    try simp only [Exit.inBlock, Exit.then]
    refine bodyPost_ret (res_tt (fn := Try.f89) rfl (f6.v 13 rfl rfl rfl) (f6.v 14 rfl rfl rfl)) f6.d ?_
    have HF : difS a b = false := by
      have h0 := Ffk1.out
      have h1 := Ffk4.out
      have h2 := Ffk5.out
      have ha := HA.out
      have hb := HB.out
      unfold inS at ha hb
      unfold difS
      simp only [decide_eq_true_eq, decide_eq_false_iff_not, IntKind.wrap_i64] at *
      unfold inS
      omega
    have HE : Value.tuple #[.int .i64 (IntKind.i64.wrap (a - b)), .bool false] = .tuple #[.int .i64 (IntKind.i64.wrap (a - b)), .bool (difS a b)] := by rw [HF]
    exact ⟨retV HE, f6.b⟩
   have Ffk5 := Lib.hid fk5; clear fk5
   have s0_11 := f2.q 0 s0_1
   have s1_12 := f2.q 1 s1_2
   refine go_reg [] [] [some (.int .i64 (IntKind.i64.wrap (a - b))), some (.int .i64 a), some (.bool true), some (.int .i64 b), some (.bool false), some (.bool false), some (.bool false), some (.int .i64 (IntKind.i64.wrap (a - b))), some (.bool true), some (.int .i64 a), some (.bool true), some (.bool true), some (.bool true), some (.int .i64 (IntKind.i64.wrap (a - b))), some (.bool true)] mo f2.d f2.z f2.b (by kernel_rfl) trivial (
    hk (fun cx => cx.v (ex_mv rfl (cx.rq 6 (f2.v 3 rfl rfl rfl))) rfl rfl) <|
    hk (fun cx => cx.v (ex_mv rfl (cx.rq 0 s0_11)) rfl rfl) <|
    hk (fun cx => cx.v (ex_lt (x := .tmp 11) rfl (cx.u 0 rfl) rfl) rfl (congrArg Value.bool Ffk1.out)) <|
    hk (fun cx => cx.v (ex_mv rfl (cx.rq 1 s1_12)) rfl rfl) <|
    hk (fun cx => cx.v (ex_lt (x := .tmp 13) rfl (cx.u 0 rfl) rfl) rfl (congrArg Value.bool Ffk4.out)) <|
    hc (fun _ ax _ cx => cx.v (by simp [execOp, Act.eval, (show ax.tmps.getD 12 undef = .bool true from (cx.u 0 rfl)), (show ax.tmps.getD 14 undef = .bool false from (cx.u 1 rfl)), go_sem]) rfl rfl) <|
    hk (fun cx => cx.v (ex_mv rfl (cx.u 0 rfl)) rfl rfl) <|
    hk (fun cx => cx.val (cx.wy rfl rfl rfl rfl (cx.u 0 rfl)) (ex_mv rfl (cx.rq 6 (f2.v 3 rfl rfl rfl))) rfl rfl rfl rfl) <|
    hk (fun cx => cx.val (cx.wy rfl rfl rfl rfl (cx.u 1 rfl)) (ex_lt (x := .tmp 17) rfl (cx.u 0 rfl) rfl) rfl rfl (congrArg Value.bool Ffk5.out) rfl) <|
    hk (fun cx => cx.val (cx.wy rfl rfl rfl rfl (cx.u 0 rfl)) (ex_mv rfl (cx.rq 0 s0_11)) rfl rfl rfl rfl) <|
    hk (fun cx => cx.val (cx.wy rfl rfl rfl rfl (cx.u 1 rfl)) (ex_lt (x := .tmp 19) rfl (cx.u 0 rfl) rfl) rfl rfl (congrArg Value.bool Ffk1.out) rfl) <|
    hc (fun _ ax _ cx => cx.val (cx.wy rfl rfl rfl rfl (cx.u 2 rfl)) (by simp [execOp, Act.eval, (show ax.tmps.getD 18 undef = .bool true from (cx.u 0 rfl)), (show ax.tmps.getD 20 undef = .bool true from (cx.u 1 rfl)), go_sem]) rfl rfl rfl rfl) <|
    hk (fun cx => cx.v (ex_pf rfl (cx.u 0 rfl) (cx.u 1 rfl)) rfl rfl) <|
    hk (fun cx => cx.v (ex_as rfl (cx.u 0 rfl)) rfl rfl) <|
    hk (fun cx => cx.v (ex_as rfl (cx.u 0 rfl)) rfl rfl) <|
    hn) ?_
   intro a7 w7 f7
   refine wp_ret ?_
   try simp only [Exit.inBlock, Exit.then]
   refine bodyPost_ret (res_tt (fn := Try.f89) rfl (f7.v 13 rfl rfl rfl) (f7.v 14 rfl rfl rfl)) f7.d ?_
   have HF : difS a b = true := by
     have h0 := Ffk1.out
     have h1 := Ffk4.out
     have h2 := Ffk5.out
     have ha := HA.out
     have hb := HB.out
     unfold inS at ha hb
     unfold difS
     simp only [decide_eq_true_eq, decide_eq_false_iff_not, IntKind.wrap_i64] at *
     unfold inS
     omega
   have HE : Value.tuple #[.int .i64 (IntKind.i64.wrap (a - b)), .bool true] = .tuple #[.int .i64 (IntKind.i64.wrap (a - b)), .bool (difS a b)] := by rw [HF]
   exact ⟨retV HE, f7.b⟩
  have Ffk4 := Lib.hid fk4; clear fk4
  have s0_13 := f2.q 0 s0_1
  have s1_14 := f2.q 1 s1_2
  refine go_reg [] [] [some (.int .i64 (IntKind.i64.wrap (a - b))), some (.int .i64 a), some (.bool true), some (.int .i64 b), some (.bool true), some (.bool true), some (.bool true), some (undef), some (undef), some (undef), some (undef), some (undef), some (.bool true), some (.int .i64 (IntKind.i64.wrap (a - b))), some (.bool true)] mo f2.d f2.z f2.b (by kernel_rfl) trivial (
   hk (fun cx => cx.v (ex_mv rfl (cx.rq 6 (f2.v 3 rfl rfl rfl))) rfl rfl) <|
   hk (fun cx => cx.v (ex_mv rfl (cx.rq 0 s0_13)) rfl rfl) <|
   hk (fun cx => cx.v (ex_lt (x := .tmp 11) rfl (cx.u 0 rfl) rfl) rfl (congrArg Value.bool Ffk1.out)) <|
   hk (fun cx => cx.v (ex_mv rfl (cx.rq 1 s1_14)) rfl rfl) <|
   hk (fun cx => cx.v (ex_lt (x := .tmp 13) rfl (cx.u 0 rfl) rfl) rfl (congrArg Value.bool Ffk4.out)) <|
   hc (fun _ ax _ cx => cx.v (by simp [execOp, Act.eval, (show ax.tmps.getD 12 undef = .bool true from (cx.u 0 rfl)), (show ax.tmps.getD 14 undef = .bool true from (cx.u 1 rfl)), go_sem]) rfl rfl) <|
   hk (fun cx => cx.v (ex_mv rfl (cx.u 0 rfl)) rfl rfl) <|
   hk (fun cx => cx.no (cx.wo rfl rfl rfl rfl (cx.u 0 rfl) rfl) rfl rfl rfl rfl) <|
   hk (fun cx => cx.no (cx.wo rfl rfl rfl rfl (cx.u 1 rfl) rfl) rfl rfl rfl rfl) <|
   hk (fun cx => cx.no (cx.wo rfl rfl rfl rfl (cx.u 0 rfl) rfl) rfl rfl rfl rfl) <|
   hk (fun cx => cx.no (cx.wo rfl rfl rfl rfl (cx.u 1 rfl) rfl) rfl rfl rfl rfl) <|
   hk (fun cx => cx.no (cx.wo rfl rfl rfl rfl (cx.u 2 rfl) rfl) rfl rfl rfl rfl) <|
   hk (fun cx => cx.v (ex_pt rfl (cx.u 0 rfl) rfl) rfl rfl) <|
   hk (fun cx => cx.v (ex_as rfl (cx.u 0 rfl)) rfl rfl) <|
   hk (fun cx => cx.v (ex_as rfl (cx.u 0 rfl)) rfl rfl) <|
   hn) ?_
  intro a8 w8 f8
  refine wp_ret ?_
  try simp only [Exit.inBlock, Exit.then]
  refine bodyPost_ret (res_tt (fn := Try.f89) rfl (f8.v 13 rfl rfl rfl) (f8.v 14 rfl rfl rfl)) f8.d ?_
  have HF : difS a b = true := by
    have h0 := Ffk1.out
    have h1 := Ffk4.out
    have ha := HA.out
    have hb := HB.out
    unfold inS at ha hb
    unfold difS
    simp only [decide_eq_true_eq, decide_eq_false_iff_not, IntKind.wrap_i64] at *
    unfold inS
    omega
  have HE : Value.tuple #[.int .i64 (IntKind.i64.wrap (a - b)), .bool true] = .tuple #[.int .i64 (IntKind.i64.wrap (a - b)), .bool (difS a b)] := by rw [HF]
  exact ⟨retV HE, f8.b⟩
end Go.Proofs.Ytnmgehjccafegaa.Bnd
