/-
  What the laws of layer 7 share. (Written by gen_bndd.py.)
-/
import Derived.Test.YtnmgehjccafegaaBndG
import Derived.Test.YtnmgehjccafegaaBndH
namespace Go.Proofs.Ytnmgehjccafegaa.Bnd
open Go.RowKit
set_option linter.unusedVariables false
set_option linter.unusedSimpArgs false
set_option linter.unnecessarySimpa false
set_option maxRecDepth 100000



theorem eq_range (a b : Rg) (w : World) : (Op.equalIn 10000 60 a.val b.val).run Try.prog w = .ok (eqR a b) w := by
  unfold Rg.val
  simp [go_sem]
  unfold eqR
  (repeat' split) <;> simp [*]
def smallR (a b : Int) : Rg := ⟨⟨a, b⟩, ⟨sg a, sg b⟩⟩

set_option maxHeartbeats 4000000 in
theorem small_n (a b : Int) (W : World) : Calls Try.prog 91 #[.int .u64 a, .int .u64 b] W fun e w' => e = .returned (.agg #[.int .u64 (smallR a b).u.lo, .int .u64 (smallR a b).u.hi, .int .i64 (smallR a b).s.lo, .int .i64 (smallR a b).s.hi]) ∧ Below W.heap.size W w' := by
  refine calls_abs Try.func91 rfl (Nat.le_of_ble_eq_true rfl) ?_
  intro a0 d0 z0 h0
  replace z0 : a0.tmps.size = 12 := z0
  have s0_0 : a0.tmps.getD 0 undef = .int .u64 a := h0 0 (Nat.le_of_ble_eq_true rfl)
  have s1_0 : a0.tmps.getD 1 undef = .int .u64 b := h0 1 (Nat.le_of_ble_eq_true rfl)
  refine wp_seq ?_
  refine go_reg [] [⟨0, 4, 60, (cR 0 0 0 0), none, #[]⟩] [none] mo d0 z0 (Below.refl _ _) (by kernel_rfl) trivial (
   hk (fun cx => cx.al (wn rfl) 0 rfl (by simp [execOp, Act.eval, go_sem]) rfl rfl rfl rfl rfl trivial) <|
   hn) ?_
  intro a1 w1 f1
  obtain ⟨g1, u_g1, q_g1, b_g1⟩ := f1.al.1
  refine wp_seq ?_
  have s0_1 := f1.q 0 s0_0
  have s1_2 := f1.q 1 s1_0
  refine go_reg [⟨g1, 60, (cR 0 0 0 0), some 7, (cR a b (sg a) (sg b))⟩] [] [some (.int .u64 a), some (.int .u64 b), some (.int .u64 a), some (.int .i64 (sg a)), some (.int .u64 b), some (.int .i64 (sg b)), some (.agg (cR a b (sg a) (sg b))), none] mo f1.d f1.z f1.b (by kernel_rfl) ⟨b_g1, trivial⟩ (
   hk (fun cx => cx.v (ex_mv rfl (cx.rq 0 s0_1)) rfl rfl) <|
   hk (fun cx => cx.v (ex_mv rfl (cx.rq 1 s1_2)) rfl rfl) <|
   hk (fun cx => cx.v (ex_mv rfl (cx.rq 0 s0_1)) rfl rfl) <|
   hk (fun cx => cx.v (ex_conv (x := .tmp 7) rfl (cx.u 0 rfl) Try.underlying30 Try.underlying2) rfl (congrArg (Value.int .i64) (wrap_sg a))) <|
   hk (fun cx => cx.v (ex_mv rfl (cx.rq 1 s1_2)) rfl rfl) <|
   hk (fun cx => cx.v (ex_conv (x := .tmp 9) rfl (cx.u 0 rfl) Try.underlying30 Try.underlying2) rfl (congrArg (Value.int .i64) (wrap_sg b))) <|
   hk (fun cx => cx.v (exec_build rfl (parts4 (cx.u 0 rfl) (cx.u 1 rfl) (cx.u 2 rfl) (cx.u 3 rfl)) (by kernel_rfl)) rfl rfl) <|
   hk (fun cx => cx.stR (wn rfl) rfl rfl 0 rfl (cx.rq 4 u_g1) (cx.u 0 rfl) (by kernel_rfl) rfl (by simp [Value.oneCell']) q_g1 rfl trivial trivial) <|
   hn) ?_
  intro a2 w2 f2
  refine wp_ret ?_
  have s4_3 := f2.q 4 u_g1
  try simp only [Exit.inBlock, Exit.then]
  refine bodyPost_ret (res_c (fn := Try.f91) rfl s4_3 (load_row 60 f2.rows.1 Try.underlying60 rfl (by kernel_rfl))) f2.d ?_
  exact ⟨rfl, f2.b⟩

set_option maxHeartbeats 4000000 in
theorem wakes_n  (W : World) : Calls Try.prog 43 #[] W fun e w' => e = .returned (.bool true) ∧ Below W.heap.size W w' := by
  have K1 := Lib.hid (show eqR (Rg.doR 0 (smallR 1 5) (smallR 2 3)) (smallR 3 8) = true by decide +kernel)
  have K2 := Lib.hid (show eqR (Rg.giv 4 (smallR 0 9) (oneR 4)) (smallR 0 3) = true by decide +kernel)
  have K3 := Lib.hid (show Rg.givB 4 (smallR 0 9) (oneR 4) = true by decide +kernel)
  refine calls_abs Try.func43 rfl (Nat.le_of_ble_eq_true rfl) ?_
  intro a0 d0 z0 h0
  replace z0 : a0.tmps.size = 22 := z0
  refine wp_seq ?_
  refine go_reg [] [] [some (.bool false)] mo d0 z0 (Below.refl _ _) (by kernel_rfl) trivial (
   hk (fun cx => cx.v (ex_as rfl rfl) rfl rfl) <|
   hn) ?_
  intro a1 w1 f1
  refine wp_seq ?_
  refine go_reg [] [⟨6, 1, 60, (cR 0 0 0 0), some 7, (cR ((Rg.giv 4 (smallR 0 9) (oneR 4)).u.lo) ((Rg.giv 4 (smallR 0 9) (oneR 4)).u.hi) ((Rg.giv 4 (smallR 0 9) (oneR 4)).s.lo) ((Rg.giv 4 (smallR 0 9) (oneR 4)).s.hi))⟩] [some (.agg (cR ((smallR 0 9).u.lo) ((smallR 0 9).u.hi) ((smallR 0 9).s.lo) ((smallR 0 9).s.hi))), some (.agg (cR ((oneR 4).u.lo) ((oneR 4).u.hi) ((oneR 4).s.lo) ((oneR 4).s.hi))), some (.tuple #[.agg (cR ((Rg.giv 4 (smallR 0 9) (oneR 4)).u.lo) ((Rg.giv 4 (smallR 0 9) (oneR 4)).u.hi) ((Rg.giv 4 (smallR 0 9) (oneR 4)).s.lo) ((Rg.giv 4 (smallR 0 9) (oneR 4)).s.hi)), .bool (Rg.givB 4 (smallR 0 9) (oneR 4))]), some (.tuple #[.agg (cR ((Rg.giv 4 (smallR 0 9) (oneR 4)).u.lo) ((Rg.giv 4 (smallR 0 9) (oneR 4)).u.hi) ((Rg.giv 4 (smallR 0 9) (oneR 4)).s.lo) ((Rg.giv 4 (smallR 0 9) (oneR 4)).s.hi)), .bool (Rg.givB 4 (smallR 0 9) (oneR 4))]), some (.agg (cR ((Rg.giv 4 (smallR 0 9) (oneR 4)).u.lo) ((Rg.giv 4 (smallR 0 9) (oneR 4)).u.hi) ((Rg.giv 4 (smallR 0 9) (oneR 4)).s.lo) ((Rg.giv 4 (smallR 0 9) (oneR 4)).s.hi))), some (.bool true), none, none, some (.bool true)] mo f1.d f1.z f1.b (by kernel_rfl) trivial (
   hc (fun _ _ wx cx => cx.c rfl (args2 rfl rfl) Try.func91 (by decide +kernel) (small_n 0 9 wx) rfl rfl) <|
   hc (fun _ _ wx cx => cx.c rfl (args1 rfl) Try.func31 (by decide +kernel) (one_n 4 wx) rfl rfl) <|
   hc (fun _ _ wx cx => cx.c rfl (args3 rfl (cx.u 0 rfl) (cx.u 1 rfl)) Try.func21 (by decide +kernel) (given_n 4 ((smallR 0 9).u.lo) ((smallR 0 9).u.hi) ((smallR 0 9).s.lo) ((smallR 0 9).s.hi) ((oneR 4).u.lo) ((oneR 4).u.hi) ((oneR 4).s.lo) ((oneR 4).s.hi) wx (by simp only [Rg.Ok, Pr.U, Pr.S, smallR, sg]; decide) (by simp only [Rg.Ok, Pr.U, Pr.S, oneR, sg]; decide)) rfl rfl) <|
   hk (fun cx => cx.v (ex_mv rfl (cx.u 0 rfl)) rfl rfl) <|
   hk (fun cx => cx.v (ex_ext (x := .tmp 3) rfl (cx.u 0 rfl) rfl) rfl rfl) <|
   hk (fun cx => cx.v (ex_ext (x := .tmp 3) rfl (cx.u 0 rfl) rfl) rfl (congrArg Value.bool K3.out)) <|
   hk (fun cx => cx.al (wn rfl) 0 rfl (by simp [execOp, Act.eval, go_sem]) rfl rfl rfl rfl (by kernel_rfl) trivial) <|
   hk (fun cx => cx.stA (wn rfl) rfl rfl 0 0 rfl rfl rfl rfl (cx.u 1 rfl) (by kernel_rfl) rfl (by simp [Value.oneCell']) f1.b.size rfl rfl trivial) <|
   hk (fun cx => cx.v (ex_as rfl (cx.u 0 rfl)) rfl rfl) <|
   hn) ?_
  intro a2 w2 f2
  obtain ⟨g1, u_g1, q_g1, b_g1⟩ := f2.al.1
  refine wp_seq ?_
  refine go_reg [bx g1 60 (cR ((Rg.giv 4 (smallR 0 9) (oneR 4)).u.lo) ((Rg.giv 4 (smallR 0 9) (oneR 4)).u.hi) ((Rg.giv 4 (smallR 0 9) (oneR 4)).s.lo) ((Rg.giv 4 (smallR 0 9) (oneR 4)).s.hi))] [] [some (.agg (cR ((smallR 1 5).u.lo) ((smallR 1 5).u.hi) ((smallR 1 5).s.lo) ((smallR 1 5).s.hi))), some (.agg (cR ((smallR 2 3).u.lo) ((smallR 2 3).u.hi) ((smallR 2 3).s.lo) ((smallR 2 3).s.hi))), some (.agg (cR ((Rg.doR 0 (smallR 1 5) (smallR 2 3)).u.lo) ((Rg.doR 0 (smallR 1 5) (smallR 2 3)).u.hi) ((Rg.doR 0 (smallR 1 5) (smallR 2 3)).s.lo) ((Rg.doR 0 (smallR 1 5) (smallR 2 3)).s.hi))), some (.agg (cR ((smallR 3 8).u.lo) ((smallR 3 8).u.hi) ((smallR 3 8).s.lo) ((smallR 3 8).s.hi))), some (.bool (eqR (Rg.doR 0 (smallR 1 5) (smallR 2 3)) (smallR 3 8))), some (.bool true), some (.agg (cR ((Rg.giv 4 (smallR 0 9) (oneR 4)).u.lo) ((Rg.giv 4 (smallR 0 9) (oneR 4)).u.hi) ((Rg.giv 4 (smallR 0 9) (oneR 4)).s.lo) ((Rg.giv 4 (smallR 0 9) (oneR 4)).s.hi))), some (.agg (cR ((smallR 0 3).u.lo) ((smallR 0 3).u.hi) ((smallR 0 3).s.lo) ((smallR 0 3).s.hi))), some (.bool (eqR (Rg.giv 4 (smallR 0 9) (oneR 4)) (smallR 0 3))), some (.bool true), some (.bool true), some (.bool true), some (.bool true), some (.bool true)] mo f2.d f2.z f2.b (by kernel_rfl) ⟨b_g1, trivial⟩ (
   hc (fun _ _ wx cx => cx.c rfl (args2 rfl rfl) Try.func91 (by decide +kernel) (small_n 1 5 wx) rfl rfl) <|
   hc (fun _ _ wx cx => cx.c rfl (args2 rfl rfl) Try.func91 (by decide +kernel) (small_n 2 3 wx) rfl rfl) <|
   hc (fun _ _ wx cx => cx.c rfl (args3 rfl (cx.u 0 rfl) (cx.u 1 rfl)) Try.func39 (by decide +kernel) (do_n 0 ((smallR 1 5).u.lo) ((smallR 1 5).u.hi) ((smallR 1 5).s.lo) ((smallR 1 5).s.hi) ((smallR 2 3).u.lo) ((smallR 2 3).u.hi) ((smallR 2 3).s.lo) ((smallR 2 3).s.hi) wx (by simp only [Rg.Ok, Pr.U, Pr.S, smallR, sg]; decide) (by simp only [Rg.Ok, Pr.U, Pr.S, smallR, sg]; decide)) rfl rfl) <|
   hc (fun _ _ wx cx => cx.c rfl (args2 rfl rfl) Try.func91 (by decide +kernel) (small_n 3 8 wx) rfl rfl) <|
   hc (fun _ _ wx cx => cx.v (exec_eql (x := .tmp 11) (y := .tmp 12) rfl (cx.u 0 rfl) (cx.u 1 rfl) (by kernel_rfl) (eq_range (Rg.doR 0 (smallR 1 5) (smallR 2 3)) (smallR 3 8) wx)) rfl rfl) <|
   hk (fun cx => cx.v (ex_mv rfl (cx.u 0 rfl)) rfl (congrArg Value.bool K1.out)) <|
   hk (fun cx => cx.val (cx.wy rfl rfl rfl rfl (cx.u 0 rfl)) (ldR rfl (cx.rq 1 u_g1) (cx.rn 0 rfl)) rfl rfl rfl rfl) <|
   hc (fun _ _ wx cx => cx.call (cx.wy rfl rfl rfl rfl (cx.u 0 rfl)) rfl rfl (args2 rfl rfl) Try.func91 (by decide +kernel) rfl (small_n 0 3 wx) rfl rfl rfl rfl) <|
   hc (fun _ _ wx cx => cx.val (cx.wy rfl rfl rfl rfl (cx.u 2 rfl)) (exec_eql (x := .tmp 15) (y := .tmp 16) rfl (cx.u 0 rfl) (cx.u 1 rfl) (by kernel_rfl) (eq_range (Rg.giv 4 (smallR 0 9) (oneR 4)) (smallR 0 3) wx)) rfl rfl rfl rfl) <|
   hk (fun cx => cx.v (ex_pt rfl (cx.u 0 rfl) (cx.u 1 rfl)) rfl (congrArg Value.bool K2.out)) <|
   hk (fun cx => cx.v (ex_mv rfl (cx.u 0 rfl)) rfl rfl) <|
   hk (fun cx => cx.val (cx.wy rfl rfl rfl rfl (cx.u 0 rfl)) (ex_mv rfl (cx.rq 2 (f2.v 8 rfl rfl rfl))) rfl rfl rfl rfl) <|
   hk (fun cx => cx.v (ex_pt rfl (cx.u 0 rfl) (cx.u 1 rfl)) rfl rfl) <|
   hk (fun cx => cx.v (ex_as rfl (cx.u 0 rfl)) rfl rfl) <|
   hn) ?_
  intro a3 w3 f3
  refine wp_ret ?_
  try simp only [Exit.inBlock, Exit.then]
  refine bodyPost_ret (res_t (fn := Try.f43) rfl (f3.v 13 rfl rfl rfl)) f3.d ?_
  exact ⟨rfl, f3.b⟩
end Go.Proofs.Ytnmgehjccafegaa.Bnd
