/-
  The document's own answer for layer 7: the small ones, Narrow. (Written by gen_bndr.py.)
-/
import Derived.Test.YtcnneeimkcnjfaaSbC
import Derived.Test.YtcnneeimkcnjfaaBndN
import Derived.Test.YtcnneeimkcnjfaaSxA
import Derived.Test.YtcnneeimkcnjfaaSy
namespace Go.Proofs.Ytcnneeimkcnjfaa.Bnd
open Go.RowKit
set_option linter.unusedVariables false
set_option linter.unusedSimpArgs false
set_option linter.unnecessarySimpa false
set_option maxRecDepth 100000
theorem faRR25_0_0 (g : Nat) (w : World) : (Instr.fieldAt 25 (.pointer (some ⟨g, 0, none⟩)) 0).run Try.prog w = .ok (.pointer (some ⟨g, 0, none⟩)) w := by simp [go_sem]
theorem faRR25_1_0 (g : Nat) (w : World) : (Instr.fieldAt 25 (.pointer (some ⟨g, 0, none⟩)) 1).run Try.prog w = .ok (.pointer (some ⟨g, 1, none⟩)) w := by simp [go_sem]
theorem faRR25_2_0 (g : Nat) (w : World) : (Instr.fieldAt 25 (.pointer (some ⟨g, 0, none⟩)) 2).run Try.prog w = .ok (.pointer (some ⟨g, 2, none⟩)) w := by simp [go_sem]
theorem faRR25_3_0 (g : Nat) (w : World) : (Instr.fieldAt 25 (.pointer (some ⟨g, 0, none⟩)) 3).run Try.prog w = .ok (.pointer (some ⟨g, 3, none⟩)) w := by simp [go_sem]
set_option maxHeartbeats 4000000 in
theorem rmay_n (a b c d : Int) (W : World) : Calls Try.prog 71 #[.agg #[.int .u64 a, .int .u64 b, .int .i64 c, .int .i64 d]] W fun e w' => e = .returned (.bool (Rg.mayB ⟨⟨a, b⟩, ⟨c, d⟩⟩)) ∧ Below W.heap.size W w' := by
  refine calls_abs Try.func71 rfl (Nat.le_of_ble_eq_true rfl) ?_
  intro a0 d0 z0 h0
  replace z0 : a0.tmps.size = 15 := z0
  have s0_0 : a0.tmps.getD 0 undef = .agg (cR a b c d) := h0 0 (Nat.le_of_ble_eq_true rfl)
  refine wp_seq ?_
  refine go_reg [] [⟨0, 1, 25, (cR a b c d), none, #[]⟩] [none, some (.bool false)] mo d0 z0 (Below.refl _ _) (by kernel_rfl) trivial (
   hc (fun _ ax _ cx => cx.al (wn rfl) 0 rfl (by simp [execOp, Act.eval, (show ax.tmps.getD 0 undef = .agg (cR a b c d) from (cx.rq 0 s0_0)), go_sem]) rfl rfl rfl rfl rfl trivial) <|
   hk (fun cx => cx.v (ex_as rfl rfl) rfl rfl) <|
   hn) ?_
  intro a1 w1 f1
  obtain ⟨g1, u_g1, q_g1, b_g1⟩ := f1.al.1
  refine wp_seq ?_
  cases fk1 : decide (a ≤ b)
  case false =>
   have Ffk1 := Lib.hid fk1; clear fk1
   refine go_reg [bx g1 25 (cR a b c d)] [] [some (pt g1 0), some (.int .u64 a), some (pt g1 1), some (.int .u64 b), some (.bool false), some (.bool false), some (undef), some (undef), some (undef), some (undef), some (undef), some (.bool false), some (.bool false)] mo f1.d f1.z f1.b (by kernel_rfl) ⟨b_g1, trivial⟩ (
    hk (fun cx => cx.v (ex_fa rfl (cx.rq 1 u_g1) (faRR25_0_0 _ _)) rfl rfl) <|
    hk (fun cx => cx.v (ex_ld rfl (cx.u 0 rfl) (cx.rn 0 rfl) rfl Try.isAgg23) rfl rfl) <|
    hk (fun cx => cx.v (ex_fa rfl (cx.rq 1 u_g1) (faRR25_1_0 _ _)) rfl rfl) <|
    hk (fun cx => cx.v (ex_ld rfl (cx.u 0 rfl) (cx.rn 0 rfl) rfl Try.isAgg23) rfl rfl) <|
    hk (fun cx => cx.v (ex_le (x := .tmp 4) (y := .tmp 6) rfl (cx.u 0 rfl) (cx.u 1 rfl)) rfl (congrArg Value.bool Ffk1.out)) <|
    hk (fun cx => cx.v (ex_mv rfl (cx.u 0 rfl)) rfl rfl) <|
    hk (fun cx => cx.no (cx.wo rfl rfl rfl rfl (cx.u 0 rfl) rfl) rfl rfl rfl rfl) <|
    hk (fun cx => cx.no (cx.wo rfl rfl rfl rfl (cx.u 1 rfl) rfl) rfl rfl rfl rfl) <|
    hk (fun cx => cx.no (cx.wo rfl rfl rfl rfl (cx.u 0 rfl) rfl) rfl rfl rfl rfl) <|
    hk (fun cx => cx.no (cx.wo rfl rfl rfl rfl (cx.u 1 rfl) rfl) rfl rfl rfl rfl) <|
    hk (fun cx => cx.no (cx.wo rfl rfl rfl rfl (cx.u 2 rfl) rfl) rfl rfl rfl rfl) <|
    hk (fun cx => cx.v (ex_pf rfl (cx.u 0 rfl) rfl) rfl rfl) <|
    hk (fun cx => cx.v (ex_as rfl (cx.u 0 rfl)) rfl rfl) <|
    hn) ?_
   intro a2 w2 f2
   refine wp_ret ?_
   try simp only [Exit.inBlock, Exit.then]
   refine bodyPost_ret (res_t (fn := Try.f71) rfl (f2.v 12 rfl rfl rfl)) f2.d ?_
   have HE : Value.bool false = .bool (Rg.mayB ⟨⟨a, b⟩, ⟨c, d⟩⟩) := by show _ = Value.bool (decide (a ≤ b) && decide (c ≤ d)); rw [Ffk1.out]; rfl
   exact ⟨retV HE, f2.b⟩
  have Ffk1 := Lib.hid fk1; clear fk1
  cases fk2 : decide (c ≤ d)
  case false =>
   have Ffk2 := Lib.hid fk2; clear fk2
   refine go_reg [bx g1 25 (cR a b c d)] [] [some (pt g1 0), some (.int .u64 a), some (pt g1 1), some (.int .u64 b), some (.bool true), some (.bool true), some (pt g1 2), some (.int .i64 c), some (pt g1 3), some (.int .i64 d), some (.bool false), some (.bool false), some (.bool false)] mo f1.d f1.z f1.b (by kernel_rfl) ⟨b_g1, trivial⟩ (
    hk (fun cx => cx.v (ex_fa rfl (cx.rq 1 u_g1) (faRR25_0_0 _ _)) rfl rfl) <|
    hk (fun cx => cx.v (ex_ld rfl (cx.u 0 rfl) (cx.rn 0 rfl) rfl Try.isAgg23) rfl rfl) <|
    hk (fun cx => cx.v (ex_fa rfl (cx.rq 1 u_g1) (faRR25_1_0 _ _)) rfl rfl) <|
    hk (fun cx => cx.v (ex_ld rfl (cx.u 0 rfl) (cx.rn 0 rfl) rfl Try.isAgg23) rfl rfl) <|
    hk (fun cx => cx.v (ex_le (x := .tmp 4) (y := .tmp 6) rfl (cx.u 0 rfl) (cx.u 1 rfl)) rfl (congrArg Value.bool Ffk1.out)) <|
    hk (fun cx => cx.v (ex_mv rfl (cx.u 0 rfl)) rfl rfl) <|
    hk (fun cx => cx.val (cx.wy rfl rfl rfl rfl (cx.u 0 rfl)) (ex_fa rfl (cx.rq 1 u_g1) (faRR25_2_0 _ _)) rfl rfl rfl rfl) <|
    hk (fun cx => cx.val (cx.wy rfl rfl rfl rfl (cx.u 1 rfl)) (ex_ld rfl (cx.u 0 rfl) (cx.rn 0 rfl) rfl Try.isAgg2) rfl rfl rfl rfl) <|
    hk (fun cx => cx.val (cx.wy rfl rfl rfl rfl (cx.u 0 rfl)) (ex_fa rfl (cx.rq 1 u_g1) (faRR25_3_0 _ _)) rfl rfl rfl rfl) <|
    hk (fun cx => cx.val (cx.wy rfl rfl rfl rfl (cx.u 1 rfl)) (ex_ld rfl (cx.u 0 rfl) (cx.rn 0 rfl) rfl Try.isAgg2) rfl rfl rfl rfl) <|
    hk (fun cx => cx.val (cx.wy rfl rfl rfl rfl (cx.u 2 rfl)) (ex_le (x := .tmp 10) (y := .tmp 12) rfl (cx.u 0 rfl) (cx.u 1 rfl)) rfl rfl (congrArg Value.bool Ffk2.out) rfl) <|
    hk (fun cx => cx.v (ex_pt rfl (cx.u 0 rfl) (cx.u 1 rfl)) rfl rfl) <|
    hk (fun cx => cx.v (ex_as rfl (cx.u 0 rfl)) rfl rfl) <|
    hn) ?_
   intro a3 w3 f3
   refine wp_ret ?_
   try simp only [Exit.inBlock, Exit.then]
   refine bodyPost_ret (res_t (fn := Try.f71) rfl (f3.v 12 rfl rfl rfl)) f3.d ?_
   have HE : Value.bool false = .bool (Rg.mayB ⟨⟨a, b⟩, ⟨c, d⟩⟩) := by show _ = Value.bool (decide (a ≤ b) && decide (c ≤ d)); rw [Ffk1.out, Ffk2.out]; rfl
   exact ⟨retV HE, f3.b⟩
  have Ffk2 := Lib.hid fk2; clear fk2
  refine go_reg [bx g1 25 (cR a b c d)] [] [some (pt g1 0), some (.int .u64 a), some (pt g1 1), some (.int .u64 b), some (.bool true), some (.bool true), some (pt g1 2), some (.int .i64 c), some (pt g1 3), some (.int .i64 d), some (.bool true), some (.bool true), some (.bool true)] mo f1.d f1.z f1.b (by kernel_rfl) ⟨b_g1, trivial⟩ (
   hk (fun cx => cx.v (ex_fa rfl (cx.rq 1 u_g1) (faRR25_0_0 _ _)) rfl rfl) <|
   hk (fun cx => cx.v (ex_ld rfl (cx.u 0 rfl) (cx.rn 0 rfl) rfl Try.isAgg23) rfl rfl) <|
   hk (fun cx => cx.v (ex_fa rfl (cx.rq 1 u_g1) (faRR25_1_0 _ _)) rfl rfl) <|
   hk (fun cx => cx.v (ex_ld rfl (cx.u 0 rfl) (cx.rn 0 rfl) rfl Try.isAgg23) rfl rfl) <|
   hk (fun cx => cx.v (ex_le (x := .tmp 4) (y := .tmp 6) rfl (cx.u 0 rfl) (cx.u 1 rfl)) rfl (congrArg Value.bool Ffk1.out)) <|
   hk (fun cx => cx.v (ex_mv rfl (cx.u 0 rfl)) rfl rfl) <|
   hk (fun cx => cx.val (cx.wy rfl rfl rfl rfl (cx.u 0 rfl)) (ex_fa rfl (cx.rq 1 u_g1) (faRR25_2_0 _ _)) rfl rfl rfl rfl) <|
   hk (fun cx => cx.val (cx.wy rfl rfl rfl rfl (cx.u 1 rfl)) (ex_ld rfl (cx.u 0 rfl) (cx.rn 0 rfl) rfl Try.isAgg2) rfl rfl rfl rfl) <|
   hk (fun cx => cx.val (cx.wy rfl rfl rfl rfl (cx.u 0 rfl)) (ex_fa rfl (cx.rq 1 u_g1) (faRR25_3_0 _ _)) rfl rfl rfl rfl) <|
   hk (fun cx => cx.val (cx.wy rfl rfl rfl rfl (cx.u 1 rfl)) (ex_ld rfl (cx.u 0 rfl) (cx.rn 0 rfl) rfl Try.isAgg2) rfl rfl rfl rfl) <|
   hk (fun cx => cx.val (cx.wy rfl rfl rfl rfl (cx.u 2 rfl)) (ex_le (x := .tmp 10) (y := .tmp 12) rfl (cx.u 0 rfl) (cx.u 1 rfl)) rfl rfl (congrArg Value.bool Ffk2.out) rfl) <|
   hk (fun cx => cx.v (ex_pt rfl (cx.u 0 rfl) (cx.u 1 rfl)) rfl rfl) <|
   hk (fun cx => cx.v (ex_as rfl (cx.u 0 rfl)) rfl rfl) <|
   hn) ?_
  intro a4 w4 f4
  refine wp_ret ?_
  try simp only [Exit.inBlock, Exit.then]
  refine bodyPost_ret (res_t (fn := Try.f71) rfl (f4.v 12 rfl rfl rfl)) f4.d ?_
  have HE : Value.bool true = .bool (Rg.mayB ⟨⟨a, b⟩, ⟨c, d⟩⟩) := by show _ = Value.bool (decide (a ≤ b) && decide (c ≤ d)); rw [Ffk1.out, Ffk2.out]; rfl
  exact ⟨retV HE, f4.b⟩
end Go.Proofs.Ytcnneeimkcnjfaa.Bnd
