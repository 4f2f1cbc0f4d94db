/-
  The law BoundsTells. (Written by gen_bndd.py.)
-/
import Derived.Test.YtnmgehjccafegaaBndW
import Derived.Test.YtnmgehjccafegaaBndO
import Derived.Test.YtnmgehjccafegaaBndU
import Derived.Test.YtnmgehjccafegaaBndV
namespace Go.Proofs.Ytnmgehjccafegaa.Bnd
open Go.RowKit
set_option linter.unusedVariables false
set_option linter.unusedSimpArgs false
set_option linter.unnecessarySimpa false
set_option maxRecDepth 100000



theorem eqR_refl (a : Rg) : eqR a a = true := by unfold eqR; simp
theorem neR_refl (a : Rg) : (!(eqR a a)) = false := by rw [eqR_refl]; rfl

set_option maxHeartbeats 40000000 in
theorem tells_law (op cc a b c d p q r t v : Int) (W : World) (ha : Rg.Ok ⟨⟨a, b⟩, ⟨c, d⟩⟩) (hb : Rg.Ok ⟨⟨p, q⟩, ⟨r, t⟩⟩) : Calls Try.prog 7 #[.int .i8 op, .int .i8 cc, .agg #[.int .u64 a, .int .u64 b, .int .i64 c, .int .i64 d], .agg #[.int .u64 p, .int .u64 q, .int .i64 r, .int .i64 t], .int .u64 v] W fun e w' => e = .returned (.bool true) ∧ Below W.heap.size W w' := by
  have HA := Lib.hid ha
  have HB := Lib.hid hb
  clear ha hb
  refine calls_abs Try.func7 rfl (Nat.le_of_ble_eq_true rfl) ?_
  intro a0 d0 z0 h0
  replace z0 : a0.tmps.size = 176 := z0
  have s0_0 : a0.tmps.getD 0 undef = .int .i8 op := h0 0 (Nat.le_of_ble_eq_true rfl)
  have s1_0 : a0.tmps.getD 1 undef = .int .i8 cc := h0 1 (Nat.le_of_ble_eq_true rfl)
  have s2_0 : a0.tmps.getD 2 undef = .agg (cR a b c d) := h0 2 (Nat.le_of_ble_eq_true rfl)
  have s3_0 : a0.tmps.getD 3 undef = .agg (cR p q r t) := h0 3 (Nat.le_of_ble_eq_true rfl)
  have s4_0 : a0.tmps.getD 4 undef = .int .u64 v := h0 4 (Nat.le_of_ble_eq_true rfl)
  refine wp_seq ?_
  refine go_reg [] [⟨0, 7, 60, (cR a b c d), none, #[]⟩, ⟨1, 8, 60, (cR p q r t), none, #[]⟩] [none, none, some (.bool false)] mo d0 z0 (Below.refl _ _) (by kernel_rfl) trivial (
   hc (fun _ ax _ cx => cx.al (wn rfl) 0 rfl (by simp [execOp, Act.eval, (show ax.tmps.getD 2 undef = .agg (cR a b c d) from (cx.rq 2 s2_0)), go_sem]) rfl rfl rfl rfl rfl trivial) <|
   hc (fun _ ax _ cx => cx.al (wn rfl) 1 rfl (by simp [execOp, Act.eval, (show ax.tmps.getD 3 undef = .agg (cR p q r t) from (cx.rq 3 s3_0)), go_sem]) rfl rfl rfl rfl rfl trivial) <|
   hk (fun cx => cx.v (ex_as rfl rfl) rfl rfl) <|
   hn) ?_
  intro a1 w1 f1
  obtain ⟨g1, u_g1, q_g1, b_g1⟩ := f1.al.1
  obtain ⟨g2, u_g2, q_g2, b_g2⟩ := f1.al.2.1
  refine wp_seq ?_
  refine go_reg [bx g1 60 (cR a b c d), bx g2 60 (cR p q r t)] [⟨6, 11, 60, (cR 0 0 0 0), some 7, (cR ((Rg.meetR ⟨⟨a, b⟩, ⟨c, d⟩⟩ ⟨⟨p, q⟩, ⟨r, t⟩⟩).u.lo) ((Rg.meetR ⟨⟨a, b⟩, ⟨c, d⟩⟩ ⟨⟨p, q⟩, ⟨r, t⟩⟩).u.hi) ((Rg.meetR ⟨⟨a, b⟩, ⟨c, d⟩⟩ ⟨⟨p, q⟩, ⟨r, t⟩⟩).s.lo) ((Rg.meetR ⟨⟨a, b⟩, ⟨c, d⟩⟩ ⟨⟨p, q⟩, ⟨r, t⟩⟩).s.hi))⟩] [some (.agg (cR a b c d)), some (.agg (cR p q r t)), some (.tuple #[.agg (cR ((Rg.meetR ⟨⟨a, b⟩, ⟨c, d⟩⟩ ⟨⟨p, q⟩, ⟨r, t⟩⟩).u.lo) ((Rg.meetR ⟨⟨a, b⟩, ⟨c, d⟩⟩ ⟨⟨p, q⟩, ⟨r, t⟩⟩).u.hi) ((Rg.meetR ⟨⟨a, b⟩, ⟨c, d⟩⟩ ⟨⟨p, q⟩, ⟨r, t⟩⟩).s.lo) ((Rg.meetR ⟨⟨a, b⟩, ⟨c, d⟩⟩ ⟨⟨p, q⟩, ⟨r, t⟩⟩).s.hi)), .bool (Rg.meetB ⟨⟨a, b⟩, ⟨c, d⟩⟩ ⟨⟨p, q⟩, ⟨r, t⟩⟩)]), some (.tuple #[.agg (cR ((Rg.meetR ⟨⟨a, b⟩, ⟨c, d⟩⟩ ⟨⟨p, q⟩, ⟨r, t⟩⟩).u.lo) ((Rg.meetR ⟨⟨a, b⟩, ⟨c, d⟩⟩ ⟨⟨p, q⟩, ⟨r, t⟩⟩).u.hi) ((Rg.meetR ⟨⟨a, b⟩, ⟨c, d⟩⟩ ⟨⟨p, q⟩, ⟨r, t⟩⟩).s.lo) ((Rg.meetR ⟨⟨a, b⟩, ⟨c, d⟩⟩ ⟨⟨p, q⟩, ⟨r, t⟩⟩).s.hi)), .bool (Rg.meetB ⟨⟨a, b⟩, ⟨c, d⟩⟩ ⟨⟨p, q⟩, ⟨r, t⟩⟩)]), some (.agg (cR ((Rg.meetR ⟨⟨a, b⟩, ⟨c, d⟩⟩ ⟨⟨p, q⟩, ⟨r, t⟩⟩).u.lo) ((Rg.meetR ⟨⟨a, b⟩, ⟨c, d⟩⟩ ⟨⟨p, q⟩, ⟨r, t⟩⟩).u.hi) ((Rg.meetR ⟨⟨a, b⟩, ⟨c, d⟩⟩ ⟨⟨p, q⟩, ⟨r, t⟩⟩).s.lo) ((Rg.meetR ⟨⟨a, b⟩, ⟨c, d⟩⟩ ⟨⟨p, q⟩, ⟨r, t⟩⟩).s.hi))), some (.bool (Rg.meetB ⟨⟨a, b⟩, ⟨c, d⟩⟩ ⟨⟨p, q⟩, ⟨r, t⟩⟩)), none, none, some (.bool (Rg.meetB ⟨⟨a, b⟩, ⟨c, d⟩⟩ ⟨⟨p, q⟩, ⟨r, t⟩⟩))] mo f1.d f1.z f1.b (by kernel_rfl) ⟨b_g1, b_g2, trivial⟩ (
   hk (fun cx => cx.v (ldR rfl (cx.rq 7 u_g1) (cx.rn 0 rfl)) rfl rfl) <|
   hk (fun cx => cx.v (ldR rfl (cx.rq 8 u_g2) (cx.rn 1 rfl)) rfl rfl) <|
   hc (fun _ _ wx cx => cx.c rfl (args2 (cx.u 0 rfl) (cx.u 1 rfl)) Try.func19 (by decide +kernel) (meet_n a b c d p q r t wx HA.out HB.out) rfl rfl) <|
   hk (fun cx => cx.v (ex_mv rfl (cx.u 0 rfl)) rfl rfl) <|
   hk (fun cx => cx.v (ex_ext (x := .tmp 27) rfl (cx.u 0 rfl) rfl) rfl rfl) <|
   hk (fun cx => cx.v (ex_ext (x := .tmp 27) rfl (cx.u 0 rfl) rfl) rfl rfl) <|
   hk (fun cx => cx.al (wn rfl) 0 rfl (by simp [execOp, Act.eval, go_sem]) rfl rfl rfl rfl (by kernel_rfl) trivial) <|
   hk (fun cx => cx.stA (wn rfl) rfl rfl 0 0 rfl rfl rfl rfl (cx.u 1 rfl) (by kernel_rfl) rfl (by simp [Value.oneCell']) f1.b.size rfl rfl trivial) <|
   hk (fun cx => cx.v (ex_as rfl (cx.u 0 rfl)) rfl rfl) <|
   hn) ?_
  intro a2 w2 f2
  obtain ⟨g3, u_g3, q_g3, b_g3⟩ := f2.al.1
  refine wp_seq ?_
  have b_g1_1 := f2.k b_g1
  have b_g2_2 := f2.k b_g2
  have s7_3 := f2.q 7 u_g1
  have s8_4 := f2.q 8 u_g2
  refine go_reg [bx g1 60 (cR a b c d), bx g2 60 (cR p q r t)] [⟨6, 13, 60, (cR 0 0 0 0), some 7, (cR ((Rg.meetR ⟨⟨a, b⟩, ⟨c, d⟩⟩ ⟨⟨p, q⟩, ⟨r, t⟩⟩).u.lo) ((Rg.meetR ⟨⟨a, b⟩, ⟨c, d⟩⟩ ⟨⟨p, q⟩, ⟨r, t⟩⟩).u.hi) ((Rg.meetR ⟨⟨a, b⟩, ⟨c, d⟩⟩ ⟨⟨p, q⟩, ⟨r, t⟩⟩).s.lo) ((Rg.meetR ⟨⟨a, b⟩, ⟨c, d⟩⟩ ⟨⟨p, q⟩, ⟨r, t⟩⟩).s.hi))⟩] [some (.agg (cR a b c d)), some (.agg (cR p q r t)), some (.tuple #[.agg (cR ((Rg.meetR ⟨⟨a, b⟩, ⟨c, d⟩⟩ ⟨⟨p, q⟩, ⟨r, t⟩⟩).u.lo) ((Rg.meetR ⟨⟨a, b⟩, ⟨c, d⟩⟩ ⟨⟨p, q⟩, ⟨r, t⟩⟩).u.hi) ((Rg.meetR ⟨⟨a, b⟩, ⟨c, d⟩⟩ ⟨⟨p, q⟩, ⟨r, t⟩⟩).s.lo) ((Rg.meetR ⟨⟨a, b⟩, ⟨c, d⟩⟩ ⟨⟨p, q⟩, ⟨r, t⟩⟩).s.hi)), .bool (Rg.meetB ⟨⟨a, b⟩, ⟨c, d⟩⟩ ⟨⟨p, q⟩, ⟨r, t⟩⟩)]), some (.tuple #[.agg (cR ((Rg.meetR ⟨⟨a, b⟩, ⟨c, d⟩⟩ ⟨⟨p, q⟩, ⟨r, t⟩⟩).u.lo) ((Rg.meetR ⟨⟨a, b⟩, ⟨c, d⟩⟩ ⟨⟨p, q⟩, ⟨r, t⟩⟩).u.hi) ((Rg.meetR ⟨⟨a, b⟩, ⟨c, d⟩⟩ ⟨⟨p, q⟩, ⟨r, t⟩⟩).s.lo) ((Rg.meetR ⟨⟨a, b⟩, ⟨c, d⟩⟩ ⟨⟨p, q⟩, ⟨r, t⟩⟩).s.hi)), .bool (Rg.meetB ⟨⟨a, b⟩, ⟨c, d⟩⟩ ⟨⟨p, q⟩, ⟨r, t⟩⟩)]), some (.agg (cR ((Rg.meetR ⟨⟨a, b⟩, ⟨c, d⟩⟩ ⟨⟨p, q⟩, ⟨r, t⟩⟩).u.lo) ((Rg.meetR ⟨⟨a, b⟩, ⟨c, d⟩⟩ ⟨⟨p, q⟩, ⟨r, t⟩⟩).u.hi) ((Rg.meetR ⟨⟨a, b⟩, ⟨c, d⟩⟩ ⟨⟨p, q⟩, ⟨r, t⟩⟩).s.lo) ((Rg.meetR ⟨⟨a, b⟩, ⟨c, d⟩⟩ ⟨⟨p, q⟩, ⟨r, t⟩⟩).s.hi))), some (.bool (Rg.meetB ⟨⟨a, b⟩, ⟨c, d⟩⟩ ⟨⟨p, q⟩, ⟨r, t⟩⟩)), none, none, some (.bool (Rg.meetB ⟨⟨a, b⟩, ⟨c, d⟩⟩ ⟨⟨p, q⟩, ⟨r, t⟩⟩))] mo f2.d f2.z f2.b (by kernel_rfl) ⟨b_g1_1, b_g2_2, trivial⟩ (
   hk (fun cx => cx.v (ldR rfl (cx.rq 7 s7_3) (cx.rn 0 rfl)) rfl rfl) <|
   hk (fun cx => cx.v (ldR rfl (cx.rq 8 s8_4) (cx.rn 1 rfl)) rfl rfl) <|
   hc (fun _ _ wx cx => cx.c rfl (args2 (cx.u 0 rfl) (cx.u 1 rfl)) Try.func20 (by decide +kernel) (rmeet_n a b c d p q r t wx HA.out HB.out) rfl rfl) <|
   hk (fun cx => cx.v (ex_mv rfl (cx.u 0 rfl)) rfl rfl) <|
   hk (fun cx => cx.v (ex_ext (x := .tmp 33) rfl (cx.u 0 rfl) rfl) rfl rfl) <|
   hk (fun cx => cx.v (ex_ext (x := .tmp 33) rfl (cx.u 0 rfl) rfl) rfl rfl) <|
   hk (fun cx => cx.al (wn rfl) 0 rfl (by simp [execOp, Act.eval, go_sem]) rfl rfl rfl rfl (by kernel_rfl) trivial) <|
   hk (fun cx => cx.stA (wn rfl) rfl rfl 0 0 rfl rfl rfl rfl (cx.u 1 rfl) (by kernel_rfl) rfl (by simp [Value.oneCell']) f2.b.size rfl rfl trivial) <|
   hk (fun cx => cx.v (ex_as rfl (cx.u 0 rfl)) rfl rfl) <|
   hn) ?_
  intro a3 w3 f3
  obtain ⟨g4, u_g4, q_g4, b_g4⟩ := f3.al.1
  refine wp_seq ?_
  have b_g1_5 := f3.k b_g1_1
  have b_g2_6 := f3.k b_g2_2
  have s1_7 := f3.q 1 (f2.q 1 (f1.q 1 s1_0))
  have s7_8 := f3.q 7 s7_3
  have s8_9 := f3.q 8 s8_4
  refine go_reg [bx g1 60 (cR a b c d), bx g2 60 (cR p q r t)] [⟨7, 15, 60, (cR 0 0 0 0), some 8, (cR ((Rg.giv cc ⟨⟨a, b⟩, ⟨c, d⟩⟩ ⟨⟨p, q⟩, ⟨r, t⟩⟩).u.lo) ((Rg.giv cc ⟨⟨a, b⟩, ⟨c, d⟩⟩ ⟨⟨p, q⟩, ⟨r, t⟩⟩).u.hi) ((Rg.giv cc ⟨⟨a, b⟩, ⟨c, d⟩⟩ ⟨⟨p, q⟩, ⟨r, t⟩⟩).s.lo) ((Rg.giv cc ⟨⟨a, b⟩, ⟨c, d⟩⟩ ⟨⟨p, q⟩, ⟨r, t⟩⟩).s.hi))⟩] [some (.int .i8 cc), some (.agg (cR a b c d)), some (.agg (cR p q r t)), some (.tuple #[.agg (cR ((Rg.giv cc ⟨⟨a, b⟩, ⟨c, d⟩⟩ ⟨⟨p, q⟩, ⟨r, t⟩⟩).u.lo) ((Rg.giv cc ⟨⟨a, b⟩, ⟨c, d⟩⟩ ⟨⟨p, q⟩, ⟨r, t⟩⟩).u.hi) ((Rg.giv cc ⟨⟨a, b⟩, ⟨c, d⟩⟩ ⟨⟨p, q⟩, ⟨r, t⟩⟩).s.lo) ((Rg.giv cc ⟨⟨a, b⟩, ⟨c, d⟩⟩ ⟨⟨p, q⟩, ⟨r, t⟩⟩).s.hi)), .bool (Rg.givB cc ⟨⟨a, b⟩, ⟨c, d⟩⟩ ⟨⟨p, q⟩, ⟨r, t⟩⟩)]), some (.tuple #[.agg (cR ((Rg.giv cc ⟨⟨a, b⟩, ⟨c, d⟩⟩ ⟨⟨p, q⟩, ⟨r, t⟩⟩).u.lo) ((Rg.giv cc ⟨⟨a, b⟩, ⟨c, d⟩⟩ ⟨⟨p, q⟩, ⟨r, t⟩⟩).u.hi) ((Rg.giv cc ⟨⟨a, b⟩, ⟨c, d⟩⟩ ⟨⟨p, q⟩, ⟨r, t⟩⟩).s.lo) ((Rg.giv cc ⟨⟨a, b⟩, ⟨c, d⟩⟩ ⟨⟨p, q⟩, ⟨r, t⟩⟩).s.hi)), .bool (Rg.givB cc ⟨⟨a, b⟩, ⟨c, d⟩⟩ ⟨⟨p, q⟩, ⟨r, t⟩⟩)]), some (.agg (cR ((Rg.giv cc ⟨⟨a, b⟩, ⟨c, d⟩⟩ ⟨⟨p, q⟩, ⟨r, t⟩⟩).u.lo) ((Rg.giv cc ⟨⟨a, b⟩, ⟨c, d⟩⟩ ⟨⟨p, q⟩, ⟨r, t⟩⟩).u.hi) ((Rg.giv cc ⟨⟨a, b⟩, ⟨c, d⟩⟩ ⟨⟨p, q⟩, ⟨r, t⟩⟩).s.lo) ((Rg.giv cc ⟨⟨a, b⟩, ⟨c, d⟩⟩ ⟨⟨p, q⟩, ⟨r, t⟩⟩).s.hi))), some (.bool (Rg.givB cc ⟨⟨a, b⟩, ⟨c, d⟩⟩ ⟨⟨p, q⟩, ⟨r, t⟩⟩)), none, none, some (.bool (Rg.givB cc ⟨⟨a, b⟩, ⟨c, d⟩⟩ ⟨⟨p, q⟩, ⟨r, t⟩⟩))] mo f3.d f3.z f3.b (by kernel_rfl) ⟨b_g1_5, b_g2_6, trivial⟩ (
   hk (fun cx => cx.v (ex_mv rfl (cx.rq 1 s1_7)) rfl rfl) <|
   hk (fun cx => cx.v (ldR rfl (cx.rq 7 s7_8) (cx.rn 0 rfl)) rfl rfl) <|
   hk (fun cx => cx.v (ldR rfl (cx.rq 8 s8_9) (cx.rn 1 rfl)) rfl rfl) <|
   hc (fun _ _ wx cx => cx.c rfl (args3 (cx.u 0 rfl) (cx.u 1 rfl) (cx.u 2 rfl)) Try.func21 (by decide +kernel) (given_n cc a b c d p q r t wx HA.out HB.out) rfl rfl) <|
   hk (fun cx => cx.v (ex_mv rfl (cx.u 0 rfl)) rfl rfl) <|
   hk (fun cx => cx.v (ex_ext (x := .tmp 39) rfl (cx.u 0 rfl) rfl) rfl rfl) <|
   hk (fun cx => cx.v (ex_ext (x := .tmp 39) rfl (cx.u 0 rfl) rfl) rfl rfl) <|
   hk (fun cx => cx.al (wn rfl) 0 rfl (by simp [execOp, Act.eval, go_sem]) rfl rfl rfl rfl (by kernel_rfl) trivial) <|
   hk (fun cx => cx.stA (wn rfl) rfl rfl 0 0 rfl rfl rfl rfl (cx.u 1 rfl) (by kernel_rfl) rfl (by simp [Value.oneCell']) f3.b.size rfl rfl trivial) <|
   hk (fun cx => cx.v (ex_as rfl (cx.u 0 rfl)) rfl rfl) <|
   hn) ?_
  intro a4 w4 f4
  obtain ⟨g5, u_g5, q_g5, b_g5⟩ := f4.al.1
  refine wp_seq ?_
  have b_g1_10 := f4.k b_g1_5
  have b_g2_11 := f4.k b_g2_6
  have s1_12 := f4.q 1 s1_7
  have s7_13 := f4.q 7 s7_8
  have s8_14 := f4.q 8 s8_9
  refine go_reg [bx g1 60 (cR a b c d), bx g2 60 (cR p q r t)] [⟨7, 17, 60, (cR 0 0 0 0), some 8, (cR ((Rg.giv cc ⟨⟨a, b⟩, ⟨c, d⟩⟩ ⟨⟨p, q⟩, ⟨r, t⟩⟩).u.lo) ((Rg.giv cc ⟨⟨a, b⟩, ⟨c, d⟩⟩ ⟨⟨p, q⟩, ⟨r, t⟩⟩).u.hi) ((Rg.giv cc ⟨⟨a, b⟩, ⟨c, d⟩⟩ ⟨⟨p, q⟩, ⟨r, t⟩⟩).s.lo) ((Rg.giv cc ⟨⟨a, b⟩, ⟨c, d⟩⟩ ⟨⟨p, q⟩, ⟨r, t⟩⟩).s.hi))⟩] [some (.int .i8 cc), some (.agg (cR a b c d)), some (.agg (cR p q r t)), some (.tuple #[.agg (cR ((Rg.giv cc ⟨⟨a, b⟩, ⟨c, d⟩⟩ ⟨⟨p, q⟩, ⟨r, t⟩⟩).u.lo) ((Rg.giv cc ⟨⟨a, b⟩, ⟨c, d⟩⟩ ⟨⟨p, q⟩, ⟨r, t⟩⟩).u.hi) ((Rg.giv cc ⟨⟨a, b⟩, ⟨c, d⟩⟩ ⟨⟨p, q⟩, ⟨r, t⟩⟩).s.lo) ((Rg.giv cc ⟨⟨a, b⟩, ⟨c, d⟩⟩ ⟨⟨p, q⟩, ⟨r, t⟩⟩).s.hi)), .bool (Rg.givB cc ⟨⟨a, b⟩, ⟨c, d⟩⟩ ⟨⟨p, q⟩, ⟨r, t⟩⟩)]), some (.tuple #[.agg (cR ((Rg.giv cc ⟨⟨a, b⟩, ⟨c, d⟩⟩ ⟨⟨p, q⟩, ⟨r, t⟩⟩).u.lo) ((Rg.giv cc ⟨⟨a, b⟩, ⟨c, d⟩⟩ ⟨⟨p, q⟩, ⟨r, t⟩⟩).u.hi) ((Rg.giv cc ⟨⟨a, b⟩, ⟨c, d⟩⟩ ⟨⟨p, q⟩, ⟨r, t⟩⟩).s.lo) ((Rg.giv cc ⟨⟨a, b⟩, ⟨c, d⟩⟩ ⟨⟨p, q⟩, ⟨r, t⟩⟩).s.hi)), .bool (Rg.givB cc ⟨⟨a, b⟩, ⟨c, d⟩⟩ ⟨⟨p, q⟩, ⟨r, t⟩⟩)]), some (.agg (cR ((Rg.giv cc ⟨⟨a, b⟩, ⟨c, d⟩⟩ ⟨⟨p, q⟩, ⟨r, t⟩⟩).u.lo) ((Rg.giv cc ⟨⟨a, b⟩, ⟨c, d⟩⟩ ⟨⟨p, q⟩, ⟨r, t⟩⟩).u.hi) ((Rg.giv cc ⟨⟨a, b⟩, ⟨c, d⟩⟩ ⟨⟨p, q⟩, ⟨r, t⟩⟩).s.lo) ((Rg.giv cc ⟨⟨a, b⟩, ⟨c, d⟩⟩ ⟨⟨p, q⟩, ⟨r, t⟩⟩).s.hi))), some (.bool (Rg.givB cc ⟨⟨a, b⟩, ⟨c, d⟩⟩ ⟨⟨p, q⟩, ⟨r, t⟩⟩)), none, none, some (.bool (Rg.givB cc ⟨⟨a, b⟩, ⟨c, d⟩⟩ ⟨⟨p, q⟩, ⟨r, t⟩⟩))] mo f4.d f4.z f4.b (by kernel_rfl) ⟨b_g1_10, b_g2_11, trivial⟩ (
   hk (fun cx => cx.v (ex_mv rfl (cx.rq 1 s1_12)) rfl rfl) <|
   hk (fun cx => cx.v (ldR rfl (cx.rq 7 s7_13) (cx.rn 0 rfl)) rfl rfl) <|
   hk (fun cx => cx.v (ldR rfl (cx.rq 8 s8_14) (cx.rn 1 rfl)) rfl rfl) <|
   hc (fun _ _ wx cx => cx.c rfl (args3 (cx.u 0 rfl) (cx.u 1 rfl) (cx.u 2 rfl)) Try.func22 (by decide +kernel) (rgiven_n cc a b c d p q r t wx HA.out HB.out) rfl rfl) <|
   hk (fun cx => cx.v (ex_mv rfl (cx.u 0 rfl)) rfl rfl) <|
   hk (fun cx => cx.v (ex_ext (x := .tmp 46) rfl (cx.u 0 rfl) rfl) rfl rfl) <|
   hk (fun cx => cx.v (ex_ext (x := .tmp 46) rfl (cx.u 0 rfl) rfl) rfl rfl) <|
   hk (fun cx => cx.al (wn rfl) 0 rfl (by simp [execOp, Act.eval, go_sem]) rfl rfl rfl rfl (by kernel_rfl) trivial) <|
   hk (fun cx => cx.stA (wn rfl) rfl rfl 0 0 rfl rfl rfl rfl (cx.u 1 rfl) (by kernel_rfl) rfl (by simp [Value.oneCell']) f4.b.size rfl rfl trivial) <|
   hk (fun cx => cx.v (ex_as rfl (cx.u 0 rfl)) rfl rfl) <|
   hn) ?_
  intro a5 w5 f5
  obtain ⟨g6, u_g6, q_g6, b_g6⟩ := f5.al.1
  refine wp_seq ?_
  have b_g1_15 := f5.k b_g1_10
  have s7_16 := f5.q 7 s7_13
  refine go_reg [bx g1 60 (cR a b c d)] [] [some (.agg (cR a b c d)), some (.tuple #[.int .u64 (Rg.oneV ⟨⟨a, b⟩, ⟨c, d⟩⟩), .bool (Rg.oneB ⟨⟨a, b⟩, ⟨c, d⟩⟩)]), some (.tuple #[.int .u64 (Rg.oneV ⟨⟨a, b⟩, ⟨c, d⟩⟩), .bool (Rg.oneB ⟨⟨a, b⟩, ⟨c, d⟩⟩)]), some (.int .u64 (Rg.oneV ⟨⟨a, b⟩, ⟨c, d⟩⟩)), some (.bool (Rg.oneB ⟨⟨a, b⟩, ⟨c, d⟩⟩)), some (.int .u64 (Rg.oneV ⟨⟨a, b⟩, ⟨c, d⟩⟩)), some (.bool (Rg.oneB ⟨⟨a, b⟩, ⟨c, d⟩⟩))] mo f5.d f5.z f5.b (by kernel_rfl) ⟨b_g1_15, trivial⟩ (
   hk (fun cx => cx.v (ldR rfl (cx.rq 7 s7_16) (cx.rn 0 rfl)) rfl rfl) <|
   hc (fun _ _ wx cx => cx.c rfl (args1 (cx.u 0 rfl)) Try.func23 (by decide +kernel) (single_n a b c d wx) rfl rfl) <|
   hk (fun cx => cx.v (ex_mv rfl (cx.u 0 rfl)) rfl rfl) <|
   hk (fun cx => cx.v (ex_ext (x := .tmp 53) rfl (cx.u 0 rfl) rfl) rfl rfl) <|
   hk (fun cx => cx.v (ex_ext (x := .tmp 53) rfl (cx.u 0 rfl) rfl) rfl rfl) <|
   hk (fun cx => cx.v (ex_as rfl (cx.u 0 rfl)) rfl rfl) <|
   hk (fun cx => cx.v (ex_as rfl (cx.u 0 rfl)) rfl rfl) <|
   hn) ?_
  intro a6 w6 f6
  refine wp_seq ?_
  have b_g1_17 := f6.k b_g1_15
  have s7_18 := f6.q 7 s7_16
  refine go_reg [bx g1 60 (cR a b c d)] [] [some (.agg (cR a b c d)), some (.tuple #[.int .u64 (Rg.oneV ⟨⟨a, b⟩, ⟨c, d⟩⟩), .bool (Rg.oneB ⟨⟨a, b⟩, ⟨c, d⟩⟩)]), some (.tuple #[.int .u64 (Rg.oneV ⟨⟨a, b⟩, ⟨c, d⟩⟩), .bool (Rg.oneB ⟨⟨a, b⟩, ⟨c, d⟩⟩)]), some (.int .u64 (Rg.oneV ⟨⟨a, b⟩, ⟨c, d⟩⟩)), some (.bool (Rg.oneB ⟨⟨a, b⟩, ⟨c, d⟩⟩)), some (.int .u64 (Rg.oneV ⟨⟨a, b⟩, ⟨c, d⟩⟩)), some (.bool (Rg.oneB ⟨⟨a, b⟩, ⟨c, d⟩⟩))] mo f6.d f6.z f6.b (by kernel_rfl) ⟨b_g1_17, trivial⟩ (
   hk (fun cx => cx.v (ldR rfl (cx.rq 7 s7_18) (cx.rn 0 rfl)) rfl rfl) <|
   hc (fun _ _ wx cx => cx.c rfl (args1 (cx.u 0 rfl)) Try.func24 (by decide +kernel) (rsingle_n a b c d wx) rfl rfl) <|
   hk (fun cx => cx.v (ex_mv rfl (cx.u 0 rfl)) rfl rfl) <|
   hk (fun cx => cx.v (ex_ext (x := .tmp 58) rfl (cx.u 0 rfl) rfl) rfl rfl) <|
   hk (fun cx => cx.v (ex_ext (x := .tmp 58) rfl (cx.u 0 rfl) rfl) rfl rfl) <|
   hk (fun cx => cx.v (ex_as rfl (cx.u 0 rfl)) rfl rfl) <|
   hk (fun cx => cx.v (ex_as rfl (cx.u 0 rfl)) rfl rfl) <|
   hn) ?_
  intro a7 w7 f7
  refine wp_seq ?_
  have b_g1_19 := f7.k b_g1_17
  have s7_20 := f7.q 7 s7_18
  refine go_reg [bx g1 60 (cR a b c d)] [⟨5, 23, 60, (cR 0 0 0 0), some 6, (cR ((Rg.nar ⟨⟨a, b⟩, ⟨c, d⟩⟩).u.lo) ((Rg.nar ⟨⟨a, b⟩, ⟨c, d⟩⟩).u.hi) ((Rg.nar ⟨⟨a, b⟩, ⟨c, d⟩⟩).s.lo) ((Rg.nar ⟨⟨a, b⟩, ⟨c, d⟩⟩).s.hi))⟩] [some (.agg (cR a b c d)), some (.tuple #[.agg (cR ((Rg.nar ⟨⟨a, b⟩, ⟨c, d⟩⟩).u.lo) ((Rg.nar ⟨⟨a, b⟩, ⟨c, d⟩⟩).u.hi) ((Rg.nar ⟨⟨a, b⟩, ⟨c, d⟩⟩).s.lo) ((Rg.nar ⟨⟨a, b⟩, ⟨c, d⟩⟩).s.hi)), .bool (Rg.narB ⟨⟨a, b⟩, ⟨c, d⟩⟩)]), some (.tuple #[.agg (cR ((Rg.nar ⟨⟨a, b⟩, ⟨c, d⟩⟩).u.lo) ((Rg.nar ⟨⟨a, b⟩, ⟨c, d⟩⟩).u.hi) ((Rg.nar ⟨⟨a, b⟩, ⟨c, d⟩⟩).s.lo) ((Rg.nar ⟨⟨a, b⟩, ⟨c, d⟩⟩).s.hi)), .bool (Rg.narB ⟨⟨a, b⟩, ⟨c, d⟩⟩)]), some (.agg (cR ((Rg.nar ⟨⟨a, b⟩, ⟨c, d⟩⟩).u.lo) ((Rg.nar ⟨⟨a, b⟩, ⟨c, d⟩⟩).u.hi) ((Rg.nar ⟨⟨a, b⟩, ⟨c, d⟩⟩).s.lo) ((Rg.nar ⟨⟨a, b⟩, ⟨c, d⟩⟩).s.hi))), some (.bool (Rg.narB ⟨⟨a, b⟩, ⟨c, d⟩⟩)), none, none, some (.bool (Rg.narB ⟨⟨a, b⟩, ⟨c, d⟩⟩))] mo f7.d f7.z f7.b (by kernel_rfl) ⟨b_g1_19, trivial⟩ (
   hk (fun cx => cx.v (ldR rfl (cx.rq 7 s7_20) (cx.rn 0 rfl)) rfl rfl) <|
   hc (fun _ _ wx cx => cx.c rfl (args1 (cx.u 0 rfl)) Try.func25 (by decide +kernel) (narrow_n a b c d wx HA.out) rfl rfl) <|
   hk (fun cx => cx.v (ex_mv rfl (cx.u 0 rfl)) rfl rfl) <|
   hk (fun cx => cx.v (ex_ext (x := .tmp 63) rfl (cx.u 0 rfl) rfl) rfl rfl) <|
   hk (fun cx => cx.v (ex_ext (x := .tmp 63) rfl (cx.u 0 rfl) rfl) rfl rfl) <|
   hk (fun cx => cx.al (wn rfl) 0 rfl (by simp [execOp, Act.eval, go_sem]) rfl rfl rfl rfl (by kernel_rfl) trivial) <|
   hk (fun cx => cx.stA (wn rfl) rfl rfl 0 0 rfl rfl rfl rfl (cx.u 1 rfl) (by kernel_rfl) rfl (by simp [Value.oneCell']) f7.b.size rfl rfl trivial) <|
   hk (fun cx => cx.v (ex_as rfl (cx.u 0 rfl)) rfl rfl) <|
   hn) ?_
  intro a8 w8 f8
  obtain ⟨g7, u_g7, q_g7, b_g7⟩ := f8.al.1
  refine wp_seq ?_
  have b_g1_21 := f8.k b_g1_19
  have s7_22 := f8.q 7 s7_20
  refine go_reg [bx g1 60 (cR a b c d)] [⟨5, 25, 60, (cR 0 0 0 0), some 6, (cR ((Rg.nar ⟨⟨a, b⟩, ⟨c, d⟩⟩).u.lo) ((Rg.nar ⟨⟨a, b⟩, ⟨c, d⟩⟩).u.hi) ((Rg.nar ⟨⟨a, b⟩, ⟨c, d⟩⟩).s.lo) ((Rg.nar ⟨⟨a, b⟩, ⟨c, d⟩⟩).s.hi))⟩] [some (.agg (cR a b c d)), some (.tuple #[.agg (cR ((Rg.nar ⟨⟨a, b⟩, ⟨c, d⟩⟩).u.lo) ((Rg.nar ⟨⟨a, b⟩, ⟨c, d⟩⟩).u.hi) ((Rg.nar ⟨⟨a, b⟩, ⟨c, d⟩⟩).s.lo) ((Rg.nar ⟨⟨a, b⟩, ⟨c, d⟩⟩).s.hi)), .bool (Rg.narB ⟨⟨a, b⟩, ⟨c, d⟩⟩)]), some (.tuple #[.agg (cR ((Rg.nar ⟨⟨a, b⟩, ⟨c, d⟩⟩).u.lo) ((Rg.nar ⟨⟨a, b⟩, ⟨c, d⟩⟩).u.hi) ((Rg.nar ⟨⟨a, b⟩, ⟨c, d⟩⟩).s.lo) ((Rg.nar ⟨⟨a, b⟩, ⟨c, d⟩⟩).s.hi)), .bool (Rg.narB ⟨⟨a, b⟩, ⟨c, d⟩⟩)]), some (.agg (cR ((Rg.nar ⟨⟨a, b⟩, ⟨c, d⟩⟩).u.lo) ((Rg.nar ⟨⟨a, b⟩, ⟨c, d⟩⟩).u.hi) ((Rg.nar ⟨⟨a, b⟩, ⟨c, d⟩⟩).s.lo) ((Rg.nar ⟨⟨a, b⟩, ⟨c, d⟩⟩).s.hi))), some (.bool (Rg.narB ⟨⟨a, b⟩, ⟨c, d⟩⟩)), none, none, some (.bool (Rg.narB ⟨⟨a, b⟩, ⟨c, d⟩⟩))] mo f8.d f8.z f8.b (by kernel_rfl) ⟨b_g1_21, trivial⟩ (
   hk (fun cx => cx.v (ldR rfl (cx.rq 7 s7_22) (cx.rn 0 rfl)) rfl rfl) <|
   hc (fun _ _ wx cx => cx.c rfl (args1 (cx.u 0 rfl)) Try.func26 (by decide +kernel) (rnarrow_n a b c d wx HA.out) rfl rfl) <|
   hk (fun cx => cx.v (ex_mv rfl (cx.u 0 rfl)) rfl rfl) <|
   hk (fun cx => cx.v (ex_ext (x := .tmp 68) rfl (cx.u 0 rfl) rfl) rfl rfl) <|
   hk (fun cx => cx.v (ex_ext (x := .tmp 68) rfl (cx.u 0 rfl) rfl) rfl rfl) <|
   hk (fun cx => cx.al (wn rfl) 0 rfl (by simp [execOp, Act.eval, go_sem]) rfl rfl rfl rfl (by kernel_rfl) trivial) <|
   hk (fun cx => cx.stA (wn rfl) rfl rfl 0 0 rfl rfl rfl rfl (cx.u 1 rfl) (by kernel_rfl) rfl (by simp [Value.oneCell']) f8.b.size rfl rfl trivial) <|
   hk (fun cx => cx.v (ex_as rfl (cx.u 0 rfl)) rfl rfl) <|
   hn) ?_
  intro a9 w9 f9
  obtain ⟨g8, u_g8, q_g8, b_g8⟩ := f9.al.1
  refine wp_seq ?_
  refine wp_seq ?_
  have b_g3_23 := f9.k (f8.k (f7.k (f6.k (f5.k (f4.k (f3.k b_g3))))))
  have b_g4_24 := f9.k (f8.k (f7.k (f6.k (f5.k (f4.k b_g4)))))
  have b_g5_25 := f9.k (f8.k (f7.k (f6.k (f5.k b_g5))))
  have b_g6_26 := f9.k (f8.k (f7.k (f6.k b_g6)))
  have b_g7_27 := f9.k b_g7
  have s11_28 := f9.q 11 (f8.q 11 (f7.q 11 (f6.q 11 (f5.q 11 (f4.q 11 (f3.q 11 u_g3))))))
  have s13_29 := f9.q 13 (f8.q 13 (f7.q 13 (f6.q 13 (f5.q 13 (f4.q 13 u_g4)))))
  have s12_30 := f9.q 12 (f8.q 12 (f7.q 12 (f6.q 12 (f5.q 12 (f4.q 12 (f3.q 12 (f2.v 8 rfl rfl rfl)))))))
  have s14_31 := f9.q 14 (f8.q 14 (f7.q 14 (f6.q 14 (f5.q 14 (f4.q 14 (f3.v 8 rfl rfl rfl))))))
  have s15_32 := f9.q 15 (f8.q 15 (f7.q 15 (f6.q 15 (f5.q 15 u_g5))))
  have s17_33 := f9.q 17 (f8.q 17 (f7.q 17 (f6.q 17 u_g6)))
  have s16_34 := f9.q 16 (f8.q 16 (f7.q 16 (f6.q 16 (f5.q 16 (f4.v 9 rfl rfl rfl)))))
  have s18_35 := f9.q 18 (f8.q 18 (f7.q 18 (f6.q 18 (f5.v 9 rfl rfl rfl))))
  have s19_36 := f9.q 19 (f8.q 19 (f7.q 19 (f6.v 5 rfl rfl rfl)))
  have s21_37 := f9.q 21 (f8.q 21 (f7.v 5 rfl rfl rfl))
  have s20_38 := f9.q 20 (f8.q 20 (f7.q 20 (f6.v 6 rfl rfl rfl)))
  have s22_39 := f9.q 22 (f8.q 22 (f7.v 6 rfl rfl rfl))
  have s23_40 := f9.q 23 u_g7
  have s24_41 := f9.q 24 (f8.v 7 rfl rfl rfl)
  refine go_reg [bx g3 60 (cR ((Rg.meetR ⟨⟨a, b⟩, ⟨c, d⟩⟩ ⟨⟨p, q⟩, ⟨r, t⟩⟩).u.lo) ((Rg.meetR ⟨⟨a, b⟩, ⟨c, d⟩⟩ ⟨⟨p, q⟩, ⟨r, t⟩⟩).u.hi) ((Rg.meetR ⟨⟨a, b⟩, ⟨c, d⟩⟩ ⟨⟨p, q⟩, ⟨r, t⟩⟩).s.lo) ((Rg.meetR ⟨⟨a, b⟩, ⟨c, d⟩⟩ ⟨⟨p, q⟩, ⟨r, t⟩⟩).s.hi)), bx g4 60 (cR ((Rg.meetR ⟨⟨a, b⟩, ⟨c, d⟩⟩ ⟨⟨p, q⟩, ⟨r, t⟩⟩).u.lo) ((Rg.meetR ⟨⟨a, b⟩, ⟨c, d⟩⟩ ⟨⟨p, q⟩, ⟨r, t⟩⟩).u.hi) ((Rg.meetR ⟨⟨a, b⟩, ⟨c, d⟩⟩ ⟨⟨p, q⟩, ⟨r, t⟩⟩).s.lo) ((Rg.meetR ⟨⟨a, b⟩, ⟨c, d⟩⟩ ⟨⟨p, q⟩, ⟨r, t⟩⟩).s.hi)), bx g5 60 (cR ((Rg.giv cc ⟨⟨a, b⟩, ⟨c, d⟩⟩ ⟨⟨p, q⟩, ⟨r, t⟩⟩).u.lo) ((Rg.giv cc ⟨⟨a, b⟩, ⟨c, d⟩⟩ ⟨⟨p, q⟩, ⟨r, t⟩⟩).u.hi) ((Rg.giv cc ⟨⟨a, b⟩, ⟨c, d⟩⟩ ⟨⟨p, q⟩, ⟨r, t⟩⟩).s.lo) ((Rg.giv cc ⟨⟨a, b⟩, ⟨c, d⟩⟩ ⟨⟨p, q⟩, ⟨r, t⟩⟩).s.hi)), bx g6 60 (cR ((Rg.giv cc ⟨⟨a, b⟩, ⟨c, d⟩⟩ ⟨⟨p, q⟩, ⟨r, t⟩⟩).u.lo) ((Rg.giv cc ⟨⟨a, b⟩, ⟨c, d⟩⟩ ⟨⟨p, q⟩, ⟨r, t⟩⟩).u.hi) ((Rg.giv cc ⟨⟨a, b⟩, ⟨c, d⟩⟩ ⟨⟨p, q⟩, ⟨r, t⟩⟩).s.lo) ((Rg.giv cc ⟨⟨a, b⟩, ⟨c, d⟩⟩ ⟨⟨p, q⟩, ⟨r, t⟩⟩).s.hi)), bx g7 60 (cR ((Rg.nar ⟨⟨a, b⟩, ⟨c, d⟩⟩).u.lo) ((Rg.nar ⟨⟨a, b⟩, ⟨c, d⟩⟩).u.hi) ((Rg.nar ⟨⟨a, b⟩, ⟨c, d⟩⟩).s.lo) ((Rg.nar ⟨⟨a, b⟩, ⟨c, d⟩⟩).s.hi)), bx g8 60 (cR ((Rg.nar ⟨⟨a, b⟩, ⟨c, d⟩⟩).u.lo) ((Rg.nar ⟨⟨a, b⟩, ⟨c, d⟩⟩).u.hi) ((Rg.nar ⟨⟨a, b⟩, ⟨c, d⟩⟩).s.lo) ((Rg.nar ⟨⟨a, b⟩, ⟨c, d⟩⟩).s.hi))] [] (tabs [some (.agg (cR ((Rg.meetR ⟨⟨a, b⟩, ⟨c, d⟩⟩ ⟨⟨p, q⟩, ⟨r, t⟩⟩).u.lo) ((Rg.meetR ⟨⟨a, b⟩, ⟨c, d⟩⟩ ⟨⟨p, q⟩, ⟨r, t⟩⟩).u.hi) ((Rg.meetR ⟨⟨a, b⟩, ⟨c, d⟩⟩ ⟨⟨p, q⟩, ⟨r, t⟩⟩).s.lo) ((Rg.meetR ⟨⟨a, b⟩, ⟨c, d⟩⟩ ⟨⟨p, q⟩, ⟨r, t⟩⟩).s.hi))), some (.agg (cR ((Rg.meetR ⟨⟨a, b⟩, ⟨c, d⟩⟩ ⟨⟨p, q⟩, ⟨r, t⟩⟩).u.lo) ((Rg.meetR ⟨⟨a, b⟩, ⟨c, d⟩⟩ ⟨⟨p, q⟩, ⟨r, t⟩⟩).u.hi) ((Rg.meetR ⟨⟨a, b⟩, ⟨c, d⟩⟩ ⟨⟨p, q⟩, ⟨r, t⟩⟩).s.lo) ((Rg.meetR ⟨⟨a, b⟩, ⟨c, d⟩⟩ ⟨⟨p, q⟩, ⟨r, t⟩⟩).s.hi))), some (.bool (!(eqR (Rg.meetR ⟨⟨a, b⟩, ⟨c, d⟩⟩ ⟨⟨p, q⟩, ⟨r, t⟩⟩) (Rg.meetR ⟨⟨a, b⟩, ⟨c, d⟩⟩ ⟨⟨p, q⟩, ⟨r, t⟩⟩)))), some (.bool false), some (.bool (Rg.meetB ⟨⟨a, b⟩, ⟨c, d⟩⟩ ⟨⟨p, q⟩, ⟨r, t⟩⟩)), some (.bool (Rg.meetB ⟨⟨a, b⟩, ⟨c, d⟩⟩ ⟨⟨p, q⟩, ⟨r, t⟩⟩)), some (.bool false), some (.bool false), some (.bool false), some (.agg (cR ((Rg.giv cc ⟨⟨a, b⟩, ⟨c, d⟩⟩ ⟨⟨p, q⟩, ⟨r, t⟩⟩).u.lo) ((Rg.giv cc ⟨⟨a, b⟩, ⟨c, d⟩⟩ ⟨⟨p, q⟩, ⟨r, t⟩⟩).u.hi) ((Rg.giv cc ⟨⟨a, b⟩, ⟨c, d⟩⟩ ⟨⟨p, q⟩, ⟨r, t⟩⟩).s.lo) ((Rg.giv cc ⟨⟨a, b⟩, ⟨c, d⟩⟩ ⟨⟨p, q⟩, ⟨r, t⟩⟩).s.hi))), some (.agg (cR ((Rg.giv cc ⟨⟨a, b⟩, ⟨c, d⟩⟩ ⟨⟨p, q⟩, ⟨r, t⟩⟩).u.lo) ((Rg.giv cc ⟨⟨a, b⟩, ⟨c, d⟩⟩ ⟨⟨p, q⟩, ⟨r, t⟩⟩).u.hi) ((Rg.giv cc ⟨⟨a, b⟩, ⟨c, d⟩⟩ ⟨⟨p, q⟩, ⟨r, t⟩⟩).s.lo) ((Rg.giv cc ⟨⟨a, b⟩, ⟨c, d⟩⟩ ⟨⟨p, q⟩, ⟨r, t⟩⟩).s.hi))), some (.bool (!(eqR (Rg.giv cc ⟨⟨a, b⟩, ⟨c, d⟩⟩ ⟨⟨p, q⟩, ⟨r, t⟩⟩) (Rg.giv cc ⟨⟨a, b⟩, ⟨c, d⟩⟩ ⟨⟨p, q⟩, ⟨r, t⟩⟩)))), some (.bool false), some (.bool false), some (.bool (Rg.givB cc ⟨⟨a, b⟩, ⟨c, d⟩⟩ ⟨⟨p, q⟩, ⟨r, t⟩⟩)), some (.bool (Rg.givB cc ⟨⟨a, b⟩, ⟨c, d⟩⟩ ⟨⟨p, q⟩, ⟨r, t⟩⟩)), some (.bool false), some (.bool false), some (.bool false), some (.int .u64 (Rg.oneV ⟨⟨a, b⟩, ⟨c, d⟩⟩))] [some (.int .u64 (Rg.oneV ⟨⟨a, b⟩, ⟨c, d⟩⟩)), some (.bool false), some (.bool false), some (.bool false), some (.bool (Rg.oneB ⟨⟨a, b⟩, ⟨c, d⟩⟩)), some (.bool (Rg.oneB ⟨⟨a, b⟩, ⟨c, d⟩⟩)), some (.bool false), some (.bool false), some (.bool false), some (.agg (cR ((Rg.nar ⟨⟨a, b⟩, ⟨c, d⟩⟩).u.lo) ((Rg.nar ⟨⟨a, b⟩, ⟨c, d⟩⟩).u.hi) ((Rg.nar ⟨⟨a, b⟩, ⟨c, d⟩⟩).s.lo) ((Rg.nar ⟨⟨a, b⟩, ⟨c, d⟩⟩).s.hi))), some (.agg (cR ((Rg.nar ⟨⟨a, b⟩, ⟨c, d⟩⟩).u.lo) ((Rg.nar ⟨⟨a, b⟩, ⟨c, d⟩⟩).u.hi) ((Rg.nar ⟨⟨a, b⟩, ⟨c, d⟩⟩).s.lo) ((Rg.nar ⟨⟨a, b⟩, ⟨c, d⟩⟩).s.hi))), some (.bool (!(eqR (Rg.nar ⟨⟨a, b⟩, ⟨c, d⟩⟩) (Rg.nar ⟨⟨a, b⟩, ⟨c, d⟩⟩)))), some (.bool false), some (.bool false), some (.bool (Rg.narB ⟨⟨a, b⟩, ⟨c, d⟩⟩)), some (.bool (Rg.narB ⟨⟨a, b⟩, ⟨c, d⟩⟩)), some (.bool false), some (.bool false)]) mo f9.d f9.z f9.b (by kernel_rfl) ⟨b_g3_23, b_g4_24, b_g5_25, b_g6_26, b_g7_27, b_g8, trivial⟩ (
   hk (fun cx => cx.v (ldR rfl (cx.rq 11 s11_28) (cx.rn 0 rfl)) rfl rfl) <|
   hk (fun cx => cx.v (ldR rfl (cx.rq 13 s13_29) (cx.rn 1 rfl)) rfl rfl) <|
   hc (fun _ _ wx cx => cx.v (exec_neq (x := .tmp 73) (y := .tmp 74) rfl (cx.u 0 rfl) (cx.u 1 rfl) (by kernel_rfl) (eq_range (Rg.meetR ⟨⟨a, b⟩, ⟨c, d⟩⟩ ⟨⟨p, q⟩, ⟨r, t⟩⟩) (Rg.meetR ⟨⟨a, b⟩, ⟨c, d⟩⟩ ⟨⟨p, q⟩, ⟨r, t⟩⟩) wx)) rfl rfl) <|
   hk (fun cx => cx.v (ex_mv rfl (cx.u 0 rfl)) rfl (congrArg Value.bool (neR_refl _))) <|
   hk (fun cx => cx.val (cx.wy rfl rfl rfl rfl (cx.u 0 rfl)) (ex_mv rfl (cx.rq 12 s12_30)) rfl rfl rfl rfl) <|
   hk (fun cx => cx.val (cx.wy rfl rfl rfl rfl (cx.u 0 rfl)) (ex_mv rfl (cx.rq 14 s14_31)) rfl rfl rfl rfl) <|
   hc (fun _ ax _ cx => cx.val (v := .bool ((Rg.meetB ⟨⟨a, b⟩, ⟨c, d⟩⟩ ⟨⟨p, q⟩, ⟨r, t⟩⟩) != (Rg.meetB ⟨⟨a, b⟩, ⟨c, d⟩⟩ ⟨⟨p, q⟩, ⟨r, t⟩⟩))) (cx.wy rfl rfl rfl rfl (cx.u 2 rfl)) (by simp [execOp, Act.eval, (show ax.tmps.getD 77 undef = .bool (Rg.meetB ⟨⟨a, b⟩, ⟨c, d⟩⟩ ⟨⟨p, q⟩, ⟨r, t⟩⟩) from (cx.u 0 rfl)), (show ax.tmps.getD 78 undef = .bool (Rg.meetB ⟨⟨a, b⟩, ⟨c, d⟩⟩ ⟨⟨p, q⟩, ⟨r, t⟩⟩) from (cx.u 1 rfl)), go_sem]) rfl rfl (congrArg Value.bool (bne_self_eq_false _)) rfl) <|
   hk (fun cx => cx.v (ex_pf rfl (cx.u 0 rfl) (cx.u 1 rfl)) rfl rfl) <|
   hk (fun cx => cx.v (ex_mv rfl (cx.u 0 rfl)) rfl rfl) <|
   hk (fun cx => cx.val (cx.wy rfl rfl rfl rfl (cx.u 0 rfl)) (ldR rfl (cx.rq 15 s15_32) (cx.rn 2 rfl)) rfl rfl rfl rfl) <|
   hk (fun cx => cx.val (cx.wy rfl rfl rfl rfl (cx.u 0 rfl)) (ldR rfl (cx.rq 17 s17_33) (cx.rn 3 rfl)) rfl rfl rfl rfl) <|
   hc (fun _ _ wx cx => cx.val (cx.wy rfl rfl rfl rfl (cx.u 2 rfl)) (exec_neq (x := .tmp 82) (y := .tmp 83) rfl (cx.u 0 rfl) (cx.u 1 rfl) (by kernel_rfl) (eq_range (Rg.giv cc ⟨⟨a, b⟩, ⟨c, d⟩⟩ ⟨⟨p, q⟩, ⟨r, t⟩⟩) (Rg.giv cc ⟨⟨a, b⟩, ⟨c, d⟩⟩ ⟨⟨p, q⟩, ⟨r, t⟩⟩) wx)) rfl rfl rfl rfl) <|
   hk (fun cx => cx.v (ex_pf rfl (cx.u 0 rfl) (cx.u 1 rfl)) rfl (congrArg Value.bool (neR_refl _))) <|
   hk (fun cx => cx.v (ex_mv rfl (cx.u 0 rfl)) rfl rfl) <|
   hk (fun cx => cx.val (cx.wy rfl rfl rfl rfl (cx.u 0 rfl)) (ex_mv rfl (cx.rq 16 s16_34)) rfl rfl rfl rfl) <|
   hk (fun cx => cx.val (cx.wy rfl rfl rfl rfl (cx.u 0 rfl)) (ex_mv rfl (cx.rq 18 s18_35)) rfl rfl rfl rfl) <|
   hc (fun _ ax _ cx => cx.val (v := .bool ((Rg.givB cc ⟨⟨a, b⟩, ⟨c, d⟩⟩ ⟨⟨p, q⟩, ⟨r, t⟩⟩) != (Rg.givB cc ⟨⟨a, b⟩, ⟨c, d⟩⟩ ⟨⟨p, q⟩, ⟨r, t⟩⟩))) (cx.wy rfl rfl rfl rfl (cx.u 2 rfl)) (by simp [execOp, Act.eval, (show ax.tmps.getD 87 undef = .bool (Rg.givB cc ⟨⟨a, b⟩, ⟨c, d⟩⟩ ⟨⟨p, q⟩, ⟨r, t⟩⟩) from (cx.u 0 rfl)), (show ax.tmps.getD 88 undef = .bool (Rg.givB cc ⟨⟨a, b⟩, ⟨c, d⟩⟩ ⟨⟨p, q⟩, ⟨r, t⟩⟩) from (cx.u 1 rfl)), go_sem]) rfl rfl (congrArg Value.bool (bne_self_eq_false _)) rfl) <|
   hk (fun cx => cx.v (ex_pf rfl (cx.u 0 rfl) (cx.u 1 rfl)) rfl rfl) <|
   hk (fun cx => cx.v (ex_mv rfl (cx.u 0 rfl)) rfl rfl) <|
   hk (fun cx => cx.val (cx.wy rfl rfl rfl rfl (cx.u 0 rfl)) (ex_mv rfl (cx.rq 19 s19_36)) rfl rfl rfl rfl) <|
   hk (fun cx => cx.val (cx.wy rfl rfl rfl rfl (cx.u 0 rfl)) (ex_mv rfl (cx.rq 21 s21_37)) rfl rfl rfl rfl) <|
   hk (fun cx => cx.val (cx.wy rfl rfl rfl rfl (cx.u 2 rfl)) (ex_ne (x := .tmp 92) (y := .tmp 93) rfl (cx.u 0 rfl) (cx.u 1 rfl)) rfl rfl (congrArg Value.bool (bne_self_eq_false _)) rfl) <|
   hk (fun cx => cx.v (ex_pf rfl (cx.u 0 rfl) (cx.u 1 rfl)) rfl rfl) <|
   hk (fun cx => cx.v (ex_mv rfl (cx.u 0 rfl)) rfl rfl) <|
   hk (fun cx => cx.val (cx.wy rfl rfl rfl rfl (cx.u 0 rfl)) (ex_mv rfl (cx.rq 20 s20_38)) rfl rfl rfl rfl) <|
   hk (fun cx => cx.val (cx.wy rfl rfl rfl rfl (cx.u 0 rfl)) (ex_mv rfl (cx.rq 22 s22_39)) rfl rfl rfl rfl) <|
   hc (fun _ ax _ cx => cx.val (v := .bool ((Rg.oneB ⟨⟨a, b⟩, ⟨c, d⟩⟩) != (Rg.oneB ⟨⟨a, b⟩, ⟨c, d⟩⟩))) (cx.wy rfl rfl rfl rfl (cx.u 2 rfl)) (by simp [execOp, Act.eval, (show ax.tmps.getD 97 undef = .bool (Rg.oneB ⟨⟨a, b⟩, ⟨c, d⟩⟩) from (cx.u 0 rfl)), (show ax.tmps.getD 98 undef = .bool (Rg.oneB ⟨⟨a, b⟩, ⟨c, d⟩⟩) from (cx.u 1 rfl)), go_sem]) rfl rfl (congrArg Value.bool (bne_self_eq_false _)) rfl) <|
   hk (fun cx => cx.v (ex_pf rfl (cx.u 0 rfl) (cx.u 1 rfl)) rfl rfl) <|
   hk (fun cx => cx.v (ex_mv rfl (cx.u 0 rfl)) rfl rfl) <|
   hk (fun cx => cx.val (cx.wy rfl rfl rfl rfl (cx.u 0 rfl)) (ldR rfl (cx.rq 23 s23_40) (cx.rn 4 rfl)) rfl rfl rfl rfl) <|
   hk (fun cx => cx.val (cx.wy rfl rfl rfl rfl (cx.u 0 rfl)) (ldR rfl (cx.rq 25 u_g8) (cx.rn 5 rfl)) rfl rfl rfl rfl) <|
   hc (fun _ _ wx cx => cx.val (cx.wy rfl rfl rfl rfl (cx.u 2 rfl)) (exec_neq (x := .tmp 102) (y := .tmp 103) rfl (cx.u 0 rfl) (cx.u 1 rfl) (by kernel_rfl) (eq_range (Rg.nar ⟨⟨a, b⟩, ⟨c, d⟩⟩) (Rg.nar ⟨⟨a, b⟩, ⟨c, d⟩⟩) wx)) rfl rfl rfl rfl) <|
   hk (fun cx => cx.v (ex_pf rfl (cx.u 0 rfl) (cx.u 1 rfl)) rfl (congrArg Value.bool (neR_refl _))) <|
   hk (fun cx => cx.v (ex_mv rfl (cx.u 0 rfl)) rfl rfl) <|
   hk (fun cx => cx.val (cx.wy rfl rfl rfl rfl (cx.u 0 rfl)) (ex_mv rfl (cx.rq 24 s24_41)) rfl rfl rfl rfl) <|
   hk (fun cx => cx.val (cx.wy rfl rfl rfl rfl (cx.u 0 rfl)) (ex_mv rfl (cx.rq 26 (f9.v 7 rfl rfl rfl))) rfl rfl rfl rfl) <|
   hc (fun _ ax _ cx => cx.val (v := .bool ((Rg.narB ⟨⟨a, b⟩, ⟨c, d⟩⟩) != (Rg.narB ⟨⟨a, b⟩, ⟨c, d⟩⟩))) (cx.wy rfl rfl rfl rfl (cx.u 2 rfl)) (by simp [execOp, Act.eval, (show ax.tmps.getD 107 undef = .bool (Rg.narB ⟨⟨a, b⟩, ⟨c, d⟩⟩) from (cx.u 0 rfl)), (show ax.tmps.getD 108 undef = .bool (Rg.narB ⟨⟨a, b⟩, ⟨c, d⟩⟩) from (cx.u 1 rfl)), go_sem]) rfl rfl (congrArg Value.bool (bne_self_eq_false _)) rfl) <|
   hk (fun cx => cx.v (ex_pf rfl (cx.u 0 rfl) (cx.u 1 rfl)) rfl rfl) <|
   hn) ?_
  intro a10 w10 f10
  refine wp_cond_false (f10.v 37 rfl rfl rfl) ?_
  refine wp_skip ?_
  refine wp_seq ?_
  have b_g1_42 := f10.k (f9.k b_g1_21)
  have b_g2_43 := f10.k (f9.k (f8.k (f7.k (f6.k (f5.k b_g2_11)))))
  have s7_44 := f10.q 7 (f9.q 7 s7_22)
  have s4_45 := f10.q 4 (f9.q 4 (f8.q 4 (f7.q 4 (f6.q 4 (f5.q 4 (f4.q 4 (f3.q 4 (f2.q 4 (f1.q 4 s4_0)))))))))
  have s8_46 := f10.q 8 (f9.q 8 (f8.q 8 (f7.q 8 (f6.q 8 (f5.q 8 s8_14)))))
  have s0_47 := f10.q 0 (f9.q 0 (f8.q 0 (f7.q 0 (f6.q 0 (f5.q 0 (f4.q 0 (f3.q 0 (f2.q 0 (f1.q 0 s0_0)))))))))
  refine go_reg [bx g1 60 (cR a b c d), bx g2 60 (cR p q r t)] [] (tabs [some (.agg (cR a b c d)), some (.bool (Rg.mayB ⟨⟨a, b⟩, ⟨c, d⟩⟩)), some (.agg (cR a b c d)), some (.bool (Rg.mayB ⟨⟨a, b⟩, ⟨c, d⟩⟩)), some (.bool true), some (.bool true), some (.agg (cR allR.u.lo allR.u.hi allR.s.lo allR.s.hi)), some (.agg (cR allR.u.lo allR.u.hi allR.s.lo allR.s.hi)), some (.bool (eqR allR allR)), some (.bool true), some (.bool true), some (.int .u64 v), some (.agg (cR ((oneR v).u.lo) ((oneR v).u.hi) ((oneR v).s.lo) ((oneR v).s.hi))), some (.int .u64 v), some (.agg (cR ((oneR v).u.lo) ((oneR v).u.hi) ((oneR v).s.lo) ((oneR v).s.hi))), some (.bool (eqR (oneR v) (oneR v))), some (.bool true), some (.bool true), some (.agg (cR a b c d)), some (.int .u64 v)] (tabs [some (.bool (Rg.hasB ⟨⟨a, b⟩, ⟨c, d⟩⟩ v)), some (.agg (cR a b c d)), some (.int .u64 v), some (.bool (Rg.hasB ⟨⟨a, b⟩, ⟨c, d⟩⟩ v)), some (.bool true), some (.bool true), some (.bool true), some (.agg (cR a b c d)), some (.agg (cR p q r t)), some (.agg (cR ((Rg.joinR ⟨⟨a, b⟩, ⟨c, d⟩⟩ ⟨⟨p, q⟩, ⟨r, t⟩⟩).u.lo) ((Rg.joinR ⟨⟨a, b⟩, ⟨c, d⟩⟩ ⟨⟨p, q⟩, ⟨r, t⟩⟩).u.hi) ((Rg.joinR ⟨⟨a, b⟩, ⟨c, d⟩⟩ ⟨⟨p, q⟩, ⟨r, t⟩⟩).s.lo) ((Rg.joinR ⟨⟨a, b⟩, ⟨c, d⟩⟩ ⟨⟨p, q⟩, ⟨r, t⟩⟩).s.hi))), some (.agg (cR a b c d)), some (.agg (cR p q r t)), some (.agg (cR ((Rg.joinR ⟨⟨a, b⟩, ⟨c, d⟩⟩ ⟨⟨p, q⟩, ⟨r, t⟩⟩).u.lo) ((Rg.joinR ⟨⟨a, b⟩, ⟨c, d⟩⟩ ⟨⟨p, q⟩, ⟨r, t⟩⟩).u.hi) ((Rg.joinR ⟨⟨a, b⟩, ⟨c, d⟩⟩ ⟨⟨p, q⟩, ⟨r, t⟩⟩).s.lo) ((Rg.joinR ⟨⟨a, b⟩, ⟨c, d⟩⟩ ⟨⟨p, q⟩, ⟨r, t⟩⟩).s.hi))), some (.bool (eqR (Rg.joinR ⟨⟨a, b⟩, ⟨c, d⟩⟩ ⟨⟨p, q⟩, ⟨r, t⟩⟩) (Rg.joinR ⟨⟨a, b⟩, ⟨c, d⟩⟩ ⟨⟨p, q⟩, ⟨r, t⟩⟩))), some (.bool true), some (.bool true), some (.agg (cR a b c d)), some (.agg (cR p q r t)), some (.bool (Rg.inB ⟨⟨a, b⟩, ⟨c, d⟩⟩ ⟨⟨p, q⟩, ⟨r, t⟩⟩)), some (.agg (cR a b c d))] (tabs [some (.agg (cR p q r t)), some (.bool (Rg.inB ⟨⟨a, b⟩, ⟨c, d⟩⟩ ⟨⟨p, q⟩, ⟨r, t⟩⟩)), some (.bool true), some (.bool true), some (.bool true), some (.int .i8 op), some (.agg (cR a b c d)), some (.agg (cR p q r t)), some (.agg (cR ((Rg.doR op ⟨⟨a, b⟩, ⟨c, d⟩⟩ ⟨⟨p, q⟩, ⟨r, t⟩⟩).u.lo) ((Rg.doR op ⟨⟨a, b⟩, ⟨c, d⟩⟩ ⟨⟨p, q⟩, ⟨r, t⟩⟩).u.hi) ((Rg.doR op ⟨⟨a, b⟩, ⟨c, d⟩⟩ ⟨⟨p, q⟩, ⟨r, t⟩⟩).s.lo) ((Rg.doR op ⟨⟨a, b⟩, ⟨c, d⟩⟩ ⟨⟨p, q⟩, ⟨r, t⟩⟩).s.hi))), some (.int .i8 op), some (.agg (cR a b c d)), some (.agg (cR p q r t)), some (.agg (cR ((Rg.doR op ⟨⟨a, b⟩, ⟨c, d⟩⟩ ⟨⟨p, q⟩, ⟨r, t⟩⟩).u.lo) ((Rg.doR op ⟨⟨a, b⟩, ⟨c, d⟩⟩ ⟨⟨p, q⟩, ⟨r, t⟩⟩).u.hi) ((Rg.doR op ⟨⟨a, b⟩, ⟨c, d⟩⟩ ⟨⟨p, q⟩, ⟨r, t⟩⟩).s.lo) ((Rg.doR op ⟨⟨a, b⟩, ⟨c, d⟩⟩ ⟨⟨p, q⟩, ⟨r, t⟩⟩).s.hi))), some (.bool (eqR (Rg.doR op ⟨⟨a, b⟩, ⟨c, d⟩⟩ ⟨⟨p, q⟩, ⟨r, t⟩⟩) (Rg.doR op ⟨⟨a, b⟩, ⟨c, d⟩⟩ ⟨⟨p, q⟩, ⟨r, t⟩⟩))), some (.bool true), some (.bool true), some (.agg (cR a b c d)), some (.agg (cR ((Rg.low ⟨⟨a, b⟩, ⟨c, d⟩⟩).u.lo) ((Rg.low ⟨⟨a, b⟩, ⟨c, d⟩⟩).u.hi) ((Rg.low ⟨⟨a, b⟩, ⟨c, d⟩⟩).s.lo) ((Rg.low ⟨⟨a, b⟩, ⟨c, d⟩⟩).s.hi))), some (.agg (cR a b c d)), some (.agg (cR ((Rg.low ⟨⟨a, b⟩, ⟨c, d⟩⟩).u.lo) ((Rg.low ⟨⟨a, b⟩, ⟨c, d⟩⟩).u.hi) ((Rg.low ⟨⟨a, b⟩, ⟨c, d⟩⟩).s.lo) ((Rg.low ⟨⟨a, b⟩, ⟨c, d⟩⟩).s.hi)))] [some (.bool (eqR (Rg.low ⟨⟨a, b⟩, ⟨c, d⟩⟩) (Rg.low ⟨⟨a, b⟩, ⟨c, d⟩⟩))), some (.bool true), some (.bool true), some (.bool true), some (.bool true), some (.bool true)]))) mo f10.d f10.z f10.b (by kernel_rfl) ⟨b_g1_42, b_g2_43, trivial⟩ (
   hk (fun cx => cx.v (ldR rfl (cx.rq 7 s7_44) (cx.rn 0 rfl)) rfl rfl) <|
   hc (fun _ _ wx cx => cx.c rfl (args1 (cx.u 0 rfl)) Try.func27 (by decide +kernel) (may_n a b c d wx) rfl rfl) <|
   hk (fun cx => cx.v (ldR rfl (cx.rq 7 s7_44) (cx.rn 0 rfl)) rfl rfl) <|
   hc (fun _ _ wx cx => cx.c rfl (args1 (cx.u 0 rfl)) Try.func28 (by decide +kernel) (rmay_n a b c d wx) rfl rfl) <|
   hc (fun _ ax _ cx => cx.v (v := .bool ((Rg.mayB ⟨⟨a, b⟩, ⟨c, d⟩⟩) == (Rg.mayB ⟨⟨a, b⟩, ⟨c, d⟩⟩))) (by simp [execOp, Act.eval, (show ax.tmps.getD 112 undef = .bool (Rg.mayB ⟨⟨a, b⟩, ⟨c, d⟩⟩) from (cx.u 0 rfl)), (show ax.tmps.getD 114 undef = .bool (Rg.mayB ⟨⟨a, b⟩, ⟨c, d⟩⟩) from (cx.u 1 rfl)), go_sem]) rfl (congrArg Value.bool (beq_self_eq_true _))) <|
   hk (fun cx => cx.v (ex_mv rfl (cx.u 0 rfl)) rfl rfl) <|
   hc (fun _ _ wx cx => cx.call (cx.wy rfl rfl rfl rfl (cx.u 0 rfl)) rfl rfl (args0 ) Try.func29 (by decide +kernel) rfl (all_n wx) rfl rfl rfl rfl) <|
   hc (fun _ _ wx cx => cx.call (cx.wy rfl rfl rfl rfl (cx.u 1 rfl)) rfl rfl (args0 ) Try.func30 (by decide +kernel) rfl (rall_n wx) rfl rfl rfl rfl) <|
   hc (fun _ _ wx cx => cx.val (cx.wy rfl rfl rfl rfl (cx.u 2 rfl)) (exec_eql (x := .tmp 117) (y := .tmp 118) rfl (cx.u 0 rfl) (cx.u 1 rfl) (by kernel_rfl) (eq_range allR allR wx)) rfl rfl rfl rfl) <|
   hk (fun cx => cx.v (ex_pt rfl (cx.u 0 rfl) (cx.u 1 rfl)) rfl (congrArg Value.bool (eqR_refl _))) <|
   hk (fun cx => cx.v (ex_mv rfl (cx.u 0 rfl)) rfl rfl) <|
   hk (fun cx => cx.val (cx.wy rfl rfl rfl rfl (cx.u 0 rfl)) (ex_mv rfl (cx.rq 4 s4_45)) rfl rfl rfl rfl) <|
   hc (fun _ _ wx cx => cx.call (cx.wy rfl rfl rfl rfl (cx.u 1 rfl)) rfl rfl (args1 (cx.u 0 rfl)) Try.func31 (by decide +kernel) rfl (one_n v wx) rfl rfl rfl rfl) <|
   hk (fun cx => cx.val (cx.wy rfl rfl rfl rfl (cx.u 0 rfl)) (ex_mv rfl (cx.rq 4 s4_45)) rfl rfl rfl rfl) <|
   hc (fun _ _ wx cx => cx.call (cx.wy rfl rfl rfl rfl (cx.u 2 rfl)) rfl rfl (args1 (cx.u 0 rfl)) Try.func32 (by decide +kernel) rfl (rone_n v wx) rfl rfl rfl rfl) <|
   hc (fun _ _ wx cx => cx.val (cx.wy rfl rfl rfl rfl (cx.u 2 rfl)) (exec_eql (x := .tmp 123) (y := .tmp 125) rfl (cx.u 0 rfl) (cx.u 1 rfl) (by kernel_rfl) (eq_range (oneR v) (oneR v) wx)) rfl rfl rfl rfl) <|
   hk (fun cx => cx.v (ex_pt rfl (cx.u 0 rfl) (cx.u 1 rfl)) rfl (congrArg Value.bool (eqR_refl _))) <|
   hk (fun cx => cx.v (ex_mv rfl (cx.u 0 rfl)) rfl rfl) <|
   hk (fun cx => cx.val (cx.wy rfl rfl rfl rfl (cx.u 0 rfl)) (ldR rfl (cx.rq 7 s7_44) (cx.rn 0 rfl)) rfl rfl rfl rfl) <|
   hk (fun cx => cx.val (cx.wy rfl rfl rfl rfl (cx.u 0 rfl)) (ex_mv rfl (cx.rq 4 s4_45)) rfl rfl rfl rfl) <|
   hc (fun _ _ wx cx => cx.call (cx.wy rfl rfl rfl rfl (cx.u 2 rfl)) rfl rfl (args2 (cx.u 0 rfl) (cx.u 1 rfl)) Try.func33 (by decide +kernel) rfl (has_n a b c d v wx) rfl rfl rfl rfl) <|
   hk (fun cx => cx.val (cx.wy rfl rfl rfl rfl (cx.u 0 rfl)) (ldR rfl (cx.rq 7 s7_44) (cx.rn 0 rfl)) rfl rfl rfl rfl) <|
   hk (fun cx => cx.val (cx.wy rfl rfl rfl rfl (cx.u 0 rfl)) (ex_mv rfl (cx.rq 4 s4_45)) rfl rfl rfl rfl) <|
   hc (fun _ _ wx cx => cx.call (cx.wy rfl rfl rfl rfl (cx.u 3 rfl)) rfl rfl (args2 (cx.u 0 rfl) (cx.u 1 rfl)) Try.func34 (by decide +kernel) rfl (rhas_n a b c d v wx) rfl rfl rfl rfl) <|
   hc (fun _ ax _ cx => cx.val (v := .bool ((Rg.hasB ⟨⟨a, b⟩, ⟨c, d⟩⟩ v) == (Rg.hasB ⟨⟨a, b⟩, ⟨c, d⟩⟩ v))) (cx.wy rfl rfl rfl rfl (cx.u 2 rfl)) (by simp [execOp, Act.eval, (show ax.tmps.getD 131 undef = .bool (Rg.hasB ⟨⟨a, b⟩, ⟨c, d⟩⟩ v) from (cx.u 0 rfl)), (show ax.tmps.getD 134 undef = .bool (Rg.hasB ⟨⟨a, b⟩, ⟨c, d⟩⟩ v) from (cx.u 1 rfl)), go_sem]) rfl rfl (congrArg Value.bool (beq_self_eq_true _)) rfl) <|
   hk (fun cx => cx.v (ex_pt rfl (cx.u 0 rfl) (cx.u 1 rfl)) rfl rfl) <|
   hk (fun cx => cx.v (ex_mv rfl (cx.u 0 rfl)) rfl rfl) <|
   hk (fun cx => cx.val (cx.wy rfl rfl rfl rfl (cx.u 0 rfl)) (ldR rfl (cx.rq 7 s7_44) (cx.rn 0 rfl)) rfl rfl rfl rfl) <|
   hk (fun cx => cx.val (cx.wy rfl rfl rfl rfl (cx.u 0 rfl)) (ldR rfl (cx.rq 8 s8_46) (cx.rn 1 rfl)) rfl rfl rfl rfl) <|
   hc (fun _ _ wx cx => cx.call (cx.wy rfl rfl rfl rfl (cx.u 2 rfl)) rfl rfl (args2 (cx.u 0 rfl) (cx.u 1 rfl)) Try.func35 (by decide +kernel) rfl (join_n a b c d p q r t wx) rfl rfl rfl rfl) <|
   hk (fun cx => cx.val (cx.wy rfl rfl rfl rfl (cx.u 0 rfl)) (ldR rfl (cx.rq 7 s7_44) (cx.rn 0 rfl)) rfl rfl rfl rfl) <|
   hk (fun cx => cx.val (cx.wy rfl rfl rfl rfl (cx.u 0 rfl)) (ldR rfl (cx.rq 8 s8_46) (cx.rn 1 rfl)) rfl rfl rfl rfl) <|
   hc (fun _ _ wx cx => cx.call (cx.wy rfl rfl rfl rfl (cx.u 3 rfl)) rfl rfl (args2 (cx.u 0 rfl) (cx.u 1 rfl)) Try.func36 (by decide +kernel) rfl (rjoin_n a b c d p q r t wx) rfl rfl rfl rfl) <|
   hc (fun _ _ wx cx => cx.val (cx.wy rfl rfl rfl rfl (cx.u 2 rfl)) (exec_eql (x := .tmp 140) (y := .tmp 143) rfl (cx.u 0 rfl) (cx.u 1 rfl) (by kernel_rfl) (eq_range (Rg.joinR ⟨⟨a, b⟩, ⟨c, d⟩⟩ ⟨⟨p, q⟩, ⟨r, t⟩⟩) (Rg.joinR ⟨⟨a, b⟩, ⟨c, d⟩⟩ ⟨⟨p, q⟩, ⟨r, t⟩⟩) wx)) rfl rfl rfl rfl) <|
   hk (fun cx => cx.v (ex_pt rfl (cx.u 0 rfl) (cx.u 1 rfl)) rfl (congrArg Value.bool (eqR_refl _))) <|
   hk (fun cx => cx.v (ex_mv rfl (cx.u 0 rfl)) rfl rfl) <|
   hk (fun cx => cx.val (cx.wy rfl rfl rfl rfl (cx.u 0 rfl)) (ldR rfl (cx.rq 7 s7_44) (cx.rn 0 rfl)) rfl rfl rfl rfl) <|
   hk (fun cx => cx.val (cx.wy rfl rfl rfl rfl (cx.u 0 rfl)) (ldR rfl (cx.rq 8 s8_46) (cx.rn 1 rfl)) rfl rfl rfl rfl) <|
   hc (fun _ _ wx cx => cx.call (cx.wy rfl rfl rfl rfl (cx.u 2 rfl)) rfl rfl (args2 (cx.u 0 rfl) (cx.u 1 rfl)) Try.func37 (by decide +kernel) rfl (in_n a b c d p q r t wx) rfl rfl rfl rfl) <|
   hk (fun cx => cx.val (cx.wy rfl rfl rfl rfl (cx.u 0 rfl)) (ldR rfl (cx.rq 7 s7_44) (cx.rn 0 rfl)) rfl rfl rfl rfl) <|
   hk (fun cx => cx.val (cx.wy rfl rfl rfl rfl (cx.u 0 rfl)) (ldR rfl (cx.rq 8 s8_46) (cx.rn 1 rfl)) rfl rfl rfl rfl) <|
   hc (fun _ _ wx cx => cx.call (cx.wy rfl rfl rfl rfl (cx.u 3 rfl)) rfl rfl (args2 (cx.u 0 rfl) (cx.u 1 rfl)) Try.func38 (by decide +kernel) rfl (rin_n a b c d p q r t wx) rfl rfl rfl rfl) <|
   hc (fun _ ax _ cx => cx.val (v := .bool ((Rg.inB ⟨⟨a, b⟩, ⟨c, d⟩⟩ ⟨⟨p, q⟩, ⟨r, t⟩⟩) == (Rg.inB ⟨⟨a, b⟩, ⟨c, d⟩⟩ ⟨⟨p, q⟩, ⟨r, t⟩⟩))) (cx.wy rfl rfl rfl rfl (cx.u 2 rfl)) (by simp [execOp, Act.eval, (show ax.tmps.getD 149 undef = .bool (Rg.inB ⟨⟨a, b⟩, ⟨c, d⟩⟩ ⟨⟨p, q⟩, ⟨r, t⟩⟩) from (cx.u 0 rfl)), (show ax.tmps.getD 152 undef = .bool (Rg.inB ⟨⟨a, b⟩, ⟨c, d⟩⟩ ⟨⟨p, q⟩, ⟨r, t⟩⟩) from (cx.u 1 rfl)), go_sem]) rfl rfl (congrArg Value.bool (beq_self_eq_true _)) rfl) <|
   hk (fun cx => cx.v (ex_pt rfl (cx.u 0 rfl) (cx.u 1 rfl)) rfl rfl) <|
   hk (fun cx => cx.v (ex_mv rfl (cx.u 0 rfl)) rfl rfl) <|
   hk (fun cx => cx.val (cx.wy rfl rfl rfl rfl (cx.u 0 rfl)) (ex_mv rfl (cx.rq 0 s0_47)) rfl rfl rfl rfl) <|
   hk (fun cx => cx.val (cx.wy rfl rfl rfl rfl (cx.u 0 rfl)) (ldR rfl (cx.rq 7 s7_44) (cx.rn 0 rfl)) rfl rfl rfl rfl) <|
   hk (fun cx => cx.val (cx.wy rfl rfl rfl rfl (cx.u 0 rfl)) (ldR rfl (cx.rq 8 s8_46) (cx.rn 1 rfl)) rfl rfl rfl rfl) <|
   hc (fun _ _ wx cx => cx.call (cx.wy rfl rfl rfl rfl (cx.u 3 rfl)) rfl rfl (args3 (cx.u 0 rfl) (cx.u 1 rfl) (cx.u 2 rfl)) Try.func39 (by decide +kernel) rfl (do_n op a b c d p q r t wx HA.out HB.out) rfl rfl rfl rfl) <|
   hk (fun cx => cx.val (cx.wy rfl rfl rfl rfl (cx.u 0 rfl)) (ex_mv rfl (cx.rq 0 s0_47)) rfl rfl rfl rfl) <|
   hk (fun cx => cx.val (cx.wy rfl rfl rfl rfl (cx.u 0 rfl)) (ldR rfl (cx.rq 7 s7_44) (cx.rn 0 rfl)) rfl rfl rfl rfl) <|
   hk (fun cx => cx.val (cx.wy rfl rfl rfl rfl (cx.u 0 rfl)) (ldR rfl (cx.rq 8 s8_46) (cx.rn 1 rfl)) rfl rfl rfl rfl) <|
   hc (fun _ _ wx cx => cx.call (cx.wy rfl rfl rfl rfl (cx.u 4 rfl)) rfl rfl (args3 (cx.u 0 rfl) (cx.u 1 rfl) (cx.u 2 rfl)) Try.func40 (by decide +kernel) rfl (rdo_n op a b c d p q r t wx HA.out HB.out) rfl rfl rfl rfl) <|
   hc (fun _ _ wx cx => cx.val (cx.wy rfl rfl rfl rfl (cx.u 2 rfl)) (exec_eql (x := .tmp 159) (y := .tmp 163) rfl (cx.u 0 rfl) (cx.u 1 rfl) (by kernel_rfl) (eq_range (Rg.doR op ⟨⟨a, b⟩, ⟨c, d⟩⟩ ⟨⟨p, q⟩, ⟨r, t⟩⟩) (Rg.doR op ⟨⟨a, b⟩, ⟨c, d⟩⟩ ⟨⟨p, q⟩, ⟨r, t⟩⟩) wx)) rfl rfl rfl rfl) <|
   hk (fun cx => cx.v (ex_pt rfl (cx.u 0 rfl) (cx.u 1 rfl)) rfl (congrArg Value.bool (eqR_refl _))) <|
   hk (fun cx => cx.v (ex_mv rfl (cx.u 0 rfl)) rfl rfl) <|
   hk (fun cx => cx.val (cx.wy rfl rfl rfl rfl (cx.u 0 rfl)) (ldR rfl (cx.rq 7 s7_44) (cx.rn 0 rfl)) rfl rfl rfl rfl) <|
   hc (fun _ _ wx cx => cx.call (cx.wy rfl rfl rfl rfl (cx.u 1 rfl)) rfl rfl (args1 (cx.u 0 rfl)) Try.func41 (by decide +kernel) rfl (low_n a b c d wx) rfl rfl rfl rfl) <|
   hk (fun cx => cx.val (cx.wy rfl rfl rfl rfl (cx.u 0 rfl)) (ldR rfl (cx.rq 7 s7_44) (cx.rn 0 rfl)) rfl rfl rfl rfl) <|
   hc (fun _ _ wx cx => cx.call (cx.wy rfl rfl rfl rfl (cx.u 2 rfl)) rfl rfl (args1 (cx.u 0 rfl)) Try.func42 (by decide +kernel) rfl (rlow_n a b c d wx) rfl rfl rfl rfl) <|
   hc (fun _ _ wx cx => cx.val (cx.wy rfl rfl rfl rfl (cx.u 2 rfl)) (exec_eql (x := .tmp 168) (y := .tmp 170) rfl (cx.u 0 rfl) (cx.u 1 rfl) (by kernel_rfl) (eq_range (Rg.low ⟨⟨a, b⟩, ⟨c, d⟩⟩) (Rg.low ⟨⟨a, b⟩, ⟨c, d⟩⟩) wx)) rfl rfl rfl rfl) <|
   hk (fun cx => cx.v (ex_pt rfl (cx.u 0 rfl) (cx.u 1 rfl)) rfl (congrArg Value.bool (eqR_refl _))) <|
   hk (fun cx => cx.v (ex_mv rfl (cx.u 0 rfl)) rfl rfl) <|
   hc (fun _ _ wx cx => cx.call (cx.wy rfl rfl rfl rfl (cx.u 0 rfl)) rfl rfl (args0 ) Try.func43 (by decide +kernel) rfl (wakes_n wx) rfl rfl rfl rfl) <|
   hk (fun cx => cx.v (ex_pt rfl (cx.u 0 rfl) (cx.u 1 rfl)) rfl rfl) <|
   hk (fun cx => cx.v (ex_as rfl (cx.u 0 rfl)) rfl rfl) <|
   hn) ?_
  intro a11 w11 f11
  refine wp_ret ?_
  try simp only [Exit.inBlock, Exit.then]
  refine bodyPost_ret (res_t (fn := Try.f7) rfl (f11.v 65 rfl rfl rfl)) f11.d ?_
  exact ⟨rfl, f11.b⟩

theorem tells_walk (op cc : Int) (x y : Rg) (v : Int) (W : World) (ho : (Lit.int .i8 op).wf = true) (hc : (Lit.int .i8 cc).wf = true) (hx : x.Ok) (hy : y.Ok) (hv : (Lit.int .u64 v).wf = true) : Calls Try.prog 7 #[.int .i8 op, .int .i8 cc, x.val, y.val, .int .u64 v] W fun e w' => e = .returned (.bool true) ∧ Below W.heap.size W w' :=
  tells_law op cc x.u.lo x.u.hi x.s.lo x.s.hi y.u.lo y.u.hi y.s.lo y.s.hi v W hx hy
end Go.Proofs.Ytnmgehjccafegaa.Bnd
