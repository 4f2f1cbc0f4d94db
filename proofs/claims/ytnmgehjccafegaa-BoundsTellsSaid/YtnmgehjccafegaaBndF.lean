/-
  Package bounds: ones, unsignedResults. (Written by gen_bndd.py.)
-/
import Derived.Test.YtnmgehjccafegaaBndD
import Derived.Test.YtnmgehjccafegaaBndL
namespace Go.Proofs.Ytnmgehjccafegaa.Bnd
open Go.RowKit
set_option linter.unusedVariables false
set_option linter.unusedSimpArgs false
set_option linter.unnecessarySimpa false
set_option maxRecDepth 100000

theorem faF60_1_0 (g : Nat) (w : World) : (Instr.fieldAt 60 (.pointer (some ⟨g, 0, none⟩)) 1).run Try.prog w = .ok (.pointer (some ⟨g, 1, none⟩)) w := by simp [go_sem]
theorem faF60_0_0 (g : Nat) (w : World) : (Instr.fieldAt 60 (.pointer (some ⟨g, 0, none⟩)) 0).run Try.prog w = .ok (.pointer (some ⟨g, 0, none⟩)) w := by simp [go_sem]

set_option maxHeartbeats 4000000 in
theorem ones_n (a : Int) (W : World) (h0 : 0 ≤ a) (h1 : a < 18446744073709551616) : Calls Try.prog 119 #[.int .u64 a] W fun e w' => e = .returned (.int .u64 (onesI (Int.toNat a))) ∧ Below W.heap.size W w' := by
  have l := lenN_64 (n := a.toNat) (by omega)
  have H0 := Lib.hid (And.intro h0 h1)
  have H1 : Hid (0 ≤ (lenN (Int.toNat a) : Int)) := Lib.hid (by omega)
  have H2 : Hid ((lenN (Int.toNat a) : Int) ≤ 64) := Lib.hid (by omega)
  have H3 : Hid (IntKind.u64.wrap (((1 * 2 ^ Int.toNat (lenN (Int.toNat a) : Int)) % 18446744073709551616) - 1) = onesI (Int.toNat a)) := Lib.hid (by
    have p := onesI_bd (n := a.toNat) (by omega)
    rw [onesI_is] at p ⊢
    have q : (2 : Int) ^ Int.toNat (lenN (Int.toNat a) : Int) = ((2 ^ lenN a.toNat : Nat) : Int) := by rw [Int.toNat_natCast, pow_cast]
    rw [Int.one_mul, q, IntKind.wrap_u64]
    omega)
  clear l h0 h1
  refine calls_abs Try.func119 rfl (Nat.le_of_ble_eq_true rfl) ?_
  intro a0 d0 z0 h0
  replace z0 : a0.tmps.size = 7 := z0
  have s0_0 : a0.tmps.getD 0 undef = .int .u64 a := h0 0 (Nat.le_of_ble_eq_true rfl)
  refine wp_seq ?_
  refine go_reg [] [] [some (.int .u64 0)] mo d0 z0 (Below.refl _ _) (by kernel_rfl) trivial (
   hk (fun cx => cx.v (ex_as rfl rfl) rfl rfl) <|
   hn) ?_
  intro a1 w1 f1
  refine wp_seq ?_
  have s0_1 := f1.q 0 s0_0
  refine go_reg [] [] [some (.int .u64 a), some (.int .i64 (lenN (Int.toNat a) : Int)), some (.int .u64 ((1 * 2 ^ Int.toNat (lenN (Int.toNat a) : Int)) % 18446744073709551616)), some (.int .u64 (onesI (Int.toNat a))), some (.int .u64 (onesI (Int.toNat a)))] mo f1.d f1.z f1.b (by kernel_rfl) trivial (
   hk (fun cx => cx.v (ex_mv rfl (cx.rq 0 s0_1)) rfl rfl) <|
   hc (fun _ _ wx cx => cx.c rfl (args1 (cx.u 0 rfl)) Try.func136 (by decide +kernel) (len64_any a wx H0.out.1 H0.out.2) rfl rfl) <|
   hk (fun cx => cx.v (exec_shl (y := .tmp 4) rfl rfl (cx.u 0 rfl) H1.out H2.out) rfl rfl) <|
   hk (fun cx => cx.v (ex_sub (x := .tmp 5) rfl (cx.u 0 rfl) rfl) rfl (congrArg (Value.int .u64) H3.out)) <|
   hk (fun cx => cx.v (ex_as rfl (cx.u 0 rfl)) rfl rfl) <|
   hn) ?_
  intro a2 w2 f2
  refine wp_ret ?_
  try simp only [Exit.inBlock, Exit.then]
  refine bodyPost_ret (res_t (fn := Try.f119) rfl (f2.v 4 rfl rfl rfl)) f2.d ?_
  exact ⟨rfl, f2.b⟩

set_option maxHeartbeats 8000000 in
theorem rest_n (op a b c d p q r t : Int) (W : World) (ok : Pr.U ⟨a, b⟩ ∧ Pr.U ⟨p, q⟩) (hy : p ≤ q) : Calls Try.prog 86 #[.int .i8 op, .agg #[.int .u64 a, .int .u64 b, .int .i64 c, .int .i64 d], .agg #[.int .u64 p, .int .u64 q, .int .i64 r, .int .i64 t]] W fun e w' => e = .returned (.agg #[.int .u64 (restU op ⟨⟨a, b⟩, ⟨c, d⟩⟩ ⟨⟨p, q⟩, ⟨r, t⟩⟩).lo, .int .u64 (restU op ⟨⟨a, b⟩, ⟨c, d⟩⟩ ⟨⟨p, q⟩, ⟨r, t⟩⟩).hi]) ∧ Below W.heap.size W w' := by
  have HO : Hid (((0 ≤ a ∧ a < 18446744073709551616) ∧ 0 ≤ b ∧ b < 18446744073709551616) ∧ (0 ≤ p ∧ p < 18446744073709551616) ∧ 0 ≤ q ∧ q < 18446744073709551616) := Lib.hid ok
  simp only [Pr.U] at ok
  have HV : Hid (0 ≤ Rg.oneV ⟨⟨p, q⟩, ⟨r, t⟩⟩) := Lib.hid (by show 0 ≤ (if Rg.oneB ⟨⟨p, q⟩, ⟨r, t⟩⟩ then p else 0); split <;> omega)
  have hv := HV.out
  have HN : Hid (0 ≤ (Rg.oneV ⟨⟨p, q⟩, ⟨r, t⟩⟩) % 64 ∧ (Rg.oneV ⟨⟨p, q⟩, ⟨r, t⟩⟩) % 64 ≤ 64) := Lib.hid (by omega)
  have HD : Hid ((p == 0) = false → 0 < q ∧ 0 < p) := Lib.hid (fun h => by
    have : p ≠ 0 := by simpa using h
    omega)
  have or_ : bits .or .u64 b q = ((b.toNat ||| q.toNat : Nat) : Int) := u64_or b q (by omega) (by omega) (by omega) (by omega)
  have HR : Hid (0 ≤ bits .or .u64 b q ∧ bits .or .u64 b q < 18446744073709551616) := Lib.hid (by rw [or_]; have := or_nat (a := b) (b := q) (by omega) (by omega) (by omega); omega)
  have HR2 : Hid (onesI (Int.toNat (bits .or .u64 b q)) = onesI (b.toNat ||| q.toNat)) := Lib.hid (by rw [or_, Int.toNat_natCast])
  have HM : Hid ((p == 0) = false → min b (IntKind.u64.wrap (q - 1)) = min b (q - 1)) := Lib.hid (fun h => by rw [IntKind.wrap_u64, Int.emod_eq_of_lt (by have := (HD.out h).1; omega) (by omega)])
  have by_ : ((Rg.oneV ⟨⟨p, q⟩, ⟨r, t⟩⟩) % 64).toNat = byN ⟨⟨p, q⟩, ⟨r, t⟩⟩ := rfl
  have pn := pw (byN ⟨⟨p, q⟩, ⟨r, t⟩⟩)
  have HF : Hid (((((b * 2 ^ Int.toNat ((Rg.oneV ⟨⟨p, q⟩, ⟨r, t⟩⟩) % 64)) % 18446744073709551616) / 2 ^ Int.toNat ((Rg.oneV ⟨⟨p, q⟩, ⟨r, t⟩⟩) % 64)) == b) = decide (b * 2 ^ byN ⟨⟨p, q⟩, ⟨r, t⟩⟩ < 18446744073709551616)) := Lib.hid (by
    rw [by_]
    generalize byN ⟨⟨p, q⟩, ⟨r, t⟩⟩ = n at pn
    have nb := mulp_nn (a := b) (by omega) n
    rw [Bool.eq_iff_iff, beq_iff_eq, decide_eq_true_eq]
    constructor
    · intro h
      have l := Int.ediv_mul_le (b * 2 ^ n % 18446744073709551616) (show (2 : Int) ^ n ≠ 0 by omega)
      rw [h] at l
      have := Int.emod_lt_of_pos (b * 2 ^ n) (show (0 : Int) < 18446744073709551616 by omega)
      omega
    · intro h
      rw [Int.emod_eq_of_lt nb h, Int.mul_ediv_cancel _ (by omega)])
  have HG : Hid (((((b * 2 ^ Int.toNat ((Rg.oneV ⟨⟨p, q⟩, ⟨r, t⟩⟩) % 64)) % 18446744073709551616) / 2 ^ Int.toNat ((Rg.oneV ⟨⟨p, q⟩, ⟨r, t⟩⟩) % 64)) == b) = true → (⟨a * 2 ^ byN ⟨⟨p, q⟩, ⟨r, t⟩⟩ % 18446744073709551616, b * 2 ^ byN ⟨⟨p, q⟩, ⟨r, t⟩⟩⟩ : Pr) = ⟨(a * 2 ^ Int.toNat ((Rg.oneV ⟨⟨p, q⟩, ⟨r, t⟩⟩) % 64)) % 18446744073709551616, (b * 2 ^ Int.toNat ((Rg.oneV ⟨⟨p, q⟩, ⟨r, t⟩⟩) % 64)) % 18446744073709551616⟩) := Lib.hid (fun h => by
    rw [HF.out, decide_eq_true_eq] at h
    have nb := mulp_nn (a := b) (by omega) (byN ⟨⟨p, q⟩, ⟨r, t⟩⟩)
    rw [by_, Int.emod_eq_of_lt nb h])
  clear ok hv or_ by_ pn hy
  refine calls_abs Try.func86 rfl (Nat.le_of_ble_eq_true rfl) ?_
  intro a0 d0 z0 h0
  replace z0 : a0.tmps.size = 119 := z0
  have s0_0 : a0.tmps.getD 0 undef = .int .i8 op := h0 0 (Nat.le_of_ble_eq_true rfl)
  have s1_0 : a0.tmps.getD 1 undef = .agg (cR a b c d) := h0 1 (Nat.le_of_ble_eq_true rfl)
  have s2_0 : a0.tmps.getD 2 undef = .agg (cR p q r t) := h0 2 (Nat.le_of_ble_eq_true rfl)
  refine wp_seq ?_
  refine go_reg [] [⟨0, 4, 60, (cR a b c d), none, #[]⟩, ⟨1, 5, 60, (cR p q r t), none, #[]⟩, ⟨2, 6, 89, (cU 0 0), none, #[]⟩] [none, none, none] mo d0 z0 (Below.refl _ _) (by kernel_rfl) trivial (
   hc (fun _ ax _ cx => cx.al (wn rfl) 0 rfl (by simp [execOp, Act.eval, (show ax.tmps.getD 1 undef = .agg (cR a b c d) from (cx.rq 1 s1_0)), go_sem]) rfl rfl rfl rfl rfl trivial) <|
   hc (fun _ ax _ cx => cx.al (wn rfl) 1 rfl (by simp [execOp, Act.eval, (show ax.tmps.getD 2 undef = .agg (cR p q r t) from (cx.rq 2 s2_0)), go_sem]) rfl rfl rfl rfl rfl trivial) <|
   hk (fun cx => cx.al (wn rfl) 2 rfl (by simp [execOp, Act.eval, go_sem]) rfl rfl rfl rfl rfl trivial) <|
   hn) ?_
  intro a1 w1 f1
  obtain ⟨g1, u_g1, q_g1, b_g1⟩ := f1.al.1
  obtain ⟨g2, u_g2, q_g2, b_g2⟩ := f1.al.2.1
  obtain ⟨g3, u_g3, q_g3, b_g3⟩ := f1.al.2.2.1
  refine wp_seq ?_
  cases fk1 : Rg.oneB ⟨⟨p, q⟩, ⟨r, t⟩⟩
  case false =>
   have Ffk1 := Lib.hid fk1; clear fk1
   refine go_reg [bx g2 60 (cR p q r t)] [] [some (.agg (cR p q r t)), some (.tuple #[.int .u64 (Rg.oneV ⟨⟨p, q⟩, ⟨r, t⟩⟩), .bool (Rg.oneB ⟨⟨p, q⟩, ⟨r, t⟩⟩)]), some (.tuple #[.int .u64 (Rg.oneV ⟨⟨p, q⟩, ⟨r, t⟩⟩), .bool (Rg.oneB ⟨⟨p, q⟩, ⟨r, t⟩⟩)]), some (.int .u64 (Rg.oneV ⟨⟨p, q⟩, ⟨r, t⟩⟩)), some (.bool false), some (.int .u64 (Rg.oneV ⟨⟨p, q⟩, ⟨r, t⟩⟩)), some (.bool false)] mo f1.d f1.z f1.b (by kernel_rfl) ⟨b_g2, trivial⟩ (
    hk (fun cx => cx.v (ldR rfl (cx.rq 5 u_g2) (cx.rn 0 rfl)) rfl rfl) <|
    hc (fun _ _ wx cx => cx.c rfl (args1 (cx.u 0 rfl)) Try.func23 (by decide +kernel) (single_n p q r t wx) rfl rfl) <|
    hk (fun cx => cx.v (ex_mv rfl (cx.u 0 rfl)) rfl rfl) <|
    hk (fun cx => cx.v (ex_ext (x := .tmp 9) rfl (cx.u 0 rfl) rfl) rfl rfl) <|
    hk (fun cx => cx.v (ex_ext (x := .tmp 9) rfl (cx.u 0 rfl) rfl) rfl (congrArg Value.bool Ffk1.out)) <|
    hk (fun cx => cx.v (ex_as rfl (cx.u 0 rfl)) rfl rfl) <|
    hk (fun cx => cx.v (ex_as rfl (cx.u 0 rfl)) rfl rfl) <|
    hn) ?_
   intro a2 w2 f2
   refine wp_seq ?_
   refine go_reg [] [] [some (.int .u64 (Rg.oneV ⟨⟨p, q⟩, ⟨r, t⟩⟩)), some (.int .u64 ((Rg.oneV ⟨⟨p, q⟩, ⟨r, t⟩⟩) % 64)), some (.int .u64 ((Rg.oneV ⟨⟨p, q⟩, ⟨r, t⟩⟩) % 64))] mo f2.d f2.z f2.b (by kernel_rfl) trivial (
    hk (fun cx => cx.v (ex_mv rfl (cx.un 2 rfl rfl (by kernel_rfl) (f2.v 5 rfl rfl rfl))) rfl rfl) <|
    hk (fun cx => cx.v (exec_rem (x := .tmp 14) rfl (cx.u 0 rfl) rfl HV.out (by decide)) rfl rfl) <|
    hk (fun cx => cx.v (ex_as rfl (cx.u 0 rfl)) rfl rfl) <|
    hn) ?_
   intro a3 w3 f3
   refine wp_seq ?_
   refine wp_seq ?_
   have s0_1 := f3.q 0 (f2.q 0 (f1.q 0 s0_0))
   refine go_reg [] [] [some (.int .i8 op)] mo f3.d f3.z f3.b (by kernel_rfl) trivial (
    hk (fun cx => cx.v (ex_mv rfl (cx.rq 0 s0_1)) rfl rfl) <|
    hn) ?_
   intro a4 w4 f4
   refine wp_block ?_
   refine wp_seq ?_
   cases fk2 : op == 5
   case true =>
    have Ffk2 := Lib.hid fk2; clear fk2
    refine go_reg [] [] [some (.bool true), some (.bool true)] mo f4.d f4.z f4.b (by kernel_rfl) trivial (
     hk (fun cx => cx.v (ex_eq (x := .tmp 16) rfl (cx.rq 16 (f4.v 0 rfl rfl rfl)) rfl) rfl (congrArg Value.bool Ffk2.out)) <|
     hk (fun cx => cx.v (ex_as rfl (cx.u 0 rfl)) rfl rfl) <|
     hn) ?_
    intro a5 w5 f5
    refine wp_cond_true (f5.v 1 rfl rfl rfl) ?_
    refine wp_seq ?_
    have b_g1_2 := f5.k (f4.k (f3.k (f2.k b_g1)))
    have b_g2_3 := f5.k (f4.k (f3.k (f2.k b_g2)))
    have b_g3_4 := f5.k (f4.k (f3.k (f2.k b_g3)))
    have s4_5 := f5.q 4 (f4.q 4 (f3.q 4 (f2.q 4 u_g1)))
    have s5_6 := f5.q 5 (f4.q 5 (f3.q 5 (f2.q 5 u_g2)))
    have s6_7 := f5.q 6 (f4.q 6 (f3.q 6 (f2.q 6 u_g3)))
    refine go_reg [bx g1 60 (cR a b c d), bx g2 60 (cR p q r t), ⟨g3, 89, (cU 0 0), some 6, (cU 0 (min b q))⟩] [] [some (pt g1 1), some (.int .u64 b), some (pt g2 1), some (.int .u64 q), some (.int .u64 (min b q)), some (.agg (cU 0 (min b q))), none] mo f5.d f5.z f5.b (by kernel_rfl) ⟨b_g1_2, b_g2_3, b_g3_4, trivial⟩ (
     hk (fun cx => cx.v (ex_fa rfl (cx.rq 4 s4_5) (faF60_1_0 _ _)) rfl rfl) <|
     hk (fun cx => cx.v (ex_ld rfl (cx.u 0 rfl) (cx.rn 0 rfl) rfl Try.isAgg30) rfl rfl) <|
     hk (fun cx => cx.v (ex_fa rfl (cx.rq 5 s5_6) (faF60_1_0 _ _)) rfl rfl) <|
     hk (fun cx => cx.v (ex_ld rfl (cx.u 0 rfl) (cx.rn 1 rfl) rfl Try.isAgg30) rfl rfl) <|
     hk (fun cx => cx.v (ex_min (x := .tmp 20) (y := .tmp 22) rfl (cx.u 0 rfl) (cx.u 1 rfl)) rfl rfl) <|
     hc (fun _ _ wx cx => cx.c rfl (args1 (cx.u 0 rfl)) Try.func75 (by decide +kernel) (upTo_n (min b q) wx) rfl rfl) <|
     hk (fun cx => cx.stR (wn rfl) rfl rfl 2 rfl (cx.rq 6 s6_7) (cx.u 0 rfl) (by kernel_rfl) rfl (by simp [Value.oneCell']) q_g3 rfl ⟨(ne_ptr (pairAt f1.ps 0 2 (by decide) rfl rfl) u_g1 u_g3), (ne_ptr (pairAt f1.ps 1 2 (by decide) rfl rfl) u_g2 u_g3), trivial⟩ trivial) <|
     hn) ?_
    intro a6 w6 f6
    refine wp_ret ?_
    have s6_8 := f6.q 6 s6_7
    try simp only [Exit.inBlock, Exit.then]
    refine bodyPost_ret (res_c (fn := Try.f86) rfl s6_8 (load_row 89 f6.rows.2.2.1 Try.underlying89 rfl (by kernel_rfl))) f6.d ?_
    have ho : op = 5 := yb Ffk2.out
    have HE : restU op ⟨⟨a, b⟩, ⟨c, d⟩⟩ ⟨⟨p, q⟩, ⟨r, t⟩⟩ = ⟨0, min b q⟩ := by
      unfold restU
      rw [if_pos ho]
      try rfl
    have HE2 : (.agg (cU 0 (min b q)) : Value) = .agg #[.int .u64 (restU op ⟨⟨a, b⟩, ⟨c, d⟩⟩ ⟨⟨p, q⟩, ⟨r, t⟩⟩).lo, .int .u64 (restU op ⟨⟨a, b⟩, ⟨c, d⟩⟩ ⟨⟨p, q⟩, ⟨r, t⟩⟩).hi] := by rw [HE]
    exact ⟨retV HE2, f6.b⟩
   have Ffk2 := Lib.hid fk2; clear fk2
   refine go_reg [] [] [some (.bool false), some (.bool false)] mo f4.d f4.z f4.b (by kernel_rfl) trivial (
    hk (fun cx => cx.v (ex_eq (x := .tmp 16) rfl (cx.rq 16 (f4.v 0 rfl rfl rfl)) rfl) rfl (congrArg Value.bool Ffk2.out)) <|
    hk (fun cx => cx.v (ex_as rfl (cx.u 0 rfl)) rfl rfl) <|
    hn) ?_
   intro a7 w7 f7
   refine wp_cond_false (f7.v 1 rfl rfl rfl) ?_
   refine wp_seq ?_
   cases fk3 : op == 4
   case true =>
    have Ffk3 := Lib.hid fk3; clear fk3
    have s16_9 := f7.q 16 (f4.v 0 rfl rfl rfl)
    refine go_reg [] [] [some (.bool true), some (.bool true)] mo f7.d f7.z f7.b (by kernel_rfl) trivial (
     hk (fun cx => cx.v (ex_eq (x := .tmp 16) rfl (cx.rq 16 s16_9) rfl) rfl (congrArg Value.bool Ffk3.out)) <|
     hk (fun cx => cx.v (ex_as rfl (cx.u 0 rfl)) rfl rfl) <|
     hn) ?_
    intro a8 w8 f8
    refine wp_cond_true (f8.v 1 rfl rfl rfl) ?_
    refine wp_seq ?_
    have b_g1_10 := f8.k (f7.k (f4.k (f3.k (f2.k b_g1))))
    have b_g2_11 := f8.k (f7.k (f4.k (f3.k (f2.k b_g2))))
    have b_g3_12 := f8.k (f7.k (f4.k (f3.k (f2.k b_g3))))
    have s4_13 := f8.q 4 (f7.q 4 (f4.q 4 (f3.q 4 (f2.q 4 u_g1))))
    have s5_14 := f8.q 5 (f7.q 5 (f4.q 5 (f3.q 5 (f2.q 5 u_g2))))
    have s6_15 := f8.q 6 (f7.q 6 (f4.q 6 (f3.q 6 (f2.q 6 u_g3))))
    refine go_reg [bx g1 60 (cR a b c d), bx g2 60 (cR p q r t), ⟨g3, 89, (cU 0 0), some 12, (cU (max a p) (onesI (Int.toNat (bits .or .u64 b q))))⟩] [] [some (pt g1 0), some (.int .u64 a), some (pt g2 0), some (.int .u64 p), some (.int .u64 (max a p)), some (pt g1 1), some (.int .u64 b), some (pt g2 1), some (.int .u64 q), some (.int .u64 (bits .or .u64 b q)), some (.int .u64 (onesI (Int.toNat (bits .or .u64 b q)))), some (.agg (cU (max a p) (onesI (Int.toNat (bits .or .u64 b q))))), none] mo f8.d f8.z f8.b (by kernel_rfl) ⟨b_g1_10, b_g2_11, b_g3_12, trivial⟩ (
     hk (fun cx => cx.v (ex_fa rfl (cx.rq 4 s4_13) (faF60_0_0 _ _)) rfl rfl) <|
     hk (fun cx => cx.v (ex_ld rfl (cx.u 0 rfl) (cx.rn 0 rfl) rfl Try.isAgg30) rfl rfl) <|
     hk (fun cx => cx.v (ex_fa rfl (cx.rq 5 s5_14) (faF60_0_0 _ _)) rfl rfl) <|
     hk (fun cx => cx.v (ex_ld rfl (cx.u 0 rfl) (cx.rn 1 rfl) rfl Try.isAgg30) rfl rfl) <|
     hc (fun _ ax _ cx => cx.v (ex_max (x := .tmp 28) (y := .tmp 30) rfl (cx.u 0 rfl) (cx.u 1 rfl)) rfl rfl) <|
     hk (fun cx => cx.v (ex_fa rfl (cx.rq 4 s4_13) (faF60_1_0 _ _)) rfl rfl) <|
     hk (fun cx => cx.v (ex_ld rfl (cx.u 0 rfl) (cx.rn 0 rfl) rfl Try.isAgg30) rfl rfl) <|
     hk (fun cx => cx.v (ex_fa rfl (cx.rq 5 s5_14) (faF60_1_0 _ _)) rfl rfl) <|
     hk (fun cx => cx.v (ex_ld rfl (cx.u 0 rfl) (cx.rn 1 rfl) rfl Try.isAgg30) rfl rfl) <|
     hk (fun cx => cx.v (ex_or (x := .tmp 33) (y := .tmp 35) rfl (cx.u 0 rfl) (cx.u 1 rfl)) rfl rfl) <|
     hc (fun _ _ wx cx => cx.c rfl (args1 (cx.u 0 rfl)) Try.func119 (by decide +kernel) (ones_n (bits .or .u64 b q) wx HR.out.1 HR.out.2) rfl rfl) <|
     hk (fun cx => cx.v (exec_build rfl (parts2 (cx.u 0 rfl) (cx.u 1 rfl)) (by kernel_rfl)) rfl rfl) <|
     hk (fun cx => cx.stR (wn rfl) rfl rfl 2 rfl (cx.rq 6 s6_15) (cx.u 0 rfl) (by kernel_rfl) rfl (by simp [Value.oneCell']) q_g3 rfl ⟨(ne_ptr (pairAt f1.ps 0 2 (by decide) rfl rfl) u_g1 u_g3), (ne_ptr (pairAt f1.ps 1 2 (by decide) rfl rfl) u_g2 u_g3), trivial⟩ trivial) <|
     hn) ?_
    intro a9 w9 f9
    refine wp_ret ?_
    have s6_16 := f9.q 6 s6_15
    try simp only [Exit.inBlock, Exit.then]
    refine bodyPost_ret (res_c (fn := Try.f86) rfl s6_16 (load_row 89 f9.rows.2.2.1 Try.underlying89 rfl (by kernel_rfl))) f9.d ?_
    have no5 := nb Ffk2.out
    have ho : op = 4 := yb Ffk3.out
    have HE : restU op ⟨⟨a, b⟩, ⟨c, d⟩⟩ ⟨⟨p, q⟩, ⟨r, t⟩⟩ = ⟨max a p, onesI (Int.toNat (bits .or .u64 b q))⟩ := by
      unfold restU
      rw [if_neg no5]
      rw [if_pos ho]
      rw [← HR2.out]
      try rfl
    have HE2 : (.agg (cU (max a p) (onesI (Int.toNat (bits .or .u64 b q)))) : Value) = .agg #[.int .u64 (restU op ⟨⟨a, b⟩, ⟨c, d⟩⟩ ⟨⟨p, q⟩, ⟨r, t⟩⟩).lo, .int .u64 (restU op ⟨⟨a, b⟩, ⟨c, d⟩⟩ ⟨⟨p, q⟩, ⟨r, t⟩⟩).hi] := by rw [HE]
    exact ⟨retV HE2, f9.b⟩
   have Ffk3 := Lib.hid fk3; clear fk3
   have s16_17 := f7.q 16 (f4.v 0 rfl rfl rfl)
   refine go_reg [] [] [some (.bool false), some (.bool false)] mo f7.d f7.z f7.b (by kernel_rfl) trivial (
    hk (fun cx => cx.v (ex_eq (x := .tmp 16) rfl (cx.rq 16 s16_17) rfl) rfl (congrArg Value.bool Ffk3.out)) <|
    hk (fun cx => cx.v (ex_as rfl (cx.u 0 rfl)) rfl rfl) <|
    hn) ?_
   intro a10 w10 f10
   refine wp_cond_false (f10.v 1 rfl rfl rfl) ?_
   refine wp_seq ?_
   cases fk4 : op == 10
   case true =>
    have Ffk4 := Lib.hid fk4; clear fk4
    have s16_18 := f10.q 16 s16_17
    refine go_reg [] [] [some (.bool true), some (.bool true)] mo f10.d f10.z f10.b (by kernel_rfl) trivial (
     hk (fun cx => cx.v (ex_eq (x := .tmp 16) rfl (cx.rq 16 s16_18) rfl) rfl (congrArg Value.bool Ffk4.out)) <|
     hk (fun cx => cx.v (ex_as rfl (cx.u 0 rfl)) rfl rfl) <|
     hn) ?_
    intro a11 w11 f11
    refine wp_cond_true (f11.v 1 rfl rfl rfl) ?_
    refine wp_seq ?_
    have b_g1_19 := f11.k (f10.k (f7.k (f4.k (f3.k (f2.k b_g1)))))
    have b_g2_20 := f11.k (f10.k (f7.k (f4.k (f3.k (f2.k b_g2)))))
    have b_g3_21 := f11.k (f10.k (f7.k (f4.k (f3.k (f2.k b_g3)))))
    have s4_22 := f11.q 4 (f10.q 4 (f7.q 4 (f4.q 4 (f3.q 4 (f2.q 4 u_g1)))))
    have s5_23 := f11.q 5 (f10.q 5 (f7.q 5 (f4.q 5 (f3.q 5 (f2.q 5 u_g2)))))
    have s6_24 := f11.q 6 (f10.q 6 (f7.q 6 (f4.q 6 (f3.q 6 (f2.q 6 u_g3)))))
    refine go_reg [bx g1 60 (cR a b c d), bx g2 60 (cR p q r t), ⟨g3, 89, (cU 0 0), some 7, (cU 0 (onesI (Int.toNat (bits .or .u64 b q))))⟩] [] [some (pt g1 1), some (.int .u64 b), some (pt g2 1), some (.int .u64 q), some (.int .u64 (bits .or .u64 b q)), some (.int .u64 (onesI (Int.toNat (bits .or .u64 b q)))), some (.agg (cU 0 (onesI (Int.toNat (bits .or .u64 b q))))), none] mo f11.d f11.z f11.b (by kernel_rfl) ⟨b_g1_19, b_g2_20, b_g3_21, trivial⟩ (
     hk (fun cx => cx.v (ex_fa rfl (cx.rq 4 s4_22) (faF60_1_0 _ _)) rfl rfl) <|
     hk (fun cx => cx.v (ex_ld rfl (cx.u 0 rfl) (cx.rn 0 rfl) rfl Try.isAgg30) rfl rfl) <|
     hk (fun cx => cx.v (ex_fa rfl (cx.rq 5 s5_23) (faF60_1_0 _ _)) rfl rfl) <|
     hk (fun cx => cx.v (ex_ld rfl (cx.u 0 rfl) (cx.rn 1 rfl) rfl Try.isAgg30) rfl rfl) <|
     hk (fun cx => cx.v (ex_or (x := .tmp 42) (y := .tmp 44) rfl (cx.u 0 rfl) (cx.u 1 rfl)) rfl rfl) <|
     hc (fun _ _ wx cx => cx.c rfl (args1 (cx.u 0 rfl)) Try.func119 (by decide +kernel) (ones_n (bits .or .u64 b q) wx HR.out.1 HR.out.2) rfl rfl) <|
     hc (fun _ _ wx cx => cx.c rfl (args1 (cx.u 0 rfl)) Try.func75 (by decide +kernel) (upTo_n (onesI (Int.toNat (bits .or .u64 b q))) wx) rfl rfl) <|
     hk (fun cx => cx.stR (wn rfl) rfl rfl 2 rfl (cx.rq 6 s6_24) (cx.u 0 rfl) (by kernel_rfl) rfl (by simp [Value.oneCell']) q_g3 rfl ⟨(ne_ptr (pairAt f1.ps 0 2 (by decide) rfl rfl) u_g1 u_g3), (ne_ptr (pairAt f1.ps 1 2 (by decide) rfl rfl) u_g2 u_g3), trivial⟩ trivial) <|
     hn) ?_
    intro a12 w12 f12
    refine wp_ret ?_
    have s6_25 := f12.q 6 s6_24
    try simp only [Exit.inBlock, Exit.then]
    refine bodyPost_ret (res_c (fn := Try.f86) rfl s6_25 (load_row 89 f12.rows.2.2.1 Try.underlying89 rfl (by kernel_rfl))) f12.d ?_
    have no5 := nb Ffk2.out
    have no4 := nb Ffk3.out
    have ho : op = 10 := yb Ffk4.out
    have HE : restU op ⟨⟨a, b⟩, ⟨c, d⟩⟩ ⟨⟨p, q⟩, ⟨r, t⟩⟩ = ⟨0, onesI (Int.toNat (bits .or .u64 b q))⟩ := by
      unfold restU
      rw [if_neg no5, if_neg no4]
      rw [if_pos ho]
      rw [← HR2.out]
      try rfl
    have HE2 : (.agg (cU 0 (onesI (Int.toNat (bits .or .u64 b q)))) : Value) = .agg #[.int .u64 (restU op ⟨⟨a, b⟩, ⟨c, d⟩⟩ ⟨⟨p, q⟩, ⟨r, t⟩⟩).lo, .int .u64 (restU op ⟨⟨a, b⟩, ⟨c, d⟩⟩ ⟨⟨p, q⟩, ⟨r, t⟩⟩).hi] := by rw [HE]
    exact ⟨retV HE2, f12.b⟩
   have Ffk4 := Lib.hid fk4; clear fk4
   have s16_26 := f10.q 16 s16_17
   refine go_reg [] [] [some (.bool false), some (.bool false)] mo f10.d f10.z f10.b (by kernel_rfl) trivial (
    hk (fun cx => cx.v (ex_eq (x := .tmp 16) rfl (cx.rq 16 s16_26) rfl) rfl (congrArg Value.bool Ffk4.out)) <|
    hk (fun cx => cx.v (ex_as rfl (cx.u 0 rfl)) rfl rfl) <|
    hn) ?_
   intro a13 w13 f13
   refine wp_cond_false (f13.v 1 rfl rfl rfl) ?_
   refine wp_seq ?_
   cases fk5 : op == 3
   case true =>
    have Ffk5 := Lib.hid fk5; clear fk5
    have s16_27 := f13.q 16 s16_26
    refine go_reg [] [] [some (.bool true), some (.bool true)] mo f13.d f13.z f13.b (by kernel_rfl) trivial (
     hk (fun cx => cx.v (ex_eq (x := .tmp 16) rfl (cx.rq 16 s16_27) rfl) rfl (congrArg Value.bool Ffk5.out)) <|
     hk (fun cx => cx.v (ex_as rfl (cx.u 0 rfl)) rfl rfl) <|
     hn) ?_
    intro a14 w14 f14
    refine wp_cond_true (f14.v 1 rfl rfl rfl) ?_
    refine wp_seq ?_
    refine wp_seq ?_
    cases fk6 : p == 0
    case false =>
     have Ffk6 := Lib.hid fk6; clear fk6
     have b_g2_28 := f14.k (f13.k (f10.k (f7.k (f4.k (f3.k (f2.k b_g2))))))
     have s5_29 := f14.q 5 (f13.q 5 (f10.q 5 (f7.q 5 (f4.q 5 (f3.q 5 (f2.q 5 u_g2))))))
     refine go_reg [bx g2 60 (cR p q r t)] [] [some (pt g2 0), some (.int .u64 p), some (.bool false)] mo f14.d f14.z f14.b (by kernel_rfl) ⟨b_g2_28, trivial⟩ (
      hk (fun cx => cx.v (ex_fa rfl (cx.rq 5 s5_29) (faF60_0_0 _ _)) rfl rfl) <|
      hk (fun cx => cx.v (ex_ld rfl (cx.u 0 rfl) (cx.rn 0 rfl) rfl Try.isAgg30) rfl rfl) <|
      hk (fun cx => cx.v (ex_eq (x := .tmp 51) rfl (cx.u 0 rfl) rfl) rfl (congrArg Value.bool Ffk6.out)) <|
      hn) ?_
     intro a15 w15 f15
     refine wp_cond_false (f15.v 2 rfl rfl rfl) ?_
     refine wp_skip ?_
     refine wp_seq ?_
     have b_g1_30 := f15.k (f14.k (f13.k (f10.k (f7.k (f4.k (f3.k (f2.k b_g1)))))))
     have b_g2_31 := f15.k b_g2_28
     have b_g3_32 := f15.k (f14.k (f13.k (f10.k (f7.k (f4.k (f3.k (f2.k b_g3)))))))
     have s4_33 := f15.q 4 (f14.q 4 (f13.q 4 (f10.q 4 (f7.q 4 (f4.q 4 (f3.q 4 (f2.q 4 u_g1)))))))
     have s5_34 := f15.q 5 s5_29
     have s6_35 := f15.q 6 (f14.q 6 (f13.q 6 (f10.q 6 (f7.q 6 (f4.q 6 (f3.q 6 (f2.q 6 u_g3)))))))
     refine go_reg [bx g1 60 (cR a b c d), bx g2 60 (cR p q r t), ⟨g3, 89, (cU 0 0), some 11, (cU (a / q) (b / p))⟩] [] [some (pt g1 0), some (.int .u64 a), some (pt g2 1), some (.int .u64 q), some (.int .u64 (a / q)), some (pt g1 1), some (.int .u64 b), some (pt g2 0), some (.int .u64 p), some (.int .u64 (b / p)), some (.agg (cU (a / q) (b / p))), none] mo f15.d f15.z f15.b (by kernel_rfl) ⟨b_g1_30, b_g2_31, b_g3_32, trivial⟩ (
      hk (fun cx => cx.v (ex_fa rfl (cx.rq 4 s4_33) (faF60_0_0 _ _)) rfl rfl) <|
      hk (fun cx => cx.v (ex_ld rfl (cx.u 0 rfl) (cx.rn 0 rfl) rfl Try.isAgg30) rfl rfl) <|
      hk (fun cx => cx.v (ex_fa rfl (cx.rq 5 s5_34) (faF60_1_0 _ _)) rfl rfl) <|
      hk (fun cx => cx.v (ex_ld rfl (cx.u 0 rfl) (cx.rn 1 rfl) rfl Try.isAgg30) rfl rfl) <|
      hk (fun cx => cx.v (exec_quo (x := .tmp 57) (y := .tmp 59) rfl (cx.u 0 rfl) (cx.u 1 rfl) HO.out.1.1.1 (HD.out Ffk6.out).1 HO.out.1.1.2) rfl rfl) <|
      hk (fun cx => cx.v (ex_fa rfl (cx.rq 4 s4_33) (faF60_1_0 _ _)) rfl rfl) <|
      hk (fun cx => cx.v (ex_ld rfl (cx.u 0 rfl) (cx.rn 0 rfl) rfl Try.isAgg30) rfl rfl) <|
      hk (fun cx => cx.v (ex_fa rfl (cx.rq 5 s5_34) (faF60_0_0 _ _)) rfl rfl) <|
      hk (fun cx => cx.v (ex_ld rfl (cx.u 0 rfl) (cx.rn 1 rfl) rfl Try.isAgg30) rfl rfl) <|
      hk (fun cx => cx.v (exec_quo (x := .tmp 62) (y := .tmp 64) rfl (cx.u 0 rfl) (cx.u 1 rfl) HO.out.1.2.1 (HD.out Ffk6.out).2 HO.out.1.2.2) rfl rfl) <|
      hk (fun cx => cx.v (exec_build rfl (parts2 (cx.u 0 rfl) (cx.u 1 rfl)) (by kernel_rfl)) rfl rfl) <|
      hk (fun cx => cx.stR (wn rfl) rfl rfl 2 rfl (cx.rq 6 s6_35) (cx.u 0 rfl) (by kernel_rfl) rfl (by simp [Value.oneCell']) q_g3 rfl ⟨(ne_ptr (pairAt f1.ps 0 2 (by decide) rfl rfl) u_g1 u_g3), (ne_ptr (pairAt f1.ps 1 2 (by decide) rfl rfl) u_g2 u_g3), trivial⟩ trivial) <|
      hn) ?_
     intro a16 w16 f16
     refine wp_ret ?_
     have s6_36 := f16.q 6 s6_35
     try simp only [Exit.inBlock, Exit.then]
     refine bodyPost_ret (res_c (fn := Try.f86) rfl s6_36 (load_row 89 f16.rows.2.2.1 Try.underlying89 rfl (by kernel_rfl))) f16.d ?_
     have no5 := nb Ffk2.out
     have no4 := nb Ffk3.out
     have no10 := nb Ffk4.out
     have ho : op = 3 := yb Ffk5.out
     have HE : restU op ⟨⟨a, b⟩, ⟨c, d⟩⟩ ⟨⟨p, q⟩, ⟨r, t⟩⟩ = ⟨a / q, b / p⟩ := by
       unfold restU
       rw [if_neg no5, if_neg no4, if_neg no10]
       rw [if_pos ho]
       rw [if_neg (by have := Ffk6.out; simpa using this)]
       try rfl
     have HE2 : (.agg (cU (a / q) (b / p)) : Value) = .agg #[.int .u64 (restU op ⟨⟨a, b⟩, ⟨c, d⟩⟩ ⟨⟨p, q⟩, ⟨r, t⟩⟩).lo, .int .u64 (restU op ⟨⟨a, b⟩, ⟨c, d⟩⟩ ⟨⟨p, q⟩, ⟨r, t⟩⟩).hi] := by rw [HE]
     exact ⟨retV HE2, f16.b⟩
    have Ffk6 := Lib.hid fk6; clear fk6
    have b_g2_37 := f14.k (f13.k (f10.k (f7.k (f4.k (f3.k (f2.k b_g2))))))
    have s5_38 := f14.q 5 (f13.q 5 (f10.q 5 (f7.q 5 (f4.q 5 (f3.q 5 (f2.q 5 u_g2))))))
    refine go_reg [bx g2 60 (cR p q r t)] [] [some (pt g2 0), some (.int .u64 p), some (.bool true)] mo f14.d f14.z f14.b (by kernel_rfl) ⟨b_g2_37, trivial⟩ (
     hk (fun cx => cx.v (ex_fa rfl (cx.rq 5 s5_38) (faF60_0_0 _ _)) rfl rfl) <|
     hk (fun cx => cx.v (ex_ld rfl (cx.u 0 rfl) (cx.rn 0 rfl) rfl Try.isAgg30) rfl rfl) <|
     hk (fun cx => cx.v (ex_eq (x := .tmp 51) rfl (cx.u 0 rfl) rfl) rfl (congrArg Value.bool Ffk6.out)) <|
     hn) ?_
    intro a17 w17 f17
    refine wp_cond_true (f17.v 2 rfl rfl rfl) ?_
    refine wp_seq ?_
    have b_g1_39 := f17.k (f14.k (f13.k (f10.k (f7.k (f4.k (f3.k (f2.k b_g1)))))))
    have b_g3_40 := f17.k (f14.k (f13.k (f10.k (f7.k (f4.k (f3.k (f2.k b_g3)))))))
    have s4_41 := f17.q 4 (f14.q 4 (f13.q 4 (f10.q 4 (f7.q 4 (f4.q 4 (f3.q 4 (f2.q 4 u_g1)))))))
    have s6_42 := f17.q 6 (f14.q 6 (f13.q 6 (f10.q 6 (f7.q 6 (f4.q 6 (f3.q 6 (f2.q 6 u_g3)))))))
    refine go_reg [bx g1 60 (cR a b c d), ⟨g3, 89, (cU 0 0), some 3, (cU 0 b)⟩] [] [some (pt g1 1), some (.int .u64 b), some (.agg (cU 0 b)), none] mo f17.d f17.z f17.b (by kernel_rfl) ⟨b_g1_39, b_g3_40, trivial⟩ (
     hk (fun cx => cx.v (ex_fa rfl (cx.rq 4 s4_41) (faF60_1_0 _ _)) rfl rfl) <|
     hk (fun cx => cx.v (ex_ld rfl (cx.u 0 rfl) (cx.rn 0 rfl) rfl Try.isAgg30) rfl rfl) <|
     hc (fun _ _ wx cx => cx.c rfl (args1 (cx.u 0 rfl)) Try.func75 (by decide +kernel) (upTo_n b wx) rfl rfl) <|
     hk (fun cx => cx.stR (wn rfl) rfl rfl 1 rfl (cx.rq 6 s6_42) (cx.u 0 rfl) (by kernel_rfl) rfl (by simp [Value.oneCell']) q_g3 rfl ⟨(ne_ptr (pairAt f1.ps 0 2 (by decide) rfl rfl) u_g1 u_g3), trivial⟩ trivial) <|
     hn) ?_
    intro a18 w18 f18
    refine wp_ret ?_
    have s6_43 := f18.q 6 s6_42
    try simp only [Exit.inBlock, Exit.then]
    refine bodyPost_ret (res_c (fn := Try.f86) rfl s6_43 (load_row 89 f18.rows.2.1 Try.underlying89 rfl (by kernel_rfl))) f18.d ?_
    have no5 := nb Ffk2.out
    have no4 := nb Ffk3.out
    have no10 := nb Ffk4.out
    have ho : op = 3 := yb Ffk5.out
    have HE : restU op ⟨⟨a, b⟩, ⟨c, d⟩⟩ ⟨⟨p, q⟩, ⟨r, t⟩⟩ = ⟨0, b⟩ := by
      unfold restU
      rw [if_neg no5, if_neg no4, if_neg no10]
      rw [if_pos ho]
      rw [if_pos (by have := Ffk6.out; simpa using this)]
      try rfl
    have HE2 : (.agg (cU 0 b) : Value) = .agg #[.int .u64 (restU op ⟨⟨a, b⟩, ⟨c, d⟩⟩ ⟨⟨p, q⟩, ⟨r, t⟩⟩).lo, .int .u64 (restU op ⟨⟨a, b⟩, ⟨c, d⟩⟩ ⟨⟨p, q⟩, ⟨r, t⟩⟩).hi] := by rw [HE]
    exact ⟨retV HE2, f18.b⟩
   have Ffk5 := Lib.hid fk5; clear fk5
   have s16_44 := f13.q 16 s16_26
   refine go_reg [] [] [some (.bool false), some (.bool false)] mo f13.d f13.z f13.b (by kernel_rfl) trivial (
    hk (fun cx => cx.v (ex_eq (x := .tmp 16) rfl (cx.rq 16 s16_44) rfl) rfl (congrArg Value.bool Ffk5.out)) <|
    hk (fun cx => cx.v (ex_as rfl (cx.u 0 rfl)) rfl rfl) <|
    hn) ?_
   intro a19 w19 f19
   refine wp_cond_false (f19.v 1 rfl rfl rfl) ?_
   refine wp_seq ?_
   cases fk7 : op == 9
   case true =>
    have Ffk7 := Lib.hid fk7; clear fk7
    have s16_45 := f19.q 16 s16_44
    refine go_reg [] [] [some (.bool true), some (.bool true)] mo f19.d f19.z f19.b (by kernel_rfl) trivial (
     hk (fun cx => cx.v (ex_eq (x := .tmp 16) rfl (cx.rq 16 s16_45) rfl) rfl (congrArg Value.bool Ffk7.out)) <|
     hk (fun cx => cx.v (ex_as rfl (cx.u 0 rfl)) rfl rfl) <|
     hn) ?_
    intro a20 w20 f20
    refine wp_cond_true (f20.v 1 rfl rfl rfl) ?_
    refine wp_seq ?_
    refine wp_seq ?_
    cases fk8 : p == 0
    case false =>
     have Ffk8 := Lib.hid fk8; clear fk8
     have b_g2_46 := f20.k (f19.k (f13.k (f10.k (f7.k (f4.k (f3.k (f2.k b_g2)))))))
     have s5_47 := f20.q 5 (f19.q 5 (f13.q 5 (f10.q 5 (f7.q 5 (f4.q 5 (f3.q 5 (f2.q 5 u_g2)))))))
     refine go_reg [bx g2 60 (cR p q r t)] [] [some (pt g2 0), some (.int .u64 p), some (.bool false)] mo f20.d f20.z f20.b (by kernel_rfl) ⟨b_g2_46, trivial⟩ (
      hk (fun cx => cx.v (ex_fa rfl (cx.rq 5 s5_47) (faF60_0_0 _ _)) rfl rfl) <|
      hk (fun cx => cx.v (ex_ld rfl (cx.u 0 rfl) (cx.rn 0 rfl) rfl Try.isAgg30) rfl rfl) <|
      hk (fun cx => cx.v (ex_eq (x := .tmp 70) rfl (cx.u 0 rfl) rfl) rfl (congrArg Value.bool Ffk8.out)) <|
      hn) ?_
     intro a21 w21 f21
     refine wp_cond_false (f21.v 2 rfl rfl rfl) ?_
     refine wp_skip ?_
     refine wp_seq ?_
     have b_g1_48 := f21.k (f20.k (f19.k (f13.k (f10.k (f7.k (f4.k (f3.k (f2.k b_g1))))))))
     have b_g2_49 := f21.k b_g2_46
     have b_g3_50 := f21.k (f20.k (f19.k (f13.k (f10.k (f7.k (f4.k (f3.k (f2.k b_g3))))))))
     have s4_51 := f21.q 4 (f20.q 4 (f19.q 4 (f13.q 4 (f10.q 4 (f7.q 4 (f4.q 4 (f3.q 4 (f2.q 4 u_g1))))))))
     have s5_52 := f21.q 5 s5_47
     have s6_53 := f21.q 6 (f20.q 6 (f19.q 6 (f13.q 6 (f10.q 6 (f7.q 6 (f4.q 6 (f3.q 6 (f2.q 6 u_g3))))))))
     refine go_reg [bx g1 60 (cR a b c d), bx g2 60 (cR p q r t), ⟨g3, 89, (cU 0 0), some 7, (cU 0 (min b (IntKind.u64.wrap (q - 1))))⟩] [] [some (pt g1 1), some (.int .u64 b), some (pt g2 1), some (.int .u64 q), some (.int .u64 (IntKind.u64.wrap (q - 1))), some (.int .u64 (min b (IntKind.u64.wrap (q - 1)))), some (.agg (cU 0 (min b (IntKind.u64.wrap (q - 1))))), none] mo f21.d f21.z f21.b (by kernel_rfl) ⟨b_g1_48, b_g2_49, b_g3_50, trivial⟩ (
      hk (fun cx => cx.v (ex_fa rfl (cx.rq 4 s4_51) (faF60_1_0 _ _)) rfl rfl) <|
      hk (fun cx => cx.v (ex_ld rfl (cx.u 0 rfl) (cx.rn 0 rfl) rfl Try.isAgg30) rfl rfl) <|
      hk (fun cx => cx.v (ex_fa rfl (cx.rq 5 s5_52) (faF60_1_0 _ _)) rfl rfl) <|
      hk (fun cx => cx.v (ex_ld rfl (cx.u 0 rfl) (cx.rn 1 rfl) rfl Try.isAgg30) rfl rfl) <|
      hk (fun cx => cx.v (ex_sub (x := .tmp 78) rfl (cx.u 0 rfl) rfl) rfl rfl) <|
      hk (fun cx => cx.v (ex_min (x := .tmp 76) (y := .tmp 79) rfl (cx.u 0 rfl) (cx.u 1 rfl)) rfl rfl) <|
      hc (fun _ _ wx cx => cx.c rfl (args1 (cx.u 0 rfl)) Try.func75 (by decide +kernel) (upTo_n (min b (IntKind.u64.wrap (q - 1))) wx) rfl rfl) <|
      hk (fun cx => cx.stR (wn rfl) rfl rfl 2 rfl (cx.rq 6 s6_53) (cx.u 0 rfl) (by kernel_rfl) rfl (by simp [Value.oneCell']) q_g3 rfl ⟨(ne_ptr (pairAt f1.ps 0 2 (by decide) rfl rfl) u_g1 u_g3), (ne_ptr (pairAt f1.ps 1 2 (by decide) rfl rfl) u_g2 u_g3), trivial⟩ trivial) <|
      hn) ?_
     intro a22 w22 f22
     refine wp_ret ?_
     have s6_54 := f22.q 6 s6_53
     try simp only [Exit.inBlock, Exit.then]
     refine bodyPost_ret (res_c (fn := Try.f86) rfl s6_54 (load_row 89 f22.rows.2.2.1 Try.underlying89 rfl (by kernel_rfl))) f22.d ?_
     have no5 := nb Ffk2.out
     have no4 := nb Ffk3.out
     have no10 := nb Ffk4.out
     have no3 := nb Ffk5.out
     have ho : op = 9 := yb Ffk7.out
     have HE : restU op ⟨⟨a, b⟩, ⟨c, d⟩⟩ ⟨⟨p, q⟩, ⟨r, t⟩⟩ = ⟨0, min b (IntKind.u64.wrap (q - 1))⟩ := by
       unfold restU
       rw [if_neg no5, if_neg no4, if_neg no10, if_neg no3]
       rw [if_pos ho]
       rw [if_neg (by have := Ffk8.out; simpa using this)]
       rw [← (HM.out Ffk8.out)]
       try rfl
     have HE2 : (.agg (cU 0 (min b (IntKind.u64.wrap (q - 1)))) : Value) = .agg #[.int .u64 (restU op ⟨⟨a, b⟩, ⟨c, d⟩⟩ ⟨⟨p, q⟩, ⟨r, t⟩⟩).lo, .int .u64 (restU op ⟨⟨a, b⟩, ⟨c, d⟩⟩ ⟨⟨p, q⟩, ⟨r, t⟩⟩).hi] := by rw [HE]
     exact ⟨retV HE2, f22.b⟩
    have Ffk8 := Lib.hid fk8; clear fk8
    have b_g2_55 := f20.k (f19.k (f13.k (f10.k (f7.k (f4.k (f3.k (f2.k b_g2)))))))
    have s5_56 := f20.q 5 (f19.q 5 (f13.q 5 (f10.q 5 (f7.q 5 (f4.q 5 (f3.q 5 (f2.q 5 u_g2)))))))
    refine go_reg [bx g2 60 (cR p q r t)] [] [some (pt g2 0), some (.int .u64 p), some (.bool true)] mo f20.d f20.z f20.b (by kernel_rfl) ⟨b_g2_55, trivial⟩ (
     hk (fun cx => cx.v (ex_fa rfl (cx.rq 5 s5_56) (faF60_0_0 _ _)) rfl rfl) <|
     hk (fun cx => cx.v (ex_ld rfl (cx.u 0 rfl) (cx.rn 0 rfl) rfl Try.isAgg30) rfl rfl) <|
     hk (fun cx => cx.v (ex_eq (x := .tmp 70) rfl (cx.u 0 rfl) rfl) rfl (congrArg Value.bool Ffk8.out)) <|
     hn) ?_
    intro a23 w23 f23
    refine wp_cond_true (f23.v 2 rfl rfl rfl) ?_
    refine wp_seq ?_
    have b_g1_57 := f23.k (f20.k (f19.k (f13.k (f10.k (f7.k (f4.k (f3.k (f2.k b_g1))))))))
    have b_g3_58 := f23.k (f20.k (f19.k (f13.k (f10.k (f7.k (f4.k (f3.k (f2.k b_g3))))))))
    have s4_59 := f23.q 4 (f20.q 4 (f19.q 4 (f13.q 4 (f10.q 4 (f7.q 4 (f4.q 4 (f3.q 4 (f2.q 4 u_g1))))))))
    have s6_60 := f23.q 6 (f20.q 6 (f19.q 6 (f13.q 6 (f10.q 6 (f7.q 6 (f4.q 6 (f3.q 6 (f2.q 6 u_g3))))))))
    refine go_reg [bx g1 60 (cR a b c d), ⟨g3, 89, (cU 0 0), some 3, (cU 0 b)⟩] [] [some (pt g1 1), some (.int .u64 b), some (.agg (cU 0 b)), none] mo f23.d f23.z f23.b (by kernel_rfl) ⟨b_g1_57, b_g3_58, trivial⟩ (
     hk (fun cx => cx.v (ex_fa rfl (cx.rq 4 s4_59) (faF60_1_0 _ _)) rfl rfl) <|
     hk (fun cx => cx.v (ex_ld rfl (cx.u 0 rfl) (cx.rn 0 rfl) rfl Try.isAgg30) rfl rfl) <|
     hc (fun _ _ wx cx => cx.c rfl (args1 (cx.u 0 rfl)) Try.func75 (by decide +kernel) (upTo_n b wx) rfl rfl) <|
     hk (fun cx => cx.stR (wn rfl) rfl rfl 1 rfl (cx.rq 6 s6_60) (cx.u 0 rfl) (by kernel_rfl) rfl (by simp [Value.oneCell']) q_g3 rfl ⟨(ne_ptr (pairAt f1.ps 0 2 (by decide) rfl rfl) u_g1 u_g3), trivial⟩ trivial) <|
     hn) ?_
    intro a24 w24 f24
    refine wp_ret ?_
    have s6_61 := f24.q 6 s6_60
    try simp only [Exit.inBlock, Exit.then]
    refine bodyPost_ret (res_c (fn := Try.f86) rfl s6_61 (load_row 89 f24.rows.2.1 Try.underlying89 rfl (by kernel_rfl))) f24.d ?_
    have no5 := nb Ffk2.out
    have no4 := nb Ffk3.out
    have no10 := nb Ffk4.out
    have no3 := nb Ffk5.out
    have ho : op = 9 := yb Ffk7.out
    have HE : restU op ⟨⟨a, b⟩, ⟨c, d⟩⟩ ⟨⟨p, q⟩, ⟨r, t⟩⟩ = ⟨0, b⟩ := by
      unfold restU
      rw [if_neg no5, if_neg no4, if_neg no10, if_neg no3]
      rw [if_pos ho]
      rw [if_pos (by have := Ffk8.out; simpa using this)]
      try rfl
    have HE2 : (.agg (cU 0 b) : Value) = .agg #[.int .u64 (restU op ⟨⟨a, b⟩, ⟨c, d⟩⟩ ⟨⟨p, q⟩, ⟨r, t⟩⟩).lo, .int .u64 (restU op ⟨⟨a, b⟩, ⟨c, d⟩⟩ ⟨⟨p, q⟩, ⟨r, t⟩⟩).hi] := by rw [HE]
    exact ⟨retV HE2, f24.b⟩
   have Ffk7 := Lib.hid fk7; clear fk7
   have s16_62 := f19.q 16 s16_44
   refine go_reg [] [] [some (.bool false), some (.bool false)] mo f19.d f19.z f19.b (by kernel_rfl) trivial (
    hk (fun cx => cx.v (ex_eq (x := .tmp 16) rfl (cx.rq 16 s16_62) rfl) rfl (congrArg Value.bool Ffk7.out)) <|
    hk (fun cx => cx.v (ex_as rfl (cx.u 0 rfl)) rfl rfl) <|
    hn) ?_
   intro a25 w25 f25
   refine wp_cond_false (f25.v 1 rfl rfl rfl) ?_
   refine wp_seq ?_
   cases fk9 : op == 7
   case true =>
    have Ffk9 := Lib.hid fk9; clear fk9
    have s16_63 := f25.q 16 s16_62
    refine go_reg [] [] [some (.bool true), some (.bool true)] mo f25.d f25.z f25.b (by kernel_rfl) trivial (
     hk (fun cx => cx.v (ex_eq (x := .tmp 16) rfl (cx.rq 16 s16_63) rfl) rfl (congrArg Value.bool Ffk9.out)) <|
     hk (fun cx => cx.v (ex_as rfl (cx.u 0 rfl)) rfl rfl) <|
     hn) ?_
    intro a26 w26 f26
    refine wp_cond_true (f26.v 1 rfl rfl rfl) ?_
    refine wp_seq ?_
    have s8_64 := f26.q 8 (f25.q 8 (f19.q 8 (f13.q 8 (f10.q 8 (f7.q 8 (f4.q 8 (f3.q 8 (f2.v 6 rfl rfl rfl))))))))
    refine go_reg [] [] [some (.bool false)] mo f26.d f26.z f26.b (by kernel_rfl) trivial (
     hk (fun cx => cx.v (ex_mv rfl (cx.rq 8 s8_64)) rfl rfl) <|
     hn) ?_
    intro a27 w27 f27
    refine wp_cond_false (f27.v 0 rfl rfl rfl) ?_
    refine wp_skip ?_
    refine wp_seq ?_
    have b_g3_65 := f27.k (f26.k (f25.k (f19.k (f13.k (f10.k (f7.k (f4.k (f3.k (f2.k b_g3)))))))))
    have s6_66 := f27.q 6 (f26.q 6 (f25.q 6 (f19.q 6 (f13.q 6 (f10.q 6 (f7.q 6 (f4.q 6 (f3.q 6 (f2.q 6 u_g3)))))))))
    refine go_reg [⟨g3, 89, (cU 0 0), some 2, (cU allR.u.lo allR.u.hi)⟩] [] [some (.agg (cR allR.u.lo allR.u.hi allR.s.lo allR.s.hi)), some (.agg (cU allR.u.lo allR.u.hi)), none] mo f27.d f27.z f27.b (by kernel_rfl) ⟨b_g3_65, trivial⟩ (
     hc (fun _ _ wx cx => cx.c rfl (args0 ) Try.func29 (by decide +kernel) (all_n wx) rfl rfl) <|
     hc (fun _ _ wx cx => cx.c rfl (args1 (cx.u 0 rfl)) Try.func55 (by decide +kernel) (unsigned_n allR.u.lo allR.u.hi allR.s.lo allR.s.hi wx) rfl rfl) <|
     hk (fun cx => cx.stR (wn rfl) rfl rfl 0 rfl (cx.rq 6 s6_66) (cx.u 0 rfl) (by kernel_rfl) rfl (by simp [Value.oneCell']) q_g3 rfl trivial trivial) <|
     hn) ?_
    intro a28 w28 f28
    refine wp_ret ?_
    have s6_67 := f28.q 6 s6_66
    try simp only [Exit.inBlock, Exit.then]
    refine bodyPost_ret (res_c (fn := Try.f86) rfl s6_67 (load_row 89 f28.rows.1 Try.underlying89 rfl (by kernel_rfl))) f28.d ?_
    have no5 := nb Ffk2.out
    have no4 := nb Ffk3.out
    have no10 := nb Ffk4.out
    have no3 := nb Ffk5.out
    have no9 := nb Ffk7.out
    have ho : op = 7 := yb Ffk9.out
    have HE : restU op ⟨⟨a, b⟩, ⟨c, d⟩⟩ ⟨⟨p, q⟩, ⟨r, t⟩⟩ = ⟨allR.u.lo, allR.u.hi⟩ := by
      unfold restU
      rw [if_neg no5, if_neg no4, if_neg no10, if_neg no3, if_neg no9]
      rw [if_pos ho]
      rw [if_neg (by rw [Ffk1.out]; decide)]
      try rfl
    have HE2 : (.agg (cU allR.u.lo allR.u.hi) : Value) = .agg #[.int .u64 (restU op ⟨⟨a, b⟩, ⟨c, d⟩⟩ ⟨⟨p, q⟩, ⟨r, t⟩⟩).lo, .int .u64 (restU op ⟨⟨a, b⟩, ⟨c, d⟩⟩ ⟨⟨p, q⟩, ⟨r, t⟩⟩).hi] := by rw [HE]
    exact ⟨retV HE2, f28.b⟩
   have Ffk9 := Lib.hid fk9; clear fk9
   have s16_68 := f25.q 16 s16_62
   refine go_reg [] [] [some (.bool false), some (.bool false)] mo f25.d f25.z f25.b (by kernel_rfl) trivial (
    hk (fun cx => cx.v (ex_eq (x := .tmp 16) rfl (cx.rq 16 s16_68) rfl) rfl (congrArg Value.bool Ffk9.out)) <|
    hk (fun cx => cx.v (ex_as rfl (cx.u 0 rfl)) rfl rfl) <|
    hn) ?_
   intro a29 w29 f29
   refine wp_cond_false (f29.v 1 rfl rfl rfl) ?_
   refine wp_seq ?_
   cases fk10 : op == 6
   case true =>
    have Ffk10 := Lib.hid fk10; clear fk10
    have s16_69 := f29.q 16 s16_68
    refine go_reg [] [] [some (.bool true), some (.bool true)] mo f29.d f29.z f29.b (by kernel_rfl) trivial (
     hk (fun cx => cx.v (ex_eq (x := .tmp 16) rfl (cx.rq 16 s16_69) rfl) rfl (congrArg Value.bool Ffk10.out)) <|
     hk (fun cx => cx.v (ex_as rfl (cx.u 0 rfl)) rfl rfl) <|
     hn) ?_
    intro a30 w30 f30
    refine wp_cond_true (f30.v 1 rfl rfl rfl) ?_
    refine wp_seq ?_
    have s8_70 := f30.q 8 (f29.q 8 (f25.q 8 (f19.q 8 (f13.q 8 (f10.q 8 (f7.q 8 (f4.q 8 (f3.q 8 (f2.v 6 rfl rfl rfl)))))))))
    refine go_reg [] [] [some (.bool false), some (.bool false), some (undef), some (undef), some (undef), some (undef), some (undef), some (undef), some (undef), some (undef), some (undef), some (.bool false)] mo f30.d f30.z f30.b (by kernel_rfl) trivial (
     hk (fun cx => cx.v (ex_mv rfl (cx.rq 8 s8_70)) rfl rfl) <|
     hk (fun cx => cx.v (ex_mv rfl (cx.u 0 rfl)) rfl rfl) <|
     hk (fun cx => cx.no (cx.wo rfl rfl rfl rfl (cx.u 0 rfl) rfl) rfl rfl rfl rfl) <|
     hk (fun cx => cx.no (cx.wo rfl rfl rfl rfl (cx.u 1 rfl) rfl) rfl rfl rfl rfl) <|
     hk (fun cx => cx.no (cx.wo rfl rfl rfl rfl (cx.u 0 rfl) rfl) rfl rfl rfl rfl) <|
     hk (fun cx => cx.no (cx.wo rfl rfl rfl rfl (cx.u 2 rfl) rfl) rfl rfl rfl rfl) <|
     hk (fun cx => cx.no (cx.wo rfl rfl rfl rfl (cx.u 0 rfl) rfl) rfl rfl rfl rfl) <|
     hk (fun cx => cx.no (cx.wo rfl rfl rfl rfl (cx.u 2 rfl) rfl) rfl rfl rfl rfl) <|
     hk (fun cx => cx.no (cx.wo rfl rfl rfl rfl (cx.u 0 rfl) rfl) rfl rfl rfl rfl) <|
     hk (fun cx => cx.no (cx.wo rfl rfl rfl rfl (cx.u 1 rfl) rfl) rfl rfl rfl rfl) <|
     hk (fun cx => cx.no (cx.wo rfl rfl rfl rfl (cx.u 2 rfl) rfl) rfl rfl rfl rfl) <|
     hk (fun cx => cx.v (ex_pf rfl (cx.u 0 rfl) rfl) rfl rfl) <|
     hn) ?_
    intro a31 w31 f31
    refine wp_cond_false (f31.v 11 rfl rfl rfl) ?_
    refine wp_skip ?_
    refine wp_seq ?_
    have b_g3_71 := f31.k (f30.k (f29.k (f25.k (f19.k (f13.k (f10.k (f7.k (f4.k (f3.k (f2.k b_g3))))))))))
    have s6_72 := f31.q 6 (f30.q 6 (f29.q 6 (f25.q 6 (f19.q 6 (f13.q 6 (f10.q 6 (f7.q 6 (f4.q 6 (f3.q 6 (f2.q 6 u_g3))))))))))
    refine go_reg [⟨g3, 89, (cU 0 0), some 2, (cU allR.u.lo allR.u.hi)⟩] [] [some (.agg (cR allR.u.lo allR.u.hi allR.s.lo allR.s.hi)), some (.agg (cU allR.u.lo allR.u.hi)), none] mo f31.d f31.z f31.b (by kernel_rfl) ⟨b_g3_71, trivial⟩ (
     hc (fun _ _ wx cx => cx.c rfl (args0 ) Try.func29 (by decide +kernel) (all_n wx) rfl rfl) <|
     hc (fun _ _ wx cx => cx.c rfl (args1 (cx.u 0 rfl)) Try.func55 (by decide +kernel) (unsigned_n allR.u.lo allR.u.hi allR.s.lo allR.s.hi wx) rfl rfl) <|
     hk (fun cx => cx.stR (wn rfl) rfl rfl 0 rfl (cx.rq 6 s6_72) (cx.u 0 rfl) (by kernel_rfl) rfl (by simp [Value.oneCell']) q_g3 rfl trivial trivial) <|
     hn) ?_
    intro a32 w32 f32
    refine wp_ret ?_
    have s6_73 := f32.q 6 s6_72
    try simp only [Exit.inBlock, Exit.then]
    refine bodyPost_ret (res_c (fn := Try.f86) rfl s6_73 (load_row 89 f32.rows.1 Try.underlying89 rfl (by kernel_rfl))) f32.d ?_
    have no5 := nb Ffk2.out
    have no4 := nb Ffk3.out
    have no10 := nb Ffk4.out
    have no3 := nb Ffk5.out
    have no9 := nb Ffk7.out
    have no7 := nb Ffk9.out
    have ho : op = 6 := yb Ffk10.out
    have HE : restU op ⟨⟨a, b⟩, ⟨c, d⟩⟩ ⟨⟨p, q⟩, ⟨r, t⟩⟩ = ⟨allR.u.lo, allR.u.hi⟩ := by
      unfold restU
      rw [if_neg no5, if_neg no4, if_neg no10, if_neg no3, if_neg no9, if_neg no7]
      rw [if_pos ho]
      rw [if_neg (by rw [Ffk1.out, Bool.false_and]; exact Bool.false_ne_true)]
      try rfl
    have HE2 : (.agg (cU allR.u.lo allR.u.hi) : Value) = .agg #[.int .u64 (restU op ⟨⟨a, b⟩, ⟨c, d⟩⟩ ⟨⟨p, q⟩, ⟨r, t⟩⟩).lo, .int .u64 (restU op ⟨⟨a, b⟩, ⟨c, d⟩⟩ ⟨⟨p, q⟩, ⟨r, t⟩⟩).hi] := by rw [HE]
    exact ⟨retV HE2, f32.b⟩
   have Ffk10 := Lib.hid fk10; clear fk10
   have s16_74 := f29.q 16 s16_68
   refine go_reg [] [] [some (.bool false), some (.bool false)] mo f29.d f29.z f29.b (by kernel_rfl) trivial (
    hk (fun cx => cx.v (ex_eq (x := .tmp 16) rfl (cx.rq 16 s16_74) rfl) rfl (congrArg Value.bool Ffk10.out)) <|
    hk (fun cx => cx.v (ex_as rfl (cx.u 0 rfl)) rfl rfl) <|
    hn) ?_
   intro a33 w33 f33
   refine wp_cond_false (f33.v 1 rfl rfl rfl) ?_
   refine wp_skip ?_
   refine wp_seq ?_
   have b_g3_75 := f33.k (f29.k (f25.k (f19.k (f13.k (f10.k (f7.k (f4.k (f3.k (f2.k b_g3)))))))))
   have s6_76 := f33.q 6 (f29.q 6 (f25.q 6 (f19.q 6 (f13.q 6 (f10.q 6 (f7.q 6 (f4.q 6 (f3.q 6 (f2.q 6 u_g3)))))))))
   refine go_reg [⟨g3, 89, (cU 0 0), some 2, (cU allR.u.lo allR.u.hi)⟩] [] [some (.agg (cR allR.u.lo allR.u.hi allR.s.lo allR.s.hi)), some (.agg (cU allR.u.lo allR.u.hi)), none] mo f33.d f33.z f33.b (by kernel_rfl) ⟨b_g3_75, trivial⟩ (
    hc (fun _ _ wx cx => cx.c rfl (args0 ) Try.func29 (by decide +kernel) (all_n wx) rfl rfl) <|
    hc (fun _ _ wx cx => cx.c rfl (args1 (cx.u 0 rfl)) Try.func55 (by decide +kernel) (unsigned_n allR.u.lo allR.u.hi allR.s.lo allR.s.hi wx) rfl rfl) <|
    hk (fun cx => cx.stR (wn rfl) rfl rfl 0 rfl (cx.rq 6 s6_76) (cx.u 0 rfl) (by kernel_rfl) rfl (by simp [Value.oneCell']) q_g3 rfl trivial trivial) <|
    hn) ?_
   intro a34 w34 f34
   refine wp_ret ?_
   have s6_77 := f34.q 6 s6_76
   try simp only [Exit.inBlock, Exit.then]
   refine bodyPost_ret (res_c (fn := Try.f86) rfl s6_77 (load_row 89 f34.rows.1 Try.underlying89 rfl (by kernel_rfl))) f34.d ?_
   have no5 := nb Ffk2.out
   have no4 := nb Ffk3.out
   have no10 := nb Ffk4.out
   have no3 := nb Ffk5.out
   have no9 := nb Ffk7.out
   have no7 := nb Ffk9.out
   have no6 := nb Ffk10.out
   have HE : restU op ⟨⟨a, b⟩, ⟨c, d⟩⟩ ⟨⟨p, q⟩, ⟨r, t⟩⟩ = ⟨allR.u.lo, allR.u.hi⟩ := by
     unfold restU
     rw [if_neg no5, if_neg no4, if_neg no10, if_neg no3, if_neg no9, if_neg no7, if_neg no6]
     try rfl
   have HE2 : (.agg (cU allR.u.lo allR.u.hi) : Value) = .agg #[.int .u64 (restU op ⟨⟨a, b⟩, ⟨c, d⟩⟩ ⟨⟨p, q⟩, ⟨r, t⟩⟩).lo, .int .u64 (restU op ⟨⟨a, b⟩, ⟨c, d⟩⟩ ⟨⟨p, q⟩, ⟨r, t⟩⟩).hi] := by rw [HE]
   exact ⟨retV HE2, f34.b⟩
  have Ffk1 := Lib.hid fk1; clear fk1
  refine go_reg [bx g2 60 (cR p q r t)] [] [some (.agg (cR p q r t)), some (.tuple #[.int .u64 (Rg.oneV ⟨⟨p, q⟩, ⟨r, t⟩⟩), .bool (Rg.oneB ⟨⟨p, q⟩, ⟨r, t⟩⟩)]), some (.tuple #[.int .u64 (Rg.oneV ⟨⟨p, q⟩, ⟨r, t⟩⟩), .bool (Rg.oneB ⟨⟨p, q⟩, ⟨r, t⟩⟩)]), some (.int .u64 (Rg.oneV ⟨⟨p, q⟩, ⟨r, t⟩⟩)), some (.bool true), some (.int .u64 (Rg.oneV ⟨⟨p, q⟩, ⟨r, t⟩⟩)), some (.bool true)] mo f1.d f1.z f1.b (by kernel_rfl) ⟨b_g2, trivial⟩ (
   hk (fun cx => cx.v (ldR rfl (cx.rq 5 u_g2) (cx.rn 0 rfl)) rfl rfl) <|
   hc (fun _ _ wx cx => cx.c rfl (args1 (cx.u 0 rfl)) Try.func23 (by decide +kernel) (single_n p q r t wx) rfl rfl) <|
   hk (fun cx => cx.v (ex_mv rfl (cx.u 0 rfl)) rfl rfl) <|
   hk (fun cx => cx.v (ex_ext (x := .tmp 9) rfl (cx.u 0 rfl) rfl) rfl rfl) <|
   hk (fun cx => cx.v (ex_ext (x := .tmp 9) rfl (cx.u 0 rfl) rfl) rfl (congrArg Value.bool Ffk1.out)) <|
   hk (fun cx => cx.v (ex_as rfl (cx.u 0 rfl)) rfl rfl) <|
   hk (fun cx => cx.v (ex_as rfl (cx.u 0 rfl)) rfl rfl) <|
   hn) ?_
  intro a35 w35 f35
  refine wp_seq ?_
  refine go_reg [] [] [some (.int .u64 (Rg.oneV ⟨⟨p, q⟩, ⟨r, t⟩⟩)), some (.int .u64 ((Rg.oneV ⟨⟨p, q⟩, ⟨r, t⟩⟩) % 64)), some (.int .u64 ((Rg.oneV ⟨⟨p, q⟩, ⟨r, t⟩⟩) % 64))] mo f35.d f35.z f35.b (by kernel_rfl) trivial (
   hk (fun cx => cx.v (ex_mv rfl (cx.un 2 rfl rfl (by kernel_rfl) (f35.v 5 rfl rfl rfl))) rfl rfl) <|
   hk (fun cx => cx.v (exec_rem (x := .tmp 14) rfl (cx.u 0 rfl) rfl HV.out (by decide)) rfl rfl) <|
   hk (fun cx => cx.v (ex_as rfl (cx.u 0 rfl)) rfl rfl) <|
   hn) ?_
  intro a36 w36 f36
  refine wp_seq ?_
  refine wp_seq ?_
  have s0_78 := f36.q 0 (f35.q 0 (f1.q 0 s0_0))
  refine go_reg [] [] [some (.int .i8 op)] mo f36.d f36.z f36.b (by kernel_rfl) trivial (
   hk (fun cx => cx.v (ex_mv rfl (cx.rq 0 s0_78)) rfl rfl) <|
   hn) ?_
  intro a37 w37 f37
  refine wp_block ?_
  refine wp_seq ?_
  cases fk11 : op == 5
  case true =>
   have Ffk11 := Lib.hid fk11; clear fk11
   refine go_reg [] [] [some (.bool true), some (.bool true)] mo f37.d f37.z f37.b (by kernel_rfl) trivial (
    hk (fun cx => cx.v (ex_eq (x := .tmp 16) rfl (cx.rq 16 (f37.v 0 rfl rfl rfl)) rfl) rfl (congrArg Value.bool Ffk11.out)) <|
    hk (fun cx => cx.v (ex_as rfl (cx.u 0 rfl)) rfl rfl) <|
    hn) ?_
   intro a38 w38 f38
   refine wp_cond_true (f38.v 1 rfl rfl rfl) ?_
   refine wp_seq ?_
   have b_g1_79 := f38.k (f37.k (f36.k (f35.k b_g1)))
   have b_g2_80 := f38.k (f37.k (f36.k (f35.k b_g2)))
   have b_g3_81 := f38.k (f37.k (f36.k (f35.k b_g3)))
   have s4_82 := f38.q 4 (f37.q 4 (f36.q 4 (f35.q 4 u_g1)))
   have s5_83 := f38.q 5 (f37.q 5 (f36.q 5 (f35.q 5 u_g2)))
   have s6_84 := f38.q 6 (f37.q 6 (f36.q 6 (f35.q 6 u_g3)))
   refine go_reg [bx g1 60 (cR a b c d), bx g2 60 (cR p q r t), ⟨g3, 89, (cU 0 0), some 6, (cU 0 (min b q))⟩] [] [some (pt g1 1), some (.int .u64 b), some (pt g2 1), some (.int .u64 q), some (.int .u64 (min b q)), some (.agg (cU 0 (min b q))), none] mo f38.d f38.z f38.b (by kernel_rfl) ⟨b_g1_79, b_g2_80, b_g3_81, trivial⟩ (
    hk (fun cx => cx.v (ex_fa rfl (cx.rq 4 s4_82) (faF60_1_0 _ _)) rfl rfl) <|
    hk (fun cx => cx.v (ex_ld rfl (cx.u 0 rfl) (cx.rn 0 rfl) rfl Try.isAgg30) rfl rfl) <|
    hk (fun cx => cx.v (ex_fa rfl (cx.rq 5 s5_83) (faF60_1_0 _ _)) rfl rfl) <|
    hk (fun cx => cx.v (ex_ld rfl (cx.u 0 rfl) (cx.rn 1 rfl) rfl Try.isAgg30) rfl rfl) <|
    hk (fun cx => cx.v (ex_min (x := .tmp 20) (y := .tmp 22) rfl (cx.u 0 rfl) (cx.u 1 rfl)) rfl rfl) <|
    hc (fun _ _ wx cx => cx.c rfl (args1 (cx.u 0 rfl)) Try.func75 (by decide +kernel) (upTo_n (min b q) wx) rfl rfl) <|
    hk (fun cx => cx.stR (wn rfl) rfl rfl 2 rfl (cx.rq 6 s6_84) (cx.u 0 rfl) (by kernel_rfl) rfl (by simp [Value.oneCell']) q_g3 rfl ⟨(ne_ptr (pairAt f1.ps 0 2 (by decide) rfl rfl) u_g1 u_g3), (ne_ptr (pairAt f1.ps 1 2 (by decide) rfl rfl) u_g2 u_g3), trivial⟩ trivial) <|
    hn) ?_
   intro a39 w39 f39
   refine wp_ret ?_
   have s6_85 := f39.q 6 s6_84
   try simp only [Exit.inBlock, Exit.then]
   refine bodyPost_ret (res_c (fn := Try.f86) rfl s6_85 (load_row 89 f39.rows.2.2.1 Try.underlying89 rfl (by kernel_rfl))) f39.d ?_
   have ho : op = 5 := yb Ffk11.out
   have HE : restU op ⟨⟨a, b⟩, ⟨c, d⟩⟩ ⟨⟨p, q⟩, ⟨r, t⟩⟩ = ⟨0, min b q⟩ := by
     unfold restU
     rw [if_pos ho]
     try rfl
   have HE2 : (.agg (cU 0 (min b q)) : Value) = .agg #[.int .u64 (restU op ⟨⟨a, b⟩, ⟨c, d⟩⟩ ⟨⟨p, q⟩, ⟨r, t⟩⟩).lo, .int .u64 (restU op ⟨⟨a, b⟩, ⟨c, d⟩⟩ ⟨⟨p, q⟩, ⟨r, t⟩⟩).hi] := by rw [HE]
   exact ⟨retV HE2, f39.b⟩
  have Ffk11 := Lib.hid fk11; clear fk11
  refine go_reg [] [] [some (.bool false), some (.bool false)] mo f37.d f37.z f37.b (by kernel_rfl) trivial (
   hk (fun cx => cx.v (ex_eq (x := .tmp 16) rfl (cx.rq 16 (f37.v 0 rfl rfl rfl)) rfl) rfl (congrArg Value.bool Ffk11.out)) <|
   hk (fun cx => cx.v (ex_as rfl (cx.u 0 rfl)) rfl rfl) <|
   hn) ?_
  intro a40 w40 f40
  refine wp_cond_false (f40.v 1 rfl rfl rfl) ?_
  refine wp_seq ?_
  cases fk12 : op == 4
  case true =>
   have Ffk12 := Lib.hid fk12; clear fk12
   have s16_86 := f40.q 16 (f37.v 0 rfl rfl rfl)
   refine go_reg [] [] [some (.bool true), some (.bool true)] mo f40.d f40.z f40.b (by kernel_rfl) trivial (
    hk (fun cx => cx.v (ex_eq (x := .tmp 16) rfl (cx.rq 16 s16_86) rfl) rfl (congrArg Value.bool Ffk12.out)) <|
    hk (fun cx => cx.v (ex_as rfl (cx.u 0 rfl)) rfl rfl) <|
    hn) ?_
   intro a41 w41 f41
   refine wp_cond_true (f41.v 1 rfl rfl rfl) ?_
   refine wp_seq ?_
   have b_g1_87 := f41.k (f40.k (f37.k (f36.k (f35.k b_g1))))
   have b_g2_88 := f41.k (f40.k (f37.k (f36.k (f35.k b_g2))))
   have b_g3_89 := f41.k (f40.k (f37.k (f36.k (f35.k b_g3))))
   have s4_90 := f41.q 4 (f40.q 4 (f37.q 4 (f36.q 4 (f35.q 4 u_g1))))
   have s5_91 := f41.q 5 (f40.q 5 (f37.q 5 (f36.q 5 (f35.q 5 u_g2))))
   have s6_92 := f41.q 6 (f40.q 6 (f37.q 6 (f36.q 6 (f35.q 6 u_g3))))
   refine go_reg [bx g1 60 (cR a b c d), bx g2 60 (cR p q r t), ⟨g3, 89, (cU 0 0), some 12, (cU (max a p) (onesI (Int.toNat (bits .or .u64 b q))))⟩] [] [some (pt g1 0), some (.int .u64 a), some (pt g2 0), some (.int .u64 p), some (.int .u64 (max a p)), some (pt g1 1), some (.int .u64 b), some (pt g2 1), some (.int .u64 q), some (.int .u64 (bits .or .u64 b q)), some (.int .u64 (onesI (Int.toNat (bits .or .u64 b q)))), some (.agg (cU (max a p) (onesI (Int.toNat (bits .or .u64 b q))))), none] mo f41.d f41.z f41.b (by kernel_rfl) ⟨b_g1_87, b_g2_88, b_g3_89, trivial⟩ (
    hk (fun cx => cx.v (ex_fa rfl (cx.rq 4 s4_90) (faF60_0_0 _ _)) rfl rfl) <|
    hk (fun cx => cx.v (ex_ld rfl (cx.u 0 rfl) (cx.rn 0 rfl) rfl Try.isAgg30) rfl rfl) <|
    hk (fun cx => cx.v (ex_fa rfl (cx.rq 5 s5_91) (faF60_0_0 _ _)) rfl rfl) <|
    hk (fun cx => cx.v (ex_ld rfl (cx.u 0 rfl) (cx.rn 1 rfl) rfl Try.isAgg30) rfl rfl) <|
    hc (fun _ ax _ cx => cx.v (ex_max (x := .tmp 28) (y := .tmp 30) rfl (cx.u 0 rfl) (cx.u 1 rfl)) rfl rfl) <|
    hk (fun cx => cx.v (ex_fa rfl (cx.rq 4 s4_90) (faF60_1_0 _ _)) rfl rfl) <|
    hk (fun cx => cx.v (ex_ld rfl (cx.u 0 rfl) (cx.rn 0 rfl) rfl Try.isAgg30) rfl rfl) <|
    hk (fun cx => cx.v (ex_fa rfl (cx.rq 5 s5_91) (faF60_1_0 _ _)) rfl rfl) <|
    hk (fun cx => cx.v (ex_ld rfl (cx.u 0 rfl) (cx.rn 1 rfl) rfl Try.isAgg30) rfl rfl) <|
    hk (fun cx => cx.v (ex_or (x := .tmp 33) (y := .tmp 35) rfl (cx.u 0 rfl) (cx.u 1 rfl)) rfl rfl) <|
    hc (fun _ _ wx cx => cx.c rfl (args1 (cx.u 0 rfl)) Try.func119 (by decide +kernel) (ones_n (bits .or .u64 b q) wx HR.out.1 HR.out.2) rfl rfl) <|
    hk (fun cx => cx.v (exec_build rfl (parts2 (cx.u 0 rfl) (cx.u 1 rfl)) (by kernel_rfl)) rfl rfl) <|
    hk (fun cx => cx.stR (wn rfl) rfl rfl 2 rfl (cx.rq 6 s6_92) (cx.u 0 rfl) (by kernel_rfl) rfl (by simp [Value.oneCell']) q_g3 rfl ⟨(ne_ptr (pairAt f1.ps 0 2 (by decide) rfl rfl) u_g1 u_g3), (ne_ptr (pairAt f1.ps 1 2 (by decide) rfl rfl) u_g2 u_g3), trivial⟩ trivial) <|
    hn) ?_
   intro a42 w42 f42
   refine wp_ret ?_
   have s6_93 := f42.q 6 s6_92
   try simp only [Exit.inBlock, Exit.then]
   refine bodyPost_ret (res_c (fn := Try.f86) rfl s6_93 (load_row 89 f42.rows.2.2.1 Try.underlying89 rfl (by kernel_rfl))) f42.d ?_
   have no5 := nb Ffk11.out
   have ho : op = 4 := yb Ffk12.out
   have HE : restU op ⟨⟨a, b⟩, ⟨c, d⟩⟩ ⟨⟨p, q⟩, ⟨r, t⟩⟩ = ⟨max a p, onesI (Int.toNat (bits .or .u64 b q))⟩ := by
     unfold restU
     rw [if_neg no5]
     rw [if_pos ho]
     rw [← HR2.out]
     try rfl
   have HE2 : (.agg (cU (max a p) (onesI (Int.toNat (bits .or .u64 b q)))) : Value) = .agg #[.int .u64 (restU op ⟨⟨a, b⟩, ⟨c, d⟩⟩ ⟨⟨p, q⟩, ⟨r, t⟩⟩).lo, .int .u64 (restU op ⟨⟨a, b⟩, ⟨c, d⟩⟩ ⟨⟨p, q⟩, ⟨r, t⟩⟩).hi] := by rw [HE]
   exact ⟨retV HE2, f42.b⟩
  have Ffk12 := Lib.hid fk12; clear fk12
  have s16_94 := f40.q 16 (f37.v 0 rfl rfl rfl)
  refine go_reg [] [] [some (.bool false), some (.bool false)] mo f40.d f40.z f40.b (by kernel_rfl) trivial (
   hk (fun cx => cx.v (ex_eq (x := .tmp 16) rfl (cx.rq 16 s16_94) rfl) rfl (congrArg Value.bool Ffk12.out)) <|
   hk (fun cx => cx.v (ex_as rfl (cx.u 0 rfl)) rfl rfl) <|
   hn) ?_
  intro a43 w43 f43
  refine wp_cond_false (f43.v 1 rfl rfl rfl) ?_
  refine wp_seq ?_
  cases fk13 : op == 10
  case true =>
   have Ffk13 := Lib.hid fk13; clear fk13
   have s16_95 := f43.q 16 s16_94
   refine go_reg [] [] [some (.bool true), some (.bool true)] mo f43.d f43.z f43.b (by kernel_rfl) trivial (
    hk (fun cx => cx.v (ex_eq (x := .tmp 16) rfl (cx.rq 16 s16_95) rfl) rfl (congrArg Value.bool Ffk13.out)) <|
    hk (fun cx => cx.v (ex_as rfl (cx.u 0 rfl)) rfl rfl) <|
    hn) ?_
   intro a44 w44 f44
   refine wp_cond_true (f44.v 1 rfl rfl rfl) ?_
   refine wp_seq ?_
   have b_g1_96 := f44.k (f43.k (f40.k (f37.k (f36.k (f35.k b_g1)))))
   have b_g2_97 := f44.k (f43.k (f40.k (f37.k (f36.k (f35.k b_g2)))))
   have b_g3_98 := f44.k (f43.k (f40.k (f37.k (f36.k (f35.k b_g3)))))
   have s4_99 := f44.q 4 (f43.q 4 (f40.q 4 (f37.q 4 (f36.q 4 (f35.q 4 u_g1)))))
   have s5_100 := f44.q 5 (f43.q 5 (f40.q 5 (f37.q 5 (f36.q 5 (f35.q 5 u_g2)))))
   have s6_101 := f44.q 6 (f43.q 6 (f40.q 6 (f37.q 6 (f36.q 6 (f35.q 6 u_g3)))))
   refine go_reg [bx g1 60 (cR a b c d), bx g2 60 (cR p q r t), ⟨g3, 89, (cU 0 0), some 7, (cU 0 (onesI (Int.toNat (bits .or .u64 b q))))⟩] [] [some (pt g1 1), some (.int .u64 b), some (pt g2 1), some (.int .u64 q), some (.int .u64 (bits .or .u64 b q)), some (.int .u64 (onesI (Int.toNat (bits .or .u64 b q)))), some (.agg (cU 0 (onesI (Int.toNat (bits .or .u64 b q))))), none] mo f44.d f44.z f44.b (by kernel_rfl) ⟨b_g1_96, b_g2_97, b_g3_98, trivial⟩ (
    hk (fun cx => cx.v (ex_fa rfl (cx.rq 4 s4_99) (faF60_1_0 _ _)) rfl rfl) <|
    hk (fun cx => cx.v (ex_ld rfl (cx.u 0 rfl) (cx.rn 0 rfl) rfl Try.isAgg30) rfl rfl) <|
    hk (fun cx => cx.v (ex_fa rfl (cx.rq 5 s5_100) (faF60_1_0 _ _)) rfl rfl) <|
    hk (fun cx => cx.v (ex_ld rfl (cx.u 0 rfl) (cx.rn 1 rfl) rfl Try.isAgg30) rfl rfl) <|
    hk (fun cx => cx.v (ex_or (x := .tmp 42) (y := .tmp 44) rfl (cx.u 0 rfl) (cx.u 1 rfl)) rfl rfl) <|
    hc (fun _ _ wx cx => cx.c rfl (args1 (cx.u 0 rfl)) Try.func119 (by decide +kernel) (ones_n (bits .or .u64 b q) wx HR.out.1 HR.out.2) rfl rfl) <|
    hc (fun _ _ wx cx => cx.c rfl (args1 (cx.u 0 rfl)) Try.func75 (by decide +kernel) (upTo_n (onesI (Int.toNat (bits .or .u64 b q))) wx) rfl rfl) <|
    hk (fun cx => cx.stR (wn rfl) rfl rfl 2 rfl (cx.rq 6 s6_101) (cx.u 0 rfl) (by kernel_rfl) rfl (by simp [Value.oneCell']) q_g3 rfl ⟨(ne_ptr (pairAt f1.ps 0 2 (by decide) rfl rfl) u_g1 u_g3), (ne_ptr (pairAt f1.ps 1 2 (by decide) rfl rfl) u_g2 u_g3), trivial⟩ trivial) <|
    hn) ?_
   intro a45 w45 f45
   refine wp_ret ?_
   have s6_102 := f45.q 6 s6_101
   try simp only [Exit.inBlock, Exit.then]
   refine bodyPost_ret (res_c (fn := Try.f86) rfl s6_102 (load_row 89 f45.rows.2.2.1 Try.underlying89 rfl (by kernel_rfl))) f45.d ?_
   have no5 := nb Ffk11.out
   have no4 := nb Ffk12.out
   have ho : op = 10 := yb Ffk13.out
   have HE : restU op ⟨⟨a, b⟩, ⟨c, d⟩⟩ ⟨⟨p, q⟩, ⟨r, t⟩⟩ = ⟨0, onesI (Int.toNat (bits .or .u64 b q))⟩ := by
     unfold restU
     rw [if_neg no5, if_neg no4]
     rw [if_pos ho]
     rw [← HR2.out]
     try rfl
   have HE2 : (.agg (cU 0 (onesI (Int.toNat (bits .or .u64 b q)))) : Value) = .agg #[.int .u64 (restU op ⟨⟨a, b⟩, ⟨c, d⟩⟩ ⟨⟨p, q⟩, ⟨r, t⟩⟩).lo, .int .u64 (restU op ⟨⟨a, b⟩, ⟨c, d⟩⟩ ⟨⟨p, q⟩, ⟨r, t⟩⟩).hi] := by rw [HE]
   exact ⟨retV HE2, f45.b⟩
  have Ffk13 := Lib.hid fk13; clear fk13
  have s16_103 := f43.q 16 s16_94
  refine go_reg [] [] [some (.bool false), some (.bool false)] mo f43.d f43.z f43.b (by kernel_rfl) trivial (
   hk (fun cx => cx.v (ex_eq (x := .tmp 16) rfl (cx.rq 16 s16_103) rfl) rfl (congrArg Value.bool Ffk13.out)) <|
   hk (fun cx => cx.v (ex_as rfl (cx.u 0 rfl)) rfl rfl) <|
   hn) ?_
  intro a46 w46 f46
  refine wp_cond_false (f46.v 1 rfl rfl rfl) ?_
  refine wp_seq ?_
  cases fk14 : op == 3
  case true =>
   have Ffk14 := Lib.hid fk14; clear fk14
   have s16_104 := f46.q 16 s16_103
   refine go_reg [] [] [some (.bool true), some (.bool true)] mo f46.d f46.z f46.b (by kernel_rfl) trivial (
    hk (fun cx => cx.v (ex_eq (x := .tmp 16) rfl (cx.rq 16 s16_104) rfl) rfl (congrArg Value.bool Ffk14.out)) <|
    hk (fun cx => cx.v (ex_as rfl (cx.u 0 rfl)) rfl rfl) <|
    hn) ?_
   intro a47 w47 f47
   refine wp_cond_true (f47.v 1 rfl rfl rfl) ?_
   refine wp_seq ?_
   refine wp_seq ?_
   cases fk15 : p == 0
   case false =>
    have Ffk15 := Lib.hid fk15; clear fk15
    have b_g2_105 := f47.k (f46.k (f43.k (f40.k (f37.k (f36.k (f35.k b_g2))))))
    have s5_106 := f47.q 5 (f46.q 5 (f43.q 5 (f40.q 5 (f37.q 5 (f36.q 5 (f35.q 5 u_g2))))))
    refine go_reg [bx g2 60 (cR p q r t)] [] [some (pt g2 0), some (.int .u64 p), some (.bool false)] mo f47.d f47.z f47.b (by kernel_rfl) ⟨b_g2_105, trivial⟩ (
     hk (fun cx => cx.v (ex_fa rfl (cx.rq 5 s5_106) (faF60_0_0 _ _)) rfl rfl) <|
     hk (fun cx => cx.v (ex_ld rfl (cx.u 0 rfl) (cx.rn 0 rfl) rfl Try.isAgg30) rfl rfl) <|
     hk (fun cx => cx.v (ex_eq (x := .tmp 51) rfl (cx.u 0 rfl) rfl) rfl (congrArg Value.bool Ffk15.out)) <|
     hn) ?_
    intro a48 w48 f48
    refine wp_cond_false (f48.v 2 rfl rfl rfl) ?_
    refine wp_skip ?_
    refine wp_seq ?_
    have b_g1_107 := f48.k (f47.k (f46.k (f43.k (f40.k (f37.k (f36.k (f35.k b_g1)))))))
    have b_g2_108 := f48.k b_g2_105
    have b_g3_109 := f48.k (f47.k (f46.k (f43.k (f40.k (f37.k (f36.k (f35.k b_g3)))))))
    have s4_110 := f48.q 4 (f47.q 4 (f46.q 4 (f43.q 4 (f40.q 4 (f37.q 4 (f36.q 4 (f35.q 4 u_g1)))))))
    have s5_111 := f48.q 5 s5_106
    have s6_112 := f48.q 6 (f47.q 6 (f46.q 6 (f43.q 6 (f40.q 6 (f37.q 6 (f36.q 6 (f35.q 6 u_g3)))))))
    refine go_reg [bx g1 60 (cR a b c d), bx g2 60 (cR p q r t), ⟨g3, 89, (cU 0 0), some 11, (cU (a / q) (b / p))⟩] [] [some (pt g1 0), some (.int .u64 a), some (pt g2 1), some (.int .u64 q), some (.int .u64 (a / q)), some (pt g1 1), some (.int .u64 b), some (pt g2 0), some (.int .u64 p), some (.int .u64 (b / p)), some (.agg (cU (a / q) (b / p))), none] mo f48.d f48.z f48.b (by kernel_rfl) ⟨b_g1_107, b_g2_108, b_g3_109, trivial⟩ (
     hk (fun cx => cx.v (ex_fa rfl (cx.rq 4 s4_110) (faF60_0_0 _ _)) rfl rfl) <|
     hk (fun cx => cx.v (ex_ld rfl (cx.u 0 rfl) (cx.rn 0 rfl) rfl Try.isAgg30) rfl rfl) <|
     hk (fun cx => cx.v (ex_fa rfl (cx.rq 5 s5_111) (faF60_1_0 _ _)) rfl rfl) <|
     hk (fun cx => cx.v (ex_ld rfl (cx.u 0 rfl) (cx.rn 1 rfl) rfl Try.isAgg30) rfl rfl) <|
     hk (fun cx => cx.v (exec_quo (x := .tmp 57) (y := .tmp 59) rfl (cx.u 0 rfl) (cx.u 1 rfl) HO.out.1.1.1 (HD.out Ffk15.out).1 HO.out.1.1.2) rfl rfl) <|
     hk (fun cx => cx.v (ex_fa rfl (cx.rq 4 s4_110) (faF60_1_0 _ _)) rfl rfl) <|
     hk (fun cx => cx.v (ex_ld rfl (cx.u 0 rfl) (cx.rn 0 rfl) rfl Try.isAgg30) rfl rfl) <|
     hk (fun cx => cx.v (ex_fa rfl (cx.rq 5 s5_111) (faF60_0_0 _ _)) rfl rfl) <|
     hk (fun cx => cx.v (ex_ld rfl (cx.u 0 rfl) (cx.rn 1 rfl) rfl Try.isAgg30) rfl rfl) <|
     hk (fun cx => cx.v (exec_quo (x := .tmp 62) (y := .tmp 64) rfl (cx.u 0 rfl) (cx.u 1 rfl) HO.out.1.2.1 (HD.out Ffk15.out).2 HO.out.1.2.2) rfl rfl) <|
     hk (fun cx => cx.v (exec_build rfl (parts2 (cx.u 0 rfl) (cx.u 1 rfl)) (by kernel_rfl)) rfl rfl) <|
     hk (fun cx => cx.stR (wn rfl) rfl rfl 2 rfl (cx.rq 6 s6_112) (cx.u 0 rfl) (by kernel_rfl) rfl (by simp [Value.oneCell']) q_g3 rfl ⟨(ne_ptr (pairAt f1.ps 0 2 (by decide) rfl rfl) u_g1 u_g3), (ne_ptr (pairAt f1.ps 1 2 (by decide) rfl rfl) u_g2 u_g3), trivial⟩ trivial) <|
     hn) ?_
    intro a49 w49 f49
    refine wp_ret ?_
    have s6_113 := f49.q 6 s6_112
    try simp only [Exit.inBlock, Exit.then]
    refine bodyPost_ret (res_c (fn := Try.f86) rfl s6_113 (load_row 89 f49.rows.2.2.1 Try.underlying89 rfl (by kernel_rfl))) f49.d ?_
    have no5 := nb Ffk11.out
    have no4 := nb Ffk12.out
    have no10 := nb Ffk13.out
    have ho : op = 3 := yb Ffk14.out
    have HE : restU op ⟨⟨a, b⟩, ⟨c, d⟩⟩ ⟨⟨p, q⟩, ⟨r, t⟩⟩ = ⟨a / q, b / p⟩ := by
      unfold restU
      rw [if_neg no5, if_neg no4, if_neg no10]
      rw [if_pos ho]
      rw [if_neg (by have := Ffk15.out; simpa using this)]
      try rfl
    have HE2 : (.agg (cU (a / q) (b / p)) : Value) = .agg #[.int .u64 (restU op ⟨⟨a, b⟩, ⟨c, d⟩⟩ ⟨⟨p, q⟩, ⟨r, t⟩⟩).lo, .int .u64 (restU op ⟨⟨a, b⟩, ⟨c, d⟩⟩ ⟨⟨p, q⟩, ⟨r, t⟩⟩).hi] := by rw [HE]
    exact ⟨retV HE2, f49.b⟩
   have Ffk15 := Lib.hid fk15; clear fk15
   have b_g2_114 := f47.k (f46.k (f43.k (f40.k (f37.k (f36.k (f35.k b_g2))))))
   have s5_115 := f47.q 5 (f46.q 5 (f43.q 5 (f40.q 5 (f37.q 5 (f36.q 5 (f35.q 5 u_g2))))))
   refine go_reg [bx g2 60 (cR p q r t)] [] [some (pt g2 0), some (.int .u64 p), some (.bool true)] mo f47.d f47.z f47.b (by kernel_rfl) ⟨b_g2_114, trivial⟩ (
    hk (fun cx => cx.v (ex_fa rfl (cx.rq 5 s5_115) (faF60_0_0 _ _)) rfl rfl) <|
    hk (fun cx => cx.v (ex_ld rfl (cx.u 0 rfl) (cx.rn 0 rfl) rfl Try.isAgg30) rfl rfl) <|
    hk (fun cx => cx.v (ex_eq (x := .tmp 51) rfl (cx.u 0 rfl) rfl) rfl (congrArg Value.bool Ffk15.out)) <|
    hn) ?_
   intro a50 w50 f50
   refine wp_cond_true (f50.v 2 rfl rfl rfl) ?_
   refine wp_seq ?_
   have b_g1_116 := f50.k (f47.k (f46.k (f43.k (f40.k (f37.k (f36.k (f35.k b_g1)))))))
   have b_g3_117 := f50.k (f47.k (f46.k (f43.k (f40.k (f37.k (f36.k (f35.k b_g3)))))))
   have s4_118 := f50.q 4 (f47.q 4 (f46.q 4 (f43.q 4 (f40.q 4 (f37.q 4 (f36.q 4 (f35.q 4 u_g1)))))))
   have s6_119 := f50.q 6 (f47.q 6 (f46.q 6 (f43.q 6 (f40.q 6 (f37.q 6 (f36.q 6 (f35.q 6 u_g3)))))))
   refine go_reg [bx g1 60 (cR a b c d), ⟨g3, 89, (cU 0 0), some 3, (cU 0 b)⟩] [] [some (pt g1 1), some (.int .u64 b), some (.agg (cU 0 b)), none] mo f50.d f50.z f50.b (by kernel_rfl) ⟨b_g1_116, b_g3_117, trivial⟩ (
    hk (fun cx => cx.v (ex_fa rfl (cx.rq 4 s4_118) (faF60_1_0 _ _)) rfl rfl) <|
    hk (fun cx => cx.v (ex_ld rfl (cx.u 0 rfl) (cx.rn 0 rfl) rfl Try.isAgg30) rfl rfl) <|
    hc (fun _ _ wx cx => cx.c rfl (args1 (cx.u 0 rfl)) Try.func75 (by decide +kernel) (upTo_n b wx) rfl rfl) <|
    hk (fun cx => cx.stR (wn rfl) rfl rfl 1 rfl (cx.rq 6 s6_119) (cx.u 0 rfl) (by kernel_rfl) rfl (by simp [Value.oneCell']) q_g3 rfl ⟨(ne_ptr (pairAt f1.ps 0 2 (by decide) rfl rfl) u_g1 u_g3), trivial⟩ trivial) <|
    hn) ?_
   intro a51 w51 f51
   refine wp_ret ?_
   have s6_120 := f51.q 6 s6_119
   try simp only [Exit.inBlock, Exit.then]
   refine bodyPost_ret (res_c (fn := Try.f86) rfl s6_120 (load_row 89 f51.rows.2.1 Try.underlying89 rfl (by kernel_rfl))) f51.d ?_
   have no5 := nb Ffk11.out
   have no4 := nb Ffk12.out
   have no10 := nb Ffk13.out
   have ho : op = 3 := yb Ffk14.out
   have HE : restU op ⟨⟨a, b⟩, ⟨c, d⟩⟩ ⟨⟨p, q⟩, ⟨r, t⟩⟩ = ⟨0, b⟩ := by
     unfold restU
     rw [if_neg no5, if_neg no4, if_neg no10]
     rw [if_pos ho]
     rw [if_pos (by have := Ffk15.out; simpa using this)]
     try rfl
   have HE2 : (.agg (cU 0 b) : Value) = .agg #[.int .u64 (restU op ⟨⟨a, b⟩, ⟨c, d⟩⟩ ⟨⟨p, q⟩, ⟨r, t⟩⟩).lo, .int .u64 (restU op ⟨⟨a, b⟩, ⟨c, d⟩⟩ ⟨⟨p, q⟩, ⟨r, t⟩⟩).hi] := by rw [HE]
   exact ⟨retV HE2, f51.b⟩
  have Ffk14 := Lib.hid fk14; clear fk14
  have s16_121 := f46.q 16 s16_103
  refine go_reg [] [] [some (.bool false), some (.bool false)] mo f46.d f46.z f46.b (by kernel_rfl) trivial (
   hk (fun cx => cx.v (ex_eq (x := .tmp 16) rfl (cx.rq 16 s16_121) rfl) rfl (congrArg Value.bool Ffk14.out)) <|
   hk (fun cx => cx.v (ex_as rfl (cx.u 0 rfl)) rfl rfl) <|
   hn) ?_
  intro a52 w52 f52
  refine wp_cond_false (f52.v 1 rfl rfl rfl) ?_
  refine wp_seq ?_
  cases fk16 : op == 9
  case true =>
   have Ffk16 := Lib.hid fk16; clear fk16
   have s16_122 := f52.q 16 s16_121
   refine go_reg [] [] [some (.bool true), some (.bool true)] mo f52.d f52.z f52.b (by kernel_rfl) trivial (
    hk (fun cx => cx.v (ex_eq (x := .tmp 16) rfl (cx.rq 16 s16_122) rfl) rfl (congrArg Value.bool Ffk16.out)) <|
    hk (fun cx => cx.v (ex_as rfl (cx.u 0 rfl)) rfl rfl) <|
    hn) ?_
   intro a53 w53 f53
   refine wp_cond_true (f53.v 1 rfl rfl rfl) ?_
   refine wp_seq ?_
   refine wp_seq ?_
   cases fk17 : p == 0
   case false =>
    have Ffk17 := Lib.hid fk17; clear fk17
    have b_g2_123 := f53.k (f52.k (f46.k (f43.k (f40.k (f37.k (f36.k (f35.k b_g2)))))))
    have s5_124 := f53.q 5 (f52.q 5 (f46.q 5 (f43.q 5 (f40.q 5 (f37.q 5 (f36.q 5 (f35.q 5 u_g2)))))))
    refine go_reg [bx g2 60 (cR p q r t)] [] [some (pt g2 0), some (.int .u64 p), some (.bool false)] mo f53.d f53.z f53.b (by kernel_rfl) ⟨b_g2_123, trivial⟩ (
     hk (fun cx => cx.v (ex_fa rfl (cx.rq 5 s5_124) (faF60_0_0 _ _)) rfl rfl) <|
     hk (fun cx => cx.v (ex_ld rfl (cx.u 0 rfl) (cx.rn 0 rfl) rfl Try.isAgg30) rfl rfl) <|
     hk (fun cx => cx.v (ex_eq (x := .tmp 70) rfl (cx.u 0 rfl) rfl) rfl (congrArg Value.bool Ffk17.out)) <|
     hn) ?_
    intro a54 w54 f54
    refine wp_cond_false (f54.v 2 rfl rfl rfl) ?_
    refine wp_skip ?_
    refine wp_seq ?_
    have b_g1_125 := f54.k (f53.k (f52.k (f46.k (f43.k (f40.k (f37.k (f36.k (f35.k b_g1))))))))
    have b_g2_126 := f54.k b_g2_123
    have b_g3_127 := f54.k (f53.k (f52.k (f46.k (f43.k (f40.k (f37.k (f36.k (f35.k b_g3))))))))
    have s4_128 := f54.q 4 (f53.q 4 (f52.q 4 (f46.q 4 (f43.q 4 (f40.q 4 (f37.q 4 (f36.q 4 (f35.q 4 u_g1))))))))
    have s5_129 := f54.q 5 s5_124
    have s6_130 := f54.q 6 (f53.q 6 (f52.q 6 (f46.q 6 (f43.q 6 (f40.q 6 (f37.q 6 (f36.q 6 (f35.q 6 u_g3))))))))
    refine go_reg [bx g1 60 (cR a b c d), bx g2 60 (cR p q r t), ⟨g3, 89, (cU 0 0), some 7, (cU 0 (min b (IntKind.u64.wrap (q - 1))))⟩] [] [some (pt g1 1), some (.int .u64 b), some (pt g2 1), some (.int .u64 q), some (.int .u64 (IntKind.u64.wrap (q - 1))), some (.int .u64 (min b (IntKind.u64.wrap (q - 1)))), some (.agg (cU 0 (min b (IntKind.u64.wrap (q - 1))))), none] mo f54.d f54.z f54.b (by kernel_rfl) ⟨b_g1_125, b_g2_126, b_g3_127, trivial⟩ (
     hk (fun cx => cx.v (ex_fa rfl (cx.rq 4 s4_128) (faF60_1_0 _ _)) rfl rfl) <|
     hk (fun cx => cx.v (ex_ld rfl (cx.u 0 rfl) (cx.rn 0 rfl) rfl Try.isAgg30) rfl rfl) <|
     hk (fun cx => cx.v (ex_fa rfl (cx.rq 5 s5_129) (faF60_1_0 _ _)) rfl rfl) <|
     hk (fun cx => cx.v (ex_ld rfl (cx.u 0 rfl) (cx.rn 1 rfl) rfl Try.isAgg30) rfl rfl) <|
     hk (fun cx => cx.v (ex_sub (x := .tmp 78) rfl (cx.u 0 rfl) rfl) rfl rfl) <|
     hk (fun cx => cx.v (ex_min (x := .tmp 76) (y := .tmp 79) rfl (cx.u 0 rfl) (cx.u 1 rfl)) rfl rfl) <|
     hc (fun _ _ wx cx => cx.c rfl (args1 (cx.u 0 rfl)) Try.func75 (by decide +kernel) (upTo_n (min b (IntKind.u64.wrap (q - 1))) wx) rfl rfl) <|
     hk (fun cx => cx.stR (wn rfl) rfl rfl 2 rfl (cx.rq 6 s6_130) (cx.u 0 rfl) (by kernel_rfl) rfl (by simp [Value.oneCell']) q_g3 rfl ⟨(ne_ptr (pairAt f1.ps 0 2 (by decide) rfl rfl) u_g1 u_g3), (ne_ptr (pairAt f1.ps 1 2 (by decide) rfl rfl) u_g2 u_g3), trivial⟩ trivial) <|
     hn) ?_
    intro a55 w55 f55
    refine wp_ret ?_
    have s6_131 := f55.q 6 s6_130
    try simp only [Exit.inBlock, Exit.then]
    refine bodyPost_ret (res_c (fn := Try.f86) rfl s6_131 (load_row 89 f55.rows.2.2.1 Try.underlying89 rfl (by kernel_rfl))) f55.d ?_
    have no5 := nb Ffk11.out
    have no4 := nb Ffk12.out
    have no10 := nb Ffk13.out
    have no3 := nb Ffk14.out
    have ho : op = 9 := yb Ffk16.out
    have HE : restU op ⟨⟨a, b⟩, ⟨c, d⟩⟩ ⟨⟨p, q⟩, ⟨r, t⟩⟩ = ⟨0, min b (IntKind.u64.wrap (q - 1))⟩ := by
      unfold restU
      rw [if_neg no5, if_neg no4, if_neg no10, if_neg no3]
      rw [if_pos ho]
      rw [if_neg (by have := Ffk17.out; simpa using this)]
      rw [← (HM.out Ffk17.out)]
      try rfl
    have HE2 : (.agg (cU 0 (min b (IntKind.u64.wrap (q - 1)))) : Value) = .agg #[.int .u64 (restU op ⟨⟨a, b⟩, ⟨c, d⟩⟩ ⟨⟨p, q⟩, ⟨r, t⟩⟩).lo, .int .u64 (restU op ⟨⟨a, b⟩, ⟨c, d⟩⟩ ⟨⟨p, q⟩, ⟨r, t⟩⟩).hi] := by rw [HE]
    exact ⟨retV HE2, f55.b⟩
   have Ffk17 := Lib.hid fk17; clear fk17
   have b_g2_132 := f53.k (f52.k (f46.k (f43.k (f40.k (f37.k (f36.k (f35.k b_g2)))))))
   have s5_133 := f53.q 5 (f52.q 5 (f46.q 5 (f43.q 5 (f40.q 5 (f37.q 5 (f36.q 5 (f35.q 5 u_g2)))))))
   refine go_reg [bx g2 60 (cR p q r t)] [] [some (pt g2 0), some (.int .u64 p), some (.bool true)] mo f53.d f53.z f53.b (by kernel_rfl) ⟨b_g2_132, trivial⟩ (
    hk (fun cx => cx.v (ex_fa rfl (cx.rq 5 s5_133) (faF60_0_0 _ _)) rfl rfl) <|
    hk (fun cx => cx.v (ex_ld rfl (cx.u 0 rfl) (cx.rn 0 rfl) rfl Try.isAgg30) rfl rfl) <|
    hk (fun cx => cx.v (ex_eq (x := .tmp 70) rfl (cx.u 0 rfl) rfl) rfl (congrArg Value.bool Ffk17.out)) <|
    hn) ?_
   intro a56 w56 f56
   refine wp_cond_true (f56.v 2 rfl rfl rfl) ?_
   refine wp_seq ?_
   have b_g1_134 := f56.k (f53.k (f52.k (f46.k (f43.k (f40.k (f37.k (f36.k (f35.k b_g1))))))))
   have b_g3_135 := f56.k (f53.k (f52.k (f46.k (f43.k (f40.k (f37.k (f36.k (f35.k b_g3))))))))
   have s4_136 := f56.q 4 (f53.q 4 (f52.q 4 (f46.q 4 (f43.q 4 (f40.q 4 (f37.q 4 (f36.q 4 (f35.q 4 u_g1))))))))
   have s6_137 := f56.q 6 (f53.q 6 (f52.q 6 (f46.q 6 (f43.q 6 (f40.q 6 (f37.q 6 (f36.q 6 (f35.q 6 u_g3))))))))
   refine go_reg [bx g1 60 (cR a b c d), ⟨g3, 89, (cU 0 0), some 3, (cU 0 b)⟩] [] [some (pt g1 1), some (.int .u64 b), some (.agg (cU 0 b)), none] mo f56.d f56.z f56.b (by kernel_rfl) ⟨b_g1_134, b_g3_135, trivial⟩ (
    hk (fun cx => cx.v (ex_fa rfl (cx.rq 4 s4_136) (faF60_1_0 _ _)) rfl rfl) <|
    hk (fun cx => cx.v (ex_ld rfl (cx.u 0 rfl) (cx.rn 0 rfl) rfl Try.isAgg30) rfl rfl) <|
    hc (fun _ _ wx cx => cx.c rfl (args1 (cx.u 0 rfl)) Try.func75 (by decide +kernel) (upTo_n b wx) rfl rfl) <|
    hk (fun cx => cx.stR (wn rfl) rfl rfl 1 rfl (cx.rq 6 s6_137) (cx.u 0 rfl) (by kernel_rfl) rfl (by simp [Value.oneCell']) q_g3 rfl ⟨(ne_ptr (pairAt f1.ps 0 2 (by decide) rfl rfl) u_g1 u_g3), trivial⟩ trivial) <|
    hn) ?_
   intro a57 w57 f57
   refine wp_ret ?_
   have s6_138 := f57.q 6 s6_137
   try simp only [Exit.inBlock, Exit.then]
   refine bodyPost_ret (res_c (fn := Try.f86) rfl s6_138 (load_row 89 f57.rows.2.1 Try.underlying89 rfl (by kernel_rfl))) f57.d ?_
   have no5 := nb Ffk11.out
   have no4 := nb Ffk12.out
   have no10 := nb Ffk13.out
   have no3 := nb Ffk14.out
   have ho : op = 9 := yb Ffk16.out
   have HE : restU op ⟨⟨a, b⟩, ⟨c, d⟩⟩ ⟨⟨p, q⟩, ⟨r, t⟩⟩ = ⟨0, b⟩ := by
     unfold restU
     rw [if_neg no5, if_neg no4, if_neg no10, if_neg no3]
     rw [if_pos ho]
     rw [if_pos (by have := Ffk17.out; simpa using this)]
     try rfl
   have HE2 : (.agg (cU 0 b) : Value) = .agg #[.int .u64 (restU op ⟨⟨a, b⟩, ⟨c, d⟩⟩ ⟨⟨p, q⟩, ⟨r, t⟩⟩).lo, .int .u64 (restU op ⟨⟨a, b⟩, ⟨c, d⟩⟩ ⟨⟨p, q⟩, ⟨r, t⟩⟩).hi] := by rw [HE]
   exact ⟨retV HE2, f57.b⟩
  have Ffk16 := Lib.hid fk16; clear fk16
  have s16_139 := f52.q 16 s16_121
  refine go_reg [] [] [some (.bool false), some (.bool false)] mo f52.d f52.z f52.b (by kernel_rfl) trivial (
   hk (fun cx => cx.v (ex_eq (x := .tmp 16) rfl (cx.rq 16 s16_139) rfl) rfl (congrArg Value.bool Ffk16.out)) <|
   hk (fun cx => cx.v (ex_as rfl (cx.u 0 rfl)) rfl rfl) <|
   hn) ?_
  intro a58 w58 f58
  refine wp_cond_false (f58.v 1 rfl rfl rfl) ?_
  refine wp_seq ?_
  cases fk18 : op == 7
  case true =>
   have Ffk18 := Lib.hid fk18; clear fk18
   have s16_140 := f58.q 16 s16_139
   refine go_reg [] [] [some (.bool true), some (.bool true)] mo f58.d f58.z f58.b (by kernel_rfl) trivial (
    hk (fun cx => cx.v (ex_eq (x := .tmp 16) rfl (cx.rq 16 s16_140) rfl) rfl (congrArg Value.bool Ffk18.out)) <|
    hk (fun cx => cx.v (ex_as rfl (cx.u 0 rfl)) rfl rfl) <|
    hn) ?_
   intro a59 w59 f59
   refine wp_cond_true (f59.v 1 rfl rfl rfl) ?_
   refine wp_seq ?_
   have s8_141 := f59.q 8 (f58.q 8 (f52.q 8 (f46.q 8 (f43.q 8 (f40.q 8 (f37.q 8 (f36.q 8 (f35.v 6 rfl rfl rfl))))))))
   refine go_reg [] [] [some (.bool true)] mo f59.d f59.z f59.b (by kernel_rfl) trivial (
    hk (fun cx => cx.v (ex_mv rfl (cx.rq 8 s8_141)) rfl rfl) <|
    hn) ?_
   intro a60 w60 f60
   refine wp_cond_true (f60.v 0 rfl rfl rfl) ?_
   refine wp_seq ?_
   have b_g1_142 := f60.k (f59.k (f58.k (f52.k (f46.k (f43.k (f40.k (f37.k (f36.k (f35.k b_g1)))))))))
   have b_g3_143 := f60.k (f59.k (f58.k (f52.k (f46.k (f43.k (f40.k (f37.k (f36.k (f35.k b_g3)))))))))
   have s4_144 := f60.q 4 (f59.q 4 (f58.q 4 (f52.q 4 (f46.q 4 (f43.q 4 (f40.q 4 (f37.q 4 (f36.q 4 (f35.q 4 u_g1)))))))))
   have s7_145 := f60.q 7 (f59.q 7 (f58.q 7 (f52.q 7 (f46.q 7 (f43.q 7 (f40.q 7 (f37.q 7 (f36.v 2 rfl rfl rfl))))))))
   have s6_146 := f60.q 6 (f59.q 6 (f58.q 6 (f52.q 6 (f46.q 6 (f43.q 6 (f40.q 6 (f37.q 6 (f36.q 6 (f35.q 6 u_g3)))))))))
   refine go_reg [bx g1 60 (cR a b c d), ⟨g3, 89, (cU 0 0), some 9, (cU (a / 2 ^ Int.toNat ((Rg.oneV ⟨⟨p, q⟩, ⟨r, t⟩⟩) % 64)) (b / 2 ^ Int.toNat ((Rg.oneV ⟨⟨p, q⟩, ⟨r, t⟩⟩) % 64)))⟩] [] [some (pt g1 0), some (.int .u64 a), some (.int .u64 ((Rg.oneV ⟨⟨p, q⟩, ⟨r, t⟩⟩) % 64)), some (.int .u64 (a / 2 ^ Int.toNat ((Rg.oneV ⟨⟨p, q⟩, ⟨r, t⟩⟩) % 64))), some (pt g1 1), some (.int .u64 b), some (.int .u64 ((Rg.oneV ⟨⟨p, q⟩, ⟨r, t⟩⟩) % 64)), some (.int .u64 (b / 2 ^ Int.toNat ((Rg.oneV ⟨⟨p, q⟩, ⟨r, t⟩⟩) % 64))), some (.agg (cU (a / 2 ^ Int.toNat ((Rg.oneV ⟨⟨p, q⟩, ⟨r, t⟩⟩) % 64)) (b / 2 ^ Int.toNat ((Rg.oneV ⟨⟨p, q⟩, ⟨r, t⟩⟩) % 64)))), none] mo f60.d f60.z f60.b (by kernel_rfl) ⟨b_g1_142, b_g3_143, trivial⟩ (
    hk (fun cx => cx.v (ex_fa rfl (cx.rq 4 s4_144) (faF60_0_0 _ _)) rfl rfl) <|
    hk (fun cx => cx.v (ex_ld rfl (cx.u 0 rfl) (cx.rn 0 rfl) rfl Try.isAgg30) rfl rfl) <|
    hk (fun cx => cx.v (ex_mv rfl (cx.rq 7 s7_145)) rfl rfl) <|
    hk (fun cx => cx.v (exec_shr (x := .tmp 86) (y := .tmp 87) rfl (cx.u 0 rfl) (cx.u 1 rfl) HN.out.1 HN.out.2) rfl rfl) <|
    hk (fun cx => cx.v (ex_fa rfl (cx.rq 4 s4_144) (faF60_1_0 _ _)) rfl rfl) <|
    hk (fun cx => cx.v (ex_ld rfl (cx.u 0 rfl) (cx.rn 0 rfl) rfl Try.isAgg30) rfl rfl) <|
    hk (fun cx => cx.v (ex_mv rfl (cx.rq 7 s7_145)) rfl rfl) <|
    hk (fun cx => cx.v (exec_shr (x := .tmp 90) (y := .tmp 91) rfl (cx.u 0 rfl) (cx.u 1 rfl) HN.out.1 HN.out.2) rfl rfl) <|
    hk (fun cx => cx.v (exec_build rfl (parts2 (cx.u 0 rfl) (cx.u 1 rfl)) (by kernel_rfl)) rfl rfl) <|
    hk (fun cx => cx.stR (wn rfl) rfl rfl 1 rfl (cx.rq 6 s6_146) (cx.u 0 rfl) (by kernel_rfl) rfl (by simp [Value.oneCell']) q_g3 rfl ⟨(ne_ptr (pairAt f1.ps 0 2 (by decide) rfl rfl) u_g1 u_g3), trivial⟩ trivial) <|
    hn) ?_
   intro a61 w61 f61
   refine wp_ret ?_
   have s6_147 := f61.q 6 s6_146
   try simp only [Exit.inBlock, Exit.then]
   refine bodyPost_ret (res_c (fn := Try.f86) rfl s6_147 (load_row 89 f61.rows.2.1 Try.underlying89 rfl (by kernel_rfl))) f61.d ?_
   have no5 := nb Ffk11.out
   have no4 := nb Ffk12.out
   have no10 := nb Ffk13.out
   have no3 := nb Ffk14.out
   have no9 := nb Ffk16.out
   have ho : op = 7 := yb Ffk18.out
   have HE : restU op ⟨⟨a, b⟩, ⟨c, d⟩⟩ ⟨⟨p, q⟩, ⟨r, t⟩⟩ = ⟨a / 2 ^ Int.toNat ((Rg.oneV ⟨⟨p, q⟩, ⟨r, t⟩⟩) % 64), b / 2 ^ Int.toNat ((Rg.oneV ⟨⟨p, q⟩, ⟨r, t⟩⟩) % 64)⟩ := by
     unfold restU
     rw [if_neg no5, if_neg no4, if_neg no10, if_neg no3, if_neg no9]
     rw [if_pos ho]
     rw [if_pos Ffk1.out]
     try rfl
   have HE2 : (.agg (cU (a / 2 ^ Int.toNat ((Rg.oneV ⟨⟨p, q⟩, ⟨r, t⟩⟩) % 64)) (b / 2 ^ Int.toNat ((Rg.oneV ⟨⟨p, q⟩, ⟨r, t⟩⟩) % 64))) : Value) = .agg #[.int .u64 (restU op ⟨⟨a, b⟩, ⟨c, d⟩⟩ ⟨⟨p, q⟩, ⟨r, t⟩⟩).lo, .int .u64 (restU op ⟨⟨a, b⟩, ⟨c, d⟩⟩ ⟨⟨p, q⟩, ⟨r, t⟩⟩).hi] := by rw [HE]
   exact ⟨retV HE2, f61.b⟩
  have Ffk18 := Lib.hid fk18; clear fk18
  have s16_148 := f58.q 16 s16_139
  refine go_reg [] [] [some (.bool false), some (.bool false)] mo f58.d f58.z f58.b (by kernel_rfl) trivial (
   hk (fun cx => cx.v (ex_eq (x := .tmp 16) rfl (cx.rq 16 s16_148) rfl) rfl (congrArg Value.bool Ffk18.out)) <|
   hk (fun cx => cx.v (ex_as rfl (cx.u 0 rfl)) rfl rfl) <|
   hn) ?_
  intro a62 w62 f62
  refine wp_cond_false (f62.v 1 rfl rfl rfl) ?_
  refine wp_seq ?_
  cases fk19 : op == 6
  case true =>
   have Ffk19 := Lib.hid fk19; clear fk19
   have s16_149 := f62.q 16 s16_148
   refine go_reg [] [] [some (.bool true), some (.bool true)] mo f62.d f62.z f62.b (by kernel_rfl) trivial (
    hk (fun cx => cx.v (ex_eq (x := .tmp 16) rfl (cx.rq 16 s16_149) rfl) rfl (congrArg Value.bool Ffk19.out)) <|
    hk (fun cx => cx.v (ex_as rfl (cx.u 0 rfl)) rfl rfl) <|
    hn) ?_
   intro a63 w63 f63
   refine wp_cond_true (f63.v 1 rfl rfl rfl) ?_
   refine wp_seq ?_
   cases fk20 : (((b * 2 ^ Int.toNat ((Rg.oneV ⟨⟨p, q⟩, ⟨r, t⟩⟩) % 64)) % 18446744073709551616) / 2 ^ Int.toNat ((Rg.oneV ⟨⟨p, q⟩, ⟨r, t⟩⟩) % 64)) == b
   case false =>
    have Ffk20 := Lib.hid fk20; clear fk20
    have b_g1_150 := f63.k (f62.k (f58.k (f52.k (f46.k (f43.k (f40.k (f37.k (f36.k (f35.k b_g1)))))))))
    have s8_151 := f63.q 8 (f62.q 8 (f58.q 8 (f52.q 8 (f46.q 8 (f43.q 8 (f40.q 8 (f37.q 8 (f36.q 8 (f35.v 6 rfl rfl rfl)))))))))
    have s4_152 := f63.q 4 (f62.q 4 (f58.q 4 (f52.q 4 (f46.q 4 (f43.q 4 (f40.q 4 (f37.q 4 (f36.q 4 (f35.q 4 u_g1)))))))))
    have s7_153 := f63.q 7 (f62.q 7 (f58.q 7 (f52.q 7 (f46.q 7 (f43.q 7 (f40.q 7 (f37.q 7 (f36.v 2 rfl rfl rfl))))))))
    refine go_reg [bx g1 60 (cR a b c d)] [] [some (.bool true), some (.bool true), some (pt g1 1), some (.int .u64 b), some (.int .u64 ((Rg.oneV ⟨⟨p, q⟩, ⟨r, t⟩⟩) % 64)), some (.int .u64 ((b * 2 ^ Int.toNat ((Rg.oneV ⟨⟨p, q⟩, ⟨r, t⟩⟩) % 64)) % 18446744073709551616)), some (.int .u64 ((Rg.oneV ⟨⟨p, q⟩, ⟨r, t⟩⟩) % 64)), some (.int .u64 (((b * 2 ^ Int.toNat ((Rg.oneV ⟨⟨p, q⟩, ⟨r, t⟩⟩) % 64)) % 18446744073709551616) / 2 ^ Int.toNat ((Rg.oneV ⟨⟨p, q⟩, ⟨r, t⟩⟩) % 64))), some (pt g1 1), some (.int .u64 b), some (.bool false), some (.bool false)] mo f63.d f63.z f63.b (by kernel_rfl) ⟨b_g1_150, trivial⟩ (
     hk (fun cx => cx.v (ex_mv rfl (cx.rq 8 s8_151)) rfl rfl) <|
     hk (fun cx => cx.v (ex_mv rfl (cx.u 0 rfl)) rfl rfl) <|
     hk (fun cx => cx.val (cx.wy rfl rfl rfl rfl (cx.u 0 rfl)) (ex_fa rfl (cx.rq 4 s4_152) (faF60_1_0 _ _)) rfl rfl rfl rfl) <|
     hk (fun cx => cx.val (cx.wy rfl rfl rfl rfl (cx.u 1 rfl)) (ex_ld rfl (cx.u 0 rfl) (cx.rn 0 rfl) rfl Try.isAgg30) rfl rfl rfl rfl) <|
     hk (fun cx => cx.val (cx.wy rfl rfl rfl rfl (cx.u 0 rfl)) (ex_mv rfl (cx.rq 7 s7_153)) rfl rfl rfl rfl) <|
     hk (fun cx => cx.val (cx.wy rfl rfl rfl rfl (cx.u 2 rfl)) (exec_shl (x := .tmp 99) (y := .tmp 100) rfl (cx.u 0 rfl) (cx.u 1 rfl) HN.out.1 HN.out.2) rfl rfl rfl rfl) <|
     hk (fun cx => cx.val (cx.wy rfl rfl rfl rfl (cx.u 0 rfl)) (ex_mv rfl (cx.rq 7 s7_153)) rfl rfl rfl rfl) <|
     hk (fun cx => cx.val (cx.wy rfl rfl rfl rfl (cx.u 2 rfl)) (exec_shr (x := .tmp 101) (y := .tmp 102) rfl (cx.u 0 rfl) (cx.u 1 rfl) HN.out.1 HN.out.2) rfl rfl rfl rfl) <|
     hk (fun cx => cx.val (cx.wy rfl rfl rfl rfl (cx.u 0 rfl)) (ex_fa rfl (cx.rq 4 s4_152) (faF60_1_0 _ _)) rfl rfl rfl rfl) <|
     hk (fun cx => cx.val (cx.wy rfl rfl rfl rfl (cx.u 1 rfl)) (ex_ld rfl (cx.u 0 rfl) (cx.rn 0 rfl) rfl Try.isAgg30) rfl rfl rfl rfl) <|
     hk (fun cx => cx.val (cx.wy rfl rfl rfl rfl (cx.u 2 rfl)) (ex_eq (x := .tmp 103) (y := .tmp 105) rfl (cx.u 0 rfl) (cx.u 1 rfl)) rfl rfl (congrArg Value.bool Ffk20.out) rfl) <|
     hk (fun cx => cx.v (ex_pt rfl (cx.u 0 rfl) (cx.u 1 rfl)) rfl rfl) <|
     hn) ?_
    intro a64 w64 f64
    refine wp_cond_false (f64.v 11 rfl rfl rfl) ?_
    refine wp_skip ?_
    refine wp_seq ?_
    have b_g3_154 := f64.k (f63.k (f62.k (f58.k (f52.k (f46.k (f43.k (f40.k (f37.k (f36.k (f35.k b_g3))))))))))
    have s6_155 := f64.q 6 (f63.q 6 (f62.q 6 (f58.q 6 (f52.q 6 (f46.q 6 (f43.q 6 (f40.q 6 (f37.q 6 (f36.q 6 (f35.q 6 u_g3))))))))))
    refine go_reg [⟨g3, 89, (cU 0 0), some 2, (cU allR.u.lo allR.u.hi)⟩] [] [some (.agg (cR allR.u.lo allR.u.hi allR.s.lo allR.s.hi)), some (.agg (cU allR.u.lo allR.u.hi)), none] mo f64.d f64.z f64.b (by kernel_rfl) ⟨b_g3_154, trivial⟩ (
     hc (fun _ _ wx cx => cx.c rfl (args0 ) Try.func29 (by decide +kernel) (all_n wx) rfl rfl) <|
     hc (fun _ _ wx cx => cx.c rfl (args1 (cx.u 0 rfl)) Try.func55 (by decide +kernel) (unsigned_n allR.u.lo allR.u.hi allR.s.lo allR.s.hi wx) rfl rfl) <|
     hk (fun cx => cx.stR (wn rfl) rfl rfl 0 rfl (cx.rq 6 s6_155) (cx.u 0 rfl) (by kernel_rfl) rfl (by simp [Value.oneCell']) q_g3 rfl trivial trivial) <|
     hn) ?_
    intro a65 w65 f65
    refine wp_ret ?_
    have s6_156 := f65.q 6 s6_155
    try simp only [Exit.inBlock, Exit.then]
    refine bodyPost_ret (res_c (fn := Try.f86) rfl s6_156 (load_row 89 f65.rows.1 Try.underlying89 rfl (by kernel_rfl))) f65.d ?_
    have no5 := nb Ffk11.out
    have no4 := nb Ffk12.out
    have no10 := nb Ffk13.out
    have no3 := nb Ffk14.out
    have no9 := nb Ffk16.out
    have no7 := nb Ffk18.out
    have ho : op = 6 := yb Ffk19.out
    have HE : restU op ⟨⟨a, b⟩, ⟨c, d⟩⟩ ⟨⟨p, q⟩, ⟨r, t⟩⟩ = ⟨allR.u.lo, allR.u.hi⟩ := by
      unfold restU
      rw [if_neg no5, if_neg no4, if_neg no10, if_neg no3, if_neg no9, if_neg no7]
      rw [if_pos ho]
      rw [if_neg (by rw [Ffk1.out, ← HF.out, Ffk20.out]; decide)]
      try rfl
    have HE2 : (.agg (cU allR.u.lo allR.u.hi) : Value) = .agg #[.int .u64 (restU op ⟨⟨a, b⟩, ⟨c, d⟩⟩ ⟨⟨p, q⟩, ⟨r, t⟩⟩).lo, .int .u64 (restU op ⟨⟨a, b⟩, ⟨c, d⟩⟩ ⟨⟨p, q⟩, ⟨r, t⟩⟩).hi] := by rw [HE]
    exact ⟨retV HE2, f65.b⟩
   have Ffk20 := Lib.hid fk20; clear fk20
   have b_g1_157 := f63.k (f62.k (f58.k (f52.k (f46.k (f43.k (f40.k (f37.k (f36.k (f35.k b_g1)))))))))
   have s8_158 := f63.q 8 (f62.q 8 (f58.q 8 (f52.q 8 (f46.q 8 (f43.q 8 (f40.q 8 (f37.q 8 (f36.q 8 (f35.v 6 rfl rfl rfl)))))))))
   have s4_159 := f63.q 4 (f62.q 4 (f58.q 4 (f52.q 4 (f46.q 4 (f43.q 4 (f40.q 4 (f37.q 4 (f36.q 4 (f35.q 4 u_g1)))))))))
   have s7_160 := f63.q 7 (f62.q 7 (f58.q 7 (f52.q 7 (f46.q 7 (f43.q 7 (f40.q 7 (f37.q 7 (f36.v 2 rfl rfl rfl))))))))
   refine go_reg [bx g1 60 (cR a b c d)] [] [some (.bool true), some (.bool true), some (pt g1 1), some (.int .u64 b), some (.int .u64 ((Rg.oneV ⟨⟨p, q⟩, ⟨r, t⟩⟩) % 64)), some (.int .u64 ((b * 2 ^ Int.toNat ((Rg.oneV ⟨⟨p, q⟩, ⟨r, t⟩⟩) % 64)) % 18446744073709551616)), some (.int .u64 ((Rg.oneV ⟨⟨p, q⟩, ⟨r, t⟩⟩) % 64)), some (.int .u64 (((b * 2 ^ Int.toNat ((Rg.oneV ⟨⟨p, q⟩, ⟨r, t⟩⟩) % 64)) % 18446744073709551616) / 2 ^ Int.toNat ((Rg.oneV ⟨⟨p, q⟩, ⟨r, t⟩⟩) % 64))), some (pt g1 1), some (.int .u64 b), some (.bool true), some (.bool true)] mo f63.d f63.z f63.b (by kernel_rfl) ⟨b_g1_157, trivial⟩ (
    hk (fun cx => cx.v (ex_mv rfl (cx.rq 8 s8_158)) rfl rfl) <|
    hk (fun cx => cx.v (ex_mv rfl (cx.u 0 rfl)) rfl rfl) <|
    hk (fun cx => cx.val (cx.wy rfl rfl rfl rfl (cx.u 0 rfl)) (ex_fa rfl (cx.rq 4 s4_159) (faF60_1_0 _ _)) rfl rfl rfl rfl) <|
    hk (fun cx => cx.val (cx.wy rfl rfl rfl rfl (cx.u 1 rfl)) (ex_ld rfl (cx.u 0 rfl) (cx.rn 0 rfl) rfl Try.isAgg30) rfl rfl rfl rfl) <|
    hk (fun cx => cx.val (cx.wy rfl rfl rfl rfl (cx.u 0 rfl)) (ex_mv rfl (cx.rq 7 s7_160)) rfl rfl rfl rfl) <|
    hk (fun cx => cx.val (cx.wy rfl rfl rfl rfl (cx.u 2 rfl)) (exec_shl (x := .tmp 99) (y := .tmp 100) rfl (cx.u 0 rfl) (cx.u 1 rfl) HN.out.1 HN.out.2) rfl rfl rfl rfl) <|
    hk (fun cx => cx.val (cx.wy rfl rfl rfl rfl (cx.u 0 rfl)) (ex_mv rfl (cx.rq 7 s7_160)) rfl rfl rfl rfl) <|
    hk (fun cx => cx.val (cx.wy rfl rfl rfl rfl (cx.u 2 rfl)) (exec_shr (x := .tmp 101) (y := .tmp 102) rfl (cx.u 0 rfl) (cx.u 1 rfl) HN.out.1 HN.out.2) rfl rfl rfl rfl) <|
    hk (fun cx => cx.val (cx.wy rfl rfl rfl rfl (cx.u 0 rfl)) (ex_fa rfl (cx.rq 4 s4_159) (faF60_1_0 _ _)) rfl rfl rfl rfl) <|
    hk (fun cx => cx.val (cx.wy rfl rfl rfl rfl (cx.u 1 rfl)) (ex_ld rfl (cx.u 0 rfl) (cx.rn 0 rfl) rfl Try.isAgg30) rfl rfl rfl rfl) <|
    hk (fun cx => cx.val (cx.wy rfl rfl rfl rfl (cx.u 2 rfl)) (ex_eq (x := .tmp 103) (y := .tmp 105) rfl (cx.u 0 rfl) (cx.u 1 rfl)) rfl rfl (congrArg Value.bool Ffk20.out) rfl) <|
    hk (fun cx => cx.v (ex_pt rfl (cx.u 0 rfl) (cx.u 1 rfl)) rfl rfl) <|
    hn) ?_
   intro a66 w66 f66
   refine wp_cond_true (f66.v 11 rfl rfl rfl) ?_
   refine wp_seq ?_
   have b_g1_161 := f66.k b_g1_157
   have b_g3_162 := f66.k (f63.k (f62.k (f58.k (f52.k (f46.k (f43.k (f40.k (f37.k (f36.k (f35.k b_g3))))))))))
   have s4_163 := f66.q 4 s4_159
   have s7_164 := f66.q 7 s7_160
   have s6_165 := f66.q 6 (f63.q 6 (f62.q 6 (f58.q 6 (f52.q 6 (f46.q 6 (f43.q 6 (f40.q 6 (f37.q 6 (f36.q 6 (f35.q 6 u_g3))))))))))
   refine go_reg [bx g1 60 (cR a b c d), ⟨g3, 89, (cU 0 0), some 9, (cU ((a * 2 ^ Int.toNat ((Rg.oneV ⟨⟨p, q⟩, ⟨r, t⟩⟩) % 64)) % 18446744073709551616) ((b * 2 ^ Int.toNat ((Rg.oneV ⟨⟨p, q⟩, ⟨r, t⟩⟩) % 64)) % 18446744073709551616))⟩] [] [some (pt g1 0), some (.int .u64 a), some (.int .u64 ((Rg.oneV ⟨⟨p, q⟩, ⟨r, t⟩⟩) % 64)), some (.int .u64 ((a * 2 ^ Int.toNat ((Rg.oneV ⟨⟨p, q⟩, ⟨r, t⟩⟩) % 64)) % 18446744073709551616)), some (pt g1 1), some (.int .u64 b), some (.int .u64 ((Rg.oneV ⟨⟨p, q⟩, ⟨r, t⟩⟩) % 64)), some (.int .u64 ((b * 2 ^ Int.toNat ((Rg.oneV ⟨⟨p, q⟩, ⟨r, t⟩⟩) % 64)) % 18446744073709551616)), some (.agg (cU ((a * 2 ^ Int.toNat ((Rg.oneV ⟨⟨p, q⟩, ⟨r, t⟩⟩) % 64)) % 18446744073709551616) ((b * 2 ^ Int.toNat ((Rg.oneV ⟨⟨p, q⟩, ⟨r, t⟩⟩) % 64)) % 18446744073709551616))), none] mo f66.d f66.z f66.b (by kernel_rfl) ⟨b_g1_161, b_g3_162, trivial⟩ (
    hk (fun cx => cx.v (ex_fa rfl (cx.rq 4 s4_163) (faF60_0_0 _ _)) rfl rfl) <|
    hk (fun cx => cx.v (ex_ld rfl (cx.u 0 rfl) (cx.rn 0 rfl) rfl Try.isAgg30) rfl rfl) <|
    hk (fun cx => cx.v (ex_mv rfl (cx.rq 7 s7_164)) rfl rfl) <|
    hk (fun cx => cx.v (exec_shl (x := .tmp 109) (y := .tmp 110) rfl (cx.u 0 rfl) (cx.u 1 rfl) HN.out.1 HN.out.2) rfl rfl) <|
    hk (fun cx => cx.v (ex_fa rfl (cx.rq 4 s4_163) (faF60_1_0 _ _)) rfl rfl) <|
    hk (fun cx => cx.v (ex_ld rfl (cx.u 0 rfl) (cx.rn 0 rfl) rfl Try.isAgg30) rfl rfl) <|
    hk (fun cx => cx.v (ex_mv rfl (cx.rq 7 s7_164)) rfl rfl) <|
    hk (fun cx => cx.v (exec_shl (x := .tmp 113) (y := .tmp 114) rfl (cx.u 0 rfl) (cx.u 1 rfl) HN.out.1 HN.out.2) rfl rfl) <|
    hk (fun cx => cx.v (exec_build rfl (parts2 (cx.u 0 rfl) (cx.u 1 rfl)) (by kernel_rfl)) rfl rfl) <|
    hk (fun cx => cx.stR (wn rfl) rfl rfl 1 rfl (cx.rq 6 s6_165) (cx.u 0 rfl) (by kernel_rfl) rfl (by simp [Value.oneCell']) q_g3 rfl ⟨(ne_ptr (pairAt f1.ps 0 2 (by decide) rfl rfl) u_g1 u_g3), trivial⟩ trivial) <|
    hn) ?_
   intro a67 w67 f67
   refine wp_ret ?_
   have s6_166 := f67.q 6 s6_165
   try simp only [Exit.inBlock, Exit.then]
   refine bodyPost_ret (res_c (fn := Try.f86) rfl s6_166 (load_row 89 f67.rows.2.1 Try.underlying89 rfl (by kernel_rfl))) f67.d ?_
   have no5 := nb Ffk11.out
   have no4 := nb Ffk12.out
   have no10 := nb Ffk13.out
   have no3 := nb Ffk14.out
   have no9 := nb Ffk16.out
   have no7 := nb Ffk18.out
   have ho : op = 6 := yb Ffk19.out
   have HE : restU op ⟨⟨a, b⟩, ⟨c, d⟩⟩ ⟨⟨p, q⟩, ⟨r, t⟩⟩ = ⟨(a * 2 ^ Int.toNat ((Rg.oneV ⟨⟨p, q⟩, ⟨r, t⟩⟩) % 64)) % 18446744073709551616, (b * 2 ^ Int.toNat ((Rg.oneV ⟨⟨p, q⟩, ⟨r, t⟩⟩) % 64)) % 18446744073709551616⟩ := by
     unfold restU
     rw [if_neg no5, if_neg no4, if_neg no10, if_neg no3, if_neg no9, if_neg no7]
     rw [if_pos ho]
     rw [if_pos (by rw [Ffk1.out, ← HF.out, Ffk20.out]; rfl)]
     exact HG.out Ffk20.out
   have HE2 : (.agg (cU ((a * 2 ^ Int.toNat ((Rg.oneV ⟨⟨p, q⟩, ⟨r, t⟩⟩) % 64)) % 18446744073709551616) ((b * 2 ^ Int.toNat ((Rg.oneV ⟨⟨p, q⟩, ⟨r, t⟩⟩) % 64)) % 18446744073709551616)) : Value) = .agg #[.int .u64 (restU op ⟨⟨a, b⟩, ⟨c, d⟩⟩ ⟨⟨p, q⟩, ⟨r, t⟩⟩).lo, .int .u64 (restU op ⟨⟨a, b⟩, ⟨c, d⟩⟩ ⟨⟨p, q⟩, ⟨r, t⟩⟩).hi] := by rw [HE]
   exact ⟨retV HE2, f67.b⟩
  have Ffk19 := Lib.hid fk19; clear fk19
  have s16_167 := f62.q 16 s16_148
  refine go_reg [] [] [some (.bool false), some (.bool false)] mo f62.d f62.z f62.b (by kernel_rfl) trivial (
   hk (fun cx => cx.v (ex_eq (x := .tmp 16) rfl (cx.rq 16 s16_167) rfl) rfl (congrArg Value.bool Ffk19.out)) <|
   hk (fun cx => cx.v (ex_as rfl (cx.u 0 rfl)) rfl rfl) <|
   hn) ?_
  intro a68 w68 f68
  refine wp_cond_false (f68.v 1 rfl rfl rfl) ?_
  refine wp_skip ?_
  refine wp_seq ?_
  have b_g3_168 := f68.k (f62.k (f58.k (f52.k (f46.k (f43.k (f40.k (f37.k (f36.k (f35.k b_g3)))))))))
  have s6_169 := f68.q 6 (f62.q 6 (f58.q 6 (f52.q 6 (f46.q 6 (f43.q 6 (f40.q 6 (f37.q 6 (f36.q 6 (f35.q 6 u_g3)))))))))
  refine go_reg [⟨g3, 89, (cU 0 0), some 2, (cU allR.u.lo allR.u.hi)⟩] [] [some (.agg (cR allR.u.lo allR.u.hi allR.s.lo allR.s.hi)), some (.agg (cU allR.u.lo allR.u.hi)), none] mo f68.d f68.z f68.b (by kernel_rfl) ⟨b_g3_168, trivial⟩ (
   hc (fun _ _ wx cx => cx.c rfl (args0 ) Try.func29 (by decide +kernel) (all_n wx) rfl rfl) <|
   hc (fun _ _ wx cx => cx.c rfl (args1 (cx.u 0 rfl)) Try.func55 (by decide +kernel) (unsigned_n allR.u.lo allR.u.hi allR.s.lo allR.s.hi wx) rfl rfl) <|
   hk (fun cx => cx.stR (wn rfl) rfl rfl 0 rfl (cx.rq 6 s6_169) (cx.u 0 rfl) (by kernel_rfl) rfl (by simp [Value.oneCell']) q_g3 rfl trivial trivial) <|
   hn) ?_
  intro a69 w69 f69
  refine wp_ret ?_
  have s6_170 := f69.q 6 s6_169
  try simp only [Exit.inBlock, Exit.then]
  refine bodyPost_ret (res_c (fn := Try.f86) rfl s6_170 (load_row 89 f69.rows.1 Try.underlying89 rfl (by kernel_rfl))) f69.d ?_
  have no5 := nb Ffk11.out
  have no4 := nb Ffk12.out
  have no10 := nb Ffk13.out
  have no3 := nb Ffk14.out
  have no9 := nb Ffk16.out
  have no7 := nb Ffk18.out
  have no6 := nb Ffk19.out
  have HE : restU op ⟨⟨a, b⟩, ⟨c, d⟩⟩ ⟨⟨p, q⟩, ⟨r, t⟩⟩ = ⟨allR.u.lo, allR.u.hi⟩ := by
    unfold restU
    rw [if_neg no5, if_neg no4, if_neg no10, if_neg no3, if_neg no9, if_neg no7, if_neg no6]
    try rfl
  have HE2 : (.agg (cU allR.u.lo allR.u.hi) : Value) = .agg #[.int .u64 (restU op ⟨⟨a, b⟩, ⟨c, d⟩⟩ ⟨⟨p, q⟩, ⟨r, t⟩⟩).lo, .int .u64 (restU op ⟨⟨a, b⟩, ⟨c, d⟩⟩ ⟨⟨p, q⟩, ⟨r, t⟩⟩).hi] := by rw [HE]
  exact ⟨retV HE2, f69.b⟩
end Go.Proofs.Ytnmgehjccafegaa.Bnd
