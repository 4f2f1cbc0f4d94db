/-
  The walk of the law FlagsCut. (Written by gen_fli.py.)
-/
import Derived.Test.YtllnengcmfgmhaaFlI
namespace Go.Proofs.Ytllnengcmfgmhaa.Flg
open Go Go.RowKit
set_option linter.unusedVariables false
set_option linter.unusedSimpArgs false
set_option linter.unnecessarySimpa false
set_option maxRecDepth 100000




def mixI (a c : Int) : Int := bits .or .u64 (bits .and .u64 a 4294967295) (bits .andNot .u64 c 4294967295)
theorem mix_bd {a c : Int} (ha : 0 ≤ a ∧ a < 18446744073709551616) (hc : 0 ≤ c ∧ c < 18446744073709551616) : 0 ≤ mixI a c ∧ mixI a c < 18446744073709551616 ∧ mixI a c % 4294967296 = a % 4294967296 := by
  unfold mixI
  rw [u64_and a _ ha.1 ha.2 (by omega) (by omega), u64_andNot c _ hc.1 hc.2 (by omega) (by omega)]
  have x1 := @Nat.and_le_left a.toNat (4294967295 : Int).toNat
  have y1 := @Nat.and_le_left c.toNat (18446744073709551615 - (4294967295 : Int).toNat)
  rw [u64_or _ _ (by omega) (by omega) (by omega) (by omega), Int.toNat_natCast, Int.toNat_natCast]
  have z1 := @Nat.or_lt_two_pow (a.toNat &&& (4294967295 : Int).toNat) (c.toNat &&& (18446744073709551615 - (4294967295 : Int).toNat)) 64 (by omega) (by omega)
  have e : ((a.toNat &&& (4294967295 : Int).toNat) ||| (c.toNat &&& (18446744073709551615 - (4294967295 : Int).toNat))) % 2 ^ 32 = a.toNat % 2 ^ 32 := by
    have m1 : (4294967295 : Int).toNat % 2 ^ 32 = 2 ^ 32 - 1 := by decide
    have m2 : (18446744073709551615 - (4294967295 : Int).toNat) % 2 ^ 32 = 0 := by decide
    rw [Nat.or_mod_two_pow, Nat.and_mod_two_pow, Nat.and_mod_two_pow, m1, m2, Nat.and_zero, Nat.or_zero, Nat.and_two_pow_sub_one_eq_mod, Nat.mod_mod]
  have p : (2 : Nat) ^ 32 = 4294967296 := rfl
  have p6 : (2 : Nat) ^ 64 = 18446744073709551616 := rfl
  generalize (a.toNat &&& (4294967295 : Int).toNat) ||| (c.toNat &&& (18446744073709551615 - (4294967295 : Int).toNat)) = m at *
  omega
section
variable {a b c d : Int} (ha : 0 ≤ a ∧ a < 18446744073709551616) (hb : 0 ≤ b ∧ b < 18446744073709551616) (hcc : 0 ≤ c ∧ c < 18446744073709551616) (hdd : 0 ≤ d ∧ d < 18446744073709551616)
include ha hcc
theorem cut_mix : cutI (mixI a c) 32 = cutI a 32 := by rw [cutI_32, cutI_32]; exact (mix_bd ha hcc).2.2
theorem neg_mix : negB 32 (mixI a c) = negB 32 a := by
  have e : longB 32 = true := rfl
  rw [← neg_cut e (mixI a c), cut_mix ha hcc, neg_cut e]
include hb hdd
theorem addF_mix : addF 32 (mixI a c) (mixI b d) = addF 32 a b := by
  unfold addF overA addV; rw [cut_mix ha hcc, cut_mix hb hdd, neg_mix ha hcc, neg_mix hb hdd]
theorem subF_mix : subF 32 (mixI a c) (mixI b d) = subF 32 a b := by
  unfold subF overS subV; rw [cut_mix ha hcc, cut_mix hb hdd, neg_mix ha hcc, neg_mix hb hdd]
end
theorem add_mix (a b c d : Int) (W : World) (ha : 0 ≤ a ∧ a < 18446744073709551616) (hb : 0 ≤ b ∧ b < 18446744073709551616) (hcc : 0 ≤ c ∧ c < 18446744073709551616) (hdd : 0 ≤ d ∧ d < 18446744073709551616) : Calls Try.prog 9 #[.int .i8 32, .int .u64 (mixI a c), .int .u64 (mixI b d)] W fun e w' => e = .returned (.tuple #[.agg (fC (addF 32 a b)), .int .i64 (errW 32)]) ∧ Below W.heap.size W w' := by
  have h := add_n 32 (mixI a c) (mixI b d) W ⟨(mix_bd ha hcc).1, (mix_bd ha hcc).2.1⟩ ⟨(mix_bd hb hdd).1, (mix_bd hb hdd).2.1⟩
  rw [addF_mix ha hb hcc hdd] at h
  exact h
theorem sub_mix (a b c d : Int) (W : World) (ha : 0 ≤ a ∧ a < 18446744073709551616) (hb : 0 ≤ b ∧ b < 18446744073709551616) (hcc : 0 ≤ c ∧ c < 18446744073709551616) (hdd : 0 ≤ d ∧ d < 18446744073709551616) : Calls Try.prog 11 #[.int .i8 32, .int .u64 (mixI a c), .int .u64 (mixI b d)] W fun e w' => e = .returned (.tuple #[.agg (fC (subF 32 a b)), .int .i64 (errW 32)]) ∧ Below W.heap.size W w' := by
  have h := sub_n 32 (mixI a c) (mixI b d) W ⟨(mix_bd ha hcc).1, (mix_bd ha hcc).2.1⟩ ⟨(mix_bd hb hdd).1, (mix_bd hb hdd).2.1⟩
  rw [subF_mix ha hb hcc hdd] at h
  exact h
theorem addF_swap {a b : Int} (ha : 0 ≤ a ∧ a < 18446744073709551616) (hb : 0 ≤ b ∧ b < 18446744073709551616) : eqF (addF 64 a b) (addF 64 b a) = true := by
  have e : addV 64 b a = addV 64 a b := by
    unfold addV
    rw [opI_0, opI_0, Int.add_comm]
  have v : addV 64 a b = (a + b) % 18446744073709551616 := rfl
  have l : (64 : Int) = 64 := rfl
  unfold addF aftF eqF overA
  rw [if_pos (show longB 64 = true from rfl), if_pos (show longB 64 = true from rfl), e]
  have c1 : decide (addV 64 a b < cutI a 64) = decide (addV 64 a b < cutI b 64) := by
    rw [cutI_64, cutI_64, v, Bool.eq_iff_iff, decide_eq_true_iff, decide_eq_true_iff]
    omega
  rw [c1]
  cases negB 64 a <;> cases negB 64 b <;> cases negB 64 (addV 64 a b) <;> simp
theorem subF_self (a : Int) : eqF (subF 64 a a) ⟨true, false, true, false, false⟩ = true := by
  have e : subV 64 a a = 0 := by
    unfold subV
    rw [opI_1, Int.sub_self]
    rfl
  unfold subF aftF eqF overS
  rw [if_pos (show longB 64 = true from rfl), e]
  have n : negB 64 0 = false := by decide
  simp [n]

set_option maxHeartbeats 4000000 in
theorem cut_n (a b c d : Int) (W : World) (ha : 0 ≤ a ∧ a < 18446744073709551616) (hb : 0 ≤ b ∧ b < 18446744073709551616) (hcc : 0 ≤ c ∧ c < 18446744073709551616) (hdd : 0 ≤ d ∧ d < 18446744073709551616) : Calls Try.prog 6 #[.int .u64 a, .int .u64 b, .int .u64 c, .int .u64 d] W fun e w' => e = .returned (.bool true) ∧ Below W.heap.size W w' := by
  refine calls_abs Try.func6 rfl (Nat.le_of_ble_eq_true rfl) ?_
  intro a0 d0 z0 h0
  replace z0 : a0.tmps.size = 137 := z0
  have s0_0 : a0.tmps.getD 0 undef = .int .u64 a := h0 0 (Nat.le_of_ble_eq_true rfl)
  have s1_0 : a0.tmps.getD 1 undef = .int .u64 b := h0 1 (Nat.le_of_ble_eq_true rfl)
  have s2_0 : a0.tmps.getD 2 undef = .int .u64 c := h0 2 (Nat.le_of_ble_eq_true rfl)
  have s3_0 : a0.tmps.getD 3 undef = .int .u64 d := h0 3 (Nat.le_of_ble_eq_true rfl)
  refine wp_seq ?_
  refine go_reg [] [] [oF] mo d0 z0 (Below.refl _ _) (by kernel_rfl) trivial (
   hk (fun cx => cx.q (ex_as rfl rfl)) <|
   hn) ?_
  intro a1 w1 f1
  refine wp_seq ?_
  refine go_reg [] [] [some (.int .u64 4294967295)] mo f1.d f1.z f1.b (by kernel_rfl) trivial (
   hk (fun cx => cx.q (ex_as rfl rfl)) <|
   hn) ?_
  intro a2 w2 f2
  refine wp_seq ?_
  have s0_1 := f2.q 0 (f1.q 0 s0_0)
  have s1_2 := f2.q 1 (f1.q 1 s1_0)
  refine go_reg [] [⟨6, 10, 25, (fC zF), some 7, (fC (addF 32 a b))⟩] [some (.int .u64 a), some (.int .u64 b), some (.tuple #[.agg (fC (addF 32 a b)), .int .i64 (errW 32)]), some (.tuple #[.agg (fC (addF 32 a b)), .int .i64 (errW 32)]), some (.agg (fC (addF 32 a b))), some (.int .i64 (errW 32)), none, none, some (.int .i64 (errW 32))] mo f2.d f2.z f2.b (by kernel_rfl) trivial (
   hk (fun cx => cx.q (ex_mv rfl (cx.rq 0 s0_1))) <|
   hk (fun cx => cx.q (ex_mv rfl (cx.rq 1 s1_2))) <|
   hc (fun _ _ wx cx => cx.c rfl (args3 rfl (cx.u 0 rfl) (cx.u 1 rfl)) Try.func9 (by decide +kernel) (add_n 32 a b wx ha hb) rfl rfl) <|
   kmu 0 <|
   hk (fun cx => cx.q (ex_ext (x := .tmp 24) rfl (cx.u 0 rfl) rfl)) <|
   hk (fun cx => cx.q (ex_ext (x := .tmp 24) rfl (cx.u 0 rfl) rfl)) <|
   hk (fun cx => cx.al (wn rfl) 0 rfl (al_f rfl) rfl rfl rfl rfl (by kernel_rfl) trivial) <|
   hk (fun cx => cx.stA (wn rfl) rfl rfl 0 0 rfl rfl rfl rfl (cx.u 1 rfl) (by kernel_rfl) (Eq.refl 5) (by simp [Value.oneCell']) f2.b.size rfl rfl trivial) <|
   kmu 0 <|
   hn) ?_
  intro a3 w3 f3
  obtain ⟨g1, u_g1, q_g1, b_g1⟩ := f3.al.1
  refine wp_seq ?_
  have s0_3 := f3.q 0 s0_1
  have s9_4 := f3.q 9 (f2.v 0 rfl rfl rfl)
  have s2_5 := f3.q 2 (f2.q 2 (f1.q 2 s2_0))
  have s1_6 := f3.q 1 s1_2
  have s3_7 := f3.q 3 (f2.q 3 (f1.q 3 s3_0))
  refine go_reg [] [⟨18, 12, 25, (fC zF), some 19, (fC (addF 32 a b))⟩] (tabs [some (.int .u64 a), some (.int .u64 4294967295), some (.int .u64 (bits .and .u64 a 4294967295)), some (.int .u64 c), some (.int .u64 4294967295), some (.int .u64 (bits .andNot .u64 c 4294967295)), some (.int .u64 (mixI a c)), some (.int .u64 b), some (.int .u64 4294967295), some (.int .u64 (bits .and .u64 b 4294967295)), some (.int .u64 d), some (.int .u64 4294967295), some (.int .u64 (bits .andNot .u64 d 4294967295)), some (.int .u64 (mixI b d)), some (.tuple #[.agg (fC (addF 32 a b)), .int .i64 (errW 32)]), some (.tuple #[.agg (fC (addF 32 a b)), .int .i64 (errW 32)]), some (.agg (fC (addF 32 a b))), some (.int .i64 (errW 32)), none, none] [some (.int .i64 (errW 32))]) mo f3.d f3.z f3.b (by kernel_rfl) trivial (
   hk (fun cx => cx.q (ex_mv rfl (cx.rq 0 s0_3))) <|
   hk (fun cx => cx.q (ex_mv rfl (cx.rq 9 s9_4))) <|
   hk (fun cx => cx.q (ex_and (x := .tmp 31) (y := .tmp 32) rfl (cx.u 0 rfl) (cx.u 1 rfl))) <|
   hk (fun cx => cx.q (ex_mv rfl (cx.rq 2 s2_5))) <|
   hk (fun cx => cx.q (ex_mv rfl (cx.rq 9 s9_4))) <|
   hk (fun cx => cx.q (ex_an (x := .tmp 34) (y := .tmp 35) rfl (cx.u 0 rfl) (cx.u 1 rfl))) <|
   hk (fun cx => cx.v (ex_or (x := .tmp 33) (y := .tmp 36) rfl (cx.u 0 rfl) (cx.u 1 rfl)) rfl (congrArg (Value.int .u64) rfl)) <|
   hk (fun cx => cx.q (ex_mv rfl (cx.rq 1 s1_6))) <|
   hk (fun cx => cx.q (ex_mv rfl (cx.rq 9 s9_4))) <|
   hk (fun cx => cx.q (ex_and (x := .tmp 38) (y := .tmp 39) rfl (cx.u 0 rfl) (cx.u 1 rfl))) <|
   hk (fun cx => cx.q (ex_mv rfl (cx.rq 3 s3_7))) <|
   hk (fun cx => cx.q (ex_mv rfl (cx.rq 9 s9_4))) <|
   hk (fun cx => cx.q (ex_an (x := .tmp 41) (y := .tmp 42) rfl (cx.u 0 rfl) (cx.u 1 rfl))) <|
   hk (fun cx => cx.v (ex_or (x := .tmp 40) (y := .tmp 43) rfl (cx.u 0 rfl) (cx.u 1 rfl)) rfl (congrArg (Value.int .u64) rfl)) <|
   hc (fun _ _ wx cx => cx.c rfl (args3 rfl (cx.u 0 rfl) (cx.u 1 rfl)) Try.func9 (by decide +kernel) (add_mix a b c d wx ha hb hcc hdd) rfl rfl) <|
   kmu 0 <|
   hk (fun cx => cx.q (ex_ext (x := .tmp 30) rfl (cx.u 0 rfl) rfl)) <|
   hk (fun cx => cx.q (ex_ext (x := .tmp 30) rfl (cx.u 0 rfl) rfl)) <|
   hk (fun cx => cx.al (wn rfl) 0 rfl (al_f rfl) rfl rfl rfl rfl (by kernel_rfl) trivial) <|
   hk (fun cx => cx.stA (wn rfl) rfl rfl 0 0 rfl rfl rfl rfl (cx.u 1 rfl) (by kernel_rfl) (Eq.refl 5) (by simp [Value.oneCell']) f3.b.size rfl rfl trivial) <|
   kmu 0 <|
   hn) ?_
  intro a4 w4 f4
  obtain ⟨g2, u_g2, q_g2, b_g2⟩ := f4.al.1
  refine wp_seq ?_
  have s0_8 := f4.q 0 s0_3
  have s1_9 := f4.q 1 s1_6
  refine go_reg [] [⟨6, 14, 25, (fC zF), some 7, (fC (subF 32 a b))⟩] [some (.int .u64 a), some (.int .u64 b), some (.tuple #[.agg (fC (subF 32 a b)), .int .i64 (errW 32)]), some (.tuple #[.agg (fC (subF 32 a b)), .int .i64 (errW 32)]), some (.agg (fC (subF 32 a b))), some (.int .i64 (errW 32)), none, none, some (.int .i64 (errW 32))] mo f4.d f4.z f4.b (by kernel_rfl) trivial (
   hk (fun cx => cx.q (ex_mv rfl (cx.rq 0 s0_8))) <|
   hk (fun cx => cx.q (ex_mv rfl (cx.rq 1 s1_9))) <|
   hc (fun _ _ wx cx => cx.c rfl (args3 rfl (cx.u 0 rfl) (cx.u 1 rfl)) Try.func11 (by decide +kernel) (sub_n 32 a b wx ha hb) rfl rfl) <|
   kmu 0 <|
   hk (fun cx => cx.q (ex_ext (x := .tmp 48) rfl (cx.u 0 rfl) rfl)) <|
   hk (fun cx => cx.q (ex_ext (x := .tmp 48) rfl (cx.u 0 rfl) rfl)) <|
   hk (fun cx => cx.al (wn rfl) 0 rfl (al_f rfl) rfl rfl rfl rfl (by kernel_rfl) trivial) <|
   hk (fun cx => cx.stA (wn rfl) rfl rfl 0 0 rfl rfl rfl rfl (cx.u 1 rfl) (by kernel_rfl) (Eq.refl 5) (by simp [Value.oneCell']) f4.b.size rfl rfl trivial) <|
   kmu 0 <|
   hn) ?_
  intro a5 w5 f5
  obtain ⟨g3, u_g3, q_g3, b_g3⟩ := f5.al.1
  refine wp_seq ?_
  have s0_10 := f5.q 0 s0_8
  have s9_11 := f5.q 9 (f4.q 9 s9_4)
  have s2_12 := f5.q 2 (f4.q 2 s2_5)
  have s1_13 := f5.q 1 s1_9
  have s3_14 := f5.q 3 (f4.q 3 s3_7)
  refine go_reg [] [⟨18, 16, 25, (fC zF), some 19, (fC (subF 32 a b))⟩] (tabs [some (.int .u64 a), some (.int .u64 4294967295), some (.int .u64 (bits .and .u64 a 4294967295)), some (.int .u64 c), some (.int .u64 4294967295), some (.int .u64 (bits .andNot .u64 c 4294967295)), some (.int .u64 (mixI a c)), some (.int .u64 b), some (.int .u64 4294967295), some (.int .u64 (bits .and .u64 b 4294967295)), some (.int .u64 d), some (.int .u64 4294967295), some (.int .u64 (bits .andNot .u64 d 4294967295)), some (.int .u64 (mixI b d)), some (.tuple #[.agg (fC (subF 32 a b)), .int .i64 (errW 32)]), some (.tuple #[.agg (fC (subF 32 a b)), .int .i64 (errW 32)]), some (.agg (fC (subF 32 a b))), some (.int .i64 (errW 32)), none, none] [some (.int .i64 (errW 32))]) mo f5.d f5.z f5.b (by kernel_rfl) trivial (
   hk (fun cx => cx.q (ex_mv rfl (cx.rq 0 s0_10))) <|
   hk (fun cx => cx.q (ex_mv rfl (cx.rq 9 s9_11))) <|
   hk (fun cx => cx.q (ex_and (x := .tmp 55) (y := .tmp 56) rfl (cx.u 0 rfl) (cx.u 1 rfl))) <|
   hk (fun cx => cx.q (ex_mv rfl (cx.rq 2 s2_12))) <|
   hk (fun cx => cx.q (ex_mv rfl (cx.rq 9 s9_11))) <|
   hk (fun cx => cx.q (ex_an (x := .tmp 58) (y := .tmp 59) rfl (cx.u 0 rfl) (cx.u 1 rfl))) <|
   hk (fun cx => cx.v (ex_or (x := .tmp 57) (y := .tmp 60) rfl (cx.u 0 rfl) (cx.u 1 rfl)) rfl (congrArg (Value.int .u64) rfl)) <|
   hk (fun cx => cx.q (ex_mv rfl (cx.rq 1 s1_13))) <|
   hk (fun cx => cx.q (ex_mv rfl (cx.rq 9 s9_11))) <|
   hk (fun cx => cx.q (ex_and (x := .tmp 62) (y := .tmp 63) rfl (cx.u 0 rfl) (cx.u 1 rfl))) <|
   hk (fun cx => cx.q (ex_mv rfl (cx.rq 3 s3_14))) <|
   hk (fun cx => cx.q (ex_mv rfl (cx.rq 9 s9_11))) <|
   hk (fun cx => cx.q (ex_an (x := .tmp 65) (y := .tmp 66) rfl (cx.u 0 rfl) (cx.u 1 rfl))) <|
   hk (fun cx => cx.v (ex_or (x := .tmp 64) (y := .tmp 67) rfl (cx.u 0 rfl) (cx.u 1 rfl)) rfl (congrArg (Value.int .u64) rfl)) <|
   hc (fun _ _ wx cx => cx.c rfl (args3 rfl (cx.u 0 rfl) (cx.u 1 rfl)) Try.func11 (by decide +kernel) (sub_mix a b c d wx ha hb hcc hdd) rfl rfl) <|
   kmu 0 <|
   hk (fun cx => cx.q (ex_ext (x := .tmp 54) rfl (cx.u 0 rfl) rfl)) <|
   hk (fun cx => cx.q (ex_ext (x := .tmp 54) rfl (cx.u 0 rfl) rfl)) <|
   hk (fun cx => cx.al (wn rfl) 0 rfl (al_f rfl) rfl rfl rfl rfl (by kernel_rfl) trivial) <|
   hk (fun cx => cx.stA (wn rfl) rfl rfl 0 0 rfl rfl rfl rfl (cx.u 1 rfl) (by kernel_rfl) (Eq.refl 5) (by simp [Value.oneCell']) f5.b.size rfl rfl trivial) <|
   kmu 0 <|
   hn) ?_
  intro a6 w6 f6
  obtain ⟨g4, u_g4, q_g4, b_g4⟩ := f6.al.1
  refine wp_seq ?_
  have s0_15 := f6.q 0 s0_10
  have s1_16 := f6.q 1 s1_13
  refine go_reg [] [⟨6, 18, 25, (fC zF), some 7, (fC (addF 64 a b))⟩] [some (.int .u64 a), some (.int .u64 b), some (.tuple #[.agg (fC (addF 64 a b)), .int .i64 (errW 64)]), some (.tuple #[.agg (fC (addF 64 a b)), .int .i64 (errW 64)]), some (.agg (fC (addF 64 a b))), some (.int .i64 (errW 64)), none, none, some (.int .i64 (errW 64))] mo f6.d f6.z f6.b (by kernel_rfl) trivial (
   hk (fun cx => cx.q (ex_mv rfl (cx.rq 0 s0_15))) <|
   hk (fun cx => cx.q (ex_mv rfl (cx.rq 1 s1_16))) <|
   hc (fun _ _ wx cx => cx.c rfl (args3 rfl (cx.u 0 rfl) (cx.u 1 rfl)) Try.func9 (by decide +kernel) (add_n 64 a b wx ha hb) rfl rfl) <|
   kmu 0 <|
   hk (fun cx => cx.q (ex_ext (x := .tmp 72) rfl (cx.u 0 rfl) rfl)) <|
   hk (fun cx => cx.q (ex_ext (x := .tmp 72) rfl (cx.u 0 rfl) rfl)) <|
   hk (fun cx => cx.al (wn rfl) 0 rfl (al_f rfl) rfl rfl rfl rfl (by kernel_rfl) trivial) <|
   hk (fun cx => cx.stA (wn rfl) rfl rfl 0 0 rfl rfl rfl rfl (cx.u 1 rfl) (by kernel_rfl) (Eq.refl 5) (by simp [Value.oneCell']) f6.b.size rfl rfl trivial) <|
   kmu 0 <|
   hn) ?_
  intro a7 w7 f7
  obtain ⟨g5, u_g5, q_g5, b_g5⟩ := f7.al.1
  refine wp_seq ?_
  have s1_17 := f7.q 1 s1_16
  have s0_18 := f7.q 0 s0_15
  refine go_reg [] [⟨6, 20, 25, (fC zF), some 7, (fC (addF 64 b a))⟩] [some (.int .u64 b), some (.int .u64 a), some (.tuple #[.agg (fC (addF 64 b a)), .int .i64 (errW 64)]), some (.tuple #[.agg (fC (addF 64 b a)), .int .i64 (errW 64)]), some (.agg (fC (addF 64 b a))), some (.int .i64 (errW 64)), none, none, some (.int .i64 (errW 64))] mo f7.d f7.z f7.b (by kernel_rfl) trivial (
   hk (fun cx => cx.q (ex_mv rfl (cx.rq 1 s1_17))) <|
   hk (fun cx => cx.q (ex_mv rfl (cx.rq 0 s0_18))) <|
   hc (fun _ _ wx cx => cx.c rfl (args3 rfl (cx.u 0 rfl) (cx.u 1 rfl)) Try.func9 (by decide +kernel) (add_n 64 b a wx hb ha) rfl rfl) <|
   kmu 0 <|
   hk (fun cx => cx.q (ex_ext (x := .tmp 78) rfl (cx.u 0 rfl) rfl)) <|
   hk (fun cx => cx.q (ex_ext (x := .tmp 78) rfl (cx.u 0 rfl) rfl)) <|
   hk (fun cx => cx.al (wn rfl) 0 rfl (al_f rfl) rfl rfl rfl rfl (by kernel_rfl) trivial) <|
   hk (fun cx => cx.stA (wn rfl) rfl rfl 0 0 rfl rfl rfl rfl (cx.u 1 rfl) (by kernel_rfl) (Eq.refl 5) (by simp [Value.oneCell']) f7.b.size rfl rfl trivial) <|
   kmu 0 <|
   hn) ?_
  intro a8 w8 f8
  obtain ⟨g6, u_g6, q_g6, b_g6⟩ := f8.al.1
  refine wp_seq ?_
  have s0_19 := f8.q 0 s0_18
  refine go_reg [] [⟨6, 22, 25, (fC zF), some 7, (fC (subF 64 a a))⟩] [some (.int .u64 a), some (.int .u64 a), some (.tuple #[.agg (fC (subF 64 a a)), .int .i64 (errW 64)]), some (.tuple #[.agg (fC (subF 64 a a)), .int .i64 (errW 64)]), some (.agg (fC (subF 64 a a))), some (.int .i64 (errW 64)), none, none, some (.int .i64 (errW 64))] mo f8.d f8.z f8.b (by kernel_rfl) trivial (
   hk (fun cx => cx.q (ex_mv rfl (cx.rq 0 s0_19))) <|
   hk (fun cx => cx.q (ex_mv rfl (cx.rq 0 s0_19))) <|
   hc (fun _ _ wx cx => cx.c rfl (args3 rfl (cx.u 0 rfl) (cx.u 1 rfl)) Try.func11 (by decide +kernel) (sub_n 64 a a wx ha ha) rfl rfl) <|
   kmu 0 <|
   hk (fun cx => cx.q (ex_ext (x := .tmp 84) rfl (cx.u 0 rfl) rfl)) <|
   hk (fun cx => cx.q (ex_ext (x := .tmp 84) rfl (cx.u 0 rfl) rfl)) <|
   hk (fun cx => cx.al (wn rfl) 0 rfl (al_f rfl) rfl rfl rfl rfl (by kernel_rfl) trivial) <|
   hk (fun cx => cx.stA (wn rfl) rfl rfl 0 0 rfl rfl rfl rfl (cx.u 1 rfl) (by kernel_rfl) (Eq.refl 5) (by simp [Value.oneCell']) f8.b.size rfl rfl trivial) <|
   kmu 0 <|
   hn) ?_
  intro a9 w9 f9
  obtain ⟨g7, u_g7, q_g7, b_g7⟩ := f9.al.1
  refine wp_seq ?_
  refine wp_seq ?_
  have s11_20 := f9.q 11 (f8.q 11 (f7.q 11 (f6.q 11 (f5.q 11 (f4.q 11 (f3.v 8 rfl rfl rfl))))))
  have s13_21 := f9.q 13 (f8.q 13 (f7.q 13 (f6.q 13 (f5.q 13 (f4.v 20 rfl rfl rfl)))))
  have s15_22 := f9.q 15 (f8.q 15 (f7.q 15 (f6.q 15 (f5.v 8 rfl rfl rfl))))
  have s17_23 := f9.q 17 (f8.q 17 (f7.q 17 (f6.v 20 rfl rfl rfl)))
  have s19_24 := f9.q 19 (f8.q 19 (f7.v 8 rfl rfl rfl))
  have s21_25 := f9.q 21 (f8.v 8 rfl rfl rfl)
  refine go_reg [] [] (tabs [some (.int .i64 (errW 32)), oF, oF, some (.int .i64 (errW 32)), oF, oF, oF, some (.int .i64 (errW 32)), oF, oF, oF, some (.int .i64 (errW 32)), oF, oF, oF, some (.int .i64 (errW 64)), oF, oF, oF, some (.int .i64 (errW 64))] [oF, oF, oF, some (.int .i64 (errW 64)), oF, oF]) mo f9.d f9.z f9.b (by kernel_rfl) trivial (
   hk (fun cx => cx.q (ex_mv rfl (cx.rq 11 s11_20))) <|
   hk (fun cx => cx.v (ex_ne (x := .tmp 90) rfl (cx.u 0 rfl) rfl) rfl (congrArg Value.bool (by decide +kernel))) <|
   kmu 0 <|
   hk (fun cx => cx.vy 0 (ex_mv rfl (cx.rq 13 s13_21))) <|
   hk (fun cx => cx.vy 1 (ex_ne (x := .tmp 93) rfl (cx.u 0 rfl) rfl) (congrArg Value.bool (by decide +kernel))) <|
   hk (fun cx => cx.q (ex_pf rfl (cx.u 0 rfl) (cx.u 1 rfl))) <|
   kmu 0 <|
   hk (fun cx => cx.vy 0 (ex_mv rfl (cx.rq 15 s15_22))) <|
   hk (fun cx => cx.vy 1 (ex_ne (x := .tmp 97) rfl (cx.u 0 rfl) rfl) (congrArg Value.bool (by decide +kernel))) <|
   hk (fun cx => cx.q (ex_pf rfl (cx.u 0 rfl) (cx.u 1 rfl))) <|
   kmu 0 <|
   hk (fun cx => cx.vy 0 (ex_mv rfl (cx.rq 17 s17_23))) <|
   hk (fun cx => cx.vy 1 (ex_ne (x := .tmp 101) rfl (cx.u 0 rfl) rfl) (congrArg Value.bool (by decide +kernel))) <|
   hk (fun cx => cx.q (ex_pf rfl (cx.u 0 rfl) (cx.u 1 rfl))) <|
   kmu 0 <|
   hk (fun cx => cx.vy 0 (ex_mv rfl (cx.rq 19 s19_24))) <|
   hk (fun cx => cx.vy 1 (ex_ne (x := .tmp 105) rfl (cx.u 0 rfl) rfl) (congrArg Value.bool (by decide +kernel))) <|
   hk (fun cx => cx.q (ex_pf rfl (cx.u 0 rfl) (cx.u 1 rfl))) <|
   kmu 0 <|
   hk (fun cx => cx.vy 0 (ex_mv rfl (cx.rq 21 s21_25))) <|
   hk (fun cx => cx.vy 1 (ex_ne (x := .tmp 109) rfl (cx.u 0 rfl) rfl) (congrArg Value.bool (by decide +kernel))) <|
   hk (fun cx => cx.q (ex_pf rfl (cx.u 0 rfl) (cx.u 1 rfl))) <|
   kmu 0 <|
   hk (fun cx => cx.vy 0 (ex_mv rfl (cx.rq 23 (f9.v 8 rfl rfl rfl)))) <|
   hk (fun cx => cx.vy 1 (ex_ne (x := .tmp 113) rfl (cx.u 0 rfl) rfl) (congrArg Value.bool (by decide +kernel))) <|
   hk (fun cx => cx.q (ex_pf rfl (cx.u 0 rfl) (cx.u 1 rfl))) <|
   hn) ?_
  intro a10 w10 f10
  refine wp_cond_false (f10.v 25 rfl rfl rfl) ?_
  refine wp_skip ?_
  refine wp_seq ?_
  have b_g1_26 := f10.k (f9.k (f8.k (f7.k (f6.k (f5.k (f4.k b_g1))))))
  have b_g2_27 := f10.k (f9.k (f8.k (f7.k (f6.k (f5.k b_g2)))))
  have b_g3_28 := f10.k (f9.k (f8.k (f7.k (f6.k b_g3))))
  have b_g4_29 := f10.k (f9.k (f8.k (f7.k b_g4)))
  have b_g5_30 := f10.k (f9.k (f8.k b_g5))
  have b_g6_31 := f10.k (f9.k b_g6)
  have b_g7_32 := f10.k b_g7
  have s10_33 := f10.q 10 (f9.q 10 (f8.q 10 (f7.q 10 (f6.q 10 (f5.q 10 (f4.q 10 u_g1))))))
  have s12_34 := f10.q 12 (f9.q 12 (f8.q 12 (f7.q 12 (f6.q 12 (f5.q 12 u_g2)))))
  have s14_35 := f10.q 14 (f9.q 14 (f8.q 14 (f7.q 14 (f6.q 14 u_g3))))
  have s16_36 := f10.q 16 (f9.q 16 (f8.q 16 (f7.q 16 u_g4)))
  have s18_37 := f10.q 18 (f9.q 18 (f8.q 18 u_g5))
  have s20_38 := f10.q 20 (f9.q 20 u_g6)
  have s22_39 := f10.q 22 u_g7
  refine go_reg [bx g1 25 (fC (addF 32 a b)), bx g2 25 (fC (addF 32 a b)), bx g3 25 (fC (subF 32 a b)), bx g4 25 (fC (subF 32 a b)), bx g5 25 (fC (addF 64 a b)), bx g6 25 (fC (addF 64 b a)), bx g7 25 (fC (subF 64 a a))] [] (tabs [some (.agg (fC (addF 32 a b))), some (.agg (fC (addF 32 a b))), oT, oT, some (.agg (fC (subF 32 a b))), some (.agg (fC (subF 32 a b))), oT, oT, oT, some (.agg (fC (addF 64 a b))), some (.agg (fC (addF 64 b a))), oT, oT, oT, some (.agg (fC (subF 64 a a))), some (.agg (fC ⟨true, false, true, false, false⟩)), oT, oT, oT, oT] [oT, oT]) mo f10.d f10.z f10.b (by kernel_rfl) ⟨b_g1_26, b_g2_27, b_g3_28, b_g4_29, b_g5_30, b_g6_31, b_g7_32, trivial⟩ (
   hk (fun cx => cx.q (ldF rfl (cx.rq 10 s10_33) (cx.rn 0 rfl))) <|
   hk (fun cx => cx.q (ldF rfl (cx.rq 12 s12_34) (cx.rn 1 rfl))) <|
   hk (fun cx => cx.q (exec_eql (x := .tmp 116) (y := .tmp 117) rfl (cx.u 0 rfl) (cx.u 1 rfl) (by kernel_rfl) (eq_f_self (addF 32 a b) _))) <|
   kmu 0 <|
   hk (fun cx => cx.vy 0 (ldF rfl (cx.rq 14 s14_35) (cx.rn 2 rfl))) <|
   hk (fun cx => cx.vy 0 (ldF rfl (cx.rq 16 s16_36) (cx.rn 3 rfl))) <|
   hk (fun cx => cx.vy 2 (exec_eql (x := .tmp 120) (y := .tmp 121) rfl (cx.u 0 rfl) (cx.u 1 rfl) (by kernel_rfl) (eq_f_self (subF 32 a b) _))) <|
   hk (fun cx => cx.q (ex_pt rfl (cx.u 0 rfl) (cx.u 1 rfl))) <|
   kmu 0 <|
   hk (fun cx => cx.vy 0 (ldF rfl (cx.rq 18 s18_37) (cx.rn 4 rfl))) <|
   hk (fun cx => cx.vy 0 (ldF rfl (cx.rq 20 s20_38) (cx.rn 5 rfl))) <|
   hk (fun cx => cx.vy (v := .bool (eqF (addF 64 a b) (addF 64 b a))) 2 (exec_eql (x := .tmp 125) (y := .tmp 126) rfl (cx.u 0 rfl) (cx.u 1 rfl) (by kernel_rfl) (eq_f (addF 64 a b) (addF 64 b a) _)) (congrArg Value.bool (addF_swap ha hb))) <|
   hk (fun cx => cx.q (ex_pt rfl (cx.u 0 rfl) (cx.u 1 rfl))) <|
   kmu 0 <|
   hk (fun cx => cx.vy 0 (ldF rfl (cx.rq 22 s22_39) (cx.rn 6 rfl))) <|
   hk (fun cx => cx.vy 0 (exec_build rfl (parts2 rfl rfl) (by kernel_rfl))) <|
   hk (fun cx => cx.vy (v := .bool (eqF (subF 64 a a) ⟨true, false, true, false, false⟩)) 2 (exec_eql (x := .tmp 130) (y := .tmp 131) rfl (cx.u 0 rfl) (cx.u 1 rfl) (by kernel_rfl) (eq_f (subF 64 a a) ⟨true, false, true, false, false⟩ _)) (congrArg Value.bool (subF_self a))) <|
   hk (fun cx => cx.q (ex_pt rfl (cx.u 0 rfl) (cx.u 1 rfl))) <|
   kmu 0 <|
   hc (fun _ _ wx cx => cx.call (cx.wy rfl rfl rfl rfl (cx.u 0 rfl)) rfl rfl (args0 ) Try.func17 (by decide +kernel) rfl (wakes_n wx) rfl rfl rfl rfl) <|
   hk (fun cx => cx.q (ex_pt rfl (cx.u 0 rfl) (cx.u 1 rfl))) <|
   kmu 0 <|
   hn) ?_
  intro a11 w11 f11
  refine wp_ret ?_
  try simp only [Exit.inBlock, Exit.then]
  refine bodyPost_ret (res_t (fn := Try.f6) rfl (f11.v 21 rfl rfl rfl)) f11.d ?_
  exact ⟨rfl, f11.b⟩

theorem cut_law (a b c d : Int) (W : World) (ha : (Lit.int .u64 a).wf = true) (hb : (Lit.int .u64 b).wf = true) (hc : (Lit.int .u64 c).wf = true) (hd : (Lit.int .u64 d).wf = true) : Calls Try.prog 6 #[.int .u64 a, .int .u64 b, .int .u64 c, .int .u64 d] W fun e w' => e = .returned (.bool true) ∧ Below W.heap.size W w' :=
  cut_n a b c d W (bd_u64 ha) (bd_u64 hb) (bd_u64 hc) (bd_u64 hd)
end Go.Proofs.Ytllnengcmfgmhaa.Flg
