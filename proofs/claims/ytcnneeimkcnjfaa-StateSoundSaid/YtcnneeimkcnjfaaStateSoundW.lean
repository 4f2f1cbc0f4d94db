/-
  StateSound: joins and widenings hold what either does; loads and stores of the frame hold. (Written by gen_statesoundw.py.)
-/
import Derived.Test.YtcnneeimkcnjfaaStW
import Derived.Test.YtcnneeimkcnjfaaStT
import Derived.Test.YtcnneeimkcnjfaaStF
namespace Go.Proofs.Ytcnneeimkcnjfaa.Sta
open Go.RowKit Bnd Knw
set_option linter.unusedVariables false
set_option linter.unusedSimpArgs false
set_option linter.unnecessarySimpa false
set_option maxRecDepth 100000
theorem faStateSoundW39_2_0 (g : Nat) (w : World) : (Instr.fieldAt 39 (.pointer (some ⟨g, 0, none⟩)) 2).run Try.prog w = .ok (.pointer (some ⟨g, 12, none⟩)) w := by simp [go_sem]
theorem load_ok {S : St} {lo hi size : Int} (h : ((loadE S lo hi size) != 0) = false) : placeB S lo hi size = true := by
  unfold loadE at h
  split at h
  · assumption
  · cases h
theorem store_ok {S : St} {lo hi size : Int} {t : Ty} (h : ((storeE S lo hi size t) != 0) = false) : storeB S lo hi size t = true := by
  unfold storeE at h
  split at h
  · assumption
  · cases h
theorem z_tok : tZ.Ok := pt_ok (by decide) (by decide) (by decide) (by decide) (by decide) (by decide)
theorem bytesC_ok (n : Int) : (bytesC n).Ok := nar_ok (s := ⟨_, _⟩) allR_ok
theorem loadR_ok {S : St} {lo hi size : Int} (h : OkS S) : (loadR S lo hi size).Ok := by
  unfold loadR
  split
  · rename_i hp
    unfold loadT
    split
    · rename_i he
      have := exact_bd he
      have := place_bd hp
      exact h _ (by omega)
    · exact sct_ok (bytesC_ok _)
  · exact z_tok
theorem zS_ok : OkS zS := fun i hi => z_tok
theorem storeR_ok {S : St} {lo hi size : Int} {t : Ty} (h : OkS S) (ht : t.Ok) : OkS (storeR S lo hi size t) := by
  unfold storeR
  split
  · unfold storeS
    split
    · exact upS_ok h ht _
    · intro i hi
      unfold fillS
      split
      · exact allT_ok
      · exact h i hi
  · exact zS_ok
theorem join1_ok {a b : Ty} (ha : a.Ok) (hb : b.Ok) : (jT a b).Ok := by
  unfold jT arnd
  split
  · exact z_tok
  split
  · exact allT_ok
  split
  · exact sct_ok (join_ok ha.2.1 hb.2.1)
  · obtain ⟨k, _, l, h⟩ := ha; obtain ⟨_, _, l2, h2⟩ := hb
    unfold Bnd.inS at l h l2 h2
    exact ⟨k, z_ok, show -9223372036854775808 ≤ min a.lo b.lo ∧ min a.lo b.lo < 9223372036854775808 by omega, show -9223372036854775808 ≤ max a.hi b.hi ∧ max a.hi b.hi < 9223372036854775808 by omega⟩
theorem widen1_ok {a b : Ty} (ha : a.Ok) (hb : b.Ok) : (wT a b).Ok := by
  unfold wT arnd
  split
  · exact z_tok
  split
  · exact allT_ok
  split
  · exact sct_ok (widen_ok ha.2.1 hb.2.1)
  · obtain ⟨k, _, l, h⟩ := ha
    refine ⟨k, z_ok, ?_, ?_⟩
    · show Bnd.inS (bif decide (b.lo < a.lo) then -1048576 else a.lo)
      cases decide (b.lo < a.lo)
      · exact l
      · show Bnd.inS (-1048576)
        exact ⟨by decide, by decide⟩
    · show Bnd.inS (bif decide (a.hi < b.hi) then 1048576 else a.hi)
      cases decide (a.hi < b.hi)
      · exact h
      · show Bnd.inS 1048576
        exact ⟨by decide, by decide⟩
theorem both_ok {f : Ty → Ty → Ty} (hf : ∀ {x y : Ty}, x.Ok → y.Ok → (f x y).Ok) {a b : St} (ha : OkS a) (hb : OkS b) : OkS (bothR f a b) := by
  unfold bothR
  split
  · exact fun i hi => hf (ha i hi) (hb i hi)
  · exact zS_ok
theorem mod_m (n : Int) {m : Int} (h : 0 < m) : Int.tmod (Int.tmod n m + m) m = n % m := by
  have p := Int.emod_nonneg n (show m ≠ 0 by omega)
  have q := Int.emod_lt_of_pos n h
  rcases Int.lt_or_le n 0 with c | c
  · obtain ⟨k, rfl⟩ : ∃ k : Int, n = -k := ⟨-n, by omega⟩
    have p1 := Int.emod_nonneg k (show m ≠ 0 by omega)
    have q1 := Int.emod_lt_of_pos k h
    rw [Int.neg_tmod, Int.tmod_eq_emod_of_nonneg (by omega : 0 ≤ k), Int.tmod_eq_emod_of_nonneg (by omega), Int.add_emod_right]
    have e : -k = -(k % m) + m * (-(k / m)) := by rw [Int.emod_def, Int.mul_neg]; omega
    conv => rhs; rw [e]
    rw [Int.add_mul_emod_self_left]
  · have p1 := Int.emod_nonneg n (show m ≠ 0 by omega)
    rw [Int.tmod_eq_emod_of_nonneg c, Int.tmod_eq_emod_of_nonneg (by omega), Int.add_emod_right, Int.emod_emod]
theorem tmod_bd (n : Int) {m : Int} (h : 0 < m) : -m < Int.tmod n m ∧ Int.tmod n m < m := ⟨Int.lt_tmod_of_pos n h, Int.tmod_lt_of_pos n h⟩
theorem ex_remg {ρ : Operand → Value} {o : Oper} {w : World} {t z : TypeId} {x y : Operand} (ho : o.op = .binOp .rem t x y z) {a b : Int} (hx : ρ x = .int .i64 a) (hy : ρ y = .int .i64 b) (hb : 0 < b) (hl : b < 9223372036854775808) : (execOp ρ o).run Try.prog w = .ok (.value (.int .i64 (Int.tmod a b))) w := by
  have e1 : ¬ b = 0 := by omega
  have e := tmod_bd a hb
  simp [execOp, ho, hx, hy, go_sem, e1]
  try (first | omega | (rw [IntKind.wrap_i64]; omega) | (rw [wrap64]; omega))
theorem and_255V (x : Int) (h0 : 0 ≤ x) (h1 : x < 18446744073709551616) : bits .and .u64 x 255 = x % 256 := by
  rw [u64_and _ _ h0 h1 (by decide) (by decide)]
  have := Nat.and_two_pow_sub_one_eq_mod x.toNat 8
  rw [show (255 : Int).toNat = 2 ^ 8 - 1 from rfl, this]; omega
theorem sh_bd (v : B) (k : Nat) : 0 ≤ V v / 2 ^ k ∧ V v / 2 ^ k < 18446744073709551616 := by
  have p : (0 : Int) < 2 ^ k := Int.pow_pos (by decide)
  have a := Int.ediv_nonneg (V_nn v) (show (0 : Int) ≤ 2 ^ k by omega)
  have b := Int.ediv_le_self (2 ^ k) (V_nn v)
  have c := V_lt v
  omega
theorem put_step (x : Snp) (q k : Nat) (v : B) : upF (x.put q k v) (q + k) (byB v k) = x.put q (k + 1) v := by
  unfold upF Snp.put
  congr 1
  funext i
  by_cases e : i = q + k
  · subst e
    rw [if_pos rfl, if_pos (by omega), show q + k - q = k by omega]
  · rw [if_neg e]
    show (if q ≤ i ∧ i < q + k then byB v (i - q) else x.f i) = _
    by_cases c : q ≤ i ∧ i < q + k
    · rw [if_pos c, if_pos (by omega)]
    · rw [if_neg c, if_neg (by omega)]
set_option maxHeartbeats 4000000 in
theorem sound_law0 (a b : St) (x : Snp) (lo hi p size : Int) (v : B) (t : Ty) (W : World) (ha : OkS a) (hb : OkS b) (hx : x.Ok) (ht : t.Ok) : Calls Try.prog 5 #[.agg (stC a), .agg (stC b), .agg (snC x), .int .i64 lo, .int .i64 hi, .int .i64 p, .int .i64 size, .int .u64 (V v), .agg (tyC t)] W fun e w' => e = .returned (.bool true) ∧ Below W.heap.size W w' := by
  have HA := Lib.hid ha
  have HB := Lib.hid hb
  have HX := Lib.hid hx
  have HT := Lib.hid ht
  clear ha hb hx ht
  refine calls_abs Try.func5 rfl (Nat.le_of_ble_eq_true rfl) ?_
  intro a0 d0 z0 h0
  replace z0 : a0.tmps.size = 223 := z0
  have s0_0 : a0.tmps.getD 0 undef = .agg (stC a) := h0 0 (Nat.le_of_ble_eq_true rfl)
  have s1_0 : a0.tmps.getD 1 undef = .agg (stC b) := h0 1 (Nat.le_of_ble_eq_true rfl)
  have s2_0 : a0.tmps.getD 2 undef = .agg (snC x) := h0 2 (Nat.le_of_ble_eq_true rfl)
  have s3_0 : a0.tmps.getD 3 undef = .int .i64 lo := h0 3 (Nat.le_of_ble_eq_true rfl)
  have s4_0 : a0.tmps.getD 4 undef = .int .i64 hi := h0 4 (Nat.le_of_ble_eq_true rfl)
  have s5_0 : a0.tmps.getD 5 undef = .int .i64 p := h0 5 (Nat.le_of_ble_eq_true rfl)
  have s6_0 : a0.tmps.getD 6 undef = .int .i64 size := h0 6 (Nat.le_of_ble_eq_true rfl)
  have s7_0 : a0.tmps.getD 7 undef = .int .u64 (V v) := h0 7 (Nat.le_of_ble_eq_true rfl)
  have s8_0 : a0.tmps.getD 8 undef = .agg (tyC t) := h0 8 (Nat.le_of_ble_eq_true rfl)
  refine wp_seq ?_
  refine go_reg [] [⟨0, 9, 35, (stC a), none, #[]⟩, ⟨1, 10, 35, (stC b), none, #[]⟩, ⟨2, 11, 39, (snC x), none, #[]⟩, ⟨3, 17, 31, (tyC t), none, #[]⟩] [none, none, none, none, some (.bool false)] mo d0 z0 (Below.refl _ _) (by kernel_rfl) trivial (
   hk (fun cx => cx.al (wn rfl) 0 rfl (ex_box rfl (cx.rq 0 s0_0) rfl) rfl rfl rfl rfl rfl trivial) <|
   hk (fun cx => cx.al (wn rfl) 1 rfl (ex_box rfl (cx.rq 1 s1_0) rfl) rfl rfl rfl rfl rfl trivial) <|
   hk (fun cx => cx.al (wn rfl) 2 rfl (ex_box rfl (cx.rq 2 s2_0) rfl) rfl rfl rfl rfl rfl trivial) <|
   hk (fun cx => cx.al (wn rfl) 3 rfl (ex_box rfl (cx.rq 8 s8_0) rfl) rfl rfl rfl rfl rfl trivial) <|
   hk (fun cx => cx.v (ex_as rfl rfl) rfl rfl) <|
   hn) ?_
  intro a1 w1 f1
  obtain ⟨g1, u_g1, q_g1, b_g1⟩ := f1.al.1
  obtain ⟨g2, u_g2, q_g2, b_g2⟩ := f1.al.2.1
  obtain ⟨g3, u_g3, q_g3, b_g3⟩ := f1.al.2.2.1
  obtain ⟨g4, u_g4, q_g4, b_g4⟩ := f1.al.2.2.2.1
  refine wp_seq ?_
  refine wp_seq ?_
  cases fk1 : okS a
  case false =>
   have Ffk1 := Lib.hid fk1; clear fk1
   refine go_reg [bx g1 35 (stC a)] [] [some (.agg (stC a)), some (.bool false), some (.bool true), some (.bool true), some (undef), some (undef), some (undef), some (.bool true)] mo f1.d f1.z f1.b (by kernel_rfl) ⟨b_g1, trivial⟩ (
    hk (fun cx => cx.v (ldSt rfl (cx.rq 9 u_g1) (cx.rn 0 rfl)) rfl rfl) <|
    hc (fun _ _ wx cx => cx.c rfl (args1 (cx.u 0 rfl)) Try.func15 (by decide +kernel) (tmay_n a wx) rfl (congrArg Value.bool Ffk1.out)) <|
    hk (fun cx => cx.v (ex_not (x := .tmp 32) rfl (cx.u 0 rfl)) rfl rfl) <|
    hk (fun cx => cx.v (ex_mv rfl (cx.u 0 rfl)) rfl rfl) <|
    hk (fun cx => cx.no (cx.wo rfl rfl rfl rfl (cx.u 0 rfl) rfl) rfl rfl rfl rfl) <|
    hk (fun cx => cx.no (cx.wo rfl rfl rfl rfl (cx.u 1 rfl) rfl) rfl rfl rfl rfl) <|
    hk (fun cx => cx.no (cx.wo rfl rfl rfl rfl (cx.u 1 rfl) rfl) rfl rfl rfl rfl) <|
    hk (fun cx => cx.v (ex_pt rfl (cx.u 0 rfl) rfl) rfl rfl) <|
    hn) ?_
   intro a2 w2 f2
   refine wp_cond_true (f2.v 7 rfl rfl rfl) ?_
   refine wp_seq ?_
   refine go_reg [] [] [some (.bool true), some (.bool true)] mo f2.d f2.z f2.b (by kernel_rfl) trivial (
    hc (fun _ _ wx cx => cx.c rfl (args0 ) Try.func23 (by decide +kernel) (wakes_n wx) rfl rfl) <|
    hk (fun cx => cx.v (ex_as rfl (cx.u 0 rfl)) rfl rfl) <|
    hn) ?_
   intro a3 w3 f3
   refine wp_ret ?_
   try simp only [Exit.inBlock, Exit.then]
   refine bodyPost_ret (res_t (fn := Try.f5) rfl (f3.v 1 rfl rfl rfl)) f3.d ?_
   exact ⟨rfl, f3.b⟩
  have Ffk1 := Lib.hid fk1; clear fk1
  have hoa := Ffk1.out
  cases fk2 : okS b
  case false =>
   have Ffk2 := Lib.hid fk2; clear fk2
   refine go_reg [bx g1 35 (stC a), bx g2 35 (stC b)] [] [some (.agg (stC a)), some (.bool true), some (.bool false), some (.bool false), some (.agg (stC b)), some (.bool false), some (.bool true), some (.bool true)] mo f1.d f1.z f1.b (by kernel_rfl) ⟨b_g1, b_g2, trivial⟩ (
    hk (fun cx => cx.v (ldSt rfl (cx.rq 9 u_g1) (cx.rn 0 rfl)) rfl rfl) <|
    hc (fun _ _ wx cx => cx.c rfl (args1 (cx.u 0 rfl)) Try.func15 (by decide +kernel) (tmay_n a wx) rfl (congrArg Value.bool Ffk1.out)) <|
    hk (fun cx => cx.v (ex_not (x := .tmp 32) rfl (cx.u 0 rfl)) rfl rfl) <|
    hk (fun cx => cx.v (ex_mv rfl (cx.u 0 rfl)) rfl rfl) <|
    hk (fun cx => cx.val (cx.wy rfl rfl rfl rfl (cx.u 0 rfl)) (ldSt rfl (cx.rq 10 u_g2) (cx.rn 1 rfl)) rfl rfl rfl rfl) <|
    hc (fun _ _ wx cx => cx.call (cx.wy rfl rfl rfl rfl (cx.u 1 rfl)) rfl rfl (args1 (cx.u 0 rfl)) Try.func15 (by decide +kernel) rfl (tmay_n b wx) rfl rfl (congrArg Value.bool Ffk2.out) rfl) <|
    hk (fun cx => cx.val (cx.wy rfl rfl rfl rfl (cx.u 1 rfl)) (ex_not (x := .tmp 36) rfl (cx.u 0 rfl)) rfl rfl rfl rfl) <|
    hk (fun cx => cx.v (ex_pf rfl (cx.u 0 rfl) (cx.u 1 rfl)) rfl rfl) <|
    hn) ?_
   intro a4 w4 f4
   refine wp_cond_true (f4.v 7 rfl rfl rfl) ?_
   refine wp_seq ?_
   refine go_reg [] [] [some (.bool true), some (.bool true)] mo f4.d f4.z f4.b (by kernel_rfl) trivial (
    hc (fun _ _ wx cx => cx.c rfl (args0 ) Try.func23 (by decide +kernel) (wakes_n wx) rfl rfl) <|
    hk (fun cx => cx.v (ex_as rfl (cx.u 0 rfl)) rfl rfl) <|
    hn) ?_
   intro a5 w5 f5
   refine wp_ret ?_
   try simp only [Exit.inBlock, Exit.then]
   refine bodyPost_ret (res_t (fn := Try.f5) rfl (f5.v 1 rfl rfl rfl)) f5.d ?_
   exact ⟨rfl, f5.b⟩
  have Ffk2 := Lib.hid fk2; clear fk2
  have hob := Ffk2.out
  refine go_reg [bx g1 35 (stC a), bx g2 35 (stC b)] [] [some (.agg (stC a)), some (.bool true), some (.bool false), some (.bool false), some (.agg (stC b)), some (.bool true), some (.bool false), some (.bool false)] mo f1.d f1.z f1.b (by kernel_rfl) ⟨b_g1, b_g2, trivial⟩ (
   hk (fun cx => cx.v (ldSt rfl (cx.rq 9 u_g1) (cx.rn 0 rfl)) rfl rfl) <|
   hc (fun _ _ wx cx => cx.c rfl (args1 (cx.u 0 rfl)) Try.func15 (by decide +kernel) (tmay_n a wx) rfl (congrArg Value.bool Ffk1.out)) <|
   hk (fun cx => cx.v (ex_not (x := .tmp 32) rfl (cx.u 0 rfl)) rfl rfl) <|
   hk (fun cx => cx.v (ex_mv rfl (cx.u 0 rfl)) rfl rfl) <|
   hk (fun cx => cx.val (cx.wy rfl rfl rfl rfl (cx.u 0 rfl)) (ldSt rfl (cx.rq 10 u_g2) (cx.rn 1 rfl)) rfl rfl rfl rfl) <|
   hc (fun _ _ wx cx => cx.call (cx.wy rfl rfl rfl rfl (cx.u 1 rfl)) rfl rfl (args1 (cx.u 0 rfl)) Try.func15 (by decide +kernel) rfl (tmay_n b wx) rfl rfl (congrArg Value.bool Ffk2.out) rfl) <|
   hk (fun cx => cx.val (cx.wy rfl rfl rfl rfl (cx.u 1 rfl)) (ex_not (x := .tmp 36) rfl (cx.u 0 rfl)) rfl rfl rfl rfl) <|
   hk (fun cx => cx.v (ex_pf rfl (cx.u 0 rfl) (cx.u 1 rfl)) rfl rfl) <|
   hn) ?_
  intro a6 w6 f6
  refine wp_cond_false (f6.v 7 rfl rfl rfl) ?_
  refine wp_skip ?_
  refine wp_seq ?_
  cases fk3 : hasS a x
  case false =>
   have Ffk3 := Lib.hid fk3; clear fk3
   have b_g1_1 := f6.k b_g1
   have b_g3_2 := f6.k b_g3
   have s9_3 := f6.q 9 u_g1
   have s11_4 := f6.q 11 u_g3
   refine go_reg [bx g1 35 (stC a), bx g3 39 (snC x)] [] [some (.agg (stC a)), some (.agg (snC x)), some (.bool false), some (.bool false)] mo f6.d f6.z f6.b (by kernel_rfl) ⟨b_g1_1, b_g3_2, trivial⟩ (
    hk (fun cx => cx.v (ldSt rfl (cx.rq 9 s9_3) (cx.rn 0 rfl)) rfl rfl) <|
    hk (fun cx => cx.v (ldSn rfl (cx.rq 11 s11_4) (cx.rn 1 rfl)) rfl rfl) <|
    hc (fun _ _ wx cx => cx.c rfl (args2 (cx.u 0 rfl) (cx.u 1 rfl)) Try.func21 (by decide +kernel) (thas_n a x wx HA.out HX.out) rfl (congrArg Value.bool Ffk3.out)) <|
    hk (fun cx => cx.v (ex_as rfl (cx.u 0 rfl)) rfl rfl) <|
    hn) ?_
   intro a7 w7 f7
   refine wp_seq ?_
   have b_g1_5 := f7.k b_g1_1
   have b_g2_6 := f7.k (f6.k b_g2)
   have s9_7 := f7.q 9 s9_3
   have s10_8 := f7.q 10 (f6.q 10 u_g2)
   refine go_reg [bx g1 35 (stC a), bx g2 35 (stC b)] [⟨6, 20, 35, (stC zS), some 7, (stC (bothR jT a b))⟩] [some (.agg (stC a)), some (.agg (stC b)), some (.tuple #[.agg (stC (bothR jT a b)), .int .i64 (bothE a b)]), some (.tuple #[.agg (stC (bothR jT a b)), .int .i64 (bothE a b)]), some (.agg (stC (bothR jT a b))), some (.int .i64 (bothE a b)), none, none, some (.int .i64 (bothE a b))] mo f7.d f7.z f7.b (by kernel_rfl) ⟨b_g1_5, b_g2_6, trivial⟩ (
    hk (fun cx => cx.v (ldSt rfl (cx.rq 9 s9_7) (cx.rn 0 rfl)) rfl rfl) <|
    hk (fun cx => cx.v (ldSt rfl (cx.rq 10 s10_8) (cx.rn 1 rfl)) rfl rfl) <|
    hc (fun _ _ wx cx => cx.c rfl (args2 (cx.u 0 rfl) (cx.u 1 rfl)) Try.func24 (by decide +kernel) (tjoin_n a b wx HA.out HB.out) rfl rfl) <|
    hk (fun cx => cx.v (ex_mv rfl (cx.u 0 rfl)) rfl rfl) <|
    hk (fun cx => cx.v (ex_ext (x := .tmp 43) rfl (cx.u 0 rfl) rfl) rfl rfl) <|
    hk (fun cx => cx.v (ex_ext (x := .tmp 43) rfl (cx.u 0 rfl) rfl) rfl rfl) <|
    hk (fun cx => cx.al (wn rfl) 0 rfl (al_st rfl) rfl rfl rfl rfl (by kernel_rfl) trivial) <|
    hk (fun cx => cx.stA (wn rfl) rfl rfl 0 0 rfl rfl rfl rfl (cx.u 1 rfl) (st_info _) ((stC_size _).trans (stC_size _).symm) (stC_one _) f7.b.size rfl rfl trivial) <|
    hk (fun cx => cx.v (ex_as rfl (cx.u 0 rfl)) rfl rfl) <|
    hn) ?_
   intro a8 w8 f8
   obtain ⟨g5, u_g5, q_g5, b_g5⟩ := f8.al.1
   refine wp_seq ?_
   have b_g1_9 := f8.k b_g1_5
   have b_g2_10 := f8.k b_g2_6
   have s9_11 := f8.q 9 s9_7
   have s10_12 := f8.q 10 s10_8
   refine go_reg [bx g1 35 (stC a), bx g2 35 (stC b)] [⟨6, 22, 35, (stC zS), some 7, (stC (bothR wT a b))⟩] [some (.agg (stC a)), some (.agg (stC b)), some (.tuple #[.agg (stC (bothR wT a b)), .int .i64 (bothE a b)]), some (.tuple #[.agg (stC (bothR wT a b)), .int .i64 (bothE a b)]), some (.agg (stC (bothR wT a b))), some (.int .i64 (bothE a b)), none, none, some (.int .i64 (bothE a b))] mo f8.d f8.z f8.b (by kernel_rfl) ⟨b_g1_9, b_g2_10, trivial⟩ (
    hk (fun cx => cx.v (ldSt rfl (cx.rq 9 s9_11) (cx.rn 0 rfl)) rfl rfl) <|
    hk (fun cx => cx.v (ldSt rfl (cx.rq 10 s10_12) (cx.rn 1 rfl)) rfl rfl) <|
    hc (fun _ _ wx cx => cx.c rfl (args2 (cx.u 0 rfl) (cx.u 1 rfl)) Try.func26 (by decide +kernel) (twiden_n a b wx HA.out HB.out) rfl rfl) <|
    hk (fun cx => cx.v (ex_mv rfl (cx.u 0 rfl)) rfl rfl) <|
    hk (fun cx => cx.v (ex_ext (x := .tmp 49) rfl (cx.u 0 rfl) rfl) rfl rfl) <|
    hk (fun cx => cx.v (ex_ext (x := .tmp 49) rfl (cx.u 0 rfl) rfl) rfl rfl) <|
    hk (fun cx => cx.al (wn rfl) 0 rfl (al_st rfl) rfl rfl rfl rfl (by kernel_rfl) trivial) <|
    hk (fun cx => cx.stA (wn rfl) rfl rfl 0 0 rfl rfl rfl rfl (cx.u 1 rfl) (st_info _) ((stC_size _).trans (stC_size _).symm) (stC_one _) f8.b.size rfl rfl trivial) <|
    hk (fun cx => cx.v (ex_as rfl (cx.u 0 rfl)) rfl rfl) <|
    hn) ?_
   intro a9 w9 f9
   obtain ⟨g6, u_g6, q_g6, b_g6⟩ := f9.al.1
   refine wp_seq ?_
   refine wp_seq ?_
   have b_g5_13 := f9.k b_g5
   have s21_14 := f9.q 21 (f8.v 8 rfl rfl rfl)
   have s20_15 := f9.q 20 u_g5
   refine go_reg [bx g5 35 (stC (bothR jT a b)), bx g6 35 (stC (bothR wT a b))] [] [some (.int .i64 (bothE a b)), some (.bool false), some (.bool false), some (.int .i64 (bothE a b)), some (.bool false), some (.bool false), some (.bool false), some (.agg (stC (bothR jT a b))), some (.bool true), some (.bool false), some (.bool false), some (.bool false), some (.agg (stC (bothR wT a b))), some (.bool true), some (.bool false), some (.bool false)] mo f9.d f9.z f9.b (by kernel_rfl) ⟨b_g5_13, b_g6, trivial⟩ (
    hk (fun cx => cx.v (ex_mv rfl (cx.rq 21 s21_14)) rfl rfl) <|
    hk (fun cx => cx.v (ex_ne (x := .tmp 55) rfl (cx.u 0 rfl) rfl) rfl (congrArg Value.bool (by rw [bothE_1 hoa hob]; rfl))) <|
    hk (fun cx => cx.v (ex_mv rfl (cx.u 0 rfl)) rfl rfl) <|
    hk (fun cx => cx.val (cx.wy rfl rfl rfl rfl (cx.u 0 rfl)) (ex_mv rfl (cx.rq 23 (f9.v 8 rfl rfl rfl))) rfl rfl rfl rfl) <|
    hk (fun cx => cx.val (cx.wy rfl rfl rfl rfl (cx.u 1 rfl)) (ex_ne (x := .tmp 58) rfl (cx.u 0 rfl) rfl) rfl rfl (congrArg Value.bool (by rw [bothE_1 hoa hob]; rfl)) rfl) <|
    hk (fun cx => cx.v (ex_pf rfl (cx.u 0 rfl) (cx.u 1 rfl)) rfl rfl) <|
    hk (fun cx => cx.v (ex_mv rfl (cx.u 0 rfl)) rfl rfl) <|
    hk (fun cx => cx.val (cx.wy rfl rfl rfl rfl (cx.u 0 rfl)) (ldSt rfl (cx.rq 20 s20_15) (cx.rn 0 rfl)) rfl rfl rfl rfl) <|
    hc (fun _ _ wx cx => cx.call (cx.wy rfl rfl rfl rfl (cx.u 1 rfl)) rfl rfl (args1 (cx.u 0 rfl)) Try.func15 (by decide +kernel) rfl (tmay_n (bothR jT a b) wx) rfl rfl (congrArg Value.bool (bothS_ok jT_sound hoa hob)) rfl) <|
    hk (fun cx => cx.val (cx.wy rfl rfl rfl rfl (cx.u 1 rfl)) (ex_not (x := .tmp 63) rfl (cx.u 0 rfl)) rfl rfl rfl rfl) <|
    hk (fun cx => cx.v (ex_pf rfl (cx.u 0 rfl) (cx.u 1 rfl)) rfl rfl) <|
    hk (fun cx => cx.v (ex_mv rfl (cx.u 0 rfl)) rfl rfl) <|
    hk (fun cx => cx.val (cx.wy rfl rfl rfl rfl (cx.u 0 rfl)) (ldSt rfl (cx.rq 22 u_g6) (cx.rn 1 rfl)) rfl rfl rfl rfl) <|
    hc (fun _ _ wx cx => cx.call (cx.wy rfl rfl rfl rfl (cx.u 1 rfl)) rfl rfl (args1 (cx.u 0 rfl)) Try.func15 (by decide +kernel) rfl (tmay_n (bothR wT a b) wx) rfl rfl (congrArg Value.bool (bothS_ok wT_sound hoa hob)) rfl) <|
    hk (fun cx => cx.val (cx.wy rfl rfl rfl rfl (cx.u 1 rfl)) (ex_not (x := .tmp 68) rfl (cx.u 0 rfl)) rfl rfl rfl rfl) <|
    hk (fun cx => cx.v (ex_pf rfl (cx.u 0 rfl) (cx.u 1 rfl)) rfl rfl) <|
    hn) ?_
   intro a10 w10 f10
   refine wp_cond_false (f10.v 15 rfl rfl rfl) ?_
   refine wp_skip ?_
   have neL1_0_1 := (ne_ptr (pairAt f1.ps 0 1 (by decide) rfl rfl) u_g1 u_g2)
   have neL1_0_2 := (ne_ptr (pairAt f1.ps 0 2 (by decide) rfl rfl) u_g1 u_g3)
   have neL1_0_3 := (ne_ptr (pairAt f1.ps 0 3 (by decide) rfl rfl) u_g1 u_g4)
   have neL1_0_4 := (ne_row b_g1_5 q_g5)
   have neL1_0_5 := (ne_row b_g1_9 q_g6)
   have neL1_1_2 := (ne_ptr (pairAt f1.ps 1 2 (by decide) rfl rfl) u_g2 u_g3)
   have neL1_1_3 := (ne_ptr (pairAt f1.ps 1 3 (by decide) rfl rfl) u_g2 u_g4)
   have neL1_1_4 := (ne_row b_g2_6 q_g5)
   have neL1_1_5 := (ne_row b_g2_10 q_g6)
   have neL1_2_3 := (ne_ptr (pairAt f1.ps 2 3 (by decide) rfl rfl) u_g3 u_g4)
   have neL1_2_4 := (ne_row (f7.k b_g3_2) q_g5)
   have neL1_2_5 := (ne_row (f8.k (f7.k b_g3_2)) q_g6)
   have neL1_3_4 := (ne_row (f7.k (f6.k b_g4)) q_g5)
   have neL1_3_5 := (ne_row (f8.k (f7.k (f6.k b_g4))) q_g6)
   have neL1_4_5 := (ne_row b_g5 q_g6)
   refine wp_cut (fun aI wI => Mid 223 W [(3, .int .i64 lo), (4, .int .i64 hi), (5, .int .i64 p), (6, .int .i64 size), (7, .int .u64 (V v)), (9, .pointer (some ⟨g1, 0, none⟩)), (11, .pointer (some ⟨g3, 0, none⟩)), (17, .pointer (some ⟨g4, 0, none⟩)), (19, .bool false)] [(g1, 35, (stC a)), (g2, 35, (stC b)), (g3, 39, (snC x)), (g4, 31, (tyC t)), (g5, 35, (stC (bothR jT a b))), (g6, 35, (stC (bothR wT a b)))] aI wI) ?_ ?_
   ·
     refine wp_seq ?_
     cases fk4 : hasS b x
     case false =>
      have Ffk4 := Lib.hid fk4; clear fk4
      have b_g2_16 := f10.k (f9.k b_g2_10)
      have b_g3_17 := f10.k (f9.k (f8.k (f7.k b_g3_2)))
      have s19_18 := f10.q 19 (f9.q 19 (f8.q 19 (f7.v 3 rfl rfl rfl)))
      have s10_19 := f10.q 10 (f9.q 10 s10_12)
      have s11_20 := f10.q 11 (f9.q 11 (f8.q 11 (f7.q 11 s11_4)))
      refine go_reg [bx g2 35 (stC b), bx g3 39 (snC x)] [] (tabs [some (.bool false), some (.bool false), some (.agg (stC b)), some (.agg (snC x)), some (.bool false), some (.bool false), some (.bool false), some (undef), some (undef), some (undef), some (undef), some (undef), some (undef), some (undef), some (undef), some (undef), some (undef), some (.bool false), some (.bool false), some (.bool false)] [some (.bool false), some (undef), some (undef), some (undef), some (.bool false), some (.bool false), some (undef), some (undef), some (undef), some (undef), some (.bool false), some (.bool false)]) mo f10.d f10.z f10.b (by kernel_rfl) ⟨b_g2_16, b_g3_17, trivial⟩ (
       hk (fun cx => cx.v (ex_mv rfl (cx.rq 19 s19_18)) rfl rfl) <|
       hk (fun cx => cx.v (ex_mv rfl (cx.u 0 rfl)) rfl rfl) <|
       hk (fun cx => cx.val (cx.wy rfl rfl rfl rfl (cx.u 0 rfl)) (ldSt rfl (cx.rq 10 s10_19) (cx.rn 0 rfl)) rfl rfl rfl rfl) <|
       hk (fun cx => cx.val (cx.wy rfl rfl rfl rfl (cx.u 0 rfl)) (ldSn rfl (cx.rq 11 s11_20) (cx.rn 1 rfl)) rfl rfl rfl rfl) <|
       hc (fun _ _ wx cx => cx.call (cx.wy rfl rfl rfl rfl (cx.u 2 rfl)) rfl rfl (args2 (cx.u 0 rfl) (cx.u 1 rfl)) Try.func21 (by decide +kernel) rfl (thas_n b x wx HB.out HX.out) rfl rfl (congrArg Value.bool Ffk4.out) rfl) <|
       hk (fun cx => cx.v (ex_pf rfl (cx.u 0 rfl) (cx.u 1 rfl)) rfl rfl) <|
       hk (fun cx => cx.v (ex_mv rfl (cx.u 0 rfl)) rfl rfl) <|
       hk (fun cx => cx.no (cx.wo rfl rfl rfl rfl (cx.u 0 rfl) rfl) rfl rfl rfl rfl) <|
       hk (fun cx => cx.no (cx.wo rfl rfl rfl rfl (cx.u 0 rfl) rfl) rfl rfl rfl rfl) <|
       hk (fun cx => cx.no (cx.wo rfl rfl rfl rfl (cx.u 2 rfl) rfl) rfl rfl rfl rfl) <|
       hk (fun cx => cx.no (cx.wo rfl rfl rfl rfl (cx.u 1 rfl) rfl) rfl rfl rfl rfl) <|
       hk (fun cx => cx.no (cx.wo rfl rfl rfl rfl (cx.u 2 rfl) rfl) rfl rfl rfl rfl) <|
       hk (fun cx => cx.no (cx.wu rfl rfl rfl rfl (cx.u 0 rfl)) rfl rfl rfl rfl) <|
       hk (fun cx => cx.no (cx.wu rfl rfl rfl rfl (cx.u 0 rfl)) rfl rfl rfl rfl) <|
       hk (fun cx => cx.no (cx.wu rfl rfl rfl rfl (cx.u 2 rfl)) rfl rfl rfl rfl) <|
       hk (fun cx => cx.no (cx.wu rfl rfl rfl rfl (cx.u 1 rfl)) rfl rfl rfl rfl) <|
       hk (fun cx => cx.no (cx.wo rfl rfl rfl rfl (cx.u 2 rfl) rfl) rfl rfl rfl rfl) <|
       hk (fun cx => cx.v (ex_pf rfl (cx.u 0 rfl) rfl) rfl rfl) <|
       hk (fun cx => cx.v (ex_mv rfl (cx.u 0 rfl)) rfl rfl) <|
       hk (fun cx => cx.val (cx.wy rfl rfl rfl rfl (cx.u 0 rfl)) (ex_mv rfl (cx.rq 19 s19_18)) rfl rfl rfl rfl) <|
       hk (fun cx => cx.val (cx.wy rfl rfl rfl rfl (cx.u 1 rfl)) (ex_mv rfl (cx.u 0 rfl)) rfl rfl rfl rfl) <|
       hk (fun cx => cx.no (cx.wo rfl rfl rfl rfl (cx.u 0 rfl) rfl) rfl rfl rfl rfl) <|
       hk (fun cx => cx.no (cx.wo rfl rfl rfl rfl (cx.u 0 rfl) rfl) rfl rfl rfl rfl) <|
       hk (fun cx => cx.no (cx.wo rfl rfl rfl rfl (cx.u 2 rfl) rfl) rfl rfl rfl rfl) <|
       hk (fun cx => cx.val (cx.wy rfl rfl rfl rfl (cx.u 2 rfl)) (ex_pf rfl (cx.u 0 rfl) rfl) rfl rfl rfl rfl) <|
       hk (fun cx => cx.val (cx.wy rfl rfl rfl rfl (cx.u 2 rfl)) (ex_mv rfl (cx.u 0 rfl)) rfl rfl rfl rfl) <|
       hk (fun cx => cx.no (cx.wo rfl rfl rfl rfl (cx.u 0 rfl) rfl) rfl rfl rfl rfl) <|
       hk (fun cx => cx.no (cx.wo rfl rfl rfl rfl (cx.u 0 rfl) rfl) rfl rfl rfl rfl) <|
       hk (fun cx => cx.no (cx.wo rfl rfl rfl rfl (cx.u 2 rfl) rfl) rfl rfl rfl rfl) <|
       hk (fun cx => cx.no (cx.wo rfl rfl rfl rfl (cx.u 1 rfl) rfl) rfl rfl rfl rfl) <|
       hk (fun cx => cx.val (cx.wy rfl rfl rfl rfl (cx.u 2 rfl)) (ex_pf rfl (cx.u 0 rfl) rfl) rfl rfl rfl rfl) <|
       hk (fun cx => cx.v (ex_pf rfl (cx.u 0 rfl) (cx.u 1 rfl)) rfl rfl) <|
       hn) ?_
      intro a11 w11 f11
      refine wp_cond_false (f11.v 31 rfl rfl rfl) ?_
      refine wp_skip ?_
      have s3_21 := f11.q 3 (f10.q 3 (f9.q 3 (f8.q 3 (f7.q 3 (f6.q 3 (f1.q 3 s3_0))))))
      have s4_22 := f11.q 4 (f10.q 4 (f9.q 4 (f8.q 4 (f7.q 4 (f6.q 4 (f1.q 4 s4_0))))))
      have s5_23 := f11.q 5 (f10.q 5 (f9.q 5 (f8.q 5 (f7.q 5 (f6.q 5 (f1.q 5 s5_0))))))
      have s6_24 := f11.q 6 (f10.q 6 (f9.q 6 (f8.q 6 (f7.q 6 (f6.q 6 (f1.q 6 s6_0))))))
      have s7_25 := f11.q 7 (f10.q 7 (f9.q 7 (f8.q 7 (f7.q 7 (f6.q 7 (f1.q 7 s7_0))))))
      have s9_26 := f11.q 9 (f10.q 9 (f9.q 9 s9_11))
      have s11_27 := f11.q 11 s11_20
      have s17_28 := f11.q 17 (f10.q 17 (f9.q 17 (f8.q 17 (f7.q 17 (f6.q 17 u_g4)))))
      have s19_29 := f11.q 19 s19_18
      have b_g1_30 := f11.k (f10.k (f9.k b_g1_9))
      have b_g2_31 := f11.k b_g2_16
      have b_g3_32 := f11.k b_g3_17
      have b_g4_33 := f11.k (f10.k (f9.k (f8.k (f7.k (f6.k b_g4)))))
      have b_g5_34 := f11.k (f10.k b_g5_13)
      have b_g6_35 := f11.k (f10.k b_g6)
      exact ⟨f11.d, f11.z, f11.b, ⟨s3_21, s4_22, s5_23, s6_24, s7_25, s9_26, s11_27, s17_28, s19_29, trivial⟩, ⟨b_g1_30, b_g2_31, b_g3_32, b_g4_33, b_g5_34, b_g6_35, trivial⟩⟩
     have Ffk4 := Lib.hid fk4; clear fk4
     have hor : hasS a x = true ∨ hasS b x = true := .inr Ffk4.out
     have b_g2_36 := f10.k (f9.k b_g2_10)
     have b_g3_37 := f10.k (f9.k (f8.k (f7.k b_g3_2)))
     have b_g5_38 := f10.k b_g5_13
     have b_g6_39 := f10.k b_g6
     have s19_40 := f10.q 19 (f9.q 19 (f8.q 19 (f7.v 3 rfl rfl rfl)))
     have s10_41 := f10.q 10 (f9.q 10 s10_12)
     have s11_42 := f10.q 11 (f9.q 11 (f8.q 11 (f7.q 11 s11_4)))
     have s20_43 := f10.q 20 s20_15
     have s22_44 := f10.q 22 u_g6
     refine go_reg [bx g2 35 (stC b), bx g3 39 (snC x), bx g5 35 (stC (bothR jT a b)), bx g6 35 (stC (bothR wT a b))] [] (tabs [some (.bool false), some (.bool false), some (.agg (stC b)), some (.agg (snC x)), some (.bool true), some (.bool true), some (.bool true), some (.agg (stC (bothR jT a b))), some (.agg (snC x)), some (.bool true), some (.bool false), some (.bool false), some (.agg (stC (bothR wT a b))), some (.agg (snC x)), some (.bool true), some (.bool false), some (.bool false), some (.bool false), some (.bool false), some (.bool false)] [some (.bool false), some (undef), some (undef), some (undef), some (.bool false), some (.bool false), some (undef), some (undef), some (undef), some (undef), some (.bool false), some (.bool false)]) mo f10.d f10.z f10.b (by kernel_rfl) ⟨b_g2_36, b_g3_37, b_g5_38, b_g6_39, trivial⟩ (
      hk (fun cx => cx.v (ex_mv rfl (cx.rq 19 s19_40)) rfl rfl) <|
      hk (fun cx => cx.v (ex_mv rfl (cx.u 0 rfl)) rfl rfl) <|
      hk (fun cx => cx.val (cx.wy rfl rfl rfl rfl (cx.u 0 rfl)) (ldSt rfl (cx.rq 10 s10_41) (cx.rn 0 rfl)) rfl rfl rfl rfl) <|
      hk (fun cx => cx.val (cx.wy rfl rfl rfl rfl (cx.u 0 rfl)) (ldSn rfl (cx.rq 11 s11_42) (cx.rn 1 rfl)) rfl rfl rfl rfl) <|
      hc (fun _ _ wx cx => cx.call (cx.wy rfl rfl rfl rfl (cx.u 2 rfl)) rfl rfl (args2 (cx.u 0 rfl) (cx.u 1 rfl)) Try.func21 (by decide +kernel) rfl (thas_n b x wx HB.out HX.out) rfl rfl (congrArg Value.bool Ffk4.out) rfl) <|
      hk (fun cx => cx.v (ex_pf rfl (cx.u 0 rfl) (cx.u 1 rfl)) rfl rfl) <|
      hk (fun cx => cx.v (ex_mv rfl (cx.u 0 rfl)) rfl rfl) <|
      hk (fun cx => cx.val (cx.wy rfl rfl rfl rfl (cx.u 0 rfl)) (ldSt rfl (cx.rq 20 s20_43) (cx.rn 2 rfl)) rfl rfl rfl rfl) <|
      hk (fun cx => cx.val (cx.wy rfl rfl rfl rfl (cx.u 0 rfl)) (ldSn rfl (cx.rq 11 s11_42) (cx.rn 1 rfl)) rfl rfl rfl rfl) <|
      hc (fun _ _ wx cx => cx.call (cx.wy rfl rfl rfl rfl (cx.u 2 rfl)) rfl rfl (args2 (cx.u 0 rfl) (cx.u 1 rfl)) Try.func21 (by decide +kernel) rfl (thas_n (bothR jT a b) x wx (both_ok join1_ok HA.out HB.out) HX.out) rfl rfl (congrArg Value.bool (bothS_has jT_sound HA.out HB.out hoa hob hor)) rfl) <|
      hk (fun cx => cx.val (cx.wy rfl rfl rfl rfl (cx.u 1 rfl)) (ex_not (x := .tmp 80) rfl (cx.u 0 rfl)) rfl rfl rfl rfl) <|
      hk (fun cx => cx.val (cx.wy rfl rfl rfl rfl (cx.u 2 rfl)) (ex_mv rfl (cx.u 0 rfl)) rfl rfl rfl rfl) <|
      hk (fun cx => cx.val (cx.wy rfl rfl rfl rfl (cx.u 0 rfl)) (ldSt rfl (cx.rq 22 s22_44) (cx.rn 3 rfl)) rfl rfl rfl rfl) <|
      hk (fun cx => cx.val (cx.wy rfl rfl rfl rfl (cx.u 0 rfl)) (ldSn rfl (cx.rq 11 s11_42) (cx.rn 1 rfl)) rfl rfl rfl rfl) <|
      hc (fun _ _ wx cx => cx.call (cx.wy rfl rfl rfl rfl (cx.u 2 rfl)) rfl rfl (args2 (cx.u 0 rfl) (cx.u 1 rfl)) Try.func21 (by decide +kernel) rfl (thas_n (bothR wT a b) x wx (both_ok widen1_ok HA.out HB.out) HX.out) rfl rfl (congrArg Value.bool (bothS_has wT_sound HA.out HB.out hoa hob hor)) rfl) <|
      hk (fun cx => cx.val (cx.wy rfl rfl rfl rfl (cx.u 1 rfl)) (ex_not (x := .tmp 85) rfl (cx.u 0 rfl)) rfl rfl rfl rfl) <|
      hk (fun cx => cx.val (cx.wy rfl rfl rfl rfl (cx.u 2 rfl)) (ex_pf rfl (cx.u 0 rfl) (cx.u 1 rfl)) rfl rfl rfl rfl) <|
      hk (fun cx => cx.v (ex_pt rfl (cx.u 0 rfl) (cx.u 1 rfl)) rfl rfl) <|
      hk (fun cx => cx.v (ex_mv rfl (cx.u 0 rfl)) rfl rfl) <|
      hk (fun cx => cx.val (cx.wy rfl rfl rfl rfl (cx.u 0 rfl)) (ex_mv rfl (cx.rq 19 s19_40)) rfl rfl rfl rfl) <|
      hk (fun cx => cx.val (cx.wy rfl rfl rfl rfl (cx.u 1 rfl)) (ex_mv rfl (cx.u 0 rfl)) rfl rfl rfl rfl) <|
      hk (fun cx => cx.no (cx.wo rfl rfl rfl rfl (cx.u 0 rfl) rfl) rfl rfl rfl rfl) <|
      hk (fun cx => cx.no (cx.wo rfl rfl rfl rfl (cx.u 0 rfl) rfl) rfl rfl rfl rfl) <|
      hk (fun cx => cx.no (cx.wo rfl rfl rfl rfl (cx.u 2 rfl) rfl) rfl rfl rfl rfl) <|
      hk (fun cx => cx.val (cx.wy rfl rfl rfl rfl (cx.u 2 rfl)) (ex_pf rfl (cx.u 0 rfl) rfl) rfl rfl rfl rfl) <|
      hk (fun cx => cx.val (cx.wy rfl rfl rfl rfl (cx.u 2 rfl)) (ex_mv rfl (cx.u 0 rfl)) rfl rfl rfl rfl) <|
      hk (fun cx => cx.no (cx.wo rfl rfl rfl rfl (cx.u 0 rfl) rfl) rfl rfl rfl rfl) <|
      hk (fun cx => cx.no (cx.wo rfl rfl rfl rfl (cx.u 0 rfl) rfl) rfl rfl rfl rfl) <|
      hk (fun cx => cx.no (cx.wo rfl rfl rfl rfl (cx.u 2 rfl) rfl) rfl rfl rfl rfl) <|
      hk (fun cx => cx.no (cx.wo rfl rfl rfl rfl (cx.u 1 rfl) rfl) rfl rfl rfl rfl) <|
      hk (fun cx => cx.val (cx.wy rfl rfl rfl rfl (cx.u 2 rfl)) (ex_pf rfl (cx.u 0 rfl) rfl) rfl rfl rfl rfl) <|
      hk (fun cx => cx.v (ex_pf rfl (cx.u 0 rfl) (cx.u 1 rfl)) rfl rfl) <|
      hn) ?_
     intro a12 w12 f12
     refine wp_cond_false (f12.v 31 rfl rfl rfl) ?_
     refine wp_skip ?_
     have s3_45 := f12.q 3 (f10.q 3 (f9.q 3 (f8.q 3 (f7.q 3 (f6.q 3 (f1.q 3 s3_0))))))
     have s4_46 := f12.q 4 (f10.q 4 (f9.q 4 (f8.q 4 (f7.q 4 (f6.q 4 (f1.q 4 s4_0))))))
     have s5_47 := f12.q 5 (f10.q 5 (f9.q 5 (f8.q 5 (f7.q 5 (f6.q 5 (f1.q 5 s5_0))))))
     have s6_48 := f12.q 6 (f10.q 6 (f9.q 6 (f8.q 6 (f7.q 6 (f6.q 6 (f1.q 6 s6_0))))))
     have s7_49 := f12.q 7 (f10.q 7 (f9.q 7 (f8.q 7 (f7.q 7 (f6.q 7 (f1.q 7 s7_0))))))
     have s9_50 := f12.q 9 (f10.q 9 (f9.q 9 s9_11))
     have s11_51 := f12.q 11 s11_42
     have s17_52 := f12.q 17 (f10.q 17 (f9.q 17 (f8.q 17 (f7.q 17 (f6.q 17 u_g4)))))
     have s19_53 := f12.q 19 s19_40
     have b_g1_54 := f12.k (f10.k (f9.k b_g1_9))
     have b_g2_55 := f12.k b_g2_36
     have b_g3_56 := f12.k b_g3_37
     have b_g4_57 := f12.k (f10.k (f9.k (f8.k (f7.k (f6.k b_g4)))))
     have b_g5_58 := f12.k b_g5_38
     have b_g6_59 := f12.k b_g6_39
     exact ⟨f12.d, f12.z, f12.b, ⟨s3_45, s4_46, s5_47, s6_48, s7_49, s9_50, s11_51, s17_52, s19_53, trivial⟩, ⟨b_g1_54, b_g2_55, b_g3_56, b_g4_57, b_g5_58, b_g6_59, trivial⟩⟩
   rintro aL1 wL1 ⟨dL1, zL1, BL1, ⟨sL1_3, sL1_4, sL1_5, sL1_6, sL1_7, sL1_9, sL1_11, sL1_17, sL1_19, -⟩, ⟨bL1_g1, bL1_g2, bL1_g3, bL1_g4, bL1_g5, bL1_g6, -⟩⟩
   replace sL1_3 : aL1.tmps.getD 3 undef = .int .i64 lo := sL1_3
   replace sL1_4 : aL1.tmps.getD 4 undef = .int .i64 hi := sL1_4
   replace sL1_5 : aL1.tmps.getD 5 undef = .int .i64 p := sL1_5
   replace sL1_6 : aL1.tmps.getD 6 undef = .int .i64 size := sL1_6
   replace sL1_7 : aL1.tmps.getD 7 undef = .int .u64 (V v) := sL1_7
   replace sL1_9 : aL1.tmps.getD 9 undef = .pointer (some ⟨g1, 0, none⟩) := sL1_9
   replace sL1_11 : aL1.tmps.getD 11 undef = .pointer (some ⟨g3, 0, none⟩) := sL1_11
   replace sL1_17 : aL1.tmps.getD 17 undef = .pointer (some ⟨g4, 0, none⟩) := sL1_17
   replace sL1_19 : aL1.tmps.getD 19 undef = .bool false := sL1_19
   replace bL1_g1 : wL1.heap[g1]? = some (.cells (stC a) 35 (0, 0)) := bL1_g1
   replace bL1_g2 : wL1.heap[g2]? = some (.cells (stC b) 35 (0, 0)) := bL1_g2
   replace bL1_g3 : wL1.heap[g3]? = some (.cells (snC x) 39 (0, 0)) := bL1_g3
   replace bL1_g4 : wL1.heap[g4]? = some (.cells (tyC t) 31 (0, 0)) := bL1_g4
   replace bL1_g5 : wL1.heap[g5]? = some (.cells (stC (bothR jT a b)) 35 (0, 0)) := bL1_g5
   replace bL1_g6 : wL1.heap[g6]? = some (.cells (stC (bothR wT a b)) 35 (0, 0)) := bL1_g6
   refine wp_seq ?_
   refine go_reg [bx g1 35 (stC a)] [⟨8, 24, 31, (tyC tZ), some 9, (tyC (loadR a lo hi size))⟩] [some (.agg (stC a)), some (.int .i64 lo), some (.int .i64 hi), some (.int .i64 size), some (.tuple #[.agg (tyC (loadR a lo hi size)), .int .i64 (loadE a lo hi size)]), some (.tuple #[.agg (tyC (loadR a lo hi size)), .int .i64 (loadE a lo hi size)]), some (.agg (tyC (loadR a lo hi size))), some (.int .i64 (loadE a lo hi size)), none, none, some (.int .i64 (loadE a lo hi size))] mo dL1 zL1 BL1 (by kernel_rfl) ⟨bL1_g1, trivial⟩ (
    hk (fun cx => cx.v (ldSt rfl (cx.rq 9 sL1_9) (cx.rn 0 rfl)) rfl rfl) <|
    hk (fun cx => cx.v (ex_mv rfl (cx.rq 3 sL1_3)) rfl rfl) <|
    hk (fun cx => cx.v (ex_mv rfl (cx.rq 4 sL1_4)) rfl rfl) <|
    hk (fun cx => cx.v (ex_mv rfl (cx.rq 6 sL1_6)) rfl rfl) <|
    hc (fun _ _ wx cx => cx.c rfl (args4 (cx.u 0 rfl) (cx.u 1 rfl) (cx.u 2 rfl) (cx.u 3 rfl)) Try.func7 (by decide +kernel) (tload_n a lo hi size wx) rfl rfl) <|
    hk (fun cx => cx.v (ex_mv rfl (cx.u 0 rfl)) rfl rfl) <|
    hk (fun cx => cx.v (ex_ext (x := .tmp 103) rfl (cx.u 0 rfl) rfl) rfl rfl) <|
    hk (fun cx => cx.v (ex_ext (x := .tmp 103) rfl (cx.u 0 rfl) rfl) rfl rfl) <|
    hk (fun cx => cx.al (wn rfl) 0 rfl (al_ty rfl) rfl rfl rfl rfl (by kernel_rfl) trivial) <|
    hk (fun cx => cx.stA (wn rfl) rfl rfl 0 0 rfl rfl rfl rfl (cx.u 1 rfl) (by kernel_rfl) (Eq.refl 9) (tyC_one _) BL1.size rfl rfl trivial) <|
    hk (fun cx => cx.v (ex_as rfl (cx.u 0 rfl)) rfl rfl) <|
    hn) ?_
   intro a13 w13 f13
   obtain ⟨g7, u_g7, q_g7, b_g7⟩ := f13.al.1
   refine wp_seq ?_
   have b_g1_60 := f13.k bL1_g1
   have b_g4_61 := f13.k bL1_g4
   have s9_62 := f13.q 9 sL1_9
   have s3_63 := f13.q 3 sL1_3
   have s4_64 := f13.q 4 sL1_4
   have s6_65 := f13.q 6 sL1_6
   have s17_66 := f13.q 17 sL1_17
   refine go_reg [bx g1 35 (stC a), bx g4 31 (tyC t)] [⟨9, 26, 35, (stC zS), some 10, (stC (storeR a lo hi size t))⟩] [some (.agg (stC a)), some (.int .i64 lo), some (.int .i64 hi), some (.int .i64 size), some (.agg (tyC t)), some (.tuple #[.agg (stC (storeR a lo hi size t)), .int .i64 (storeE a lo hi size t)]), some (.tuple #[.agg (stC (storeR a lo hi size t)), .int .i64 (storeE a lo hi size t)]), some (.agg (stC (storeR a lo hi size t))), some (.int .i64 (storeE a lo hi size t)), none, none, some (.int .i64 (storeE a lo hi size t))] mo f13.d f13.z f13.b (by kernel_rfl) ⟨b_g1_60, b_g4_61, trivial⟩ (
    hk (fun cx => cx.v (ldSt rfl (cx.rq 9 s9_62) (cx.rn 0 rfl)) rfl rfl) <|
    hk (fun cx => cx.v (ex_mv rfl (cx.rq 3 s3_63)) rfl rfl) <|
    hk (fun cx => cx.v (ex_mv rfl (cx.rq 4 s4_64)) rfl rfl) <|
    hk (fun cx => cx.v (ex_mv rfl (cx.rq 6 s6_65)) rfl rfl) <|
    hk (fun cx => cx.v (ldTy rfl (cx.rq 17 s17_66) (cx.rn 1 rfl)) rfl rfl) <|
    hc (fun _ _ wx cx => cx.c rfl (args5 (cx.u 0 rfl) (cx.u 1 rfl) (cx.u 2 rfl) (cx.u 3 rfl) (cx.u 4 rfl)) Try.func9 (by decide +kernel) (tstore_n a lo hi size t wx) rfl rfl) <|
    hk (fun cx => cx.v (ex_mv rfl (cx.u 0 rfl)) rfl rfl) <|
    hk (fun cx => cx.v (ex_ext (x := .tmp 111) rfl (cx.u 0 rfl) rfl) rfl rfl) <|
    hk (fun cx => cx.v (ex_ext (x := .tmp 111) rfl (cx.u 0 rfl) rfl) rfl rfl) <|
    hk (fun cx => cx.al (wn rfl) 0 rfl (al_st rfl) rfl rfl rfl rfl (by kernel_rfl) trivial) <|
    hk (fun cx => cx.stA (wn rfl) rfl rfl 0 0 rfl rfl rfl rfl (cx.u 1 rfl) (st_info _) ((stC_size _).trans (stC_size _).symm) (stC_one _) f13.b.size rfl rfl trivial) <|
    hk (fun cx => cx.v (ex_as rfl (cx.u 0 rfl)) rfl rfl) <|
    hn) ?_
   intro a14 w14 f14
   obtain ⟨g8, u_g8, q_g8, b_g8⟩ := f14.al.1
   refine wp_seq ?_
   refine wp_seq ?_
   cases fk5 : (loadE a lo hi size) != 0
   case false =>
    have Ffk5 := Lib.hid fk5; clear fk5
    have hpl := load_ok Ffk5.out
    have hbd := place_bd hpl
    have hm : 0 < hi - lo + 1 := by omega
    have hm0 := Int.emod_nonneg p (show hi - lo + 1 ≠ 0 by omega)
    have hm1 := Int.emod_lt_of_pos p hm
    obtain ⟨q, eq_⟩ : ∃ q : Nat, lo + p % (hi - lo + 1) = (q : Int) := ⟨(lo + p % (hi - lo + 1)).toNat, by omega⟩
    have hq : lo ≤ (q : Int) ∧ (q : Int) ≤ hi := by omega
    obtain ⟨z, ez⟩ : ∃ z : Nat, size = (z : Int) := ⟨size.toNat, by omega⟩
    have hz : 1 ≤ z ∧ z ≤ 8 ∧ q + z ≤ 64 := by omega
    have s25_67 := f14.q 25 (f13.v 10 rfl rfl rfl)
    have s19_68 := f14.q 19 (f13.q 19 sL1_19)
    refine go_reg [] [] [some (.int .i64 (loadE a lo hi size)), some (.bool false), some (.bool false), some (.bool false), some (.bool true), some (.bool true)] mo f14.d f14.z f14.b (by kernel_rfl) trivial (
     hk (fun cx => cx.v (ex_mv rfl (cx.rq 25 s25_67)) rfl rfl) <|
     hk (fun cx => cx.v (ex_ne (x := .tmp 120) rfl (cx.u 0 rfl) rfl) rfl (congrArg Value.bool Ffk5.out)) <|
     hk (fun cx => cx.v (ex_mv rfl (cx.u 0 rfl)) rfl rfl) <|
     hk (fun cx => cx.val (cx.wy rfl rfl rfl rfl (cx.u 0 rfl)) (ex_mv rfl (cx.rq 19 s19_68)) rfl rfl rfl rfl) <|
     hk (fun cx => cx.val (cx.wy rfl rfl rfl rfl (cx.u 1 rfl)) (ex_not (x := .tmp 123) rfl (cx.u 0 rfl)) rfl rfl rfl rfl) <|
     hk (fun cx => cx.v (ex_pf rfl (cx.u 0 rfl) (cx.u 1 rfl)) rfl rfl) <|
     hn) ?_
    intro a15 w15 f15
    refine wp_cond_true (f15.v 5 rfl rfl rfl) ?_
    refine wp_seq ?_
    refine go_reg [] [] [some (.bool true), some (.bool true)] mo f15.d f15.z f15.b (by kernel_rfl) trivial (
     hc (fun _ _ wx cx => cx.c rfl (args0 ) Try.func23 (by decide +kernel) (wakes_n wx) rfl rfl) <|
     hk (fun cx => cx.v (ex_as rfl (cx.u 0 rfl)) rfl rfl) <|
     hn) ?_
    intro a16 w16 f16
    refine wp_ret ?_
    try simp only [Exit.inBlock, Exit.then]
    refine bodyPost_ret (res_t (fn := Try.f5) rfl (f16.v 1 rfl rfl rfl)) f16.d ?_
    exact ⟨rfl, f16.b⟩
   have Ffk5 := Lib.hid fk5; clear fk5
   have s25_69 := f14.q 25 (f13.v 10 rfl rfl rfl)
   refine go_reg [] [] [some (.int .i64 (loadE a lo hi size)), some (.bool true), some (.bool true), some (undef), some (undef), some (.bool true)] mo f14.d f14.z f14.b (by kernel_rfl) trivial (
    hk (fun cx => cx.v (ex_mv rfl (cx.rq 25 s25_69)) rfl rfl) <|
    hk (fun cx => cx.v (ex_ne (x := .tmp 120) rfl (cx.u 0 rfl) rfl) rfl (congrArg Value.bool Ffk5.out)) <|
    hk (fun cx => cx.v (ex_mv rfl (cx.u 0 rfl)) rfl rfl) <|
    hk (fun cx => cx.no (cx.wo rfl rfl rfl rfl (cx.u 0 rfl) rfl) rfl rfl rfl rfl) <|
    hk (fun cx => cx.no (cx.wo rfl rfl rfl rfl (cx.u 1 rfl) rfl) rfl rfl rfl rfl) <|
    hk (fun cx => cx.v (ex_pt rfl (cx.u 0 rfl) rfl) rfl rfl) <|
    hn) ?_
   intro a17 w17 f17
   refine wp_cond_true (f17.v 5 rfl rfl rfl) ?_
   refine wp_seq ?_
   refine go_reg [] [] [some (.bool true), some (.bool true)] mo f17.d f17.z f17.b (by kernel_rfl) trivial (
    hc (fun _ _ wx cx => cx.c rfl (args0 ) Try.func23 (by decide +kernel) (wakes_n wx) rfl rfl) <|
    hk (fun cx => cx.v (ex_as rfl (cx.u 0 rfl)) rfl rfl) <|
    hn) ?_
   intro a18 w18 f18
   refine wp_ret ?_
   try simp only [Exit.inBlock, Exit.then]
   refine bodyPost_ret (res_t (fn := Try.f5) rfl (f18.v 1 rfl rfl rfl)) f18.d ?_
   exact ⟨rfl, f18.b⟩
  have Ffk3 := Lib.hid fk3; clear fk3
  have hha := Ffk3.out
  have hor : hasS a x = true ∨ hasS b x = true := .inl hha
  have b_g1_70 := f6.k b_g1
  have b_g3_71 := f6.k b_g3
  have s9_72 := f6.q 9 u_g1
  have s11_73 := f6.q 11 u_g3
  refine go_reg [bx g1 35 (stC a), bx g3 39 (snC x)] [] [some (.agg (stC a)), some (.agg (snC x)), some (.bool true), some (.bool true)] mo f6.d f6.z f6.b (by kernel_rfl) ⟨b_g1_70, b_g3_71, trivial⟩ (
   hk (fun cx => cx.v (ldSt rfl (cx.rq 9 s9_72) (cx.rn 0 rfl)) rfl rfl) <|
   hk (fun cx => cx.v (ldSn rfl (cx.rq 11 s11_73) (cx.rn 1 rfl)) rfl rfl) <|
   hc (fun _ _ wx cx => cx.c rfl (args2 (cx.u 0 rfl) (cx.u 1 rfl)) Try.func21 (by decide +kernel) (thas_n a x wx HA.out HX.out) rfl (congrArg Value.bool Ffk3.out)) <|
   hk (fun cx => cx.v (ex_as rfl (cx.u 0 rfl)) rfl rfl) <|
   hn) ?_
  intro a19 w19 f19
  refine wp_seq ?_
  have b_g1_74 := f19.k b_g1_70
  have b_g2_75 := f19.k (f6.k b_g2)
  have s9_76 := f19.q 9 s9_72
  have s10_77 := f19.q 10 (f6.q 10 u_g2)
  refine go_reg [bx g1 35 (stC a), bx g2 35 (stC b)] [⟨6, 20, 35, (stC zS), some 7, (stC (bothR jT a b))⟩] [some (.agg (stC a)), some (.agg (stC b)), some (.tuple #[.agg (stC (bothR jT a b)), .int .i64 (bothE a b)]), some (.tuple #[.agg (stC (bothR jT a b)), .int .i64 (bothE a b)]), some (.agg (stC (bothR jT a b))), some (.int .i64 (bothE a b)), none, none, some (.int .i64 (bothE a b))] mo f19.d f19.z f19.b (by kernel_rfl) ⟨b_g1_74, b_g2_75, trivial⟩ (
   hk (fun cx => cx.v (ldSt rfl (cx.rq 9 s9_76) (cx.rn 0 rfl)) rfl rfl) <|
   hk (fun cx => cx.v (ldSt rfl (cx.rq 10 s10_77) (cx.rn 1 rfl)) rfl rfl) <|
   hc (fun _ _ wx cx => cx.c rfl (args2 (cx.u 0 rfl) (cx.u 1 rfl)) Try.func24 (by decide +kernel) (tjoin_n a b wx HA.out HB.out) rfl rfl) <|
   hk (fun cx => cx.v (ex_mv rfl (cx.u 0 rfl)) rfl rfl) <|
   hk (fun cx => cx.v (ex_ext (x := .tmp 43) rfl (cx.u 0 rfl) rfl) rfl rfl) <|
   hk (fun cx => cx.v (ex_ext (x := .tmp 43) rfl (cx.u 0 rfl) rfl) rfl rfl) <|
   hk (fun cx => cx.al (wn rfl) 0 rfl (al_st rfl) rfl rfl rfl rfl (by kernel_rfl) trivial) <|
   hk (fun cx => cx.stA (wn rfl) rfl rfl 0 0 rfl rfl rfl rfl (cx.u 1 rfl) (st_info _) ((stC_size _).trans (stC_size _).symm) (stC_one _) f19.b.size rfl rfl trivial) <|
   hk (fun cx => cx.v (ex_as rfl (cx.u 0 rfl)) rfl rfl) <|
   hn) ?_
  intro a20 w20 f20
  obtain ⟨g5, u_g5, q_g5, b_g5⟩ := f20.al.1
  refine wp_seq ?_
  have b_g1_78 := f20.k b_g1_74
  have b_g2_79 := f20.k b_g2_75
  have s9_80 := f20.q 9 s9_76
  have s10_81 := f20.q 10 s10_77
  refine go_reg [bx g1 35 (stC a), bx g2 35 (stC b)] [⟨6, 22, 35, (stC zS), some 7, (stC (bothR wT a b))⟩] [some (.agg (stC a)), some (.agg (stC b)), some (.tuple #[.agg (stC (bothR wT a b)), .int .i64 (bothE a b)]), some (.tuple #[.agg (stC (bothR wT a b)), .int .i64 (bothE a b)]), some (.agg (stC (bothR wT a b))), some (.int .i64 (bothE a b)), none, none, some (.int .i64 (bothE a b))] mo f20.d f20.z f20.b (by kernel_rfl) ⟨b_g1_78, b_g2_79, trivial⟩ (
   hk (fun cx => cx.v (ldSt rfl (cx.rq 9 s9_80) (cx.rn 0 rfl)) rfl rfl) <|
   hk (fun cx => cx.v (ldSt rfl (cx.rq 10 s10_81) (cx.rn 1 rfl)) rfl rfl) <|
   hc (fun _ _ wx cx => cx.c rfl (args2 (cx.u 0 rfl) (cx.u 1 rfl)) Try.func26 (by decide +kernel) (twiden_n a b wx HA.out HB.out) rfl rfl) <|
   hk (fun cx => cx.v (ex_mv rfl (cx.u 0 rfl)) rfl rfl) <|
   hk (fun cx => cx.v (ex_ext (x := .tmp 49) rfl (cx.u 0 rfl) rfl) rfl rfl) <|
   hk (fun cx => cx.v (ex_ext (x := .tmp 49) rfl (cx.u 0 rfl) rfl) rfl rfl) <|
   hk (fun cx => cx.al (wn rfl) 0 rfl (al_st rfl) rfl rfl rfl rfl (by kernel_rfl) trivial) <|
   hk (fun cx => cx.stA (wn rfl) rfl rfl 0 0 rfl rfl rfl rfl (cx.u 1 rfl) (st_info _) ((stC_size _).trans (stC_size _).symm) (stC_one _) f20.b.size rfl rfl trivial) <|
   hk (fun cx => cx.v (ex_as rfl (cx.u 0 rfl)) rfl rfl) <|
   hn) ?_
  intro a21 w21 f21
  obtain ⟨g6, u_g6, q_g6, b_g6⟩ := f21.al.1
  refine wp_seq ?_
  refine wp_seq ?_
  have b_g5_82 := f21.k b_g5
  have s21_83 := f21.q 21 (f20.v 8 rfl rfl rfl)
  have s20_84 := f21.q 20 u_g5
  refine go_reg [bx g5 35 (stC (bothR jT a b)), bx g6 35 (stC (bothR wT a b))] [] [some (.int .i64 (bothE a b)), some (.bool false), some (.bool false), some (.int .i64 (bothE a b)), some (.bool false), some (.bool false), some (.bool false), some (.agg (stC (bothR jT a b))), some (.bool true), some (.bool false), some (.bool false), some (.bool false), some (.agg (stC (bothR wT a b))), some (.bool true), some (.bool false), some (.bool false)] mo f21.d f21.z f21.b (by kernel_rfl) ⟨b_g5_82, b_g6, trivial⟩ (
   hk (fun cx => cx.v (ex_mv rfl (cx.rq 21 s21_83)) rfl rfl) <|
   hk (fun cx => cx.v (ex_ne (x := .tmp 55) rfl (cx.u 0 rfl) rfl) rfl (congrArg Value.bool (by rw [bothE_1 hoa hob]; rfl))) <|
   hk (fun cx => cx.v (ex_mv rfl (cx.u 0 rfl)) rfl rfl) <|
   hk (fun cx => cx.val (cx.wy rfl rfl rfl rfl (cx.u 0 rfl)) (ex_mv rfl (cx.rq 23 (f21.v 8 rfl rfl rfl))) rfl rfl rfl rfl) <|
   hk (fun cx => cx.val (cx.wy rfl rfl rfl rfl (cx.u 1 rfl)) (ex_ne (x := .tmp 58) rfl (cx.u 0 rfl) rfl) rfl rfl (congrArg Value.bool (by rw [bothE_1 hoa hob]; rfl)) rfl) <|
   hk (fun cx => cx.v (ex_pf rfl (cx.u 0 rfl) (cx.u 1 rfl)) rfl rfl) <|
   hk (fun cx => cx.v (ex_mv rfl (cx.u 0 rfl)) rfl rfl) <|
   hk (fun cx => cx.val (cx.wy rfl rfl rfl rfl (cx.u 0 rfl)) (ldSt rfl (cx.rq 20 s20_84) (cx.rn 0 rfl)) rfl rfl rfl rfl) <|
   hc (fun _ _ wx cx => cx.call (cx.wy rfl rfl rfl rfl (cx.u 1 rfl)) rfl rfl (args1 (cx.u 0 rfl)) Try.func15 (by decide +kernel) rfl (tmay_n (bothR jT a b) wx) rfl rfl (congrArg Value.bool (bothS_ok jT_sound hoa hob)) rfl) <|
   hk (fun cx => cx.val (cx.wy rfl rfl rfl rfl (cx.u 1 rfl)) (ex_not (x := .tmp 63) rfl (cx.u 0 rfl)) rfl rfl rfl rfl) <|
   hk (fun cx => cx.v (ex_pf rfl (cx.u 0 rfl) (cx.u 1 rfl)) rfl rfl) <|
   hk (fun cx => cx.v (ex_mv rfl (cx.u 0 rfl)) rfl rfl) <|
   hk (fun cx => cx.val (cx.wy rfl rfl rfl rfl (cx.u 0 rfl)) (ldSt rfl (cx.rq 22 u_g6) (cx.rn 1 rfl)) rfl rfl rfl rfl) <|
   hc (fun _ _ wx cx => cx.call (cx.wy rfl rfl rfl rfl (cx.u 1 rfl)) rfl rfl (args1 (cx.u 0 rfl)) Try.func15 (by decide +kernel) rfl (tmay_n (bothR wT a b) wx) rfl rfl (congrArg Value.bool (bothS_ok wT_sound hoa hob)) rfl) <|
   hk (fun cx => cx.val (cx.wy rfl rfl rfl rfl (cx.u 1 rfl)) (ex_not (x := .tmp 68) rfl (cx.u 0 rfl)) rfl rfl rfl rfl) <|
   hk (fun cx => cx.v (ex_pf rfl (cx.u 0 rfl) (cx.u 1 rfl)) rfl rfl) <|
   hn) ?_
  intro a22 w22 f22
  refine wp_cond_false (f22.v 15 rfl rfl rfl) ?_
  refine wp_skip ?_
  have neL2_0_1 := (ne_ptr (pairAt f1.ps 0 1 (by decide) rfl rfl) u_g1 u_g2)
  have neL2_0_2 := (ne_ptr (pairAt f1.ps 0 2 (by decide) rfl rfl) u_g1 u_g3)
  have neL2_0_3 := (ne_ptr (pairAt f1.ps 0 3 (by decide) rfl rfl) u_g1 u_g4)
  have neL2_0_4 := (ne_row b_g1_74 q_g5)
  have neL2_0_5 := (ne_row b_g1_78 q_g6)
  have neL2_1_2 := (ne_ptr (pairAt f1.ps 1 2 (by decide) rfl rfl) u_g2 u_g3)
  have neL2_1_3 := (ne_ptr (pairAt f1.ps 1 3 (by decide) rfl rfl) u_g2 u_g4)
  have neL2_1_4 := (ne_row b_g2_75 q_g5)
  have neL2_1_5 := (ne_row b_g2_79 q_g6)
  have neL2_2_3 := (ne_ptr (pairAt f1.ps 2 3 (by decide) rfl rfl) u_g3 u_g4)
  have neL2_2_4 := (ne_row (f19.k b_g3_71) q_g5)
  have neL2_2_5 := (ne_row (f20.k (f19.k b_g3_71)) q_g6)
  have neL2_3_4 := (ne_row (f19.k (f6.k b_g4)) q_g5)
  have neL2_3_5 := (ne_row (f20.k (f19.k (f6.k b_g4))) q_g6)
  have neL2_4_5 := (ne_row b_g5 q_g6)
  refine wp_cut (fun aI wI => Mid 223 W [(3, .int .i64 lo), (4, .int .i64 hi), (5, .int .i64 p), (6, .int .i64 size), (7, .int .u64 (V v)), (9, .pointer (some ⟨g1, 0, none⟩)), (11, .pointer (some ⟨g3, 0, none⟩)), (17, .pointer (some ⟨g4, 0, none⟩)), (19, .bool true)] [(g1, 35, (stC a)), (g2, 35, (stC b)), (g3, 39, (snC x)), (g4, 31, (tyC t)), (g5, 35, (stC (bothR jT a b))), (g6, 35, (stC (bothR wT a b)))] aI wI) ?_ ?_
  ·
    refine wp_seq ?_
    cases fk6 : inS a b
    case false =>
     have Ffk6 := Lib.hid fk6; clear fk6
     have b_g5_85 := f22.k b_g5_82
     have b_g3_86 := f22.k (f21.k (f20.k (f19.k b_g3_71)))
     have b_g6_87 := f22.k b_g6
     have b_g1_88 := f22.k (f21.k b_g1_78)
     have b_g2_89 := f22.k (f21.k b_g2_79)
     have s19_90 := f22.q 19 (f21.q 19 (f20.q 19 (f19.v 3 rfl rfl rfl)))
     have s20_91 := f22.q 20 s20_84
     have s11_92 := f22.q 11 (f21.q 11 (f20.q 11 (f19.q 11 s11_73)))
     have s22_93 := f22.q 22 u_g6
     have s9_94 := f22.q 9 (f21.q 9 s9_80)
     have s10_95 := f22.q 10 (f21.q 10 s10_81)
     refine go_reg [bx g5 35 (stC (bothR jT a b)), bx g3 39 (snC x), bx g6 35 (stC (bothR wT a b)), bx g1 35 (stC a), bx g2 35 (stC b)] [] (tabs [some (.bool true), some (.bool true), some (undef), some (undef), some (undef), some (.bool true), some (.bool true), some (.agg (stC (bothR jT a b))), some (.agg (snC x)), some (.bool true), some (.bool false), some (.bool false), some (.agg (stC (bothR wT a b))), some (.agg (snC x)), some (.bool true), some (.bool false), some (.bool false), some (.bool false), some (.bool false), some (.bool true)] [some (.bool true), some (.agg (stC a)), some (.agg (stC b)), some (.bool false), some (.bool false), some (.bool false), some (undef), some (undef), some (undef), some (undef), some (.bool false), some (.bool false)]) mo f22.d f22.z f22.b (by kernel_rfl) ⟨b_g5_85, b_g3_86, b_g6_87, b_g1_88, b_g2_89, trivial⟩ (
      hk (fun cx => cx.v (ex_mv rfl (cx.rq 19 s19_90)) rfl rfl) <|
      hk (fun cx => cx.v (ex_mv rfl (cx.u 0 rfl)) rfl rfl) <|
      hk (fun cx => cx.no (cx.wo rfl rfl rfl rfl (cx.u 0 rfl) rfl) rfl rfl rfl rfl) <|
      hk (fun cx => cx.no (cx.wo rfl rfl rfl rfl (cx.u 0 rfl) rfl) rfl rfl rfl rfl) <|
      hk (fun cx => cx.no (cx.wo rfl rfl rfl rfl (cx.u 2 rfl) rfl) rfl rfl rfl rfl) <|
      hk (fun cx => cx.v (ex_pt rfl (cx.u 0 rfl) rfl) rfl rfl) <|
      hk (fun cx => cx.v (ex_mv rfl (cx.u 0 rfl)) rfl rfl) <|
      hk (fun cx => cx.val (cx.wy rfl rfl rfl rfl (cx.u 0 rfl)) (ldSt rfl (cx.rq 20 s20_91) (cx.rn 0 rfl)) rfl rfl rfl rfl) <|
      hk (fun cx => cx.val (cx.wy rfl rfl rfl rfl (cx.u 0 rfl)) (ldSn rfl (cx.rq 11 s11_92) (cx.rn 1 rfl)) rfl rfl rfl rfl) <|
      hc (fun _ _ wx cx => cx.call (cx.wy rfl rfl rfl rfl (cx.u 2 rfl)) rfl rfl (args2 (cx.u 0 rfl) (cx.u 1 rfl)) Try.func21 (by decide +kernel) rfl (thas_n (bothR jT a b) x wx (both_ok join1_ok HA.out HB.out) HX.out) rfl rfl (congrArg Value.bool (bothS_has jT_sound HA.out HB.out hoa hob hor)) rfl) <|
      hk (fun cx => cx.val (cx.wy rfl rfl rfl rfl (cx.u 1 rfl)) (ex_not (x := .tmp 80) rfl (cx.u 0 rfl)) rfl rfl rfl rfl) <|
      hk (fun cx => cx.val (cx.wy rfl rfl rfl rfl (cx.u 2 rfl)) (ex_mv rfl (cx.u 0 rfl)) rfl rfl rfl rfl) <|
      hk (fun cx => cx.val (cx.wy rfl rfl rfl rfl (cx.u 0 rfl)) (ldSt rfl (cx.rq 22 s22_93) (cx.rn 2 rfl)) rfl rfl rfl rfl) <|
      hk (fun cx => cx.val (cx.wy rfl rfl rfl rfl (cx.u 0 rfl)) (ldSn rfl (cx.rq 11 s11_92) (cx.rn 1 rfl)) rfl rfl rfl rfl) <|
      hc (fun _ _ wx cx => cx.call (cx.wy rfl rfl rfl rfl (cx.u 2 rfl)) rfl rfl (args2 (cx.u 0 rfl) (cx.u 1 rfl)) Try.func21 (by decide +kernel) rfl (thas_n (bothR wT a b) x wx (both_ok widen1_ok HA.out HB.out) HX.out) rfl rfl (congrArg Value.bool (bothS_has wT_sound HA.out HB.out hoa hob hor)) rfl) <|
      hk (fun cx => cx.val (cx.wy rfl rfl rfl rfl (cx.u 1 rfl)) (ex_not (x := .tmp 85) rfl (cx.u 0 rfl)) rfl rfl rfl rfl) <|
      hk (fun cx => cx.val (cx.wy rfl rfl rfl rfl (cx.u 2 rfl)) (ex_pf rfl (cx.u 0 rfl) (cx.u 1 rfl)) rfl rfl rfl rfl) <|
      hk (fun cx => cx.v (ex_pt rfl (cx.u 0 rfl) (cx.u 1 rfl)) rfl rfl) <|
      hk (fun cx => cx.v (ex_mv rfl (cx.u 0 rfl)) rfl rfl) <|
      hk (fun cx => cx.val (cx.wy rfl rfl rfl rfl (cx.u 0 rfl)) (ex_mv rfl (cx.rq 19 s19_90)) rfl rfl rfl rfl) <|
      hk (fun cx => cx.val (cx.wy rfl rfl rfl rfl (cx.u 1 rfl)) (ex_mv rfl (cx.u 0 rfl)) rfl rfl rfl rfl) <|
      hk (fun cx => cx.val (cx.wy rfl rfl rfl rfl (cx.u 0 rfl)) (ldSt rfl (cx.rq 9 s9_94) (cx.rn 3 rfl)) rfl rfl rfl rfl) <|
      hk (fun cx => cx.val (cx.wy rfl rfl rfl rfl (cx.u 0 rfl)) (ldSt rfl (cx.rq 10 s10_95) (cx.rn 4 rfl)) rfl rfl rfl rfl) <|
      hc (fun _ _ wx cx => cx.call (cx.wy rfl rfl rfl rfl (cx.u 2 rfl)) rfl rfl (args2 (cx.u 0 rfl) (cx.u 1 rfl)) Try.func28 (by decide +kernel) rfl (tin_n a b wx) rfl rfl (congrArg Value.bool Ffk6.out) rfl) <|
      hk (fun cx => cx.val (cx.wy rfl rfl rfl rfl (cx.u 2 rfl)) (ex_pt rfl (cx.u 0 rfl) (cx.u 1 rfl)) rfl rfl rfl rfl) <|
      hk (fun cx => cx.val (cx.wy rfl rfl rfl rfl (cx.u 2 rfl)) (ex_mv rfl (cx.u 0 rfl)) rfl rfl rfl rfl) <|
      hk (fun cx => cx.no (cx.wo rfl rfl rfl rfl (cx.u 0 rfl) rfl) rfl rfl rfl rfl) <|
      hk (fun cx => cx.no (cx.wo rfl rfl rfl rfl (cx.u 0 rfl) rfl) rfl rfl rfl rfl) <|
      hk (fun cx => cx.no (cx.wo rfl rfl rfl rfl (cx.u 2 rfl) rfl) rfl rfl rfl rfl) <|
      hk (fun cx => cx.no (cx.wo rfl rfl rfl rfl (cx.u 1 rfl) rfl) rfl rfl rfl rfl) <|
      hk (fun cx => cx.val (cx.wy rfl rfl rfl rfl (cx.u 2 rfl)) (ex_pf rfl (cx.u 0 rfl) rfl) rfl rfl rfl rfl) <|
      hk (fun cx => cx.v (ex_pf rfl (cx.u 0 rfl) (cx.u 1 rfl)) rfl rfl) <|
      hn) ?_
     intro a23 w23 f23
     refine wp_cond_false (f23.v 31 rfl rfl rfl) ?_
     refine wp_skip ?_
     have s3_96 := f23.q 3 (f22.q 3 (f21.q 3 (f20.q 3 (f19.q 3 (f6.q 3 (f1.q 3 s3_0))))))
     have s4_97 := f23.q 4 (f22.q 4 (f21.q 4 (f20.q 4 (f19.q 4 (f6.q 4 (f1.q 4 s4_0))))))
     have s5_98 := f23.q 5 (f22.q 5 (f21.q 5 (f20.q 5 (f19.q 5 (f6.q 5 (f1.q 5 s5_0))))))
     have s6_99 := f23.q 6 (f22.q 6 (f21.q 6 (f20.q 6 (f19.q 6 (f6.q 6 (f1.q 6 s6_0))))))
     have s7_100 := f23.q 7 (f22.q 7 (f21.q 7 (f20.q 7 (f19.q 7 (f6.q 7 (f1.q 7 s7_0))))))
     have s9_101 := f23.q 9 s9_94
     have s11_102 := f23.q 11 s11_92
     have s17_103 := f23.q 17 (f22.q 17 (f21.q 17 (f20.q 17 (f19.q 17 (f6.q 17 u_g4)))))
     have s19_104 := f23.q 19 s19_90
     have b_g1_105 := f23.k b_g1_88
     have b_g2_106 := f23.k b_g2_89
     have b_g3_107 := f23.k b_g3_86
     have b_g4_108 := f23.k (f22.k (f21.k (f20.k (f19.k (f6.k b_g4)))))
     have b_g5_109 := f23.k b_g5_85
     have b_g6_110 := f23.k b_g6_87
     exact ⟨f23.d, f23.z, f23.b, ⟨s3_96, s4_97, s5_98, s6_99, s7_100, s9_101, s11_102, s17_103, s19_104, trivial⟩, ⟨b_g1_105, b_g2_106, b_g3_107, b_g4_108, b_g5_109, b_g6_110, trivial⟩⟩
    have Ffk6 := Lib.hid fk6; clear fk6
    have b_g5_111 := f22.k b_g5_82
    have b_g3_112 := f22.k (f21.k (f20.k (f19.k b_g3_71)))
    have b_g6_113 := f22.k b_g6
    have b_g1_114 := f22.k (f21.k b_g1_78)
    have b_g2_115 := f22.k (f21.k b_g2_79)
    have s19_116 := f22.q 19 (f21.q 19 (f20.q 19 (f19.v 3 rfl rfl rfl)))
    have s20_117 := f22.q 20 s20_84
    have s11_118 := f22.q 11 (f21.q 11 (f20.q 11 (f19.q 11 s11_73)))
    have s22_119 := f22.q 22 u_g6
    have s9_120 := f22.q 9 (f21.q 9 s9_80)
    have s10_121 := f22.q 10 (f21.q 10 s10_81)
    refine go_reg [bx g5 35 (stC (bothR jT a b)), bx g3 39 (snC x), bx g6 35 (stC (bothR wT a b)), bx g1 35 (stC a), bx g2 35 (stC b)] [] (tabs [some (.bool true), some (.bool true), some (undef), some (undef), some (undef), some (.bool true), some (.bool true), some (.agg (stC (bothR jT a b))), some (.agg (snC x)), some (.bool true), some (.bool false), some (.bool false), some (.agg (stC (bothR wT a b))), some (.agg (snC x)), some (.bool true), some (.bool false), some (.bool false), some (.bool false), some (.bool false), some (.bool true)] [some (.bool true), some (.agg (stC a)), some (.agg (stC b)), some (.bool true), some (.bool true), some (.bool true), some (.agg (stC b)), some (.agg (snC x)), some (.bool true), some (.bool false), some (.bool false), some (.bool false)]) mo f22.d f22.z f22.b (by kernel_rfl) ⟨b_g5_111, b_g3_112, b_g6_113, b_g1_114, b_g2_115, trivial⟩ (
     hk (fun cx => cx.v (ex_mv rfl (cx.rq 19 s19_116)) rfl rfl) <|
     hk (fun cx => cx.v (ex_mv rfl (cx.u 0 rfl)) rfl rfl) <|
     hk (fun cx => cx.no (cx.wo rfl rfl rfl rfl (cx.u 0 rfl) rfl) rfl rfl rfl rfl) <|
     hk (fun cx => cx.no (cx.wo rfl rfl rfl rfl (cx.u 0 rfl) rfl) rfl rfl rfl rfl) <|
     hk (fun cx => cx.no (cx.wo rfl rfl rfl rfl (cx.u 2 rfl) rfl) rfl rfl rfl rfl) <|
     hk (fun cx => cx.v (ex_pt rfl (cx.u 0 rfl) rfl) rfl rfl) <|
     hk (fun cx => cx.v (ex_mv rfl (cx.u 0 rfl)) rfl rfl) <|
     hk (fun cx => cx.val (cx.wy rfl rfl rfl rfl (cx.u 0 rfl)) (ldSt rfl (cx.rq 20 s20_117) (cx.rn 0 rfl)) rfl rfl rfl rfl) <|
     hk (fun cx => cx.val (cx.wy rfl rfl rfl rfl (cx.u 0 rfl)) (ldSn rfl (cx.rq 11 s11_118) (cx.rn 1 rfl)) rfl rfl rfl rfl) <|
     hc (fun _ _ wx cx => cx.call (cx.wy rfl rfl rfl rfl (cx.u 2 rfl)) rfl rfl (args2 (cx.u 0 rfl) (cx.u 1 rfl)) Try.func21 (by decide +kernel) rfl (thas_n (bothR jT a b) x wx (both_ok join1_ok HA.out HB.out) HX.out) rfl rfl (congrArg Value.bool (bothS_has jT_sound HA.out HB.out hoa hob hor)) rfl) <|
     hk (fun cx => cx.val (cx.wy rfl rfl rfl rfl (cx.u 1 rfl)) (ex_not (x := .tmp 80) rfl (cx.u 0 rfl)) rfl rfl rfl rfl) <|
     hk (fun cx => cx.val (cx.wy rfl rfl rfl rfl (cx.u 2 rfl)) (ex_mv rfl (cx.u 0 rfl)) rfl rfl rfl rfl) <|
     hk (fun cx => cx.val (cx.wy rfl rfl rfl rfl (cx.u 0 rfl)) (ldSt rfl (cx.rq 22 s22_119) (cx.rn 2 rfl)) rfl rfl rfl rfl) <|
     hk (fun cx => cx.val (cx.wy rfl rfl rfl rfl (cx.u 0 rfl)) (ldSn rfl (cx.rq 11 s11_118) (cx.rn 1 rfl)) rfl rfl rfl rfl) <|
     hc (fun _ _ wx cx => cx.call (cx.wy rfl rfl rfl rfl (cx.u 2 rfl)) rfl rfl (args2 (cx.u 0 rfl) (cx.u 1 rfl)) Try.func21 (by decide +kernel) rfl (thas_n (bothR wT a b) x wx (both_ok widen1_ok HA.out HB.out) HX.out) rfl rfl (congrArg Value.bool (bothS_has wT_sound HA.out HB.out hoa hob hor)) rfl) <|
     hk (fun cx => cx.val (cx.wy rfl rfl rfl rfl (cx.u 1 rfl)) (ex_not (x := .tmp 85) rfl (cx.u 0 rfl)) rfl rfl rfl rfl) <|
     hk (fun cx => cx.val (cx.wy rfl rfl rfl rfl (cx.u 2 rfl)) (ex_pf rfl (cx.u 0 rfl) (cx.u 1 rfl)) rfl rfl rfl rfl) <|
     hk (fun cx => cx.v (ex_pt rfl (cx.u 0 rfl) (cx.u 1 rfl)) rfl rfl) <|
     hk (fun cx => cx.v (ex_mv rfl (cx.u 0 rfl)) rfl rfl) <|
     hk (fun cx => cx.val (cx.wy rfl rfl rfl rfl (cx.u 0 rfl)) (ex_mv rfl (cx.rq 19 s19_116)) rfl rfl rfl rfl) <|
     hk (fun cx => cx.val (cx.wy rfl rfl rfl rfl (cx.u 1 rfl)) (ex_mv rfl (cx.u 0 rfl)) rfl rfl rfl rfl) <|
     hk (fun cx => cx.val (cx.wy rfl rfl rfl rfl (cx.u 0 rfl)) (ldSt rfl (cx.rq 9 s9_120) (cx.rn 3 rfl)) rfl rfl rfl rfl) <|
     hk (fun cx => cx.val (cx.wy rfl rfl rfl rfl (cx.u 0 rfl)) (ldSt rfl (cx.rq 10 s10_121) (cx.rn 4 rfl)) rfl rfl rfl rfl) <|
     hc (fun _ _ wx cx => cx.call (cx.wy rfl rfl rfl rfl (cx.u 2 rfl)) rfl rfl (args2 (cx.u 0 rfl) (cx.u 1 rfl)) Try.func28 (by decide +kernel) rfl (tin_n a b wx) rfl rfl (congrArg Value.bool Ffk6.out) rfl) <|
     hk (fun cx => cx.val (cx.wy rfl rfl rfl rfl (cx.u 2 rfl)) (ex_pt rfl (cx.u 0 rfl) (cx.u 1 rfl)) rfl rfl rfl rfl) <|
     hk (fun cx => cx.val (cx.wy rfl rfl rfl rfl (cx.u 2 rfl)) (ex_mv rfl (cx.u 0 rfl)) rfl rfl rfl rfl) <|
     hk (fun cx => cx.val (cx.wy rfl rfl rfl rfl (cx.u 0 rfl)) (ldSt rfl (cx.rq 10 s10_121) (cx.rn 4 rfl)) rfl rfl rfl rfl) <|
     hk (fun cx => cx.val (cx.wy rfl rfl rfl rfl (cx.u 0 rfl)) (ldSn rfl (cx.rq 11 s11_118) (cx.rn 1 rfl)) rfl rfl rfl rfl) <|
     hc (fun _ _ wx cx => cx.call (cx.wy rfl rfl rfl rfl (cx.u 2 rfl)) rfl rfl (args2 (cx.u 0 rfl) (cx.u 1 rfl)) Try.func21 (by decide +kernel) rfl (thas_n b x wx HB.out HX.out) rfl rfl (congrArg Value.bool (inS_has Ffk6.out hha)) rfl) <|
     hk (fun cx => cx.val (cx.wy rfl rfl rfl rfl (cx.u 1 rfl)) (ex_not (x := .tmp 99) rfl (cx.u 0 rfl)) rfl rfl rfl rfl) <|
     hk (fun cx => cx.val (cx.wy rfl rfl rfl rfl (cx.u 2 rfl)) (ex_pt rfl (cx.u 0 rfl) (cx.u 1 rfl)) rfl rfl rfl rfl) <|
     hk (fun cx => cx.v (ex_pf rfl (cx.u 0 rfl) (cx.u 1 rfl)) rfl rfl) <|
     hn) ?_
    intro a24 w24 f24
    refine wp_cond_false (f24.v 31 rfl rfl rfl) ?_
    refine wp_skip ?_
    have s3_122 := f24.q 3 (f22.q 3 (f21.q 3 (f20.q 3 (f19.q 3 (f6.q 3 (f1.q 3 s3_0))))))
    have s4_123 := f24.q 4 (f22.q 4 (f21.q 4 (f20.q 4 (f19.q 4 (f6.q 4 (f1.q 4 s4_0))))))
    have s5_124 := f24.q 5 (f22.q 5 (f21.q 5 (f20.q 5 (f19.q 5 (f6.q 5 (f1.q 5 s5_0))))))
    have s6_125 := f24.q 6 (f22.q 6 (f21.q 6 (f20.q 6 (f19.q 6 (f6.q 6 (f1.q 6 s6_0))))))
    have s7_126 := f24.q 7 (f22.q 7 (f21.q 7 (f20.q 7 (f19.q 7 (f6.q 7 (f1.q 7 s7_0))))))
    have s9_127 := f24.q 9 s9_120
    have s11_128 := f24.q 11 s11_118
    have s17_129 := f24.q 17 (f22.q 17 (f21.q 17 (f20.q 17 (f19.q 17 (f6.q 17 u_g4)))))
    have s19_130 := f24.q 19 s19_116
    have b_g1_131 := f24.k b_g1_114
    have b_g2_132 := f24.k b_g2_115
    have b_g3_133 := f24.k b_g3_112
    have b_g4_134 := f24.k (f22.k (f21.k (f20.k (f19.k (f6.k b_g4)))))
    have b_g5_135 := f24.k b_g5_111
    have b_g6_136 := f24.k b_g6_113
    exact ⟨f24.d, f24.z, f24.b, ⟨s3_122, s4_123, s5_124, s6_125, s7_126, s9_127, s11_128, s17_129, s19_130, trivial⟩, ⟨b_g1_131, b_g2_132, b_g3_133, b_g4_134, b_g5_135, b_g6_136, trivial⟩⟩
  rintro aL2 wL2 ⟨dL2, zL2, BL2, ⟨sL2_3, sL2_4, sL2_5, sL2_6, sL2_7, sL2_9, sL2_11, sL2_17, sL2_19, -⟩, ⟨bL2_g1, bL2_g2, bL2_g3, bL2_g4, bL2_g5, bL2_g6, -⟩⟩
  replace sL2_3 : aL2.tmps.getD 3 undef = .int .i64 lo := sL2_3
  replace sL2_4 : aL2.tmps.getD 4 undef = .int .i64 hi := sL2_4
  replace sL2_5 : aL2.tmps.getD 5 undef = .int .i64 p := sL2_5
  replace sL2_6 : aL2.tmps.getD 6 undef = .int .i64 size := sL2_6
  replace sL2_7 : aL2.tmps.getD 7 undef = .int .u64 (V v) := sL2_7
  replace sL2_9 : aL2.tmps.getD 9 undef = .pointer (some ⟨g1, 0, none⟩) := sL2_9
  replace sL2_11 : aL2.tmps.getD 11 undef = .pointer (some ⟨g3, 0, none⟩) := sL2_11
  replace sL2_17 : aL2.tmps.getD 17 undef = .pointer (some ⟨g4, 0, none⟩) := sL2_17
  replace sL2_19 : aL2.tmps.getD 19 undef = .bool true := sL2_19
  replace bL2_g1 : wL2.heap[g1]? = some (.cells (stC a) 35 (0, 0)) := bL2_g1
  replace bL2_g2 : wL2.heap[g2]? = some (.cells (stC b) 35 (0, 0)) := bL2_g2
  replace bL2_g3 : wL2.heap[g3]? = some (.cells (snC x) 39 (0, 0)) := bL2_g3
  replace bL2_g4 : wL2.heap[g4]? = some (.cells (tyC t) 31 (0, 0)) := bL2_g4
  replace bL2_g5 : wL2.heap[g5]? = some (.cells (stC (bothR jT a b)) 35 (0, 0)) := bL2_g5
  replace bL2_g6 : wL2.heap[g6]? = some (.cells (stC (bothR wT a b)) 35 (0, 0)) := bL2_g6
  refine wp_seq ?_
  refine go_reg [bx g1 35 (stC a)] [⟨8, 24, 31, (tyC tZ), some 9, (tyC (loadR a lo hi size))⟩] [some (.agg (stC a)), some (.int .i64 lo), some (.int .i64 hi), some (.int .i64 size), some (.tuple #[.agg (tyC (loadR a lo hi size)), .int .i64 (loadE a lo hi size)]), some (.tuple #[.agg (tyC (loadR a lo hi size)), .int .i64 (loadE a lo hi size)]), some (.agg (tyC (loadR a lo hi size))), some (.int .i64 (loadE a lo hi size)), none, none, some (.int .i64 (loadE a lo hi size))] mo dL2 zL2 BL2 (by kernel_rfl) ⟨bL2_g1, trivial⟩ (
   hk (fun cx => cx.v (ldSt rfl (cx.rq 9 sL2_9) (cx.rn 0 rfl)) rfl rfl) <|
   hk (fun cx => cx.v (ex_mv rfl (cx.rq 3 sL2_3)) rfl rfl) <|
   hk (fun cx => cx.v (ex_mv rfl (cx.rq 4 sL2_4)) rfl rfl) <|
   hk (fun cx => cx.v (ex_mv rfl (cx.rq 6 sL2_6)) rfl rfl) <|
   hc (fun _ _ wx cx => cx.c rfl (args4 (cx.u 0 rfl) (cx.u 1 rfl) (cx.u 2 rfl) (cx.u 3 rfl)) Try.func7 (by decide +kernel) (tload_n a lo hi size wx) rfl rfl) <|
   hk (fun cx => cx.v (ex_mv rfl (cx.u 0 rfl)) rfl rfl) <|
   hk (fun cx => cx.v (ex_ext (x := .tmp 103) rfl (cx.u 0 rfl) rfl) rfl rfl) <|
   hk (fun cx => cx.v (ex_ext (x := .tmp 103) rfl (cx.u 0 rfl) rfl) rfl rfl) <|
   hk (fun cx => cx.al (wn rfl) 0 rfl (al_ty rfl) rfl rfl rfl rfl (by kernel_rfl) trivial) <|
   hk (fun cx => cx.stA (wn rfl) rfl rfl 0 0 rfl rfl rfl rfl (cx.u 1 rfl) (by kernel_rfl) (Eq.refl 9) (tyC_one _) BL2.size rfl rfl trivial) <|
   hk (fun cx => cx.v (ex_as rfl (cx.u 0 rfl)) rfl rfl) <|
   hn) ?_
  intro a25 w25 f25
  obtain ⟨g7, u_g7, q_g7, b_g7⟩ := f25.al.1
  refine wp_seq ?_
  have b_g1_137 := f25.k bL2_g1
  have b_g4_138 := f25.k bL2_g4
  have s9_139 := f25.q 9 sL2_9
  have s3_140 := f25.q 3 sL2_3
  have s4_141 := f25.q 4 sL2_4
  have s6_142 := f25.q 6 sL2_6
  have s17_143 := f25.q 17 sL2_17
  refine go_reg [bx g1 35 (stC a), bx g4 31 (tyC t)] [⟨9, 26, 35, (stC zS), some 10, (stC (storeR a lo hi size t))⟩] [some (.agg (stC a)), some (.int .i64 lo), some (.int .i64 hi), some (.int .i64 size), some (.agg (tyC t)), some (.tuple #[.agg (stC (storeR a lo hi size t)), .int .i64 (storeE a lo hi size t)]), some (.tuple #[.agg (stC (storeR a lo hi size t)), .int .i64 (storeE a lo hi size t)]), some (.agg (stC (storeR a lo hi size t))), some (.int .i64 (storeE a lo hi size t)), none, none, some (.int .i64 (storeE a lo hi size t))] mo f25.d f25.z f25.b (by kernel_rfl) ⟨b_g1_137, b_g4_138, trivial⟩ (
   hk (fun cx => cx.v (ldSt rfl (cx.rq 9 s9_139) (cx.rn 0 rfl)) rfl rfl) <|
   hk (fun cx => cx.v (ex_mv rfl (cx.rq 3 s3_140)) rfl rfl) <|
   hk (fun cx => cx.v (ex_mv rfl (cx.rq 4 s4_141)) rfl rfl) <|
   hk (fun cx => cx.v (ex_mv rfl (cx.rq 6 s6_142)) rfl rfl) <|
   hk (fun cx => cx.v (ldTy rfl (cx.rq 17 s17_143) (cx.rn 1 rfl)) rfl rfl) <|
   hc (fun _ _ wx cx => cx.c rfl (args5 (cx.u 0 rfl) (cx.u 1 rfl) (cx.u 2 rfl) (cx.u 3 rfl) (cx.u 4 rfl)) Try.func9 (by decide +kernel) (tstore_n a lo hi size t wx) rfl rfl) <|
   hk (fun cx => cx.v (ex_mv rfl (cx.u 0 rfl)) rfl rfl) <|
   hk (fun cx => cx.v (ex_ext (x := .tmp 111) rfl (cx.u 0 rfl) rfl) rfl rfl) <|
   hk (fun cx => cx.v (ex_ext (x := .tmp 111) rfl (cx.u 0 rfl) rfl) rfl rfl) <|
   hk (fun cx => cx.al (wn rfl) 0 rfl (al_st rfl) rfl rfl rfl rfl (by kernel_rfl) trivial) <|
   hk (fun cx => cx.stA (wn rfl) rfl rfl 0 0 rfl rfl rfl rfl (cx.u 1 rfl) (st_info _) ((stC_size _).trans (stC_size _).symm) (stC_one _) f25.b.size rfl rfl trivial) <|
   hk (fun cx => cx.v (ex_as rfl (cx.u 0 rfl)) rfl rfl) <|
   hn) ?_
  intro a26 w26 f26
  obtain ⟨g8, u_g8, q_g8, b_g8⟩ := f26.al.1
  refine wp_seq ?_
  refine wp_seq ?_
  cases fk7 : (loadE a lo hi size) != 0
  case false =>
   have Ffk7 := Lib.hid fk7; clear fk7
   have hpl := load_ok Ffk7.out
   have hbd := place_bd hpl
   have hm : 0 < hi - lo + 1 := by omega
   have hm0 := Int.emod_nonneg p (show hi - lo + 1 ≠ 0 by omega)
   have hm1 := Int.emod_lt_of_pos p hm
   obtain ⟨q, eq_⟩ : ∃ q : Nat, lo + p % (hi - lo + 1) = (q : Int) := ⟨(lo + p % (hi - lo + 1)).toNat, by omega⟩
   have hq : lo ≤ (q : Int) ∧ (q : Int) ≤ hi := by omega
   obtain ⟨z, ez⟩ : ∃ z : Nat, size = (z : Int) := ⟨size.toNat, by omega⟩
   have hz : 1 ≤ z ∧ z ≤ 8 ∧ q + z ≤ 64 := by omega
   have s25_144 := f26.q 25 (f25.v 10 rfl rfl rfl)
   have s19_145 := f26.q 19 (f25.q 19 sL2_19)
   refine go_reg [] [] [some (.int .i64 (loadE a lo hi size)), some (.bool false), some (.bool false), some (.bool true), some (.bool false), some (.bool false)] mo f26.d f26.z f26.b (by kernel_rfl) trivial (
    hk (fun cx => cx.v (ex_mv rfl (cx.rq 25 s25_144)) rfl rfl) <|
    hk (fun cx => cx.v (ex_ne (x := .tmp 120) rfl (cx.u 0 rfl) rfl) rfl (congrArg Value.bool Ffk7.out)) <|
    hk (fun cx => cx.v (ex_mv rfl (cx.u 0 rfl)) rfl rfl) <|
    hk (fun cx => cx.val (cx.wy rfl rfl rfl rfl (cx.u 0 rfl)) (ex_mv rfl (cx.rq 19 s19_145)) rfl rfl rfl rfl) <|
    hk (fun cx => cx.val (cx.wy rfl rfl rfl rfl (cx.u 1 rfl)) (ex_not (x := .tmp 123) rfl (cx.u 0 rfl)) rfl rfl rfl rfl) <|
    hk (fun cx => cx.v (ex_pf rfl (cx.u 0 rfl) (cx.u 1 rfl)) rfl rfl) <|
    hn) ?_
   intro a27 w27 f27
   refine wp_cond_false (f27.v 5 rfl rfl rfl) ?_
   refine wp_skip ?_
   refine wp_seq ?_
   refine wp_seq ?_
   have s3_146 := f27.q 3 (f26.q 3 s3_140)
   have s4_147 := f27.q 4 (f26.q 4 s4_141)
   have s6_148 := f27.q 6 (f26.q 6 s6_142)
   refine go_reg [] [] [some (.int .i64 lo), some (.bool false), some (.bool false), some (.int .i64 hi), some (.int .i64 lo), some (.bool false), some (.bool false), some (.bool false), some (.int .i64 hi), some (.bool false), some (.bool false), some (.bool false), some (.int .i64 size), some (.bool false), some (.bool false), some (.bool false), some (.int .i64 size), some (.bool false), some (.bool false)] mo f27.d f27.z f27.b (by kernel_rfl) trivial (
    hk (fun cx => cx.v (ex_mv rfl (cx.rq 3 s3_146)) rfl rfl) <|
    hk (fun cx => cx.v (ex_lt (x := .tmp 127) rfl (cx.u 0 rfl) rfl) rfl (congrArg Value.bool (decide_eq_false (by omega)))) <|
    hk (fun cx => cx.v (ex_mv rfl (cx.u 0 rfl)) rfl rfl) <|
    hk (fun cx => cx.val (cx.wy rfl rfl rfl rfl (cx.u 0 rfl)) (ex_mv rfl (cx.rq 4 s4_147)) rfl rfl rfl rfl) <|
    hk (fun cx => cx.val (cx.wy rfl rfl rfl rfl (cx.u 0 rfl)) (ex_mv rfl (cx.rq 3 s3_146)) rfl rfl rfl rfl) <|
    hk (fun cx => cx.val (cx.wy rfl rfl rfl rfl (cx.u 2 rfl)) (ex_lt (x := .tmp 130) (y := .tmp 131) rfl (cx.u 0 rfl) (cx.u 1 rfl)) rfl rfl (congrArg Value.bool (decide_eq_false (by omega))) rfl) <|
    hk (fun cx => cx.v (ex_pf rfl (cx.u 0 rfl) (cx.u 1 rfl)) rfl rfl) <|
    hk (fun cx => cx.v (ex_mv rfl (cx.u 0 rfl)) rfl rfl) <|
    hk (fun cx => cx.val (cx.wy rfl rfl rfl rfl (cx.u 0 rfl)) (ex_mv rfl (cx.rq 4 s4_147)) rfl rfl rfl rfl) <|
    hk (fun cx => cx.val (cx.wy rfl rfl rfl rfl (cx.u 1 rfl)) (ex_gt (x := .tmp 135) rfl (cx.u 0 rfl) rfl) rfl rfl (congrArg Value.bool (decide_eq_false (by omega))) rfl) <|
    hk (fun cx => cx.v (ex_pf rfl (cx.u 0 rfl) (cx.u 1 rfl)) rfl rfl) <|
    hk (fun cx => cx.v (ex_mv rfl (cx.u 0 rfl)) rfl rfl) <|
    hk (fun cx => cx.val (cx.wy rfl rfl rfl rfl (cx.u 0 rfl)) (ex_mv rfl (cx.rq 6 s6_148)) rfl rfl rfl rfl) <|
    hk (fun cx => cx.val (cx.wy rfl rfl rfl rfl (cx.u 1 rfl)) (ex_lt (x := .tmp 139) rfl (cx.u 0 rfl) rfl) rfl rfl (congrArg Value.bool (decide_eq_false (by omega))) rfl) <|
    hk (fun cx => cx.v (ex_pf rfl (cx.u 0 rfl) (cx.u 1 rfl)) rfl rfl) <|
    hk (fun cx => cx.v (ex_mv rfl (cx.u 0 rfl)) rfl rfl) <|
    hk (fun cx => cx.val (cx.wy rfl rfl rfl rfl (cx.u 0 rfl)) (ex_mv rfl (cx.rq 6 s6_148)) rfl rfl rfl rfl) <|
    hk (fun cx => cx.val (cx.wy rfl rfl rfl rfl (cx.u 1 rfl)) (ex_gt (x := .tmp 143) rfl (cx.u 0 rfl) rfl) rfl rfl (congrArg Value.bool (decide_eq_false (by omega))) rfl) <|
    hk (fun cx => cx.v (ex_pf rfl (cx.u 0 rfl) (cx.u 1 rfl)) rfl rfl) <|
    hn) ?_
   intro a28 w28 f28
   refine wp_cond_false (f28.v 18 rfl rfl rfl) ?_
   refine wp_skip ?_
   refine wp_seq ?_
   have s3_149 := f28.q 3 s3_146
   have s5_150 := f28.q 5 (f27.q 5 (f26.q 5 (f25.q 5 sL2_5)))
   have s4_151 := f28.q 4 s4_147
   refine go_reg [] [] [some (.int .i64 lo), some (.int .i64 p), some (.int .i64 hi), some (.int .i64 lo), some (.int .i64 (hi - lo)), some (.int .i64 (hi - lo + 1)), some (.int .i64 (Int.tmod p (hi - lo + 1))), some (.int .i64 hi), some (.int .i64 (Int.tmod p (hi - lo + 1) + hi)), some (.int .i64 lo), some (.int .i64 (Int.tmod p (hi - lo + 1) + hi - lo)), some (.int .i64 (Int.tmod p (hi - lo + 1) + (hi - lo + 1))), some (.int .i64 hi), some (.int .i64 lo), some (.int .i64 (hi - lo)), some (.int .i64 (hi - lo + 1)), some (.int .i64 (p % (hi - lo + 1))), some (.int .i64 (q : Int)), some (.int .i64 (q : Int))] mo f28.d f28.z f28.b (by kernel_rfl) trivial (
    hk (fun cx => cx.v (ex_mv rfl (cx.rq 3 s3_149)) rfl rfl) <|
    hk (fun cx => cx.v (ex_mv rfl (cx.un 18 rfl rfl (by kernel_rfl) s5_150)) rfl rfl) <|
    hk (fun cx => cx.v (ex_mv rfl (cx.rq 4 s4_151)) rfl rfl) <|
    hk (fun cx => cx.v (ex_mv rfl (cx.rq 3 s3_149)) rfl rfl) <|
    hk (fun cx => cx.v (ex_sub (x := .tmp 148) (y := .tmp 149) rfl (cx.u 0 rfl) (cx.u 1 rfl)) rfl (congrArg (Value.int .i64) (by rw [IntKind.wrap_i64]; omega))) <|
    hk (fun cx => cx.v (ex_add (x := .tmp 150) rfl (cx.u 0 rfl) rfl) rfl (congrArg (Value.int .i64) (by rw [IntKind.wrap_i64]; omega))) <|
    hk (fun cx => cx.v (ex_remg (x := .tmp 147) (y := .tmp 151) rfl (cx.u 0 rfl) (cx.u 1 rfl) (by omega) (by omega)) rfl rfl) <|
    hk (fun cx => cx.v (ex_mv rfl (cx.rq 4 s4_151)) rfl rfl) <|
    hk (fun cx => cx.v (ex_add (x := .tmp 152) (y := .tmp 153) rfl (cx.u 0 rfl) (cx.u 1 rfl)) rfl (congrArg (Value.int .i64) (by have := tmod_bd p hm; rw [IntKind.wrap_i64]; omega))) <|
    hk (fun cx => cx.v (ex_mv rfl (cx.rq 3 s3_149)) rfl rfl) <|
    hk (fun cx => cx.v (ex_sub (x := .tmp 154) (y := .tmp 155) rfl (cx.u 0 rfl) (cx.u 1 rfl)) rfl (congrArg (Value.int .i64) (by have := tmod_bd p hm; rw [IntKind.wrap_i64]; omega))) <|
    hk (fun cx => cx.v (ex_add (x := .tmp 156) rfl (cx.u 0 rfl) rfl) rfl (congrArg (Value.int .i64) (by have := tmod_bd p hm; rw [IntKind.wrap_i64]; omega))) <|
    hk (fun cx => cx.v (ex_mv rfl (cx.rq 4 s4_151)) rfl rfl) <|
    hk (fun cx => cx.v (ex_mv rfl (cx.rq 3 s3_149)) rfl rfl) <|
    hk (fun cx => cx.v (ex_sub (x := .tmp 158) (y := .tmp 159) rfl (cx.u 0 rfl) (cx.u 1 rfl)) rfl (congrArg (Value.int .i64) (by rw [IntKind.wrap_i64]; omega))) <|
    hk (fun cx => cx.v (ex_add (x := .tmp 160) rfl (cx.u 0 rfl) rfl) rfl (congrArg (Value.int .i64) (by rw [IntKind.wrap_i64]; omega))) <|
    hk (fun cx => cx.v (v := .int .i64 (Int.tmod (Int.tmod p (hi - lo + 1) + (hi - lo + 1)) (hi - lo + 1))) (ex_remg (x := .tmp 157) (y := .tmp 161) rfl (cx.u 0 rfl) (cx.u 1 rfl) (by omega) (by omega)) rfl (congrArg (Value.int .i64) (mod_m p hm))) <|
    hk (fun cx => cx.v (ex_add (x := .tmp 146) (y := .tmp 162) rfl (cx.u 0 rfl) (cx.u 1 rfl)) rfl (congrArg (Value.int .i64) (by rw [eq_, IntKind.wrap_i64]; omega))) <|
    hk (fun cx => cx.v (ex_as rfl (cx.u 0 rfl)) rfl rfl) <|
    hn) ?_
   intro a29 w29 f29
   refine wp_seq ?_
   refine wp_seq ?_
   have s6_152 := f29.q 6 (f28.q 6 s6_148)
   refine go_reg [] [] [some (.int .i64 (q : Int)), some (.bool false), some (.bool false), some (.int .i64 (q : Int)), some (.int .i64 size), some (.int .i64 ((q : Int) + size)), some (.bool false), some (.bool false)] mo f29.d f29.z f29.b (by kernel_rfl) trivial (
    hk (fun cx => cx.v (ex_mv rfl (cx.rq 5 (f29.v 18 rfl rfl rfl))) rfl rfl) <|
    hk (fun cx => cx.v (ex_lt (x := .tmp 164) rfl (cx.u 0 rfl) rfl) rfl (congrArg Value.bool (decide_eq_false (by omega)))) <|
    hk (fun cx => cx.v (ex_mv rfl (cx.u 0 rfl)) rfl rfl) <|
    hk (fun cx => cx.val (cx.wy rfl rfl rfl rfl (cx.u 0 rfl)) (ex_mv rfl (cx.rq 5 (f29.v 18 rfl rfl rfl))) rfl rfl rfl rfl) <|
    hk (fun cx => cx.val (cx.wy rfl rfl rfl rfl (cx.u 0 rfl)) (ex_mv rfl (cx.rq 6 s6_152)) rfl rfl rfl rfl) <|
    hk (fun cx => cx.val (cx.wy rfl rfl rfl rfl (cx.u 2 rfl)) (ex_add (x := .tmp 167) (y := .tmp 168) rfl (cx.u 0 rfl) (cx.u 1 rfl)) rfl rfl (congrArg (Value.int .i64) (by rw [IntKind.wrap_i64]; omega)) rfl) <|
    hk (fun cx => cx.val (cx.wy rfl rfl rfl rfl (cx.u 1 rfl)) (ex_gt (x := .tmp 169) rfl (cx.u 0 rfl) rfl) rfl rfl (congrArg Value.bool (decide_eq_false (by omega))) rfl) <|
    hk (fun cx => cx.v (ex_pf rfl (cx.u 0 rfl) (cx.u 1 rfl)) rfl rfl) <|
    hn) ?_
   intro a30 w30 f30
   refine wp_cond_false (f30.v 7 rfl rfl rfl) ?_
   refine wp_skip ?_
   refine wp_seq ?_
   refine go_reg [] [] [some (.int .u64 0)] mo f30.d f30.z f30.b (by kernel_rfl) trivial (
    hk (fun cx => cx.v (ex_as rfl rfl) rfl rfl) <|
    hn) ?_
   intro a31 w31 f31
   refine wp_seq ?_
   refine wp_seq ?_
   have s6_153 := f31.q 6 (f30.q 6 s6_152)
   refine go_reg [] [] [some (.int .i64 size), some (.int .i64 (size - 1)), some (.int .i64 (size - 1))] mo f31.d f31.z f31.b (by kernel_rfl) trivial (
    hk (fun cx => cx.v (ex_mv rfl (cx.rq 6 s6_153)) rfl rfl) <|
    hk (fun cx => cx.v (ex_sub (x := .tmp 172) rfl (cx.u 0 rfl) rfl) rfl (congrArg (Value.int .i64) (by rw [IntKind.wrap_i64]; omega))) <|
    hk (fun cx => cx.v (ex_as rfl (cx.u 0 rfl)) rfl rfl) <|
    hn) ?_
   intro a32 w32 f32
   refine wp_block ?_
   have neL3_0_1 := neL2_0_1
   have neL3_0_2 := neL2_0_2
   have neL3_0_3 := neL2_0_3
   have neL3_0_4 := neL2_0_4
   have neL3_0_5 := neL2_0_5
   have neL3_0_6 := (ne_row bL2_g1 q_g7)
   have neL3_0_7 := (ne_row b_g1_137 q_g8)
   have neL3_1_2 := neL2_1_2
   have neL3_1_3 := neL2_1_3
   have neL3_1_4 := neL2_1_4
   have neL3_1_5 := neL2_1_5
   have neL3_1_6 := (ne_row bL2_g2 q_g7)
   have neL3_1_7 := (ne_row (f25.k bL2_g2) q_g8)
   have neL3_2_3 := neL2_2_3
   have neL3_2_4 := neL2_2_4
   have neL3_2_5 := neL2_2_5
   have neL3_2_6 := (ne_row bL2_g3 q_g7)
   have neL3_2_7 := (ne_row (f25.k bL2_g3) q_g8)
   have neL3_3_4 := neL2_3_4
   have neL3_3_5 := neL2_3_5
   have neL3_3_6 := (ne_row bL2_g4 q_g7)
   have neL3_3_7 := (ne_row b_g4_138 q_g8)
   have neL3_4_5 := neL2_4_5
   have neL3_4_6 := (ne_row bL2_g5 q_g7)
   have neL3_4_7 := (ne_row (f25.k bL2_g5) q_g8)
   have neL3_5_6 := (ne_row bL2_g6 q_g7)
   have neL3_5_7 := (ne_row (f25.k bL2_g6) q_g8)
   have neL3_6_7 := (ne_row b_g7 q_g8)
   have s5_154 := f32.q 5 (f31.q 5 (f30.q 5 (f29.v 18 rfl rfl rfl)))
   have s6_155 := f32.q 6 s6_153
   have s7_156 := f32.q 7 (f31.q 7 (f30.q 7 (f29.q 7 (f28.q 7 (f27.q 7 (f26.q 7 (f25.q 7 sL2_7)))))))
   have s11_157 := f32.q 11 (f31.q 11 (f30.q 11 (f29.q 11 (f28.q 11 (f27.q 11 (f26.q 11 (f25.q 11 sL2_11)))))))
   have s17_158 := f32.q 17 (f31.q 17 (f30.q 17 (f29.q 17 (f28.q 17 (f27.q 17 (f26.q 17 s17_143))))))
   have s24_159 := f32.q 24 (f31.q 24 (f30.q 24 (f29.q 24 (f28.q 24 (f27.q 24 (f26.q 24 u_g7))))))
   have s26_160 := f32.q 26 (f31.q 26 (f30.q 26 (f29.q 26 (f28.q 26 (f27.q 26 u_g8)))))
   have s27_161 := f32.q 27 (f31.q 27 (f30.q 27 (f29.q 27 (f28.q 27 (f27.q 27 (f26.v 11 rfl rfl rfl))))))
   have s28_162 := f32.q 28 (f31.v 0 rfl rfl rfl)
   have b_g1_163 := f32.k (f31.k (f30.k (f29.k (f28.k (f27.k (f26.k b_g1_137))))))
   have b_g2_164 := f32.k (f31.k (f30.k (f29.k (f28.k (f27.k (f26.k (f25.k bL2_g2)))))))
   have b_g3_165 := f32.k (f31.k (f30.k (f29.k (f28.k (f27.k (f26.k (f25.k bL2_g3)))))))
   have b_g4_166 := f32.k (f31.k (f30.k (f29.k (f28.k (f27.k (f26.k b_g4_138))))))
   have b_g5_167 := f32.k (f31.k (f30.k (f29.k (f28.k (f27.k (f26.k (f25.k bL2_g5)))))))
   have b_g6_168 := f32.k (f31.k (f30.k (f29.k (f28.k (f27.k (f26.k (f25.k bL2_g6)))))))
   have b_g7_169 := f32.k (f31.k (f30.k (f29.k (f28.k (f27.k (f26.k b_g7))))))
   have b_g8_170 := f32.k (f31.k (f30.k (f29.k (f28.k (f27.k b_g8)))))
   refine wp_count z (fun k1 aI wI => True ∧ Mid 223 W [(5, .int .i64 (q : Int)), (6, .int .i64 size), (7, .int .u64 (V v)), (11, .pointer (some ⟨g3, 0, none⟩)), (17, .pointer (some ⟨g4, 0, none⟩)), (24, .pointer (some ⟨g7, 0, none⟩)), (26, .pointer (some ⟨g8, 0, none⟩)), (27, .int .i64 (storeE a lo hi size t)), (28, .int .u64 (V (topN x.f q z k1))), (29, .int .i64 (size - 1 - (k1 : Int)))] [(g1, 35, (stC a)), (g2, 35, (stC b)), (g3, 39, (snC x)), (g4, 31, (tyC t)), (g5, 35, (stC (bothR jT a b))), (g6, 35, (stC (bothR wT a b))), (g7, 31, (tyC (loadR a lo hi size))), (g8, 35, (stC (storeR a lo hi size t)))] aI wI) ⟨trivial, f32.d, f32.z, f32.b, ⟨s5_154, s6_155, s7_156, s11_157, s17_158, s24_159, s26_160, s27_161, (s28_162.trans (congrArg (Value.int .u64) (top_0 _ _ _))), ((f32.v 2 rfl rfl rfl).trans (congrArg (Value.int .i64) (show size - 1 = size - 1 - ((0 : Nat) : Int) by omega))), trivial⟩, ⟨b_g1_163, b_g2_164, b_g3_165, b_g4_166, b_g5_167, b_g6_168, b_g7_169, b_g8_170, trivial⟩⟩ ?_
   intro k1 aL3 wL3 hlek1 hI3
   obtain ⟨hp1, dL3, zL3, BL3, ⟨sL3_5, sL3_6, sL3_7, sL3_11, sL3_17, sL3_24, sL3_26, sL3_27, sL3_28, sL3_29, -⟩, ⟨bL3_g1, bL3_g2, bL3_g3, bL3_g4, bL3_g5, bL3_g6, bL3_g7, bL3_g8, -⟩⟩ := hI3
   replace sL3_5 : aL3.tmps.getD 5 undef = .int .i64 (q : Int) := sL3_5
   replace sL3_6 : aL3.tmps.getD 6 undef = .int .i64 size := sL3_6
   replace sL3_7 : aL3.tmps.getD 7 undef = .int .u64 (V v) := sL3_7
   replace sL3_11 : aL3.tmps.getD 11 undef = .pointer (some ⟨g3, 0, none⟩) := sL3_11
   replace sL3_17 : aL3.tmps.getD 17 undef = .pointer (some ⟨g4, 0, none⟩) := sL3_17
   replace sL3_24 : aL3.tmps.getD 24 undef = .pointer (some ⟨g7, 0, none⟩) := sL3_24
   replace sL3_26 : aL3.tmps.getD 26 undef = .pointer (some ⟨g8, 0, none⟩) := sL3_26
   replace sL3_27 : aL3.tmps.getD 27 undef = .int .i64 (storeE a lo hi size t) := sL3_27
   replace sL3_28 : aL3.tmps.getD 28 undef = .int .u64 (V (topN x.f q z k1)) := sL3_28
   replace sL3_29 : aL3.tmps.getD 29 undef = .int .i64 (size - 1 - (k1 : Int)) := sL3_29
   replace bL3_g1 : wL3.heap[g1]? = some (.cells (stC a) 35 (0, 0)) := bL3_g1
   replace bL3_g2 : wL3.heap[g2]? = some (.cells (stC b) 35 (0, 0)) := bL3_g2
   replace bL3_g3 : wL3.heap[g3]? = some (.cells (snC x) 39 (0, 0)) := bL3_g3
   replace bL3_g4 : wL3.heap[g4]? = some (.cells (tyC t) 31 (0, 0)) := bL3_g4
   replace bL3_g5 : wL3.heap[g5]? = some (.cells (stC (bothR jT a b)) 35 (0, 0)) := bL3_g5
   replace bL3_g6 : wL3.heap[g6]? = some (.cells (stC (bothR wT a b)) 35 (0, 0)) := bL3_g6
   replace bL3_g7 : wL3.heap[g7]? = some (.cells (tyC (loadR a lo hi size)) 31 (0, 0)) := bL3_g7
   replace bL3_g8 : wL3.heap[g8]? = some (.cells (stC (storeR a lo hi size t)) 35 (0, 0)) := bL3_g8
   refine wp_seq ?_
   refine wp_seq ?_
   cases fk8 : decide (0 ≤ (size - 1 - (k1 : Int)))
   case true =>
    have Ffk8 := Lib.hid fk8; clear fk8
    have hlt1 : k1 < z := by have := Ffk8.out; simp only [decide_eq_true_eq] at this; omega
    refine go_reg [] [] [some (.int .i64 (size - 1 - (k1 : Int))), some (.bool true)] mo dL3 zL3 BL3 (by kernel_rfl) trivial (
     hk (fun cx => cx.v (ex_mv rfl (cx.rq 29 sL3_29)) rfl rfl) <|
     hk (fun cx => cx.v (ex_ge (x := .tmp 174) rfl (cx.u 0 rfl) rfl) rfl (congrArg Value.bool Ffk8.out)) <|
     hn) ?_
    intro a33 w33 f33
    refine wp_cond_true (f33.v 1 rfl rfl rfl) ?_
    refine wp_skip ?_
    refine wp_seq ?_
    refine wp_block ?_
    have b_g3_171 := f33.k bL3_g3
    have s28_172 := f33.q 28 sL3_28
    have s5_173 := f33.q 5 sL3_5
    have s29_174 := f33.q 29 sL3_29
    have s11_175 := f33.q 11 sL3_11
    refine go_reg [bx g3 39 (snC x)] [] [some (.int .u64 (V (topN x.f q z k1))), some (.int .u64 (V (topN x.f q z k1) * 2 ^ Int.toNat 8 % 18446744073709551616)), some (.int .i64 (q : Int)), some (.int .i64 (size - 1 - (k1 : Int))), some (.int .i64 ((q + (z - 1 - k1) : Nat) : Int)), some (pt g3 12), some (pt g3 (12 + (q + (z - 1 - k1)))), some (.int .u8 (x.f (q + (z - 1 - k1)))), some (.int .u64 (x.f (q + (z - 1 - k1)))), some (.int .u64 (V (topN x.f q z (k1 + 1)))), some (.int .u64 (V (topN x.f q z (k1 + 1))))] mo f33.d f33.z f33.b (by kernel_rfl) ⟨b_g3_171, trivial⟩ (
     hk (fun cx => cx.v (ex_mv rfl (cx.un 10 rfl rfl (by kernel_rfl) s28_172)) rfl rfl) <|
     hk (fun cx => cx.v (exec_shl (x := .tmp 178) rfl (cx.u 0 rfl) rfl (by decide) (by decide)) rfl rfl) <|
     hk (fun cx => cx.v (ex_mv rfl (cx.rq 5 s5_173)) rfl rfl) <|
     hk (fun cx => cx.v (ex_mv rfl (cx.rq 29 s29_174)) rfl rfl) <|
     hk (fun cx => cx.v (ex_add (x := .tmp 180) (y := .tmp 181) rfl (cx.u 0 rfl) (cx.u 1 rfl)) rfl (congrArg (Value.int .i64) (by rw [IntKind.wrap_i64]; omega))) <|
     hk (fun cx => cx.v (ex_fa rfl (cx.rq 11 s11_175) (faStateSoundW39_2_0 _ _)) rfl rfl) <|
     hk (fun cx => cx.v (ex_ia (n := 64) (sz := 1) rfl (cx.u 0 rfl) (cx.u 1 rfl) Try.underlying37 (by kernel_rfl) (by omega) (by omega) (by omega)) rfl rfl) <|
     hk (fun cx => cx.v (ldByte (by omega) rfl (cx.u 0 rfl) (cx.rn 0 rfl)) rfl rfl) <|
     hk (fun cx => cx.v (ex_conv (x := .tmp 185) rfl (cx.u 0 rfl) Try.underlying5 Try.underlying23) rfl (congrArg (Value.int .u64) (by have := HX.out.2 (q + (z - 1 - k1)) (by omega); rw [IntKind.wrap_u64]; omega))) <|
     hk (fun cx => cx.v (ex_or (x := .tmp 179) (y := .tmp 186) rfl (cx.u 0 rfl) (cx.u 1 rfl)) rfl (congrArg (Value.int .u64) (top_step hlt1 (by omega) (fun j hj => HX.out.2 _ (by omega))))) <|
     hk (fun cx => cx.v (ex_as rfl (cx.u 0 rfl)) rfl rfl) <|
     hn) ?_
    intro a34 w34 f34
    have s29_176 := f34.q 29 s29_174
    refine go_reg [] [] [some (.int .i64 (size - 1 - (k1 : Int))), some (.int .i64 (size - 1 - ((k1 + 1 : Nat) : Int))), some (.int .i64 (size - 1 - ((k1 + 1 : Nat) : Int)))] mo f34.d f34.z f34.b (by kernel_rfl) trivial (
     hk (fun cx => cx.v (ex_mv rfl (cx.un 2 rfl rfl (by kernel_rfl) s29_176)) rfl rfl) <|
     hk (fun cx => cx.v (ex_sub (x := .tmp 176) rfl (cx.u 0 rfl) rfl) rfl (congrArg (Value.int .i64) (by rw [IntKind.wrap_i64]; omega))) <|
     hk (fun cx => cx.v (ex_as rfl (cx.u 0 rfl)) rfl rfl) <|
     hn) ?_
    intro a35 w35 f35
    have s5_177 := f35.q 5 (f34.q 5 s5_173)
    have s6_178 := f35.q 6 (f34.q 6 (f33.q 6 sL3_6))
    have s7_179 := f35.q 7 (f34.q 7 (f33.q 7 sL3_7))
    have s11_180 := f35.q 11 (f34.q 11 s11_175)
    have s17_181 := f35.q 17 (f34.q 17 (f33.q 17 sL3_17))
    have s24_182 := f35.q 24 (f34.q 24 (f33.q 24 sL3_24))
    have s26_183 := f35.q 26 (f34.q 26 (f33.q 26 sL3_26))
    have s27_184 := f35.q 27 (f34.q 27 (f33.q 27 sL3_27))
    have s28_185 := f35.q 28 (f34.v 10 rfl rfl rfl)
    have b_g1_186 := f35.k (f34.k (f33.k bL3_g1))
    have b_g2_187 := f35.k (f34.k (f33.k bL3_g2))
    have b_g3_188 := f35.k (f34.k b_g3_171)
    have b_g4_189 := f35.k (f34.k (f33.k bL3_g4))
    have b_g5_190 := f35.k (f34.k (f33.k bL3_g5))
    have b_g6_191 := f35.k (f34.k (f33.k bL3_g6))
    have b_g7_192 := f35.k (f34.k (f33.k bL3_g7))
    have b_g8_193 := f35.k (f34.k (f33.k bL3_g8))
    exact ⟨hlt1, trivial, f35.d, f35.z, f35.b, ⟨s5_177, s6_178, s7_179, s11_180, s17_181, s24_182, s26_183, s27_184, s28_185, (f35.v 2 rfl rfl rfl), trivial⟩, ⟨b_g1_186, b_g2_187, b_g3_188, b_g4_189, b_g5_190, b_g6_191, b_g7_192, b_g8_193, trivial⟩⟩
   have Ffk8 := Lib.hid fk8; clear fk8
   have hge1 : k1 = z := by have := Ffk8.out; simp only [decide_eq_false_iff_not] at this; omega
   refine go_reg [] [] [some (.int .i64 (size - 1 - (k1 : Int))), some (.bool false)] mo dL3 zL3 BL3 (by kernel_rfl) trivial (
    hk (fun cx => cx.v (ex_mv rfl (cx.rq 29 sL3_29)) rfl rfl) <|
    hk (fun cx => cx.v (ex_ge (x := .tmp 174) rfl (cx.u 0 rfl) rfl) rfl (congrArg Value.bool Ffk8.out)) <|
    hn) ?_
   intro a36 w36 f36
   refine wp_cond_false (f36.v 1 rfl rfl rfl) ?_
   refine wp_exit ?_
   simp only [Exit.then, Exit.inBlock, if_true]
   refine wp_seq ?_
   refine wp_seq ?_
   have b_g7_194 := f36.k bL3_g7
   have s24_195 := f36.q 24 sL3_24
   have s28_196 := f36.q 28 sL3_28
   refine go_reg [bx g7 31 (tyC (loadR a lo hi size))] [] [some (.agg (tyC (loadR a lo hi size))), some (.int .u64 (V (topN x.f q z k1))), some (.bool true), some (.bool false)] mo f36.d f36.z f36.b (by kernel_rfl) ⟨b_g7_194, trivial⟩ (
    hk (fun cx => cx.v (ldTy rfl (cx.rq 24 s24_195) (cx.rn 0 rfl)) rfl rfl) <|
    hk (fun cx => cx.v (ex_mv rfl (cx.rq 28 s28_196)) rfl rfl) <|
    hc (fun _ _ wx cx => cx.c rfl (args2 (cx.u 0 rfl) (cx.u 1 rfl)) Try.func19 (by decide +kernel) (tholds_n (loadR a lo hi size) (topN x.f q z k1) wx (loadR_ok HA.out)) rfl (congrArg Value.bool (by unfold loadR; rw [hpl, if_pos rfl, hge1, top_full]; have h := load_has HX.out hha hpl (a := q) (by omega) (by omega); rw [show size.toNat = z by omega] at h; exact h))) <|
    hk (fun cx => cx.v (ex_not (x := .tmp 190) rfl (cx.u 0 rfl)) rfl rfl) <|
    hn) ?_
   intro a37 w37 f37
   refine wp_cond_false (f37.v 3 rfl rfl rfl) ?_
   refine wp_skip ?_
   refine wp_seq ?_
   refine wp_seq ?_
   cases fk9 : (storeE a lo hi size t) != 0
   case false =>
    have Ffk9 := Lib.hid fk9; clear fk9
    have hst := store_ok Ffk9.out
    cases fk10 : Ty.holdB t v
    case false =>
     have Ffk10 := Lib.hid fk10; clear fk10
     have b_g4_197 := f37.k (f36.k bL3_g4)
     have s27_198 := f37.q 27 (f36.q 27 sL3_27)
     have s17_199 := f37.q 17 (f36.q 17 sL3_17)
     have s7_200 := f37.q 7 (f36.q 7 sL3_7)
     refine go_reg [bx g4 31 (tyC t)] [] [some (.int .i64 (storeE a lo hi size t)), some (.bool false), some (.bool false), some (.agg (tyC t)), some (.int .u64 (V v)), some (.bool false), some (.bool true), some (.bool true)] mo f37.d f37.z f37.b (by kernel_rfl) ⟨b_g4_197, trivial⟩ (
      hk (fun cx => cx.v (ex_mv rfl (cx.rq 27 s27_198)) rfl rfl) <|
      hk (fun cx => cx.v (ex_ne (x := .tmp 192) rfl (cx.u 0 rfl) rfl) rfl (congrArg Value.bool Ffk9.out)) <|
      hk (fun cx => cx.v (ex_mv rfl (cx.u 0 rfl)) rfl rfl) <|
      hk (fun cx => cx.val (cx.wy rfl rfl rfl rfl (cx.u 0 rfl)) (ldTy rfl (cx.rq 17 s17_199) (cx.rn 0 rfl)) rfl rfl rfl rfl) <|
      hk (fun cx => cx.val (cx.wy rfl rfl rfl rfl (cx.u 0 rfl)) (ex_mv rfl (cx.rq 7 s7_200)) rfl rfl rfl rfl) <|
      hc (fun _ _ wx cx => cx.call (cx.wy rfl rfl rfl rfl (cx.u 2 rfl)) rfl rfl (args2 (cx.u 0 rfl) (cx.u 1 rfl)) Try.func19 (by decide +kernel) rfl (tholds_n t v wx HT.out) rfl rfl (congrArg Value.bool Ffk10.out) rfl) <|
      hk (fun cx => cx.val (cx.wy rfl rfl rfl rfl (cx.u 1 rfl)) (ex_not (x := .tmp 197) rfl (cx.u 0 rfl)) rfl rfl rfl rfl) <|
      hk (fun cx => cx.v (ex_pf rfl (cx.u 0 rfl) (cx.u 1 rfl)) rfl rfl) <|
      hn) ?_
     intro a38 w38 f38
     refine wp_cond_true (f38.v 7 rfl rfl rfl) ?_
     refine wp_seq ?_
     refine go_reg [] [] [some (.bool true), some (.bool true)] mo f38.d f38.z f38.b (by kernel_rfl) trivial (
      hc (fun _ _ wx cx => cx.c rfl (args0 ) Try.func23 (by decide +kernel) (wakes_n wx) rfl rfl) <|
      hk (fun cx => cx.v (ex_as rfl (cx.u 0 rfl)) rfl rfl) <|
      hn) ?_
     intro a39 w39 f39
     refine wp_ret ?_
     try simp only [Exit.inBlock, Exit.then]
     refine bodyPost_ret (res_t (fn := Try.f5) rfl (f39.v 1 rfl rfl rfl)) f39.d ?_
     exact ⟨rfl, f39.b⟩
    have Ffk10 := Lib.hid fk10; clear fk10
    have hhv := Ffk10.out
    have b_g4_201 := f37.k (f36.k bL3_g4)
    have s27_202 := f37.q 27 (f36.q 27 sL3_27)
    have s17_203 := f37.q 17 (f36.q 17 sL3_17)
    have s7_204 := f37.q 7 (f36.q 7 sL3_7)
    refine go_reg [bx g4 31 (tyC t)] [] [some (.int .i64 (storeE a lo hi size t)), some (.bool false), some (.bool false), some (.agg (tyC t)), some (.int .u64 (V v)), some (.bool true), some (.bool false), some (.bool false)] mo f37.d f37.z f37.b (by kernel_rfl) ⟨b_g4_201, trivial⟩ (
     hk (fun cx => cx.v (ex_mv rfl (cx.rq 27 s27_202)) rfl rfl) <|
     hk (fun cx => cx.v (ex_ne (x := .tmp 192) rfl (cx.u 0 rfl) rfl) rfl (congrArg Value.bool Ffk9.out)) <|
     hk (fun cx => cx.v (ex_mv rfl (cx.u 0 rfl)) rfl rfl) <|
     hk (fun cx => cx.val (cx.wy rfl rfl rfl rfl (cx.u 0 rfl)) (ldTy rfl (cx.rq 17 s17_203) (cx.rn 0 rfl)) rfl rfl rfl rfl) <|
     hk (fun cx => cx.val (cx.wy rfl rfl rfl rfl (cx.u 0 rfl)) (ex_mv rfl (cx.rq 7 s7_204)) rfl rfl rfl rfl) <|
     hc (fun _ _ wx cx => cx.call (cx.wy rfl rfl rfl rfl (cx.u 2 rfl)) rfl rfl (args2 (cx.u 0 rfl) (cx.u 1 rfl)) Try.func19 (by decide +kernel) rfl (tholds_n t v wx HT.out) rfl rfl (congrArg Value.bool Ffk10.out) rfl) <|
     hk (fun cx => cx.val (cx.wy rfl rfl rfl rfl (cx.u 1 rfl)) (ex_not (x := .tmp 197) rfl (cx.u 0 rfl)) rfl rfl rfl rfl) <|
     hk (fun cx => cx.v (ex_pf rfl (cx.u 0 rfl) (cx.u 1 rfl)) rfl rfl) <|
     hn) ?_
    intro a40 w40 f40
    refine wp_cond_false (f40.v 7 rfl rfl rfl) ?_
    refine wp_skip ?_
    refine wp_seq ?_
    refine wp_seq ?_
    refine go_reg [] [] [some (.int .i64 0)] mo f40.d f40.z f40.b (by kernel_rfl) trivial (
     hk (fun cx => cx.v (ex_as rfl rfl) rfl rfl) <|
     hn) ?_
    intro a41 w41 f41
    refine wp_block ?_
    have neL4_0_1 := neL3_0_1
    have neL4_0_2 := neL3_0_2
    have neL4_0_3 := neL3_0_3
    have neL4_0_4 := neL3_0_4
    have neL4_0_5 := neL3_0_5
    have neL4_0_6 := neL3_0_6
    have neL4_0_7 := neL3_0_7
    have neL4_1_2 := neL3_1_2
    have neL4_1_3 := neL3_1_3
    have neL4_1_4 := neL3_1_4
    have neL4_1_5 := neL3_1_5
    have neL4_1_6 := neL3_1_6
    have neL4_1_7 := neL3_1_7
    have neL4_2_3 := neL3_2_3
    have neL4_2_4 := neL3_2_4
    have neL4_2_5 := neL3_2_5
    have neL4_2_6 := neL3_2_6
    have neL4_2_7 := neL3_2_7
    have neL4_3_4 := neL3_3_4
    have neL4_3_5 := neL3_3_5
    have neL4_3_6 := neL3_3_6
    have neL4_3_7 := neL3_3_7
    have neL4_4_5 := neL3_4_5
    have neL4_4_6 := neL3_4_6
    have neL4_4_7 := neL3_4_7
    have neL4_5_6 := neL3_5_6
    have neL4_5_7 := neL3_5_7
    have neL4_6_7 := neL3_6_7
    have s5_205 := f41.q 5 (f40.q 5 (f37.q 5 (f36.q 5 sL3_5)))
    have s6_206 := f41.q 6 (f40.q 6 (f37.q 6 (f36.q 6 sL3_6)))
    have s7_207 := f41.q 7 (f40.q 7 s7_204)
    have s11_208 := f41.q 11 (f40.q 11 (f37.q 11 (f36.q 11 sL3_11)))
    have s26_209 := f41.q 26 (f40.q 26 (f37.q 26 (f36.q 26 sL3_26)))
    have b_g1_210 := f41.k (f40.k (f37.k (f36.k bL3_g1)))
    have b_g2_211 := f41.k (f40.k (f37.k (f36.k bL3_g2)))
    have b_g3_212 := f41.k (f40.k (f37.k (f36.k bL3_g3)))
    have b_g4_213 := f41.k (f40.k b_g4_201)
    have b_g5_214 := f41.k (f40.k (f37.k (f36.k bL3_g5)))
    have b_g6_215 := f41.k (f40.k (f37.k (f36.k bL3_g6)))
    have b_g7_216 := f41.k (f40.k (f37.k b_g7_194))
    have b_g8_217 := f41.k (f40.k (f37.k (f36.k bL3_g8)))
    refine wp_count z (fun k2 aI wI => True ∧ Mid 223 W [(5, .int .i64 (q : Int)), (6, .int .i64 size), (7, .int .u64 (V v)), (11, .pointer (some ⟨g3, 0, none⟩)), (26, .pointer (some ⟨g8, 0, none⟩)), (30, .int .i64 (k2 : Int))] [(g1, 35, (stC a)), (g2, 35, (stC b)), (g3, 39, (snC (Snp.put x q k2 v))), (g4, 31, (tyC t)), (g5, 35, (stC (bothR jT a b))), (g6, 35, (stC (bothR wT a b))), (g7, 31, (tyC (loadR a lo hi size))), (g8, 35, (stC (storeR a lo hi size t)))] aI wI) ⟨trivial, f41.d, f41.z, f41.b, ⟨s5_205, s6_206, s7_207, s11_208, s26_209, (f41.v 0 rfl rfl rfl), trivial⟩, ⟨b_g1_210, b_g2_211, (row_eq b_g3_212 (congrArg snC (put_0 x q v).symm)), b_g4_213, b_g5_214, b_g6_215, b_g7_216, b_g8_217, trivial⟩⟩ ?_
    intro k2 aL4 wL4 hlek2 hI4
    obtain ⟨hp2, dL4, zL4, BL4, ⟨sL4_5, sL4_6, sL4_7, sL4_11, sL4_26, sL4_30, -⟩, ⟨bL4_g1, bL4_g2, bL4_g3, bL4_g4, bL4_g5, bL4_g6, bL4_g7, bL4_g8, -⟩⟩ := hI4
    replace sL4_5 : aL4.tmps.getD 5 undef = .int .i64 (q : Int) := sL4_5
    replace sL4_6 : aL4.tmps.getD 6 undef = .int .i64 size := sL4_6
    replace sL4_7 : aL4.tmps.getD 7 undef = .int .u64 (V v) := sL4_7
    replace sL4_11 : aL4.tmps.getD 11 undef = .pointer (some ⟨g3, 0, none⟩) := sL4_11
    replace sL4_26 : aL4.tmps.getD 26 undef = .pointer (some ⟨g8, 0, none⟩) := sL4_26
    replace sL4_30 : aL4.tmps.getD 30 undef = .int .i64 (k2 : Int) := sL4_30
    replace bL4_g1 : wL4.heap[g1]? = some (.cells (stC a) 35 (0, 0)) := bL4_g1
    replace bL4_g2 : wL4.heap[g2]? = some (.cells (stC b) 35 (0, 0)) := bL4_g2
    replace bL4_g3 : wL4.heap[g3]? = some (.cells (snC (Snp.put x q k2 v)) 39 (0, 0)) := bL4_g3
    replace bL4_g4 : wL4.heap[g4]? = some (.cells (tyC t) 31 (0, 0)) := bL4_g4
    replace bL4_g5 : wL4.heap[g5]? = some (.cells (stC (bothR jT a b)) 35 (0, 0)) := bL4_g5
    replace bL4_g6 : wL4.heap[g6]? = some (.cells (stC (bothR wT a b)) 35 (0, 0)) := bL4_g6
    replace bL4_g7 : wL4.heap[g7]? = some (.cells (tyC (loadR a lo hi size)) 31 (0, 0)) := bL4_g7
    replace bL4_g8 : wL4.heap[g8]? = some (.cells (stC (storeR a lo hi size t)) 35 (0, 0)) := bL4_g8
    refine wp_seq ?_
    refine wp_seq ?_
    cases fk11 : decide ((k2 : Int) < size)
    case true =>
     have Ffk11 := Lib.hid fk11; clear fk11
     have hlt2 : k2 < z := by have := Ffk11.out; simp only [decide_eq_true_eq] at this; omega
     refine go_reg [] [] [some (.int .i64 (k2 : Int)), some (.int .i64 size), some (.bool true)] mo dL4 zL4 BL4 (by kernel_rfl) trivial (
      hk (fun cx => cx.v (ex_mv rfl (cx.rq 30 sL4_30)) rfl rfl) <|
      hk (fun cx => cx.v (ex_mv rfl (cx.rq 6 sL4_6)) rfl rfl) <|
      hk (fun cx => cx.v (ex_lt (x := .tmp 201) (y := .tmp 202) rfl (cx.u 0 rfl) (cx.u 1 rfl)) rfl (congrArg Value.bool Ffk11.out)) <|
      hn) ?_
     intro a42 w42 f42
     refine wp_cond_true (f42.v 2 rfl rfl rfl) ?_
     refine wp_skip ?_
     refine wp_seq ?_
     refine wp_block ?_
     have b_g3_218 := f42.k bL4_g3
     have s5_219 := f42.q 5 sL4_5
     have s30_220 := f42.q 30 sL4_30
     have s7_221 := f42.q 7 sL4_7
     have s11_222 := f42.q 11 sL4_11
     refine go_reg [⟨g3, 39, (snC (Snp.put x q k2 v)), some 11, (snC (upF (Snp.put x q k2 v) (q + k2) (byB v k2)))⟩] [] [some (.int .i64 (q : Int)), some (.int .i64 (k2 : Int)), some (.int .i64 ((q + k2 : Nat) : Int)), some (.int .u64 (V v)), some (.int .i64 (k2 : Int)), some (.int .i64 ((8 * k2 : Nat) : Int)), some (.int .u64 (V v / 2 ^ (8 * k2))), some (.int .u64 (byB v k2)), some (.int .u8 (byB v k2)), some (pt g3 12), some (pt g3 (12 + (q + k2))), none] mo f42.d f42.z f42.b (by kernel_rfl) ⟨b_g3_218, trivial⟩ (
      hk (fun cx => cx.v (ex_mv rfl (cx.rq 5 s5_219)) rfl rfl) <|
      hk (fun cx => cx.v (ex_mv rfl (cx.rq 30 s30_220)) rfl rfl) <|
      hk (fun cx => cx.v (ex_add (x := .tmp 206) (y := .tmp 207) rfl (cx.u 0 rfl) (cx.u 1 rfl)) rfl (congrArg (Value.int .i64) (by rw [IntKind.wrap_i64]; omega))) <|
      hk (fun cx => cx.v (ex_mv rfl (cx.rq 7 s7_221)) rfl rfl) <|
      hk (fun cx => cx.v (ex_mv rfl (cx.rq 30 s30_220)) rfl rfl) <|
      hk (fun cx => cx.v (ex_mul (y := .tmp 210) rfl rfl (cx.u 0 rfl)) rfl (congrArg (Value.int .i64) (by rw [IntKind.wrap_i64]; omega))) <|
      hk (fun cx => cx.v (v := .int .u64 (V v / 2 ^ Int.toNat ((8 * k2 : Nat) : Int))) (exec_shr (x := .tmp 209) (y := .tmp 211) rfl (cx.u 0 rfl) (cx.u 1 rfl) (by omega) (by omega)) rfl (congrArg (Value.int .u64) rfl)) <|
      hk (fun cx => cx.v (ex_and (x := .tmp 212) rfl (cx.u 0 rfl) rfl) rfl (congrArg (Value.int .u64) (and_255V _ (sh_bd v _).1 (sh_bd v _).2))) <|
      hk (fun cx => cx.v (ex_conv (x := .tmp 213) rfl (cx.u 0 rfl) Try.underlying23 Try.underlying5) rfl (congrArg (Value.int .u8) (by have := byB_bd v k2; rw [IntKind.wrap_u8]; omega))) <|
      hk (fun cx => cx.v (ex_fa rfl (cx.rq 11 s11_222) (faStateSoundW39_2_0 _ _)) rfl rfl) <|
      hk (fun cx => cx.v (ex_ia (n := 64) (sz := 1) rfl (cx.u 0 rfl) (cx.u 1 rfl) Try.underlying37 (by kernel_rfl) (by omega) (by omega) (by omega)) rfl rfl) <|
      hk (fun cx => cx.stC (wn rfl) rfl rfl 0 rfl (cx.u 0 rfl) (cx.u 1 rfl) rfl rfl (by kernel_rfl) (by rw [snC_size]; simp only [Nat.blt_eq]; omega) (snC_set _ (by omega) _) q_g3 rfl trivial trivial) <|
      hn) ?_
     intro a43 w43 f43
     have s30_223 := f43.q 30 s30_220
     refine go_reg [] [] [some (.int .i64 (k2 : Int)), some (.int .i64 ((k2 + 1 : Nat) : Int)), some (.int .i64 ((k2 + 1 : Nat) : Int))] mo f43.d f43.z f43.b (by kernel_rfl) trivial (
      hk (fun cx => cx.v (ex_mv rfl (cx.un 2 rfl rfl (by kernel_rfl) s30_223)) rfl rfl) <|
      hk (fun cx => cx.v (ex_add (x := .tmp 204) rfl (cx.u 0 rfl) rfl) rfl (congrArg (Value.int .i64) (wrapk hlt2 (by omega)))) <|
      hk (fun cx => cx.v (ex_as rfl (cx.u 0 rfl)) rfl rfl) <|
      hn) ?_
     intro a44 w44 f44
     have s5_224 := f44.q 5 (f43.q 5 s5_219)
     have s6_225 := f44.q 6 (f43.q 6 (f42.q 6 sL4_6))
     have s7_226 := f44.q 7 (f43.q 7 s7_221)
     have s11_227 := f44.q 11 (f43.q 11 s11_222)
     have s26_228 := f44.q 26 (f43.q 26 (f42.q 26 sL4_26))
     have b_g1_229 := f44.k (f43.kp (f42.k bL4_g1) ⟨.inr neL4_0_2, trivial⟩)
     have b_g2_230 := f44.k (f43.kp (f42.k bL4_g2) ⟨.inr neL4_1_2, trivial⟩)
     have b_g3_231 := f44.k f43.rows.1
     have b_g4_232 := f44.k (f43.kp (f42.k bL4_g4) ⟨.inr neL4_2_3.symm, trivial⟩)
     have b_g5_233 := f44.k (f43.kp (f42.k bL4_g5) ⟨.inr neL4_2_4.symm, trivial⟩)
     have b_g6_234 := f44.k (f43.kp (f42.k bL4_g6) ⟨.inr neL4_2_5.symm, trivial⟩)
     have b_g7_235 := f44.k (f43.kp (f42.k bL4_g7) ⟨.inr neL4_2_6.symm, trivial⟩)
     have b_g8_236 := f44.k (f43.kp (f42.k bL4_g8) ⟨.inr neL4_2_7.symm, trivial⟩)
     exact ⟨hlt2, trivial, f44.d, f44.z, f44.b, ⟨s5_224, s6_225, s7_226, s11_227, s26_228, (f44.v 2 rfl rfl rfl), trivial⟩, ⟨b_g1_229, b_g2_230, (row_eq b_g3_231 (congrArg snC (put_step x q k2 v))), b_g4_232, b_g5_233, b_g6_234, b_g7_235, b_g8_236, trivial⟩⟩
    have Ffk11 := Lib.hid fk11; clear fk11
    have hge2 : k2 = z := by have := Ffk11.out; simp only [decide_eq_false_iff_not] at this; omega
    refine go_reg [] [] [some (.int .i64 (k2 : Int)), some (.int .i64 size), some (.bool false)] mo dL4 zL4 BL4 (by kernel_rfl) trivial (
     hk (fun cx => cx.v (ex_mv rfl (cx.rq 30 sL4_30)) rfl rfl) <|
     hk (fun cx => cx.v (ex_mv rfl (cx.rq 6 sL4_6)) rfl rfl) <|
     hk (fun cx => cx.v (ex_lt (x := .tmp 201) (y := .tmp 202) rfl (cx.u 0 rfl) (cx.u 1 rfl)) rfl (congrArg Value.bool Ffk11.out)) <|
     hn) ?_
    intro a45 w45 f45
    refine wp_cond_false (f45.v 2 rfl rfl rfl) ?_
    refine wp_exit ?_
    simp only [Exit.then, Exit.inBlock, if_true]
    refine wp_seq ?_
    have b_g8_237 := f45.k bL4_g8
    have b_g3_238 := f45.k bL4_g3
    have s26_239 := f45.q 26 sL4_26
    have s11_240 := f45.q 11 sL4_11
    refine go_reg [bx g8 35 (stC (storeR a lo hi size t)), bx g3 39 (snC (Snp.put x q k2 v))] [] [some (.agg (stC (storeR a lo hi size t))), some (.agg (snC (Snp.put x q k2 v))), some (.bool true), some (.bool true), some (.bool true), some (.bool true), some (.bool true)] mo f45.d f45.z f45.b (by kernel_rfl) ⟨b_g8_237, b_g3_238, trivial⟩ (
     hk (fun cx => cx.v (ldSt rfl (cx.rq 26 s26_239) (cx.rn 0 rfl)) rfl rfl) <|
     hk (fun cx => cx.v (ldSn rfl (cx.rq 11 s11_240) (cx.rn 1 rfl)) rfl rfl) <|
     hc (fun _ _ wx cx => cx.c rfl (args2 (cx.u 0 rfl) (cx.u 1 rfl)) Try.func21 (by decide +kernel) (thas_n (storeR a lo hi size t) (Snp.put x q k2 v) wx (storeR_ok HA.out HT.out) (put_Ok HX.out _ _ _)) rfl (congrArg Value.bool (by unfold storeR; rw [hst, if_pos rfl, hge2]; have h := store_has hha hst (a := q) (by omega) (by omega) hhv; rw [show size.toNat = z by omega] at h; exact h))) <|
     hk (fun cx => cx.v (ex_mv rfl (cx.u 0 rfl)) rfl rfl) <|
     hc (fun _ _ wx cx => cx.call (cx.wy rfl rfl rfl rfl (cx.u 0 rfl)) rfl rfl (args0 ) Try.func23 (by decide +kernel) rfl (wakes_n wx) rfl rfl rfl rfl) <|
     hk (fun cx => cx.v (ex_pt rfl (cx.u 0 rfl) (cx.u 1 rfl)) rfl rfl) <|
     hk (fun cx => cx.v (ex_as rfl (cx.u 0 rfl)) rfl rfl) <|
     hn) ?_
    intro a46 w46 f46
    refine wp_ret ?_
    try simp only [Exit.inBlock, Exit.then]
    refine bodyPost_ret (res_t (fn := Try.f5) rfl (f46.v 6 rfl rfl rfl)) f46.d ?_
    exact ⟨rfl, f46.b⟩
   have Ffk9 := Lib.hid fk9; clear fk9
   have s27_241 := f37.q 27 (f36.q 27 sL3_27)
   refine go_reg [] [] [some (.int .i64 (storeE a lo hi size t)), some (.bool true), some (.bool true), some (undef), some (undef), some (undef), some (undef), some (.bool true)] mo f37.d f37.z f37.b (by kernel_rfl) trivial (
    hk (fun cx => cx.v (ex_mv rfl (cx.rq 27 s27_241)) rfl rfl) <|
    hk (fun cx => cx.v (ex_ne (x := .tmp 192) rfl (cx.u 0 rfl) rfl) rfl (congrArg Value.bool Ffk9.out)) <|
    hk (fun cx => cx.v (ex_mv rfl (cx.u 0 rfl)) rfl rfl) <|
    hk (fun cx => cx.no (cx.wo rfl rfl rfl rfl (cx.u 0 rfl) rfl) rfl rfl rfl rfl) <|
    hk (fun cx => cx.no (cx.wo rfl rfl rfl rfl (cx.u 0 rfl) rfl) rfl rfl rfl rfl) <|
    hk (fun cx => cx.no (cx.wo rfl rfl rfl rfl (cx.u 2 rfl) rfl) rfl rfl rfl rfl) <|
    hk (fun cx => cx.no (cx.wo rfl rfl rfl rfl (cx.u 1 rfl) rfl) rfl rfl rfl rfl) <|
    hk (fun cx => cx.v (ex_pt rfl (cx.u 0 rfl) rfl) rfl rfl) <|
    hn) ?_
   intro a47 w47 f47
   refine wp_cond_true (f47.v 7 rfl rfl rfl) ?_
   refine wp_seq ?_
   refine go_reg [] [] [some (.bool true), some (.bool true)] mo f47.d f47.z f47.b (by kernel_rfl) trivial (
    hc (fun _ _ wx cx => cx.c rfl (args0 ) Try.func23 (by decide +kernel) (wakes_n wx) rfl rfl) <|
    hk (fun cx => cx.v (ex_as rfl (cx.u 0 rfl)) rfl rfl) <|
    hn) ?_
   intro a48 w48 f48
   refine wp_ret ?_
   try simp only [Exit.inBlock, Exit.then]
   refine bodyPost_ret (res_t (fn := Try.f5) rfl (f48.v 1 rfl rfl rfl)) f48.d ?_
   exact ⟨rfl, f48.b⟩
  have Ffk7 := Lib.hid fk7; clear fk7
  have s25_242 := f26.q 25 (f25.v 10 rfl rfl rfl)
  refine go_reg [] [] [some (.int .i64 (loadE a lo hi size)), some (.bool true), some (.bool true), some (undef), some (undef), some (.bool true)] mo f26.d f26.z f26.b (by kernel_rfl) trivial (
   hk (fun cx => cx.v (ex_mv rfl (cx.rq 25 s25_242)) rfl rfl) <|
   hk (fun cx => cx.v (ex_ne (x := .tmp 120) rfl (cx.u 0 rfl) rfl) rfl (congrArg Value.bool Ffk7.out)) <|
   hk (fun cx => cx.v (ex_mv rfl (cx.u 0 rfl)) rfl rfl) <|
   hk (fun cx => cx.no (cx.wo rfl rfl rfl rfl (cx.u 0 rfl) rfl) rfl rfl rfl rfl) <|
   hk (fun cx => cx.no (cx.wo rfl rfl rfl rfl (cx.u 1 rfl) rfl) rfl rfl rfl rfl) <|
   hk (fun cx => cx.v (ex_pt rfl (cx.u 0 rfl) rfl) rfl rfl) <|
   hn) ?_
  intro a49 w49 f49
  refine wp_cond_true (f49.v 5 rfl rfl rfl) ?_
  refine wp_seq ?_
  refine go_reg [] [] [some (.bool true), some (.bool true)] mo f49.d f49.z f49.b (by kernel_rfl) trivial (
   hc (fun _ _ wx cx => cx.c rfl (args0 ) Try.func23 (by decide +kernel) (wakes_n wx) rfl rfl) <|
   hk (fun cx => cx.v (ex_as rfl (cx.u 0 rfl)) rfl rfl) <|
   hn) ?_
  intro a50 w50 f50
  refine wp_ret ?_
  try simp only [Exit.inBlock, Exit.then]
  refine bodyPost_ret (res_t (fn := Try.f5) rfl (f50.v 1 rfl rfl rfl)) f50.d ?_
  exact ⟨rfl, f50.b⟩
theorem sound_law (a b : St) (x : Snp) (lo hi p size v : Int) (t : Ty) (W : World) (ha : OkS a) (hb : OkS b) (hx : x.Ok) (h1 : (Lit.int .i64 lo).wf = true) (h2 : (Lit.int .i64 hi).wf = true) (h3 : (Lit.int .i64 p).wf = true) (h4 : (Lit.int .i64 size).wf = true) (h5 : (Lit.int .u64 v).wf = true) (ht : t.Ok) :
    Calls Try.prog 5 #[.agg (stC a), .agg (stC b), .agg (snC x), .int .i64 lo, .int .i64 hi, .int .i64 p, .int .i64 size, .int .u64 v, .agg (tyC t)] W fun e w' => e = .returned (.bool true) ∧ Below W.heap.size W w' := by
  have hv : 0 ≤ v ∧ v ≤ 18446744073709551615 := by simpa [Lit.wf, IntKind.min, IntKind.max, IntKind.bits, IntKind.signed] using h5
  have e : v = V (Bk v) := (V_Bk hv.1 (by omega)).symm
  rw [e]
  exact sound_law0 a b x lo hi p size (Bk v) t W ha hb hx ht
end Go.Proofs.Ytcnneeimkcnjfaa.Sta
