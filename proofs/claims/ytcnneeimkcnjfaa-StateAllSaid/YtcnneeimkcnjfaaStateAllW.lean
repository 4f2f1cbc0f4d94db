/-
  StateAll: what is known of nothing holds all that has its registers set. (Written by gen_stateallw.py.)
-/
import Derived.Test.YtcnneeimkcnjfaaStW
import Derived.Test.YtcnneeimkcnjfaaStI
import Derived.Test.YtcnneeimkcnjfaaStP
import Derived.Test.YtcnneeimkcnjfaaStF
namespace Go.Proofs.Ytcnneeimkcnjfaa.Sta
open Go.RowKit Bnd Knw
set_option linter.unusedVariables false
set_option linter.unusedSimpArgs false
set_option linter.unnecessarySimpa false
set_option maxRecDepth 100000
theorem faStateAllW35_0_0 (g : Nat) (w : World) : (Instr.fieldAt 35 (.pointer (some ⟨g, 0, none⟩)) 0).run Try.prog w = .ok (.pointer (some ⟨g, 0, none⟩)) w := by simp [go_sem]
theorem faStateAllW35_1_0 (g : Nat) (w : World) : (Instr.fieldAt 35 (.pointer (some ⟨g, 0, none⟩)) 1).run Try.prog w = .ok (.pointer (some ⟨g, 99, none⟩)) w := by simp [go_sem]
theorem faStateAllW39_1_0 (g : Nat) (w : World) : (Instr.fieldAt 39 (.pointer (some ⟨g, 0, none⟩)) 1).run Try.prog w = .ok (.pointer (some ⟨g, 11, none⟩)) w := by simp [go_sem]
theorem fxStateAllW31_0 (g o : Nat) (w : World) : (Instr.fieldAt 31 (.pointer (some ⟨g, o, none⟩)) 0).run Try.prog w = .ok (.pointer (some ⟨g, o, none⟩)) w := by simp [go_sem]
theorem ex_rem {ρ : Operand → Value} {o : Oper} {w : World} {t z : TypeId} {x y : Operand} (ho : o.op = .binOp .rem t x y z) {a : Int} (hx : ρ x = .int .i64 a) (hy : ρ y = .int .i64 11) : (execOp ρ o).run Try.prog w = .ok (.value (.int .i64 (Int.tmod a 11))) w := by
  simp [execOp, ho, hx, hy, go_sem]
theorem tm_bd (n : Int) : -11 < Int.tmod n 11 ∧ Int.tmod n 11 < 11 := ⟨by have := Int.lt_tmod_of_pos n (show (0 : Int) < 11 by decide); omega, Int.tmod_lt_of_pos n (by decide)⟩
theorem fill_all (a : St) {k1 k2 : Nat} (h : k2 = 8) : fillT (scaleS a 11) 11 k2 allT = allA a := by rw [h]; rfl
theorem set_e (a : St) (x : Snp) {k : Nat} (h : k = 11) : allN (setP a x) k = allN (setP a x) 11 := by rw [h]
theorem z_tok : tZ.Ok := pt_ok (by decide) (by decide) (by decide) (by decide) (by decide) (by decide)
theorem allA_Ok {a : St} (h : OkS a) : OkS (allA a) := fun i hi => by
  unfold allA fillT scaleS
  split
  · exact allT_ok
  split
  · exact allT_ok
  · exact h i hi
set_option maxHeartbeats 4000000 in
theorem all_law (a : St) (x : Snp) (n : Int) (W : World) (ha : OkS a) (hx : x.Ok) (hn : (Lit.int .i64 n).wf = true) : Calls Try.prog 6 #[.agg (stC a), .agg (snC x), .int .i64 n] W fun e w' => e = .returned (.bool true) ∧ Below W.heap.size W w' := by
  have HA := Lib.hid ha
  have HX := Lib.hid hx
  clear ha hx hn
  refine calls_abs Try.func6 rfl (Nat.le_of_ble_eq_true rfl) ?_
  intro a0 d0 z0 h0
  replace z0 : a0.tmps.size = 102 := z0
  have s0_0 : a0.tmps.getD 0 undef = .agg (stC a) := h0 0 (Nat.le_of_ble_eq_true rfl)
  have s1_0 : a0.tmps.getD 1 undef = .agg (snC x) := h0 1 (Nat.le_of_ble_eq_true rfl)
  have s2_0 : a0.tmps.getD 2 undef = .int .i64 n := h0 2 (Nat.le_of_ble_eq_true rfl)
  refine wp_seq ?_
  refine go_reg [] [⟨0, 3, 35, (stC a), none, #[]⟩, ⟨1, 4, 39, (snC x), none, #[]⟩] [none, none, some (.bool false)] mo d0 z0 (Below.refl _ _) (by kernel_rfl) trivial (
   hk (fun cx => cx.al (wn rfl) 0 rfl (ex_box rfl (cx.rq 0 s0_0) rfl) rfl rfl rfl rfl rfl trivial) <|
   hk (fun cx => cx.al (wn rfl) 1 rfl (ex_box rfl (cx.rq 1 s1_0) rfl) rfl rfl rfl rfl rfl trivial) <|
   hk (fun cx => cx.v (ex_as rfl rfl) rfl rfl) <|
   hn) ?_
  intro a1 w1 f1
  obtain ⟨g1, u_g1, q_g1, b_g1⟩ := f1.al.1
  obtain ⟨g2, u_g2, q_g2, b_g2⟩ := f1.al.2.1
  refine wp_seq ?_
  refine wp_seq ?_
  cases fk1 : okS a
  case false =>
   have Ffk1 := Lib.hid fk1; clear fk1
   refine go_reg [bx g1 35 (stC a)] [] [some (.agg (stC a)), some (.bool false), some (.bool true)] mo f1.d f1.z f1.b (by kernel_rfl) ⟨b_g1, trivial⟩ (
    hk (fun cx => cx.v (ldSt rfl (cx.rq 3 u_g1) (cx.rn 0 rfl)) rfl rfl) <|
    hc (fun _ _ wx cx => cx.c rfl (args1 (cx.u 0 rfl)) Try.func16 (by decide +kernel) (qmay_n a wx) rfl (congrArg Value.bool Ffk1.out)) <|
    hk (fun cx => cx.v (ex_not (x := .tmp 14) rfl (cx.u 0 rfl)) rfl rfl) <|
    hn) ?_
   intro a2 w2 f2
   refine wp_cond_true (f2.v 2 rfl rfl rfl) ?_
   refine wp_seq ?_
   refine go_reg [] [] [some (.bool true), some (.bool true)] mo f2.d f2.z f2.b (by kernel_rfl) trivial (
    hc (fun _ _ wx cx => cx.c rfl (args0 ) Try.func23 (by decide +kernel) (wakes_n wx) rfl rfl) <|
    hk (fun cx => cx.v (ex_as rfl (cx.u 0 rfl)) rfl rfl) <|
    hn) ?_
   intro a3 w3 f3
   refine wp_ret ?_
   try simp only [Exit.inBlock, Exit.then]
   refine bodyPost_ret (res_t (fn := Try.f6) rfl (f3.v 1 rfl rfl rfl)) f3.d ?_
   exact ⟨rfl, f3.b⟩
  have Ffk1 := Lib.hid fk1; clear fk1
  have hoa := Ffk1.out
  have hj11 : (n % 11).toNat < 11 := by omega
  refine go_reg [bx g1 35 (stC a)] [] [some (.agg (stC a)), some (.bool true), some (.bool false)] mo f1.d f1.z f1.b (by kernel_rfl) ⟨b_g1, trivial⟩ (
   hk (fun cx => cx.v (ldSt rfl (cx.rq 3 u_g1) (cx.rn 0 rfl)) rfl rfl) <|
   hc (fun _ _ wx cx => cx.c rfl (args1 (cx.u 0 rfl)) Try.func16 (by decide +kernel) (qmay_n a wx) rfl (congrArg Value.bool Ffk1.out)) <|
   hk (fun cx => cx.v (ex_not (x := .tmp 14) rfl (cx.u 0 rfl)) rfl rfl) <|
   hn) ?_
  intro a4 w4 f4
  refine wp_cond_false (f4.v 2 rfl rfl rfl) ?_
  refine wp_skip ?_
  refine wp_seq ?_
  have b_g1_1 := f4.k b_g1
  have s3_2 := f4.q 3 u_g1
  refine go_reg [bx g1 35 (stC a)] [⟨1, 7, 35, (stC zS), some 2, (stC a)⟩] [some (.agg (stC a)), none, none] mo f4.d f4.z f4.b (by kernel_rfl) ⟨b_g1_1, trivial⟩ (
   hk (fun cx => cx.v (ldSt rfl (cx.rq 3 s3_2) (cx.rn 0 rfl)) rfl rfl) <|
   hk (fun cx => cx.al (wn rfl) 0 rfl (al_st rfl) rfl rfl rfl rfl (by kernel_rfl) trivial) <|
   hk (fun cx => cx.stA (wn rfl) rfl rfl 0 0 rfl rfl rfl rfl (cx.u 1 rfl) (st_info _) ((stC_size _).trans (stC_size _).symm) (stC_one _) f4.b.size rfl rfl trivial) <|
   hn) ?_
  intro a5 w5 f5
  obtain ⟨g3, u_g3, q_g3, b_g3⟩ := f5.al.1
  refine wp_seq ?_
  refine wp_seq ?_
  refine go_reg [] [] [some (.int .i64 0)] mo f5.d f5.z f5.b (by kernel_rfl) trivial (
   hk (fun cx => cx.v (ex_as rfl rfl) rfl rfl) <|
   hn) ?_
  intro a6 w6 f6
  refine wp_block ?_
  have neL1_0_1 := (ne_ptr (pairAt f1.ps 0 1 (by decide) rfl rfl) u_g1 u_g2)
  have neL1_0_2 := (ne_row b_g1_1 q_g3)
  have neL1_1_2 := (ne_row (f4.k b_g2) q_g3)
  have s2_3 := f6.q 2 (f5.q 2 (f4.q 2 (f1.q 2 s2_0)))
  have s3_4 := f6.q 3 (f5.q 3 s3_2)
  have s4_5 := f6.q 4 (f5.q 4 (f4.q 4 u_g2))
  have s6_6 := f6.q 6 (f5.q 6 (f4.q 6 (f1.v 2 rfl rfl rfl)))
  have s7_7 := f6.q 7 u_g3
  have b_g1_8 := f6.k (f5.k b_g1_1)
  have b_g2_9 := f6.k (f5.k (f4.k b_g2))
  have b_g3_10 := f6.k b_g3
  refine wp_count 11 (fun k1 aI wI => True ∧ Mid 102 W [(2, .int .i64 n), (3, .pointer (some ⟨g1, 0, none⟩)), (4, .pointer (some ⟨g2, 0, none⟩)), (6, .bool false), (7, .pointer (some ⟨g3, 0, none⟩)), (8, .int .i64 (k1 : Int))] [(g1, 35, (stC a)), (g2, 39, (snC x)), (g3, 35, (stC (scaleS a k1)))] aI wI) ⟨trivial, f6.d, f6.z, f6.b, ⟨s2_3, s3_4, s4_5, s6_6, s7_7, (f6.v 0 rfl rfl rfl), trivial⟩, ⟨b_g1_8, b_g2_9, (row_eq b_g3_10 (congrArg stC (scale_0 a).symm)), trivial⟩⟩ ?_
  intro k1 aL1 wL1 hlek1 hI1
  obtain ⟨hp1, dL1, zL1, BL1, ⟨sL1_2, sL1_3, sL1_4, sL1_6, sL1_7, sL1_8, -⟩, ⟨bL1_g1, bL1_g2, bL1_g3, -⟩⟩ := hI1
  replace sL1_2 : aL1.tmps.getD 2 undef = .int .i64 n := sL1_2
  replace sL1_3 : aL1.tmps.getD 3 undef = .pointer (some ⟨g1, 0, none⟩) := sL1_3
  replace sL1_4 : aL1.tmps.getD 4 undef = .pointer (some ⟨g2, 0, none⟩) := sL1_4
  replace sL1_6 : aL1.tmps.getD 6 undef = .bool false := sL1_6
  replace sL1_7 : aL1.tmps.getD 7 undef = .pointer (some ⟨g3, 0, none⟩) := sL1_7
  replace sL1_8 : aL1.tmps.getD 8 undef = .int .i64 (k1 : Int) := sL1_8
  replace bL1_g1 : wL1.heap[g1]? = some (.cells (stC a) 35 (0, 0)) := bL1_g1
  replace bL1_g2 : wL1.heap[g2]? = some (.cells (snC x) 39 (0, 0)) := bL1_g2
  replace bL1_g3 : wL1.heap[g3]? = some (.cells (stC (scaleS a k1)) 35 (0, 0)) := bL1_g3
  refine wp_seq ?_
  refine wp_seq ?_
  cases fk2 : decide ((k1 : Int) < 11)
  case true =>
   have Ffk2 := Lib.hid fk2; clear fk2
   have hlt1 : k1 < 11 := by have := Ffk2.out; simp only [decide_eq_true_eq] at this; omega
   refine go_reg [] [] [some (.int .i64 (k1 : Int)), some (.bool true)] mo dL1 zL1 BL1 (by kernel_rfl) trivial (
    hk (fun cx => cx.v (ex_mv rfl (cx.rq 8 sL1_8)) rfl rfl) <|
    hk (fun cx => cx.v (ex_lt (x := .tmp 18) rfl (cx.u 0 rfl) rfl) rfl (congrArg Value.bool Ffk2.out)) <|
    hn) ?_
   intro a7 w7 f7
   refine wp_cond_true (f7.v 1 rfl rfl rfl) ?_
   refine wp_skip ?_
   refine wp_seq ?_
   refine wp_block ?_
   refine wp_seq ?_
   cases fk3 : (a k1).kd != 0
   case false =>
    have Ffk3 := Lib.hid fk3; clear fk3
    have b_g1_11 := f7.k bL1_g1
    have s8_12 := f7.q 8 sL1_8
    have s3_13 := f7.q 3 sL1_3
    refine go_reg [bx g1 35 (stC a)] [] [some (.int .i64 (k1 : Int)), some (pt g1 0), some (pt g1 (9 * k1)), some (pt g1 (9 * k1)), some (.int .i8 (a k1).kd), some (.bool false)] mo f7.d f7.z f7.b (by kernel_rfl) ⟨b_g1_11, trivial⟩ (
     hk (fun cx => cx.v (ex_mv rfl (cx.rq 8 s8_12)) rfl rfl) <|
     hk (fun cx => cx.v (ex_fa rfl (cx.rq 3 s3_13) (faStateAllW35_0_0 _ _)) rfl rfl) <|
     hk (fun cx => cx.v (ex_ia (n := 11) (sz := 9) rfl (cx.u 0 rfl) (cx.u 1 rfl) Try.underlying32 (by kernel_rfl) (by omega) (by omega) (by omega)) rfl rfl) <|
     hk (fun cx => cx.v (ex_fa rfl (cx.u 0 rfl) (fxStateAllW31_0 _ _ _)) rfl rfl) <|
     hk (fun cx => cx.v (ldKd (by omega) rfl (cx.u 0 rfl) (cx.rn 0 rfl)) rfl rfl) <|
     hk (fun cx => cx.v (ex_ne (x := .tmp 26) rfl (cx.u 0 rfl) rfl) rfl (congrArg Value.bool Ffk3.out)) <|
     hn) ?_
    intro a8 w8 f8
    refine wp_cond_false (f8.v 5 rfl rfl rfl) ?_
    refine wp_skip ?_
    have s8_14 := f8.q 8 s8_12
    refine go_reg [] [] [some (.int .i64 (k1 : Int)), some (.int .i64 ((k1 + 1 : Nat) : Int)), some (.int .i64 ((k1 + 1 : Nat) : Int))] mo f8.d f8.z f8.b (by kernel_rfl) trivial (
     hk (fun cx => cx.v (ex_mv rfl (cx.un 2 rfl rfl (by kernel_rfl) s8_14)) rfl rfl) <|
     hk (fun cx => cx.v (ex_add (x := .tmp 20) rfl (cx.u 0 rfl) rfl) rfl (congrArg (Value.int .i64) (wrapk hlt1 (by decide)))) <|
     hk (fun cx => cx.v (ex_as rfl (cx.u 0 rfl)) rfl rfl) <|
     hn) ?_
    intro a9 w9 f9
    have s2_15 := f9.q 2 (f8.q 2 (f7.q 2 sL1_2))
    have s3_16 := f9.q 3 (f8.q 3 s3_13)
    have s4_17 := f9.q 4 (f8.q 4 (f7.q 4 sL1_4))
    have s6_18 := f9.q 6 (f8.q 6 (f7.q 6 sL1_6))
    have s7_19 := f9.q 7 (f8.q 7 (f7.q 7 sL1_7))
    have b_g1_20 := f9.k (f8.k b_g1_11)
    have b_g2_21 := f9.k (f8.k (f7.k bL1_g2))
    have b_g3_22 := f9.k (f8.k (f7.k bL1_g3))
    exact ⟨hlt1, trivial, f9.d, f9.z, f9.b, ⟨s2_15, s3_16, s4_17, s6_18, s7_19, (f9.v 2 rfl rfl rfl), trivial⟩, ⟨b_g1_20, b_g2_21, (row_eq b_g3_22 (congrArg stC (scale_n Ffk3.out))), trivial⟩⟩
   have Ffk3 := Lib.hid fk3; clear fk3
   have b_g1_23 := f7.k bL1_g1
   have s8_24 := f7.q 8 sL1_8
   have s3_25 := f7.q 3 sL1_3
   refine go_reg [bx g1 35 (stC a)] [] [some (.int .i64 (k1 : Int)), some (pt g1 0), some (pt g1 (9 * k1)), some (pt g1 (9 * k1)), some (.int .i8 (a k1).kd), some (.bool true)] mo f7.d f7.z f7.b (by kernel_rfl) ⟨b_g1_23, trivial⟩ (
    hk (fun cx => cx.v (ex_mv rfl (cx.rq 8 s8_24)) rfl rfl) <|
    hk (fun cx => cx.v (ex_fa rfl (cx.rq 3 s3_25) (faStateAllW35_0_0 _ _)) rfl rfl) <|
    hk (fun cx => cx.v (ex_ia (n := 11) (sz := 9) rfl (cx.u 0 rfl) (cx.u 1 rfl) Try.underlying32 (by kernel_rfl) (by omega) (by omega) (by omega)) rfl rfl) <|
    hk (fun cx => cx.v (ex_fa rfl (cx.u 0 rfl) (fxStateAllW31_0 _ _ _)) rfl rfl) <|
    hk (fun cx => cx.v (ldKd (by omega) rfl (cx.u 0 rfl) (cx.rn 0 rfl)) rfl rfl) <|
    hk (fun cx => cx.v (ex_ne (x := .tmp 26) rfl (cx.u 0 rfl) rfl) rfl (congrArg Value.bool Ffk3.out)) <|
    hn) ?_
   intro a10 w10 f10
   refine wp_cond_true (f10.v 5 rfl rfl rfl) ?_
   have b_g3_26 := f10.k (f7.k bL1_g3)
   have s8_27 := f10.q 8 s8_24
   have s7_28 := f10.q 7 (f7.q 7 sL1_7)
   refine go_reg [⟨g3, 35, (stC (scaleS a k1)), some 4, (stC (upS (scaleS a k1) k1 allT))⟩] [] [some (.int .i64 (k1 : Int)), some (.agg (tyC allT)), some (pt g3 0), some (pt g3 (9 * k1)), none] mo f10.d f10.z f10.b (by kernel_rfl) ⟨b_g3_26, trivial⟩ (
    hk (fun cx => cx.v (ex_mv rfl (cx.rq 8 s8_27)) rfl rfl) <|
    hc (fun _ _ wx cx => cx.c rfl (args0 ) Try.func13 (by decide +kernel) (tscalar_n wx) rfl rfl) <|
    hk (fun cx => cx.v (ex_fa rfl (cx.rq 7 s7_28) (faStateAllW35_0_0 _ _)) rfl rfl) <|
    hk (fun cx => cx.v (ex_ia (n := 11) (sz := 9) rfl (cx.u 0 rfl) (cx.u 1 rfl) Try.underlying32 (by kernel_rfl) (by omega) (by omega) (by omega)) rfl rfl) <|
    hk (fun cx => cx.stP (wn rfl) rfl rfl 0 rfl (cx.u 0 rfl) (cx.u 1 rfl) (tyC_one _) (by kernel_rfl) (by rw [stC_size]; show _ + 9 ≤ _; omega) (stC_set _ (by omega) _) (Nat.le_trans f4.b.size q_g3) rfl trivial trivial) <|
    hn) ?_
   intro a11 w11 f11
   have s8_29 := f11.q 8 s8_27
   refine go_reg [] [] [some (.int .i64 (k1 : Int)), some (.int .i64 ((k1 + 1 : Nat) : Int)), some (.int .i64 ((k1 + 1 : Nat) : Int))] mo f11.d f11.z f11.b (by kernel_rfl) trivial (
    hk (fun cx => cx.v (ex_mv rfl (cx.un 2 rfl rfl (by kernel_rfl) s8_29)) rfl rfl) <|
    hk (fun cx => cx.v (ex_add (x := .tmp 20) rfl (cx.u 0 rfl) rfl) rfl (congrArg (Value.int .i64) (wrapk hlt1 (by decide)))) <|
    hk (fun cx => cx.v (ex_as rfl (cx.u 0 rfl)) rfl rfl) <|
    hn) ?_
   intro a12 w12 f12
   have s2_30 := f12.q 2 (f11.q 2 (f10.q 2 (f7.q 2 sL1_2)))
   have s3_31 := f12.q 3 (f11.q 3 (f10.q 3 s3_25))
   have s4_32 := f12.q 4 (f11.q 4 (f10.q 4 (f7.q 4 sL1_4)))
   have s6_33 := f12.q 6 (f11.q 6 (f10.q 6 (f7.q 6 sL1_6)))
   have s7_34 := f12.q 7 (f11.q 7 s7_28)
   have b_g1_35 := f12.k (f11.kp (f10.k b_g1_23) ⟨.inr neL1_0_2, trivial⟩)
   have b_g2_36 := f12.k (f11.kp (f10.k (f7.k bL1_g2)) ⟨.inr neL1_1_2, trivial⟩)
   have b_g3_37 := f12.k f11.rows.1
   exact ⟨hlt1, trivial, f12.d, f12.z, f12.b, ⟨s2_30, s3_31, s4_32, s6_33, s7_34, (f12.v 2 rfl rfl rfl), trivial⟩, ⟨b_g1_35, b_g2_36, (row_eq b_g3_37 (congrArg stC (scale_y Ffk3.out))), trivial⟩⟩
  have Ffk2 := Lib.hid fk2; clear fk2
  have hge1 : k1 = 11 := by have := Ffk2.out; simp only [decide_eq_false_iff_not] at this; omega
  refine go_reg [] [] [some (.int .i64 (k1 : Int)), some (.bool false)] mo dL1 zL1 BL1 (by kernel_rfl) trivial (
   hk (fun cx => cx.v (ex_mv rfl (cx.rq 8 sL1_8)) rfl rfl) <|
   hk (fun cx => cx.v (ex_lt (x := .tmp 18) rfl (cx.u 0 rfl) rfl) rfl (congrArg Value.bool Ffk2.out)) <|
   hn) ?_
  intro a13 w13 f13
  refine wp_cond_false (f13.v 1 rfl rfl rfl) ?_
  refine wp_exit ?_
  simp only [Exit.then, Exit.inBlock, if_true]
  refine wp_seq ?_
  refine wp_seq ?_
  refine go_reg [] [] [some (.int .i64 0)] mo f13.d f13.z f13.b (by kernel_rfl) trivial (
   hk (fun cx => cx.v (ex_as rfl rfl) rfl rfl) <|
   hn) ?_
  intro a14 w14 f14
  refine wp_block ?_
  have neL2_0_1 := neL1_0_1
  have neL2_0_2 := neL1_0_2
  have neL2_1_2 := neL1_1_2
  have s2_38 := f14.q 2 (f13.q 2 sL1_2)
  have s3_39 := f14.q 3 (f13.q 3 sL1_3)
  have s4_40 := f14.q 4 (f13.q 4 sL1_4)
  have s6_41 := f14.q 6 (f13.q 6 sL1_6)
  have s7_42 := f14.q 7 (f13.q 7 sL1_7)
  have b_g1_43 := f14.k (f13.k bL1_g1)
  have b_g2_44 := f14.k (f13.k bL1_g2)
  have b_g3_45 := f14.k (f13.k bL1_g3)
  refine wp_count 8 (fun k2 aI wI => True ∧ Mid 102 W [(2, .int .i64 n), (3, .pointer (some ⟨g1, 0, none⟩)), (4, .pointer (some ⟨g2, 0, none⟩)), (6, .bool false), (7, .pointer (some ⟨g3, 0, none⟩)), (9, .int .i64 (k2 : Int))] [(g1, 35, (stC a)), (g2, 39, (snC x)), (g3, 35, (stC (fillT (scaleS a 11) 11 k2 allT)))] aI wI) ⟨trivial, f14.d, f14.z, f14.b, ⟨s2_38, s3_39, s4_40, s6_41, s7_42, (f14.v 0 rfl rfl rfl), trivial⟩, ⟨b_g1_43, b_g2_44, (row_eq b_g3_45 (congrArg stC (show scaleS a k1 = fillT (scaleS a 11) 11 0 allT by rw [hge1, fill_0]))), trivial⟩⟩ ?_
  intro k2 aL2 wL2 hlek2 hI2
  obtain ⟨hp2, dL2, zL2, BL2, ⟨sL2_2, sL2_3, sL2_4, sL2_6, sL2_7, sL2_9, -⟩, ⟨bL2_g1, bL2_g2, bL2_g3, -⟩⟩ := hI2
  replace sL2_2 : aL2.tmps.getD 2 undef = .int .i64 n := sL2_2
  replace sL2_3 : aL2.tmps.getD 3 undef = .pointer (some ⟨g1, 0, none⟩) := sL2_3
  replace sL2_4 : aL2.tmps.getD 4 undef = .pointer (some ⟨g2, 0, none⟩) := sL2_4
  replace sL2_6 : aL2.tmps.getD 6 undef = .bool false := sL2_6
  replace sL2_7 : aL2.tmps.getD 7 undef = .pointer (some ⟨g3, 0, none⟩) := sL2_7
  replace sL2_9 : aL2.tmps.getD 9 undef = .int .i64 (k2 : Int) := sL2_9
  replace bL2_g1 : wL2.heap[g1]? = some (.cells (stC a) 35 (0, 0)) := bL2_g1
  replace bL2_g2 : wL2.heap[g2]? = some (.cells (snC x) 39 (0, 0)) := bL2_g2
  replace bL2_g3 : wL2.heap[g3]? = some (.cells (stC (fillT (scaleS a 11) 11 k2 allT)) 35 (0, 0)) := bL2_g3
  refine wp_seq ?_
  refine wp_seq ?_
  cases fk4 : decide ((k2 : Int) < 8)
  case true =>
   have Ffk4 := Lib.hid fk4; clear fk4
   have hlt2 : k2 < 8 := by have := Ffk4.out; simp only [decide_eq_true_eq] at this; omega
   refine go_reg [] [] [some (.int .i64 (k2 : Int)), some (.bool true)] mo dL2 zL2 BL2 (by kernel_rfl) trivial (
    hk (fun cx => cx.v (ex_mv rfl (cx.rq 9 sL2_9)) rfl rfl) <|
    hk (fun cx => cx.v (ex_lt (x := .tmp 32) rfl (cx.u 0 rfl) rfl) rfl (congrArg Value.bool Ffk4.out)) <|
    hn) ?_
   intro a15 w15 f15
   refine wp_cond_true (f15.v 1 rfl rfl rfl) ?_
   refine wp_skip ?_
   refine wp_seq ?_
   refine wp_block ?_
   have b_g3_46 := f15.k bL2_g3
   have s9_47 := f15.q 9 sL2_9
   have s7_48 := f15.q 7 sL2_7
   refine go_reg [⟨g3, 35, (stC (fillT (scaleS a 11) 11 k2 allT)), some 4, (stC (upS (fillT (scaleS a 11) 11 k2 allT) (11 + k2) allT))⟩] [] [some (.int .i64 (k2 : Int)), some (.agg (tyC allT)), some (pt g3 99), some (pt g3 (9 * (11 + k2))), none] mo f15.d f15.z f15.b (by kernel_rfl) ⟨b_g3_46, trivial⟩ (
    hk (fun cx => cx.v (ex_mv rfl (cx.rq 9 s9_47)) rfl rfl) <|
    hc (fun _ _ wx cx => cx.c rfl (args0 ) Try.func13 (by decide +kernel) (tscalar_n wx) rfl rfl) <|
    hk (fun cx => cx.v (ex_fa rfl (cx.rq 7 s7_48) (faStateAllW35_1_0 _ _)) rfl rfl) <|
    hk (fun cx => cx.v (ex_ia (n := 8) (sz := 9) rfl (cx.u 0 rfl) (cx.u 1 rfl) Try.underlying33 (by kernel_rfl) (by omega) (by omega) (by omega)) rfl rfl) <|
    hk (fun cx => cx.stP (wn rfl) rfl rfl 0 rfl (cx.u 0 rfl) (cx.u 1 rfl) (tyC_one _) (by kernel_rfl) (by rw [stC_size]; show _ + 9 ≤ _; omega) (stC_set _ (by omega) _) (Nat.le_trans f4.b.size q_g3) rfl trivial trivial) <|
    hn) ?_
   intro a16 w16 f16
   have s9_49 := f16.q 9 s9_47
   refine go_reg [] [] [some (.int .i64 (k2 : Int)), some (.int .i64 ((k2 + 1 : Nat) : Int)), some (.int .i64 ((k2 + 1 : Nat) : Int))] mo f16.d f16.z f16.b (by kernel_rfl) trivial (
    hk (fun cx => cx.v (ex_mv rfl (cx.un 2 rfl rfl (by kernel_rfl) s9_49)) rfl rfl) <|
    hk (fun cx => cx.v (ex_add (x := .tmp 34) rfl (cx.u 0 rfl) rfl) rfl (congrArg (Value.int .i64) (wrapk hlt2 (by decide)))) <|
    hk (fun cx => cx.v (ex_as rfl (cx.u 0 rfl)) rfl rfl) <|
    hn) ?_
   intro a17 w17 f17
   have s2_50 := f17.q 2 (f16.q 2 (f15.q 2 sL2_2))
   have s3_51 := f17.q 3 (f16.q 3 (f15.q 3 sL2_3))
   have s4_52 := f17.q 4 (f16.q 4 (f15.q 4 sL2_4))
   have s6_53 := f17.q 6 (f16.q 6 (f15.q 6 sL2_6))
   have s7_54 := f17.q 7 (f16.q 7 s7_48)
   have b_g1_55 := f17.k (f16.kp (f15.k bL2_g1) ⟨.inr neL2_0_2, trivial⟩)
   have b_g2_56 := f17.k (f16.kp (f15.k bL2_g2) ⟨.inr neL2_1_2, trivial⟩)
   have b_g3_57 := f17.k f16.rows.1
   exact ⟨hlt2, trivial, f17.d, f17.z, f17.b, ⟨s2_50, s3_51, s4_52, s6_53, s7_54, (f17.v 2 rfl rfl rfl), trivial⟩, ⟨b_g1_55, b_g2_56, (row_eq b_g3_57 (congrArg stC (fill_step _ _ _ _))), trivial⟩⟩
  have Ffk4 := Lib.hid fk4; clear fk4
  have hge2 : k2 = 8 := by have := Ffk4.out; simp only [decide_eq_false_iff_not] at this; omega
  refine go_reg [] [] [some (.int .i64 (k2 : Int)), some (.bool false)] mo dL2 zL2 BL2 (by kernel_rfl) trivial (
   hk (fun cx => cx.v (ex_mv rfl (cx.rq 9 sL2_9)) rfl rfl) <|
   hk (fun cx => cx.v (ex_lt (x := .tmp 32) rfl (cx.u 0 rfl) rfl) rfl (congrArg Value.bool Ffk4.out)) <|
   hn) ?_
  intro a18 w18 f18
  refine wp_cond_false (f18.v 1 rfl rfl rfl) ?_
  refine wp_exit ?_
  simp only [Exit.then, Exit.inBlock, if_true]
  refine wp_seq ?_
  refine go_reg [] [] [some (.bool true)] mo f18.d f18.z f18.b (by kernel_rfl) trivial (
   hk (fun cx => cx.v (ex_as rfl rfl) rfl rfl) <|
   hn) ?_
  intro a19 w19 f19
  refine wp_seq ?_
  refine wp_seq ?_
  refine go_reg [] [] [some (.int .i64 0)] mo f19.d f19.z f19.b (by kernel_rfl) trivial (
   hk (fun cx => cx.v (ex_as rfl rfl) rfl rfl) <|
   hn) ?_
  intro a20 w20 f20
  refine wp_block ?_
  have neL3_0_1 := neL2_0_1
  have neL3_0_2 := neL2_0_2
  have neL3_1_2 := neL2_1_2
  have s2_58 := f20.q 2 (f19.q 2 (f18.q 2 sL2_2))
  have s3_59 := f20.q 3 (f19.q 3 (f18.q 3 sL2_3))
  have s4_60 := f20.q 4 (f19.q 4 (f18.q 4 sL2_4))
  have s6_61 := f20.q 6 (f19.q 6 (f18.q 6 sL2_6))
  have s7_62 := f20.q 7 (f19.q 7 (f18.q 7 sL2_7))
  have s10_63 := f20.q 10 (f19.v 0 rfl rfl rfl)
  have b_g1_64 := f20.k (f19.k (f18.k bL2_g1))
  have b_g2_65 := f20.k (f19.k (f18.k bL2_g2))
  have b_g3_66 := f20.k (f19.k (f18.k bL2_g3))
  refine wp_count 11 (fun k3 aI wI => True ∧ Mid 102 W [(2, .int .i64 n), (3, .pointer (some ⟨g1, 0, none⟩)), (4, .pointer (some ⟨g2, 0, none⟩)), (6, .bool false), (7, .pointer (some ⟨g3, 0, none⟩)), (10, .bool (allN (setP a x) k3)), (11, .int .i64 (k3 : Int))] [(g1, 35, (stC a)), (g2, 39, (snC x)), (g3, 35, (stC (fillT (scaleS a 11) 11 k2 allT)))] aI wI) ⟨trivial, f20.d, f20.z, f20.b, ⟨s2_58, s3_59, s4_60, s6_61, s7_62, s10_63, (f20.v 0 rfl rfl rfl), trivial⟩, ⟨b_g1_64, b_g2_65, b_g3_66, trivial⟩⟩ ?_
  intro k3 aL3 wL3 hlek3 hI3
  obtain ⟨hp3, dL3, zL3, BL3, ⟨sL3_2, sL3_3, sL3_4, sL3_6, sL3_7, sL3_10, sL3_11, -⟩, ⟨bL3_g1, bL3_g2, bL3_g3, -⟩⟩ := hI3
  replace sL3_2 : aL3.tmps.getD 2 undef = .int .i64 n := sL3_2
  replace sL3_3 : aL3.tmps.getD 3 undef = .pointer (some ⟨g1, 0, none⟩) := sL3_3
  replace sL3_4 : aL3.tmps.getD 4 undef = .pointer (some ⟨g2, 0, none⟩) := sL3_4
  replace sL3_6 : aL3.tmps.getD 6 undef = .bool false := sL3_6
  replace sL3_7 : aL3.tmps.getD 7 undef = .pointer (some ⟨g3, 0, none⟩) := sL3_7
  replace sL3_10 : aL3.tmps.getD 10 undef = .bool (allN (setP a x) k3) := sL3_10
  replace sL3_11 : aL3.tmps.getD 11 undef = .int .i64 (k3 : Int) := sL3_11
  replace bL3_g1 : wL3.heap[g1]? = some (.cells (stC a) 35 (0, 0)) := bL3_g1
  replace bL3_g2 : wL3.heap[g2]? = some (.cells (snC x) 39 (0, 0)) := bL3_g2
  replace bL3_g3 : wL3.heap[g3]? = some (.cells (stC (fillT (scaleS a 11) 11 k2 allT)) 35 (0, 0)) := bL3_g3
  refine wp_seq ?_
  refine wp_seq ?_
  cases fk5 : decide ((k3 : Int) < 11)
  case true =>
   have Ffk5 := Lib.hid fk5; clear fk5
   have hlt3 : k3 < 11 := by have := Ffk5.out; simp only [decide_eq_true_eq] at this; omega
   refine go_reg [] [] [some (.int .i64 (k3 : Int)), some (.bool true)] mo dL3 zL3 BL3 (by kernel_rfl) trivial (
    hk (fun cx => cx.v (ex_mv rfl (cx.rq 11 sL3_11)) rfl rfl) <|
    hk (fun cx => cx.v (ex_lt (x := .tmp 40) rfl (cx.u 0 rfl) rfl) rfl (congrArg Value.bool Ffk5.out)) <|
    hn) ?_
   intro a21 w21 f21
   refine wp_cond_true (f21.v 1 rfl rfl rfl) ?_
   refine wp_skip ?_
   refine wp_seq ?_
   refine wp_block ?_
   cases fk6 : allN (setP a x) k3
   case false =>
    have Ffk6 := Lib.hid fk6; clear fk6
    have hse := Ffk6.out
    have s10_67 := f21.q 10 sL3_10
    refine go_reg [] [] [some (.bool false), some (.bool false), some (undef), some (undef), some (undef), some (undef), some (undef), some (undef), some (undef), some (undef), some (undef), some (undef), some (undef), some (undef), some (undef), some (undef), some (.bool false), some (.bool false)] mo f21.d f21.z f21.b (by kernel_rfl) trivial (
     hk (fun cx => cx.v (ex_mv rfl (cx.un 17 rfl rfl (by kernel_rfl) s10_67)) rfl (congrArg Value.bool Ffk6.out)) <|
     hk (fun cx => cx.v (ex_mv rfl (cx.u 0 rfl)) rfl rfl) <|
     hk (fun cx => cx.no (cx.wo rfl rfl rfl rfl (cx.u 0 rfl) rfl) rfl rfl rfl rfl) <|
     hk (fun cx => cx.no (cx.wo rfl rfl rfl rfl (cx.u 0 rfl) rfl) rfl rfl rfl rfl) <|
     hk (fun cx => cx.no (cx.wo rfl rfl rfl rfl (cx.u 2 rfl) rfl) rfl rfl rfl rfl) <|
     hk (fun cx => cx.no (cx.wo rfl rfl rfl rfl (cx.u 1 rfl) rfl) rfl rfl rfl rfl) <|
     hk (fun cx => cx.no (cx.wo rfl rfl rfl rfl (cx.u 1 rfl) rfl) rfl rfl rfl rfl) <|
     hk (fun cx => cx.no (cx.wo rfl rfl rfl rfl (cx.u 1 rfl) rfl) rfl rfl rfl rfl) <|
     hk (fun cx => cx.no (cx.wo rfl rfl rfl rfl (cx.u 1 rfl) rfl) rfl rfl rfl rfl) <|
     hk (fun cx => cx.no (cx.wu rfl rfl rfl rfl (cx.u 0 rfl)) rfl rfl rfl rfl) <|
     hk (fun cx => cx.no (cx.wu rfl rfl rfl rfl (cx.u 1 rfl)) rfl rfl rfl rfl) <|
     hk (fun cx => cx.no (cx.wu rfl rfl rfl rfl (cx.u 0 rfl)) rfl rfl rfl rfl) <|
     hk (fun cx => cx.no (cx.wu rfl rfl rfl rfl (cx.u 2 rfl)) rfl rfl rfl rfl) <|
     hk (fun cx => cx.no (cx.wu rfl rfl rfl rfl (cx.u 1 rfl)) rfl rfl rfl rfl) <|
     hk (fun cx => cx.no (cx.wu rfl rfl rfl rfl (cx.u 1 rfl)) rfl rfl rfl rfl) <|
     hk (fun cx => cx.no (cx.wo rfl rfl rfl rfl (cx.u 2 rfl) rfl) rfl rfl rfl rfl) <|
     hk (fun cx => cx.v (ex_pf rfl (cx.u 0 rfl) rfl) rfl rfl) <|
     hk (fun cx => cx.v (ex_as rfl (cx.u 0 rfl)) rfl rfl) <|
     hn) ?_
    intro a22 w22 f22
    have s11_68 := f22.q 11 (f21.q 11 sL3_11)
    refine go_reg [] [] [some (.int .i64 (k3 : Int)), some (.int .i64 ((k3 + 1 : Nat) : Int)), some (.int .i64 ((k3 + 1 : Nat) : Int))] mo f22.d f22.z f22.b (by kernel_rfl) trivial (
     hk (fun cx => cx.v (ex_mv rfl (cx.un 2 rfl rfl (by kernel_rfl) s11_68)) rfl rfl) <|
     hk (fun cx => cx.v (ex_add (x := .tmp 42) rfl (cx.u 0 rfl) rfl) rfl (congrArg (Value.int .i64) (wrapk hlt3 (by decide)))) <|
     hk (fun cx => cx.v (ex_as rfl (cx.u 0 rfl)) rfl rfl) <|
     hn) ?_
    intro a23 w23 f23
    have s2_69 := f23.q 2 (f22.q 2 (f21.q 2 sL3_2))
    have s3_70 := f23.q 3 (f22.q 3 (f21.q 3 sL3_3))
    have s4_71 := f23.q 4 (f22.q 4 (f21.q 4 sL3_4))
    have s6_72 := f23.q 6 (f22.q 6 (f21.q 6 sL3_6))
    have s7_73 := f23.q 7 (f22.q 7 (f21.q 7 sL3_7))
    have s10_74 := f23.q 10 (f22.v 17 rfl rfl rfl)
    have b_g1_75 := f23.k (f22.k (f21.k bL3_g1))
    have b_g2_76 := f23.k (f22.k (f21.k bL3_g2))
    have b_g3_77 := f23.k (f22.k (f21.k bL3_g3))
    exact ⟨hlt3, trivial, f23.d, f23.z, f23.b, ⟨s2_69, s3_70, s4_71, s6_72, s7_73, (s10_74.trans (congrArg Value.bool (show false = allN (setP a x) (k3 + 1) from by show _ = (allN (setP a x) k3 && ((a k3).kd == 0 || Snp.bit x k3)); simp only [Ffk6.out, Bool.false_and, Bool.true_and, Bool.or_true, Bool.true_or, Bool.false_or, Bool.or_false]))), (f23.v 2 rfl rfl rfl), trivial⟩, ⟨b_g1_75, b_g2_76, b_g3_77, trivial⟩⟩
   have Ffk6 := Lib.hid fk6; clear fk6
   have hse := Ffk6.out
   cases fk7 : (a k3).kd == 0
   case false =>
    have Ffk7 := Lib.hid fk7; clear fk7
    cases fk8 : Snp.bit x k3
    case false =>
     have Ffk8 := Lib.hid fk8; clear fk8
     have b_g1_78 := f21.k bL3_g1
     have b_g2_79 := f21.k bL3_g2
     have s10_80 := f21.q 10 sL3_10
     have s11_81 := f21.q 11 sL3_11
     have s3_82 := f21.q 3 sL3_3
     have s4_83 := f21.q 4 sL3_4
     refine go_reg [bx g1 35 (stC a), bx g2 39 (snC x)] [] [some (.bool true), some (.bool true), some (.int .i64 (k3 : Int)), some (pt g1 0), some (pt g1 (9 * k3)), some (pt g1 (9 * k3)), some (.int .i8 (a k3).kd), some (.bool false), some (.bool false), some (pt g2 11), some (.int .i64 x.set), some (.int .i64 (k3 : Int)), some (.int .i64 (x.set / 2 ^ k3)), some (.int .i64 (x.set / 2 ^ k3 % 2)), some (.bool (Snp.bit x k3)), some (.bool false), some (.bool false), some (.bool false)] mo f21.d f21.z f21.b (by kernel_rfl) ⟨b_g1_78, b_g2_79, trivial⟩ (
      hk (fun cx => cx.v (ex_mv rfl (cx.un 17 rfl rfl (by kernel_rfl) s10_80)) rfl (congrArg Value.bool Ffk6.out)) <|
      hk (fun cx => cx.v (ex_mv rfl (cx.u 0 rfl)) rfl rfl) <|
      hk (fun cx => cx.val (cx.wy rfl rfl rfl rfl (cx.u 0 rfl)) (ex_mv rfl (cx.rq 11 s11_81)) rfl rfl rfl rfl) <|
      hk (fun cx => cx.val (cx.wy rfl rfl rfl rfl (cx.u 0 rfl)) (ex_fa rfl (cx.rq 3 s3_82) (faStateAllW35_0_0 _ _)) rfl rfl rfl rfl) <|
      hk (fun cx => cx.val (cx.wy rfl rfl rfl rfl (cx.u 2 rfl)) (ex_ia (n := 11) (sz := 9) rfl (cx.u 0 rfl) (cx.u 1 rfl) Try.underlying32 (by kernel_rfl) (by omega) (by omega) (by omega)) rfl rfl rfl rfl) <|
      hk (fun cx => cx.val (cx.wy rfl rfl rfl rfl (cx.u 1 rfl)) (ex_fa rfl (cx.u 0 rfl) (fxStateAllW31_0 _ _ _)) rfl rfl rfl rfl) <|
      hk (fun cx => cx.val (cx.wy rfl rfl rfl rfl (cx.u 1 rfl)) (ldKd (by omega) rfl (cx.u 0 rfl) (cx.rn 0 rfl)) rfl rfl rfl rfl) <|
      hk (fun cx => cx.val (cx.wy rfl rfl rfl rfl (cx.u 1 rfl)) (ex_eq (x := .tmp 50) rfl (cx.u 0 rfl) rfl) rfl rfl (congrArg Value.bool Ffk7.out) rfl) <|
      hk (fun cx => cx.val (cx.wy rfl rfl rfl rfl (cx.u 1 rfl)) (ex_mv rfl (cx.u 0 rfl)) rfl rfl rfl rfl) <|
      hk (fun cx => cx.val (cx.wy rfl rfl rfl rfl (cx.u 0 rfl)) (ex_fa rfl (cx.rq 4 s4_83) (faStateAllW39_1_0 _ _)) rfl rfl rfl rfl) <|
      hk (fun cx => cx.val (cx.wy rfl rfl rfl rfl (cx.u 1 rfl)) (ldSet rfl (cx.u 0 rfl) (cx.rn 1 rfl)) rfl rfl rfl rfl) <|
      hk (fun cx => cx.val (cx.wy rfl rfl rfl rfl (cx.u 0 rfl)) (ex_mv rfl (cx.rq 11 s11_81)) rfl rfl rfl rfl) <|
      hk (fun cx => cx.val (cx.wy rfl rfl rfl rfl (cx.u 2 rfl)) (ex_shri (x := .tmp 54) (y := .tmp 55) rfl (cx.u 0 rfl) (cx.u 1 rfl) (by omega)) rfl rfl rfl rfl) <|
      hk (fun cx => cx.val (cx.wy rfl rfl rfl rfl (cx.u 1 rfl)) (ex_and (x := .tmp 56) rfl (cx.u 0 rfl) rfl) rfl rfl (congrArg (Value.int .i64) (and_1k wS _)) rfl) <|
      hk (fun cx => cx.val (cx.wy rfl rfl rfl rfl (cx.u 1 rfl)) (ex_eq (x := .tmp 57) rfl (cx.u 0 rfl) rfl) rfl rfl (congrArg Value.bool rfl) rfl) <|
      hk (fun cx => cx.val (cx.wy rfl rfl rfl rfl (cx.u 2 rfl)) (ex_pf rfl (cx.u 0 rfl) (cx.u 1 rfl)) rfl rfl (congrArg Value.bool Ffk8.out) rfl) <|
      hk (fun cx => cx.v (ex_pt rfl (cx.u 0 rfl) (cx.u 1 rfl)) rfl rfl) <|
      hk (fun cx => cx.v (ex_as rfl (cx.u 0 rfl)) rfl rfl) <|
      hn) ?_
     intro a24 w24 f24
     have s11_84 := f24.q 11 s11_81
     refine go_reg [] [] [some (.int .i64 (k3 : Int)), some (.int .i64 ((k3 + 1 : Nat) : Int)), some (.int .i64 ((k3 + 1 : Nat) : Int))] mo f24.d f24.z f24.b (by kernel_rfl) trivial (
      hk (fun cx => cx.v (ex_mv rfl (cx.un 2 rfl rfl (by kernel_rfl) s11_84)) rfl rfl) <|
      hk (fun cx => cx.v (ex_add (x := .tmp 42) rfl (cx.u 0 rfl) rfl) rfl (congrArg (Value.int .i64) (wrapk hlt3 (by decide)))) <|
      hk (fun cx => cx.v (ex_as rfl (cx.u 0 rfl)) rfl rfl) <|
      hn) ?_
     intro a25 w25 f25
     have s2_85 := f25.q 2 (f24.q 2 (f21.q 2 sL3_2))
     have s3_86 := f25.q 3 (f24.q 3 s3_82)
     have s4_87 := f25.q 4 (f24.q 4 s4_83)
     have s6_88 := f25.q 6 (f24.q 6 (f21.q 6 sL3_6))
     have s7_89 := f25.q 7 (f24.q 7 (f21.q 7 sL3_7))
     have s10_90 := f25.q 10 (f24.v 17 rfl rfl rfl)
     have b_g1_91 := f25.k (f24.k b_g1_78)
     have b_g2_92 := f25.k (f24.k b_g2_79)
     have b_g3_93 := f25.k (f24.k (f21.k bL3_g3))
     exact ⟨hlt3, trivial, f25.d, f25.z, f25.b, ⟨s2_85, s3_86, s4_87, s6_88, s7_89, (s10_90.trans (congrArg Value.bool (show false = allN (setP a x) (k3 + 1) from by show _ = (allN (setP a x) k3 && ((a k3).kd == 0 || Snp.bit x k3)); simp only [Ffk6.out, Ffk7.out, Ffk8.out, Bool.false_and, Bool.true_and, Bool.or_true, Bool.true_or, Bool.false_or, Bool.or_false]))), (f25.v 2 rfl rfl rfl), trivial⟩, ⟨b_g1_91, b_g2_92, b_g3_93, trivial⟩⟩
    have Ffk8 := Lib.hid fk8; clear fk8
    have b_g1_94 := f21.k bL3_g1
    have b_g2_95 := f21.k bL3_g2
    have s10_96 := f21.q 10 sL3_10
    have s11_97 := f21.q 11 sL3_11
    have s3_98 := f21.q 3 sL3_3
    have s4_99 := f21.q 4 sL3_4
    refine go_reg [bx g1 35 (stC a), bx g2 39 (snC x)] [] [some (.bool true), some (.bool true), some (.int .i64 (k3 : Int)), some (pt g1 0), some (pt g1 (9 * k3)), some (pt g1 (9 * k3)), some (.int .i8 (a k3).kd), some (.bool false), some (.bool false), some (pt g2 11), some (.int .i64 x.set), some (.int .i64 (k3 : Int)), some (.int .i64 (x.set / 2 ^ k3)), some (.int .i64 (x.set / 2 ^ k3 % 2)), some (.bool (Snp.bit x k3)), some (.bool true), some (.bool true), some (.bool true)] mo f21.d f21.z f21.b (by kernel_rfl) ⟨b_g1_94, b_g2_95, trivial⟩ (
     hk (fun cx => cx.v (ex_mv rfl (cx.un 17 rfl rfl (by kernel_rfl) s10_96)) rfl (congrArg Value.bool Ffk6.out)) <|
     hk (fun cx => cx.v (ex_mv rfl (cx.u 0 rfl)) rfl rfl) <|
     hk (fun cx => cx.val (cx.wy rfl rfl rfl rfl (cx.u 0 rfl)) (ex_mv rfl (cx.rq 11 s11_97)) rfl rfl rfl rfl) <|
     hk (fun cx => cx.val (cx.wy rfl rfl rfl rfl (cx.u 0 rfl)) (ex_fa rfl (cx.rq 3 s3_98) (faStateAllW35_0_0 _ _)) rfl rfl rfl rfl) <|
     hk (fun cx => cx.val (cx.wy rfl rfl rfl rfl (cx.u 2 rfl)) (ex_ia (n := 11) (sz := 9) rfl (cx.u 0 rfl) (cx.u 1 rfl) Try.underlying32 (by kernel_rfl) (by omega) (by omega) (by omega)) rfl rfl rfl rfl) <|
     hk (fun cx => cx.val (cx.wy rfl rfl rfl rfl (cx.u 1 rfl)) (ex_fa rfl (cx.u 0 rfl) (fxStateAllW31_0 _ _ _)) rfl rfl rfl rfl) <|
     hk (fun cx => cx.val (cx.wy rfl rfl rfl rfl (cx.u 1 rfl)) (ldKd (by omega) rfl (cx.u 0 rfl) (cx.rn 0 rfl)) rfl rfl rfl rfl) <|
     hk (fun cx => cx.val (cx.wy rfl rfl rfl rfl (cx.u 1 rfl)) (ex_eq (x := .tmp 50) rfl (cx.u 0 rfl) rfl) rfl rfl (congrArg Value.bool Ffk7.out) rfl) <|
     hk (fun cx => cx.val (cx.wy rfl rfl rfl rfl (cx.u 1 rfl)) (ex_mv rfl (cx.u 0 rfl)) rfl rfl rfl rfl) <|
     hk (fun cx => cx.val (cx.wy rfl rfl rfl rfl (cx.u 0 rfl)) (ex_fa rfl (cx.rq 4 s4_99) (faStateAllW39_1_0 _ _)) rfl rfl rfl rfl) <|
     hk (fun cx => cx.val (cx.wy rfl rfl rfl rfl (cx.u 1 rfl)) (ldSet rfl (cx.u 0 rfl) (cx.rn 1 rfl)) rfl rfl rfl rfl) <|
     hk (fun cx => cx.val (cx.wy rfl rfl rfl rfl (cx.u 0 rfl)) (ex_mv rfl (cx.rq 11 s11_97)) rfl rfl rfl rfl) <|
     hk (fun cx => cx.val (cx.wy rfl rfl rfl rfl (cx.u 2 rfl)) (ex_shri (x := .tmp 54) (y := .tmp 55) rfl (cx.u 0 rfl) (cx.u 1 rfl) (by omega)) rfl rfl rfl rfl) <|
     hk (fun cx => cx.val (cx.wy rfl rfl rfl rfl (cx.u 1 rfl)) (ex_and (x := .tmp 56) rfl (cx.u 0 rfl) rfl) rfl rfl (congrArg (Value.int .i64) (and_1k wS _)) rfl) <|
     hk (fun cx => cx.val (cx.wy rfl rfl rfl rfl (cx.u 1 rfl)) (ex_eq (x := .tmp 57) rfl (cx.u 0 rfl) rfl) rfl rfl (congrArg Value.bool rfl) rfl) <|
     hk (fun cx => cx.val (cx.wy rfl rfl rfl rfl (cx.u 2 rfl)) (ex_pf rfl (cx.u 0 rfl) (cx.u 1 rfl)) rfl rfl (congrArg Value.bool Ffk8.out) rfl) <|
     hk (fun cx => cx.v (ex_pt rfl (cx.u 0 rfl) (cx.u 1 rfl)) rfl rfl) <|
     hk (fun cx => cx.v (ex_as rfl (cx.u 0 rfl)) rfl rfl) <|
     hn) ?_
    intro a26 w26 f26
    have s11_100 := f26.q 11 s11_97
    refine go_reg [] [] [some (.int .i64 (k3 : Int)), some (.int .i64 ((k3 + 1 : Nat) : Int)), some (.int .i64 ((k3 + 1 : Nat) : Int))] mo f26.d f26.z f26.b (by kernel_rfl) trivial (
     hk (fun cx => cx.v (ex_mv rfl (cx.un 2 rfl rfl (by kernel_rfl) s11_100)) rfl rfl) <|
     hk (fun cx => cx.v (ex_add (x := .tmp 42) rfl (cx.u 0 rfl) rfl) rfl (congrArg (Value.int .i64) (wrapk hlt3 (by decide)))) <|
     hk (fun cx => cx.v (ex_as rfl (cx.u 0 rfl)) rfl rfl) <|
     hn) ?_
    intro a27 w27 f27
    have s2_101 := f27.q 2 (f26.q 2 (f21.q 2 sL3_2))
    have s3_102 := f27.q 3 (f26.q 3 s3_98)
    have s4_103 := f27.q 4 (f26.q 4 s4_99)
    have s6_104 := f27.q 6 (f26.q 6 (f21.q 6 sL3_6))
    have s7_105 := f27.q 7 (f26.q 7 (f21.q 7 sL3_7))
    have s10_106 := f27.q 10 (f26.v 17 rfl rfl rfl)
    have b_g1_107 := f27.k (f26.k b_g1_94)
    have b_g2_108 := f27.k (f26.k b_g2_95)
    have b_g3_109 := f27.k (f26.k (f21.k bL3_g3))
    exact ⟨hlt3, trivial, f27.d, f27.z, f27.b, ⟨s2_101, s3_102, s4_103, s6_104, s7_105, (s10_106.trans (congrArg Value.bool (show true = allN (setP a x) (k3 + 1) from by show _ = (allN (setP a x) k3 && ((a k3).kd == 0 || Snp.bit x k3)); simp only [Ffk6.out, Ffk7.out, Ffk8.out, Bool.false_and, Bool.true_and, Bool.or_true, Bool.true_or, Bool.false_or, Bool.or_false]))), (f27.v 2 rfl rfl rfl), trivial⟩, ⟨b_g1_107, b_g2_108, b_g3_109, trivial⟩⟩
   have Ffk7 := Lib.hid fk7; clear fk7
   have b_g1_110 := f21.k bL3_g1
   have s10_111 := f21.q 10 sL3_10
   have s11_112 := f21.q 11 sL3_11
   have s3_113 := f21.q 3 sL3_3
   refine go_reg [bx g1 35 (stC a)] [] [some (.bool true), some (.bool true), some (.int .i64 (k3 : Int)), some (pt g1 0), some (pt g1 (9 * k3)), some (pt g1 (9 * k3)), some (.int .i8 (a k3).kd), some (.bool true), some (.bool true), some (undef), some (undef), some (undef), some (undef), some (undef), some (undef), some (.bool true), some (.bool true), some (.bool true)] mo f21.d f21.z f21.b (by kernel_rfl) ⟨b_g1_110, trivial⟩ (
    hk (fun cx => cx.v (ex_mv rfl (cx.un 17 rfl rfl (by kernel_rfl) s10_111)) rfl (congrArg Value.bool Ffk6.out)) <|
    hk (fun cx => cx.v (ex_mv rfl (cx.u 0 rfl)) rfl rfl) <|
    hk (fun cx => cx.val (cx.wy rfl rfl rfl rfl (cx.u 0 rfl)) (ex_mv rfl (cx.rq 11 s11_112)) rfl rfl rfl rfl) <|
    hk (fun cx => cx.val (cx.wy rfl rfl rfl rfl (cx.u 0 rfl)) (ex_fa rfl (cx.rq 3 s3_113) (faStateAllW35_0_0 _ _)) rfl rfl rfl rfl) <|
    hk (fun cx => cx.val (cx.wy rfl rfl rfl rfl (cx.u 2 rfl)) (ex_ia (n := 11) (sz := 9) rfl (cx.u 0 rfl) (cx.u 1 rfl) Try.underlying32 (by kernel_rfl) (by omega) (by omega) (by omega)) rfl rfl rfl rfl) <|
    hk (fun cx => cx.val (cx.wy rfl rfl rfl rfl (cx.u 1 rfl)) (ex_fa rfl (cx.u 0 rfl) (fxStateAllW31_0 _ _ _)) rfl rfl rfl rfl) <|
    hk (fun cx => cx.val (cx.wy rfl rfl rfl rfl (cx.u 1 rfl)) (ldKd (by omega) rfl (cx.u 0 rfl) (cx.rn 0 rfl)) rfl rfl rfl rfl) <|
    hk (fun cx => cx.val (cx.wy rfl rfl rfl rfl (cx.u 1 rfl)) (ex_eq (x := .tmp 50) rfl (cx.u 0 rfl) rfl) rfl rfl (congrArg Value.bool Ffk7.out) rfl) <|
    hk (fun cx => cx.val (cx.wy rfl rfl rfl rfl (cx.u 1 rfl)) (ex_mv rfl (cx.u 0 rfl)) rfl rfl rfl rfl) <|
    hk (fun cx => cx.no (cx.wo rfl rfl rfl rfl (cx.u 0 rfl) rfl) rfl rfl rfl rfl) <|
    hk (fun cx => cx.no (cx.wo rfl rfl rfl rfl (cx.u 1 rfl) rfl) rfl rfl rfl rfl) <|
    hk (fun cx => cx.no (cx.wo rfl rfl rfl rfl (cx.u 0 rfl) rfl) rfl rfl rfl rfl) <|
    hk (fun cx => cx.no (cx.wo rfl rfl rfl rfl (cx.u 2 rfl) rfl) rfl rfl rfl rfl) <|
    hk (fun cx => cx.no (cx.wo rfl rfl rfl rfl (cx.u 1 rfl) rfl) rfl rfl rfl rfl) <|
    hk (fun cx => cx.no (cx.wo rfl rfl rfl rfl (cx.u 1 rfl) rfl) rfl rfl rfl rfl) <|
    hk (fun cx => cx.val (cx.wy rfl rfl rfl rfl (cx.u 2 rfl)) (ex_pt rfl (cx.u 0 rfl) rfl) rfl rfl rfl rfl) <|
    hk (fun cx => cx.v (ex_pt rfl (cx.u 0 rfl) (cx.u 1 rfl)) rfl rfl) <|
    hk (fun cx => cx.v (ex_as rfl (cx.u 0 rfl)) rfl rfl) <|
    hn) ?_
   intro a28 w28 f28
   have s11_114 := f28.q 11 s11_112
   refine go_reg [] [] [some (.int .i64 (k3 : Int)), some (.int .i64 ((k3 + 1 : Nat) : Int)), some (.int .i64 ((k3 + 1 : Nat) : Int))] mo f28.d f28.z f28.b (by kernel_rfl) trivial (
    hk (fun cx => cx.v (ex_mv rfl (cx.un 2 rfl rfl (by kernel_rfl) s11_114)) rfl rfl) <|
    hk (fun cx => cx.v (ex_add (x := .tmp 42) rfl (cx.u 0 rfl) rfl) rfl (congrArg (Value.int .i64) (wrapk hlt3 (by decide)))) <|
    hk (fun cx => cx.v (ex_as rfl (cx.u 0 rfl)) rfl rfl) <|
    hn) ?_
   intro a29 w29 f29
   have s2_115 := f29.q 2 (f28.q 2 (f21.q 2 sL3_2))
   have s3_116 := f29.q 3 (f28.q 3 s3_113)
   have s4_117 := f29.q 4 (f28.q 4 (f21.q 4 sL3_4))
   have s6_118 := f29.q 6 (f28.q 6 (f21.q 6 sL3_6))
   have s7_119 := f29.q 7 (f28.q 7 (f21.q 7 sL3_7))
   have s10_120 := f29.q 10 (f28.v 17 rfl rfl rfl)
   have b_g1_121 := f29.k (f28.k b_g1_110)
   have b_g2_122 := f29.k (f28.k (f21.k bL3_g2))
   have b_g3_123 := f29.k (f28.k (f21.k bL3_g3))
   exact ⟨hlt3, trivial, f29.d, f29.z, f29.b, ⟨s2_115, s3_116, s4_117, s6_118, s7_119, (s10_120.trans (congrArg Value.bool (show true = allN (setP a x) (k3 + 1) from by show _ = (allN (setP a x) k3 && ((a k3).kd == 0 || Snp.bit x k3)); simp only [Ffk6.out, Ffk7.out, Bool.false_and, Bool.true_and, Bool.or_true, Bool.true_or, Bool.false_or, Bool.or_false]))), (f29.v 2 rfl rfl rfl), trivial⟩, ⟨b_g1_121, b_g2_122, b_g3_123, trivial⟩⟩
  have Ffk5 := Lib.hid fk5; clear fk5
  have hge3 : k3 = 11 := by have := Ffk5.out; simp only [decide_eq_false_iff_not] at this; omega
  refine go_reg [] [] [some (.int .i64 (k3 : Int)), some (.bool false)] mo dL3 zL3 BL3 (by kernel_rfl) trivial (
   hk (fun cx => cx.v (ex_mv rfl (cx.rq 11 sL3_11)) rfl rfl) <|
   hk (fun cx => cx.v (ex_lt (x := .tmp 40) rfl (cx.u 0 rfl) rfl) rfl (congrArg Value.bool Ffk5.out)) <|
   hn) ?_
  intro a30 w30 f30
  refine wp_cond_false (f30.v 1 rfl rfl rfl) ?_
  refine wp_exit ?_
  simp only [Exit.then, Exit.inBlock, if_true]
  refine wp_seq ?_
  have b_g1_124 := f30.k bL3_g1
  have s3_125 := f30.q 3 sL3_3
  refine go_reg [bx g1 35 (stC a)] [⟨1, 12, 35, (stC zS), some 2, (stC a)⟩] [some (.agg (stC a)), none, none] mo f30.d f30.z f30.b (by kernel_rfl) ⟨b_g1_124, trivial⟩ (
   hk (fun cx => cx.v (ldSt rfl (cx.rq 3 s3_125) (cx.rn 0 rfl)) rfl rfl) <|
   hk (fun cx => cx.al (wn rfl) 0 rfl (al_st rfl) rfl rfl rfl rfl (by kernel_rfl) trivial) <|
   hk (fun cx => cx.stA (wn rfl) rfl rfl 0 0 rfl rfl rfl rfl (cx.u 1 rfl) (st_info _) ((stC_size _).trans (stC_size _).symm) (stC_one _) f30.b.size rfl rfl trivial) <|
   hn) ?_
  intro a31 w31 f31
  obtain ⟨g4, u_g4, q_g4, b_g4⟩ := f31.al.1
  refine wp_seq ?_
  have s2_126 := f31.q 2 (f30.q 2 sL3_2)
  refine go_reg [⟨g4, 35, (stC a), some 7, (stC (upS a (n % 11).toNat tZ))⟩] [] [some (.int .i64 n), some (.int .i64 (Int.tmod n 11)), some (.int .i64 (Int.tmod n 11 + 11)), some (.int .i64 (n % 11)), some (.agg (tyC tZ)), some (pt g4 0), some (pt g4 (9 * (n % 11).toNat)), none] mo f31.d f31.z f31.b (by kernel_rfl) ⟨b_g4, trivial⟩ (
   hk (fun cx => cx.v (ex_mv rfl (cx.rq 2 s2_126)) rfl rfl) <|
   hk (fun cx => cx.v (ex_rem (x := .tmp 62) rfl (cx.u 0 rfl) rfl) rfl rfl) <|
   hk (fun cx => cx.v (ex_add (x := .tmp 63) rfl (cx.u 0 rfl) rfl) rfl (congrArg (Value.int .i64) (by have := tm_bd n; rw [IntKind.wrap_i64]; omega))) <|
   hk (fun cx => cx.v (v := .int .i64 (Int.tmod (Int.tmod n 11 + 11) 11)) (ex_rem (x := .tmp 64) rfl (cx.u 0 rfl) rfl) rfl (congrArg (Value.int .i64) (mod_is n))) <|
   hk (fun cx => cx.v (ex_z9 rfl) rfl rfl) <|
   hk (fun cx => cx.v (ex_fa rfl (cx.rq 12 u_g4) (faStateAllW35_0_0 _ _)) rfl rfl) <|
   hk (fun cx => cx.v (ex_ia (n := 11) (sz := 9) rfl (cx.u 0 rfl) (cx.u 1 rfl) Try.underlying32 (by kernel_rfl) (by omega) (by omega) (by omega)) rfl rfl) <|
   hk (fun cx => cx.stP (wn rfl) rfl rfl 0 rfl (cx.u 0 rfl) (cx.u 1 rfl) (tyC_one _) (by kernel_rfl) (by rw [stC_size]; show _ + 9 ≤ _; omega) (stC_set _ (by omega) _) (Nat.le_trans f30.b.size q_g4) rfl trivial trivial) <|
   hn) ?_
  intro a32 w32 f32
  refine wp_seq ?_
  cases fk9 : allN (setP a x) k3
  case false =>
   have Ffk9 := Lib.hid fk9; clear fk9
   have hse := Ffk9.out
   cases fk10 : hasS a x
   case false =>
    have Ffk10 := Lib.hid fk10; clear fk10
    have b_g3_127 := f32.kp (f31.k (f30.k bL3_g3)) ⟨.inr (ne_row (f30.k bL3_g3) q_g4), trivial⟩
    have b_g1_128 := f32.kp (f31.k b_g1_124) ⟨.inr (ne_row b_g1_124 q_g4), trivial⟩
    have b_g2_129 := f32.kp (f31.k (f30.k bL3_g2)) ⟨.inr (ne_row (f30.k bL3_g2) q_g4), trivial⟩
    have s7_130 := f32.q 7 (f31.q 7 (f30.q 7 sL3_7))
    have s3_131 := f32.q 3 (f31.q 3 s3_125)
    have s4_132 := f32.q 4 (f31.q 4 (f30.q 4 sL3_4))
    have s10_133 := f32.q 10 (f31.q 10 (f30.q 10 sL3_10))
    have s12_134 := f32.q 12 u_g4
    refine go_reg [bx g3 35 (stC (fillT (scaleS a 11) 11 k2 allT)), bx g1 35 (stC a), bx g2 39 (snC x), bx g4 35 (stC (upS a (n % 11).toNat tZ))] [] (tabs [some (.agg (stC (fillT (scaleS a 11) 11 k2 allT))), some (.bool true), some (.bool true), some (.agg (stC a)), some (.agg (stC (fillT (scaleS a 11) 11 k2 allT))), some (.bool true), some (.bool true), some (.bool true), some (.agg (stC (fillT (scaleS a 11) 11 k2 allT))), some (.agg (snC x)), some (.bool (hasS (fillT (scaleS a 11) 11 k2 allT) x)), some (.bool false), some (.bool true), some (.bool true), some (.bool true), some (.agg (stC a)), some (.agg (stC (upS a (n % 11).toNat tZ))), some (.bool true), some (.bool true), some (.bool true)] [some (.agg (stC a)), some (.agg (snC x)), some (.bool false), some (.bool true), some (.bool true), some (undef), some (undef), some (undef), some (.bool true), some (.bool true), some (.bool true), some (.bool true), some (.bool true), some (.bool true)]) mo f32.d f32.z f32.b (by kernel_rfl) ⟨b_g3_127, b_g1_128, b_g2_129, f32.rows.1, trivial⟩ (
     hk (fun cx => cx.v (ldSt rfl (cx.rq 7 s7_130) (cx.rn 0 rfl)) rfl rfl) <|
     hc (fun _ _ wx cx => cx.c rfl (args1 (cx.u 0 rfl)) Try.func15 (by decide +kernel) (tmay_n (fillT (scaleS a 11) 11 k2 allT) wx) rfl (congrArg Value.bool (by rw [fill_all a (k1 := 0) hge2]; exact allA_ok hoa))) <|
     hk (fun cx => cx.v (ex_mv rfl (cx.u 0 rfl)) rfl rfl) <|
     hk (fun cx => cx.val (cx.wy rfl rfl rfl rfl (cx.u 0 rfl)) (ldSt rfl (cx.rq 3 s3_131) (cx.rn 1 rfl)) rfl rfl rfl rfl) <|
     hk (fun cx => cx.val (cx.wy rfl rfl rfl rfl (cx.u 0 rfl)) (ldSt rfl (cx.rq 7 s7_130) (cx.rn 0 rfl)) rfl rfl rfl rfl) <|
     hc (fun _ _ wx cx => cx.call (cx.wy rfl rfl rfl rfl (cx.u 2 rfl)) rfl rfl (args2 (cx.u 0 rfl) (cx.u 1 rfl)) Try.func28 (by decide +kernel) rfl (tin_n a (fillT (scaleS a 11) 11 k2 allT) wx) rfl rfl (congrArg Value.bool (by rw [fill_all a (k1 := 0) hge2]; exact allA_in hoa)) rfl) <|
     hk (fun cx => cx.v (ex_pt rfl (cx.u 0 rfl) (cx.u 1 rfl)) rfl rfl) <|
     hk (fun cx => cx.v (ex_mv rfl (cx.u 0 rfl)) rfl rfl) <|
     hk (fun cx => cx.val (cx.wy rfl rfl rfl rfl (cx.u 0 rfl)) (ldSt rfl (cx.rq 7 s7_130) (cx.rn 0 rfl)) rfl rfl rfl rfl) <|
     hk (fun cx => cx.val (cx.wy rfl rfl rfl rfl (cx.u 0 rfl)) (ldSn rfl (cx.rq 4 s4_132) (cx.rn 2 rfl)) rfl rfl rfl rfl) <|
     hc (fun _ _ wx cx => cx.call (cx.wy rfl rfl rfl rfl (cx.u 2 rfl)) rfl rfl (args2 (cx.u 0 rfl) (cx.u 1 rfl)) Try.func21 (by decide +kernel) rfl (thas_n (fillT (scaleS a 11) 11 k2 allT) x wx (by rw [fill_all a (k1 := 0) hge2]; exact allA_Ok HA.out) HX.out) rfl rfl rfl rfl) <|
     hk (fun cx => cx.val (cx.wy rfl rfl rfl rfl (cx.u 0 rfl)) (ex_mv rfl (cx.rq 10 s10_133)) rfl rfl (congrArg Value.bool Ffk9.out) rfl) <|
     hc (fun _ ax _ cx => cx.val (v := .bool ((hasS (fillT (scaleS a 11) 11 k2 allT) x) == false)) (cx.wy rfl rfl rfl rfl (cx.u 2 rfl)) (by simp [execOp, Act.eval, (show ax.tmps.getD 79 undef = .bool (hasS (fillT (scaleS a 11) 11 k2 allT) x) from (cx.u 0 rfl)), (show ax.tmps.getD 80 undef = .bool false from (cx.u 1 rfl)), go_sem]) rfl rfl (congrArg Value.bool (by rw [fill_all a (k1 := 0) hge2, allA_has hoa, ← set_e a x hge3, hse]; rfl)) rfl) <|
     hk (fun cx => cx.v (ex_pt rfl (cx.u 0 rfl) (cx.u 1 rfl)) rfl rfl) <|
     hk (fun cx => cx.v (ex_mv rfl (cx.u 0 rfl)) rfl rfl) <|
     hk (fun cx => cx.val (cx.wy rfl rfl rfl rfl (cx.u 0 rfl)) (ldSt rfl (cx.rq 3 s3_131) (cx.rn 1 rfl)) rfl rfl rfl rfl) <|
     hk (fun cx => cx.val (cx.wy rfl rfl rfl rfl (cx.u 0 rfl)) (ldSt rfl (cx.rq 12 s12_134) (cx.rn 3 rfl)) rfl rfl rfl rfl) <|
     hc (fun _ _ wx cx => cx.call (cx.wy rfl rfl rfl rfl (cx.u 2 rfl)) rfl rfl (args2 (cx.u 0 rfl) (cx.u 1 rfl)) Try.func28 (by decide +kernel) rfl (tin_n a (upS a (n % 11).toNat tZ) wx) rfl rfl (congrArg Value.bool (few_in hoa hj11)) rfl) <|
     hk (fun cx => cx.v (ex_pt rfl (cx.u 0 rfl) (cx.u 1 rfl)) rfl rfl) <|
     hk (fun cx => cx.v (ex_mv rfl (cx.u 0 rfl)) rfl rfl) <|
     hk (fun cx => cx.val (cx.wy rfl rfl rfl rfl (cx.u 0 rfl)) (ldSt rfl (cx.rq 3 s3_131) (cx.rn 1 rfl)) rfl rfl rfl rfl) <|
     hk (fun cx => cx.val (cx.wy rfl rfl rfl rfl (cx.u 0 rfl)) (ldSn rfl (cx.rq 4 s4_132) (cx.rn 2 rfl)) rfl rfl rfl rfl) <|
     hc (fun _ _ wx cx => cx.call (cx.wy rfl rfl rfl rfl (cx.u 2 rfl)) rfl rfl (args2 (cx.u 0 rfl) (cx.u 1 rfl)) Try.func21 (by decide +kernel) rfl (thas_n a x wx HA.out HX.out) rfl rfl (congrArg Value.bool Ffk10.out) rfl) <|
     hk (fun cx => cx.val (cx.wy rfl rfl rfl rfl (cx.u 1 rfl)) (ex_not (x := .tmp 91) rfl (cx.u 0 rfl)) rfl rfl rfl rfl) <|
     hk (fun cx => cx.val (cx.wy rfl rfl rfl rfl (cx.u 2 rfl)) (ex_mv rfl (cx.u 0 rfl)) rfl rfl rfl rfl) <|
     hk (fun cx => cx.no (cx.wo rfl rfl rfl rfl (cx.u 0 rfl) rfl) rfl rfl rfl rfl) <|
     hk (fun cx => cx.no (cx.wo rfl rfl rfl rfl (cx.u 0 rfl) rfl) rfl rfl rfl rfl) <|
     hk (fun cx => cx.no (cx.wo rfl rfl rfl rfl (cx.u 2 rfl) rfl) rfl rfl rfl rfl) <|
     hk (fun cx => cx.val (cx.wy rfl rfl rfl rfl (cx.u 2 rfl)) (ex_pt rfl (cx.u 0 rfl) rfl) rfl rfl rfl rfl) <|
     hk (fun cx => cx.v (ex_pt rfl (cx.u 0 rfl) (cx.u 1 rfl)) rfl rfl) <|
     hk (fun cx => cx.v (ex_mv rfl (cx.u 0 rfl)) rfl rfl) <|
     hc (fun _ _ wx cx => cx.call (cx.wy rfl rfl rfl rfl (cx.u 0 rfl)) rfl rfl (args0 ) Try.func23 (by decide +kernel) rfl (wakes_n wx) rfl rfl rfl rfl) <|
     hk (fun cx => cx.v (ex_pt rfl (cx.u 0 rfl) (cx.u 1 rfl)) rfl rfl) <|
     hk (fun cx => cx.v (ex_as rfl (cx.u 0 rfl)) rfl rfl) <|
     hn) ?_
    intro a33 w33 f33
    refine wp_ret ?_
    try simp only [Exit.inBlock, Exit.then]
    refine bodyPost_ret (res_t (fn := Try.f6) rfl (f33.v 33 rfl rfl rfl)) f33.d ?_
    exact ⟨rfl, f33.b⟩
   have Ffk10 := Lib.hid fk10; clear fk10
   have hha := Ffk10.out
   have b_g3_135 := f32.kp (f31.k (f30.k bL3_g3)) ⟨.inr (ne_row (f30.k bL3_g3) q_g4), trivial⟩
   have b_g1_136 := f32.kp (f31.k b_g1_124) ⟨.inr (ne_row b_g1_124 q_g4), trivial⟩
   have b_g2_137 := f32.kp (f31.k (f30.k bL3_g2)) ⟨.inr (ne_row (f30.k bL3_g2) q_g4), trivial⟩
   have s7_138 := f32.q 7 (f31.q 7 (f30.q 7 sL3_7))
   have s3_139 := f32.q 3 (f31.q 3 s3_125)
   have s4_140 := f32.q 4 (f31.q 4 (f30.q 4 sL3_4))
   have s10_141 := f32.q 10 (f31.q 10 (f30.q 10 sL3_10))
   have s12_142 := f32.q 12 u_g4
   refine go_reg [bx g3 35 (stC (fillT (scaleS a 11) 11 k2 allT)), bx g1 35 (stC a), bx g2 39 (snC x), bx g4 35 (stC (upS a (n % 11).toNat tZ))] [] (tabs [some (.agg (stC (fillT (scaleS a 11) 11 k2 allT))), some (.bool true), some (.bool true), some (.agg (stC a)), some (.agg (stC (fillT (scaleS a 11) 11 k2 allT))), some (.bool true), some (.bool true), some (.bool true), some (.agg (stC (fillT (scaleS a 11) 11 k2 allT))), some (.agg (snC x)), some (.bool (hasS (fillT (scaleS a 11) 11 k2 allT) x)), some (.bool false), some (.bool true), some (.bool true), some (.bool true), some (.agg (stC a)), some (.agg (stC (upS a (n % 11).toNat tZ))), some (.bool true), some (.bool true), some (.bool true)] [some (.agg (stC a)), some (.agg (snC x)), some (.bool true), some (.bool false), some (.bool false), some (.agg (stC (upS a (n % 11).toNat tZ))), some (.agg (snC x)), some (.bool true), some (.bool true), some (.bool true), some (.bool true), some (.bool true), some (.bool true), some (.bool true)]) mo f32.d f32.z f32.b (by kernel_rfl) ⟨b_g3_135, b_g1_136, b_g2_137, f32.rows.1, trivial⟩ (
    hk (fun cx => cx.v (ldSt rfl (cx.rq 7 s7_138) (cx.rn 0 rfl)) rfl rfl) <|
    hc (fun _ _ wx cx => cx.c rfl (args1 (cx.u 0 rfl)) Try.func15 (by decide +kernel) (tmay_n (fillT (scaleS a 11) 11 k2 allT) wx) rfl (congrArg Value.bool (by rw [fill_all a (k1 := 0) hge2]; exact allA_ok hoa))) <|
    hk (fun cx => cx.v (ex_mv rfl (cx.u 0 rfl)) rfl rfl) <|
    hk (fun cx => cx.val (cx.wy rfl rfl rfl rfl (cx.u 0 rfl)) (ldSt rfl (cx.rq 3 s3_139) (cx.rn 1 rfl)) rfl rfl rfl rfl) <|
    hk (fun cx => cx.val (cx.wy rfl rfl rfl rfl (cx.u 0 rfl)) (ldSt rfl (cx.rq 7 s7_138) (cx.rn 0 rfl)) rfl rfl rfl rfl) <|
    hc (fun _ _ wx cx => cx.call (cx.wy rfl rfl rfl rfl (cx.u 2 rfl)) rfl rfl (args2 (cx.u 0 rfl) (cx.u 1 rfl)) Try.func28 (by decide +kernel) rfl (tin_n a (fillT (scaleS a 11) 11 k2 allT) wx) rfl rfl (congrArg Value.bool (by rw [fill_all a (k1 := 0) hge2]; exact allA_in hoa)) rfl) <|
    hk (fun cx => cx.v (ex_pt rfl (cx.u 0 rfl) (cx.u 1 rfl)) rfl rfl) <|
    hk (fun cx => cx.v (ex_mv rfl (cx.u 0 rfl)) rfl rfl) <|
    hk (fun cx => cx.val (cx.wy rfl rfl rfl rfl (cx.u 0 rfl)) (ldSt rfl (cx.rq 7 s7_138) (cx.rn 0 rfl)) rfl rfl rfl rfl) <|
    hk (fun cx => cx.val (cx.wy rfl rfl rfl rfl (cx.u 0 rfl)) (ldSn rfl (cx.rq 4 s4_140) (cx.rn 2 rfl)) rfl rfl rfl rfl) <|
    hc (fun _ _ wx cx => cx.call (cx.wy rfl rfl rfl rfl (cx.u 2 rfl)) rfl rfl (args2 (cx.u 0 rfl) (cx.u 1 rfl)) Try.func21 (by decide +kernel) rfl (thas_n (fillT (scaleS a 11) 11 k2 allT) x wx (by rw [fill_all a (k1 := 0) hge2]; exact allA_Ok HA.out) HX.out) rfl rfl rfl rfl) <|
    hk (fun cx => cx.val (cx.wy rfl rfl rfl rfl (cx.u 0 rfl)) (ex_mv rfl (cx.rq 10 s10_141)) rfl rfl (congrArg Value.bool Ffk9.out) rfl) <|
    hc (fun _ ax _ cx => cx.val (v := .bool ((hasS (fillT (scaleS a 11) 11 k2 allT) x) == false)) (cx.wy rfl rfl rfl rfl (cx.u 2 rfl)) (by simp [execOp, Act.eval, (show ax.tmps.getD 79 undef = .bool (hasS (fillT (scaleS a 11) 11 k2 allT) x) from (cx.u 0 rfl)), (show ax.tmps.getD 80 undef = .bool false from (cx.u 1 rfl)), go_sem]) rfl rfl (congrArg Value.bool (by rw [fill_all a (k1 := 0) hge2, allA_has hoa, ← set_e a x hge3, hse]; rfl)) rfl) <|
    hk (fun cx => cx.v (ex_pt rfl (cx.u 0 rfl) (cx.u 1 rfl)) rfl rfl) <|
    hk (fun cx => cx.v (ex_mv rfl (cx.u 0 rfl)) rfl rfl) <|
    hk (fun cx => cx.val (cx.wy rfl rfl rfl rfl (cx.u 0 rfl)) (ldSt rfl (cx.rq 3 s3_139) (cx.rn 1 rfl)) rfl rfl rfl rfl) <|
    hk (fun cx => cx.val (cx.wy rfl rfl rfl rfl (cx.u 0 rfl)) (ldSt rfl (cx.rq 12 s12_142) (cx.rn 3 rfl)) rfl rfl rfl rfl) <|
    hc (fun _ _ wx cx => cx.call (cx.wy rfl rfl rfl rfl (cx.u 2 rfl)) rfl rfl (args2 (cx.u 0 rfl) (cx.u 1 rfl)) Try.func28 (by decide +kernel) rfl (tin_n a (upS a (n % 11).toNat tZ) wx) rfl rfl (congrArg Value.bool (few_in hoa hj11)) rfl) <|
    hk (fun cx => cx.v (ex_pt rfl (cx.u 0 rfl) (cx.u 1 rfl)) rfl rfl) <|
    hk (fun cx => cx.v (ex_mv rfl (cx.u 0 rfl)) rfl rfl) <|
    hk (fun cx => cx.val (cx.wy rfl rfl rfl rfl (cx.u 0 rfl)) (ldSt rfl (cx.rq 3 s3_139) (cx.rn 1 rfl)) rfl rfl rfl rfl) <|
    hk (fun cx => cx.val (cx.wy rfl rfl rfl rfl (cx.u 0 rfl)) (ldSn rfl (cx.rq 4 s4_140) (cx.rn 2 rfl)) rfl rfl rfl rfl) <|
    hc (fun _ _ wx cx => cx.call (cx.wy rfl rfl rfl rfl (cx.u 2 rfl)) rfl rfl (args2 (cx.u 0 rfl) (cx.u 1 rfl)) Try.func21 (by decide +kernel) rfl (thas_n a x wx HA.out HX.out) rfl rfl (congrArg Value.bool Ffk10.out) rfl) <|
    hk (fun cx => cx.val (cx.wy rfl rfl rfl rfl (cx.u 1 rfl)) (ex_not (x := .tmp 91) rfl (cx.u 0 rfl)) rfl rfl rfl rfl) <|
    hk (fun cx => cx.val (cx.wy rfl rfl rfl rfl (cx.u 2 rfl)) (ex_mv rfl (cx.u 0 rfl)) rfl rfl rfl rfl) <|
    hk (fun cx => cx.val (cx.wy rfl rfl rfl rfl (cx.u 0 rfl)) (ldSt rfl (cx.rq 12 s12_142) (cx.rn 3 rfl)) rfl rfl rfl rfl) <|
    hk (fun cx => cx.val (cx.wy rfl rfl rfl rfl (cx.u 0 rfl)) (ldSn rfl (cx.rq 4 s4_140) (cx.rn 2 rfl)) rfl rfl rfl rfl) <|
    hc (fun _ _ wx cx => cx.call (cx.wy rfl rfl rfl rfl (cx.u 2 rfl)) rfl rfl (args2 (cx.u 0 rfl) (cx.u 1 rfl)) Try.func21 (by decide +kernel) rfl (thas_n (upS a (n % 11).toNat tZ) x wx (upS_ok HA.out z_tok _) HX.out) rfl rfl (congrArg Value.bool (few_has hha hj11)) rfl) <|
    hk (fun cx => cx.val (cx.wy rfl rfl rfl rfl (cx.u 2 rfl)) (ex_pf rfl (cx.u 0 rfl) (cx.u 1 rfl)) rfl rfl rfl rfl) <|
    hk (fun cx => cx.v (ex_pt rfl (cx.u 0 rfl) (cx.u 1 rfl)) rfl rfl) <|
    hk (fun cx => cx.v (ex_mv rfl (cx.u 0 rfl)) rfl rfl) <|
    hc (fun _ _ wx cx => cx.call (cx.wy rfl rfl rfl rfl (cx.u 0 rfl)) rfl rfl (args0 ) Try.func23 (by decide +kernel) rfl (wakes_n wx) rfl rfl rfl rfl) <|
    hk (fun cx => cx.v (ex_pt rfl (cx.u 0 rfl) (cx.u 1 rfl)) rfl rfl) <|
    hk (fun cx => cx.v (ex_as rfl (cx.u 0 rfl)) rfl rfl) <|
    hn) ?_
   intro a34 w34 f34
   refine wp_ret ?_
   try simp only [Exit.inBlock, Exit.then]
   refine bodyPost_ret (res_t (fn := Try.f6) rfl (f34.v 33 rfl rfl rfl)) f34.d ?_
   exact ⟨rfl, f34.b⟩
  have Ffk9 := Lib.hid fk9; clear fk9
  have hse := Ffk9.out
  cases fk11 : hasS a x
  case false =>
   have Ffk11 := Lib.hid fk11; clear fk11
   have b_g3_143 := f32.kp (f31.k (f30.k bL3_g3)) ⟨.inr (ne_row (f30.k bL3_g3) q_g4), trivial⟩
   have b_g1_144 := f32.kp (f31.k b_g1_124) ⟨.inr (ne_row b_g1_124 q_g4), trivial⟩
   have b_g2_145 := f32.kp (f31.k (f30.k bL3_g2)) ⟨.inr (ne_row (f30.k bL3_g2) q_g4), trivial⟩
   have s7_146 := f32.q 7 (f31.q 7 (f30.q 7 sL3_7))
   have s3_147 := f32.q 3 (f31.q 3 s3_125)
   have s4_148 := f32.q 4 (f31.q 4 (f30.q 4 sL3_4))
   have s10_149 := f32.q 10 (f31.q 10 (f30.q 10 sL3_10))
   have s12_150 := f32.q 12 u_g4
   refine go_reg [bx g3 35 (stC (fillT (scaleS a 11) 11 k2 allT)), bx g1 35 (stC a), bx g2 39 (snC x), bx g4 35 (stC (upS a (n % 11).toNat tZ))] [] (tabs [some (.agg (stC (fillT (scaleS a 11) 11 k2 allT))), some (.bool true), some (.bool true), some (.agg (stC a)), some (.agg (stC (fillT (scaleS a 11) 11 k2 allT))), some (.bool true), some (.bool true), some (.bool true), some (.agg (stC (fillT (scaleS a 11) 11 k2 allT))), some (.agg (snC x)), some (.bool (hasS (fillT (scaleS a 11) 11 k2 allT) x)), some (.bool true), some (.bool true), some (.bool true), some (.bool true), some (.agg (stC a)), some (.agg (stC (upS a (n % 11).toNat tZ))), some (.bool true), some (.bool true), some (.bool true)] [some (.agg (stC a)), some (.agg (snC x)), some (.bool false), some (.bool true), some (.bool true), some (undef), some (undef), some (undef), some (.bool true), some (.bool true), some (.bool true), some (.bool true), some (.bool true), some (.bool true)]) mo f32.d f32.z f32.b (by kernel_rfl) ⟨b_g3_143, b_g1_144, b_g2_145, f32.rows.1, trivial⟩ (
    hk (fun cx => cx.v (ldSt rfl (cx.rq 7 s7_146) (cx.rn 0 rfl)) rfl rfl) <|
    hc (fun _ _ wx cx => cx.c rfl (args1 (cx.u 0 rfl)) Try.func15 (by decide +kernel) (tmay_n (fillT (scaleS a 11) 11 k2 allT) wx) rfl (congrArg Value.bool (by rw [fill_all a (k1 := 0) hge2]; exact allA_ok hoa))) <|
    hk (fun cx => cx.v (ex_mv rfl (cx.u 0 rfl)) rfl rfl) <|
    hk (fun cx => cx.val (cx.wy rfl rfl rfl rfl (cx.u 0 rfl)) (ldSt rfl (cx.rq 3 s3_147) (cx.rn 1 rfl)) rfl rfl rfl rfl) <|
    hk (fun cx => cx.val (cx.wy rfl rfl rfl rfl (cx.u 0 rfl)) (ldSt rfl (cx.rq 7 s7_146) (cx.rn 0 rfl)) rfl rfl rfl rfl) <|
    hc (fun _ _ wx cx => cx.call (cx.wy rfl rfl rfl rfl (cx.u 2 rfl)) rfl rfl (args2 (cx.u 0 rfl) (cx.u 1 rfl)) Try.func28 (by decide +kernel) rfl (tin_n a (fillT (scaleS a 11) 11 k2 allT) wx) rfl rfl (congrArg Value.bool (by rw [fill_all a (k1 := 0) hge2]; exact allA_in hoa)) rfl) <|
    hk (fun cx => cx.v (ex_pt rfl (cx.u 0 rfl) (cx.u 1 rfl)) rfl rfl) <|
    hk (fun cx => cx.v (ex_mv rfl (cx.u 0 rfl)) rfl rfl) <|
    hk (fun cx => cx.val (cx.wy rfl rfl rfl rfl (cx.u 0 rfl)) (ldSt rfl (cx.rq 7 s7_146) (cx.rn 0 rfl)) rfl rfl rfl rfl) <|
    hk (fun cx => cx.val (cx.wy rfl rfl rfl rfl (cx.u 0 rfl)) (ldSn rfl (cx.rq 4 s4_148) (cx.rn 2 rfl)) rfl rfl rfl rfl) <|
    hc (fun _ _ wx cx => cx.call (cx.wy rfl rfl rfl rfl (cx.u 2 rfl)) rfl rfl (args2 (cx.u 0 rfl) (cx.u 1 rfl)) Try.func21 (by decide +kernel) rfl (thas_n (fillT (scaleS a 11) 11 k2 allT) x wx (by rw [fill_all a (k1 := 0) hge2]; exact allA_Ok HA.out) HX.out) rfl rfl rfl rfl) <|
    hk (fun cx => cx.val (cx.wy rfl rfl rfl rfl (cx.u 0 rfl)) (ex_mv rfl (cx.rq 10 s10_149)) rfl rfl (congrArg Value.bool Ffk9.out) rfl) <|
    hc (fun _ ax _ cx => cx.val (v := .bool ((hasS (fillT (scaleS a 11) 11 k2 allT) x) == true)) (cx.wy rfl rfl rfl rfl (cx.u 2 rfl)) (by simp [execOp, Act.eval, (show ax.tmps.getD 79 undef = .bool (hasS (fillT (scaleS a 11) 11 k2 allT) x) from (cx.u 0 rfl)), (show ax.tmps.getD 80 undef = .bool true from (cx.u 1 rfl)), go_sem]) rfl rfl (congrArg Value.bool (by rw [fill_all a (k1 := 0) hge2, allA_has hoa, ← set_e a x hge3, hse]; rfl)) rfl) <|
    hk (fun cx => cx.v (ex_pt rfl (cx.u 0 rfl) (cx.u 1 rfl)) rfl rfl) <|
    hk (fun cx => cx.v (ex_mv rfl (cx.u 0 rfl)) rfl rfl) <|
    hk (fun cx => cx.val (cx.wy rfl rfl rfl rfl (cx.u 0 rfl)) (ldSt rfl (cx.rq 3 s3_147) (cx.rn 1 rfl)) rfl rfl rfl rfl) <|
    hk (fun cx => cx.val (cx.wy rfl rfl rfl rfl (cx.u 0 rfl)) (ldSt rfl (cx.rq 12 s12_150) (cx.rn 3 rfl)) rfl rfl rfl rfl) <|
    hc (fun _ _ wx cx => cx.call (cx.wy rfl rfl rfl rfl (cx.u 2 rfl)) rfl rfl (args2 (cx.u 0 rfl) (cx.u 1 rfl)) Try.func28 (by decide +kernel) rfl (tin_n a (upS a (n % 11).toNat tZ) wx) rfl rfl (congrArg Value.bool (few_in hoa hj11)) rfl) <|
    hk (fun cx => cx.v (ex_pt rfl (cx.u 0 rfl) (cx.u 1 rfl)) rfl rfl) <|
    hk (fun cx => cx.v (ex_mv rfl (cx.u 0 rfl)) rfl rfl) <|
    hk (fun cx => cx.val (cx.wy rfl rfl rfl rfl (cx.u 0 rfl)) (ldSt rfl (cx.rq 3 s3_147) (cx.rn 1 rfl)) rfl rfl rfl rfl) <|
    hk (fun cx => cx.val (cx.wy rfl rfl rfl rfl (cx.u 0 rfl)) (ldSn rfl (cx.rq 4 s4_148) (cx.rn 2 rfl)) rfl rfl rfl rfl) <|
    hc (fun _ _ wx cx => cx.call (cx.wy rfl rfl rfl rfl (cx.u 2 rfl)) rfl rfl (args2 (cx.u 0 rfl) (cx.u 1 rfl)) Try.func21 (by decide +kernel) rfl (thas_n a x wx HA.out HX.out) rfl rfl (congrArg Value.bool Ffk11.out) rfl) <|
    hk (fun cx => cx.val (cx.wy rfl rfl rfl rfl (cx.u 1 rfl)) (ex_not (x := .tmp 91) rfl (cx.u 0 rfl)) rfl rfl rfl rfl) <|
    hk (fun cx => cx.val (cx.wy rfl rfl rfl rfl (cx.u 2 rfl)) (ex_mv rfl (cx.u 0 rfl)) rfl rfl rfl rfl) <|
    hk (fun cx => cx.no (cx.wo rfl rfl rfl rfl (cx.u 0 rfl) rfl) rfl rfl rfl rfl) <|
    hk (fun cx => cx.no (cx.wo rfl rfl rfl rfl (cx.u 0 rfl) rfl) rfl rfl rfl rfl) <|
    hk (fun cx => cx.no (cx.wo rfl rfl rfl rfl (cx.u 2 rfl) rfl) rfl rfl rfl rfl) <|
    hk (fun cx => cx.val (cx.wy rfl rfl rfl rfl (cx.u 2 rfl)) (ex_pt rfl (cx.u 0 rfl) rfl) rfl rfl rfl rfl) <|
    hk (fun cx => cx.v (ex_pt rfl (cx.u 0 rfl) (cx.u 1 rfl)) rfl rfl) <|
    hk (fun cx => cx.v (ex_mv rfl (cx.u 0 rfl)) rfl rfl) <|
    hc (fun _ _ wx cx => cx.call (cx.wy rfl rfl rfl rfl (cx.u 0 rfl)) rfl rfl (args0 ) Try.func23 (by decide +kernel) rfl (wakes_n wx) rfl rfl rfl rfl) <|
    hk (fun cx => cx.v (ex_pt rfl (cx.u 0 rfl) (cx.u 1 rfl)) rfl rfl) <|
    hk (fun cx => cx.v (ex_as rfl (cx.u 0 rfl)) rfl rfl) <|
    hn) ?_
   intro a35 w35 f35
   refine wp_ret ?_
   try simp only [Exit.inBlock, Exit.then]
   refine bodyPost_ret (res_t (fn := Try.f6) rfl (f35.v 33 rfl rfl rfl)) f35.d ?_
   exact ⟨rfl, f35.b⟩
  have Ffk11 := Lib.hid fk11; clear fk11
  have hha := Ffk11.out
  have b_g3_151 := f32.kp (f31.k (f30.k bL3_g3)) ⟨.inr (ne_row (f30.k bL3_g3) q_g4), trivial⟩
  have b_g1_152 := f32.kp (f31.k b_g1_124) ⟨.inr (ne_row b_g1_124 q_g4), trivial⟩
  have b_g2_153 := f32.kp (f31.k (f30.k bL3_g2)) ⟨.inr (ne_row (f30.k bL3_g2) q_g4), trivial⟩
  have s7_154 := f32.q 7 (f31.q 7 (f30.q 7 sL3_7))
  have s3_155 := f32.q 3 (f31.q 3 s3_125)
  have s4_156 := f32.q 4 (f31.q 4 (f30.q 4 sL3_4))
  have s10_157 := f32.q 10 (f31.q 10 (f30.q 10 sL3_10))
  have s12_158 := f32.q 12 u_g4
  refine go_reg [bx g3 35 (stC (fillT (scaleS a 11) 11 k2 allT)), bx g1 35 (stC a), bx g2 39 (snC x), bx g4 35 (stC (upS a (n % 11).toNat tZ))] [] (tabs [some (.agg (stC (fillT (scaleS a 11) 11 k2 allT))), some (.bool true), some (.bool true), some (.agg (stC a)), some (.agg (stC (fillT (scaleS a 11) 11 k2 allT))), some (.bool true), some (.bool true), some (.bool true), some (.agg (stC (fillT (scaleS a 11) 11 k2 allT))), some (.agg (snC x)), some (.bool (hasS (fillT (scaleS a 11) 11 k2 allT) x)), some (.bool true), some (.bool true), some (.bool true), some (.bool true), some (.agg (stC a)), some (.agg (stC (upS a (n % 11).toNat tZ))), some (.bool true), some (.bool true), some (.bool true)] [some (.agg (stC a)), some (.agg (snC x)), some (.bool true), some (.bool false), some (.bool false), some (.agg (stC (upS a (n % 11).toNat tZ))), some (.agg (snC x)), some (.bool true), some (.bool true), some (.bool true), some (.bool true), some (.bool true), some (.bool true), some (.bool true)]) mo f32.d f32.z f32.b (by kernel_rfl) ⟨b_g3_151, b_g1_152, b_g2_153, f32.rows.1, trivial⟩ (
   hk (fun cx => cx.v (ldSt rfl (cx.rq 7 s7_154) (cx.rn 0 rfl)) rfl rfl) <|
   hc (fun _ _ wx cx => cx.c rfl (args1 (cx.u 0 rfl)) Try.func15 (by decide +kernel) (tmay_n (fillT (scaleS a 11) 11 k2 allT) wx) rfl (congrArg Value.bool (by rw [fill_all a (k1 := 0) hge2]; exact allA_ok hoa))) <|
   hk (fun cx => cx.v (ex_mv rfl (cx.u 0 rfl)) rfl rfl) <|
   hk (fun cx => cx.val (cx.wy rfl rfl rfl rfl (cx.u 0 rfl)) (ldSt rfl (cx.rq 3 s3_155) (cx.rn 1 rfl)) rfl rfl rfl rfl) <|
   hk (fun cx => cx.val (cx.wy rfl rfl rfl rfl (cx.u 0 rfl)) (ldSt rfl (cx.rq 7 s7_154) (cx.rn 0 rfl)) rfl rfl rfl rfl) <|
   hc (fun _ _ wx cx => cx.call (cx.wy rfl rfl rfl rfl (cx.u 2 rfl)) rfl rfl (args2 (cx.u 0 rfl) (cx.u 1 rfl)) Try.func28 (by decide +kernel) rfl (tin_n a (fillT (scaleS a 11) 11 k2 allT) wx) rfl rfl (congrArg Value.bool (by rw [fill_all a (k1 := 0) hge2]; exact allA_in hoa)) rfl) <|
   hk (fun cx => cx.v (ex_pt rfl (cx.u 0 rfl) (cx.u 1 rfl)) rfl rfl) <|
   hk (fun cx => cx.v (ex_mv rfl (cx.u 0 rfl)) rfl rfl) <|
   hk (fun cx => cx.val (cx.wy rfl rfl rfl rfl (cx.u 0 rfl)) (ldSt rfl (cx.rq 7 s7_154) (cx.rn 0 rfl)) rfl rfl rfl rfl) <|
   hk (fun cx => cx.val (cx.wy rfl rfl rfl rfl (cx.u 0 rfl)) (ldSn rfl (cx.rq 4 s4_156) (cx.rn 2 rfl)) rfl rfl rfl rfl) <|
   hc (fun _ _ wx cx => cx.call (cx.wy rfl rfl rfl rfl (cx.u 2 rfl)) rfl rfl (args2 (cx.u 0 rfl) (cx.u 1 rfl)) Try.func21 (by decide +kernel) rfl (thas_n (fillT (scaleS a 11) 11 k2 allT) x wx (by rw [fill_all a (k1 := 0) hge2]; exact allA_Ok HA.out) HX.out) rfl rfl rfl rfl) <|
   hk (fun cx => cx.val (cx.wy rfl rfl rfl rfl (cx.u 0 rfl)) (ex_mv rfl (cx.rq 10 s10_157)) rfl rfl (congrArg Value.bool Ffk9.out) rfl) <|
   hc (fun _ ax _ cx => cx.val (v := .bool ((hasS (fillT (scaleS a 11) 11 k2 allT) x) == true)) (cx.wy rfl rfl rfl rfl (cx.u 2 rfl)) (by simp [execOp, Act.eval, (show ax.tmps.getD 79 undef = .bool (hasS (fillT (scaleS a 11) 11 k2 allT) x) from (cx.u 0 rfl)), (show ax.tmps.getD 80 undef = .bool true from (cx.u 1 rfl)), go_sem]) rfl rfl (congrArg Value.bool (by rw [fill_all a (k1 := 0) hge2, allA_has hoa, ← set_e a x hge3, hse]; rfl)) rfl) <|
   hk (fun cx => cx.v (ex_pt rfl (cx.u 0 rfl) (cx.u 1 rfl)) rfl rfl) <|
   hk (fun cx => cx.v (ex_mv rfl (cx.u 0 rfl)) rfl rfl) <|
   hk (fun cx => cx.val (cx.wy rfl rfl rfl rfl (cx.u 0 rfl)) (ldSt rfl (cx.rq 3 s3_155) (cx.rn 1 rfl)) rfl rfl rfl rfl) <|
   hk (fun cx => cx.val (cx.wy rfl rfl rfl rfl (cx.u 0 rfl)) (ldSt rfl (cx.rq 12 s12_158) (cx.rn 3 rfl)) rfl rfl rfl rfl) <|
   hc (fun _ _ wx cx => cx.call (cx.wy rfl rfl rfl rfl (cx.u 2 rfl)) rfl rfl (args2 (cx.u 0 rfl) (cx.u 1 rfl)) Try.func28 (by decide +kernel) rfl (tin_n a (upS a (n % 11).toNat tZ) wx) rfl rfl (congrArg Value.bool (few_in hoa hj11)) rfl) <|
   hk (fun cx => cx.v (ex_pt rfl (cx.u 0 rfl) (cx.u 1 rfl)) rfl rfl) <|
   hk (fun cx => cx.v (ex_mv rfl (cx.u 0 rfl)) rfl rfl) <|
   hk (fun cx => cx.val (cx.wy rfl rfl rfl rfl (cx.u 0 rfl)) (ldSt rfl (cx.rq 3 s3_155) (cx.rn 1 rfl)) rfl rfl rfl rfl) <|
   hk (fun cx => cx.val (cx.wy rfl rfl rfl rfl (cx.u 0 rfl)) (ldSn rfl (cx.rq 4 s4_156) (cx.rn 2 rfl)) rfl rfl rfl rfl) <|
   hc (fun _ _ wx cx => cx.call (cx.wy rfl rfl rfl rfl (cx.u 2 rfl)) rfl rfl (args2 (cx.u 0 rfl) (cx.u 1 rfl)) Try.func21 (by decide +kernel) rfl (thas_n a x wx HA.out HX.out) rfl rfl (congrArg Value.bool Ffk11.out) rfl) <|
   hk (fun cx => cx.val (cx.wy rfl rfl rfl rfl (cx.u 1 rfl)) (ex_not (x := .tmp 91) rfl (cx.u 0 rfl)) rfl rfl rfl rfl) <|
   hk (fun cx => cx.val (cx.wy rfl rfl rfl rfl (cx.u 2 rfl)) (ex_mv rfl (cx.u 0 rfl)) rfl rfl rfl rfl) <|
   hk (fun cx => cx.val (cx.wy rfl rfl rfl rfl (cx.u 0 rfl)) (ldSt rfl (cx.rq 12 s12_158) (cx.rn 3 rfl)) rfl rfl rfl rfl) <|
   hk (fun cx => cx.val (cx.wy rfl rfl rfl rfl (cx.u 0 rfl)) (ldSn rfl (cx.rq 4 s4_156) (cx.rn 2 rfl)) rfl rfl rfl rfl) <|
   hc (fun _ _ wx cx => cx.call (cx.wy rfl rfl rfl rfl (cx.u 2 rfl)) rfl rfl (args2 (cx.u 0 rfl) (cx.u 1 rfl)) Try.func21 (by decide +kernel) rfl (thas_n (upS a (n % 11).toNat tZ) x wx (upS_ok HA.out z_tok _) HX.out) rfl rfl (congrArg Value.bool (few_has hha hj11)) rfl) <|
   hk (fun cx => cx.val (cx.wy rfl rfl rfl rfl (cx.u 2 rfl)) (ex_pf rfl (cx.u 0 rfl) (cx.u 1 rfl)) rfl rfl rfl rfl) <|
   hk (fun cx => cx.v (ex_pt rfl (cx.u 0 rfl) (cx.u 1 rfl)) rfl rfl) <|
   hk (fun cx => cx.v (ex_mv rfl (cx.u 0 rfl)) rfl rfl) <|
   hc (fun _ _ wx cx => cx.call (cx.wy rfl rfl rfl rfl (cx.u 0 rfl)) rfl rfl (args0 ) Try.func23 (by decide +kernel) rfl (wakes_n wx) rfl rfl rfl rfl) <|
   hk (fun cx => cx.v (ex_pt rfl (cx.u 0 rfl) (cx.u 1 rfl)) rfl rfl) <|
   hk (fun cx => cx.v (ex_as rfl (cx.u 0 rfl)) rfl rfl) <|
   hn) ?_
  intro a36 w36 f36
  refine wp_ret ?_
  try simp only [Exit.inBlock, Exit.then]
  refine bodyPost_ret (res_t (fn := Try.f6) rfl (f36.v 33 rfl rfl rfl)) f36.d ?_
  exact ⟨rfl, f36.b⟩
end Go.Proofs.Ytcnneeimkcnjfaa.Sta
