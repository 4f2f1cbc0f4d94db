/-
  The document's own answer for states (latheref10): joined, widened, within. (Written by gen_stk.py.)
-/
import Derived.Test.YtcnneeimkcnjfaaStI
namespace Go.Proofs.Ytcnneeimkcnjfaa.Sta
open Go.RowKit Bnd Knw
set_option linter.unusedVariables false
set_option linter.unusedSimpArgs false
set_option linter.unnecessarySimpa false
set_option maxRecDepth 100000
theorem faStK31_0_0 (g : Nat) (w : World) : (Instr.fieldAt 31 (.pointer (some ⟨g, 0, none⟩)) 0).run Try.prog w = .ok (.pointer (some ⟨g, 0, none⟩)) w := by simp [go_sem]
theorem faStK31_2_0 (g : Nat) (w : World) : (Instr.fieldAt 31 (.pointer (some ⟨g, 0, none⟩)) 2).run Try.prog w = .ok (.pointer (some ⟨g, 7, none⟩)) w := by simp [go_sem]
theorem faStK31_3_0 (g : Nat) (w : World) : (Instr.fieldAt 31 (.pointer (some ⟨g, 0, none⟩)) 3).run Try.prog w = .ok (.pointer (some ⟨g, 8, none⟩)) w := by simp [go_sem]
theorem faStK31_1_0 (g : Nat) (w : World) : (Instr.fieldAt 31 (.pointer (some ⟨g, 0, none⟩)) 1).run Try.prog w = .ok (.pointer (some ⟨g, 1, none⟩)) w := by simp [go_sem]
theorem faStK35_0_0 (g : Nat) (w : World) : (Instr.fieldAt 35 (.pointer (some ⟨g, 0, none⟩)) 0).run Try.prog w = .ok (.pointer (some ⟨g, 0, none⟩)) w := by simp [go_sem]
theorem faStK35_1_0 (g : Nat) (w : World) : (Instr.fieldAt 35 (.pointer (some ⟨g, 0, none⟩)) 1).run Try.prog w = .ok (.pointer (some ⟨g, 99, none⟩)) w := by simp [go_sem]
def wLo (a b : Ty) : Int := bif decide (b.lo < a.lo) then -1048576 else a.lo
def wHi (a b : Ty) : Int := bif decide (a.hi < b.hi) then 1048576 else a.hi
set_option maxHeartbeats 4000000 in
theorem qjoinf_n (a b : Ty) (W : World) (ha : a.Ok) (hb : b.Ok) : Calls Try.prog 80 #[.agg (tyC a), .agg (tyC b), .bool false] W fun e w' => e = .returned (.agg (tyC (jT a b))) ∧ Below W.heap.size W w' := by
  have HA := Lib.hid ha
  have HB := Lib.hid hb
  clear ha hb
  refine calls_abs Try.func80 rfl (Nat.le_of_ble_eq_true rfl) ?_
  intro a0 d0 z0 h0
  replace z0 : a0.tmps.size = 86 := z0
  have s0_0 : a0.tmps.getD 0 undef = .agg (tyC a) := h0 0 (Nat.le_of_ble_eq_true rfl)
  have s1_0 : a0.tmps.getD 1 undef = .agg (tyC b) := h0 1 (Nat.le_of_ble_eq_true rfl)
  have s2_0 : a0.tmps.getD 2 undef = .bool false := h0 2 (Nat.le_of_ble_eq_true rfl)
  refine wp_seq ?_
  refine go_reg [] [⟨0, 3, 31, (tyC a), none, #[]⟩, ⟨1, 4, 31, (tyC b), none, #[]⟩, ⟨2, 6, 31, (tyC tZ), none, #[]⟩] [none, none, none] mo d0 z0 (Below.refl _ _) (by kernel_rfl) trivial (
   hk (fun cx => cx.al (wn rfl) 0 rfl (ex_box rfl (cx.rq 0 s0_0) rfl) rfl rfl rfl rfl rfl trivial) <|
   hk (fun cx => cx.al (wn rfl) 1 rfl (ex_box rfl (cx.rq 1 s1_0) rfl) rfl rfl rfl rfl rfl trivial) <|
   hk (fun cx => cx.al (wn rfl) 2 rfl (al_ty rfl) rfl rfl rfl rfl rfl trivial) <|
   hn) ?_
  intro a1 w1 f1
  obtain ⟨g1, u_g1, q_g1, b_g1⟩ := f1.al.1
  obtain ⟨g2, u_g2, q_g2, b_g2⟩ := f1.al.2.1
  obtain ⟨g3, u_g3, q_g3, b_g3⟩ := f1.al.2.2.1
  refine wp_seq ?_
  refine wp_block ?_
  refine wp_seq ?_
  cases fk1 : a.kd == 0
  case false =>
   have Ffk1 := Lib.hid fk1; clear fk1
   cases fk2 : b.kd == 0
   case false =>
    have Ffk2 := Lib.hid fk2; clear fk2
    refine go_reg [bx g1 31 (tyC a), bx g2 31 (tyC b)] [] [some (pt g1 0), some (.int .i8 a.kd), oF, oF, some (pt g2 0), some (.int .i8 b.kd), oF, oF, oF] mo f1.d f1.z f1.b (by kernel_rfl) ⟨b_g1, b_g2, trivial⟩ (
     hk (fun cx => cx.q (ex_fa rfl (cx.rq 3 u_g1) (faStK31_0_0 _ _))) <|
     hk (fun cx => cx.q (ex_ld rfl (cx.u 0 rfl) (cx.rn 0 rfl) rfl Try.isAgg22)) <|
     hk (fun cx => cx.v (ex_eq (x := .tmp 10) rfl (cx.u 0 rfl) rfl) rfl (congrArg Value.bool Ffk1.out)) <|
     kmu 0 <|
     hk (fun cx => cx.vy 0 (ex_fa rfl (cx.rq 4 u_g2) (faStK31_0_0 _ _))) <|
     hk (fun cx => cx.vy 1 (ex_ld rfl (cx.u 0 rfl) (cx.rn 1 rfl) rfl Try.isAgg22)) <|
     hk (fun cx => cx.vy 1 (ex_eq (x := .tmp 14) rfl (cx.u 0 rfl) rfl) (congrArg Value.bool Ffk2.out)) <|
     hk (fun cx => cx.q (ex_pf rfl (cx.u 0 rfl) (cx.u 1 rfl))) <|
     kmu 0 <|
     hn) ?_
    intro a2 w2 f2
    refine wp_cond_false (f2.v 8 rfl rfl rfl) ?_
    refine wp_seq ?_
    cases fk3 : a.kd == 1
    case false =>
     have Ffk3 := Lib.hid fk3; clear fk3
     have b_g1_1 := f2.k b_g1
     have s3_2 := f2.q 3 u_g1
     refine go_reg [bx g1 31 (tyC a)] [] [some (pt g1 0), some (.int .i8 a.kd), oF, oF, oU, oU, oU, oF, oF, oU, oF, oF] mo f2.d f2.z f2.b (by kernel_rfl) ⟨b_g1_1, trivial⟩ (
      hk (fun cx => cx.q (ex_fa rfl (cx.rq 3 s3_2) (faStK31_0_0 _ _))) <|
      hk (fun cx => cx.q (ex_ld rfl (cx.u 0 rfl) (cx.rn 0 rfl) rfl Try.isAgg22)) <|
      hk (fun cx => cx.v (ex_eq (x := .tmp 20) rfl (cx.u 0 rfl) rfl) rfl (congrArg Value.bool Ffk3.out)) <|
      kmu 0 <|
      kno 0 <|
      kno 1 <|
      kno 1 <|
      hk (fun cx => cx.q (ex_pf rfl (cx.u 0 rfl) rfl)) <|
      kmu 0 <|
      kno 0 <|
      hk (fun cx => cx.q (ex_pf rfl (cx.u 0 rfl) rfl)) <|
      kmu 0 <|
      hn) ?_
     intro a3 w3 f3
     refine wp_cond_false (f3.v 11 rfl rfl rfl) ?_
     refine wp_seq ?_
     have b_g1_3 := f3.k b_g1_1
     have s3_4 := f3.q 3 s3_2
     refine go_reg [bx g1 31 (tyC a)] [] [some (pt g1 0), some (.int .i8 a.kd), oF, oF, oU, oU, oU, oF, oF] mo f3.d f3.z f3.b (by kernel_rfl) ⟨b_g1_3, trivial⟩ (
      hk (fun cx => cx.q (ex_fa rfl (cx.rq 3 s3_4) (faStK31_0_0 _ _))) <|
      hk (fun cx => cx.q (ex_ld rfl (cx.u 0 rfl) (cx.rn 0 rfl) rfl Try.isAgg22)) <|
      hk (fun cx => cx.v (ex_eq (x := .tmp 38) rfl (cx.u 0 rfl) rfl) rfl (congrArg Value.bool Ffk3.out)) <|
      kmu 0 <|
      kno 0 <|
      kno 1 <|
      kno 1 <|
      hk (fun cx => cx.q (ex_pf rfl (cx.u 0 rfl) rfl)) <|
      kmu 0 <|
      hn) ?_
     intro a4 w4 f4
     refine wp_cond_false (f4.v 8 rfl rfl rfl) ?_
     refine wp_seq ?_
     cases fk4 : a.kd != b.kd
     case false =>
      have Ffk4 := Lib.hid fk4; clear fk4
      have b_g1_5 := f4.k b_g1_3
      have b_g2_6 := f4.k (f3.k (f2.k b_g2))
      have s3_7 := f4.q 3 s3_4
      have s4_8 := f4.q 4 (f3.q 4 (f2.q 4 u_g2))
      refine go_reg [bx g1 31 (tyC a), bx g2 31 (tyC b)] [] [some (pt g1 0), some (.int .i8 a.kd), some (pt g2 0), some (.int .i8 b.kd), oF, oF] mo f4.d f4.z f4.b (by kernel_rfl) ⟨b_g1_5, b_g2_6, trivial⟩ (
       hk (fun cx => cx.q (ex_fa rfl (cx.rq 3 s3_7) (faStK31_0_0 _ _))) <|
       hk (fun cx => cx.q (ex_ld rfl (cx.u 0 rfl) (cx.rn 0 rfl) rfl Try.isAgg22)) <|
       hk (fun cx => cx.q (ex_fa rfl (cx.rq 4 s4_8) (faStK31_0_0 _ _))) <|
       hk (fun cx => cx.q (ex_ld rfl (cx.u 0 rfl) (cx.rn 1 rfl) rfl Try.isAgg22)) <|
       hk (fun cx => cx.v (ex_ne (x := .tmp 53) (y := .tmp 55) rfl (cx.u 0 rfl) (cx.u 1 rfl)) rfl (congrArg Value.bool Ffk4.out)) <|
       kmu 0 <|
       hn) ?_
      intro a5 w5 f5
      refine wp_cond_false (f5.v 5 rfl rfl rfl) ?_
      refine wp_skip ?_
      refine wp_seq ?_
      have b_g1_9 := f5.k b_g1_5
      have s3_10 := f5.q 3 s3_7
      refine go_reg [bx g1 31 (tyC a)] [⟨7, 7, 31, (tyC tZ), some 8, (tyC ⟨a.kd, tZ.s, a.lo, a.hi⟩)⟩] [some (pt g1 0), some (.int .i8 a.kd), some (pt g1 7), some (.int .i64 a.lo), some (pt g1 8), some (.int .i64 a.hi), some (.agg (tyC ⟨a.kd, tZ.s, a.lo, a.hi⟩)), none, none] mo f5.d f5.z f5.b (by kernel_rfl) ⟨b_g1_9, trivial⟩ (
       hk (fun cx => cx.q (ex_fa rfl (cx.rq 3 s3_10) (faStK31_0_0 _ _))) <|
       hk (fun cx => cx.q (ex_ld rfl (cx.u 0 rfl) (cx.rn 0 rfl) rfl Try.isAgg22)) <|
       hk (fun cx => cx.q (ex_fa rfl (cx.rq 3 s3_10) (faStK31_2_0 _ _))) <|
       hk (fun cx => cx.q (ex_ld rfl (cx.u 0 rfl) (cx.rn 0 rfl) rfl Try.isAgg3)) <|
       hk (fun cx => cx.q (ex_fa rfl (cx.rq 3 s3_10) (faStK31_3_0 _ _))) <|
       hk (fun cx => cx.q (ex_ld rfl (cx.u 0 rfl) (cx.rn 0 rfl) rfl Try.isAgg3)) <|
       hk (fun cx => cx.q (exec_build rfl (parts3 (cx.u 0 rfl) (cx.u 1 rfl) (cx.u 2 rfl)) (by kernel_rfl))) <|
       hk (fun cx => cx.al (wn rfl) 0 rfl (al_ty rfl) rfl rfl rfl rfl (by kernel_rfl) trivial) <|
       hk (fun cx => cx.stA (wn rfl) rfl rfl 0 0 rfl rfl rfl rfl (cx.u 1 rfl) (by kernel_rfl) (Eq.refl 9) (tyC_one _) f5.b.size rfl rfl trivial) <|
       hn) ?_
      intro a6 w6 f6
      obtain ⟨g4, u_g4, q_g4, b_g4⟩ := f6.al.1
      have neL1_0_1 := (ne_ptr (pairAt f1.ps 0 1 (by decide) rfl rfl) u_g1 u_g2)
      have neL1_0_2 := (ne_ptr (pairAt f1.ps 0 2 (by decide) rfl rfl) u_g1 u_g3)
      have neL1_0_3 := (ne_row b_g1_9 q_g4)
      have neL1_1_2 := (ne_ptr (pairAt f1.ps 1 2 (by decide) rfl rfl) u_g2 u_g3)
      have neL1_1_3 := (ne_row (f5.k b_g2_6) q_g4)
      have neL1_2_3 := (ne_row (f5.k (f4.k (f3.k (f2.k b_g3)))) q_g4)
      refine wp_cut (fun aI wI => Mid 86 W [(2, .bool false), (3, .pointer (some ⟨g1, 0, none⟩)), (4, .pointer (some ⟨g2, 0, none⟩)), (6, .pointer (some ⟨g3, 0, none⟩)), (7, .pointer (some ⟨g4, 0, none⟩))] [(g1, 31, (tyC a)), (g2, 31, (tyC b)), (g3, 31, (tyC tZ)), (g4, 31, (tyC ⟨a.kd, tZ.s, min a.lo b.lo, a.hi⟩))] aI wI) ?_ ?_
      ·
        refine wp_seq ?_
        cases fk5 : decide (b.lo < a.lo)
        case false =>
         have Ffk5 := Lib.hid fk5; clear fk5
         have b_g2_11 := f6.k (f5.k b_g2_6)
         have b_g1_12 := f6.k b_g1_9
         have s4_13 := f6.q 4 (f5.q 4 s4_8)
         have s3_14 := f6.q 3 s3_10
         refine go_reg [bx g2 31 (tyC b), bx g1 31 (tyC a)] [] [some (pt g2 7), some (.int .i64 b.lo), some (pt g1 7), some (.int .i64 a.lo), oF] mo f6.d f6.z f6.b (by kernel_rfl) ⟨b_g2_11, b_g1_12, trivial⟩ (
          hk (fun cx => cx.q (ex_fa rfl (cx.rq 4 s4_13) (faStK31_2_0 _ _))) <|
          hk (fun cx => cx.q (ex_ld rfl (cx.u 0 rfl) (cx.rn 0 rfl) rfl Try.isAgg3)) <|
          hk (fun cx => cx.q (ex_fa rfl (cx.rq 3 s3_14) (faStK31_2_0 _ _))) <|
          hk (fun cx => cx.q (ex_ld rfl (cx.u 0 rfl) (cx.rn 1 rfl) rfl Try.isAgg3)) <|
          hk (fun cx => cx.v (ex_lt (x := .tmp 66) (y := .tmp 68) rfl (cx.u 0 rfl) (cx.u 1 rfl)) rfl (congrArg Value.bool Ffk5.out)) <|
          hn) ?_
         intro a7 w7 f7
         refine wp_cond_false (f7.v 4 rfl rfl rfl) ?_
         refine wp_skip ?_
         have s2_15 := f7.q 2 (f6.q 2 (f5.q 2 (f4.q 2 (f3.q 2 (f2.q 2 (f1.q 2 s2_0))))))
         have s3_16 := f7.q 3 s3_14
         have s4_17 := f7.q 4 s4_13
         have s6_18 := f7.q 6 (f6.q 6 (f5.q 6 (f4.q 6 (f3.q 6 (f2.q 6 u_g3)))))
         have s7_19 := f7.q 7 u_g4
         have b_g1_20 := f7.k b_g1_12
         have b_g2_21 := f7.k b_g2_11
         have b_g3_22 := f7.k (f6.k (f5.k (f4.k (f3.k (f2.k b_g3)))))
         have b_g4_23 := f7.k b_g4
         exact ⟨f7.d, f7.z, f7.b, ⟨s2_15, s3_16, s4_17, s6_18, s7_19, trivial⟩, ⟨b_g1_20, b_g2_21, b_g3_22, (row_eq b_g4_23 (congrArg (fun l : Int => tyC ⟨a.kd, tZ.s, l, a.hi⟩) (show a.lo = (min a.lo b.lo : Int) from by have := Ffk5.out; simp only [decide_eq_true_eq, decide_eq_false_iff_not] at this; omega))), trivial⟩⟩
        have Ffk5 := Lib.hid fk5; clear fk5
        have b_g2_24 := f6.k (f5.k b_g2_6)
        have b_g1_25 := f6.k b_g1_9
        have s4_26 := f6.q 4 (f5.q 4 s4_8)
        have s3_27 := f6.q 3 s3_10
        refine go_reg [bx g2 31 (tyC b), bx g1 31 (tyC a)] [] [some (pt g2 7), some (.int .i64 b.lo), some (pt g1 7), some (.int .i64 a.lo), oT] mo f6.d f6.z f6.b (by kernel_rfl) ⟨b_g2_24, b_g1_25, trivial⟩ (
         hk (fun cx => cx.q (ex_fa rfl (cx.rq 4 s4_26) (faStK31_2_0 _ _))) <|
         hk (fun cx => cx.q (ex_ld rfl (cx.u 0 rfl) (cx.rn 0 rfl) rfl Try.isAgg3)) <|
         hk (fun cx => cx.q (ex_fa rfl (cx.rq 3 s3_27) (faStK31_2_0 _ _))) <|
         hk (fun cx => cx.q (ex_ld rfl (cx.u 0 rfl) (cx.rn 1 rfl) rfl Try.isAgg3)) <|
         hk (fun cx => cx.v (ex_lt (x := .tmp 66) (y := .tmp 68) rfl (cx.u 0 rfl) (cx.u 1 rfl)) rfl (congrArg Value.bool Ffk5.out)) <|
         hn) ?_
        intro a8 w8 f8
        refine wp_cond_true (f8.v 4 rfl rfl rfl) ?_
        refine wp_seq ?_
        have b_g2_28 := f8.k b_g2_24
        have b_g4_29 := f8.k b_g4
        have s4_30 := f8.q 4 s4_26
        have s7_31 := f8.q 7 u_g4
        refine go_reg [bx g2 31 (tyC b), ⟨g4, 31, (tyC ⟨a.kd, tZ.s, a.lo, a.hi⟩), some 3, (tyC ⟨a.kd, tZ.s, b.lo, a.hi⟩)⟩] [] [some (pt g2 7), some (.int .i64 b.lo), some (pt g4 7), none] mo f8.d f8.z f8.b (by kernel_rfl) ⟨b_g2_28, b_g4_29, trivial⟩ (
         hk (fun cx => cx.q (ex_fa rfl (cx.rq 4 s4_30) (faStK31_2_0 _ _))) <|
         hk (fun cx => cx.q (ex_ld rfl (cx.u 0 rfl) (cx.rn 0 rfl) rfl Try.isAgg3)) <|
         hk (fun cx => cx.q (ex_fa rfl (cx.rq 7 s7_31) (faStK31_2_0 _ _))) <|
         hk (fun cx => cx.stC (wn rfl) rfl rfl 1 rfl (cx.u 0 rfl) (cx.u 1 rfl) rfl rfl (by kernel_rfl) rfl rfl (Nat.le_trans f5.b.size q_g4) rfl ⟨(ne_row (f5.k b_g2_6) q_g4), trivial⟩ trivial) <|
         hn) ?_
        intro a9 w9 f9
        refine wp_seq ?_
        have s2_32 := f9.q 2 (f8.q 2 (f6.q 2 (f5.q 2 (f4.q 2 (f3.q 2 (f2.q 2 (f1.q 2 s2_0)))))))
        refine go_reg [] [] [oF] mo f9.d f9.z f9.b (by kernel_rfl) trivial (
         hk (fun cx => cx.q (ex_mv rfl (cx.rq 2 s2_32))) <|
         hn) ?_
        intro a10 w10 f10
        refine wp_cond_false (f10.v 0 rfl rfl rfl) ?_
        refine wp_skip ?_
        have s2_33 := f10.q 2 s2_32
        have s3_34 := f10.q 3 (f9.q 3 (f8.q 3 s3_27))
        have s4_35 := f10.q 4 (f9.q 4 s4_30)
        have s6_36 := f10.q 6 (f9.q 6 (f8.q 6 (f6.q 6 (f5.q 6 (f4.q 6 (f3.q 6 (f2.q 6 u_g3)))))))
        have s7_37 := f10.q 7 (f9.q 7 s7_31)
        have b_g1_38 := f10.k (f9.kp (f8.k b_g1_25) ⟨.inl rfl, .inr (ne_row b_g1_9 q_g4), trivial⟩)
        have b_g2_39 := f10.k (f9.kp b_g2_28 ⟨.inl rfl, .inr (ne_row (f5.k b_g2_6) q_g4), trivial⟩)
        have b_g3_40 := f10.k (f9.kp (f8.k (f6.k (f5.k (f4.k (f3.k (f2.k b_g3)))))) ⟨.inl rfl, .inr (ne_row (f5.k (f4.k (f3.k (f2.k b_g3)))) q_g4), trivial⟩)
        have b_g4_41 := f10.k f9.rows.2.1
        exact ⟨f10.d, f10.z, f10.b, ⟨s2_33, s3_34, s4_35, s6_36, s7_37, trivial⟩, ⟨b_g1_38, b_g2_39, b_g3_40, (row_eq b_g4_41 (congrArg (fun l : Int => tyC ⟨a.kd, tZ.s, l, a.hi⟩) (show b.lo = (min a.lo b.lo : Int) from by have := Ffk5.out; simp only [decide_eq_true_eq, decide_eq_false_iff_not] at this; omega))), trivial⟩⟩
      rintro aL1 wL1 ⟨dL1, zL1, BL1, ⟨sL1_2, sL1_3, sL1_4, sL1_6, sL1_7, -⟩, ⟨bL1_g1, bL1_g2, bL1_g3, bL1_g4, -⟩⟩
      replace sL1_2 : aL1.tmps.getD 2 undef = .bool false := sL1_2
      replace sL1_3 : aL1.tmps.getD 3 undef = .pointer (some ⟨g1, 0, none⟩) := sL1_3
      replace sL1_4 : aL1.tmps.getD 4 undef = .pointer (some ⟨g2, 0, none⟩) := sL1_4
      replace sL1_6 : aL1.tmps.getD 6 undef = .pointer (some ⟨g3, 0, none⟩) := sL1_6
      replace sL1_7 : aL1.tmps.getD 7 undef = .pointer (some ⟨g4, 0, none⟩) := sL1_7
      replace bL1_g1 : wL1.heap[g1]? = some (.cells (tyC a) 31 (0, 0)) := bL1_g1
      replace bL1_g2 : wL1.heap[g2]? = some (.cells (tyC b) 31 (0, 0)) := bL1_g2
      replace bL1_g3 : wL1.heap[g3]? = some (.cells (tyC tZ) 31 (0, 0)) := bL1_g3
      replace bL1_g4 : wL1.heap[g4]? = some (.cells (tyC ⟨a.kd, tZ.s, min a.lo b.lo, a.hi⟩) 31 (0, 0)) := bL1_g4
      have neL2_0_1 := neL1_0_1
      have neL2_0_2 := neL1_0_2
      have neL2_0_3 := neL1_0_3
      have neL2_1_2 := neL1_1_2
      have neL2_1_3 := neL1_1_3
      have neL2_2_3 := neL1_2_3
      refine wp_cut (fun aI wI => Mid 86 W [(6, .pointer (some ⟨g3, 0, none⟩)), (7, .pointer (some ⟨g4, 0, none⟩))] [(g1, 31, (tyC a)), (g2, 31, (tyC b)), (g3, 31, (tyC tZ)), (g4, 31, (tyC ⟨a.kd, tZ.s, min a.lo b.lo, max a.hi b.hi⟩))] aI wI) ?_ ?_
      ·
        refine wp_seq ?_
        cases fk6 : decide (a.hi < b.hi)
        case false =>
         have Ffk6 := Lib.hid fk6; clear fk6
         refine go_reg [bx g2 31 (tyC b), bx g1 31 (tyC a)] [] [some (pt g2 8), some (.int .i64 b.hi), some (pt g1 8), some (.int .i64 a.hi), oF] mo dL1 zL1 BL1 (by kernel_rfl) ⟨bL1_g2, bL1_g1, trivial⟩ (
          hk (fun cx => cx.q (ex_fa rfl (cx.rq 4 sL1_4) (faStK31_3_0 _ _))) <|
          hk (fun cx => cx.q (ex_ld rfl (cx.u 0 rfl) (cx.rn 0 rfl) rfl Try.isAgg3)) <|
          hk (fun cx => cx.q (ex_fa rfl (cx.rq 3 sL1_3) (faStK31_3_0 _ _))) <|
          hk (fun cx => cx.q (ex_ld rfl (cx.u 0 rfl) (cx.rn 1 rfl) rfl Try.isAgg3)) <|
          hk (fun cx => cx.v (ex_gt (x := .tmp 76) (y := .tmp 78) rfl (cx.u 0 rfl) (cx.u 1 rfl)) rfl (congrArg Value.bool Ffk6.out)) <|
          hn) ?_
         intro a11 w11 f11
         refine wp_cond_false (f11.v 4 rfl rfl rfl) ?_
         refine wp_skip ?_
         have s6_42 := f11.q 6 sL1_6
         have s7_43 := f11.q 7 sL1_7
         have b_g1_44 := f11.k bL1_g1
         have b_g2_45 := f11.k bL1_g2
         have b_g3_46 := f11.k bL1_g3
         have b_g4_47 := f11.k bL1_g4
         exact ⟨f11.d, f11.z, f11.b, ⟨s6_42, s7_43, trivial⟩, ⟨b_g1_44, b_g2_45, b_g3_46, (row_eq b_g4_47 (congrArg (fun l : Int => tyC ⟨a.kd, tZ.s, min a.lo b.lo, l⟩) (show a.hi = (max a.hi b.hi : Int) from by have := Ffk6.out; simp only [decide_eq_true_eq, decide_eq_false_iff_not] at this; omega))), trivial⟩⟩
        have Ffk6 := Lib.hid fk6; clear fk6
        refine go_reg [bx g2 31 (tyC b), bx g1 31 (tyC a)] [] [some (pt g2 8), some (.int .i64 b.hi), some (pt g1 8), some (.int .i64 a.hi), oT] mo dL1 zL1 BL1 (by kernel_rfl) ⟨bL1_g2, bL1_g1, trivial⟩ (
         hk (fun cx => cx.q (ex_fa rfl (cx.rq 4 sL1_4) (faStK31_3_0 _ _))) <|
         hk (fun cx => cx.q (ex_ld rfl (cx.u 0 rfl) (cx.rn 0 rfl) rfl Try.isAgg3)) <|
         hk (fun cx => cx.q (ex_fa rfl (cx.rq 3 sL1_3) (faStK31_3_0 _ _))) <|
         hk (fun cx => cx.q (ex_ld rfl (cx.u 0 rfl) (cx.rn 1 rfl) rfl Try.isAgg3)) <|
         hk (fun cx => cx.v (ex_gt (x := .tmp 76) (y := .tmp 78) rfl (cx.u 0 rfl) (cx.u 1 rfl)) rfl (congrArg Value.bool Ffk6.out)) <|
         hn) ?_
        intro a12 w12 f12
        refine wp_cond_true (f12.v 4 rfl rfl rfl) ?_
        refine wp_seq ?_
        have b_g2_48 := f12.k bL1_g2
        have b_g4_49 := f12.k bL1_g4
        have s4_50 := f12.q 4 sL1_4
        have s7_51 := f12.q 7 sL1_7
        refine go_reg [bx g2 31 (tyC b), ⟨g4, 31, (tyC ⟨a.kd, tZ.s, min a.lo b.lo, a.hi⟩), some 3, (tyC ⟨a.kd, tZ.s, min a.lo b.lo, b.hi⟩)⟩] [] [some (pt g2 8), some (.int .i64 b.hi), some (pt g4 8), none] mo f12.d f12.z f12.b (by kernel_rfl) ⟨b_g2_48, b_g4_49, trivial⟩ (
         hk (fun cx => cx.q (ex_fa rfl (cx.rq 4 s4_50) (faStK31_3_0 _ _))) <|
         hk (fun cx => cx.q (ex_ld rfl (cx.u 0 rfl) (cx.rn 0 rfl) rfl Try.isAgg3)) <|
         hk (fun cx => cx.q (ex_fa rfl (cx.rq 7 s7_51) (faStK31_3_0 _ _))) <|
         hk (fun cx => cx.stC (wn rfl) rfl rfl 1 rfl (cx.u 0 rfl) (cx.u 1 rfl) rfl rfl (by kernel_rfl) rfl rfl (Nat.le_trans f5.b.size q_g4) rfl ⟨neL1_1_3, trivial⟩ trivial) <|
         hn) ?_
        intro a13 w13 f13
        refine wp_seq ?_
        have s2_52 := f13.q 2 (f12.q 2 sL1_2)
        refine go_reg [] [] [oF] mo f13.d f13.z f13.b (by kernel_rfl) trivial (
         hk (fun cx => cx.q (ex_mv rfl (cx.rq 2 s2_52))) <|
         hn) ?_
        intro a14 w14 f14
        refine wp_cond_false (f14.v 0 rfl rfl rfl) ?_
        refine wp_skip ?_
        have s6_53 := f14.q 6 (f13.q 6 (f12.q 6 sL1_6))
        have s7_54 := f14.q 7 (f13.q 7 s7_51)
        have b_g1_55 := f14.k (f13.kp (f12.k bL1_g1) ⟨.inl rfl, .inr neL1_0_3, trivial⟩)
        have b_g2_56 := f14.k (f13.kp b_g2_48 ⟨.inl rfl, .inr neL1_1_3, trivial⟩)
        have b_g3_57 := f14.k (f13.kp (f12.k bL1_g3) ⟨.inl rfl, .inr neL1_2_3, trivial⟩)
        have b_g4_58 := f14.k f13.rows.2.1
        exact ⟨f14.d, f14.z, f14.b, ⟨s6_53, s7_54, trivial⟩, ⟨b_g1_55, b_g2_56, b_g3_57, (row_eq b_g4_58 (congrArg (fun l : Int => tyC ⟨a.kd, tZ.s, min a.lo b.lo, l⟩) (show b.hi = (max a.hi b.hi : Int) from by have := Ffk6.out; simp only [decide_eq_true_eq, decide_eq_false_iff_not] at this; omega))), trivial⟩⟩
      rintro aL2 wL2 ⟨dL2, zL2, BL2, ⟨sL2_6, sL2_7, -⟩, ⟨bL2_g1, bL2_g2, bL2_g3, bL2_g4, -⟩⟩
      replace sL2_6 : aL2.tmps.getD 6 undef = .pointer (some ⟨g3, 0, none⟩) := sL2_6
      replace sL2_7 : aL2.tmps.getD 7 undef = .pointer (some ⟨g4, 0, none⟩) := sL2_7
      replace bL2_g1 : wL2.heap[g1]? = some (.cells (tyC a) 31 (0, 0)) := bL2_g1
      replace bL2_g2 : wL2.heap[g2]? = some (.cells (tyC b) 31 (0, 0)) := bL2_g2
      replace bL2_g3 : wL2.heap[g3]? = some (.cells (tyC tZ) 31 (0, 0)) := bL2_g3
      replace bL2_g4 : wL2.heap[g4]? = some (.cells (tyC ⟨a.kd, tZ.s, min a.lo b.lo, max a.hi b.hi⟩) 31 (0, 0)) := bL2_g4
      refine wp_seq ?_
      refine go_reg [bx g4 31 (tyC ⟨a.kd, tZ.s, min a.lo b.lo, max a.hi b.hi⟩), ⟨g3, 31, (tyC tZ), some 1, (tyC ⟨a.kd, tZ.s, min a.lo b.lo, max a.hi b.hi⟩)⟩] [] [some (.agg (tyC ⟨a.kd, tZ.s, min a.lo b.lo, max a.hi b.hi⟩)), none] mo dL2 zL2 BL2 (by kernel_rfl) ⟨bL2_g4, bL2_g3, trivial⟩ (
       hk (fun cx => cx.q (ldTy rfl (cx.rq 7 sL2_7) (cx.rn 0 rfl))) <|
       hk (fun cx => cx.stR (wn rfl) rfl rfl 1 rfl (cx.rq 6 sL2_6) (cx.u 0 rfl) (by kernel_rfl) (Eq.refl 9) (tyC_one _) q_g3 rfl ⟨neL2_2_3.symm, trivial⟩ trivial) <|
       hn) ?_
      intro a15 w15 f15
      refine wp_ret ?_
      have s6_59 := f15.q 6 sL2_6
      try simp only [Exit.inBlock, Exit.then]
      refine bodyPost_ret (res_c (fn := Try.f80) rfl s6_59 (load_row 31 f15.rows.2.1 Try.underlying31 rfl (by kernel_rfl))) f15.d ?_
      have hu : (Ty.unB a || Ty.unB b) = false := by unfold Ty.unB; simp only [Ffk1.out, Ffk2.out, Bool.false_and, Bool.true_and, Bool.and_false, Bool.and_true, Bool.true_or, Bool.or_true, Bool.false_or, Bool.or_false]
      have HE : (.agg (tyC ⟨a.kd, tZ.s, min a.lo b.lo, max a.hi b.hi⟩) : Value) = .agg (tyC (jT a b)) := by unfold jT arnd; rw [hu, if_neg Bool.false_ne_true, Ffk4.out, if_neg Bool.false_ne_true, Ffk3.out, if_neg Bool.false_ne_true]; rfl
      exact ⟨retV HE, f15.b⟩
     have Ffk4 := Lib.hid fk4; clear fk4
     have b_g1_60 := f4.k b_g1_3
     have b_g2_61 := f4.k (f3.k (f2.k b_g2))
     have s3_62 := f4.q 3 s3_4
     have s4_63 := f4.q 4 (f3.q 4 (f2.q 4 u_g2))
     refine go_reg [bx g1 31 (tyC a), bx g2 31 (tyC b)] [] [some (pt g1 0), some (.int .i8 a.kd), some (pt g2 0), some (.int .i8 b.kd), oT, oT] mo f4.d f4.z f4.b (by kernel_rfl) ⟨b_g1_60, b_g2_61, trivial⟩ (
      hk (fun cx => cx.q (ex_fa rfl (cx.rq 3 s3_62) (faStK31_0_0 _ _))) <|
      hk (fun cx => cx.q (ex_ld rfl (cx.u 0 rfl) (cx.rn 0 rfl) rfl Try.isAgg22)) <|
      hk (fun cx => cx.q (ex_fa rfl (cx.rq 4 s4_63) (faStK31_0_0 _ _))) <|
      hk (fun cx => cx.q (ex_ld rfl (cx.u 0 rfl) (cx.rn 1 rfl) rfl Try.isAgg22)) <|
      hk (fun cx => cx.v (ex_ne (x := .tmp 53) (y := .tmp 55) rfl (cx.u 0 rfl) (cx.u 1 rfl)) rfl (congrArg Value.bool Ffk4.out)) <|
      kmu 0 <|
      hn) ?_
     intro a16 w16 f16
     refine wp_cond_true (f16.v 5 rfl rfl rfl) ?_
     refine wp_seq ?_
     have b_g3_64 := f16.k (f4.k (f3.k (f2.k b_g3)))
     have s6_65 := f16.q 6 (f4.q 6 (f3.q 6 (f2.q 6 u_g3)))
     refine go_reg [⟨g3, 31, (tyC tZ), some 1, (tyC allT)⟩] [] [some (.agg (tyC allT)), none] mo f16.d f16.z f16.b (by kernel_rfl) ⟨b_g3_64, trivial⟩ (
      hc (fun _ _ wx cx => cx.c rfl (args0 ) Try.func14 (by decide +kernel) (qscalar_n wx) rfl rfl) <|
      hk (fun cx => cx.stR (wn rfl) rfl rfl 0 rfl (cx.rq 6 s6_65) (cx.u 0 rfl) (by kernel_rfl) (Eq.refl 9) (tyC_one _) q_g3 rfl trivial trivial) <|
      hn) ?_
     intro a17 w17 f17
     refine wp_ret ?_
     have s6_66 := f17.q 6 s6_65
     try simp only [Exit.inBlock, Exit.then]
     refine bodyPost_ret (res_c (fn := Try.f80) rfl s6_66 (load_row 31 f17.rows.1 Try.underlying31 rfl (by kernel_rfl))) f17.d ?_
     have hu : (Ty.unB a || Ty.unB b) = false := by unfold Ty.unB; simp only [Ffk1.out, Ffk2.out, Bool.false_and, Bool.true_and, Bool.and_false, Bool.and_true, Bool.true_or, Bool.or_true, Bool.false_or, Bool.or_false]
     have HE : (.agg (tyC allT) : Value) = .agg (tyC (jT a b)) := by unfold jT arnd; rw [hu, if_neg Bool.false_ne_true, Ffk4.out, if_pos rfl]
     exact ⟨retV HE, f17.b⟩
    have Ffk3 := Lib.hid fk3; clear fk3
    cases fk7 : b.kd == 1
    case false =>
     have Ffk7 := Lib.hid fk7; clear fk7
     have b_g1_67 := f2.k b_g1
     have b_g2_68 := f2.k b_g2
     have s3_69 := f2.q 3 u_g1
     have s4_70 := f2.q 4 u_g2
     refine go_reg [bx g1 31 (tyC a), bx g2 31 (tyC b)] [] [some (pt g1 0), some (.int .i8 a.kd), oT, oT, some (pt g2 0), some (.int .i8 b.kd), oF, oF, oF, oU, oF, oF] mo f2.d f2.z f2.b (by kernel_rfl) ⟨b_g1_67, b_g2_68, trivial⟩ (
      hk (fun cx => cx.q (ex_fa rfl (cx.rq 3 s3_69) (faStK31_0_0 _ _))) <|
      hk (fun cx => cx.q (ex_ld rfl (cx.u 0 rfl) (cx.rn 0 rfl) rfl Try.isAgg22)) <|
      hk (fun cx => cx.v (ex_eq (x := .tmp 20) rfl (cx.u 0 rfl) rfl) rfl (congrArg Value.bool Ffk3.out)) <|
      kmu 0 <|
      hk (fun cx => cx.vy 0 (ex_fa rfl (cx.rq 4 s4_70) (faStK31_0_0 _ _))) <|
      hk (fun cx => cx.vy 1 (ex_ld rfl (cx.u 0 rfl) (cx.rn 1 rfl) rfl Try.isAgg22)) <|
      hk (fun cx => cx.vy 1 (ex_eq (x := .tmp 24) rfl (cx.u 0 rfl) rfl) (congrArg Value.bool Ffk7.out)) <|
      hk (fun cx => cx.q (ex_pt rfl (cx.u 0 rfl) (cx.u 1 rfl))) <|
      kmu 0 <|
      kno 0 <|
      hk (fun cx => cx.q (ex_pf rfl (cx.u 0 rfl) rfl)) <|
      kmu 0 <|
      hn) ?_
     intro a18 w18 f18
     refine wp_cond_false (f18.v 11 rfl rfl rfl) ?_
     refine wp_seq ?_
     have b_g1_71 := f18.k b_g1_67
     have b_g2_72 := f18.k b_g2_68
     have s3_73 := f18.q 3 s3_69
     have s4_74 := f18.q 4 s4_70
     refine go_reg [bx g1 31 (tyC a), bx g2 31 (tyC b)] [] [some (pt g1 0), some (.int .i8 a.kd), oT, oT, some (pt g2 0), some (.int .i8 b.kd), oF, oF, oF] mo f18.d f18.z f18.b (by kernel_rfl) ⟨b_g1_71, b_g2_72, trivial⟩ (
      hk (fun cx => cx.q (ex_fa rfl (cx.rq 3 s3_73) (faStK31_0_0 _ _))) <|
      hk (fun cx => cx.q (ex_ld rfl (cx.u 0 rfl) (cx.rn 0 rfl) rfl Try.isAgg22)) <|
      hk (fun cx => cx.v (ex_eq (x := .tmp 38) rfl (cx.u 0 rfl) rfl) rfl (congrArg Value.bool Ffk3.out)) <|
      kmu 0 <|
      hk (fun cx => cx.vy 0 (ex_fa rfl (cx.rq 4 s4_74) (faStK31_0_0 _ _))) <|
      hk (fun cx => cx.vy 1 (ex_ld rfl (cx.u 0 rfl) (cx.rn 1 rfl) rfl Try.isAgg22)) <|
      hk (fun cx => cx.vy 1 (ex_eq (x := .tmp 42) rfl (cx.u 0 rfl) rfl) (congrArg Value.bool Ffk7.out)) <|
      hk (fun cx => cx.q (ex_pt rfl (cx.u 0 rfl) (cx.u 1 rfl))) <|
      kmu 0 <|
      hn) ?_
     intro a19 w19 f19
     refine wp_cond_false (f19.v 8 rfl rfl rfl) ?_
     refine wp_seq ?_
     cases fk8 : a.kd != b.kd
     case false =>
      have Ffk8 := Lib.hid fk8; clear fk8
      have b_g1_75 := f19.k b_g1_71
      have b_g2_76 := f19.k b_g2_72
      have s3_77 := f19.q 3 s3_73
      have s4_78 := f19.q 4 s4_74
      refine go_reg [bx g1 31 (tyC a), bx g2 31 (tyC b)] [] [some (pt g1 0), some (.int .i8 a.kd), some (pt g2 0), some (.int .i8 b.kd), oF, oF] mo f19.d f19.z f19.b (by kernel_rfl) ⟨b_g1_75, b_g2_76, trivial⟩ (
       hk (fun cx => cx.q (ex_fa rfl (cx.rq 3 s3_77) (faStK31_0_0 _ _))) <|
       hk (fun cx => cx.q (ex_ld rfl (cx.u 0 rfl) (cx.rn 0 rfl) rfl Try.isAgg22)) <|
       hk (fun cx => cx.q (ex_fa rfl (cx.rq 4 s4_78) (faStK31_0_0 _ _))) <|
       hk (fun cx => cx.q (ex_ld rfl (cx.u 0 rfl) (cx.rn 1 rfl) rfl Try.isAgg22)) <|
       hk (fun cx => cx.v (ex_ne (x := .tmp 53) (y := .tmp 55) rfl (cx.u 0 rfl) (cx.u 1 rfl)) rfl (congrArg Value.bool Ffk8.out)) <|
       kmu 0 <|
       hn) ?_
      intro a20 w20 f20
      refine wp_cond_false (f20.v 5 rfl rfl rfl) ?_
      refine wp_skip ?_
      refine wp_seq ?_
      have b_g1_79 := f20.k b_g1_75
      have s3_80 := f20.q 3 s3_77
      refine go_reg [bx g1 31 (tyC a)] [⟨7, 7, 31, (tyC tZ), some 8, (tyC ⟨a.kd, tZ.s, a.lo, a.hi⟩)⟩] [some (pt g1 0), some (.int .i8 a.kd), some (pt g1 7), some (.int .i64 a.lo), some (pt g1 8), some (.int .i64 a.hi), some (.agg (tyC ⟨a.kd, tZ.s, a.lo, a.hi⟩)), none, none] mo f20.d f20.z f20.b (by kernel_rfl) ⟨b_g1_79, trivial⟩ (
       hk (fun cx => cx.q (ex_fa rfl (cx.rq 3 s3_80) (faStK31_0_0 _ _))) <|
       hk (fun cx => cx.q (ex_ld rfl (cx.u 0 rfl) (cx.rn 0 rfl) rfl Try.isAgg22)) <|
       hk (fun cx => cx.q (ex_fa rfl (cx.rq 3 s3_80) (faStK31_2_0 _ _))) <|
       hk (fun cx => cx.q (ex_ld rfl (cx.u 0 rfl) (cx.rn 0 rfl) rfl Try.isAgg3)) <|
       hk (fun cx => cx.q (ex_fa rfl (cx.rq 3 s3_80) (faStK31_3_0 _ _))) <|
       hk (fun cx => cx.q (ex_ld rfl (cx.u 0 rfl) (cx.rn 0 rfl) rfl Try.isAgg3)) <|
       hk (fun cx => cx.q (exec_build rfl (parts3 (cx.u 0 rfl) (cx.u 1 rfl) (cx.u 2 rfl)) (by kernel_rfl))) <|
       hk (fun cx => cx.al (wn rfl) 0 rfl (al_ty rfl) rfl rfl rfl rfl (by kernel_rfl) trivial) <|
       hk (fun cx => cx.stA (wn rfl) rfl rfl 0 0 rfl rfl rfl rfl (cx.u 1 rfl) (by kernel_rfl) (Eq.refl 9) (tyC_one _) f20.b.size rfl rfl trivial) <|
       hn) ?_
      intro a21 w21 f21
      obtain ⟨g4, u_g4, q_g4, b_g4⟩ := f21.al.1
      have neL3_0_1 := (ne_ptr (pairAt f1.ps 0 1 (by decide) rfl rfl) u_g1 u_g2)
      have neL3_0_2 := (ne_ptr (pairAt f1.ps 0 2 (by decide) rfl rfl) u_g1 u_g3)
      have neL3_0_3 := (ne_row b_g1_79 q_g4)
      have neL3_1_2 := (ne_ptr (pairAt f1.ps 1 2 (by decide) rfl rfl) u_g2 u_g3)
      have neL3_1_3 := (ne_row (f20.k b_g2_76) q_g4)
      have neL3_2_3 := (ne_row (f20.k (f19.k (f18.k (f2.k b_g3)))) q_g4)
      refine wp_cut (fun aI wI => Mid 86 W [(2, .bool false), (3, .pointer (some ⟨g1, 0, none⟩)), (4, .pointer (some ⟨g2, 0, none⟩)), (6, .pointer (some ⟨g3, 0, none⟩)), (7, .pointer (some ⟨g4, 0, none⟩))] [(g1, 31, (tyC a)), (g2, 31, (tyC b)), (g3, 31, (tyC tZ)), (g4, 31, (tyC ⟨a.kd, tZ.s, min a.lo b.lo, a.hi⟩))] aI wI) ?_ ?_
      ·
        refine wp_seq ?_
        cases fk9 : decide (b.lo < a.lo)
        case false =>
         have Ffk9 := Lib.hid fk9; clear fk9
         have b_g2_81 := f21.k (f20.k b_g2_76)
         have b_g1_82 := f21.k b_g1_79
         have s4_83 := f21.q 4 (f20.q 4 s4_78)
         have s3_84 := f21.q 3 s3_80
         refine go_reg [bx g2 31 (tyC b), bx g1 31 (tyC a)] [] [some (pt g2 7), some (.int .i64 b.lo), some (pt g1 7), some (.int .i64 a.lo), oF] mo f21.d f21.z f21.b (by kernel_rfl) ⟨b_g2_81, b_g1_82, trivial⟩ (
          hk (fun cx => cx.q (ex_fa rfl (cx.rq 4 s4_83) (faStK31_2_0 _ _))) <|
          hk (fun cx => cx.q (ex_ld rfl (cx.u 0 rfl) (cx.rn 0 rfl) rfl Try.isAgg3)) <|
          hk (fun cx => cx.q (ex_fa rfl (cx.rq 3 s3_84) (faStK31_2_0 _ _))) <|
          hk (fun cx => cx.q (ex_ld rfl (cx.u 0 rfl) (cx.rn 1 rfl) rfl Try.isAgg3)) <|
          hk (fun cx => cx.v (ex_lt (x := .tmp 66) (y := .tmp 68) rfl (cx.u 0 rfl) (cx.u 1 rfl)) rfl (congrArg Value.bool Ffk9.out)) <|
          hn) ?_
         intro a22 w22 f22
         refine wp_cond_false (f22.v 4 rfl rfl rfl) ?_
         refine wp_skip ?_
         have s2_85 := f22.q 2 (f21.q 2 (f20.q 2 (f19.q 2 (f18.q 2 (f2.q 2 (f1.q 2 s2_0))))))
         have s3_86 := f22.q 3 s3_84
         have s4_87 := f22.q 4 s4_83
         have s6_88 := f22.q 6 (f21.q 6 (f20.q 6 (f19.q 6 (f18.q 6 (f2.q 6 u_g3)))))
         have s7_89 := f22.q 7 u_g4
         have b_g1_90 := f22.k b_g1_82
         have b_g2_91 := f22.k b_g2_81
         have b_g3_92 := f22.k (f21.k (f20.k (f19.k (f18.k (f2.k b_g3)))))
         have b_g4_93 := f22.k b_g4
         exact ⟨f22.d, f22.z, f22.b, ⟨s2_85, s3_86, s4_87, s6_88, s7_89, trivial⟩, ⟨b_g1_90, b_g2_91, b_g3_92, (row_eq b_g4_93 (congrArg (fun l : Int => tyC ⟨a.kd, tZ.s, l, a.hi⟩) (show a.lo = (min a.lo b.lo : Int) from by have := Ffk9.out; simp only [decide_eq_true_eq, decide_eq_false_iff_not] at this; omega))), trivial⟩⟩
        have Ffk9 := Lib.hid fk9; clear fk9
        have b_g2_94 := f21.k (f20.k b_g2_76)
        have b_g1_95 := f21.k b_g1_79
        have s4_96 := f21.q 4 (f20.q 4 s4_78)
        have s3_97 := f21.q 3 s3_80
        refine go_reg [bx g2 31 (tyC b), bx g1 31 (tyC a)] [] [some (pt g2 7), some (.int .i64 b.lo), some (pt g1 7), some (.int .i64 a.lo), oT] mo f21.d f21.z f21.b (by kernel_rfl) ⟨b_g2_94, b_g1_95, trivial⟩ (
         hk (fun cx => cx.q (ex_fa rfl (cx.rq 4 s4_96) (faStK31_2_0 _ _))) <|
         hk (fun cx => cx.q (ex_ld rfl (cx.u 0 rfl) (cx.rn 0 rfl) rfl Try.isAgg3)) <|
         hk (fun cx => cx.q (ex_fa rfl (cx.rq 3 s3_97) (faStK31_2_0 _ _))) <|
         hk (fun cx => cx.q (ex_ld rfl (cx.u 0 rfl) (cx.rn 1 rfl) rfl Try.isAgg3)) <|
         hk (fun cx => cx.v (ex_lt (x := .tmp 66) (y := .tmp 68) rfl (cx.u 0 rfl) (cx.u 1 rfl)) rfl (congrArg Value.bool Ffk9.out)) <|
         hn) ?_
        intro a23 w23 f23
        refine wp_cond_true (f23.v 4 rfl rfl rfl) ?_
        refine wp_seq ?_
        have b_g2_98 := f23.k b_g2_94
        have b_g4_99 := f23.k b_g4
        have s4_100 := f23.q 4 s4_96
        have s7_101 := f23.q 7 u_g4
        refine go_reg [bx g2 31 (tyC b), ⟨g4, 31, (tyC ⟨a.kd, tZ.s, a.lo, a.hi⟩), some 3, (tyC ⟨a.kd, tZ.s, b.lo, a.hi⟩)⟩] [] [some (pt g2 7), some (.int .i64 b.lo), some (pt g4 7), none] mo f23.d f23.z f23.b (by kernel_rfl) ⟨b_g2_98, b_g4_99, trivial⟩ (
         hk (fun cx => cx.q (ex_fa rfl (cx.rq 4 s4_100) (faStK31_2_0 _ _))) <|
         hk (fun cx => cx.q (ex_ld rfl (cx.u 0 rfl) (cx.rn 0 rfl) rfl Try.isAgg3)) <|
         hk (fun cx => cx.q (ex_fa rfl (cx.rq 7 s7_101) (faStK31_2_0 _ _))) <|
         hk (fun cx => cx.stC (wn rfl) rfl rfl 1 rfl (cx.u 0 rfl) (cx.u 1 rfl) rfl rfl (by kernel_rfl) rfl rfl (Nat.le_trans f20.b.size q_g4) rfl ⟨(ne_row (f20.k b_g2_76) q_g4), trivial⟩ trivial) <|
         hn) ?_
        intro a24 w24 f24
        refine wp_seq ?_
        have s2_102 := f24.q 2 (f23.q 2 (f21.q 2 (f20.q 2 (f19.q 2 (f18.q 2 (f2.q 2 (f1.q 2 s2_0)))))))
        refine go_reg [] [] [oF] mo f24.d f24.z f24.b (by kernel_rfl) trivial (
         hk (fun cx => cx.q (ex_mv rfl (cx.rq 2 s2_102))) <|
         hn) ?_
        intro a25 w25 f25
        refine wp_cond_false (f25.v 0 rfl rfl rfl) ?_
        refine wp_skip ?_
        have s2_103 := f25.q 2 s2_102
        have s3_104 := f25.q 3 (f24.q 3 (f23.q 3 s3_97))
        have s4_105 := f25.q 4 (f24.q 4 s4_100)
        have s6_106 := f25.q 6 (f24.q 6 (f23.q 6 (f21.q 6 (f20.q 6 (f19.q 6 (f18.q 6 (f2.q 6 u_g3)))))))
        have s7_107 := f25.q 7 (f24.q 7 s7_101)
        have b_g1_108 := f25.k (f24.kp (f23.k b_g1_95) ⟨.inl rfl, .inr (ne_row b_g1_79 q_g4), trivial⟩)
        have b_g2_109 := f25.k (f24.kp b_g2_98 ⟨.inl rfl, .inr (ne_row (f20.k b_g2_76) q_g4), trivial⟩)
        have b_g3_110 := f25.k (f24.kp (f23.k (f21.k (f20.k (f19.k (f18.k (f2.k b_g3)))))) ⟨.inl rfl, .inr (ne_row (f20.k (f19.k (f18.k (f2.k b_g3)))) q_g4), trivial⟩)
        have b_g4_111 := f25.k f24.rows.2.1
        exact ⟨f25.d, f25.z, f25.b, ⟨s2_103, s3_104, s4_105, s6_106, s7_107, trivial⟩, ⟨b_g1_108, b_g2_109, b_g3_110, (row_eq b_g4_111 (congrArg (fun l : Int => tyC ⟨a.kd, tZ.s, l, a.hi⟩) (show b.lo = (min a.lo b.lo : Int) from by have := Ffk9.out; simp only [decide_eq_true_eq, decide_eq_false_iff_not] at this; omega))), trivial⟩⟩
      rintro aL3 wL3 ⟨dL3, zL3, BL3, ⟨sL3_2, sL3_3, sL3_4, sL3_6, sL3_7, -⟩, ⟨bL3_g1, bL3_g2, bL3_g3, bL3_g4, -⟩⟩
      replace sL3_2 : aL3.tmps.getD 2 undef = .bool false := sL3_2
      replace sL3_3 : aL3.tmps.getD 3 undef = .pointer (some ⟨g1, 0, none⟩) := sL3_3
      replace sL3_4 : aL3.tmps.getD 4 undef = .pointer (some ⟨g2, 0, none⟩) := sL3_4
      replace sL3_6 : aL3.tmps.getD 6 undef = .pointer (some ⟨g3, 0, none⟩) := sL3_6
      replace sL3_7 : aL3.tmps.getD 7 undef = .pointer (some ⟨g4, 0, none⟩) := sL3_7
      replace bL3_g1 : wL3.heap[g1]? = some (.cells (tyC a) 31 (0, 0)) := bL3_g1
      replace bL3_g2 : wL3.heap[g2]? = some (.cells (tyC b) 31 (0, 0)) := bL3_g2
      replace bL3_g3 : wL3.heap[g3]? = some (.cells (tyC tZ) 31 (0, 0)) := bL3_g3
      replace bL3_g4 : wL3.heap[g4]? = some (.cells (tyC ⟨a.kd, tZ.s, min a.lo b.lo, a.hi⟩) 31 (0, 0)) := bL3_g4
      have neL4_0_1 := neL3_0_1
      have neL4_0_2 := neL3_0_2
      have neL4_0_3 := neL3_0_3
      have neL4_1_2 := neL3_1_2
      have neL4_1_3 := neL3_1_3
      have neL4_2_3 := neL3_2_3
      refine wp_cut (fun aI wI => Mid 86 W [(6, .pointer (some ⟨g3, 0, none⟩)), (7, .pointer (some ⟨g4, 0, none⟩))] [(g1, 31, (tyC a)), (g2, 31, (tyC b)), (g3, 31, (tyC tZ)), (g4, 31, (tyC ⟨a.kd, tZ.s, min a.lo b.lo, max a.hi b.hi⟩))] aI wI) ?_ ?_
      ·
        refine wp_seq ?_
        cases fk10 : decide (a.hi < b.hi)
        case false =>
         have Ffk10 := Lib.hid fk10; clear fk10
         refine go_reg [bx g2 31 (tyC b), bx g1 31 (tyC a)] [] [some (pt g2 8), some (.int .i64 b.hi), some (pt g1 8), some (.int .i64 a.hi), oF] mo dL3 zL3 BL3 (by kernel_rfl) ⟨bL3_g2, bL3_g1, trivial⟩ (
          hk (fun cx => cx.q (ex_fa rfl (cx.rq 4 sL3_4) (faStK31_3_0 _ _))) <|
          hk (fun cx => cx.q (ex_ld rfl (cx.u 0 rfl) (cx.rn 0 rfl) rfl Try.isAgg3)) <|
          hk (fun cx => cx.q (ex_fa rfl (cx.rq 3 sL3_3) (faStK31_3_0 _ _))) <|
          hk (fun cx => cx.q (ex_ld rfl (cx.u 0 rfl) (cx.rn 1 rfl) rfl Try.isAgg3)) <|
          hk (fun cx => cx.v (ex_gt (x := .tmp 76) (y := .tmp 78) rfl (cx.u 0 rfl) (cx.u 1 rfl)) rfl (congrArg Value.bool Ffk10.out)) <|
          hn) ?_
         intro a26 w26 f26
         refine wp_cond_false (f26.v 4 rfl rfl rfl) ?_
         refine wp_skip ?_
         have s6_112 := f26.q 6 sL3_6
         have s7_113 := f26.q 7 sL3_7
         have b_g1_114 := f26.k bL3_g1
         have b_g2_115 := f26.k bL3_g2
         have b_g3_116 := f26.k bL3_g3
         have b_g4_117 := f26.k bL3_g4
         exact ⟨f26.d, f26.z, f26.b, ⟨s6_112, s7_113, trivial⟩, ⟨b_g1_114, b_g2_115, b_g3_116, (row_eq b_g4_117 (congrArg (fun l : Int => tyC ⟨a.kd, tZ.s, min a.lo b.lo, l⟩) (show a.hi = (max a.hi b.hi : Int) from by have := Ffk10.out; simp only [decide_eq_true_eq, decide_eq_false_iff_not] at this; omega))), trivial⟩⟩
        have Ffk10 := Lib.hid fk10; clear fk10
        refine go_reg [bx g2 31 (tyC b), bx g1 31 (tyC a)] [] [some (pt g2 8), some (.int .i64 b.hi), some (pt g1 8), some (.int .i64 a.hi), oT] mo dL3 zL3 BL3 (by kernel_rfl) ⟨bL3_g2, bL3_g1, trivial⟩ (
         hk (fun cx => cx.q (ex_fa rfl (cx.rq 4 sL3_4) (faStK31_3_0 _ _))) <|
         hk (fun cx => cx.q (ex_ld rfl (cx.u 0 rfl) (cx.rn 0 rfl) rfl Try.isAgg3)) <|
         hk (fun cx => cx.q (ex_fa rfl (cx.rq 3 sL3_3) (faStK31_3_0 _ _))) <|
         hk (fun cx => cx.q (ex_ld rfl (cx.u 0 rfl) (cx.rn 1 rfl) rfl Try.isAgg3)) <|
         hk (fun cx => cx.v (ex_gt (x := .tmp 76) (y := .tmp 78) rfl (cx.u 0 rfl) (cx.u 1 rfl)) rfl (congrArg Value.bool Ffk10.out)) <|
         hn) ?_
        intro a27 w27 f27
        refine wp_cond_true (f27.v 4 rfl rfl rfl) ?_
        refine wp_seq ?_
        have b_g2_118 := f27.k bL3_g2
        have b_g4_119 := f27.k bL3_g4
        have s4_120 := f27.q 4 sL3_4
        have s7_121 := f27.q 7 sL3_7
        refine go_reg [bx g2 31 (tyC b), ⟨g4, 31, (tyC ⟨a.kd, tZ.s, min a.lo b.lo, a.hi⟩), some 3, (tyC ⟨a.kd, tZ.s, min a.lo b.lo, b.hi⟩)⟩] [] [some (pt g2 8), some (.int .i64 b.hi), some (pt g4 8), none] mo f27.d f27.z f27.b (by kernel_rfl) ⟨b_g2_118, b_g4_119, trivial⟩ (
         hk (fun cx => cx.q (ex_fa rfl (cx.rq 4 s4_120) (faStK31_3_0 _ _))) <|
         hk (fun cx => cx.q (ex_ld rfl (cx.u 0 rfl) (cx.rn 0 rfl) rfl Try.isAgg3)) <|
         hk (fun cx => cx.q (ex_fa rfl (cx.rq 7 s7_121) (faStK31_3_0 _ _))) <|
         hk (fun cx => cx.stC (wn rfl) rfl rfl 1 rfl (cx.u 0 rfl) (cx.u 1 rfl) rfl rfl (by kernel_rfl) rfl rfl (Nat.le_trans f20.b.size q_g4) rfl ⟨neL3_1_3, trivial⟩ trivial) <|
         hn) ?_
        intro a28 w28 f28
        refine wp_seq ?_
        have s2_122 := f28.q 2 (f27.q 2 sL3_2)
        refine go_reg [] [] [oF] mo f28.d f28.z f28.b (by kernel_rfl) trivial (
         hk (fun cx => cx.q (ex_mv rfl (cx.rq 2 s2_122))) <|
         hn) ?_
        intro a29 w29 f29
        refine wp_cond_false (f29.v 0 rfl rfl rfl) ?_
        refine wp_skip ?_
        have s6_123 := f29.q 6 (f28.q 6 (f27.q 6 sL3_6))
        have s7_124 := f29.q 7 (f28.q 7 s7_121)
        have b_g1_125 := f29.k (f28.kp (f27.k bL3_g1) ⟨.inl rfl, .inr neL3_0_3, trivial⟩)
        have b_g2_126 := f29.k (f28.kp b_g2_118 ⟨.inl rfl, .inr neL3_1_3, trivial⟩)
        have b_g3_127 := f29.k (f28.kp (f27.k bL3_g3) ⟨.inl rfl, .inr neL3_2_3, trivial⟩)
        have b_g4_128 := f29.k f28.rows.2.1
        exact ⟨f29.d, f29.z, f29.b, ⟨s6_123, s7_124, trivial⟩, ⟨b_g1_125, b_g2_126, b_g3_127, (row_eq b_g4_128 (congrArg (fun l : Int => tyC ⟨a.kd, tZ.s, min a.lo b.lo, l⟩) (show b.hi = (max a.hi b.hi : Int) from by have := Ffk10.out; simp only [decide_eq_true_eq, decide_eq_false_iff_not] at this; omega))), trivial⟩⟩
      rintro aL4 wL4 ⟨dL4, zL4, BL4, ⟨sL4_6, sL4_7, -⟩, ⟨bL4_g1, bL4_g2, bL4_g3, bL4_g4, -⟩⟩
      replace sL4_6 : aL4.tmps.getD 6 undef = .pointer (some ⟨g3, 0, none⟩) := sL4_6
      replace sL4_7 : aL4.tmps.getD 7 undef = .pointer (some ⟨g4, 0, none⟩) := sL4_7
      replace bL4_g1 : wL4.heap[g1]? = some (.cells (tyC a) 31 (0, 0)) := bL4_g1
      replace bL4_g2 : wL4.heap[g2]? = some (.cells (tyC b) 31 (0, 0)) := bL4_g2
      replace bL4_g3 : wL4.heap[g3]? = some (.cells (tyC tZ) 31 (0, 0)) := bL4_g3
      replace bL4_g4 : wL4.heap[g4]? = some (.cells (tyC ⟨a.kd, tZ.s, min a.lo b.lo, max a.hi b.hi⟩) 31 (0, 0)) := bL4_g4
      refine wp_seq ?_
      refine go_reg [bx g4 31 (tyC ⟨a.kd, tZ.s, min a.lo b.lo, max a.hi b.hi⟩), ⟨g3, 31, (tyC tZ), some 1, (tyC ⟨a.kd, tZ.s, min a.lo b.lo, max a.hi b.hi⟩)⟩] [] [some (.agg (tyC ⟨a.kd, tZ.s, min a.lo b.lo, max a.hi b.hi⟩)), none] mo dL4 zL4 BL4 (by kernel_rfl) ⟨bL4_g4, bL4_g3, trivial⟩ (
       hk (fun cx => cx.q (ldTy rfl (cx.rq 7 sL4_7) (cx.rn 0 rfl))) <|
       hk (fun cx => cx.stR (wn rfl) rfl rfl 1 rfl (cx.rq 6 sL4_6) (cx.u 0 rfl) (by kernel_rfl) (Eq.refl 9) (tyC_one _) q_g3 rfl ⟨neL4_2_3.symm, trivial⟩ trivial) <|
       hn) ?_
      intro a30 w30 f30
      refine wp_ret ?_
      have s6_129 := f30.q 6 sL4_6
      try simp only [Exit.inBlock, Exit.then]
      refine bodyPost_ret (res_c (fn := Try.f80) rfl s6_129 (load_row 31 f30.rows.2.1 Try.underlying31 rfl (by kernel_rfl))) f30.d ?_
      exact absurd (show (b.kd == 1) = true by have h1 := yb Ffk3.out; have h2 := Ffk8.out; simp only [bne_eq_false_iff_eq] at h2; rw [← h2, h1]; rfl) (by rw [Ffk7.out]; exact Bool.false_ne_true)
     have Ffk8 := Lib.hid fk8; clear fk8
     have b_g1_130 := f19.k b_g1_71
     have b_g2_131 := f19.k b_g2_72
     have s3_132 := f19.q 3 s3_73
     have s4_133 := f19.q 4 s4_74
     refine go_reg [bx g1 31 (tyC a), bx g2 31 (tyC b)] [] [some (pt g1 0), some (.int .i8 a.kd), some (pt g2 0), some (.int .i8 b.kd), oT, oT] mo f19.d f19.z f19.b (by kernel_rfl) ⟨b_g1_130, b_g2_131, trivial⟩ (
      hk (fun cx => cx.q (ex_fa rfl (cx.rq 3 s3_132) (faStK31_0_0 _ _))) <|
      hk (fun cx => cx.q (ex_ld rfl (cx.u 0 rfl) (cx.rn 0 rfl) rfl Try.isAgg22)) <|
      hk (fun cx => cx.q (ex_fa rfl (cx.rq 4 s4_133) (faStK31_0_0 _ _))) <|
      hk (fun cx => cx.q (ex_ld rfl (cx.u 0 rfl) (cx.rn 1 rfl) rfl Try.isAgg22)) <|
      hk (fun cx => cx.v (ex_ne (x := .tmp 53) (y := .tmp 55) rfl (cx.u 0 rfl) (cx.u 1 rfl)) rfl (congrArg Value.bool Ffk8.out)) <|
      kmu 0 <|
      hn) ?_
     intro a31 w31 f31
     refine wp_cond_true (f31.v 5 rfl rfl rfl) ?_
     refine wp_seq ?_
     have b_g3_134 := f31.k (f19.k (f18.k (f2.k b_g3)))
     have s6_135 := f31.q 6 (f19.q 6 (f18.q 6 (f2.q 6 u_g3)))
     refine go_reg [⟨g3, 31, (tyC tZ), some 1, (tyC allT)⟩] [] [some (.agg (tyC allT)), none] mo f31.d f31.z f31.b (by kernel_rfl) ⟨b_g3_134, trivial⟩ (
      hc (fun _ _ wx cx => cx.c rfl (args0 ) Try.func14 (by decide +kernel) (qscalar_n wx) rfl rfl) <|
      hk (fun cx => cx.stR (wn rfl) rfl rfl 0 rfl (cx.rq 6 s6_135) (cx.u 0 rfl) (by kernel_rfl) (Eq.refl 9) (tyC_one _) q_g3 rfl trivial trivial) <|
      hn) ?_
     intro a32 w32 f32
     refine wp_ret ?_
     have s6_136 := f32.q 6 s6_135
     try simp only [Exit.inBlock, Exit.then]
     refine bodyPost_ret (res_c (fn := Try.f80) rfl s6_136 (load_row 31 f32.rows.1 Try.underlying31 rfl (by kernel_rfl))) f32.d ?_
     have hu : (Ty.unB a || Ty.unB b) = false := by unfold Ty.unB; simp only [Ffk1.out, Ffk2.out, Bool.false_and, Bool.true_and, Bool.and_false, Bool.and_true, Bool.true_or, Bool.or_true, Bool.false_or, Bool.or_false]
     have HE : (.agg (tyC allT) : Value) = .agg (tyC (jT a b)) := by unfold jT arnd; rw [hu, if_neg Bool.false_ne_true, Ffk8.out, if_pos rfl]
     exact ⟨retV HE, f32.b⟩
    have Ffk7 := Lib.hid fk7; clear fk7
    have b_g1_137 := f2.k b_g1
    have b_g2_138 := f2.k b_g2
    have s3_139 := f2.q 3 u_g1
    have s4_140 := f2.q 4 u_g2
    have s2_141 := f2.q 2 (f1.q 2 s2_0)
    refine go_reg [bx g1 31 (tyC a), bx g2 31 (tyC b)] [] [some (pt g1 0), some (.int .i8 a.kd), oT, oT, some (pt g2 0), some (.int .i8 b.kd), oT, oT, oT, oF, oF, oF] mo f2.d f2.z f2.b (by kernel_rfl) ⟨b_g1_137, b_g2_138, trivial⟩ (
     hk (fun cx => cx.q (ex_fa rfl (cx.rq 3 s3_139) (faStK31_0_0 _ _))) <|
     hk (fun cx => cx.q (ex_ld rfl (cx.u 0 rfl) (cx.rn 0 rfl) rfl Try.isAgg22)) <|
     hk (fun cx => cx.v (ex_eq (x := .tmp 20) rfl (cx.u 0 rfl) rfl) rfl (congrArg Value.bool Ffk3.out)) <|
     kmu 0 <|
     hk (fun cx => cx.vy 0 (ex_fa rfl (cx.rq 4 s4_140) (faStK31_0_0 _ _))) <|
     hk (fun cx => cx.vy 1 (ex_ld rfl (cx.u 0 rfl) (cx.rn 1 rfl) rfl Try.isAgg22)) <|
     hk (fun cx => cx.vy 1 (ex_eq (x := .tmp 24) rfl (cx.u 0 rfl) rfl) (congrArg Value.bool Ffk7.out)) <|
     hk (fun cx => cx.q (ex_pt rfl (cx.u 0 rfl) (cx.u 1 rfl))) <|
     kmu 0 <|
     hk (fun cx => cx.vy 0 (ex_mv rfl (cx.rq 2 s2_141))) <|
     hk (fun cx => cx.q (ex_pt rfl (cx.u 0 rfl) (cx.u 1 rfl))) <|
     kmu 0 <|
     hn) ?_
    intro a33 w33 f33
    refine wp_cond_false (f33.v 11 rfl rfl rfl) ?_
    refine wp_seq ?_
    have b_g1_142 := f33.k b_g1_137
    have b_g2_143 := f33.k b_g2_138
    have s3_144 := f33.q 3 s3_139
    have s4_145 := f33.q 4 s4_140
    refine go_reg [bx g1 31 (tyC a), bx g2 31 (tyC b)] [] [some (pt g1 0), some (.int .i8 a.kd), oT, oT, some (pt g2 0), some (.int .i8 b.kd), oT, oT, oT] mo f33.d f33.z f33.b (by kernel_rfl) ⟨b_g1_142, b_g2_143, trivial⟩ (
     hk (fun cx => cx.q (ex_fa rfl (cx.rq 3 s3_144) (faStK31_0_0 _ _))) <|
     hk (fun cx => cx.q (ex_ld rfl (cx.u 0 rfl) (cx.rn 0 rfl) rfl Try.isAgg22)) <|
     hk (fun cx => cx.v (ex_eq (x := .tmp 38) rfl (cx.u 0 rfl) rfl) rfl (congrArg Value.bool Ffk3.out)) <|
     kmu 0 <|
     hk (fun cx => cx.vy 0 (ex_fa rfl (cx.rq 4 s4_145) (faStK31_0_0 _ _))) <|
     hk (fun cx => cx.vy 1 (ex_ld rfl (cx.u 0 rfl) (cx.rn 1 rfl) rfl Try.isAgg22)) <|
     hk (fun cx => cx.vy 1 (ex_eq (x := .tmp 42) rfl (cx.u 0 rfl) rfl) (congrArg Value.bool Ffk7.out)) <|
     hk (fun cx => cx.q (ex_pt rfl (cx.u 0 rfl) (cx.u 1 rfl))) <|
     kmu 0 <|
     hn) ?_
    intro a34 w34 f34
    refine wp_cond_true (f34.v 8 rfl rfl rfl) ?_
    refine wp_seq ?_
    have b_g1_146 := f34.k b_g1_142
    have b_g2_147 := f34.k b_g2_143
    have b_g3_148 := f34.k (f33.k (f2.k b_g3))
    have s3_149 := f34.q 3 s3_144
    have s4_150 := f34.q 4 s4_145
    have s6_151 := f34.q 6 (f33.q 6 (f2.q 6 u_g3))
    refine go_reg [bx g1 31 (tyC a), bx g2 31 (tyC b), ⟨g3, 31, (tyC tZ), some 6, (tyC ⟨1, Sc.join a.s b.s, tZ.lo, tZ.hi⟩)⟩] [] [some (pt g1 1), some (.agg (scC a.s)), some (pt g2 1), some (.agg (scC b.s)), some (.agg (scC (Sc.join a.s b.s))), some (.agg (tyC ⟨1, Sc.join a.s b.s, tZ.lo, tZ.hi⟩)), none] mo f34.d f34.z f34.b (by kernel_rfl) ⟨b_g1_146, b_g2_147, b_g3_148, trivial⟩ (
     hk (fun cx => cx.q (ex_fa rfl (cx.rq 3 s3_149) (faStK31_1_0 _ _))) <|
     hk (fun cx => cx.q (exec_loadR 29 _ rfl g1 1 (cx.u 0 rfl) (cx.rn 0 rfl) [.int .u64 a.s.r.u.lo, .int .u64 a.s.r.u.hi, .int .i64 a.s.r.s.lo, .int .i64 a.s.r.s.hi, .int .u64 (V a.s.k.v), .int .u64 (V a.s.k.m)] rfl _ Try.underlying29 rfl (by kernel_rfl))) <|
     hk (fun cx => cx.q (ex_fa rfl (cx.rq 4 s4_150) (faStK31_1_0 _ _))) <|
     hk (fun cx => cx.q (exec_loadR 29 _ rfl g2 1 (cx.u 0 rfl) (cx.rn 1 rfl) [.int .u64 b.s.r.u.lo, .int .u64 b.s.r.u.hi, .int .i64 b.s.r.s.lo, .int .i64 b.s.r.s.hi, .int .u64 (V b.s.k.v), .int .u64 (V b.s.k.m)] rfl _ Try.underlying29 rfl (by kernel_rfl))) <|
     hc (fun _ _ wx cx => cx.c rfl (args2 (cx.u 0 rfl) (cx.u 1 rfl)) Try.func101 (by decide +kernel) (wjoin_n a.s b.s wx HA.out.2.1 HB.out.2.1) rfl rfl) <|
     hk (fun cx => cx.q (exec_build rfl (parts2 rfl (cx.u 0 rfl)) (by kernel_rfl))) <|
     hk (fun cx => cx.stR (wn rfl) rfl rfl 2 rfl (cx.rq 6 s6_151) (cx.u 0 rfl) (by kernel_rfl) (Eq.refl 9) (tyC_one _) q_g3 rfl ⟨(ne_ptr (pairAt f1.ps 0 2 (by decide) rfl rfl) u_g1 u_g3), (ne_ptr (pairAt f1.ps 1 2 (by decide) rfl rfl) u_g2 u_g3), trivial⟩ trivial) <|
     hn) ?_
    intro a35 w35 f35
    refine wp_ret ?_
    have s6_152 := f35.q 6 s6_151
    try simp only [Exit.inBlock, Exit.then]
    refine bodyPost_ret (res_c (fn := Try.f80) rfl s6_152 (load_row 31 f35.rows.2.2.1 Try.underlying31 rfl (by kernel_rfl))) f35.d ?_
    have hu : (Ty.unB a || Ty.unB b) = false := by unfold Ty.unB; simp only [Ffk1.out, Ffk2.out, Bool.false_and, Bool.true_and, Bool.and_false, Bool.and_true, Bool.true_or, Bool.or_true, Bool.false_or, Bool.or_false]
    have hn : (a.kd != b.kd) = false := by rw [yb Ffk3.out, yb Ffk7.out]; rfl
    have HE : (.agg (tyC ⟨1, Sc.join a.s b.s, tZ.lo, tZ.hi⟩) : Value) = .agg (tyC (jT a b)) := by unfold jT arnd; rw [hu, if_neg Bool.false_ne_true, hn, if_neg Bool.false_ne_true, Ffk3.out, if_pos rfl]; rfl
    exact ⟨retV HE, f35.b⟩
   have Ffk2 := Lib.hid fk2; clear fk2
   refine go_reg [bx g1 31 (tyC a), bx g2 31 (tyC b)] [] [some (pt g1 0), some (.int .i8 a.kd), oF, oF, some (pt g2 0), some (.int .i8 b.kd), oT, oT, oT] mo f1.d f1.z f1.b (by kernel_rfl) ⟨b_g1, b_g2, trivial⟩ (
    hk (fun cx => cx.q (ex_fa rfl (cx.rq 3 u_g1) (faStK31_0_0 _ _))) <|
    hk (fun cx => cx.q (ex_ld rfl (cx.u 0 rfl) (cx.rn 0 rfl) rfl Try.isAgg22)) <|
    hk (fun cx => cx.v (ex_eq (x := .tmp 10) rfl (cx.u 0 rfl) rfl) rfl (congrArg Value.bool Ffk1.out)) <|
    kmu 0 <|
    hk (fun cx => cx.vy 0 (ex_fa rfl (cx.rq 4 u_g2) (faStK31_0_0 _ _))) <|
    hk (fun cx => cx.vy 1 (ex_ld rfl (cx.u 0 rfl) (cx.rn 1 rfl) rfl Try.isAgg22)) <|
    hk (fun cx => cx.vy 1 (ex_eq (x := .tmp 14) rfl (cx.u 0 rfl) rfl) (congrArg Value.bool Ffk2.out)) <|
    hk (fun cx => cx.q (ex_pf rfl (cx.u 0 rfl) (cx.u 1 rfl))) <|
    kmu 0 <|
    hn) ?_
   intro a36 w36 f36
   refine wp_cond_true (f36.v 8 rfl rfl rfl) ?_
   refine wp_seq ?_
   have b_g3_153 := f36.k b_g3
   have s6_154 := f36.q 6 u_g3
   refine go_reg [⟨g3, 31, (tyC tZ), some 1, (tyC tZ)⟩] [] [some (.agg (tyC tZ)), none] mo f36.d f36.z f36.b (by kernel_rfl) ⟨b_g3_153, trivial⟩ (
    hk (fun cx => cx.q (ex_z9 rfl)) <|
    hk (fun cx => cx.stR (wn rfl) rfl rfl 0 rfl (cx.rq 6 s6_154) (cx.u 0 rfl) (by kernel_rfl) (Eq.refl 9) (tyC_one _) q_g3 rfl trivial trivial) <|
    hn) ?_
   intro a37 w37 f37
   refine wp_ret ?_
   have s6_155 := f37.q 6 s6_154
   try simp only [Exit.inBlock, Exit.then]
   refine bodyPost_ret (res_c (fn := Try.f80) rfl s6_155 (load_row 31 f37.rows.1 Try.underlying31 rfl (by kernel_rfl))) f37.d ?_
   have hu : (Ty.unB a || Ty.unB b) = true := by unfold Ty.unB; simp only [Ffk1.out, Ffk2.out, Bool.false_and, Bool.true_and, Bool.and_false, Bool.and_true, Bool.true_or, Bool.or_true, Bool.false_or, Bool.or_false]
   have HE : (.agg (tyC tZ) : Value) = .agg (tyC (jT a b)) := by unfold jT arnd; rw [hu, if_pos rfl]
   exact ⟨retV HE, f37.b⟩
  have Ffk1 := Lib.hid fk1; clear fk1
  refine go_reg [bx g1 31 (tyC a)] [] [some (pt g1 0), some (.int .i8 a.kd), oT, oT, oU, oU, oU, oT, oT] mo f1.d f1.z f1.b (by kernel_rfl) ⟨b_g1, trivial⟩ (
   hk (fun cx => cx.q (ex_fa rfl (cx.rq 3 u_g1) (faStK31_0_0 _ _))) <|
   hk (fun cx => cx.q (ex_ld rfl (cx.u 0 rfl) (cx.rn 0 rfl) rfl Try.isAgg22)) <|
   hk (fun cx => cx.v (ex_eq (x := .tmp 10) rfl (cx.u 0 rfl) rfl) rfl (congrArg Value.bool Ffk1.out)) <|
   kmu 0 <|
   kno 0 <|
   kno 1 <|
   kno 1 <|
   hk (fun cx => cx.q (ex_pt rfl (cx.u 0 rfl) rfl)) <|
   kmu 0 <|
   hn) ?_
  intro a38 w38 f38
  refine wp_cond_true (f38.v 8 rfl rfl rfl) ?_
  refine wp_seq ?_
  have b_g3_156 := f38.k b_g3
  have s6_157 := f38.q 6 u_g3
  refine go_reg [⟨g3, 31, (tyC tZ), some 1, (tyC tZ)⟩] [] [some (.agg (tyC tZ)), none] mo f38.d f38.z f38.b (by kernel_rfl) ⟨b_g3_156, trivial⟩ (
   hk (fun cx => cx.q (ex_z9 rfl)) <|
   hk (fun cx => cx.stR (wn rfl) rfl rfl 0 rfl (cx.rq 6 s6_157) (cx.u 0 rfl) (by kernel_rfl) (Eq.refl 9) (tyC_one _) q_g3 rfl trivial trivial) <|
   hn) ?_
  intro a39 w39 f39
  refine wp_ret ?_
  have s6_158 := f39.q 6 s6_157
  try simp only [Exit.inBlock, Exit.then]
  refine bodyPost_ret (res_c (fn := Try.f80) rfl s6_158 (load_row 31 f39.rows.1 Try.underlying31 rfl (by kernel_rfl))) f39.d ?_
  have hu : (Ty.unB a || Ty.unB b) = true := by unfold Ty.unB; simp only [Ffk1.out, Bool.false_and, Bool.true_and, Bool.and_false, Bool.and_true, Bool.true_or, Bool.or_true, Bool.false_or, Bool.or_false]
  have HE : (.agg (tyC tZ) : Value) = .agg (tyC (jT a b)) := by unfold jT arnd; rw [hu, if_pos rfl]
  exact ⟨retV HE, f39.b⟩
set_option maxHeartbeats 4000000 in
theorem qjoint_n (a b : Ty) (W : World) (ha : a.Ok) (hb : b.Ok) : Calls Try.prog 80 #[.agg (tyC a), .agg (tyC b), .bool true] W fun e w' => e = .returned (.agg (tyC (wT a b))) ∧ Below W.heap.size W w' := by
  have HA := Lib.hid ha
  have HB := Lib.hid hb
  clear ha hb
  refine calls_abs Try.func80 rfl (Nat.le_of_ble_eq_true rfl) ?_
  intro a0 d0 z0 h0
  replace z0 : a0.tmps.size = 86 := z0
  have s0_0 : a0.tmps.getD 0 undef = .agg (tyC a) := h0 0 (Nat.le_of_ble_eq_true rfl)
  have s1_0 : a0.tmps.getD 1 undef = .agg (tyC b) := h0 1 (Nat.le_of_ble_eq_true rfl)
  have s2_0 : a0.tmps.getD 2 undef = .bool true := h0 2 (Nat.le_of_ble_eq_true rfl)
  refine wp_seq ?_
  refine go_reg [] [⟨0, 3, 31, (tyC a), none, #[]⟩, ⟨1, 4, 31, (tyC b), none, #[]⟩, ⟨2, 6, 31, (tyC tZ), none, #[]⟩] [none, none, none] mo d0 z0 (Below.refl _ _) (by kernel_rfl) trivial (
   hk (fun cx => cx.al (wn rfl) 0 rfl (ex_box rfl (cx.rq 0 s0_0) rfl) rfl rfl rfl rfl rfl trivial) <|
   hk (fun cx => cx.al (wn rfl) 1 rfl (ex_box rfl (cx.rq 1 s1_0) rfl) rfl rfl rfl rfl rfl trivial) <|
   hk (fun cx => cx.al (wn rfl) 2 rfl (al_ty rfl) rfl rfl rfl rfl rfl trivial) <|
   hn) ?_
  intro a1 w1 f1
  obtain ⟨g1, u_g1, q_g1, b_g1⟩ := f1.al.1
  obtain ⟨g2, u_g2, q_g2, b_g2⟩ := f1.al.2.1
  obtain ⟨g3, u_g3, q_g3, b_g3⟩ := f1.al.2.2.1
  refine wp_seq ?_
  refine wp_block ?_
  refine wp_seq ?_
  cases fk1 : a.kd == 0
  case false =>
   have Ffk1 := Lib.hid fk1; clear fk1
   cases fk2 : b.kd == 0
   case false =>
    have Ffk2 := Lib.hid fk2; clear fk2
    refine go_reg [bx g1 31 (tyC a), bx g2 31 (tyC b)] [] [some (pt g1 0), some (.int .i8 a.kd), oF, oF, some (pt g2 0), some (.int .i8 b.kd), oF, oF, oF] mo f1.d f1.z f1.b (by kernel_rfl) ⟨b_g1, b_g2, trivial⟩ (
     hk (fun cx => cx.q (ex_fa rfl (cx.rq 3 u_g1) (faStK31_0_0 _ _))) <|
     hk (fun cx => cx.q (ex_ld rfl (cx.u 0 rfl) (cx.rn 0 rfl) rfl Try.isAgg22)) <|
     hk (fun cx => cx.v (ex_eq (x := .tmp 10) rfl (cx.u 0 rfl) rfl) rfl (congrArg Value.bool Ffk1.out)) <|
     kmu 0 <|
     hk (fun cx => cx.vy 0 (ex_fa rfl (cx.rq 4 u_g2) (faStK31_0_0 _ _))) <|
     hk (fun cx => cx.vy 1 (ex_ld rfl (cx.u 0 rfl) (cx.rn 1 rfl) rfl Try.isAgg22)) <|
     hk (fun cx => cx.vy 1 (ex_eq (x := .tmp 14) rfl (cx.u 0 rfl) rfl) (congrArg Value.bool Ffk2.out)) <|
     hk (fun cx => cx.q (ex_pf rfl (cx.u 0 rfl) (cx.u 1 rfl))) <|
     kmu 0 <|
     hn) ?_
    intro a2 w2 f2
    refine wp_cond_false (f2.v 8 rfl rfl rfl) ?_
    refine wp_seq ?_
    cases fk3 : a.kd == 1
    case false =>
     have Ffk3 := Lib.hid fk3; clear fk3
     have b_g1_1 := f2.k b_g1
     have s3_2 := f2.q 3 u_g1
     refine go_reg [bx g1 31 (tyC a)] [] [some (pt g1 0), some (.int .i8 a.kd), oF, oF, oU, oU, oU, oF, oF, oU, oF, oF] mo f2.d f2.z f2.b (by kernel_rfl) ⟨b_g1_1, trivial⟩ (
      hk (fun cx => cx.q (ex_fa rfl (cx.rq 3 s3_2) (faStK31_0_0 _ _))) <|
      hk (fun cx => cx.q (ex_ld rfl (cx.u 0 rfl) (cx.rn 0 rfl) rfl Try.isAgg22)) <|
      hk (fun cx => cx.v (ex_eq (x := .tmp 20) rfl (cx.u 0 rfl) rfl) rfl (congrArg Value.bool Ffk3.out)) <|
      kmu 0 <|
      kno 0 <|
      kno 1 <|
      kno 1 <|
      hk (fun cx => cx.q (ex_pf rfl (cx.u 0 rfl) rfl)) <|
      kmu 0 <|
      kno 0 <|
      hk (fun cx => cx.q (ex_pf rfl (cx.u 0 rfl) rfl)) <|
      kmu 0 <|
      hn) ?_
     intro a3 w3 f3
     refine wp_cond_false (f3.v 11 rfl rfl rfl) ?_
     refine wp_seq ?_
     have b_g1_3 := f3.k b_g1_1
     have s3_4 := f3.q 3 s3_2
     refine go_reg [bx g1 31 (tyC a)] [] [some (pt g1 0), some (.int .i8 a.kd), oF, oF, oU, oU, oU, oF, oF] mo f3.d f3.z f3.b (by kernel_rfl) ⟨b_g1_3, trivial⟩ (
      hk (fun cx => cx.q (ex_fa rfl (cx.rq 3 s3_4) (faStK31_0_0 _ _))) <|
      hk (fun cx => cx.q (ex_ld rfl (cx.u 0 rfl) (cx.rn 0 rfl) rfl Try.isAgg22)) <|
      hk (fun cx => cx.v (ex_eq (x := .tmp 38) rfl (cx.u 0 rfl) rfl) rfl (congrArg Value.bool Ffk3.out)) <|
      kmu 0 <|
      kno 0 <|
      kno 1 <|
      kno 1 <|
      hk (fun cx => cx.q (ex_pf rfl (cx.u 0 rfl) rfl)) <|
      kmu 0 <|
      hn) ?_
     intro a4 w4 f4
     refine wp_cond_false (f4.v 8 rfl rfl rfl) ?_
     refine wp_seq ?_
     cases fk4 : a.kd != b.kd
     case false =>
      have Ffk4 := Lib.hid fk4; clear fk4
      have b_g1_5 := f4.k b_g1_3
      have b_g2_6 := f4.k (f3.k (f2.k b_g2))
      have s3_7 := f4.q 3 s3_4
      have s4_8 := f4.q 4 (f3.q 4 (f2.q 4 u_g2))
      refine go_reg [bx g1 31 (tyC a), bx g2 31 (tyC b)] [] [some (pt g1 0), some (.int .i8 a.kd), some (pt g2 0), some (.int .i8 b.kd), oF, oF] mo f4.d f4.z f4.b (by kernel_rfl) ⟨b_g1_5, b_g2_6, trivial⟩ (
       hk (fun cx => cx.q (ex_fa rfl (cx.rq 3 s3_7) (faStK31_0_0 _ _))) <|
       hk (fun cx => cx.q (ex_ld rfl (cx.u 0 rfl) (cx.rn 0 rfl) rfl Try.isAgg22)) <|
       hk (fun cx => cx.q (ex_fa rfl (cx.rq 4 s4_8) (faStK31_0_0 _ _))) <|
       hk (fun cx => cx.q (ex_ld rfl (cx.u 0 rfl) (cx.rn 1 rfl) rfl Try.isAgg22)) <|
       hk (fun cx => cx.v (ex_ne (x := .tmp 53) (y := .tmp 55) rfl (cx.u 0 rfl) (cx.u 1 rfl)) rfl (congrArg Value.bool Ffk4.out)) <|
       kmu 0 <|
       hn) ?_
      intro a5 w5 f5
      refine wp_cond_false (f5.v 5 rfl rfl rfl) ?_
      refine wp_skip ?_
      refine wp_seq ?_
      have b_g1_9 := f5.k b_g1_5
      have s3_10 := f5.q 3 s3_7
      refine go_reg [bx g1 31 (tyC a)] [⟨7, 7, 31, (tyC tZ), some 8, (tyC ⟨a.kd, tZ.s, a.lo, a.hi⟩)⟩] [some (pt g1 0), some (.int .i8 a.kd), some (pt g1 7), some (.int .i64 a.lo), some (pt g1 8), some (.int .i64 a.hi), some (.agg (tyC ⟨a.kd, tZ.s, a.lo, a.hi⟩)), none, none] mo f5.d f5.z f5.b (by kernel_rfl) ⟨b_g1_9, trivial⟩ (
       hk (fun cx => cx.q (ex_fa rfl (cx.rq 3 s3_10) (faStK31_0_0 _ _))) <|
       hk (fun cx => cx.q (ex_ld rfl (cx.u 0 rfl) (cx.rn 0 rfl) rfl Try.isAgg22)) <|
       hk (fun cx => cx.q (ex_fa rfl (cx.rq 3 s3_10) (faStK31_2_0 _ _))) <|
       hk (fun cx => cx.q (ex_ld rfl (cx.u 0 rfl) (cx.rn 0 rfl) rfl Try.isAgg3)) <|
       hk (fun cx => cx.q (ex_fa rfl (cx.rq 3 s3_10) (faStK31_3_0 _ _))) <|
       hk (fun cx => cx.q (ex_ld rfl (cx.u 0 rfl) (cx.rn 0 rfl) rfl Try.isAgg3)) <|
       hk (fun cx => cx.q (exec_build rfl (parts3 (cx.u 0 rfl) (cx.u 1 rfl) (cx.u 2 rfl)) (by kernel_rfl))) <|
       hk (fun cx => cx.al (wn rfl) 0 rfl (al_ty rfl) rfl rfl rfl rfl (by kernel_rfl) trivial) <|
       hk (fun cx => cx.stA (wn rfl) rfl rfl 0 0 rfl rfl rfl rfl (cx.u 1 rfl) (by kernel_rfl) (Eq.refl 9) (tyC_one _) f5.b.size rfl rfl trivial) <|
       hn) ?_
      intro a6 w6 f6
      obtain ⟨g4, u_g4, q_g4, b_g4⟩ := f6.al.1
      have neL1_0_1 := (ne_ptr (pairAt f1.ps 0 1 (by decide) rfl rfl) u_g1 u_g2)
      have neL1_0_2 := (ne_ptr (pairAt f1.ps 0 2 (by decide) rfl rfl) u_g1 u_g3)
      have neL1_0_3 := (ne_row b_g1_9 q_g4)
      have neL1_1_2 := (ne_ptr (pairAt f1.ps 1 2 (by decide) rfl rfl) u_g2 u_g3)
      have neL1_1_3 := (ne_row (f5.k b_g2_6) q_g4)
      have neL1_2_3 := (ne_row (f5.k (f4.k (f3.k (f2.k b_g3)))) q_g4)
      refine wp_cut (fun aI wI => Mid 86 W [(2, .bool true), (3, .pointer (some ⟨g1, 0, none⟩)), (4, .pointer (some ⟨g2, 0, none⟩)), (6, .pointer (some ⟨g3, 0, none⟩)), (7, .pointer (some ⟨g4, 0, none⟩))] [(g1, 31, (tyC a)), (g2, 31, (tyC b)), (g3, 31, (tyC tZ)), (g4, 31, (tyC ⟨a.kd, tZ.s, wLo a b, a.hi⟩))] aI wI) ?_ ?_
      ·
        refine wp_seq ?_
        cases fk5 : decide (b.lo < a.lo)
        case false =>
         have Ffk5 := Lib.hid fk5; clear fk5
         have b_g2_11 := f6.k (f5.k b_g2_6)
         have b_g1_12 := f6.k b_g1_9
         have s4_13 := f6.q 4 (f5.q 4 s4_8)
         have s3_14 := f6.q 3 s3_10
         refine go_reg [bx g2 31 (tyC b), bx g1 31 (tyC a)] [] [some (pt g2 7), some (.int .i64 b.lo), some (pt g1 7), some (.int .i64 a.lo), oF] mo f6.d f6.z f6.b (by kernel_rfl) ⟨b_g2_11, b_g1_12, trivial⟩ (
          hk (fun cx => cx.q (ex_fa rfl (cx.rq 4 s4_13) (faStK31_2_0 _ _))) <|
          hk (fun cx => cx.q (ex_ld rfl (cx.u 0 rfl) (cx.rn 0 rfl) rfl Try.isAgg3)) <|
          hk (fun cx => cx.q (ex_fa rfl (cx.rq 3 s3_14) (faStK31_2_0 _ _))) <|
          hk (fun cx => cx.q (ex_ld rfl (cx.u 0 rfl) (cx.rn 1 rfl) rfl Try.isAgg3)) <|
          hk (fun cx => cx.v (ex_lt (x := .tmp 66) (y := .tmp 68) rfl (cx.u 0 rfl) (cx.u 1 rfl)) rfl (congrArg Value.bool Ffk5.out)) <|
          hn) ?_
         intro a7 w7 f7
         refine wp_cond_false (f7.v 4 rfl rfl rfl) ?_
         refine wp_skip ?_
         have s2_15 := f7.q 2 (f6.q 2 (f5.q 2 (f4.q 2 (f3.q 2 (f2.q 2 (f1.q 2 s2_0))))))
         have s3_16 := f7.q 3 s3_14
         have s4_17 := f7.q 4 s4_13
         have s6_18 := f7.q 6 (f6.q 6 (f5.q 6 (f4.q 6 (f3.q 6 (f2.q 6 u_g3)))))
         have s7_19 := f7.q 7 u_g4
         have b_g1_20 := f7.k b_g1_12
         have b_g2_21 := f7.k b_g2_11
         have b_g3_22 := f7.k (f6.k (f5.k (f4.k (f3.k (f2.k b_g3)))))
         have b_g4_23 := f7.k b_g4
         exact ⟨f7.d, f7.z, f7.b, ⟨s2_15, s3_16, s4_17, s6_18, s7_19, trivial⟩, ⟨b_g1_20, b_g2_21, b_g3_22, (row_eq b_g4_23 (congrArg (fun l : Int => tyC ⟨a.kd, tZ.s, l, a.hi⟩) (show a.lo = (wLo a b : Int) from by unfold wLo; rw [Ffk5.out]; rfl))), trivial⟩⟩
        have Ffk5 := Lib.hid fk5; clear fk5
        have b_g2_24 := f6.k (f5.k b_g2_6)
        have b_g1_25 := f6.k b_g1_9
        have s4_26 := f6.q 4 (f5.q 4 s4_8)
        have s3_27 := f6.q 3 s3_10
        refine go_reg [bx g2 31 (tyC b), bx g1 31 (tyC a)] [] [some (pt g2 7), some (.int .i64 b.lo), some (pt g1 7), some (.int .i64 a.lo), oT] mo f6.d f6.z f6.b (by kernel_rfl) ⟨b_g2_24, b_g1_25, trivial⟩ (
         hk (fun cx => cx.q (ex_fa rfl (cx.rq 4 s4_26) (faStK31_2_0 _ _))) <|
         hk (fun cx => cx.q (ex_ld rfl (cx.u 0 rfl) (cx.rn 0 rfl) rfl Try.isAgg3)) <|
         hk (fun cx => cx.q (ex_fa rfl (cx.rq 3 s3_27) (faStK31_2_0 _ _))) <|
         hk (fun cx => cx.q (ex_ld rfl (cx.u 0 rfl) (cx.rn 1 rfl) rfl Try.isAgg3)) <|
         hk (fun cx => cx.v (ex_lt (x := .tmp 66) (y := .tmp 68) rfl (cx.u 0 rfl) (cx.u 1 rfl)) rfl (congrArg Value.bool Ffk5.out)) <|
         hn) ?_
        intro a8 w8 f8
        refine wp_cond_true (f8.v 4 rfl rfl rfl) ?_
        refine wp_seq ?_
        have b_g2_28 := f8.k b_g2_24
        have b_g4_29 := f8.k b_g4
        have s4_30 := f8.q 4 s4_26
        have s7_31 := f8.q 7 u_g4
        refine go_reg [bx g2 31 (tyC b), ⟨g4, 31, (tyC ⟨a.kd, tZ.s, a.lo, a.hi⟩), some 3, (tyC ⟨a.kd, tZ.s, b.lo, a.hi⟩)⟩] [] [some (pt g2 7), some (.int .i64 b.lo), some (pt g4 7), none] mo f8.d f8.z f8.b (by kernel_rfl) ⟨b_g2_28, b_g4_29, trivial⟩ (
         hk (fun cx => cx.q (ex_fa rfl (cx.rq 4 s4_30) (faStK31_2_0 _ _))) <|
         hk (fun cx => cx.q (ex_ld rfl (cx.u 0 rfl) (cx.rn 0 rfl) rfl Try.isAgg3)) <|
         hk (fun cx => cx.q (ex_fa rfl (cx.rq 7 s7_31) (faStK31_2_0 _ _))) <|
         hk (fun cx => cx.stC (wn rfl) rfl rfl 1 rfl (cx.u 0 rfl) (cx.u 1 rfl) rfl rfl (by kernel_rfl) rfl rfl (Nat.le_trans f5.b.size q_g4) rfl ⟨(ne_row (f5.k b_g2_6) q_g4), trivial⟩ trivial) <|
         hn) ?_
        intro a9 w9 f9
        refine wp_seq ?_
        have s2_32 := f9.q 2 (f8.q 2 (f6.q 2 (f5.q 2 (f4.q 2 (f3.q 2 (f2.q 2 (f1.q 2 s2_0)))))))
        refine go_reg [] [] [oT] mo f9.d f9.z f9.b (by kernel_rfl) trivial (
         hk (fun cx => cx.q (ex_mv rfl (cx.rq 2 s2_32))) <|
         hn) ?_
        intro a10 w10 f10
        refine wp_cond_true (f10.v 0 rfl rfl rfl) ?_
        have b_g4_33 := f10.k f9.rows.2.1
        have s7_34 := f10.q 7 (f9.q 7 s7_31)
        refine go_reg [⟨g4, 31, (tyC ⟨a.kd, tZ.s, b.lo, a.hi⟩), some 1, (tyC ⟨a.kd, tZ.s, -1048576, a.hi⟩)⟩] [] [some (pt g4 7), none] mo f10.d f10.z f10.b (by kernel_rfl) ⟨b_g4_33, trivial⟩ (
         hk (fun cx => cx.q (ex_fa rfl (cx.rq 7 s7_34) (faStK31_2_0 _ _))) <|
         hk (fun cx => cx.stC (wn rfl) rfl rfl 0 rfl (cx.u 0 rfl) rfl rfl rfl (by kernel_rfl) rfl rfl (Nat.le_trans f5.b.size q_g4) rfl trivial trivial) <|
         hn) ?_
        intro a11 w11 f11
        have s2_35 := f11.q 2 (f10.q 2 s2_32)
        have s3_36 := f11.q 3 (f10.q 3 (f9.q 3 (f8.q 3 s3_27)))
        have s4_37 := f11.q 4 (f10.q 4 (f9.q 4 s4_30))
        have s6_38 := f11.q 6 (f10.q 6 (f9.q 6 (f8.q 6 (f6.q 6 (f5.q 6 (f4.q 6 (f3.q 6 (f2.q 6 u_g3))))))))
        have s7_39 := f11.q 7 s7_34
        have b_g1_40 := f11.kp (f10.k (f9.kp (f8.k b_g1_25) ⟨.inl rfl, .inr (ne_row b_g1_9 q_g4), trivial⟩)) ⟨.inr (ne_row b_g1_9 q_g4), trivial⟩
        have b_g2_41 := f11.kp (f10.k (f9.kp b_g2_28 ⟨.inl rfl, .inr (ne_row (f5.k b_g2_6) q_g4), trivial⟩)) ⟨.inr (ne_row (f5.k b_g2_6) q_g4), trivial⟩
        have b_g3_42 := f11.kp (f10.k (f9.kp (f8.k (f6.k (f5.k (f4.k (f3.k (f2.k b_g3)))))) ⟨.inl rfl, .inr (ne_row (f5.k (f4.k (f3.k (f2.k b_g3)))) q_g4), trivial⟩)) ⟨.inr (ne_row (f5.k (f4.k (f3.k (f2.k b_g3)))) q_g4), trivial⟩
        exact ⟨f11.d, f11.z, f11.b, ⟨s2_35, s3_36, s4_37, s6_38, s7_39, trivial⟩, ⟨b_g1_40, b_g2_41, b_g3_42, (row_eq f11.rows.1 (congrArg (fun l : Int => tyC ⟨a.kd, tZ.s, l, a.hi⟩) (show (-1048576) = (wLo a b : Int) from by unfold wLo; rw [Ffk5.out]; rfl))), trivial⟩⟩
      rintro aL1 wL1 ⟨dL1, zL1, BL1, ⟨sL1_2, sL1_3, sL1_4, sL1_6, sL1_7, -⟩, ⟨bL1_g1, bL1_g2, bL1_g3, bL1_g4, -⟩⟩
      replace sL1_2 : aL1.tmps.getD 2 undef = .bool true := sL1_2
      replace sL1_3 : aL1.tmps.getD 3 undef = .pointer (some ⟨g1, 0, none⟩) := sL1_3
      replace sL1_4 : aL1.tmps.getD 4 undef = .pointer (some ⟨g2, 0, none⟩) := sL1_4
      replace sL1_6 : aL1.tmps.getD 6 undef = .pointer (some ⟨g3, 0, none⟩) := sL1_6
      replace sL1_7 : aL1.tmps.getD 7 undef = .pointer (some ⟨g4, 0, none⟩) := sL1_7
      replace bL1_g1 : wL1.heap[g1]? = some (.cells (tyC a) 31 (0, 0)) := bL1_g1
      replace bL1_g2 : wL1.heap[g2]? = some (.cells (tyC b) 31 (0, 0)) := bL1_g2
      replace bL1_g3 : wL1.heap[g3]? = some (.cells (tyC tZ) 31 (0, 0)) := bL1_g3
      replace bL1_g4 : wL1.heap[g4]? = some (.cells (tyC ⟨a.kd, tZ.s, wLo a b, a.hi⟩) 31 (0, 0)) := bL1_g4
      have neL2_0_1 := neL1_0_1
      have neL2_0_2 := neL1_0_2
      have neL2_0_3 := neL1_0_3
      have neL2_1_2 := neL1_1_2
      have neL2_1_3 := neL1_1_3
      have neL2_2_3 := neL1_2_3
      refine wp_cut (fun aI wI => Mid 86 W [(6, .pointer (some ⟨g3, 0, none⟩)), (7, .pointer (some ⟨g4, 0, none⟩))] [(g1, 31, (tyC a)), (g2, 31, (tyC b)), (g3, 31, (tyC tZ)), (g4, 31, (tyC ⟨a.kd, tZ.s, wLo a b, wHi a b⟩))] aI wI) ?_ ?_
      ·
        refine wp_seq ?_
        cases fk6 : decide (a.hi < b.hi)
        case false =>
         have Ffk6 := Lib.hid fk6; clear fk6
         refine go_reg [bx g2 31 (tyC b), bx g1 31 (tyC a)] [] [some (pt g2 8), some (.int .i64 b.hi), some (pt g1 8), some (.int .i64 a.hi), oF] mo dL1 zL1 BL1 (by kernel_rfl) ⟨bL1_g2, bL1_g1, trivial⟩ (
          hk (fun cx => cx.q (ex_fa rfl (cx.rq 4 sL1_4) (faStK31_3_0 _ _))) <|
          hk (fun cx => cx.q (ex_ld rfl (cx.u 0 rfl) (cx.rn 0 rfl) rfl Try.isAgg3)) <|
          hk (fun cx => cx.q (ex_fa rfl (cx.rq 3 sL1_3) (faStK31_3_0 _ _))) <|
          hk (fun cx => cx.q (ex_ld rfl (cx.u 0 rfl) (cx.rn 1 rfl) rfl Try.isAgg3)) <|
          hk (fun cx => cx.v (ex_gt (x := .tmp 76) (y := .tmp 78) rfl (cx.u 0 rfl) (cx.u 1 rfl)) rfl (congrArg Value.bool Ffk6.out)) <|
          hn) ?_
         intro a12 w12 f12
         refine wp_cond_false (f12.v 4 rfl rfl rfl) ?_
         refine wp_skip ?_
         have s6_43 := f12.q 6 sL1_6
         have s7_44 := f12.q 7 sL1_7
         have b_g1_45 := f12.k bL1_g1
         have b_g2_46 := f12.k bL1_g2
         have b_g3_47 := f12.k bL1_g3
         have b_g4_48 := f12.k bL1_g4
         exact ⟨f12.d, f12.z, f12.b, ⟨s6_43, s7_44, trivial⟩, ⟨b_g1_45, b_g2_46, b_g3_47, (row_eq b_g4_48 (congrArg (fun l : Int => tyC ⟨a.kd, tZ.s, wLo a b, l⟩) (show a.hi = (wHi a b : Int) from by unfold wHi; rw [Ffk6.out]; rfl))), trivial⟩⟩
        have Ffk6 := Lib.hid fk6; clear fk6
        refine go_reg [bx g2 31 (tyC b), bx g1 31 (tyC a)] [] [some (pt g2 8), some (.int .i64 b.hi), some (pt g1 8), some (.int .i64 a.hi), oT] mo dL1 zL1 BL1 (by kernel_rfl) ⟨bL1_g2, bL1_g1, trivial⟩ (
         hk (fun cx => cx.q (ex_fa rfl (cx.rq 4 sL1_4) (faStK31_3_0 _ _))) <|
         hk (fun cx => cx.q (ex_ld rfl (cx.u 0 rfl) (cx.rn 0 rfl) rfl Try.isAgg3)) <|
         hk (fun cx => cx.q (ex_fa rfl (cx.rq 3 sL1_3) (faStK31_3_0 _ _))) <|
         hk (fun cx => cx.q (ex_ld rfl (cx.u 0 rfl) (cx.rn 1 rfl) rfl Try.isAgg3)) <|
         hk (fun cx => cx.v (ex_gt (x := .tmp 76) (y := .tmp 78) rfl (cx.u 0 rfl) (cx.u 1 rfl)) rfl (congrArg Value.bool Ffk6.out)) <|
         hn) ?_
        intro a13 w13 f13
        refine wp_cond_true (f13.v 4 rfl rfl rfl) ?_
        refine wp_seq ?_
        have b_g2_49 := f13.k bL1_g2
        have b_g4_50 := f13.k bL1_g4
        have s4_51 := f13.q 4 sL1_4
        have s7_52 := f13.q 7 sL1_7
        refine go_reg [bx g2 31 (tyC b), ⟨g4, 31, (tyC ⟨a.kd, tZ.s, wLo a b, a.hi⟩), some 3, (tyC ⟨a.kd, tZ.s, wLo a b, b.hi⟩)⟩] [] [some (pt g2 8), some (.int .i64 b.hi), some (pt g4 8), none] mo f13.d f13.z f13.b (by kernel_rfl) ⟨b_g2_49, b_g4_50, trivial⟩ (
         hk (fun cx => cx.q (ex_fa rfl (cx.rq 4 s4_51) (faStK31_3_0 _ _))) <|
         hk (fun cx => cx.q (ex_ld rfl (cx.u 0 rfl) (cx.rn 0 rfl) rfl Try.isAgg3)) <|
         hk (fun cx => cx.q (ex_fa rfl (cx.rq 7 s7_52) (faStK31_3_0 _ _))) <|
         hk (fun cx => cx.stC (wn rfl) rfl rfl 1 rfl (cx.u 0 rfl) (cx.u 1 rfl) rfl rfl (by kernel_rfl) rfl rfl (Nat.le_trans f5.b.size q_g4) rfl ⟨neL1_1_3, trivial⟩ trivial) <|
         hn) ?_
        intro a14 w14 f14
        refine wp_seq ?_
        have s2_53 := f14.q 2 (f13.q 2 sL1_2)
        refine go_reg [] [] [oT] mo f14.d f14.z f14.b (by kernel_rfl) trivial (
         hk (fun cx => cx.q (ex_mv rfl (cx.rq 2 s2_53))) <|
         hn) ?_
        intro a15 w15 f15
        refine wp_cond_true (f15.v 0 rfl rfl rfl) ?_
        have b_g4_54 := f15.k f14.rows.2.1
        have s7_55 := f15.q 7 (f14.q 7 s7_52)
        refine go_reg [⟨g4, 31, (tyC ⟨a.kd, tZ.s, wLo a b, b.hi⟩), some 1, (tyC ⟨a.kd, tZ.s, wLo a b, 1048576⟩)⟩] [] [some (pt g4 8), none] mo f15.d f15.z f15.b (by kernel_rfl) ⟨b_g4_54, trivial⟩ (
         hk (fun cx => cx.q (ex_fa rfl (cx.rq 7 s7_55) (faStK31_3_0 _ _))) <|
         hk (fun cx => cx.stC (wn rfl) rfl rfl 0 rfl (cx.u 0 rfl) rfl rfl rfl (by kernel_rfl) rfl rfl (Nat.le_trans f5.b.size q_g4) rfl trivial trivial) <|
         hn) ?_
        intro a16 w16 f16
        have s6_56 := f16.q 6 (f15.q 6 (f14.q 6 (f13.q 6 sL1_6)))
        have s7_57 := f16.q 7 s7_55
        have b_g1_58 := f16.kp (f15.k (f14.kp (f13.k bL1_g1) ⟨.inl rfl, .inr neL1_0_3, trivial⟩)) ⟨.inr neL1_0_3, trivial⟩
        have b_g2_59 := f16.kp (f15.k (f14.kp b_g2_49 ⟨.inl rfl, .inr neL1_1_3, trivial⟩)) ⟨.inr neL1_1_3, trivial⟩
        have b_g3_60 := f16.kp (f15.k (f14.kp (f13.k bL1_g3) ⟨.inl rfl, .inr neL1_2_3, trivial⟩)) ⟨.inr neL1_2_3, trivial⟩
        exact ⟨f16.d, f16.z, f16.b, ⟨s6_56, s7_57, trivial⟩, ⟨b_g1_58, b_g2_59, b_g3_60, (row_eq f16.rows.1 (congrArg (fun l : Int => tyC ⟨a.kd, tZ.s, wLo a b, l⟩) (show 1048576 = (wHi a b : Int) from by unfold wHi; rw [Ffk6.out]; rfl))), trivial⟩⟩
      rintro aL2 wL2 ⟨dL2, zL2, BL2, ⟨sL2_6, sL2_7, -⟩, ⟨bL2_g1, bL2_g2, bL2_g3, bL2_g4, -⟩⟩
      replace sL2_6 : aL2.tmps.getD 6 undef = .pointer (some ⟨g3, 0, none⟩) := sL2_6
      replace sL2_7 : aL2.tmps.getD 7 undef = .pointer (some ⟨g4, 0, none⟩) := sL2_7
      replace bL2_g1 : wL2.heap[g1]? = some (.cells (tyC a) 31 (0, 0)) := bL2_g1
      replace bL2_g2 : wL2.heap[g2]? = some (.cells (tyC b) 31 (0, 0)) := bL2_g2
      replace bL2_g3 : wL2.heap[g3]? = some (.cells (tyC tZ) 31 (0, 0)) := bL2_g3
      replace bL2_g4 : wL2.heap[g4]? = some (.cells (tyC ⟨a.kd, tZ.s, wLo a b, wHi a b⟩) 31 (0, 0)) := bL2_g4
      refine wp_seq ?_
      refine go_reg [bx g4 31 (tyC ⟨a.kd, tZ.s, wLo a b, wHi a b⟩), ⟨g3, 31, (tyC tZ), some 1, (tyC ⟨a.kd, tZ.s, wLo a b, wHi a b⟩)⟩] [] [some (.agg (tyC ⟨a.kd, tZ.s, wLo a b, wHi a b⟩)), none] mo dL2 zL2 BL2 (by kernel_rfl) ⟨bL2_g4, bL2_g3, trivial⟩ (
       hk (fun cx => cx.q (ldTy rfl (cx.rq 7 sL2_7) (cx.rn 0 rfl))) <|
       hk (fun cx => cx.stR (wn rfl) rfl rfl 1 rfl (cx.rq 6 sL2_6) (cx.u 0 rfl) (by kernel_rfl) (Eq.refl 9) (tyC_one _) q_g3 rfl ⟨neL2_2_3.symm, trivial⟩ trivial) <|
       hn) ?_
      intro a17 w17 f17
      refine wp_ret ?_
      have s6_61 := f17.q 6 sL2_6
      try simp only [Exit.inBlock, Exit.then]
      refine bodyPost_ret (res_c (fn := Try.f80) rfl s6_61 (load_row 31 f17.rows.2.1 Try.underlying31 rfl (by kernel_rfl))) f17.d ?_
      have hu : (Ty.unB a || Ty.unB b) = false := by unfold Ty.unB; simp only [Ffk1.out, Ffk2.out, Bool.false_and, Bool.true_and, Bool.and_false, Bool.and_true, Bool.true_or, Bool.or_true, Bool.false_or, Bool.or_false]
      have HE : (.agg (tyC ⟨a.kd, tZ.s, wLo a b, wHi a b⟩) : Value) = .agg (tyC (wT a b)) := by unfold wT arnd; rw [hu, if_neg Bool.false_ne_true, Ffk4.out, if_neg Bool.false_ne_true, Ffk3.out, if_neg Bool.false_ne_true]; rfl
      exact ⟨retV HE, f17.b⟩
     have Ffk4 := Lib.hid fk4; clear fk4
     have b_g1_62 := f4.k b_g1_3
     have b_g2_63 := f4.k (f3.k (f2.k b_g2))
     have s3_64 := f4.q 3 s3_4
     have s4_65 := f4.q 4 (f3.q 4 (f2.q 4 u_g2))
     refine go_reg [bx g1 31 (tyC a), bx g2 31 (tyC b)] [] [some (pt g1 0), some (.int .i8 a.kd), some (pt g2 0), some (.int .i8 b.kd), oT, oT] mo f4.d f4.z f4.b (by kernel_rfl) ⟨b_g1_62, b_g2_63, trivial⟩ (
      hk (fun cx => cx.q (ex_fa rfl (cx.rq 3 s3_64) (faStK31_0_0 _ _))) <|
      hk (fun cx => cx.q (ex_ld rfl (cx.u 0 rfl) (cx.rn 0 rfl) rfl Try.isAgg22)) <|
      hk (fun cx => cx.q (ex_fa rfl (cx.rq 4 s4_65) (faStK31_0_0 _ _))) <|
      hk (fun cx => cx.q (ex_ld rfl (cx.u 0 rfl) (cx.rn 1 rfl) rfl Try.isAgg22)) <|
      hk (fun cx => cx.v (ex_ne (x := .tmp 53) (y := .tmp 55) rfl (cx.u 0 rfl) (cx.u 1 rfl)) rfl (congrArg Value.bool Ffk4.out)) <|
      kmu 0 <|
      hn) ?_
     intro a18 w18 f18
     refine wp_cond_true (f18.v 5 rfl rfl rfl) ?_
     refine wp_seq ?_
     have b_g3_66 := f18.k (f4.k (f3.k (f2.k b_g3)))
     have s6_67 := f18.q 6 (f4.q 6 (f3.q 6 (f2.q 6 u_g3)))
     refine go_reg [⟨g3, 31, (tyC tZ), some 1, (tyC allT)⟩] [] [some (.agg (tyC allT)), none] mo f18.d f18.z f18.b (by kernel_rfl) ⟨b_g3_66, trivial⟩ (
      hc (fun _ _ wx cx => cx.c rfl (args0 ) Try.func14 (by decide +kernel) (qscalar_n wx) rfl rfl) <|
      hk (fun cx => cx.stR (wn rfl) rfl rfl 0 rfl (cx.rq 6 s6_67) (cx.u 0 rfl) (by kernel_rfl) (Eq.refl 9) (tyC_one _) q_g3 rfl trivial trivial) <|
      hn) ?_
     intro a19 w19 f19
     refine wp_ret ?_
     have s6_68 := f19.q 6 s6_67
     try simp only [Exit.inBlock, Exit.then]
     refine bodyPost_ret (res_c (fn := Try.f80) rfl s6_68 (load_row 31 f19.rows.1 Try.underlying31 rfl (by kernel_rfl))) f19.d ?_
     have hu : (Ty.unB a || Ty.unB b) = false := by unfold Ty.unB; simp only [Ffk1.out, Ffk2.out, Bool.false_and, Bool.true_and, Bool.and_false, Bool.and_true, Bool.true_or, Bool.or_true, Bool.false_or, Bool.or_false]
     have HE : (.agg (tyC allT) : Value) = .agg (tyC (wT a b)) := by unfold wT arnd; rw [hu, if_neg Bool.false_ne_true, Ffk4.out, if_pos rfl]
     exact ⟨retV HE, f19.b⟩
    have Ffk3 := Lib.hid fk3; clear fk3
    cases fk7 : b.kd == 1
    case false =>
     have Ffk7 := Lib.hid fk7; clear fk7
     have b_g1_69 := f2.k b_g1
     have b_g2_70 := f2.k b_g2
     have s3_71 := f2.q 3 u_g1
     have s4_72 := f2.q 4 u_g2
     refine go_reg [bx g1 31 (tyC a), bx g2 31 (tyC b)] [] [some (pt g1 0), some (.int .i8 a.kd), oT, oT, some (pt g2 0), some (.int .i8 b.kd), oF, oF, oF, oU, oF, oF] mo f2.d f2.z f2.b (by kernel_rfl) ⟨b_g1_69, b_g2_70, trivial⟩ (
      hk (fun cx => cx.q (ex_fa rfl (cx.rq 3 s3_71) (faStK31_0_0 _ _))) <|
      hk (fun cx => cx.q (ex_ld rfl (cx.u 0 rfl) (cx.rn 0 rfl) rfl Try.isAgg22)) <|
      hk (fun cx => cx.v (ex_eq (x := .tmp 20) rfl (cx.u 0 rfl) rfl) rfl (congrArg Value.bool Ffk3.out)) <|
      kmu 0 <|
      hk (fun cx => cx.vy 0 (ex_fa rfl (cx.rq 4 s4_72) (faStK31_0_0 _ _))) <|
      hk (fun cx => cx.vy 1 (ex_ld rfl (cx.u 0 rfl) (cx.rn 1 rfl) rfl Try.isAgg22)) <|
      hk (fun cx => cx.vy 1 (ex_eq (x := .tmp 24) rfl (cx.u 0 rfl) rfl) (congrArg Value.bool Ffk7.out)) <|
      hk (fun cx => cx.q (ex_pt rfl (cx.u 0 rfl) (cx.u 1 rfl))) <|
      kmu 0 <|
      kno 0 <|
      hk (fun cx => cx.q (ex_pf rfl (cx.u 0 rfl) rfl)) <|
      kmu 0 <|
      hn) ?_
     intro a20 w20 f20
     refine wp_cond_false (f20.v 11 rfl rfl rfl) ?_
     refine wp_seq ?_
     have b_g1_73 := f20.k b_g1_69
     have b_g2_74 := f20.k b_g2_70
     have s3_75 := f20.q 3 s3_71
     have s4_76 := f20.q 4 s4_72
     refine go_reg [bx g1 31 (tyC a), bx g2 31 (tyC b)] [] [some (pt g1 0), some (.int .i8 a.kd), oT, oT, some (pt g2 0), some (.int .i8 b.kd), oF, oF, oF] mo f20.d f20.z f20.b (by kernel_rfl) ⟨b_g1_73, b_g2_74, trivial⟩ (
      hk (fun cx => cx.q (ex_fa rfl (cx.rq 3 s3_75) (faStK31_0_0 _ _))) <|
      hk (fun cx => cx.q (ex_ld rfl (cx.u 0 rfl) (cx.rn 0 rfl) rfl Try.isAgg22)) <|
      hk (fun cx => cx.v (ex_eq (x := .tmp 38) rfl (cx.u 0 rfl) rfl) rfl (congrArg Value.bool Ffk3.out)) <|
      kmu 0 <|
      hk (fun cx => cx.vy 0 (ex_fa rfl (cx.rq 4 s4_76) (faStK31_0_0 _ _))) <|
      hk (fun cx => cx.vy 1 (ex_ld rfl (cx.u 0 rfl) (cx.rn 1 rfl) rfl Try.isAgg22)) <|
      hk (fun cx => cx.vy 1 (ex_eq (x := .tmp 42) rfl (cx.u 0 rfl) rfl) (congrArg Value.bool Ffk7.out)) <|
      hk (fun cx => cx.q (ex_pt rfl (cx.u 0 rfl) (cx.u 1 rfl))) <|
      kmu 0 <|
      hn) ?_
     intro a21 w21 f21
     refine wp_cond_false (f21.v 8 rfl rfl rfl) ?_
     refine wp_seq ?_
     cases fk8 : a.kd != b.kd
     case false =>
      have Ffk8 := Lib.hid fk8; clear fk8
      have b_g1_77 := f21.k b_g1_73
      have b_g2_78 := f21.k b_g2_74
      have s3_79 := f21.q 3 s3_75
      have s4_80 := f21.q 4 s4_76
      refine go_reg [bx g1 31 (tyC a), bx g2 31 (tyC b)] [] [some (pt g1 0), some (.int .i8 a.kd), some (pt g2 0), some (.int .i8 b.kd), oF, oF] mo f21.d f21.z f21.b (by kernel_rfl) ⟨b_g1_77, b_g2_78, trivial⟩ (
       hk (fun cx => cx.q (ex_fa rfl (cx.rq 3 s3_79) (faStK31_0_0 _ _))) <|
       hk (fun cx => cx.q (ex_ld rfl (cx.u 0 rfl) (cx.rn 0 rfl) rfl Try.isAgg22)) <|
       hk (fun cx => cx.q (ex_fa rfl (cx.rq 4 s4_80) (faStK31_0_0 _ _))) <|
       hk (fun cx => cx.q (ex_ld rfl (cx.u 0 rfl) (cx.rn 1 rfl) rfl Try.isAgg22)) <|
       hk (fun cx => cx.v (ex_ne (x := .tmp 53) (y := .tmp 55) rfl (cx.u 0 rfl) (cx.u 1 rfl)) rfl (congrArg Value.bool Ffk8.out)) <|
       kmu 0 <|
       hn) ?_
      intro a22 w22 f22
      refine wp_cond_false (f22.v 5 rfl rfl rfl) ?_
      refine wp_skip ?_
      refine wp_seq ?_
      have b_g1_81 := f22.k b_g1_77
      have s3_82 := f22.q 3 s3_79
      refine go_reg [bx g1 31 (tyC a)] [⟨7, 7, 31, (tyC tZ), some 8, (tyC ⟨a.kd, tZ.s, a.lo, a.hi⟩)⟩] [some (pt g1 0), some (.int .i8 a.kd), some (pt g1 7), some (.int .i64 a.lo), some (pt g1 8), some (.int .i64 a.hi), some (.agg (tyC ⟨a.kd, tZ.s, a.lo, a.hi⟩)), none, none] mo f22.d f22.z f22.b (by kernel_rfl) ⟨b_g1_81, trivial⟩ (
       hk (fun cx => cx.q (ex_fa rfl (cx.rq 3 s3_82) (faStK31_0_0 _ _))) <|
       hk (fun cx => cx.q (ex_ld rfl (cx.u 0 rfl) (cx.rn 0 rfl) rfl Try.isAgg22)) <|
       hk (fun cx => cx.q (ex_fa rfl (cx.rq 3 s3_82) (faStK31_2_0 _ _))) <|
       hk (fun cx => cx.q (ex_ld rfl (cx.u 0 rfl) (cx.rn 0 rfl) rfl Try.isAgg3)) <|
       hk (fun cx => cx.q (ex_fa rfl (cx.rq 3 s3_82) (faStK31_3_0 _ _))) <|
       hk (fun cx => cx.q (ex_ld rfl (cx.u 0 rfl) (cx.rn 0 rfl) rfl Try.isAgg3)) <|
       hk (fun cx => cx.q (exec_build rfl (parts3 (cx.u 0 rfl) (cx.u 1 rfl) (cx.u 2 rfl)) (by kernel_rfl))) <|
       hk (fun cx => cx.al (wn rfl) 0 rfl (al_ty rfl) rfl rfl rfl rfl (by kernel_rfl) trivial) <|
       hk (fun cx => cx.stA (wn rfl) rfl rfl 0 0 rfl rfl rfl rfl (cx.u 1 rfl) (by kernel_rfl) (Eq.refl 9) (tyC_one _) f22.b.size rfl rfl trivial) <|
       hn) ?_
      intro a23 w23 f23
      obtain ⟨g4, u_g4, q_g4, b_g4⟩ := f23.al.1
      have neL3_0_1 := (ne_ptr (pairAt f1.ps 0 1 (by decide) rfl rfl) u_g1 u_g2)
      have neL3_0_2 := (ne_ptr (pairAt f1.ps 0 2 (by decide) rfl rfl) u_g1 u_g3)
      have neL3_0_3 := (ne_row b_g1_81 q_g4)
      have neL3_1_2 := (ne_ptr (pairAt f1.ps 1 2 (by decide) rfl rfl) u_g2 u_g3)
      have neL3_1_3 := (ne_row (f22.k b_g2_78) q_g4)
      have neL3_2_3 := (ne_row (f22.k (f21.k (f20.k (f2.k b_g3)))) q_g4)
      refine wp_cut (fun aI wI => Mid 86 W [(2, .bool true), (3, .pointer (some ⟨g1, 0, none⟩)), (4, .pointer (some ⟨g2, 0, none⟩)), (6, .pointer (some ⟨g3, 0, none⟩)), (7, .pointer (some ⟨g4, 0, none⟩))] [(g1, 31, (tyC a)), (g2, 31, (tyC b)), (g3, 31, (tyC tZ)), (g4, 31, (tyC ⟨a.kd, tZ.s, wLo a b, a.hi⟩))] aI wI) ?_ ?_
      ·
        refine wp_seq ?_
        cases fk9 : decide (b.lo < a.lo)
        case false =>
         have Ffk9 := Lib.hid fk9; clear fk9
         have b_g2_83 := f23.k (f22.k b_g2_78)
         have b_g1_84 := f23.k b_g1_81
         have s4_85 := f23.q 4 (f22.q 4 s4_80)
         have s3_86 := f23.q 3 s3_82
         refine go_reg [bx g2 31 (tyC b), bx g1 31 (tyC a)] [] [some (pt g2 7), some (.int .i64 b.lo), some (pt g1 7), some (.int .i64 a.lo), oF] mo f23.d f23.z f23.b (by kernel_rfl) ⟨b_g2_83, b_g1_84, trivial⟩ (
          hk (fun cx => cx.q (ex_fa rfl (cx.rq 4 s4_85) (faStK31_2_0 _ _))) <|
          hk (fun cx => cx.q (ex_ld rfl (cx.u 0 rfl) (cx.rn 0 rfl) rfl Try.isAgg3)) <|
          hk (fun cx => cx.q (ex_fa rfl (cx.rq 3 s3_86) (faStK31_2_0 _ _))) <|
          hk (fun cx => cx.q (ex_ld rfl (cx.u 0 rfl) (cx.rn 1 rfl) rfl Try.isAgg3)) <|
          hk (fun cx => cx.v (ex_lt (x := .tmp 66) (y := .tmp 68) rfl (cx.u 0 rfl) (cx.u 1 rfl)) rfl (congrArg Value.bool Ffk9.out)) <|
          hn) ?_
         intro a24 w24 f24
         refine wp_cond_false (f24.v 4 rfl rfl rfl) ?_
         refine wp_skip ?_
         have s2_87 := f24.q 2 (f23.q 2 (f22.q 2 (f21.q 2 (f20.q 2 (f2.q 2 (f1.q 2 s2_0))))))
         have s3_88 := f24.q 3 s3_86
         have s4_89 := f24.q 4 s4_85
         have s6_90 := f24.q 6 (f23.q 6 (f22.q 6 (f21.q 6 (f20.q 6 (f2.q 6 u_g3)))))
         have s7_91 := f24.q 7 u_g4
         have b_g1_92 := f24.k b_g1_84
         have b_g2_93 := f24.k b_g2_83
         have b_g3_94 := f24.k (f23.k (f22.k (f21.k (f20.k (f2.k b_g3)))))
         have b_g4_95 := f24.k b_g4
         exact ⟨f24.d, f24.z, f24.b, ⟨s2_87, s3_88, s4_89, s6_90, s7_91, trivial⟩, ⟨b_g1_92, b_g2_93, b_g3_94, (row_eq b_g4_95 (congrArg (fun l : Int => tyC ⟨a.kd, tZ.s, l, a.hi⟩) (show a.lo = (wLo a b : Int) from by unfold wLo; rw [Ffk9.out]; rfl))), trivial⟩⟩
        have Ffk9 := Lib.hid fk9; clear fk9
        have b_g2_96 := f23.k (f22.k b_g2_78)
        have b_g1_97 := f23.k b_g1_81
        have s4_98 := f23.q 4 (f22.q 4 s4_80)
        have s3_99 := f23.q 3 s3_82
        refine go_reg [bx g2 31 (tyC b), bx g1 31 (tyC a)] [] [some (pt g2 7), some (.int .i64 b.lo), some (pt g1 7), some (.int .i64 a.lo), oT] mo f23.d f23.z f23.b (by kernel_rfl) ⟨b_g2_96, b_g1_97, trivial⟩ (
         hk (fun cx => cx.q (ex_fa rfl (cx.rq 4 s4_98) (faStK31_2_0 _ _))) <|
         hk (fun cx => cx.q (ex_ld rfl (cx.u 0 rfl) (cx.rn 0 rfl) rfl Try.isAgg3)) <|
         hk (fun cx => cx.q (ex_fa rfl (cx.rq 3 s3_99) (faStK31_2_0 _ _))) <|
         hk (fun cx => cx.q (ex_ld rfl (cx.u 0 rfl) (cx.rn 1 rfl) rfl Try.isAgg3)) <|
         hk (fun cx => cx.v (ex_lt (x := .tmp 66) (y := .tmp 68) rfl (cx.u 0 rfl) (cx.u 1 rfl)) rfl (congrArg Value.bool Ffk9.out)) <|
         hn) ?_
        intro a25 w25 f25
        refine wp_cond_true (f25.v 4 rfl rfl rfl) ?_
        refine wp_seq ?_
        have b_g2_100 := f25.k b_g2_96
        have b_g4_101 := f25.k b_g4
        have s4_102 := f25.q 4 s4_98
        have s7_103 := f25.q 7 u_g4
        refine go_reg [bx g2 31 (tyC b), ⟨g4, 31, (tyC ⟨a.kd, tZ.s, a.lo, a.hi⟩), some 3, (tyC ⟨a.kd, tZ.s, b.lo, a.hi⟩)⟩] [] [some (pt g2 7), some (.int .i64 b.lo), some (pt g4 7), none] mo f25.d f25.z f25.b (by kernel_rfl) ⟨b_g2_100, b_g4_101, trivial⟩ (
         hk (fun cx => cx.q (ex_fa rfl (cx.rq 4 s4_102) (faStK31_2_0 _ _))) <|
         hk (fun cx => cx.q (ex_ld rfl (cx.u 0 rfl) (cx.rn 0 rfl) rfl Try.isAgg3)) <|
         hk (fun cx => cx.q (ex_fa rfl (cx.rq 7 s7_103) (faStK31_2_0 _ _))) <|
         hk (fun cx => cx.stC (wn rfl) rfl rfl 1 rfl (cx.u 0 rfl) (cx.u 1 rfl) rfl rfl (by kernel_rfl) rfl rfl (Nat.le_trans f22.b.size q_g4) rfl ⟨(ne_row (f22.k b_g2_78) q_g4), trivial⟩ trivial) <|
         hn) ?_
        intro a26 w26 f26
        refine wp_seq ?_
        have s2_104 := f26.q 2 (f25.q 2 (f23.q 2 (f22.q 2 (f21.q 2 (f20.q 2 (f2.q 2 (f1.q 2 s2_0)))))))
        refine go_reg [] [] [oT] mo f26.d f26.z f26.b (by kernel_rfl) trivial (
         hk (fun cx => cx.q (ex_mv rfl (cx.rq 2 s2_104))) <|
         hn) ?_
        intro a27 w27 f27
        refine wp_cond_true (f27.v 0 rfl rfl rfl) ?_
        have b_g4_105 := f27.k f26.rows.2.1
        have s7_106 := f27.q 7 (f26.q 7 s7_103)
        refine go_reg [⟨g4, 31, (tyC ⟨a.kd, tZ.s, b.lo, a.hi⟩), some 1, (tyC ⟨a.kd, tZ.s, -1048576, a.hi⟩)⟩] [] [some (pt g4 7), none] mo f27.d f27.z f27.b (by kernel_rfl) ⟨b_g4_105, trivial⟩ (
         hk (fun cx => cx.q (ex_fa rfl (cx.rq 7 s7_106) (faStK31_2_0 _ _))) <|
         hk (fun cx => cx.stC (wn rfl) rfl rfl 0 rfl (cx.u 0 rfl) rfl rfl rfl (by kernel_rfl) rfl rfl (Nat.le_trans f22.b.size q_g4) rfl trivial trivial) <|
         hn) ?_
        intro a28 w28 f28
        have s2_107 := f28.q 2 (f27.q 2 s2_104)
        have s3_108 := f28.q 3 (f27.q 3 (f26.q 3 (f25.q 3 s3_99)))
        have s4_109 := f28.q 4 (f27.q 4 (f26.q 4 s4_102))
        have s6_110 := f28.q 6 (f27.q 6 (f26.q 6 (f25.q 6 (f23.q 6 (f22.q 6 (f21.q 6 (f20.q 6 (f2.q 6 u_g3))))))))
        have s7_111 := f28.q 7 s7_106
        have b_g1_112 := f28.kp (f27.k (f26.kp (f25.k b_g1_97) ⟨.inl rfl, .inr (ne_row b_g1_81 q_g4), trivial⟩)) ⟨.inr (ne_row b_g1_81 q_g4), trivial⟩
        have b_g2_113 := f28.kp (f27.k (f26.kp b_g2_100 ⟨.inl rfl, .inr (ne_row (f22.k b_g2_78) q_g4), trivial⟩)) ⟨.inr (ne_row (f22.k b_g2_78) q_g4), trivial⟩
        have b_g3_114 := f28.kp (f27.k (f26.kp (f25.k (f23.k (f22.k (f21.k (f20.k (f2.k b_g3)))))) ⟨.inl rfl, .inr (ne_row (f22.k (f21.k (f20.k (f2.k b_g3)))) q_g4), trivial⟩)) ⟨.inr (ne_row (f22.k (f21.k (f20.k (f2.k b_g3)))) q_g4), trivial⟩
        exact ⟨f28.d, f28.z, f28.b, ⟨s2_107, s3_108, s4_109, s6_110, s7_111, trivial⟩, ⟨b_g1_112, b_g2_113, b_g3_114, (row_eq f28.rows.1 (congrArg (fun l : Int => tyC ⟨a.kd, tZ.s, l, a.hi⟩) (show (-1048576) = (wLo a b : Int) from by unfold wLo; rw [Ffk9.out]; rfl))), trivial⟩⟩
      rintro aL3 wL3 ⟨dL3, zL3, BL3, ⟨sL3_2, sL3_3, sL3_4, sL3_6, sL3_7, -⟩, ⟨bL3_g1, bL3_g2, bL3_g3, bL3_g4, -⟩⟩
      replace sL3_2 : aL3.tmps.getD 2 undef = .bool true := sL3_2
      replace sL3_3 : aL3.tmps.getD 3 undef = .pointer (some ⟨g1, 0, none⟩) := sL3_3
      replace sL3_4 : aL3.tmps.getD 4 undef = .pointer (some ⟨g2, 0, none⟩) := sL3_4
      replace sL3_6 : aL3.tmps.getD 6 undef = .pointer (some ⟨g3, 0, none⟩) := sL3_6
      replace sL3_7 : aL3.tmps.getD 7 undef = .pointer (some ⟨g4, 0, none⟩) := sL3_7
      replace bL3_g1 : wL3.heap[g1]? = some (.cells (tyC a) 31 (0, 0)) := bL3_g1
      replace bL3_g2 : wL3.heap[g2]? = some (.cells (tyC b) 31 (0, 0)) := bL3_g2
      replace bL3_g3 : wL3.heap[g3]? = some (.cells (tyC tZ) 31 (0, 0)) := bL3_g3
      replace bL3_g4 : wL3.heap[g4]? = some (.cells (tyC ⟨a.kd, tZ.s, wLo a b, a.hi⟩) 31 (0, 0)) := bL3_g4
      have neL4_0_1 := neL3_0_1
      have neL4_0_2 := neL3_0_2
      have neL4_0_3 := neL3_0_3
      have neL4_1_2 := neL3_1_2
      have neL4_1_3 := neL3_1_3
      have neL4_2_3 := neL3_2_3
      refine wp_cut (fun aI wI => Mid 86 W [(6, .pointer (some ⟨g3, 0, none⟩)), (7, .pointer (some ⟨g4, 0, none⟩))] [(g1, 31, (tyC a)), (g2, 31, (tyC b)), (g3, 31, (tyC tZ)), (g4, 31, (tyC ⟨a.kd, tZ.s, wLo a b, wHi a b⟩))] aI wI) ?_ ?_
      ·
        refine wp_seq ?_
        cases fk10 : decide (a.hi < b.hi)
        case false =>
         have Ffk10 := Lib.hid fk10; clear fk10
         refine go_reg [bx g2 31 (tyC b), bx g1 31 (tyC a)] [] [some (pt g2 8), some (.int .i64 b.hi), some (pt g1 8), some (.int .i64 a.hi), oF] mo dL3 zL3 BL3 (by kernel_rfl) ⟨bL3_g2, bL3_g1, trivial⟩ (
          hk (fun cx => cx.q (ex_fa rfl (cx.rq 4 sL3_4) (faStK31_3_0 _ _))) <|
          hk (fun cx => cx.q (ex_ld rfl (cx.u 0 rfl) (cx.rn 0 rfl) rfl Try.isAgg3)) <|
          hk (fun cx => cx.q (ex_fa rfl (cx.rq 3 sL3_3) (faStK31_3_0 _ _))) <|
          hk (fun cx => cx.q (ex_ld rfl (cx.u 0 rfl) (cx.rn 1 rfl) rfl Try.isAgg3)) <|
          hk (fun cx => cx.v (ex_gt (x := .tmp 76) (y := .tmp 78) rfl (cx.u 0 rfl) (cx.u 1 rfl)) rfl (congrArg Value.bool Ffk10.out)) <|
          hn) ?_
         intro a29 w29 f29
         refine wp_cond_false (f29.v 4 rfl rfl rfl) ?_
         refine wp_skip ?_
         have s6_115 := f29.q 6 sL3_6
         have s7_116 := f29.q 7 sL3_7
         have b_g1_117 := f29.k bL3_g1
         have b_g2_118 := f29.k bL3_g2
         have b_g3_119 := f29.k bL3_g3
         have b_g4_120 := f29.k bL3_g4
         exact ⟨f29.d, f29.z, f29.b, ⟨s6_115, s7_116, trivial⟩, ⟨b_g1_117, b_g2_118, b_g3_119, (row_eq b_g4_120 (congrArg (fun l : Int => tyC ⟨a.kd, tZ.s, wLo a b, l⟩) (show a.hi = (wHi a b : Int) from by unfold wHi; rw [Ffk10.out]; rfl))), trivial⟩⟩
        have Ffk10 := Lib.hid fk10; clear fk10
        refine go_reg [bx g2 31 (tyC b), bx g1 31 (tyC a)] [] [some (pt g2 8), some (.int .i64 b.hi), some (pt g1 8), some (.int .i64 a.hi), oT] mo dL3 zL3 BL3 (by kernel_rfl) ⟨bL3_g2, bL3_g1, trivial⟩ (
         hk (fun cx => cx.q (ex_fa rfl (cx.rq 4 sL3_4) (faStK31_3_0 _ _))) <|
         hk (fun cx => cx.q (ex_ld rfl (cx.u 0 rfl) (cx.rn 0 rfl) rfl Try.isAgg3)) <|
         hk (fun cx => cx.q (ex_fa rfl (cx.rq 3 sL3_3) (faStK31_3_0 _ _))) <|
         hk (fun cx => cx.q (ex_ld rfl (cx.u 0 rfl) (cx.rn 1 rfl) rfl Try.isAgg3)) <|
         hk (fun cx => cx.v (ex_gt (x := .tmp 76) (y := .tmp 78) rfl (cx.u 0 rfl) (cx.u 1 rfl)) rfl (congrArg Value.bool Ffk10.out)) <|
         hn) ?_
        intro a30 w30 f30
        refine wp_cond_true (f30.v 4 rfl rfl rfl) ?_
        refine wp_seq ?_
        have b_g2_121 := f30.k bL3_g2
        have b_g4_122 := f30.k bL3_g4
        have s4_123 := f30.q 4 sL3_4
        have s7_124 := f30.q 7 sL3_7
        refine go_reg [bx g2 31 (tyC b), ⟨g4, 31, (tyC ⟨a.kd, tZ.s, wLo a b, a.hi⟩), some 3, (tyC ⟨a.kd, tZ.s, wLo a b, b.hi⟩)⟩] [] [some (pt g2 8), some (.int .i64 b.hi), some (pt g4 8), none] mo f30.d f30.z f30.b (by kernel_rfl) ⟨b_g2_121, b_g4_122, trivial⟩ (
         hk (fun cx => cx.q (ex_fa rfl (cx.rq 4 s4_123) (faStK31_3_0 _ _))) <|
         hk (fun cx => cx.q (ex_ld rfl (cx.u 0 rfl) (cx.rn 0 rfl) rfl Try.isAgg3)) <|
         hk (fun cx => cx.q (ex_fa rfl (cx.rq 7 s7_124) (faStK31_3_0 _ _))) <|
         hk (fun cx => cx.stC (wn rfl) rfl rfl 1 rfl (cx.u 0 rfl) (cx.u 1 rfl) rfl rfl (by kernel_rfl) rfl rfl (Nat.le_trans f22.b.size q_g4) rfl ⟨neL3_1_3, trivial⟩ trivial) <|
         hn) ?_
        intro a31 w31 f31
        refine wp_seq ?_
        have s2_125 := f31.q 2 (f30.q 2 sL3_2)
        refine go_reg [] [] [oT] mo f31.d f31.z f31.b (by kernel_rfl) trivial (
         hk (fun cx => cx.q (ex_mv rfl (cx.rq 2 s2_125))) <|
         hn) ?_
        intro a32 w32 f32
        refine wp_cond_true (f32.v 0 rfl rfl rfl) ?_
        have b_g4_126 := f32.k f31.rows.2.1
        have s7_127 := f32.q 7 (f31.q 7 s7_124)
        refine go_reg [⟨g4, 31, (tyC ⟨a.kd, tZ.s, wLo a b, b.hi⟩), some 1, (tyC ⟨a.kd, tZ.s, wLo a b, 1048576⟩)⟩] [] [some (pt g4 8), none] mo f32.d f32.z f32.b (by kernel_rfl) ⟨b_g4_126, trivial⟩ (
         hk (fun cx => cx.q (ex_fa rfl (cx.rq 7 s7_127) (faStK31_3_0 _ _))) <|
         hk (fun cx => cx.stC (wn rfl) rfl rfl 0 rfl (cx.u 0 rfl) rfl rfl rfl (by kernel_rfl) rfl rfl (Nat.le_trans f22.b.size q_g4) rfl trivial trivial) <|
         hn) ?_
        intro a33 w33 f33
        have s6_128 := f33.q 6 (f32.q 6 (f31.q 6 (f30.q 6 sL3_6)))
        have s7_129 := f33.q 7 s7_127
        have b_g1_130 := f33.kp (f32.k (f31.kp (f30.k bL3_g1) ⟨.inl rfl, .inr neL3_0_3, trivial⟩)) ⟨.inr neL3_0_3, trivial⟩
        have b_g2_131 := f33.kp (f32.k (f31.kp b_g2_121 ⟨.inl rfl, .inr neL3_1_3, trivial⟩)) ⟨.inr neL3_1_3, trivial⟩
        have b_g3_132 := f33.kp (f32.k (f31.kp (f30.k bL3_g3) ⟨.inl rfl, .inr neL3_2_3, trivial⟩)) ⟨.inr neL3_2_3, trivial⟩
        exact ⟨f33.d, f33.z, f33.b, ⟨s6_128, s7_129, trivial⟩, ⟨b_g1_130, b_g2_131, b_g3_132, (row_eq f33.rows.1 (congrArg (fun l : Int => tyC ⟨a.kd, tZ.s, wLo a b, l⟩) (show 1048576 = (wHi a b : Int) from by unfold wHi; rw [Ffk10.out]; rfl))), trivial⟩⟩
      rintro aL4 wL4 ⟨dL4, zL4, BL4, ⟨sL4_6, sL4_7, -⟩, ⟨bL4_g1, bL4_g2, bL4_g3, bL4_g4, -⟩⟩
      replace sL4_6 : aL4.tmps.getD 6 undef = .pointer (some ⟨g3, 0, none⟩) := sL4_6
      replace sL4_7 : aL4.tmps.getD 7 undef = .pointer (some ⟨g4, 0, none⟩) := sL4_7
      replace bL4_g1 : wL4.heap[g1]? = some (.cells (tyC a) 31 (0, 0)) := bL4_g1
      replace bL4_g2 : wL4.heap[g2]? = some (.cells (tyC b) 31 (0, 0)) := bL4_g2
      replace bL4_g3 : wL4.heap[g3]? = some (.cells (tyC tZ) 31 (0, 0)) := bL4_g3
      replace bL4_g4 : wL4.heap[g4]? = some (.cells (tyC ⟨a.kd, tZ.s, wLo a b, wHi a b⟩) 31 (0, 0)) := bL4_g4
      refine wp_seq ?_
      refine go_reg [bx g4 31 (tyC ⟨a.kd, tZ.s, wLo a b, wHi a b⟩), ⟨g3, 31, (tyC tZ), some 1, (tyC ⟨a.kd, tZ.s, wLo a b, wHi a b⟩)⟩] [] [some (.agg (tyC ⟨a.kd, tZ.s, wLo a b, wHi a b⟩)), none] mo dL4 zL4 BL4 (by kernel_rfl) ⟨bL4_g4, bL4_g3, trivial⟩ (
       hk (fun cx => cx.q (ldTy rfl (cx.rq 7 sL4_7) (cx.rn 0 rfl))) <|
       hk (fun cx => cx.stR (wn rfl) rfl rfl 1 rfl (cx.rq 6 sL4_6) (cx.u 0 rfl) (by kernel_rfl) (Eq.refl 9) (tyC_one _) q_g3 rfl ⟨neL4_2_3.symm, trivial⟩ trivial) <|
       hn) ?_
      intro a34 w34 f34
      refine wp_ret ?_
      have s6_133 := f34.q 6 sL4_6
      try simp only [Exit.inBlock, Exit.then]
      refine bodyPost_ret (res_c (fn := Try.f80) rfl s6_133 (load_row 31 f34.rows.2.1 Try.underlying31 rfl (by kernel_rfl))) f34.d ?_
      exact absurd (show (b.kd == 1) = true by have h1 := yb Ffk3.out; have h2 := Ffk8.out; simp only [bne_eq_false_iff_eq] at h2; rw [← h2, h1]; rfl) (by rw [Ffk7.out]; exact Bool.false_ne_true)
     have Ffk8 := Lib.hid fk8; clear fk8
     have b_g1_134 := f21.k b_g1_73
     have b_g2_135 := f21.k b_g2_74
     have s3_136 := f21.q 3 s3_75
     have s4_137 := f21.q 4 s4_76
     refine go_reg [bx g1 31 (tyC a), bx g2 31 (tyC b)] [] [some (pt g1 0), some (.int .i8 a.kd), some (pt g2 0), some (.int .i8 b.kd), oT, oT] mo f21.d f21.z f21.b (by kernel_rfl) ⟨b_g1_134, b_g2_135, trivial⟩ (
      hk (fun cx => cx.q (ex_fa rfl (cx.rq 3 s3_136) (faStK31_0_0 _ _))) <|
      hk (fun cx => cx.q (ex_ld rfl (cx.u 0 rfl) (cx.rn 0 rfl) rfl Try.isAgg22)) <|
      hk (fun cx => cx.q (ex_fa rfl (cx.rq 4 s4_137) (faStK31_0_0 _ _))) <|
      hk (fun cx => cx.q (ex_ld rfl (cx.u 0 rfl) (cx.rn 1 rfl) rfl Try.isAgg22)) <|
      hk (fun cx => cx.v (ex_ne (x := .tmp 53) (y := .tmp 55) rfl (cx.u 0 rfl) (cx.u 1 rfl)) rfl (congrArg Value.bool Ffk8.out)) <|
      kmu 0 <|
      hn) ?_
     intro a35 w35 f35
     refine wp_cond_true (f35.v 5 rfl rfl rfl) ?_
     refine wp_seq ?_
     have b_g3_138 := f35.k (f21.k (f20.k (f2.k b_g3)))
     have s6_139 := f35.q 6 (f21.q 6 (f20.q 6 (f2.q 6 u_g3)))
     refine go_reg [⟨g3, 31, (tyC tZ), some 1, (tyC allT)⟩] [] [some (.agg (tyC allT)), none] mo f35.d f35.z f35.b (by kernel_rfl) ⟨b_g3_138, trivial⟩ (
      hc (fun _ _ wx cx => cx.c rfl (args0 ) Try.func14 (by decide +kernel) (qscalar_n wx) rfl rfl) <|
      hk (fun cx => cx.stR (wn rfl) rfl rfl 0 rfl (cx.rq 6 s6_139) (cx.u 0 rfl) (by kernel_rfl) (Eq.refl 9) (tyC_one _) q_g3 rfl trivial trivial) <|
      hn) ?_
     intro a36 w36 f36
     refine wp_ret ?_
     have s6_140 := f36.q 6 s6_139
     try simp only [Exit.inBlock, Exit.then]
     refine bodyPost_ret (res_c (fn := Try.f80) rfl s6_140 (load_row 31 f36.rows.1 Try.underlying31 rfl (by kernel_rfl))) f36.d ?_
     have hu : (Ty.unB a || Ty.unB b) = false := by unfold Ty.unB; simp only [Ffk1.out, Ffk2.out, Bool.false_and, Bool.true_and, Bool.and_false, Bool.and_true, Bool.true_or, Bool.or_true, Bool.false_or, Bool.or_false]
     have HE : (.agg (tyC allT) : Value) = .agg (tyC (wT a b)) := by unfold wT arnd; rw [hu, if_neg Bool.false_ne_true, Ffk8.out, if_pos rfl]
     exact ⟨retV HE, f36.b⟩
    have Ffk7 := Lib.hid fk7; clear fk7
    have b_g1_141 := f2.k b_g1
    have b_g2_142 := f2.k b_g2
    have s3_143 := f2.q 3 u_g1
    have s4_144 := f2.q 4 u_g2
    have s2_145 := f2.q 2 (f1.q 2 s2_0)
    refine go_reg [bx g1 31 (tyC a), bx g2 31 (tyC b)] [] [some (pt g1 0), some (.int .i8 a.kd), oT, oT, some (pt g2 0), some (.int .i8 b.kd), oT, oT, oT, oT, oT, oT] mo f2.d f2.z f2.b (by kernel_rfl) ⟨b_g1_141, b_g2_142, trivial⟩ (
     hk (fun cx => cx.q (ex_fa rfl (cx.rq 3 s3_143) (faStK31_0_0 _ _))) <|
     hk (fun cx => cx.q (ex_ld rfl (cx.u 0 rfl) (cx.rn 0 rfl) rfl Try.isAgg22)) <|
     hk (fun cx => cx.v (ex_eq (x := .tmp 20) rfl (cx.u 0 rfl) rfl) rfl (congrArg Value.bool Ffk3.out)) <|
     kmu 0 <|
     hk (fun cx => cx.vy 0 (ex_fa rfl (cx.rq 4 s4_144) (faStK31_0_0 _ _))) <|
     hk (fun cx => cx.vy 1 (ex_ld rfl (cx.u 0 rfl) (cx.rn 1 rfl) rfl Try.isAgg22)) <|
     hk (fun cx => cx.vy 1 (ex_eq (x := .tmp 24) rfl (cx.u 0 rfl) rfl) (congrArg Value.bool Ffk7.out)) <|
     hk (fun cx => cx.q (ex_pt rfl (cx.u 0 rfl) (cx.u 1 rfl))) <|
     kmu 0 <|
     hk (fun cx => cx.vy 0 (ex_mv rfl (cx.rq 2 s2_145))) <|
     hk (fun cx => cx.q (ex_pt rfl (cx.u 0 rfl) (cx.u 1 rfl))) <|
     kmu 0 <|
     hn) ?_
    intro a37 w37 f37
    refine wp_cond_true (f37.v 11 rfl rfl rfl) ?_
    refine wp_seq ?_
    have b_g1_146 := f37.k b_g1_141
    have b_g2_147 := f37.k b_g2_142
    have b_g3_148 := f37.k (f2.k b_g3)
    have s3_149 := f37.q 3 s3_143
    have s4_150 := f37.q 4 s4_144
    have s6_151 := f37.q 6 (f2.q 6 u_g3)
    refine go_reg [bx g1 31 (tyC a), bx g2 31 (tyC b), ⟨g3, 31, (tyC tZ), some 6, (tyC ⟨1, Sc.widen a.s b.s, tZ.lo, tZ.hi⟩)⟩] [] [some (pt g1 1), some (.agg (scC a.s)), some (pt g2 1), some (.agg (scC b.s)), some (.agg (scC (Sc.widen a.s b.s))), some (.agg (tyC ⟨1, Sc.widen a.s b.s, tZ.lo, tZ.hi⟩)), none] mo f37.d f37.z f37.b (by kernel_rfl) ⟨b_g1_146, b_g2_147, b_g3_148, trivial⟩ (
     hk (fun cx => cx.q (ex_fa rfl (cx.rq 3 s3_149) (faStK31_1_0 _ _))) <|
     hk (fun cx => cx.q (exec_loadR 29 _ rfl g1 1 (cx.u 0 rfl) (cx.rn 0 rfl) [.int .u64 a.s.r.u.lo, .int .u64 a.s.r.u.hi, .int .i64 a.s.r.s.lo, .int .i64 a.s.r.s.hi, .int .u64 (V a.s.k.v), .int .u64 (V a.s.k.m)] rfl _ Try.underlying29 rfl (by kernel_rfl))) <|
     hk (fun cx => cx.q (ex_fa rfl (cx.rq 4 s4_150) (faStK31_1_0 _ _))) <|
     hk (fun cx => cx.q (exec_loadR 29 _ rfl g2 1 (cx.u 0 rfl) (cx.rn 1 rfl) [.int .u64 b.s.r.u.lo, .int .u64 b.s.r.u.hi, .int .i64 b.s.r.s.lo, .int .i64 b.s.r.s.hi, .int .u64 (V b.s.k.v), .int .u64 (V b.s.k.m)] rfl _ Try.underlying29 rfl (by kernel_rfl))) <|
     hc (fun _ _ wx cx => cx.c rfl (args2 (cx.u 0 rfl) (cx.u 1 rfl)) Try.func100 (by decide +kernel) (wwiden_n a.s b.s wx HA.out.2.1 HB.out.2.1) rfl rfl) <|
     hk (fun cx => cx.q (exec_build rfl (parts2 rfl (cx.u 0 rfl)) (by kernel_rfl))) <|
     hk (fun cx => cx.stR (wn rfl) rfl rfl 2 rfl (cx.rq 6 s6_151) (cx.u 0 rfl) (by kernel_rfl) (Eq.refl 9) (tyC_one _) q_g3 rfl ⟨(ne_ptr (pairAt f1.ps 0 2 (by decide) rfl rfl) u_g1 u_g3), (ne_ptr (pairAt f1.ps 1 2 (by decide) rfl rfl) u_g2 u_g3), trivial⟩ trivial) <|
     hn) ?_
    intro a38 w38 f38
    refine wp_ret ?_
    have s6_152 := f38.q 6 s6_151
    try simp only [Exit.inBlock, Exit.then]
    refine bodyPost_ret (res_c (fn := Try.f80) rfl s6_152 (load_row 31 f38.rows.2.2.1 Try.underlying31 rfl (by kernel_rfl))) f38.d ?_
    have hu : (Ty.unB a || Ty.unB b) = false := by unfold Ty.unB; simp only [Ffk1.out, Ffk2.out, Bool.false_and, Bool.true_and, Bool.and_false, Bool.and_true, Bool.true_or, Bool.or_true, Bool.false_or, Bool.or_false]
    have hn : (a.kd != b.kd) = false := by rw [yb Ffk3.out, yb Ffk7.out]; rfl
    have HE : (.agg (tyC ⟨1, Sc.widen a.s b.s, tZ.lo, tZ.hi⟩) : Value) = .agg (tyC (wT a b)) := by unfold wT arnd; rw [hu, if_neg Bool.false_ne_true, hn, if_neg Bool.false_ne_true, Ffk3.out, if_pos rfl]; rfl
    exact ⟨retV HE, f38.b⟩
   have Ffk2 := Lib.hid fk2; clear fk2
   refine go_reg [bx g1 31 (tyC a), bx g2 31 (tyC b)] [] [some (pt g1 0), some (.int .i8 a.kd), oF, oF, some (pt g2 0), some (.int .i8 b.kd), oT, oT, oT] mo f1.d f1.z f1.b (by kernel_rfl) ⟨b_g1, b_g2, trivial⟩ (
    hk (fun cx => cx.q (ex_fa rfl (cx.rq 3 u_g1) (faStK31_0_0 _ _))) <|
    hk (fun cx => cx.q (ex_ld rfl (cx.u 0 rfl) (cx.rn 0 rfl) rfl Try.isAgg22)) <|
    hk (fun cx => cx.v (ex_eq (x := .tmp 10) rfl (cx.u 0 rfl) rfl) rfl (congrArg Value.bool Ffk1.out)) <|
    kmu 0 <|
    hk (fun cx => cx.vy 0 (ex_fa rfl (cx.rq 4 u_g2) (faStK31_0_0 _ _))) <|
    hk (fun cx => cx.vy 1 (ex_ld rfl (cx.u 0 rfl) (cx.rn 1 rfl) rfl Try.isAgg22)) <|
    hk (fun cx => cx.vy 1 (ex_eq (x := .tmp 14) rfl (cx.u 0 rfl) rfl) (congrArg Value.bool Ffk2.out)) <|
    hk (fun cx => cx.q (ex_pf rfl (cx.u 0 rfl) (cx.u 1 rfl))) <|
    kmu 0 <|
    hn) ?_
   intro a39 w39 f39
   refine wp_cond_true (f39.v 8 rfl rfl rfl) ?_
   refine wp_seq ?_
   have b_g3_153 := f39.k b_g3
   have s6_154 := f39.q 6 u_g3
   refine go_reg [⟨g3, 31, (tyC tZ), some 1, (tyC tZ)⟩] [] [some (.agg (tyC tZ)), none] mo f39.d f39.z f39.b (by kernel_rfl) ⟨b_g3_153, trivial⟩ (
    hk (fun cx => cx.q (ex_z9 rfl)) <|
    hk (fun cx => cx.stR (wn rfl) rfl rfl 0 rfl (cx.rq 6 s6_154) (cx.u 0 rfl) (by kernel_rfl) (Eq.refl 9) (tyC_one _) q_g3 rfl trivial trivial) <|
    hn) ?_
   intro a40 w40 f40
   refine wp_ret ?_
   have s6_155 := f40.q 6 s6_154
   try simp only [Exit.inBlock, Exit.then]
   refine bodyPost_ret (res_c (fn := Try.f80) rfl s6_155 (load_row 31 f40.rows.1 Try.underlying31 rfl (by kernel_rfl))) f40.d ?_
   have hu : (Ty.unB a || Ty.unB b) = true := by unfold Ty.unB; simp only [Ffk1.out, Ffk2.out, Bool.false_and, Bool.true_and, Bool.and_false, Bool.and_true, Bool.true_or, Bool.or_true, Bool.false_or, Bool.or_false]
   have HE : (.agg (tyC tZ) : Value) = .agg (tyC (wT a b)) := by unfold wT arnd; rw [hu, if_pos rfl]
   exact ⟨retV HE, f40.b⟩
  have Ffk1 := Lib.hid fk1; clear fk1
  refine go_reg [bx g1 31 (tyC a)] [] [some (pt g1 0), some (.int .i8 a.kd), oT, oT, oU, oU, oU, oT, oT] mo f1.d f1.z f1.b (by kernel_rfl) ⟨b_g1, trivial⟩ (
   hk (fun cx => cx.q (ex_fa rfl (cx.rq 3 u_g1) (faStK31_0_0 _ _))) <|
   hk (fun cx => cx.q (ex_ld rfl (cx.u 0 rfl) (cx.rn 0 rfl) rfl Try.isAgg22)) <|
   hk (fun cx => cx.v (ex_eq (x := .tmp 10) rfl (cx.u 0 rfl) rfl) rfl (congrArg Value.bool Ffk1.out)) <|
   kmu 0 <|
   kno 0 <|
   kno 1 <|
   kno 1 <|
   hk (fun cx => cx.q (ex_pt rfl (cx.u 0 rfl) rfl)) <|
   kmu 0 <|
   hn) ?_
  intro a41 w41 f41
  refine wp_cond_true (f41.v 8 rfl rfl rfl) ?_
  refine wp_seq ?_
  have b_g3_156 := f41.k b_g3
  have s6_157 := f41.q 6 u_g3
  refine go_reg [⟨g3, 31, (tyC tZ), some 1, (tyC tZ)⟩] [] [some (.agg (tyC tZ)), none] mo f41.d f41.z f41.b (by kernel_rfl) ⟨b_g3_156, trivial⟩ (
   hk (fun cx => cx.q (ex_z9 rfl)) <|
   hk (fun cx => cx.stR (wn rfl) rfl rfl 0 rfl (cx.rq 6 s6_157) (cx.u 0 rfl) (by kernel_rfl) (Eq.refl 9) (tyC_one _) q_g3 rfl trivial trivial) <|
   hn) ?_
  intro a42 w42 f42
  refine wp_ret ?_
  have s6_158 := f42.q 6 s6_157
  try simp only [Exit.inBlock, Exit.then]
  refine bodyPost_ret (res_c (fn := Try.f80) rfl s6_158 (load_row 31 f42.rows.1 Try.underlying31 rfl (by kernel_rfl))) f42.d ?_
  have hu : (Ty.unB a || Ty.unB b) = true := by unfold Ty.unB; simp only [Ffk1.out, Bool.false_and, Bool.true_and, Bool.and_false, Bool.and_true, Bool.true_or, Bool.or_true, Bool.false_or, Bool.or_false]
  have HE : (.agg (tyC tZ) : Value) = .agg (tyC (wT a b)) := by unfold wT arnd; rw [hu, if_pos rfl]
  exact ⟨retV HE, f42.b⟩
def newS (f : Ty → Ty → Ty) (A C : St) (n : Nat) : St := fun j => if j < n then f (A j) (C j) else zS j
theorem new_0 (f : Ty → Ty → Ty) (A C : St) : newS f A C 0 = zS := by funext j; unfold newS; rw [if_neg (by omega)]
theorem new_step (f : Ty → Ty → Ty) (A C : St) (n : Nat) : upS (newS f A C n) n (f (A n) (C n)) = newS f A C (n + 1) := by
  funext j
  unfold upS newS
  by_cases e : j = n
  · subst e; rw [if_pos rfl, if_pos (by omega)]
  · rw [if_neg e]
    by_cases h : j < n
    · rw [if_pos h, if_pos (by omega)]
    · rw [if_neg h, if_neg (by omega)]
theorem new_end {f : Ty → Ty → Ty} {A C : St} (ha : okS A = true) (hc : okS C = true) : ∀ i, i < 19 → newS f A C 19 i = bothR f A C i := by
  intro i hi
  unfold newS bothR bothS
  rw [if_pos hi, ha, hc]; rfl
set_option maxHeartbeats 4000000 in
theorem qbothf_n (a b : St) (W : World) (ha : OkS a) (hb : OkS b) : Calls Try.prog 52 #[.agg (stC a), .agg (stC b), .bool false] W fun e w' => e = .returned (.tuple #[.agg (stC (bothR jT a b)), .int .i64 (bothE a b)]) ∧ Below W.heap.size W w' := by
  have HA := Lib.hid ha
  have HB := Lib.hid hb
  clear ha hb
  refine calls_abs Try.func52 rfl (Nat.le_of_ble_eq_true rfl) ?_
  intro a0 d0 z0 h0
  replace z0 : a0.tmps.size = 55 := z0
  have s0_0 : a0.tmps.getD 0 undef = .agg (stC a) := h0 0 (Nat.le_of_ble_eq_true rfl)
  have s1_0 : a0.tmps.getD 1 undef = .agg (stC b) := h0 1 (Nat.le_of_ble_eq_true rfl)
  have s2_0 : a0.tmps.getD 2 undef = .bool false := h0 2 (Nat.le_of_ble_eq_true rfl)
  refine wp_seq ?_
  refine go_reg [] [⟨0, 3, 35, (stC a), none, #[]⟩, ⟨1, 4, 35, (stC b), none, #[]⟩, ⟨2, 6, 35, (stC zS), none, #[]⟩] [none, none, none, some (.int .i64 0)] mo d0 z0 (Below.refl _ _) (by kernel_rfl) trivial (
   hk (fun cx => cx.al (wn rfl) 0 rfl (ex_box rfl (cx.rq 0 s0_0) rfl) rfl rfl rfl rfl rfl trivial) <|
   hk (fun cx => cx.al (wn rfl) 1 rfl (ex_box rfl (cx.rq 1 s1_0) rfl) rfl rfl rfl rfl rfl trivial) <|
   hk (fun cx => cx.al (wn rfl) 2 rfl (al_st rfl) rfl rfl rfl rfl rfl trivial) <|
   hk (fun cx => cx.q (ex_as rfl rfl)) <|
   hn) ?_
  intro a1 w1 f1
  obtain ⟨g1, u_g1, q_g1, b_g1⟩ := f1.al.1
  obtain ⟨g2, u_g2, q_g2, b_g2⟩ := f1.al.2.1
  obtain ⟨g3, u_g3, q_g3, b_g3⟩ := f1.al.2.2.1
  refine wp_seq ?_
  refine wp_seq ?_
  cases fk1 : okS a
  case false =>
   have Ffk1 := Lib.hid fk1; clear fk1
   refine go_reg [bx g1 35 (stC a)] [] [some (.agg (stC a)), oF, oT, oT, oU, oU, oU, oT] mo f1.d f1.z f1.b (by kernel_rfl) ⟨b_g1, trivial⟩ (
    hk (fun cx => cx.q (ldSt rfl (cx.rq 3 u_g1) (cx.rn 0 rfl))) <|
    hc (fun _ _ wx cx => cx.c rfl (args1 (cx.u 0 rfl)) Try.func16 (by decide +kernel) (qmay_n a wx) rfl (congrArg Value.bool Ffk1.out)) <|
    hk (fun cx => cx.q (ex_not (x := .tmp 12) rfl (cx.u 0 rfl))) <|
    kmu 0 <|
    kno 0 <|
    kno 1 <|
    kno 1 <|
    hk (fun cx => cx.q (ex_pt rfl (cx.u 0 rfl) rfl)) <|
    hn) ?_
   intro a2 w2 f2
   refine wp_cond_true (f2.v 7 rfl rfl rfl) ?_
   refine wp_seq ?_
   have b_g3_1 := f2.k b_g3
   have s6_2 := f2.q 6 u_g3
   refine go_reg [⟨g3, 35, (stC zS), some 1, (stC zS)⟩] [] [some (.agg (stC zS)), none, some (.int .i64 2)] mo f2.d f2.z f2.b (by kernel_rfl) ⟨b_g3_1, trivial⟩ (
    hk (fun cx => cx.q (ex_zst rfl)) <|
    hk (fun cx => cx.stR (wn rfl) rfl rfl 0 rfl (cx.rq 6 s6_2) (cx.u 0 rfl) (st_info _) ((stC_size _).trans (stC_size _).symm) (stC_one _) q_g3 rfl trivial trivial) <|
    hk (fun cx => cx.q (ex_as rfl rfl)) <|
    hn) ?_
   intro a3 w3 f3
   refine wp_ret ?_
   have s6_3 := f3.q 6 s6_2
   try simp only [Exit.inBlock, Exit.then]
   refine bodyPost_ret (res_ct (fn := Try.f52) rfl s6_3 (load_row 35 f3.rows.1 Try.underlying35 rfl (st_info _)) (f3.v 2 rfl rfl rfl)) f3.d ?_
   have HE : (.tuple #[.agg (stC zS), .int .i64 2] : Value) = .tuple #[.agg (stC (bothR jT a b)), .int .i64 (bothE a b)] := by unfold bothR bothE; simp only [Ffk1.out, Bool.false_and, Bool.and_false, if_false, Bool.false_eq_true]
   exact ⟨retV HE, f3.b⟩
  have Ffk1 := Lib.hid fk1; clear fk1
  cases fk2 : okS b
  case false =>
   have Ffk2 := Lib.hid fk2; clear fk2
   refine go_reg [bx g1 35 (stC a), bx g2 35 (stC b)] [] [some (.agg (stC a)), oT, oF, oF, some (.agg (stC b)), oF, oT, oT] mo f1.d f1.z f1.b (by kernel_rfl) ⟨b_g1, b_g2, trivial⟩ (
    hk (fun cx => cx.q (ldSt rfl (cx.rq 3 u_g1) (cx.rn 0 rfl))) <|
    hc (fun _ _ wx cx => cx.c rfl (args1 (cx.u 0 rfl)) Try.func16 (by decide +kernel) (qmay_n a wx) rfl (congrArg Value.bool Ffk1.out)) <|
    hk (fun cx => cx.q (ex_not (x := .tmp 12) rfl (cx.u 0 rfl))) <|
    kmu 0 <|
    hk (fun cx => cx.vy 0 (ldSt rfl (cx.rq 4 u_g2) (cx.rn 1 rfl))) <|
    hc (fun _ _ wx cx => cx.call (cx.wy rfl rfl rfl rfl (cx.u 1 rfl)) rfl rfl (args1 (cx.u 0 rfl)) Try.func16 (by decide +kernel) rfl (qmay_n b wx) rfl rfl (congrArg Value.bool Ffk2.out) rfl) <|
    hk (fun cx => cx.vy 1 (ex_not (x := .tmp 16) rfl (cx.u 0 rfl))) <|
    hk (fun cx => cx.q (ex_pf rfl (cx.u 0 rfl) (cx.u 1 rfl))) <|
    hn) ?_
   intro a4 w4 f4
   refine wp_cond_true (f4.v 7 rfl rfl rfl) ?_
   refine wp_seq ?_
   have b_g3_4 := f4.k b_g3
   have s6_5 := f4.q 6 u_g3
   refine go_reg [⟨g3, 35, (stC zS), some 1, (stC zS)⟩] [] [some (.agg (stC zS)), none, some (.int .i64 2)] mo f4.d f4.z f4.b (by kernel_rfl) ⟨b_g3_4, trivial⟩ (
    hk (fun cx => cx.q (ex_zst rfl)) <|
    hk (fun cx => cx.stR (wn rfl) rfl rfl 0 rfl (cx.rq 6 s6_5) (cx.u 0 rfl) (st_info _) ((stC_size _).trans (stC_size _).symm) (stC_one _) q_g3 rfl trivial trivial) <|
    hk (fun cx => cx.q (ex_as rfl rfl)) <|
    hn) ?_
   intro a5 w5 f5
   refine wp_ret ?_
   have s6_6 := f5.q 6 s6_5
   try simp only [Exit.inBlock, Exit.then]
   refine bodyPost_ret (res_ct (fn := Try.f52) rfl s6_6 (load_row 35 f5.rows.1 Try.underlying35 rfl (st_info _)) (f5.v 2 rfl rfl rfl)) f5.d ?_
   have HE : (.tuple #[.agg (stC zS), .int .i64 2] : Value) = .tuple #[.agg (stC (bothR jT a b)), .int .i64 (bothE a b)] := by unfold bothR bothE; simp only [Ffk1.out, Ffk2.out, Bool.false_and, Bool.and_false, if_false, Bool.false_eq_true]
   exact ⟨retV HE, f5.b⟩
  have Ffk2 := Lib.hid fk2; clear fk2
  refine go_reg [bx g1 35 (stC a), bx g2 35 (stC b)] [] [some (.agg (stC a)), oT, oF, oF, some (.agg (stC b)), oT, oF, oF] mo f1.d f1.z f1.b (by kernel_rfl) ⟨b_g1, b_g2, trivial⟩ (
   hk (fun cx => cx.q (ldSt rfl (cx.rq 3 u_g1) (cx.rn 0 rfl))) <|
   hc (fun _ _ wx cx => cx.c rfl (args1 (cx.u 0 rfl)) Try.func16 (by decide +kernel) (qmay_n a wx) rfl (congrArg Value.bool Ffk1.out)) <|
   hk (fun cx => cx.q (ex_not (x := .tmp 12) rfl (cx.u 0 rfl))) <|
   kmu 0 <|
   hk (fun cx => cx.vy 0 (ldSt rfl (cx.rq 4 u_g2) (cx.rn 1 rfl))) <|
   hc (fun _ _ wx cx => cx.call (cx.wy rfl rfl rfl rfl (cx.u 1 rfl)) rfl rfl (args1 (cx.u 0 rfl)) Try.func16 (by decide +kernel) rfl (qmay_n b wx) rfl rfl (congrArg Value.bool Ffk2.out) rfl) <|
   hk (fun cx => cx.vy 1 (ex_not (x := .tmp 16) rfl (cx.u 0 rfl))) <|
   hk (fun cx => cx.q (ex_pf rfl (cx.u 0 rfl) (cx.u 1 rfl))) <|
   hn) ?_
  intro a6 w6 f6
  refine wp_cond_false (f6.v 7 rfl rfl rfl) ?_
  refine wp_skip ?_
  refine wp_seq ?_
  refine go_reg [] [⟨0, 8, 35, (stC zS), none, #[]⟩] [none] mo f6.d f6.z f6.b (by kernel_rfl) trivial (
   hk (fun cx => cx.al (wn rfl) 0 rfl (al_st rfl) rfl rfl rfl rfl rfl trivial) <|
   hn) ?_
  intro a7 w7 f7
  obtain ⟨g4, u_g4, q_g4, b_g4⟩ := f7.al.1
  refine wp_seq ?_
  refine wp_seq ?_
  refine go_reg [] [] [some (.int .i64 0)] mo f7.d f7.z f7.b (by kernel_rfl) trivial (
   hk (fun cx => cx.q (ex_as rfl rfl)) <|
   hn) ?_
  intro a8 w8 f8
  refine wp_block ?_
  have neL1_0_1 := (ne_ptr (pairAt f1.ps 0 1 (by decide) rfl rfl) u_g1 u_g2)
  have neL1_0_2 := (ne_ptr (pairAt f1.ps 0 2 (by decide) rfl rfl) u_g1 u_g3)
  have neL1_0_3 := (ne_row (f6.k b_g1) q_g4)
  have neL1_1_2 := (ne_ptr (pairAt f1.ps 1 2 (by decide) rfl rfl) u_g2 u_g3)
  have neL1_1_3 := (ne_row (f6.k b_g2) q_g4)
  have neL1_2_3 := (ne_row (f6.k b_g3) q_g4)
  have s2_7 := f8.q 2 (f7.q 2 (f6.q 2 (f1.q 2 s2_0)))
  have s3_8 := f8.q 3 (f7.q 3 (f6.q 3 u_g1))
  have s4_9 := f8.q 4 (f7.q 4 (f6.q 4 u_g2))
  have s6_10 := f8.q 6 (f7.q 6 (f6.q 6 u_g3))
  have s7_11 := f8.q 7 (f7.q 7 (f6.q 7 (f1.v 3 rfl rfl rfl)))
  have s8_12 := f8.q 8 u_g4
  have b_g1_13 := f8.k (f7.k (f6.k b_g1))
  have b_g2_14 := f8.k (f7.k (f6.k b_g2))
  have b_g3_15 := f8.k (f7.k (f6.k b_g3))
  have b_g4_16 := f8.k b_g4
  refine wp_count 11 (fun k1 aI wI => True ∧ Mid 55 W [(2, .bool false), (3, .pointer (some ⟨g1, 0, none⟩)), (4, .pointer (some ⟨g2, 0, none⟩)), (6, .pointer (some ⟨g3, 0, none⟩)), (7, .int .i64 0), (8, .pointer (some ⟨g4, 0, none⟩)), (9, .int .i64 (k1 : Int))] [(g1, 35, (stC a)), (g2, 35, (stC b)), (g3, 35, (stC zS)), (g4, 35, (stC (newS jT a b k1)))] aI wI) ⟨trivial, f8.d, f8.z, f8.b, ⟨s2_7, s3_8, s4_9, s6_10, s7_11, s8_12, (f8.v 0 rfl rfl rfl), trivial⟩, ⟨b_g1_13, b_g2_14, b_g3_15, (row_eq b_g4_16 (congrArg stC (new_0 _ _ _).symm)), trivial⟩⟩ ?_
  intro k1 aL1 wL1 hlek1 hI1
  obtain ⟨hp1, dL1, zL1, BL1, ⟨sL1_2, sL1_3, sL1_4, sL1_6, sL1_7, sL1_8, sL1_9, -⟩, ⟨bL1_g1, bL1_g2, bL1_g3, bL1_g4, -⟩⟩ := hI1
  replace sL1_2 : aL1.tmps.getD 2 undef = .bool false := sL1_2
  replace sL1_3 : aL1.tmps.getD 3 undef = .pointer (some ⟨g1, 0, none⟩) := sL1_3
  replace sL1_4 : aL1.tmps.getD 4 undef = .pointer (some ⟨g2, 0, none⟩) := sL1_4
  replace sL1_6 : aL1.tmps.getD 6 undef = .pointer (some ⟨g3, 0, none⟩) := sL1_6
  replace sL1_7 : aL1.tmps.getD 7 undef = .int .i64 0 := sL1_7
  replace sL1_8 : aL1.tmps.getD 8 undef = .pointer (some ⟨g4, 0, none⟩) := sL1_8
  replace sL1_9 : aL1.tmps.getD 9 undef = .int .i64 (k1 : Int) := sL1_9
  replace bL1_g1 : wL1.heap[g1]? = some (.cells (stC a) 35 (0, 0)) := bL1_g1
  replace bL1_g2 : wL1.heap[g2]? = some (.cells (stC b) 35 (0, 0)) := bL1_g2
  replace bL1_g3 : wL1.heap[g3]? = some (.cells (stC zS) 35 (0, 0)) := bL1_g3
  replace bL1_g4 : wL1.heap[g4]? = some (.cells (stC (newS jT a b k1)) 35 (0, 0)) := bL1_g4
  refine wp_seq ?_
  refine wp_seq ?_
  cases fk3 : decide ((k1 : Int) < 11)
  case true =>
   have Ffk3 := Lib.hid fk3; clear fk3
   have hlt1 : k1 < 11 := by have := Ffk3.out; simp only [decide_eq_true_eq] at this; omega
   refine go_reg [] [] [some (.int .i64 (k1 : Int)), oT] mo dL1 zL1 BL1 (by kernel_rfl) trivial (
    hk (fun cx => cx.q (ex_mv rfl (cx.rq 9 sL1_9))) <|
    hk (fun cx => cx.v (ex_lt (x := .tmp 20) rfl (cx.u 0 rfl) rfl) rfl (congrArg Value.bool Ffk3.out)) <|
    hn) ?_
   intro a9 w9 f9
   refine wp_cond_true (f9.v 1 rfl rfl rfl) ?_
   refine wp_skip ?_
   refine wp_seq ?_
   refine wp_block ?_
   have b_g1_17 := f9.k bL1_g1
   have b_g2_18 := f9.k bL1_g2
   have b_g4_19 := f9.k bL1_g4
   have s9_20 := f9.q 9 sL1_9
   have s3_21 := f9.q 3 sL1_3
   have s4_22 := f9.q 4 sL1_4
   have s2_23 := f9.q 2 sL1_2
   have s8_24 := f9.q 8 sL1_8
   refine go_reg [bx g1 35 (stC a), bx g2 35 (stC b), ⟨g4, 35, (stC (newS jT a b k1)), some 13, (stC (upS (newS jT a b k1) k1 (jT (a k1) (b k1))))⟩] [] [some (.int .i64 (k1 : Int)), some (.int .i64 (k1 : Int)), some (pt g1 0), some (pt g1 (9 * k1)), some (.agg (tyC (a k1))), some (.int .i64 (k1 : Int)), some (pt g2 0), some (pt g2 (9 * k1)), some (.agg (tyC (b k1))), oF, some (.agg (tyC (jT (a k1) (b k1)))), some (pt g4 0), some (pt g4 (9 * k1)), none] mo f9.d f9.z f9.b (by kernel_rfl) ⟨b_g1_17, b_g2_18, b_g4_19, trivial⟩ (
    hk (fun cx => cx.q (ex_mv rfl (cx.rq 9 s9_20))) <|
    hk (fun cx => cx.q (ex_mv rfl (cx.rq 9 s9_20))) <|
    hk (fun cx => cx.q (ex_fa rfl (cx.rq 3 s3_21) (faStK35_0_0 _ _))) <|
    hk (fun cx => cx.v (ex_ia (n := 11) (sz := 9) rfl (cx.u 0 rfl) (cx.u 1 rfl) Try.underlying32 (by kernel_rfl) (by omega) (by omega) (by omega)) rfl rfl) <|
    hk (fun cx => cx.v (ldEl (by omega) rfl (cx.u 0 rfl) (cx.rn 0 rfl)) rfl rfl) <|
    hk (fun cx => cx.q (ex_mv rfl (cx.rq 9 s9_20))) <|
    hk (fun cx => cx.q (ex_fa rfl (cx.rq 4 s4_22) (faStK35_0_0 _ _))) <|
    hk (fun cx => cx.v (ex_ia (n := 11) (sz := 9) rfl (cx.u 0 rfl) (cx.u 1 rfl) Try.underlying32 (by kernel_rfl) (by omega) (by omega) (by omega)) rfl rfl) <|
    hk (fun cx => cx.v (ldEl (by omega) rfl (cx.u 0 rfl) (cx.rn 1 rfl)) rfl rfl) <|
    hk (fun cx => cx.q (ex_mv rfl (cx.rq 2 s2_23))) <|
    hc (fun _ _ wx cx => cx.c rfl (args3 (cx.u 0 rfl) (cx.u 1 rfl) (cx.u 2 rfl)) Try.func80 (by decide +kernel) (qjoinf_n (a k1) (b k1) wx (HA.out _ (by omega)) (HB.out _ (by omega))) rfl rfl) <|
    hk (fun cx => cx.q (ex_fa rfl (cx.rq 8 s8_24) (faStK35_0_0 _ _))) <|
    hk (fun cx => cx.v (ex_ia (n := 11) (sz := 9) rfl (cx.u 0 rfl) (cx.u 1 rfl) Try.underlying32 (by kernel_rfl) (by omega) (by omega) (by omega)) rfl rfl) <|
    hk (fun cx => cx.stP (wn rfl) rfl rfl 2 rfl (cx.u 0 rfl) (cx.u 1 rfl) (tyC_one _) (by kernel_rfl) (by rw [stC_size]; show _ + 9 ≤ _; omega) (stC_set _ (by omega) _) (Nat.le_trans f6.b.size q_g4) rfl ⟨neL1_0_3, neL1_1_3, trivial⟩ trivial) <|
    hn) ?_
   intro a10 w10 f10
   have s9_25 := f10.q 9 s9_20
   refine go_reg [] [] [some (.int .i64 (k1 : Int)), some (.int .i64 ((k1 + 1 : Nat) : Int)), some (.int .i64 ((k1 + 1 : Nat) : Int))] mo f10.d f10.z f10.b (by kernel_rfl) trivial (
    hk (fun cx => cx.q (ex_mv rfl (cx.un 2 rfl rfl (by kernel_rfl) s9_25))) <|
    hk (fun cx => cx.v (ex_add (x := .tmp 22) rfl (cx.u 0 rfl) rfl) rfl (congrArg (Value.int .i64) (wrapk hlt1 (by decide)))) <|
    kmu 0 <|
    hn) ?_
   intro a11 w11 f11
   have s2_26 := f11.q 2 (f10.q 2 s2_23)
   have s3_27 := f11.q 3 (f10.q 3 s3_21)
   have s4_28 := f11.q 4 (f10.q 4 s4_22)
   have s6_29 := f11.q 6 (f10.q 6 (f9.q 6 sL1_6))
   have s7_30 := f11.q 7 (f10.q 7 (f9.q 7 sL1_7))
   have s8_31 := f11.q 8 (f10.q 8 s8_24)
   have b_g1_32 := f11.k (f10.kp b_g1_17 ⟨.inl rfl, .inl rfl, .inr neL1_0_3, trivial⟩)
   have b_g2_33 := f11.k (f10.kp b_g2_18 ⟨.inl rfl, .inl rfl, .inr neL1_1_3, trivial⟩)
   have b_g3_34 := f11.k (f10.kp (f9.k bL1_g3) ⟨.inl rfl, .inl rfl, .inr neL1_2_3, trivial⟩)
   have b_g4_35 := f11.k f10.rows.2.2.1
   exact ⟨hlt1, trivial, f11.d, f11.z, f11.b, ⟨s2_26, s3_27, s4_28, s6_29, s7_30, s8_31, (f11.v 2 rfl rfl rfl), trivial⟩, ⟨b_g1_32, b_g2_33, b_g3_34, (row_eq b_g4_35 (congrArg stC (new_step _ _ _ _))), trivial⟩⟩
  have Ffk3 := Lib.hid fk3; clear fk3
  have hge1 : k1 = 11 := by have := Ffk3.out; simp only [decide_eq_false_iff_not] at this; omega
  refine go_reg [] [] [some (.int .i64 (k1 : Int)), oF] mo dL1 zL1 BL1 (by kernel_rfl) trivial (
   hk (fun cx => cx.q (ex_mv rfl (cx.rq 9 sL1_9))) <|
   hk (fun cx => cx.v (ex_lt (x := .tmp 20) rfl (cx.u 0 rfl) rfl) rfl (congrArg Value.bool Ffk3.out)) <|
   hn) ?_
  intro a12 w12 f12
  refine wp_cond_false (f12.v 1 rfl rfl rfl) ?_
  refine wp_exit ?_
  simp only [Exit.then, Exit.inBlock, if_true]
  refine wp_seq ?_
  refine wp_seq ?_
  refine go_reg [] [] [some (.int .i64 0)] mo f12.d f12.z f12.b (by kernel_rfl) trivial (
   hk (fun cx => cx.q (ex_as rfl rfl)) <|
   hn) ?_
  intro a13 w13 f13
  refine wp_block ?_
  have neL2_0_1 := neL1_0_1
  have neL2_0_2 := neL1_0_2
  have neL2_0_3 := neL1_0_3
  have neL2_1_2 := neL1_1_2
  have neL2_1_3 := neL1_1_3
  have neL2_2_3 := neL1_2_3
  have s2_36 := f13.q 2 (f12.q 2 sL1_2)
  have s3_37 := f13.q 3 (f12.q 3 sL1_3)
  have s4_38 := f13.q 4 (f12.q 4 sL1_4)
  have s6_39 := f13.q 6 (f12.q 6 sL1_6)
  have s7_40 := f13.q 7 (f12.q 7 sL1_7)
  have s8_41 := f13.q 8 (f12.q 8 sL1_8)
  have b_g1_42 := f13.k (f12.k bL1_g1)
  have b_g2_43 := f13.k (f12.k bL1_g2)
  have b_g3_44 := f13.k (f12.k bL1_g3)
  have b_g4_45 := f13.k (f12.k bL1_g4)
  refine wp_count 8 (fun k2 aI wI => True ∧ Mid 55 W [(2, .bool false), (3, .pointer (some ⟨g1, 0, none⟩)), (4, .pointer (some ⟨g2, 0, none⟩)), (6, .pointer (some ⟨g3, 0, none⟩)), (7, .int .i64 0), (8, .pointer (some ⟨g4, 0, none⟩)), (10, .int .i64 (k2 : Int))] [(g1, 35, (stC a)), (g2, 35, (stC b)), (g3, 35, (stC zS)), (g4, 35, (stC (newS jT a b (11 + k2))))] aI wI) ⟨trivial, f13.d, f13.z, f13.b, ⟨s2_36, s3_37, s4_38, s6_39, s7_40, s8_41, (f13.v 0 rfl rfl rfl), trivial⟩, ⟨b_g1_42, b_g2_43, b_g3_44, (row_eq b_g4_45 (congrArg (fun n => stC (newS jT a b n)) (show k1 = 11 + 0 by omega))), trivial⟩⟩ ?_
  intro k2 aL2 wL2 hlek2 hI2
  obtain ⟨hp2, dL2, zL2, BL2, ⟨sL2_2, sL2_3, sL2_4, sL2_6, sL2_7, sL2_8, sL2_10, -⟩, ⟨bL2_g1, bL2_g2, bL2_g3, bL2_g4, -⟩⟩ := hI2
  replace sL2_2 : aL2.tmps.getD 2 undef = .bool false := sL2_2
  replace sL2_3 : aL2.tmps.getD 3 undef = .pointer (some ⟨g1, 0, none⟩) := sL2_3
  replace sL2_4 : aL2.tmps.getD 4 undef = .pointer (some ⟨g2, 0, none⟩) := sL2_4
  replace sL2_6 : aL2.tmps.getD 6 undef = .pointer (some ⟨g3, 0, none⟩) := sL2_6
  replace sL2_7 : aL2.tmps.getD 7 undef = .int .i64 0 := sL2_7
  replace sL2_8 : aL2.tmps.getD 8 undef = .pointer (some ⟨g4, 0, none⟩) := sL2_8
  replace sL2_10 : aL2.tmps.getD 10 undef = .int .i64 (k2 : Int) := sL2_10
  replace bL2_g1 : wL2.heap[g1]? = some (.cells (stC a) 35 (0, 0)) := bL2_g1
  replace bL2_g2 : wL2.heap[g2]? = some (.cells (stC b) 35 (0, 0)) := bL2_g2
  replace bL2_g3 : wL2.heap[g3]? = some (.cells (stC zS) 35 (0, 0)) := bL2_g3
  replace bL2_g4 : wL2.heap[g4]? = some (.cells (stC (newS jT a b (11 + k2))) 35 (0, 0)) := bL2_g4
  refine wp_seq ?_
  refine wp_seq ?_
  cases fk4 : decide ((k2 : Int) < 8)
  case true =>
   have Ffk4 := Lib.hid fk4; clear fk4
   have hlt2 : k2 < 8 := by have := Ffk4.out; simp only [decide_eq_true_eq] at this; omega
   refine go_reg [] [] [some (.int .i64 (k2 : Int)), oT] mo dL2 zL2 BL2 (by kernel_rfl) trivial (
    hk (fun cx => cx.q (ex_mv rfl (cx.rq 10 sL2_10))) <|
    hk (fun cx => cx.v (ex_lt (x := .tmp 37) rfl (cx.u 0 rfl) rfl) rfl (congrArg Value.bool Ffk4.out)) <|
    hn) ?_
   intro a14 w14 f14
   refine wp_cond_true (f14.v 1 rfl rfl rfl) ?_
   refine wp_skip ?_
   refine wp_seq ?_
   refine wp_block ?_
   have b_g1_46 := f14.k bL2_g1
   have b_g2_47 := f14.k bL2_g2
   have b_g4_48 := f14.k bL2_g4
   have s10_49 := f14.q 10 sL2_10
   have s3_50 := f14.q 3 sL2_3
   have s4_51 := f14.q 4 sL2_4
   have s2_52 := f14.q 2 sL2_2
   have s8_53 := f14.q 8 sL2_8
   refine go_reg [bx g1 35 (stC a), bx g2 35 (stC b), ⟨g4, 35, (stC (newS jT a b (11 + k2))), some 13, (stC (upS (newS jT a b (11 + k2)) (11 + k2) (jT (a (11 + k2)) (b (11 + k2)))))⟩] [] [some (.int .i64 (k2 : Int)), some (.int .i64 (k2 : Int)), some (pt g1 99), some (pt g1 (9 * (11 + k2))), some (.agg (tyC (a (11 + k2)))), some (.int .i64 (k2 : Int)), some (pt g2 99), some (pt g2 (9 * (11 + k2))), some (.agg (tyC (b (11 + k2)))), oF, some (.agg (tyC (jT (a (11 + k2)) (b (11 + k2))))), some (pt g4 99), some (pt g4 (9 * (11 + k2))), none] mo f14.d f14.z f14.b (by kernel_rfl) ⟨b_g1_46, b_g2_47, b_g4_48, trivial⟩ (
    hk (fun cx => cx.q (ex_mv rfl (cx.rq 10 s10_49))) <|
    hk (fun cx => cx.q (ex_mv rfl (cx.rq 10 s10_49))) <|
    hk (fun cx => cx.q (ex_fa rfl (cx.rq 3 s3_50) (faStK35_1_0 _ _))) <|
    hk (fun cx => cx.v (ex_ia (n := 8) (sz := 9) rfl (cx.u 0 rfl) (cx.u 1 rfl) Try.underlying33 (by kernel_rfl) (by omega) (by omega) (by omega)) rfl rfl) <|
    hk (fun cx => cx.v (ldEl (by omega) rfl (cx.u 0 rfl) (cx.rn 0 rfl)) rfl rfl) <|
    hk (fun cx => cx.q (ex_mv rfl (cx.rq 10 s10_49))) <|
    hk (fun cx => cx.q (ex_fa rfl (cx.rq 4 s4_51) (faStK35_1_0 _ _))) <|
    hk (fun cx => cx.v (ex_ia (n := 8) (sz := 9) rfl (cx.u 0 rfl) (cx.u 1 rfl) Try.underlying33 (by kernel_rfl) (by omega) (by omega) (by omega)) rfl rfl) <|
    hk (fun cx => cx.v (ldEl (by omega) rfl (cx.u 0 rfl) (cx.rn 1 rfl)) rfl rfl) <|
    hk (fun cx => cx.q (ex_mv rfl (cx.rq 2 s2_52))) <|
    hc (fun _ _ wx cx => cx.c rfl (args3 (cx.u 0 rfl) (cx.u 1 rfl) (cx.u 2 rfl)) Try.func80 (by decide +kernel) (qjoinf_n (a (11 + k2)) (b (11 + k2)) wx (HA.out _ (by omega)) (HB.out _ (by omega))) rfl rfl) <|
    hk (fun cx => cx.q (ex_fa rfl (cx.rq 8 s8_53) (faStK35_1_0 _ _))) <|
    hk (fun cx => cx.v (ex_ia (n := 8) (sz := 9) rfl (cx.u 0 rfl) (cx.u 1 rfl) Try.underlying33 (by kernel_rfl) (by omega) (by omega) (by omega)) rfl rfl) <|
    hk (fun cx => cx.stP (wn rfl) rfl rfl 2 rfl (cx.u 0 rfl) (cx.u 1 rfl) (tyC_one _) (by kernel_rfl) (by rw [stC_size]; show _ + 9 ≤ _; omega) (stC_set _ (by omega) _) (Nat.le_trans f6.b.size q_g4) rfl ⟨neL2_0_3, neL2_1_3, trivial⟩ trivial) <|
    hn) ?_
   intro a15 w15 f15
   have s10_54 := f15.q 10 s10_49
   refine go_reg [] [] [some (.int .i64 (k2 : Int)), some (.int .i64 ((k2 + 1 : Nat) : Int)), some (.int .i64 ((k2 + 1 : Nat) : Int))] mo f15.d f15.z f15.b (by kernel_rfl) trivial (
    hk (fun cx => cx.q (ex_mv rfl (cx.un 2 rfl rfl (by kernel_rfl) s10_54))) <|
    hk (fun cx => cx.v (ex_add (x := .tmp 39) rfl (cx.u 0 rfl) rfl) rfl (congrArg (Value.int .i64) (wrapk hlt2 (by decide)))) <|
    kmu 0 <|
    hn) ?_
   intro a16 w16 f16
   have s2_55 := f16.q 2 (f15.q 2 s2_52)
   have s3_56 := f16.q 3 (f15.q 3 s3_50)
   have s4_57 := f16.q 4 (f15.q 4 s4_51)
   have s6_58 := f16.q 6 (f15.q 6 (f14.q 6 sL2_6))
   have s7_59 := f16.q 7 (f15.q 7 (f14.q 7 sL2_7))
   have s8_60 := f16.q 8 (f15.q 8 s8_53)
   have b_g1_61 := f16.k (f15.kp b_g1_46 ⟨.inl rfl, .inl rfl, .inr neL2_0_3, trivial⟩)
   have b_g2_62 := f16.k (f15.kp b_g2_47 ⟨.inl rfl, .inl rfl, .inr neL2_1_3, trivial⟩)
   have b_g3_63 := f16.k (f15.kp (f14.k bL2_g3) ⟨.inl rfl, .inl rfl, .inr neL2_2_3, trivial⟩)
   have b_g4_64 := f16.k f15.rows.2.2.1
   exact ⟨hlt2, trivial, f16.d, f16.z, f16.b, ⟨s2_55, s3_56, s4_57, s6_58, s7_59, s8_60, (f16.v 2 rfl rfl rfl), trivial⟩, ⟨b_g1_61, b_g2_62, b_g3_63, (row_eq b_g4_64 (congrArg stC (new_step _ _ _ _))), trivial⟩⟩
  have Ffk4 := Lib.hid fk4; clear fk4
  have hge2 : k2 = 8 := by have := Ffk4.out; simp only [decide_eq_false_iff_not] at this; omega
  refine go_reg [] [] [some (.int .i64 (k2 : Int)), oF] mo dL2 zL2 BL2 (by kernel_rfl) trivial (
   hk (fun cx => cx.q (ex_mv rfl (cx.rq 10 sL2_10))) <|
   hk (fun cx => cx.v (ex_lt (x := .tmp 37) rfl (cx.u 0 rfl) rfl) rfl (congrArg Value.bool Ffk4.out)) <|
   hn) ?_
  intro a17 w17 f17
  refine wp_cond_false (f17.v 1 rfl rfl rfl) ?_
  refine wp_exit ?_
  simp only [Exit.then, Exit.inBlock, if_true]
  refine wp_seq ?_
  have b_g4_65 := f17.k bL2_g4
  have b_g3_66 := f17.k bL2_g3
  have s8_67 := f17.q 8 sL2_8
  have s6_68 := f17.q 6 sL2_6
  refine go_reg [bx g4 35 (stC (newS jT a b (11 + k2))), ⟨g3, 35, (stC zS), some 1, (stC (newS jT a b (11 + k2)))⟩] [] [some (.agg (stC (newS jT a b (11 + k2)))), none, some (.int .i64 0)] mo f17.d f17.z f17.b (by kernel_rfl) ⟨b_g4_65, b_g3_66, trivial⟩ (
   hk (fun cx => cx.q (ldSt rfl (cx.rq 8 s8_67) (cx.rn 0 rfl))) <|
   hk (fun cx => cx.stR (wn rfl) rfl rfl 1 rfl (cx.rq 6 s6_68) (cx.u 0 rfl) (st_info _) ((stC_size _).trans (stC_size _).symm) (stC_one _) q_g3 rfl ⟨neL2_2_3.symm, trivial⟩ trivial) <|
   hk (fun cx => cx.q (ex_as rfl rfl)) <|
   hn) ?_
  intro a18 w18 f18
  refine wp_ret ?_
  have s6_69 := f18.q 6 s6_68
  try simp only [Exit.inBlock, Exit.then]
  refine bodyPost_ret (res_ct (fn := Try.f52) rfl s6_69 (load_row 35 f18.rows.2.1 Try.underlying35 rfl (st_info _)) (f18.v 2 rfl rfl rfl)) f18.d ?_
  have HS : stC (newS jT a b (11 + k2)) = stC (bothR jT a b) := by rw [hge2]; exact stC_congr (new_end Ffk1.out Ffk2.out)
  have HE : (.tuple #[.agg (stC (newS jT a b (11 + k2))), .int .i64 0] : Value) = .tuple #[.agg (stC (bothR jT a b)), .int .i64 (bothE a b)] := by rw [HS, bothE_1 Ffk1.out Ffk2.out]
  exact ⟨retV HE, f18.b⟩
set_option maxHeartbeats 4000000 in
theorem qbotht_n (a b : St) (W : World) (ha : OkS a) (hb : OkS b) : Calls Try.prog 52 #[.agg (stC a), .agg (stC b), .bool true] W fun e w' => e = .returned (.tuple #[.agg (stC (bothR wT a b)), .int .i64 (bothE a b)]) ∧ Below W.heap.size W w' := by
  have HA := Lib.hid ha
  have HB := Lib.hid hb
  clear ha hb
  refine calls_abs Try.func52 rfl (Nat.le_of_ble_eq_true rfl) ?_
  intro a0 d0 z0 h0
  replace z0 : a0.tmps.size = 55 := z0
  have s0_0 : a0.tmps.getD 0 undef = .agg (stC a) := h0 0 (Nat.le_of_ble_eq_true rfl)
  have s1_0 : a0.tmps.getD 1 undef = .agg (stC b) := h0 1 (Nat.le_of_ble_eq_true rfl)
  have s2_0 : a0.tmps.getD 2 undef = .bool true := h0 2 (Nat.le_of_ble_eq_true rfl)
  refine wp_seq ?_
  refine go_reg [] [⟨0, 3, 35, (stC a), none, #[]⟩, ⟨1, 4, 35, (stC b), none, #[]⟩, ⟨2, 6, 35, (stC zS), none, #[]⟩] [none, none, none, some (.int .i64 0)] mo d0 z0 (Below.refl _ _) (by kernel_rfl) trivial (
   hk (fun cx => cx.al (wn rfl) 0 rfl (ex_box rfl (cx.rq 0 s0_0) rfl) rfl rfl rfl rfl rfl trivial) <|
   hk (fun cx => cx.al (wn rfl) 1 rfl (ex_box rfl (cx.rq 1 s1_0) rfl) rfl rfl rfl rfl rfl trivial) <|
   hk (fun cx => cx.al (wn rfl) 2 rfl (al_st rfl) rfl rfl rfl rfl rfl trivial) <|
   hk (fun cx => cx.q (ex_as rfl rfl)) <|
   hn) ?_
  intro a1 w1 f1
  obtain ⟨g1, u_g1, q_g1, b_g1⟩ := f1.al.1
  obtain ⟨g2, u_g2, q_g2, b_g2⟩ := f1.al.2.1
  obtain ⟨g3, u_g3, q_g3, b_g3⟩ := f1.al.2.2.1
  refine wp_seq ?_
  refine wp_seq ?_
  cases fk1 : okS a
  case false =>
   have Ffk1 := Lib.hid fk1; clear fk1
   refine go_reg [bx g1 35 (stC a)] [] [some (.agg (stC a)), oF, oT, oT, oU, oU, oU, oT] mo f1.d f1.z f1.b (by kernel_rfl) ⟨b_g1, trivial⟩ (
    hk (fun cx => cx.q (ldSt rfl (cx.rq 3 u_g1) (cx.rn 0 rfl))) <|
    hc (fun _ _ wx cx => cx.c rfl (args1 (cx.u 0 rfl)) Try.func16 (by decide +kernel) (qmay_n a wx) rfl (congrArg Value.bool Ffk1.out)) <|
    hk (fun cx => cx.q (ex_not (x := .tmp 12) rfl (cx.u 0 rfl))) <|
    kmu 0 <|
    kno 0 <|
    kno 1 <|
    kno 1 <|
    hk (fun cx => cx.q (ex_pt rfl (cx.u 0 rfl) rfl)) <|
    hn) ?_
   intro a2 w2 f2
   refine wp_cond_true (f2.v 7 rfl rfl rfl) ?_
   refine wp_seq ?_
   have b_g3_1 := f2.k b_g3
   have s6_2 := f2.q 6 u_g3
   refine go_reg [⟨g3, 35, (stC zS), some 1, (stC zS)⟩] [] [some (.agg (stC zS)), none, some (.int .i64 2)] mo f2.d f2.z f2.b (by kernel_rfl) ⟨b_g3_1, trivial⟩ (
    hk (fun cx => cx.q (ex_zst rfl)) <|
    hk (fun cx => cx.stR (wn rfl) rfl rfl 0 rfl (cx.rq 6 s6_2) (cx.u 0 rfl) (st_info _) ((stC_size _).trans (stC_size _).symm) (stC_one _) q_g3 rfl trivial trivial) <|
    hk (fun cx => cx.q (ex_as rfl rfl)) <|
    hn) ?_
   intro a3 w3 f3
   refine wp_ret ?_
   have s6_3 := f3.q 6 s6_2
   try simp only [Exit.inBlock, Exit.then]
   refine bodyPost_ret (res_ct (fn := Try.f52) rfl s6_3 (load_row 35 f3.rows.1 Try.underlying35 rfl (st_info _)) (f3.v 2 rfl rfl rfl)) f3.d ?_
   have HE : (.tuple #[.agg (stC zS), .int .i64 2] : Value) = .tuple #[.agg (stC (bothR wT a b)), .int .i64 (bothE a b)] := by unfold bothR bothE; simp only [Ffk1.out, Bool.false_and, Bool.and_false, if_false, Bool.false_eq_true]
   exact ⟨retV HE, f3.b⟩
  have Ffk1 := Lib.hid fk1; clear fk1
  cases fk2 : okS b
  case false =>
   have Ffk2 := Lib.hid fk2; clear fk2
   refine go_reg [bx g1 35 (stC a), bx g2 35 (stC b)] [] [some (.agg (stC a)), oT, oF, oF, some (.agg (stC b)), oF, oT, oT] mo f1.d f1.z f1.b (by kernel_rfl) ⟨b_g1, b_g2, trivial⟩ (
    hk (fun cx => cx.q (ldSt rfl (cx.rq 3 u_g1) (cx.rn 0 rfl))) <|
    hc (fun _ _ wx cx => cx.c rfl (args1 (cx.u 0 rfl)) Try.func16 (by decide +kernel) (qmay_n a wx) rfl (congrArg Value.bool Ffk1.out)) <|
    hk (fun cx => cx.q (ex_not (x := .tmp 12) rfl (cx.u 0 rfl))) <|
    kmu 0 <|
    hk (fun cx => cx.vy 0 (ldSt rfl (cx.rq 4 u_g2) (cx.rn 1 rfl))) <|
    hc (fun _ _ wx cx => cx.call (cx.wy rfl rfl rfl rfl (cx.u 1 rfl)) rfl rfl (args1 (cx.u 0 rfl)) Try.func16 (by decide +kernel) rfl (qmay_n b wx) rfl rfl (congrArg Value.bool Ffk2.out) rfl) <|
    hk (fun cx => cx.vy 1 (ex_not (x := .tmp 16) rfl (cx.u 0 rfl))) <|
    hk (fun cx => cx.q (ex_pf rfl (cx.u 0 rfl) (cx.u 1 rfl))) <|
    hn) ?_
   intro a4 w4 f4
   refine wp_cond_true (f4.v 7 rfl rfl rfl) ?_
   refine wp_seq ?_
   have b_g3_4 := f4.k b_g3
   have s6_5 := f4.q 6 u_g3
   refine go_reg [⟨g3, 35, (stC zS), some 1, (stC zS)⟩] [] [some (.agg (stC zS)), none, some (.int .i64 2)] mo f4.d f4.z f4.b (by kernel_rfl) ⟨b_g3_4, trivial⟩ (
    hk (fun cx => cx.q (ex_zst rfl)) <|
    hk (fun cx => cx.stR (wn rfl) rfl rfl 0 rfl (cx.rq 6 s6_5) (cx.u 0 rfl) (st_info _) ((stC_size _).trans (stC_size _).symm) (stC_one _) q_g3 rfl trivial trivial) <|
    hk (fun cx => cx.q (ex_as rfl rfl)) <|
    hn) ?_
   intro a5 w5 f5
   refine wp_ret ?_
   have s6_6 := f5.q 6 s6_5
   try simp only [Exit.inBlock, Exit.then]
   refine bodyPost_ret (res_ct (fn := Try.f52) rfl s6_6 (load_row 35 f5.rows.1 Try.underlying35 rfl (st_info _)) (f5.v 2 rfl rfl rfl)) f5.d ?_
   have HE : (.tuple #[.agg (stC zS), .int .i64 2] : Value) = .tuple #[.agg (stC (bothR wT a b)), .int .i64 (bothE a b)] := by unfold bothR bothE; simp only [Ffk1.out, Ffk2.out, Bool.false_and, Bool.and_false, if_false, Bool.false_eq_true]
   exact ⟨retV HE, f5.b⟩
  have Ffk2 := Lib.hid fk2; clear fk2
  refine go_reg [bx g1 35 (stC a), bx g2 35 (stC b)] [] [some (.agg (stC a)), oT, oF, oF, some (.agg (stC b)), oT, oF, oF] mo f1.d f1.z f1.b (by kernel_rfl) ⟨b_g1, b_g2, trivial⟩ (
   hk (fun cx => cx.q (ldSt rfl (cx.rq 3 u_g1) (cx.rn 0 rfl))) <|
   hc (fun _ _ wx cx => cx.c rfl (args1 (cx.u 0 rfl)) Try.func16 (by decide +kernel) (qmay_n a wx) rfl (congrArg Value.bool Ffk1.out)) <|
   hk (fun cx => cx.q (ex_not (x := .tmp 12) rfl (cx.u 0 rfl))) <|
   kmu 0 <|
   hk (fun cx => cx.vy 0 (ldSt rfl (cx.rq 4 u_g2) (cx.rn 1 rfl))) <|
   hc (fun _ _ wx cx => cx.call (cx.wy rfl rfl rfl rfl (cx.u 1 rfl)) rfl rfl (args1 (cx.u 0 rfl)) Try.func16 (by decide +kernel) rfl (qmay_n b wx) rfl rfl (congrArg Value.bool Ffk2.out) rfl) <|
   hk (fun cx => cx.vy 1 (ex_not (x := .tmp 16) rfl (cx.u 0 rfl))) <|
   hk (fun cx => cx.q (ex_pf rfl (cx.u 0 rfl) (cx.u 1 rfl))) <|
   hn) ?_
  intro a6 w6 f6
  refine wp_cond_false (f6.v 7 rfl rfl rfl) ?_
  refine wp_skip ?_
  refine wp_seq ?_
  refine go_reg [] [⟨0, 8, 35, (stC zS), none, #[]⟩] [none] mo f6.d f6.z f6.b (by kernel_rfl) trivial (
   hk (fun cx => cx.al (wn rfl) 0 rfl (al_st rfl) rfl rfl rfl rfl rfl trivial) <|
   hn) ?_
  intro a7 w7 f7
  obtain ⟨g4, u_g4, q_g4, b_g4⟩ := f7.al.1
  refine wp_seq ?_
  refine wp_seq ?_
  refine go_reg [] [] [some (.int .i64 0)] mo f7.d f7.z f7.b (by kernel_rfl) trivial (
   hk (fun cx => cx.q (ex_as rfl rfl)) <|
   hn) ?_
  intro a8 w8 f8
  refine wp_block ?_
  have neL1_0_1 := (ne_ptr (pairAt f1.ps 0 1 (by decide) rfl rfl) u_g1 u_g2)
  have neL1_0_2 := (ne_ptr (pairAt f1.ps 0 2 (by decide) rfl rfl) u_g1 u_g3)
  have neL1_0_3 := (ne_row (f6.k b_g1) q_g4)
  have neL1_1_2 := (ne_ptr (pairAt f1.ps 1 2 (by decide) rfl rfl) u_g2 u_g3)
  have neL1_1_3 := (ne_row (f6.k b_g2) q_g4)
  have neL1_2_3 := (ne_row (f6.k b_g3) q_g4)
  have s2_7 := f8.q 2 (f7.q 2 (f6.q 2 (f1.q 2 s2_0)))
  have s3_8 := f8.q 3 (f7.q 3 (f6.q 3 u_g1))
  have s4_9 := f8.q 4 (f7.q 4 (f6.q 4 u_g2))
  have s6_10 := f8.q 6 (f7.q 6 (f6.q 6 u_g3))
  have s7_11 := f8.q 7 (f7.q 7 (f6.q 7 (f1.v 3 rfl rfl rfl)))
  have s8_12 := f8.q 8 u_g4
  have b_g1_13 := f8.k (f7.k (f6.k b_g1))
  have b_g2_14 := f8.k (f7.k (f6.k b_g2))
  have b_g3_15 := f8.k (f7.k (f6.k b_g3))
  have b_g4_16 := f8.k b_g4
  refine wp_count 11 (fun k1 aI wI => True ∧ Mid 55 W [(2, .bool true), (3, .pointer (some ⟨g1, 0, none⟩)), (4, .pointer (some ⟨g2, 0, none⟩)), (6, .pointer (some ⟨g3, 0, none⟩)), (7, .int .i64 0), (8, .pointer (some ⟨g4, 0, none⟩)), (9, .int .i64 (k1 : Int))] [(g1, 35, (stC a)), (g2, 35, (stC b)), (g3, 35, (stC zS)), (g4, 35, (stC (newS wT a b k1)))] aI wI) ⟨trivial, f8.d, f8.z, f8.b, ⟨s2_7, s3_8, s4_9, s6_10, s7_11, s8_12, (f8.v 0 rfl rfl rfl), trivial⟩, ⟨b_g1_13, b_g2_14, b_g3_15, (row_eq b_g4_16 (congrArg stC (new_0 _ _ _).symm)), trivial⟩⟩ ?_
  intro k1 aL1 wL1 hlek1 hI1
  obtain ⟨hp1, dL1, zL1, BL1, ⟨sL1_2, sL1_3, sL1_4, sL1_6, sL1_7, sL1_8, sL1_9, -⟩, ⟨bL1_g1, bL1_g2, bL1_g3, bL1_g4, -⟩⟩ := hI1
  replace sL1_2 : aL1.tmps.getD 2 undef = .bool true := sL1_2
  replace sL1_3 : aL1.tmps.getD 3 undef = .pointer (some ⟨g1, 0, none⟩) := sL1_3
  replace sL1_4 : aL1.tmps.getD 4 undef = .pointer (some ⟨g2, 0, none⟩) := sL1_4
  replace sL1_6 : aL1.tmps.getD 6 undef = .pointer (some ⟨g3, 0, none⟩) := sL1_6
  replace sL1_7 : aL1.tmps.getD 7 undef = .int .i64 0 := sL1_7
  replace sL1_8 : aL1.tmps.getD 8 undef = .pointer (some ⟨g4, 0, none⟩) := sL1_8
  replace sL1_9 : aL1.tmps.getD 9 undef = .int .i64 (k1 : Int) := sL1_9
  replace bL1_g1 : wL1.heap[g1]? = some (.cells (stC a) 35 (0, 0)) := bL1_g1
  replace bL1_g2 : wL1.heap[g2]? = some (.cells (stC b) 35 (0, 0)) := bL1_g2
  replace bL1_g3 : wL1.heap[g3]? = some (.cells (stC zS) 35 (0, 0)) := bL1_g3
  replace bL1_g4 : wL1.heap[g4]? = some (.cells (stC (newS wT a b k1)) 35 (0, 0)) := bL1_g4
  refine wp_seq ?_
  refine wp_seq ?_
  cases fk3 : decide ((k1 : Int) < 11)
  case true =>
   have Ffk3 := Lib.hid fk3; clear fk3
   have hlt1 : k1 < 11 := by have := Ffk3.out; simp only [decide_eq_true_eq] at this; omega
   refine go_reg [] [] [some (.int .i64 (k1 : Int)), oT] mo dL1 zL1 BL1 (by kernel_rfl) trivial (
    hk (fun cx => cx.q (ex_mv rfl (cx.rq 9 sL1_9))) <|
    hk (fun cx => cx.v (ex_lt (x := .tmp 20) rfl (cx.u 0 rfl) rfl) rfl (congrArg Value.bool Ffk3.out)) <|
    hn) ?_
   intro a9 w9 f9
   refine wp_cond_true (f9.v 1 rfl rfl rfl) ?_
   refine wp_skip ?_
   refine wp_seq ?_
   refine wp_block ?_
   have b_g1_17 := f9.k bL1_g1
   have b_g2_18 := f9.k bL1_g2
   have b_g4_19 := f9.k bL1_g4
   have s9_20 := f9.q 9 sL1_9
   have s3_21 := f9.q 3 sL1_3
   have s4_22 := f9.q 4 sL1_4
   have s2_23 := f9.q 2 sL1_2
   have s8_24 := f9.q 8 sL1_8
   refine go_reg [bx g1 35 (stC a), bx g2 35 (stC b), ⟨g4, 35, (stC (newS wT a b k1)), some 13, (stC (upS (newS wT a b k1) k1 (wT (a k1) (b k1))))⟩] [] [some (.int .i64 (k1 : Int)), some (.int .i64 (k1 : Int)), some (pt g1 0), some (pt g1 (9 * k1)), some (.agg (tyC (a k1))), some (.int .i64 (k1 : Int)), some (pt g2 0), some (pt g2 (9 * k1)), some (.agg (tyC (b k1))), oT, some (.agg (tyC (wT (a k1) (b k1)))), some (pt g4 0), some (pt g4 (9 * k1)), none] mo f9.d f9.z f9.b (by kernel_rfl) ⟨b_g1_17, b_g2_18, b_g4_19, trivial⟩ (
    hk (fun cx => cx.q (ex_mv rfl (cx.rq 9 s9_20))) <|
    hk (fun cx => cx.q (ex_mv rfl (cx.rq 9 s9_20))) <|
    hk (fun cx => cx.q (ex_fa rfl (cx.rq 3 s3_21) (faStK35_0_0 _ _))) <|
    hk (fun cx => cx.v (ex_ia (n := 11) (sz := 9) rfl (cx.u 0 rfl) (cx.u 1 rfl) Try.underlying32 (by kernel_rfl) (by omega) (by omega) (by omega)) rfl rfl) <|
    hk (fun cx => cx.v (ldEl (by omega) rfl (cx.u 0 rfl) (cx.rn 0 rfl)) rfl rfl) <|
    hk (fun cx => cx.q (ex_mv rfl (cx.rq 9 s9_20))) <|
    hk (fun cx => cx.q (ex_fa rfl (cx.rq 4 s4_22) (faStK35_0_0 _ _))) <|
    hk (fun cx => cx.v (ex_ia (n := 11) (sz := 9) rfl (cx.u 0 rfl) (cx.u 1 rfl) Try.underlying32 (by kernel_rfl) (by omega) (by omega) (by omega)) rfl rfl) <|
    hk (fun cx => cx.v (ldEl (by omega) rfl (cx.u 0 rfl) (cx.rn 1 rfl)) rfl rfl) <|
    hk (fun cx => cx.q (ex_mv rfl (cx.rq 2 s2_23))) <|
    hc (fun _ _ wx cx => cx.c rfl (args3 (cx.u 0 rfl) (cx.u 1 rfl) (cx.u 2 rfl)) Try.func80 (by decide +kernel) (qjoint_n (a k1) (b k1) wx (HA.out _ (by omega)) (HB.out _ (by omega))) rfl rfl) <|
    hk (fun cx => cx.q (ex_fa rfl (cx.rq 8 s8_24) (faStK35_0_0 _ _))) <|
    hk (fun cx => cx.v (ex_ia (n := 11) (sz := 9) rfl (cx.u 0 rfl) (cx.u 1 rfl) Try.underlying32 (by kernel_rfl) (by omega) (by omega) (by omega)) rfl rfl) <|
    hk (fun cx => cx.stP (wn rfl) rfl rfl 2 rfl (cx.u 0 rfl) (cx.u 1 rfl) (tyC_one _) (by kernel_rfl) (by rw [stC_size]; show _ + 9 ≤ _; omega) (stC_set _ (by omega) _) (Nat.le_trans f6.b.size q_g4) rfl ⟨neL1_0_3, neL1_1_3, trivial⟩ trivial) <|
    hn) ?_
   intro a10 w10 f10
   have s9_25 := f10.q 9 s9_20
   refine go_reg [] [] [some (.int .i64 (k1 : Int)), some (.int .i64 ((k1 + 1 : Nat) : Int)), some (.int .i64 ((k1 + 1 : Nat) : Int))] mo f10.d f10.z f10.b (by kernel_rfl) trivial (
    hk (fun cx => cx.q (ex_mv rfl (cx.un 2 rfl rfl (by kernel_rfl) s9_25))) <|
    hk (fun cx => cx.v (ex_add (x := .tmp 22) rfl (cx.u 0 rfl) rfl) rfl (congrArg (Value.int .i64) (wrapk hlt1 (by decide)))) <|
    kmu 0 <|
    hn) ?_
   intro a11 w11 f11
   have s2_26 := f11.q 2 (f10.q 2 s2_23)
   have s3_27 := f11.q 3 (f10.q 3 s3_21)
   have s4_28 := f11.q 4 (f10.q 4 s4_22)
   have s6_29 := f11.q 6 (f10.q 6 (f9.q 6 sL1_6))
   have s7_30 := f11.q 7 (f10.q 7 (f9.q 7 sL1_7))
   have s8_31 := f11.q 8 (f10.q 8 s8_24)
   have b_g1_32 := f11.k (f10.kp b_g1_17 ⟨.inl rfl, .inl rfl, .inr neL1_0_3, trivial⟩)
   have b_g2_33 := f11.k (f10.kp b_g2_18 ⟨.inl rfl, .inl rfl, .inr neL1_1_3, trivial⟩)
   have b_g3_34 := f11.k (f10.kp (f9.k bL1_g3) ⟨.inl rfl, .inl rfl, .inr neL1_2_3, trivial⟩)
   have b_g4_35 := f11.k f10.rows.2.2.1
   exact ⟨hlt1, trivial, f11.d, f11.z, f11.b, ⟨s2_26, s3_27, s4_28, s6_29, s7_30, s8_31, (f11.v 2 rfl rfl rfl), trivial⟩, ⟨b_g1_32, b_g2_33, b_g3_34, (row_eq b_g4_35 (congrArg stC (new_step _ _ _ _))), trivial⟩⟩
  have Ffk3 := Lib.hid fk3; clear fk3
  have hge1 : k1 = 11 := by have := Ffk3.out; simp only [decide_eq_false_iff_not] at this; omega
  refine go_reg [] [] [some (.int .i64 (k1 : Int)), oF] mo dL1 zL1 BL1 (by kernel_rfl) trivial (
   hk (fun cx => cx.q (ex_mv rfl (cx.rq 9 sL1_9))) <|
   hk (fun cx => cx.v (ex_lt (x := .tmp 20) rfl (cx.u 0 rfl) rfl) rfl (congrArg Value.bool Ffk3.out)) <|
   hn) ?_
  intro a12 w12 f12
  refine wp_cond_false (f12.v 1 rfl rfl rfl) ?_
  refine wp_exit ?_
  simp only [Exit.then, Exit.inBlock, if_true]
  refine wp_seq ?_
  refine wp_seq ?_
  refine go_reg [] [] [some (.int .i64 0)] mo f12.d f12.z f12.b (by kernel_rfl) trivial (
   hk (fun cx => cx.q (ex_as rfl rfl)) <|
   hn) ?_
  intro a13 w13 f13
  refine wp_block ?_
  have neL2_0_1 := neL1_0_1
  have neL2_0_2 := neL1_0_2
  have neL2_0_3 := neL1_0_3
  have neL2_1_2 := neL1_1_2
  have neL2_1_3 := neL1_1_3
  have neL2_2_3 := neL1_2_3
  have s2_36 := f13.q 2 (f12.q 2 sL1_2)
  have s3_37 := f13.q 3 (f12.q 3 sL1_3)
  have s4_38 := f13.q 4 (f12.q 4 sL1_4)
  have s6_39 := f13.q 6 (f12.q 6 sL1_6)
  have s7_40 := f13.q 7 (f12.q 7 sL1_7)
  have s8_41 := f13.q 8 (f12.q 8 sL1_8)
  have b_g1_42 := f13.k (f12.k bL1_g1)
  have b_g2_43 := f13.k (f12.k bL1_g2)
  have b_g3_44 := f13.k (f12.k bL1_g3)
  have b_g4_45 := f13.k (f12.k bL1_g4)
  refine wp_count 8 (fun k2 aI wI => True ∧ Mid 55 W [(2, .bool true), (3, .pointer (some ⟨g1, 0, none⟩)), (4, .pointer (some ⟨g2, 0, none⟩)), (6, .pointer (some ⟨g3, 0, none⟩)), (7, .int .i64 0), (8, .pointer (some ⟨g4, 0, none⟩)), (10, .int .i64 (k2 : Int))] [(g1, 35, (stC a)), (g2, 35, (stC b)), (g3, 35, (stC zS)), (g4, 35, (stC (newS wT a b (11 + k2))))] aI wI) ⟨trivial, f13.d, f13.z, f13.b, ⟨s2_36, s3_37, s4_38, s6_39, s7_40, s8_41, (f13.v 0 rfl rfl rfl), trivial⟩, ⟨b_g1_42, b_g2_43, b_g3_44, (row_eq b_g4_45 (congrArg (fun n => stC (newS wT a b n)) (show k1 = 11 + 0 by omega))), trivial⟩⟩ ?_
  intro k2 aL2 wL2 hlek2 hI2
  obtain ⟨hp2, dL2, zL2, BL2, ⟨sL2_2, sL2_3, sL2_4, sL2_6, sL2_7, sL2_8, sL2_10, -⟩, ⟨bL2_g1, bL2_g2, bL2_g3, bL2_g4, -⟩⟩ := hI2
  replace sL2_2 : aL2.tmps.getD 2 undef = .bool true := sL2_2
  replace sL2_3 : aL2.tmps.getD 3 undef = .pointer (some ⟨g1, 0, none⟩) := sL2_3
  replace sL2_4 : aL2.tmps.getD 4 undef = .pointer (some ⟨g2, 0, none⟩) := sL2_4
  replace sL2_6 : aL2.tmps.getD 6 undef = .pointer (some ⟨g3, 0, none⟩) := sL2_6
  replace sL2_7 : aL2.tmps.getD 7 undef = .int .i64 0 := sL2_7
  replace sL2_8 : aL2.tmps.getD 8 undef = .pointer (some ⟨g4, 0, none⟩) := sL2_8
  replace sL2_10 : aL2.tmps.getD 10 undef = .int .i64 (k2 : Int) := sL2_10
  replace bL2_g1 : wL2.heap[g1]? = some (.cells (stC a) 35 (0, 0)) := bL2_g1
  replace bL2_g2 : wL2.heap[g2]? = some (.cells (stC b) 35 (0, 0)) := bL2_g2
  replace bL2_g3 : wL2.heap[g3]? = some (.cells (stC zS) 35 (0, 0)) := bL2_g3
  replace bL2_g4 : wL2.heap[g4]? = some (.cells (stC (newS wT a b (11 + k2))) 35 (0, 0)) := bL2_g4
  refine wp_seq ?_
  refine wp_seq ?_
  cases fk4 : decide ((k2 : Int) < 8)
  case true =>
   have Ffk4 := Lib.hid fk4; clear fk4
   have hlt2 : k2 < 8 := by have := Ffk4.out; simp only [decide_eq_true_eq] at this; omega
   refine go_reg [] [] [some (.int .i64 (k2 : Int)), oT] mo dL2 zL2 BL2 (by kernel_rfl) trivial (
    hk (fun cx => cx.q (ex_mv rfl (cx.rq 10 sL2_10))) <|
    hk (fun cx => cx.v (ex_lt (x := .tmp 37) rfl (cx.u 0 rfl) rfl) rfl (congrArg Value.bool Ffk4.out)) <|
    hn) ?_
   intro a14 w14 f14
   refine wp_cond_true (f14.v 1 rfl rfl rfl) ?_
   refine wp_skip ?_
   refine wp_seq ?_
   refine wp_block ?_
   have b_g1_46 := f14.k bL2_g1
   have b_g2_47 := f14.k bL2_g2
   have b_g4_48 := f14.k bL2_g4
   have s10_49 := f14.q 10 sL2_10
   have s3_50 := f14.q 3 sL2_3
   have s4_51 := f14.q 4 sL2_4
   have s2_52 := f14.q 2 sL2_2
   have s8_53 := f14.q 8 sL2_8
   refine go_reg [bx g1 35 (stC a), bx g2 35 (stC b), ⟨g4, 35, (stC (newS wT a b (11 + k2))), some 13, (stC (upS (newS wT a b (11 + k2)) (11 + k2) (wT (a (11 + k2)) (b (11 + k2)))))⟩] [] [some (.int .i64 (k2 : Int)), some (.int .i64 (k2 : Int)), some (pt g1 99), some (pt g1 (9 * (11 + k2))), some (.agg (tyC (a (11 + k2)))), some (.int .i64 (k2 : Int)), some (pt g2 99), some (pt g2 (9 * (11 + k2))), some (.agg (tyC (b (11 + k2)))), oT, some (.agg (tyC (wT (a (11 + k2)) (b (11 + k2))))), some (pt g4 99), some (pt g4 (9 * (11 + k2))), none] mo f14.d f14.z f14.b (by kernel_rfl) ⟨b_g1_46, b_g2_47, b_g4_48, trivial⟩ (
    hk (fun cx => cx.q (ex_mv rfl (cx.rq 10 s10_49))) <|
    hk (fun cx => cx.q (ex_mv rfl (cx.rq 10 s10_49))) <|
    hk (fun cx => cx.q (ex_fa rfl (cx.rq 3 s3_50) (faStK35_1_0 _ _))) <|
    hk (fun cx => cx.v (ex_ia (n := 8) (sz := 9) rfl (cx.u 0 rfl) (cx.u 1 rfl) Try.underlying33 (by kernel_rfl) (by omega) (by omega) (by omega)) rfl rfl) <|
    hk (fun cx => cx.v (ldEl (by omega) rfl (cx.u 0 rfl) (cx.rn 0 rfl)) rfl rfl) <|
    hk (fun cx => cx.q (ex_mv rfl (cx.rq 10 s10_49))) <|
    hk (fun cx => cx.q (ex_fa rfl (cx.rq 4 s4_51) (faStK35_1_0 _ _))) <|
    hk (fun cx => cx.v (ex_ia (n := 8) (sz := 9) rfl (cx.u 0 rfl) (cx.u 1 rfl) Try.underlying33 (by kernel_rfl) (by omega) (by omega) (by omega)) rfl rfl) <|
    hk (fun cx => cx.v (ldEl (by omega) rfl (cx.u 0 rfl) (cx.rn 1 rfl)) rfl rfl) <|
    hk (fun cx => cx.q (ex_mv rfl (cx.rq 2 s2_52))) <|
    hc (fun _ _ wx cx => cx.c rfl (args3 (cx.u 0 rfl) (cx.u 1 rfl) (cx.u 2 rfl)) Try.func80 (by decide +kernel) (qjoint_n (a (11 + k2)) (b (11 + k2)) wx (HA.out _ (by omega)) (HB.out _ (by omega))) rfl rfl) <|
    hk (fun cx => cx.q (ex_fa rfl (cx.rq 8 s8_53) (faStK35_1_0 _ _))) <|
    hk (fun cx => cx.v (ex_ia (n := 8) (sz := 9) rfl (cx.u 0 rfl) (cx.u 1 rfl) Try.underlying33 (by kernel_rfl) (by omega) (by omega) (by omega)) rfl rfl) <|
    hk (fun cx => cx.stP (wn rfl) rfl rfl 2 rfl (cx.u 0 rfl) (cx.u 1 rfl) (tyC_one _) (by kernel_rfl) (by rw [stC_size]; show _ + 9 ≤ _; omega) (stC_set _ (by omega) _) (Nat.le_trans f6.b.size q_g4) rfl ⟨neL2_0_3, neL2_1_3, trivial⟩ trivial) <|
    hn) ?_
   intro a15 w15 f15
   have s10_54 := f15.q 10 s10_49
   refine go_reg [] [] [some (.int .i64 (k2 : Int)), some (.int .i64 ((k2 + 1 : Nat) : Int)), some (.int .i64 ((k2 + 1 : Nat) : Int))] mo f15.d f15.z f15.b (by kernel_rfl) trivial (
    hk (fun cx => cx.q (ex_mv rfl (cx.un 2 rfl rfl (by kernel_rfl) s10_54))) <|
    hk (fun cx => cx.v (ex_add (x := .tmp 39) rfl (cx.u 0 rfl) rfl) rfl (congrArg (Value.int .i64) (wrapk hlt2 (by decide)))) <|
    kmu 0 <|
    hn) ?_
   intro a16 w16 f16
   have s2_55 := f16.q 2 (f15.q 2 s2_52)
   have s3_56 := f16.q 3 (f15.q 3 s3_50)
   have s4_57 := f16.q 4 (f15.q 4 s4_51)
   have s6_58 := f16.q 6 (f15.q 6 (f14.q 6 sL2_6))
   have s7_59 := f16.q 7 (f15.q 7 (f14.q 7 sL2_7))
   have s8_60 := f16.q 8 (f15.q 8 s8_53)
   have b_g1_61 := f16.k (f15.kp b_g1_46 ⟨.inl rfl, .inl rfl, .inr neL2_0_3, trivial⟩)
   have b_g2_62 := f16.k (f15.kp b_g2_47 ⟨.inl rfl, .inl rfl, .inr neL2_1_3, trivial⟩)
   have b_g3_63 := f16.k (f15.kp (f14.k bL2_g3) ⟨.inl rfl, .inl rfl, .inr neL2_2_3, trivial⟩)
   have b_g4_64 := f16.k f15.rows.2.2.1
   exact ⟨hlt2, trivial, f16.d, f16.z, f16.b, ⟨s2_55, s3_56, s4_57, s6_58, s7_59, s8_60, (f16.v 2 rfl rfl rfl), trivial⟩, ⟨b_g1_61, b_g2_62, b_g3_63, (row_eq b_g4_64 (congrArg stC (new_step _ _ _ _))), trivial⟩⟩
  have Ffk4 := Lib.hid fk4; clear fk4
  have hge2 : k2 = 8 := by have := Ffk4.out; simp only [decide_eq_false_iff_not] at this; omega
  refine go_reg [] [] [some (.int .i64 (k2 : Int)), oF] mo dL2 zL2 BL2 (by kernel_rfl) trivial (
   hk (fun cx => cx.q (ex_mv rfl (cx.rq 10 sL2_10))) <|
   hk (fun cx => cx.v (ex_lt (x := .tmp 37) rfl (cx.u 0 rfl) rfl) rfl (congrArg Value.bool Ffk4.out)) <|
   hn) ?_
  intro a17 w17 f17
  refine wp_cond_false (f17.v 1 rfl rfl rfl) ?_
  refine wp_exit ?_
  simp only [Exit.then, Exit.inBlock, if_true]
  refine wp_seq ?_
  have b_g4_65 := f17.k bL2_g4
  have b_g3_66 := f17.k bL2_g3
  have s8_67 := f17.q 8 sL2_8
  have s6_68 := f17.q 6 sL2_6
  refine go_reg [bx g4 35 (stC (newS wT a b (11 + k2))), ⟨g3, 35, (stC zS), some 1, (stC (newS wT a b (11 + k2)))⟩] [] [some (.agg (stC (newS wT a b (11 + k2)))), none, some (.int .i64 0)] mo f17.d f17.z f17.b (by kernel_rfl) ⟨b_g4_65, b_g3_66, trivial⟩ (
   hk (fun cx => cx.q (ldSt rfl (cx.rq 8 s8_67) (cx.rn 0 rfl))) <|
   hk (fun cx => cx.stR (wn rfl) rfl rfl 1 rfl (cx.rq 6 s6_68) (cx.u 0 rfl) (st_info _) ((stC_size _).trans (stC_size _).symm) (stC_one _) q_g3 rfl ⟨neL2_2_3.symm, trivial⟩ trivial) <|
   hk (fun cx => cx.q (ex_as rfl rfl)) <|
   hn) ?_
  intro a18 w18 f18
  refine wp_ret ?_
  have s6_69 := f18.q 6 s6_68
  try simp only [Exit.inBlock, Exit.then]
  refine bodyPost_ret (res_ct (fn := Try.f52) rfl s6_69 (load_row 35 f18.rows.2.1 Try.underlying35 rfl (st_info _)) (f18.v 2 rfl rfl rfl)) f18.d ?_
  have HS : stC (newS wT a b (11 + k2)) = stC (bothR wT a b) := by rw [hge2]; exact stC_congr (new_end Ffk1.out Ffk2.out)
  have HE : (.tuple #[.agg (stC (newS wT a b (11 + k2))), .int .i64 0] : Value) = .tuple #[.agg (stC (bothR wT a b)), .int .i64 (bothE a b)] := by rw [HS, bothE_1 Ffk1.out Ffk2.out]
  exact ⟨retV HE, f18.b⟩
set_option maxHeartbeats 4000000 in
theorem qjoin_n (a b : St) (W : World) (ha : OkS a) (hb : OkS b) : Calls Try.prog 25 #[.agg (stC a), .agg (stC b)] W fun e w' => e = .returned (.tuple #[.agg (stC (bothR jT a b)), .int .i64 (bothE a b)]) ∧ Below W.heap.size W w' := by
  have HA := Lib.hid ha
  have HB := Lib.hid hb
  clear ha hb
  refine calls_abs Try.func25 rfl (Nat.le_of_ble_eq_true rfl) ?_
  intro a0 d0 z0 h0
  replace z0 : a0.tmps.size = 11 := z0
  have s0_0 : a0.tmps.getD 0 undef = .agg (stC a) := h0 0 (Nat.le_of_ble_eq_true rfl)
  have s1_0 : a0.tmps.getD 1 undef = .agg (stC b) := h0 1 (Nat.le_of_ble_eq_true rfl)
  refine wp_seq ?_
  refine go_reg [] [⟨0, 2, 35, (stC a), none, #[]⟩, ⟨1, 3, 35, (stC b), none, #[]⟩, ⟨2, 4, 35, (stC zS), none, #[]⟩] [none, none, none, some (.int .i64 0)] mo d0 z0 (Below.refl _ _) (by kernel_rfl) trivial (
   hk (fun cx => cx.al (wn rfl) 0 rfl (ex_box rfl (cx.rq 0 s0_0) rfl) rfl rfl rfl rfl rfl trivial) <|
   hk (fun cx => cx.al (wn rfl) 1 rfl (ex_box rfl (cx.rq 1 s1_0) rfl) rfl rfl rfl rfl rfl trivial) <|
   hk (fun cx => cx.al (wn rfl) 2 rfl (al_st rfl) rfl rfl rfl rfl rfl trivial) <|
   hk (fun cx => cx.q (ex_as rfl rfl)) <|
   hn) ?_
  intro a1 w1 f1
  obtain ⟨g1, u_g1, q_g1, b_g1⟩ := f1.al.1
  obtain ⟨g2, u_g2, q_g2, b_g2⟩ := f1.al.2.1
  obtain ⟨g3, u_g3, q_g3, b_g3⟩ := f1.al.2.2.1
  refine wp_seq ?_
  refine go_reg [bx g1 35 (stC a), bx g2 35 (stC b), ⟨g3, 35, (stC zS), some 5, (stC (bothR jT a b))⟩] [] [some (.agg (stC a)), some (.agg (stC b)), some (.tuple #[.agg (stC (bothR jT a b)), .int .i64 (bothE a b)]), some (.agg (stC (bothR jT a b))), some (.int .i64 (bothE a b)), none, some (.int .i64 (bothE a b))] mo f1.d f1.z f1.b (by kernel_rfl) ⟨b_g1, b_g2, b_g3, trivial⟩ (
   hk (fun cx => cx.q (ldSt rfl (cx.rq 2 u_g1) (cx.rn 0 rfl))) <|
   hk (fun cx => cx.q (ldSt rfl (cx.rq 3 u_g2) (cx.rn 1 rfl))) <|
   hc (fun _ _ wx cx => cx.c rfl (args3 (cx.u 0 rfl) (cx.u 1 rfl) rfl) Try.func52 (by decide +kernel) (qbothf_n a b wx HA.out HB.out) rfl rfl) <|
   hk (fun cx => cx.q (ex_ext (x := .tmp 8) rfl (cx.u 0 rfl) rfl)) <|
   hk (fun cx => cx.q (ex_ext (x := .tmp 8) rfl (cx.u 0 rfl) rfl)) <|
   hk (fun cx => cx.stR (wn rfl) rfl rfl 2 rfl (cx.rq 4 u_g3) (cx.u 0 rfl) (st_info _) ((stC_size _).trans (stC_size _).symm) (stC_one _) q_g3 rfl ⟨(ne_ptr (pairAt f1.ps 0 2 (by decide) rfl rfl) u_g1 u_g3), (ne_ptr (pairAt f1.ps 1 2 (by decide) rfl rfl) u_g2 u_g3), trivial⟩ trivial) <|
   kmu 0 <|
   hn) ?_
  intro a2 w2 f2
  refine wp_ret ?_
  have s4_1 := f2.q 4 u_g3
  try simp only [Exit.inBlock, Exit.then]
  refine bodyPost_ret (res_ct (fn := Try.f25) rfl s4_1 (load_row 35 f2.rows.2.2.1 Try.underlying35 rfl (st_info _)) (f2.v 6 rfl rfl rfl)) f2.d ?_
  exact ⟨rfl, f2.b⟩
set_option maxHeartbeats 4000000 in
theorem qwiden_n (a b : St) (W : World) (ha : OkS a) (hb : OkS b) : Calls Try.prog 27 #[.agg (stC a), .agg (stC b)] W fun e w' => e = .returned (.tuple #[.agg (stC (bothR wT a b)), .int .i64 (bothE a b)]) ∧ Below W.heap.size W w' := by
  have HA := Lib.hid ha
  have HB := Lib.hid hb
  clear ha hb
  refine calls_abs Try.func27 rfl (Nat.le_of_ble_eq_true rfl) ?_
  intro a0 d0 z0 h0
  replace z0 : a0.tmps.size = 11 := z0
  have s0_0 : a0.tmps.getD 0 undef = .agg (stC a) := h0 0 (Nat.le_of_ble_eq_true rfl)
  have s1_0 : a0.tmps.getD 1 undef = .agg (stC b) := h0 1 (Nat.le_of_ble_eq_true rfl)
  refine wp_seq ?_
  refine go_reg [] [⟨0, 2, 35, (stC a), none, #[]⟩, ⟨1, 3, 35, (stC b), none, #[]⟩, ⟨2, 4, 35, (stC zS), none, #[]⟩] [none, none, none, some (.int .i64 0)] mo d0 z0 (Below.refl _ _) (by kernel_rfl) trivial (
   hk (fun cx => cx.al (wn rfl) 0 rfl (ex_box rfl (cx.rq 0 s0_0) rfl) rfl rfl rfl rfl rfl trivial) <|
   hk (fun cx => cx.al (wn rfl) 1 rfl (ex_box rfl (cx.rq 1 s1_0) rfl) rfl rfl rfl rfl rfl trivial) <|
   hk (fun cx => cx.al (wn rfl) 2 rfl (al_st rfl) rfl rfl rfl rfl rfl trivial) <|
   hk (fun cx => cx.q (ex_as rfl rfl)) <|
   hn) ?_
  intro a1 w1 f1
  obtain ⟨g1, u_g1, q_g1, b_g1⟩ := f1.al.1
  obtain ⟨g2, u_g2, q_g2, b_g2⟩ := f1.al.2.1
  obtain ⟨g3, u_g3, q_g3, b_g3⟩ := f1.al.2.2.1
  refine wp_seq ?_
  refine go_reg [bx g1 35 (stC a), bx g2 35 (stC b), ⟨g3, 35, (stC zS), some 5, (stC (bothR wT a b))⟩] [] [some (.agg (stC a)), some (.agg (stC b)), some (.tuple #[.agg (stC (bothR wT a b)), .int .i64 (bothE a b)]), some (.agg (stC (bothR wT a b))), some (.int .i64 (bothE a b)), none, some (.int .i64 (bothE a b))] mo f1.d f1.z f1.b (by kernel_rfl) ⟨b_g1, b_g2, b_g3, trivial⟩ (
   hk (fun cx => cx.q (ldSt rfl (cx.rq 2 u_g1) (cx.rn 0 rfl))) <|
   hk (fun cx => cx.q (ldSt rfl (cx.rq 3 u_g2) (cx.rn 1 rfl))) <|
   hc (fun _ _ wx cx => cx.c rfl (args3 (cx.u 0 rfl) (cx.u 1 rfl) rfl) Try.func52 (by decide +kernel) (qbotht_n a b wx HA.out HB.out) rfl rfl) <|
   hk (fun cx => cx.q (ex_ext (x := .tmp 8) rfl (cx.u 0 rfl) rfl)) <|
   hk (fun cx => cx.q (ex_ext (x := .tmp 8) rfl (cx.u 0 rfl) rfl)) <|
   hk (fun cx => cx.stR (wn rfl) rfl rfl 2 rfl (cx.rq 4 u_g3) (cx.u 0 rfl) (st_info _) ((stC_size _).trans (stC_size _).symm) (stC_one _) q_g3 rfl ⟨(ne_ptr (pairAt f1.ps 0 2 (by decide) rfl rfl) u_g1 u_g3), (ne_ptr (pairAt f1.ps 1 2 (by decide) rfl rfl) u_g2 u_g3), trivial⟩ trivial) <|
   kmu 0 <|
   hn) ?_
  intro a2 w2 f2
  refine wp_ret ?_
  have s4_1 := f2.q 4 u_g3
  try simp only [Exit.inBlock, Exit.then]
  refine bodyPost_ret (res_ct (fn := Try.f27) rfl s4_1 (load_row 35 f2.rows.2.2.1 Try.underlying35 rfl (st_info _)) (f2.v 6 rfl rfl rfl)) f2.d ?_
  exact ⟨rfl, f2.b⟩
theorem pt_y {t : Ty} (h : t.okB = true) (hu : t.unB = false) (hp : ptB t = true) : (t.kd == 1) = false := by
  unfold ptB at hp
  cases e : t.kd == 1 with
  | false => rfl
  | true => rw [yb e] at hp; exact absurd hp (by decide)
theorem pt_n {t : Ty} (h : t.okB = true) (hu : t.unB = false) (hp : ptB t = false) : (t.kd == 1) = true := by
  cases e : t.kd == 1 with
  | true => rfl
  | false => rw [ok_3 hu e hp] at h; cases h
theorem okS_reg {S : St} (h : okS S = true) {i : Nat} (hi : i < 11) : (S i).okB = true := by
  unfold okS at h
  rw [Bool.and_eq_true] at h
  exact allN_iff.1 h.1 i hi
theorem okS_slt {S : St} (h : okS S = true) {i : Nat} (hi : i < 8) : (S (11 + i)).okB = true ∧ (S (11 + i)).unB = false := by
  unfold okS at h
  rw [Bool.and_eq_true] at h
  have := allN_iff.1 h.2 i hi
  unfold sltP at this
  rw [Bool.and_eq_true, Bool.not_eq_true'] at this
  exact ⟨this.2, this.1⟩
set_option maxHeartbeats 4000000 in
theorem qwithin_n (a b : Ty) (W : World) (hk : a.okB = true) : Calls Try.prog 56 #[.agg (tyC a), .agg (tyC b)] W fun e w' => e = .returned (.bool (Ty.inB a b)) ∧ Below W.heap.size W w' := by
  have HK := Lib.hid hk
  clear hk
  refine calls_abs Try.func56 rfl (Nat.le_of_ble_eq_true rfl) ?_
  intro a0 d0 z0 h0
  replace z0 : a0.tmps.size = 43 := z0
  have s0_0 : a0.tmps.getD 0 undef = .agg (tyC a) := h0 0 (Nat.le_of_ble_eq_true rfl)
  have s1_0 : a0.tmps.getD 1 undef = .agg (tyC b) := h0 1 (Nat.le_of_ble_eq_true rfl)
  refine wp_seq ?_
  refine go_reg [] [⟨0, 2, 31, (tyC a), none, #[]⟩, ⟨1, 3, 31, (tyC b), none, #[]⟩] [none, none, oF] mo d0 z0 (Below.refl _ _) (by kernel_rfl) trivial (
   hk (fun cx => cx.al (wn rfl) 0 rfl (ex_box rfl (cx.rq 0 s0_0) rfl) rfl rfl rfl rfl rfl trivial) <|
   hk (fun cx => cx.al (wn rfl) 1 rfl (ex_box rfl (cx.rq 1 s1_0) rfl) rfl rfl rfl rfl rfl trivial) <|
   hk (fun cx => cx.q (ex_as rfl rfl)) <|
   hn) ?_
  intro a1 w1 f1
  obtain ⟨g1, u_g1, q_g1, b_g1⟩ := f1.al.1
  obtain ⟨g2, u_g2, q_g2, b_g2⟩ := f1.al.2.1
  refine wp_seq ?_
  refine wp_block ?_
  refine wp_seq ?_
  cases fk1 : b.kd == 0
  case false =>
   have Ffk1 := Lib.hid fk1; clear fk1
   refine go_reg [bx g2 31 (tyC b)] [] [some (pt g2 0), some (.int .i8 b.kd), oF, oF] mo f1.d f1.z f1.b (by kernel_rfl) ⟨b_g2, trivial⟩ (
    hk (fun cx => cx.q (ex_fa rfl (cx.rq 3 u_g2) (faStK31_0_0 _ _))) <|
    hk (fun cx => cx.q (ex_ld rfl (cx.u 0 rfl) (cx.rn 0 rfl) rfl Try.isAgg22)) <|
    hk (fun cx => cx.v (ex_eq (x := .tmp 7) rfl (cx.u 0 rfl) rfl) rfl (congrArg Value.bool Ffk1.out)) <|
    kmu 0 <|
    hn) ?_
   intro a2 w2 f2
   refine wp_cond_false (f2.v 3 rfl rfl rfl) ?_
   refine wp_seq ?_
   cases fk2 : a.kd == 0
   case false =>
    have Ffk2 := Lib.hid fk2; clear fk2
    have b_g1_1 := f2.k b_g1
    have s2_2 := f2.q 2 u_g1
    refine go_reg [bx g1 31 (tyC a)] [] [some (pt g1 0), some (.int .i8 a.kd), oF, oF] mo f2.d f2.z f2.b (by kernel_rfl) ⟨b_g1_1, trivial⟩ (
     hk (fun cx => cx.q (ex_fa rfl (cx.rq 2 s2_2) (faStK31_0_0 _ _))) <|
     hk (fun cx => cx.q (ex_ld rfl (cx.u 0 rfl) (cx.rn 0 rfl) rfl Try.isAgg22)) <|
     hk (fun cx => cx.v (ex_eq (x := .tmp 11) rfl (cx.u 0 rfl) rfl) rfl (congrArg Value.bool Ffk2.out)) <|
     kmu 0 <|
     hn) ?_
    intro a3 w3 f3
    refine wp_cond_false (f3.v 3 rfl rfl rfl) ?_
    refine wp_seq ?_
    cases fk3 : eqT b allT
    case false =>
     have Ffk3 := Lib.hid fk3; clear fk3
     have b_g2_3 := f3.k (f2.k b_g2)
     have s3_4 := f3.q 3 (f2.q 3 u_g2)
     refine go_reg [bx g2 31 (tyC b)] [] [some (.agg (tyC b)), some (.agg (tyC allT)), oF, oF] mo f3.d f3.z f3.b (by kernel_rfl) ⟨b_g2_3, trivial⟩ (
      hk (fun cx => cx.q (ldTy rfl (cx.rq 3 s3_4) (cx.rn 0 rfl))) <|
      hc (fun _ _ wx cx => cx.c rfl (args0 ) Try.func14 (by decide +kernel) (qscalar_n wx) rfl rfl) <|
      hk (fun cx => cx.v (v := .bool (eqT b allT)) (exec_eql (x := .tmp 14) (y := .tmp 15) rfl (cx.u 0 rfl) (cx.u 1 rfl) (by kernel_rfl) (eq_ty b allT _)) rfl (congrArg Value.bool Ffk3.out)) <|
      kmu 0 <|
      hn) ?_
     intro a4 w4 f4
     refine wp_cond_false (f4.v 3 rfl rfl rfl) ?_
     refine wp_seq ?_
     cases fk4 : a.kd != b.kd
     case false =>
      have Ffk4 := Lib.hid fk4; clear fk4
      have b_g1_5 := f4.k (f3.k b_g1_1)
      have b_g2_6 := f4.k b_g2_3
      have s2_7 := f4.q 2 (f3.q 2 s2_2)
      have s3_8 := f4.q 3 s3_4
      refine go_reg [bx g1 31 (tyC a), bx g2 31 (tyC b)] [] [some (pt g1 0), some (.int .i8 a.kd), some (pt g2 0), some (.int .i8 b.kd), oF, oF] mo f4.d f4.z f4.b (by kernel_rfl) ⟨b_g1_5, b_g2_6, trivial⟩ (
       hk (fun cx => cx.q (ex_fa rfl (cx.rq 2 s2_7) (faStK31_0_0 _ _))) <|
       hk (fun cx => cx.q (ex_ld rfl (cx.u 0 rfl) (cx.rn 0 rfl) rfl Try.isAgg22)) <|
       hk (fun cx => cx.q (ex_fa rfl (cx.rq 3 s3_8) (faStK31_0_0 _ _))) <|
       hk (fun cx => cx.q (ex_ld rfl (cx.u 0 rfl) (cx.rn 1 rfl) rfl Try.isAgg22)) <|
       hk (fun cx => cx.v (ex_ne (x := .tmp 19) (y := .tmp 21) rfl (cx.u 0 rfl) (cx.u 1 rfl)) rfl (congrArg Value.bool Ffk4.out)) <|
       kmu 0 <|
       hn) ?_
      intro a5 w5 f5
      refine wp_cond_false (f5.v 5 rfl rfl rfl) ?_
      refine wp_seq ?_
      cases fk5 : ptB a
      case false =>
       have Ffk5 := Lib.hid fk5; clear fk5
       have b_g1_9 := f5.k b_g1_5
       have s2_10 := f5.q 2 s2_7
       refine go_reg [bx g1 31 (tyC a)] [] [some (.agg (tyC a)), oF, oF] mo f5.d f5.z f5.b (by kernel_rfl) ⟨b_g1_9, trivial⟩ (
        hk (fun cx => cx.q (ldTy rfl (cx.rq 2 s2_10) (cx.rn 0 rfl))) <|
        hc (fun _ _ wx cx => cx.c rfl (args1 (cx.u 0 rfl)) Try.func83 (by decide +kernel) (qptr_n a wx) rfl (congrArg Value.bool Ffk5.out)) <|
        kmu 0 <|
        hn) ?_
       intro a6 w6 f6
       refine wp_cond_false (f6.v 2 rfl rfl rfl) ?_
       refine wp_skip ?_
       refine wp_seq ?_
       have b_g1_11 := f6.k b_g1_9
       have b_g2_12 := f6.k (f5.k b_g2_6)
       have s2_13 := f6.q 2 s2_10
       have s3_14 := f6.q 3 (f5.q 3 s3_8)
       refine go_reg [bx g1 31 (tyC a), bx g2 31 (tyC b)] [] [some (pt g1 1), some (.agg (scC a.s)), some (pt g2 1), some (.agg (scC b.s)), some (.bool (Sc.inB a.s b.s)), some (.bool (Sc.inB a.s b.s))] mo f6.d f6.z f6.b (by kernel_rfl) ⟨b_g1_11, b_g2_12, trivial⟩ (
        hk (fun cx => cx.q (ex_fa rfl (cx.rq 2 s2_13) (faStK31_1_0 _ _))) <|
        hk (fun cx => cx.q (exec_loadR 29 _ rfl g1 1 (cx.u 0 rfl) (cx.rn 0 rfl) [.int .u64 a.s.r.u.lo, .int .u64 a.s.r.u.hi, .int .i64 a.s.r.s.lo, .int .i64 a.s.r.s.hi, .int .u64 (V a.s.k.v), .int .u64 (V a.s.k.m)] rfl _ Try.underlying29 rfl (by kernel_rfl))) <|
        hk (fun cx => cx.q (ex_fa rfl (cx.rq 3 s3_14) (faStK31_1_0 _ _))) <|
        hk (fun cx => cx.q (exec_loadR 29 _ rfl g2 1 (cx.u 0 rfl) (cx.rn 1 rfl) [.int .u64 b.s.r.u.lo, .int .u64 b.s.r.u.hi, .int .i64 b.s.r.s.lo, .int .i64 b.s.r.s.hi, .int .u64 (V b.s.k.v), .int .u64 (V b.s.k.m)] rfl _ Try.underlying29 rfl (by kernel_rfl))) <|
        hc (fun _ _ wx cx => cx.c rfl (args2 (cx.u 0 rfl) (cx.u 1 rfl)) Try.func84 (by decide +kernel) (win_n a.s b.s wx) rfl rfl) <|
        kmu 0 <|
        hn) ?_
       intro a7 w7 f7
       refine wp_ret ?_
       try simp only [Exit.inBlock, Exit.then]
       refine bodyPost_ret (res_t (fn := Try.f56) rfl (f7.v 5 rfl rfl rfl)) f7.d ?_
       have hub : Ty.unB b = false := Ffk1.out
       have hua : Ty.unB a = false := Ffk2.out
       have hk : (a.kd == 1) = true := pt_n HK.out hua Ffk5.out
       have HE : (.bool (Sc.inB a.s b.s) : Value) = .bool (Ty.inB a b) := by unfold Ty.inB; simp only [hub, hua, Ffk3.out, Ffk4.out, hk, if_true, if_false, Bool.false_eq_true, Bool.false_and, Bool.true_and, Bool.and_false, Bool.and_true, Bool.true_or, Bool.or_true, Bool.false_or, Bool.or_false]
       exact ⟨retV HE, f7.b⟩
      have Ffk5 := Lib.hid fk5; clear fk5
      have b_g1_15 := f5.k b_g1_5
      have s2_16 := f5.q 2 s2_7
      refine go_reg [bx g1 31 (tyC a)] [] [some (.agg (tyC a)), oT, oT] mo f5.d f5.z f5.b (by kernel_rfl) ⟨b_g1_15, trivial⟩ (
       hk (fun cx => cx.q (ldTy rfl (cx.rq 2 s2_16) (cx.rn 0 rfl))) <|
       hc (fun _ _ wx cx => cx.c rfl (args1 (cx.u 0 rfl)) Try.func83 (by decide +kernel) (qptr_n a wx) rfl (congrArg Value.bool Ffk5.out)) <|
       kmu 0 <|
       hn) ?_
      intro a8 w8 f8
      refine wp_cond_true (f8.v 2 rfl rfl rfl) ?_
      refine wp_seq ?_
      cases fk6 : decide (b.lo ≤ a.lo)
      case false =>
       have Ffk6 := Lib.hid fk6; clear fk6
       have b_g1_17 := f8.k b_g1_15
       have b_g2_18 := f8.k (f5.k b_g2_6)
       have s2_19 := f8.q 2 s2_16
       have s3_20 := f8.q 3 (f5.q 3 s3_8)
       refine go_reg [bx g1 31 (tyC a), bx g2 31 (tyC b)] [] [some (pt g1 7), some (.int .i64 a.lo), some (pt g2 7), some (.int .i64 b.lo), oF, oF, oU, oU, oU, oU, oU, oF, oF] mo f8.d f8.z f8.b (by kernel_rfl) ⟨b_g1_17, b_g2_18, trivial⟩ (
        hk (fun cx => cx.q (ex_fa rfl (cx.rq 2 s2_19) (faStK31_2_0 _ _))) <|
        hk (fun cx => cx.q (ex_ld rfl (cx.u 0 rfl) (cx.rn 0 rfl) rfl Try.isAgg3)) <|
        hk (fun cx => cx.q (ex_fa rfl (cx.rq 3 s3_20) (faStK31_2_0 _ _))) <|
        hk (fun cx => cx.q (ex_ld rfl (cx.u 0 rfl) (cx.rn 1 rfl) rfl Try.isAgg3)) <|
        hk (fun cx => cx.v (ex_ge (x := .tmp 27) (y := .tmp 29) rfl (cx.u 0 rfl) (cx.u 1 rfl)) rfl (congrArg Value.bool Ffk6.out)) <|
        kmu 0 <|
        kno 0 <|
        kno 1 <|
        kno 0 <|
        kno 1 <|
        kno 2 <|
        hk (fun cx => cx.q (ex_pf rfl (cx.u 0 rfl) rfl)) <|
        kmu 0 <|
        hn) ?_
       intro a9 w9 f9
       refine wp_ret ?_
       try simp only [Exit.inBlock, Exit.then]
       refine bodyPost_ret (res_t (fn := Try.f56) rfl (f9.v 12 rfl rfl rfl)) f9.d ?_
       have hub : Ty.unB b = false := Ffk1.out
       have hua : Ty.unB a = false := Ffk2.out
       have hk : (a.kd == 1) = false := pt_y HK.out hua Ffk5.out
       have HE : (.bool false : Value) = .bool (Ty.inB a b) := by unfold Ty.inB; simp only [hub, hua, Ffk3.out, Ffk4.out, hk, Ffk6.out, if_true, if_false, Bool.false_eq_true, Bool.false_and, Bool.true_and, Bool.and_false, Bool.and_true, Bool.true_or, Bool.or_true, Bool.false_or, Bool.or_false]
       exact ⟨retV HE, f9.b⟩
      have Ffk6 := Lib.hid fk6; clear fk6
      cases fk7 : decide (a.hi ≤ b.hi)
      case false =>
       have Ffk7 := Lib.hid fk7; clear fk7
       have b_g1_21 := f8.k b_g1_15
       have b_g2_22 := f8.k (f5.k b_g2_6)
       have s2_23 := f8.q 2 s2_16
       have s3_24 := f8.q 3 (f5.q 3 s3_8)
       refine go_reg [bx g1 31 (tyC a), bx g2 31 (tyC b)] [] [some (pt g1 7), some (.int .i64 a.lo), some (pt g2 7), some (.int .i64 b.lo), oT, oT, some (pt g1 8), some (.int .i64 a.hi), some (pt g2 8), some (.int .i64 b.hi), oF, oF, oF] mo f8.d f8.z f8.b (by kernel_rfl) ⟨b_g1_21, b_g2_22, trivial⟩ (
        hk (fun cx => cx.q (ex_fa rfl (cx.rq 2 s2_23) (faStK31_2_0 _ _))) <|
        hk (fun cx => cx.q (ex_ld rfl (cx.u 0 rfl) (cx.rn 0 rfl) rfl Try.isAgg3)) <|
        hk (fun cx => cx.q (ex_fa rfl (cx.rq 3 s3_24) (faStK31_2_0 _ _))) <|
        hk (fun cx => cx.q (ex_ld rfl (cx.u 0 rfl) (cx.rn 1 rfl) rfl Try.isAgg3)) <|
        hk (fun cx => cx.v (ex_ge (x := .tmp 27) (y := .tmp 29) rfl (cx.u 0 rfl) (cx.u 1 rfl)) rfl (congrArg Value.bool Ffk6.out)) <|
        kmu 0 <|
        hk (fun cx => cx.vy 0 (ex_fa rfl (cx.rq 2 s2_23) (faStK31_3_0 _ _))) <|
        hk (fun cx => cx.vy 1 (ex_ld rfl (cx.u 0 rfl) (cx.rn 0 rfl) rfl Try.isAgg3)) <|
        hk (fun cx => cx.vy 0 (ex_fa rfl (cx.rq 3 s3_24) (faStK31_3_0 _ _))) <|
        hk (fun cx => cx.vy 1 (ex_ld rfl (cx.u 0 rfl) (cx.rn 1 rfl) rfl Try.isAgg3)) <|
        hk (fun cx => cx.vy 2 (ex_le (x := .tmp 33) (y := .tmp 35) rfl (cx.u 0 rfl) (cx.u 1 rfl)) (congrArg Value.bool Ffk7.out)) <|
        hk (fun cx => cx.q (ex_pt rfl (cx.u 0 rfl) (cx.u 1 rfl))) <|
        kmu 0 <|
        hn) ?_
       intro a10 w10 f10
       refine wp_ret ?_
       try simp only [Exit.inBlock, Exit.then]
       refine bodyPost_ret (res_t (fn := Try.f56) rfl (f10.v 12 rfl rfl rfl)) f10.d ?_
       have hub : Ty.unB b = false := Ffk1.out
       have hua : Ty.unB a = false := Ffk2.out
       have hk : (a.kd == 1) = false := pt_y HK.out hua Ffk5.out
       have HE : (.bool false : Value) = .bool (Ty.inB a b) := by unfold Ty.inB; simp only [hub, hua, Ffk3.out, Ffk4.out, hk, Ffk6.out, Ffk7.out, if_true, if_false, Bool.false_eq_true, Bool.false_and, Bool.true_and, Bool.and_false, Bool.and_true, Bool.true_or, Bool.or_true, Bool.false_or, Bool.or_false]
       exact ⟨retV HE, f10.b⟩
      have Ffk7 := Lib.hid fk7; clear fk7
      have b_g1_25 := f8.k b_g1_15
      have b_g2_26 := f8.k (f5.k b_g2_6)
      have s2_27 := f8.q 2 s2_16
      have s3_28 := f8.q 3 (f5.q 3 s3_8)
      refine go_reg [bx g1 31 (tyC a), bx g2 31 (tyC b)] [] [some (pt g1 7), some (.int .i64 a.lo), some (pt g2 7), some (.int .i64 b.lo), oT, oT, some (pt g1 8), some (.int .i64 a.hi), some (pt g2 8), some (.int .i64 b.hi), oT, oT, oT] mo f8.d f8.z f8.b (by kernel_rfl) ⟨b_g1_25, b_g2_26, trivial⟩ (
       hk (fun cx => cx.q (ex_fa rfl (cx.rq 2 s2_27) (faStK31_2_0 _ _))) <|
       hk (fun cx => cx.q (ex_ld rfl (cx.u 0 rfl) (cx.rn 0 rfl) rfl Try.isAgg3)) <|
       hk (fun cx => cx.q (ex_fa rfl (cx.rq 3 s3_28) (faStK31_2_0 _ _))) <|
       hk (fun cx => cx.q (ex_ld rfl (cx.u 0 rfl) (cx.rn 1 rfl) rfl Try.isAgg3)) <|
       hk (fun cx => cx.v (ex_ge (x := .tmp 27) (y := .tmp 29) rfl (cx.u 0 rfl) (cx.u 1 rfl)) rfl (congrArg Value.bool Ffk6.out)) <|
       kmu 0 <|
       hk (fun cx => cx.vy 0 (ex_fa rfl (cx.rq 2 s2_27) (faStK31_3_0 _ _))) <|
       hk (fun cx => cx.vy 1 (ex_ld rfl (cx.u 0 rfl) (cx.rn 0 rfl) rfl Try.isAgg3)) <|
       hk (fun cx => cx.vy 0 (ex_fa rfl (cx.rq 3 s3_28) (faStK31_3_0 _ _))) <|
       hk (fun cx => cx.vy 1 (ex_ld rfl (cx.u 0 rfl) (cx.rn 1 rfl) rfl Try.isAgg3)) <|
       hk (fun cx => cx.vy 2 (ex_le (x := .tmp 33) (y := .tmp 35) rfl (cx.u 0 rfl) (cx.u 1 rfl)) (congrArg Value.bool Ffk7.out)) <|
       hk (fun cx => cx.q (ex_pt rfl (cx.u 0 rfl) (cx.u 1 rfl))) <|
       kmu 0 <|
       hn) ?_
      intro a11 w11 f11
      refine wp_ret ?_
      try simp only [Exit.inBlock, Exit.then]
      refine bodyPost_ret (res_t (fn := Try.f56) rfl (f11.v 12 rfl rfl rfl)) f11.d ?_
      have hub : Ty.unB b = false := Ffk1.out
      have hua : Ty.unB a = false := Ffk2.out
      have hk : (a.kd == 1) = false := pt_y HK.out hua Ffk5.out
      have HE : (.bool true : Value) = .bool (Ty.inB a b) := by unfold Ty.inB; simp only [hub, hua, Ffk3.out, Ffk4.out, hk, Ffk6.out, Ffk7.out, if_true, if_false, Bool.false_eq_true, Bool.false_and, Bool.true_and, Bool.and_false, Bool.and_true, Bool.true_or, Bool.or_true, Bool.false_or, Bool.or_false]
      exact ⟨retV HE, f11.b⟩
     have Ffk4 := Lib.hid fk4; clear fk4
     have b_g1_29 := f4.k (f3.k b_g1_1)
     have b_g2_30 := f4.k b_g2_3
     have s2_31 := f4.q 2 (f3.q 2 s2_2)
     have s3_32 := f4.q 3 s3_4
     refine go_reg [bx g1 31 (tyC a), bx g2 31 (tyC b)] [] [some (pt g1 0), some (.int .i8 a.kd), some (pt g2 0), some (.int .i8 b.kd), oT, oT] mo f4.d f4.z f4.b (by kernel_rfl) ⟨b_g1_29, b_g2_30, trivial⟩ (
      hk (fun cx => cx.q (ex_fa rfl (cx.rq 2 s2_31) (faStK31_0_0 _ _))) <|
      hk (fun cx => cx.q (ex_ld rfl (cx.u 0 rfl) (cx.rn 0 rfl) rfl Try.isAgg22)) <|
      hk (fun cx => cx.q (ex_fa rfl (cx.rq 3 s3_32) (faStK31_0_0 _ _))) <|
      hk (fun cx => cx.q (ex_ld rfl (cx.u 0 rfl) (cx.rn 1 rfl) rfl Try.isAgg22)) <|
      hk (fun cx => cx.v (ex_ne (x := .tmp 19) (y := .tmp 21) rfl (cx.u 0 rfl) (cx.u 1 rfl)) rfl (congrArg Value.bool Ffk4.out)) <|
      kmu 0 <|
      hn) ?_
     intro a12 w12 f12
     refine wp_cond_true (f12.v 5 rfl rfl rfl) ?_
     refine wp_seq ?_
     refine go_reg [] [] [oF] mo f12.d f12.z f12.b (by kernel_rfl) trivial (
      hk (fun cx => cx.q (ex_as rfl rfl)) <|
      hn) ?_
     intro a13 w13 f13
     refine wp_ret ?_
     try simp only [Exit.inBlock, Exit.then]
     refine bodyPost_ret (res_t (fn := Try.f56) rfl (f13.v 0 rfl rfl rfl)) f13.d ?_
     have hub : Ty.unB b = false := Ffk1.out
     have hua : Ty.unB a = false := Ffk2.out
     have HE : (.bool false : Value) = .bool (Ty.inB a b) := by unfold Ty.inB; simp only [hub, hua, Ffk3.out, Ffk4.out, if_true, if_false, Bool.false_eq_true, Bool.false_and, Bool.true_and, Bool.and_false, Bool.and_true, Bool.true_or, Bool.or_true, Bool.false_or, Bool.or_false]
     exact ⟨retV HE, f13.b⟩
    have Ffk3 := Lib.hid fk3; clear fk3
    have b_g2_33 := f3.k (f2.k b_g2)
    have s3_34 := f3.q 3 (f2.q 3 u_g2)
    refine go_reg [bx g2 31 (tyC b)] [] [some (.agg (tyC b)), some (.agg (tyC allT)), oT, oT] mo f3.d f3.z f3.b (by kernel_rfl) ⟨b_g2_33, trivial⟩ (
     hk (fun cx => cx.q (ldTy rfl (cx.rq 3 s3_34) (cx.rn 0 rfl))) <|
     hc (fun _ _ wx cx => cx.c rfl (args0 ) Try.func14 (by decide +kernel) (qscalar_n wx) rfl rfl) <|
     hk (fun cx => cx.v (v := .bool (eqT b allT)) (exec_eql (x := .tmp 14) (y := .tmp 15) rfl (cx.u 0 rfl) (cx.u 1 rfl) (by kernel_rfl) (eq_ty b allT _)) rfl (congrArg Value.bool Ffk3.out)) <|
     kmu 0 <|
     hn) ?_
    intro a14 w14 f14
    refine wp_cond_true (f14.v 3 rfl rfl rfl) ?_
    refine wp_seq ?_
    refine go_reg [] [] [oT] mo f14.d f14.z f14.b (by kernel_rfl) trivial (
     hk (fun cx => cx.q (ex_as rfl rfl)) <|
     hn) ?_
    intro a15 w15 f15
    refine wp_ret ?_
    try simp only [Exit.inBlock, Exit.then]
    refine bodyPost_ret (res_t (fn := Try.f56) rfl (f15.v 0 rfl rfl rfl)) f15.d ?_
    have hub : Ty.unB b = false := Ffk1.out
    have hua : Ty.unB a = false := Ffk2.out
    have HE : (.bool true : Value) = .bool (Ty.inB a b) := by unfold Ty.inB; simp only [hub, hua, Ffk3.out, if_true, if_false, Bool.false_eq_true, Bool.false_and, Bool.true_and, Bool.and_false, Bool.and_true, Bool.true_or, Bool.or_true, Bool.false_or, Bool.or_false]
    exact ⟨retV HE, f15.b⟩
   have Ffk2 := Lib.hid fk2; clear fk2
   have b_g1_35 := f2.k b_g1
   have s2_36 := f2.q 2 u_g1
   refine go_reg [bx g1 31 (tyC a)] [] [some (pt g1 0), some (.int .i8 a.kd), oT, oT] mo f2.d f2.z f2.b (by kernel_rfl) ⟨b_g1_35, trivial⟩ (
    hk (fun cx => cx.q (ex_fa rfl (cx.rq 2 s2_36) (faStK31_0_0 _ _))) <|
    hk (fun cx => cx.q (ex_ld rfl (cx.u 0 rfl) (cx.rn 0 rfl) rfl Try.isAgg22)) <|
    hk (fun cx => cx.v (ex_eq (x := .tmp 11) rfl (cx.u 0 rfl) rfl) rfl (congrArg Value.bool Ffk2.out)) <|
    kmu 0 <|
    hn) ?_
   intro a16 w16 f16
   refine wp_cond_true (f16.v 3 rfl rfl rfl) ?_
   refine wp_seq ?_
   refine go_reg [] [] [oF] mo f16.d f16.z f16.b (by kernel_rfl) trivial (
    hk (fun cx => cx.q (ex_as rfl rfl)) <|
    hn) ?_
   intro a17 w17 f17
   refine wp_ret ?_
   try simp only [Exit.inBlock, Exit.then]
   refine bodyPost_ret (res_t (fn := Try.f56) rfl (f17.v 0 rfl rfl rfl)) f17.d ?_
   have hub : Ty.unB b = false := Ffk1.out
   have hua : Ty.unB a = true := Ffk2.out
   have HE : (.bool false : Value) = .bool (Ty.inB a b) := by unfold Ty.inB; simp only [hub, hua, if_true, if_false, Bool.false_eq_true, Bool.false_and, Bool.true_and, Bool.and_false, Bool.and_true, Bool.true_or, Bool.or_true, Bool.false_or, Bool.or_false]
   exact ⟨retV HE, f17.b⟩
  have Ffk1 := Lib.hid fk1; clear fk1
  refine go_reg [bx g2 31 (tyC b)] [] [some (pt g2 0), some (.int .i8 b.kd), oT, oT] mo f1.d f1.z f1.b (by kernel_rfl) ⟨b_g2, trivial⟩ (
   hk (fun cx => cx.q (ex_fa rfl (cx.rq 3 u_g2) (faStK31_0_0 _ _))) <|
   hk (fun cx => cx.q (ex_ld rfl (cx.u 0 rfl) (cx.rn 0 rfl) rfl Try.isAgg22)) <|
   hk (fun cx => cx.v (ex_eq (x := .tmp 7) rfl (cx.u 0 rfl) rfl) rfl (congrArg Value.bool Ffk1.out)) <|
   kmu 0 <|
   hn) ?_
  intro a18 w18 f18
  refine wp_cond_true (f18.v 3 rfl rfl rfl) ?_
  refine wp_seq ?_
  refine go_reg [] [] [oT] mo f18.d f18.z f18.b (by kernel_rfl) trivial (
   hk (fun cx => cx.q (ex_as rfl rfl)) <|
   hn) ?_
  intro a19 w19 f19
  refine wp_ret ?_
  try simp only [Exit.inBlock, Exit.then]
  refine bodyPost_ret (res_t (fn := Try.f56) rfl (f19.v 0 rfl rfl rfl)) f19.d ?_
  have hub : Ty.unB b = true := Ffk1.out
  have HE : (.bool true : Value) = .bool (Ty.inB a b) := by unfold Ty.inB; simp only [hub, if_true, if_false, Bool.false_eq_true, Bool.false_and, Bool.true_and, Bool.and_false, Bool.and_true, Bool.true_or, Bool.or_true, Bool.false_or, Bool.or_false]
  exact ⟨retV HE, f19.b⟩
set_option maxHeartbeats 4000000 in
theorem qin_n (a b : St) (W : World) : Calls Try.prog 29 #[.agg (stC a), .agg (stC b)] W fun e w' => e = .returned (.bool (inS a b)) ∧ Below W.heap.size W w' := by
  refine calls_abs Try.func29 rfl (Nat.le_of_ble_eq_true rfl) ?_
  intro a0 d0 z0 h0
  replace z0 : a0.tmps.size = 43 := z0
  have s0_0 : a0.tmps.getD 0 undef = .agg (stC a) := h0 0 (Nat.le_of_ble_eq_true rfl)
  have s1_0 : a0.tmps.getD 1 undef = .agg (stC b) := h0 1 (Nat.le_of_ble_eq_true rfl)
  refine wp_seq ?_
  refine go_reg [] [⟨0, 2, 35, (stC a), none, #[]⟩, ⟨1, 3, 35, (stC b), none, #[]⟩] [none, none, oF] mo d0 z0 (Below.refl _ _) (by kernel_rfl) trivial (
   hk (fun cx => cx.al (wn rfl) 0 rfl (ex_box rfl (cx.rq 0 s0_0) rfl) rfl rfl rfl rfl rfl trivial) <|
   hk (fun cx => cx.al (wn rfl) 1 rfl (ex_box rfl (cx.rq 1 s1_0) rfl) rfl rfl rfl rfl rfl trivial) <|
   hk (fun cx => cx.q (ex_as rfl rfl)) <|
   hn) ?_
  intro a1 w1 f1
  obtain ⟨g1, u_g1, q_g1, b_g1⟩ := f1.al.1
  obtain ⟨g2, u_g2, q_g2, b_g2⟩ := f1.al.2.1
  refine wp_seq ?_
  refine wp_seq ?_
  cases fk1 : okS a
  case false =>
   have Ffk1 := Lib.hid fk1; clear fk1
   refine go_reg [bx g1 35 (stC a)] [] [some (.agg (stC a)), oF, oT, oT, oU, oU, oU, oT] mo f1.d f1.z f1.b (by kernel_rfl) ⟨b_g1, trivial⟩ (
    hk (fun cx => cx.q (ldSt rfl (cx.rq 2 u_g1) (cx.rn 0 rfl))) <|
    hc (fun _ _ wx cx => cx.c rfl (args1 (cx.u 0 rfl)) Try.func16 (by decide +kernel) (qmay_n a wx) rfl (congrArg Value.bool Ffk1.out)) <|
    hk (fun cx => cx.q (ex_not (x := .tmp 8) rfl (cx.u 0 rfl))) <|
    kmu 0 <|
    kno 0 <|
    kno 1 <|
    kno 1 <|
    hk (fun cx => cx.q (ex_pt rfl (cx.u 0 rfl) rfl)) <|
    hn) ?_
   intro a2 w2 f2
   refine wp_cond_true (f2.v 7 rfl rfl rfl) ?_
   refine wp_seq ?_
   refine go_reg [] [] [oF] mo f2.d f2.z f2.b (by kernel_rfl) trivial (
    hk (fun cx => cx.q (ex_as rfl rfl)) <|
    hn) ?_
   intro a3 w3 f3
   refine wp_ret ?_
   try simp only [Exit.inBlock, Exit.then]
   refine bodyPost_ret (res_t (fn := Try.f29) rfl (f3.v 0 rfl rfl rfl)) f3.d ?_
   have HE : (.bool false : Value) = .bool (inS a b) := by unfold inS; simp only [Ffk1.out, Bool.false_and, Bool.true_and]
   exact ⟨retV HE, f3.b⟩
  have Ffk1 := Lib.hid fk1; clear fk1
  have hoa := Ffk1.out
  cases fk2 : okS b
  case false =>
   have Ffk2 := Lib.hid fk2; clear fk2
   refine go_reg [bx g1 35 (stC a), bx g2 35 (stC b)] [] [some (.agg (stC a)), oT, oF, oF, some (.agg (stC b)), oF, oT, oT] mo f1.d f1.z f1.b (by kernel_rfl) ⟨b_g1, b_g2, trivial⟩ (
    hk (fun cx => cx.q (ldSt rfl (cx.rq 2 u_g1) (cx.rn 0 rfl))) <|
    hc (fun _ _ wx cx => cx.c rfl (args1 (cx.u 0 rfl)) Try.func16 (by decide +kernel) (qmay_n a wx) rfl (congrArg Value.bool Ffk1.out)) <|
    hk (fun cx => cx.q (ex_not (x := .tmp 8) rfl (cx.u 0 rfl))) <|
    kmu 0 <|
    hk (fun cx => cx.vy 0 (ldSt rfl (cx.rq 3 u_g2) (cx.rn 1 rfl))) <|
    hc (fun _ _ wx cx => cx.call (cx.wy rfl rfl rfl rfl (cx.u 1 rfl)) rfl rfl (args1 (cx.u 0 rfl)) Try.func16 (by decide +kernel) rfl (qmay_n b wx) rfl rfl (congrArg Value.bool Ffk2.out) rfl) <|
    hk (fun cx => cx.vy 1 (ex_not (x := .tmp 12) rfl (cx.u 0 rfl))) <|
    hk (fun cx => cx.q (ex_pf rfl (cx.u 0 rfl) (cx.u 1 rfl))) <|
    hn) ?_
   intro a4 w4 f4
   refine wp_cond_true (f4.v 7 rfl rfl rfl) ?_
   refine wp_seq ?_
   refine go_reg [] [] [oF] mo f4.d f4.z f4.b (by kernel_rfl) trivial (
    hk (fun cx => cx.q (ex_as rfl rfl)) <|
    hn) ?_
   intro a5 w5 f5
   refine wp_ret ?_
   try simp only [Exit.inBlock, Exit.then]
   refine bodyPost_ret (res_t (fn := Try.f29) rfl (f5.v 0 rfl rfl rfl)) f5.d ?_
   have HE : (.bool false : Value) = .bool (inS a b) := by unfold inS; simp only [Ffk1.out, Ffk2.out, Bool.false_and, Bool.true_and]
   exact ⟨retV HE, f5.b⟩
  have Ffk2 := Lib.hid fk2; clear fk2
  refine go_reg [bx g1 35 (stC a), bx g2 35 (stC b)] [] [some (.agg (stC a)), oT, oF, oF, some (.agg (stC b)), oT, oF, oF] mo f1.d f1.z f1.b (by kernel_rfl) ⟨b_g1, b_g2, trivial⟩ (
   hk (fun cx => cx.q (ldSt rfl (cx.rq 2 u_g1) (cx.rn 0 rfl))) <|
   hc (fun _ _ wx cx => cx.c rfl (args1 (cx.u 0 rfl)) Try.func16 (by decide +kernel) (qmay_n a wx) rfl (congrArg Value.bool Ffk1.out)) <|
   hk (fun cx => cx.q (ex_not (x := .tmp 8) rfl (cx.u 0 rfl))) <|
   kmu 0 <|
   hk (fun cx => cx.vy 0 (ldSt rfl (cx.rq 3 u_g2) (cx.rn 1 rfl))) <|
   hc (fun _ _ wx cx => cx.call (cx.wy rfl rfl rfl rfl (cx.u 1 rfl)) rfl rfl (args1 (cx.u 0 rfl)) Try.func16 (by decide +kernel) rfl (qmay_n b wx) rfl rfl (congrArg Value.bool Ffk2.out) rfl) <|
   hk (fun cx => cx.vy 1 (ex_not (x := .tmp 12) rfl (cx.u 0 rfl))) <|
   hk (fun cx => cx.q (ex_pf rfl (cx.u 0 rfl) (cx.u 1 rfl))) <|
   hn) ?_
  intro a6 w6 f6
  refine wp_cond_false (f6.v 7 rfl rfl rfl) ?_
  refine wp_skip ?_
  refine wp_seq ?_
  refine wp_seq ?_
  refine go_reg [] [] [some (.int .i64 0)] mo f6.d f6.z f6.b (by kernel_rfl) trivial (
   hk (fun cx => cx.q (ex_as rfl rfl)) <|
   hn) ?_
  intro a7 w7 f7
  refine wp_block ?_
  have neL1_0_1 := (ne_ptr (pairAt f1.ps 0 1 (by decide) rfl rfl) u_g1 u_g2)
  have s2_1 := f7.q 2 (f6.q 2 u_g1)
  have s3_2 := f7.q 3 (f6.q 3 u_g2)
  have b_g1_3 := f7.k (f6.k b_g1)
  have b_g2_4 := f7.k (f6.k b_g2)
  refine wp_count 11 (fun k1 aI wI => allN (inR a b) k1 = true ∧ Mid 43 W [(2, .pointer (some ⟨g1, 0, none⟩)), (3, .pointer (some ⟨g2, 0, none⟩)), (5, .int .i64 (k1 : Int))] [(g1, 35, (stC a)), (g2, 35, (stC b))] aI wI) ⟨rfl, f7.d, f7.z, f7.b, ⟨s2_1, s3_2, (f7.v 0 rfl rfl rfl), trivial⟩, ⟨b_g1_3, b_g2_4, trivial⟩⟩ ?_
  intro k1 aL1 wL1 hlek1 hI1
  obtain ⟨hp1, dL1, zL1, BL1, ⟨sL1_2, sL1_3, sL1_5, -⟩, ⟨bL1_g1, bL1_g2, -⟩⟩ := hI1
  replace sL1_2 : aL1.tmps.getD 2 undef = .pointer (some ⟨g1, 0, none⟩) := sL1_2
  replace sL1_3 : aL1.tmps.getD 3 undef = .pointer (some ⟨g2, 0, none⟩) := sL1_3
  replace sL1_5 : aL1.tmps.getD 5 undef = .int .i64 (k1 : Int) := sL1_5
  replace bL1_g1 : wL1.heap[g1]? = some (.cells (stC a) 35 (0, 0)) := bL1_g1
  replace bL1_g2 : wL1.heap[g2]? = some (.cells (stC b) 35 (0, 0)) := bL1_g2
  refine wp_seq ?_
  refine wp_seq ?_
  cases fk3 : decide ((k1 : Int) < 11)
  case true =>
   have Ffk3 := Lib.hid fk3; clear fk3
   have hlt1 : k1 < 11 := by have := Ffk3.out; simp only [decide_eq_true_eq] at this; omega
   refine go_reg [] [] [some (.int .i64 (k1 : Int)), oT] mo dL1 zL1 BL1 (by kernel_rfl) trivial (
    hk (fun cx => cx.q (ex_mv rfl (cx.rq 5 sL1_5))) <|
    hk (fun cx => cx.v (ex_lt (x := .tmp 15) rfl (cx.u 0 rfl) rfl) rfl (congrArg Value.bool Ffk3.out)) <|
    hn) ?_
   intro a8 w8 f8
   refine wp_cond_true (f8.v 1 rfl rfl rfl) ?_
   refine wp_skip ?_
   refine wp_seq ?_
   refine wp_block ?_
   refine wp_seq ?_
   cases fk4 : Ty.inB (a k1) (b k1)
   case false =>
    have Ffk4 := Lib.hid fk4; clear fk4
    have b_g1_5 := f8.k bL1_g1
    have b_g2_6 := f8.k bL1_g2
    have s5_7 := f8.q 5 sL1_5
    have s2_8 := f8.q 2 sL1_2
    have s3_9 := f8.q 3 sL1_3
    refine go_reg [bx g1 35 (stC a), bx g2 35 (stC b)] [] [some (.int .i64 (k1 : Int)), some (pt g1 0), some (pt g1 (9 * k1)), some (.agg (tyC (a k1))), some (.int .i64 (k1 : Int)), some (pt g2 0), some (pt g2 (9 * k1)), some (.agg (tyC (b k1))), oF, oT] mo f8.d f8.z f8.b (by kernel_rfl) ⟨b_g1_5, b_g2_6, trivial⟩ (
     hk (fun cx => cx.q (ex_mv rfl (cx.rq 5 s5_7))) <|
     hk (fun cx => cx.q (ex_fa rfl (cx.rq 2 s2_8) (faStK35_0_0 _ _))) <|
     hk (fun cx => cx.v (ex_ia (n := 11) (sz := 9) rfl (cx.u 0 rfl) (cx.u 1 rfl) Try.underlying32 (by kernel_rfl) (by omega) (by omega) (by omega)) rfl rfl) <|
     hk (fun cx => cx.v (ldEl (by omega) rfl (cx.u 0 rfl) (cx.rn 0 rfl)) rfl rfl) <|
     hk (fun cx => cx.q (ex_mv rfl (cx.rq 5 s5_7))) <|
     hk (fun cx => cx.q (ex_fa rfl (cx.rq 3 s3_9) (faStK35_0_0 _ _))) <|
     hk (fun cx => cx.v (ex_ia (n := 11) (sz := 9) rfl (cx.u 0 rfl) (cx.u 1 rfl) Try.underlying32 (by kernel_rfl) (by omega) (by omega) (by omega)) rfl rfl) <|
     hk (fun cx => cx.v (ldEl (by omega) rfl (cx.u 0 rfl) (cx.rn 1 rfl)) rfl rfl) <|
     hc (fun _ _ wx cx => cx.c rfl (args2 (cx.u 0 rfl) (cx.u 1 rfl)) Try.func56 (by decide +kernel) (qwithin_n (a k1) (b k1) wx (okS_reg hoa (by omega))) rfl (congrArg Value.bool Ffk4.out)) <|
     hk (fun cx => cx.q (ex_not (x := .tmp 27) rfl (cx.u 0 rfl))) <|
     hn) ?_
    intro a9 w9 f9
    refine wp_cond_true (f9.v 9 rfl rfl rfl) ?_
    refine wp_seq ?_
    refine go_reg [] [] [oF] mo f9.d f9.z f9.b (by kernel_rfl) trivial (
     hk (fun cx => cx.q (ex_as rfl rfl)) <|
     hn) ?_
    intro a10 w10 f10
    refine wp_ret ?_
    try simp only [Exit.inBlock, Exit.then]
    refine bodyPost_ret (res_t (fn := Try.f29) rfl (f10.v 0 rfl rfl rfl)) f10.d ?_
    have HN := allN_no (p := inR a b) hlt1 (show inR a b k1 = false from by show Ty.inB (a k1) (b k1) = _; simp only [Ffk4.out, Bool.not_true, Bool.not_false, Bool.false_and, Bool.true_and, Bool.and_false, Bool.and_true, Bool.or_true, Bool.true_or, Bool.false_or, Bool.or_false])
    have HE : (.bool false : Value) = .bool (inS a b) := by unfold inS; simp only [HN, Bool.and_false, Bool.false_and]
    exact ⟨retV HE, f10.b⟩
   have Ffk4 := Lib.hid fk4; clear fk4
   have b_g1_10 := f8.k bL1_g1
   have b_g2_11 := f8.k bL1_g2
   have s5_12 := f8.q 5 sL1_5
   have s2_13 := f8.q 2 sL1_2
   have s3_14 := f8.q 3 sL1_3
   refine go_reg [bx g1 35 (stC a), bx g2 35 (stC b)] [] [some (.int .i64 (k1 : Int)), some (pt g1 0), some (pt g1 (9 * k1)), some (.agg (tyC (a k1))), some (.int .i64 (k1 : Int)), some (pt g2 0), some (pt g2 (9 * k1)), some (.agg (tyC (b k1))), oT, oF] mo f8.d f8.z f8.b (by kernel_rfl) ⟨b_g1_10, b_g2_11, trivial⟩ (
    hk (fun cx => cx.q (ex_mv rfl (cx.rq 5 s5_12))) <|
    hk (fun cx => cx.q (ex_fa rfl (cx.rq 2 s2_13) (faStK35_0_0 _ _))) <|
    hk (fun cx => cx.v (ex_ia (n := 11) (sz := 9) rfl (cx.u 0 rfl) (cx.u 1 rfl) Try.underlying32 (by kernel_rfl) (by omega) (by omega) (by omega)) rfl rfl) <|
    hk (fun cx => cx.v (ldEl (by omega) rfl (cx.u 0 rfl) (cx.rn 0 rfl)) rfl rfl) <|
    hk (fun cx => cx.q (ex_mv rfl (cx.rq 5 s5_12))) <|
    hk (fun cx => cx.q (ex_fa rfl (cx.rq 3 s3_14) (faStK35_0_0 _ _))) <|
    hk (fun cx => cx.v (ex_ia (n := 11) (sz := 9) rfl (cx.u 0 rfl) (cx.u 1 rfl) Try.underlying32 (by kernel_rfl) (by omega) (by omega) (by omega)) rfl rfl) <|
    hk (fun cx => cx.v (ldEl (by omega) rfl (cx.u 0 rfl) (cx.rn 1 rfl)) rfl rfl) <|
    hc (fun _ _ wx cx => cx.c rfl (args2 (cx.u 0 rfl) (cx.u 1 rfl)) Try.func56 (by decide +kernel) (qwithin_n (a k1) (b k1) wx (okS_reg hoa (by omega))) rfl (congrArg Value.bool Ffk4.out)) <|
    hk (fun cx => cx.q (ex_not (x := .tmp 27) rfl (cx.u 0 rfl))) <|
    hn) ?_
   intro a11 w11 f11
   refine wp_cond_false (f11.v 9 rfl rfl rfl) ?_
   refine wp_skip ?_
   have s5_15 := f11.q 5 s5_12
   refine go_reg [] [] [some (.int .i64 (k1 : Int)), some (.int .i64 ((k1 + 1 : Nat) : Int)), some (.int .i64 ((k1 + 1 : Nat) : Int))] mo f11.d f11.z f11.b (by kernel_rfl) trivial (
    hk (fun cx => cx.q (ex_mv rfl (cx.un 2 rfl rfl (by kernel_rfl) s5_15))) <|
    hk (fun cx => cx.v (ex_add (x := .tmp 17) rfl (cx.u 0 rfl) rfl) rfl (congrArg (Value.int .i64) (wrapk hlt1 (by decide)))) <|
    kmu 0 <|
    hn) ?_
   intro a12 w12 f12
   have s2_16 := f12.q 2 (f11.q 2 s2_13)
   have s3_17 := f12.q 3 (f11.q 3 s3_14)
   have b_g1_18 := f12.k (f11.k b_g1_10)
   have b_g2_19 := f12.k (f11.k b_g2_11)
   exact ⟨hlt1, allN_step (p := inR a b) hp1 (show inR a b k1 = true from by show Ty.inB (a k1) (b k1) = _; simp only [Ffk4.out, Bool.not_true, Bool.not_false, Bool.false_and, Bool.true_and, Bool.and_false, Bool.and_true, Bool.or_true, Bool.true_or, Bool.false_or, Bool.or_false]), f12.d, f12.z, f12.b, ⟨s2_16, s3_17, (f12.v 2 rfl rfl rfl), trivial⟩, ⟨b_g1_18, b_g2_19, trivial⟩⟩
  have Ffk3 := Lib.hid fk3; clear fk3
  have hge1 : k1 = 11 := by have := Ffk3.out; simp only [decide_eq_false_iff_not] at this; omega
  refine go_reg [] [] [some (.int .i64 (k1 : Int)), oF] mo dL1 zL1 BL1 (by kernel_rfl) trivial (
   hk (fun cx => cx.q (ex_mv rfl (cx.rq 5 sL1_5))) <|
   hk (fun cx => cx.v (ex_lt (x := .tmp 15) rfl (cx.u 0 rfl) rfl) rfl (congrArg Value.bool Ffk3.out)) <|
   hn) ?_
  intro a13 w13 f13
  refine wp_cond_false (f13.v 1 rfl rfl rfl) ?_
  refine wp_exit ?_
  simp only [Exit.then, Exit.inBlock, if_true]
  refine wp_seq ?_
  refine wp_seq ?_
  refine go_reg [] [] [some (.int .i64 0)] mo f13.d f13.z f13.b (by kernel_rfl) trivial (
   hk (fun cx => cx.q (ex_as rfl rfl)) <|
   hn) ?_
  intro a14 w14 f14
  refine wp_block ?_
  have neL2_0_1 := neL1_0_1
  have s2_20 := f14.q 2 (f13.q 2 sL1_2)
  have s3_21 := f14.q 3 (f13.q 3 sL1_3)
  have b_g1_22 := f14.k (f13.k bL1_g1)
  have b_g2_23 := f14.k (f13.k bL1_g2)
  refine wp_count 8 (fun k2 aI wI => allN (inF a b) k2 = true ∧ Mid 43 W [(2, .pointer (some ⟨g1, 0, none⟩)), (3, .pointer (some ⟨g2, 0, none⟩)), (6, .int .i64 (k2 : Int))] [(g1, 35, (stC a)), (g2, 35, (stC b))] aI wI) ⟨rfl, f14.d, f14.z, f14.b, ⟨s2_20, s3_21, (f14.v 0 rfl rfl rfl), trivial⟩, ⟨b_g1_22, b_g2_23, trivial⟩⟩ ?_
  intro k2 aL2 wL2 hlek2 hI2
  obtain ⟨hp2, dL2, zL2, BL2, ⟨sL2_2, sL2_3, sL2_6, -⟩, ⟨bL2_g1, bL2_g2, -⟩⟩ := hI2
  replace sL2_2 : aL2.tmps.getD 2 undef = .pointer (some ⟨g1, 0, none⟩) := sL2_2
  replace sL2_3 : aL2.tmps.getD 3 undef = .pointer (some ⟨g2, 0, none⟩) := sL2_3
  replace sL2_6 : aL2.tmps.getD 6 undef = .int .i64 (k2 : Int) := sL2_6
  replace bL2_g1 : wL2.heap[g1]? = some (.cells (stC a) 35 (0, 0)) := bL2_g1
  replace bL2_g2 : wL2.heap[g2]? = some (.cells (stC b) 35 (0, 0)) := bL2_g2
  refine wp_seq ?_
  refine wp_seq ?_
  cases fk5 : decide ((k2 : Int) < 8)
  case true =>
   have Ffk5 := Lib.hid fk5; clear fk5
   have hlt2 : k2 < 8 := by have := Ffk5.out; simp only [decide_eq_true_eq] at this; omega
   refine go_reg [] [] [some (.int .i64 (k2 : Int)), oT] mo dL2 zL2 BL2 (by kernel_rfl) trivial (
    hk (fun cx => cx.q (ex_mv rfl (cx.rq 6 sL2_6))) <|
    hk (fun cx => cx.v (ex_lt (x := .tmp 29) rfl (cx.u 0 rfl) rfl) rfl (congrArg Value.bool Ffk5.out)) <|
    hn) ?_
   intro a15 w15 f15
   refine wp_cond_true (f15.v 1 rfl rfl rfl) ?_
   refine wp_skip ?_
   refine wp_seq ?_
   refine wp_block ?_
   refine wp_seq ?_
   cases fk6 : Ty.inB (a (11 + k2)) (b (11 + k2))
   case false =>
    have Ffk6 := Lib.hid fk6; clear fk6
    have b_g1_24 := f15.k bL2_g1
    have b_g2_25 := f15.k bL2_g2
    have s6_26 := f15.q 6 sL2_6
    have s2_27 := f15.q 2 sL2_2
    have s3_28 := f15.q 3 sL2_3
    refine go_reg [bx g1 35 (stC a), bx g2 35 (stC b)] [] [some (.int .i64 (k2 : Int)), some (pt g1 99), some (pt g1 (9 * (11 + k2))), some (.agg (tyC (a (11 + k2)))), some (.int .i64 (k2 : Int)), some (pt g2 99), some (pt g2 (9 * (11 + k2))), some (.agg (tyC (b (11 + k2)))), oF, oT] mo f15.d f15.z f15.b (by kernel_rfl) ⟨b_g1_24, b_g2_25, trivial⟩ (
     hk (fun cx => cx.q (ex_mv rfl (cx.rq 6 s6_26))) <|
     hk (fun cx => cx.q (ex_fa rfl (cx.rq 2 s2_27) (faStK35_1_0 _ _))) <|
     hk (fun cx => cx.v (ex_ia (n := 8) (sz := 9) rfl (cx.u 0 rfl) (cx.u 1 rfl) Try.underlying33 (by kernel_rfl) (by omega) (by omega) (by omega)) rfl rfl) <|
     hk (fun cx => cx.v (ldEl (by omega) rfl (cx.u 0 rfl) (cx.rn 0 rfl)) rfl rfl) <|
     hk (fun cx => cx.q (ex_mv rfl (cx.rq 6 s6_26))) <|
     hk (fun cx => cx.q (ex_fa rfl (cx.rq 3 s3_28) (faStK35_1_0 _ _))) <|
     hk (fun cx => cx.v (ex_ia (n := 8) (sz := 9) rfl (cx.u 0 rfl) (cx.u 1 rfl) Try.underlying33 (by kernel_rfl) (by omega) (by omega) (by omega)) rfl rfl) <|
     hk (fun cx => cx.v (ldEl (by omega) rfl (cx.u 0 rfl) (cx.rn 1 rfl)) rfl rfl) <|
     hc (fun _ _ wx cx => cx.c rfl (args2 (cx.u 0 rfl) (cx.u 1 rfl)) Try.func56 (by decide +kernel) (qwithin_n (a (11 + k2)) (b (11 + k2)) wx (okS_slt hoa (by omega)).1) rfl (congrArg Value.bool Ffk6.out)) <|
     hk (fun cx => cx.q (ex_not (x := .tmp 41) rfl (cx.u 0 rfl))) <|
     hn) ?_
    intro a16 w16 f16
    refine wp_cond_true (f16.v 9 rfl rfl rfl) ?_
    refine wp_seq ?_
    refine go_reg [] [] [oF] mo f16.d f16.z f16.b (by kernel_rfl) trivial (
     hk (fun cx => cx.q (ex_as rfl rfl)) <|
     hn) ?_
    intro a17 w17 f17
    refine wp_ret ?_
    try simp only [Exit.inBlock, Exit.then]
    refine bodyPost_ret (res_t (fn := Try.f29) rfl (f17.v 0 rfl rfl rfl)) f17.d ?_
    have HN := allN_no (p := inF a b) hlt2 (show inF a b k2 = false from by show Ty.inB (a (11 + k2)) (b (11 + k2)) = _; simp only [Ffk6.out, Bool.not_true, Bool.not_false, Bool.false_and, Bool.true_and, Bool.and_false, Bool.and_true, Bool.or_true, Bool.true_or, Bool.false_or, Bool.or_false])
    have HE : (.bool false : Value) = .bool (inS a b) := by unfold inS; simp only [HN, Bool.and_false]
    exact ⟨retV HE, f17.b⟩
   have Ffk6 := Lib.hid fk6; clear fk6
   have b_g1_29 := f15.k bL2_g1
   have b_g2_30 := f15.k bL2_g2
   have s6_31 := f15.q 6 sL2_6
   have s2_32 := f15.q 2 sL2_2
   have s3_33 := f15.q 3 sL2_3
   refine go_reg [bx g1 35 (stC a), bx g2 35 (stC b)] [] [some (.int .i64 (k2 : Int)), some (pt g1 99), some (pt g1 (9 * (11 + k2))), some (.agg (tyC (a (11 + k2)))), some (.int .i64 (k2 : Int)), some (pt g2 99), some (pt g2 (9 * (11 + k2))), some (.agg (tyC (b (11 + k2)))), oT, oF] mo f15.d f15.z f15.b (by kernel_rfl) ⟨b_g1_29, b_g2_30, trivial⟩ (
    hk (fun cx => cx.q (ex_mv rfl (cx.rq 6 s6_31))) <|
    hk (fun cx => cx.q (ex_fa rfl (cx.rq 2 s2_32) (faStK35_1_0 _ _))) <|
    hk (fun cx => cx.v (ex_ia (n := 8) (sz := 9) rfl (cx.u 0 rfl) (cx.u 1 rfl) Try.underlying33 (by kernel_rfl) (by omega) (by omega) (by omega)) rfl rfl) <|
    hk (fun cx => cx.v (ldEl (by omega) rfl (cx.u 0 rfl) (cx.rn 0 rfl)) rfl rfl) <|
    hk (fun cx => cx.q (ex_mv rfl (cx.rq 6 s6_31))) <|
    hk (fun cx => cx.q (ex_fa rfl (cx.rq 3 s3_33) (faStK35_1_0 _ _))) <|
    hk (fun cx => cx.v (ex_ia (n := 8) (sz := 9) rfl (cx.u 0 rfl) (cx.u 1 rfl) Try.underlying33 (by kernel_rfl) (by omega) (by omega) (by omega)) rfl rfl) <|
    hk (fun cx => cx.v (ldEl (by omega) rfl (cx.u 0 rfl) (cx.rn 1 rfl)) rfl rfl) <|
    hc (fun _ _ wx cx => cx.c rfl (args2 (cx.u 0 rfl) (cx.u 1 rfl)) Try.func56 (by decide +kernel) (qwithin_n (a (11 + k2)) (b (11 + k2)) wx (okS_slt hoa (by omega)).1) rfl (congrArg Value.bool Ffk6.out)) <|
    hk (fun cx => cx.q (ex_not (x := .tmp 41) rfl (cx.u 0 rfl))) <|
    hn) ?_
   intro a18 w18 f18
   refine wp_cond_false (f18.v 9 rfl rfl rfl) ?_
   refine wp_skip ?_
   have s6_34 := f18.q 6 s6_31
   refine go_reg [] [] [some (.int .i64 (k2 : Int)), some (.int .i64 ((k2 + 1 : Nat) : Int)), some (.int .i64 ((k2 + 1 : Nat) : Int))] mo f18.d f18.z f18.b (by kernel_rfl) trivial (
    hk (fun cx => cx.q (ex_mv rfl (cx.un 2 rfl rfl (by kernel_rfl) s6_34))) <|
    hk (fun cx => cx.v (ex_add (x := .tmp 31) rfl (cx.u 0 rfl) rfl) rfl (congrArg (Value.int .i64) (wrapk hlt2 (by decide)))) <|
    kmu 0 <|
    hn) ?_
   intro a19 w19 f19
   have s2_35 := f19.q 2 (f18.q 2 s2_32)
   have s3_36 := f19.q 3 (f18.q 3 s3_33)
   have b_g1_37 := f19.k (f18.k b_g1_29)
   have b_g2_38 := f19.k (f18.k b_g2_30)
   exact ⟨hlt2, allN_step (p := inF a b) hp2 (show inF a b k2 = true from by show Ty.inB (a (11 + k2)) (b (11 + k2)) = _; simp only [Ffk6.out, Bool.not_true, Bool.not_false, Bool.false_and, Bool.true_and, Bool.and_false, Bool.and_true, Bool.or_true, Bool.true_or, Bool.false_or, Bool.or_false]), f19.d, f19.z, f19.b, ⟨s2_35, s3_36, (f19.v 2 rfl rfl rfl), trivial⟩, ⟨b_g1_37, b_g2_38, trivial⟩⟩
  have Ffk5 := Lib.hid fk5; clear fk5
  have hge2 : k2 = 8 := by have := Ffk5.out; simp only [decide_eq_false_iff_not] at this; omega
  refine go_reg [] [] [some (.int .i64 (k2 : Int)), oF] mo dL2 zL2 BL2 (by kernel_rfl) trivial (
   hk (fun cx => cx.q (ex_mv rfl (cx.rq 6 sL2_6))) <|
   hk (fun cx => cx.v (ex_lt (x := .tmp 29) rfl (cx.u 0 rfl) rfl) rfl (congrArg Value.bool Ffk5.out)) <|
   hn) ?_
  intro a20 w20 f20
  refine wp_cond_false (f20.v 1 rfl rfl rfl) ?_
  refine wp_exit ?_
  simp only [Exit.then, Exit.inBlock, if_true]
  refine wp_seq ?_
  refine go_reg [] [] [oT] mo f20.d f20.z f20.b (by kernel_rfl) trivial (
   hk (fun cx => cx.q (ex_as rfl rfl)) <|
   hn) ?_
  intro a21 w21 f21
  refine wp_ret ?_
  try simp only [Exit.inBlock, Exit.then]
  refine bodyPost_ret (res_t (fn := Try.f29) rfl (f21.v 0 rfl rfl rfl)) f21.d ?_
  have HE : (.bool true : Value) = .bool (inS a b) := by unfold inS; simp only [Ffk1.out, Ffk2.out, show allN (inR a b) 11 = true from hge1 ▸ hp1, show allN (inF a b) 8 = true from hge2 ▸ hp2, Bool.true_and]
  exact ⟨retV HE, f21.b⟩
end Go.Proofs.Ytcnneeimkcnjfaa.Sta
