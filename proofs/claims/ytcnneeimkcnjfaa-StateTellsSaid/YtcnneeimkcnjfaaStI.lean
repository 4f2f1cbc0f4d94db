import Derived.Test.YtcnneeimkcnjfaaStH
namespace Go.Proofs.Ytcnneeimkcnjfaa.Sta
open Go.RowKit Bnd Knw
set_option linter.unusedVariables false
set_option linter.unusedSimpArgs false
set_option linter.unnecessarySimpa false
set_option maxRecDepth 100000
theorem faStI31_0_0 (g:Nat) (w:World):(Instr.fieldAt 31 (.pointer (some ⟨g,0,none⟩)) 0).run Try.prog w=.ok (.pointer (some ⟨g,0,none⟩)) w:=by simp [go_sem]
theorem faStI31_2_0 (g:Nat) (w:World):(Instr.fieldAt 31 (.pointer (some ⟨g,0,none⟩)) 2).run Try.prog w=.ok (.pointer (some ⟨g,7,none⟩)) w:=by simp [go_sem]
theorem faStI31_3_0 (g:Nat) (w:World):(Instr.fieldAt 31 (.pointer (some ⟨g,0,none⟩)) 3).run Try.prog w=.ok (.pointer (some ⟨g,8,none⟩)) w:=by simp [go_sem]
theorem faStI31_1_0 (g:Nat) (w:World):(Instr.fieldAt 31 (.pointer (some ⟨g,0,none⟩)) 1).run Try.prog w=.ok (.pointer (some ⟨g,1,none⟩)) w:=by simp [go_sem]
theorem faStI35_0_0 (g:Nat) (w:World):(Instr.fieldAt 35 (.pointer (some ⟨g,0,none⟩)) 0).run Try.prog w=.ok (.pointer (some ⟨g,0,none⟩)) w:=by simp [go_sem]
theorem faStI35_1_0 (g:Nat) (w:World):(Instr.fieldAt 35 (.pointer (some ⟨g,0,none⟩)) 1).run Try.prog w=.ok (.pointer (some ⟨g,99,none⟩)) w:=by simp [go_sem]
theorem fxStI31_0 (g o:Nat) (w:World):(Instr.fieldAt 31 (.pointer (some ⟨g,o,none⟩)) 0).run Try.prog w=.ok (.pointer (some ⟨g,o,none⟩)) w:=by simp [go_sem]
set_option maxHeartbeats 4000000 in
theorem qscalar_n  (W:World):Calls Try.prog 14 #[] W fun e w'=>e=.returned (.agg (tyC allT)) ∧ Below W.heap.size W w':=by
  refine calls_abs Try.func14 rfl (Nat.le_of_ble_eq_true rfl) ?_
  intro a0 d0 z0 h0
  replace z0:a0.tmps.size=3:=z0
  refine wp_seq ?_
  refine go_reg [] [⟨0,0,31,(tyC tZ),none,#[]⟩] [none] mo d0 z0 (Below.refl _ _) (by kernel_rfl) trivial (
   hk (fun cx=>cx.al (wn rfl) 0 rfl (al_ty rfl) rfl rfl rfl rfl rfl trivial) <|
   hn) ?_
  intro a1 w1 f1
  obtain ⟨g1,u_g1,q_g1,b_g1⟩:=f1.al.1
  refine wp_seq ?_
  refine go_reg [⟨g1,31,(tyC tZ),some 2,(tyC ⟨1,allC,tZ.lo,tZ.hi⟩)⟩] [] [some (.agg (scC allC)),some (.agg (tyC ⟨1,allC,tZ.lo,tZ.hi⟩)),none] mo f1.d f1.z f1.b (by kernel_rfl) ⟨b_g1,trivial⟩ (
   hc (fun _ _ wx cx=>cx.c rfl (args0 ) Try.func41 (by decide +kernel) (wall_n wx) rfl rfl) <|
   hk (fun cx=>cx.q (exec_build rfl (parts2 rfl (cx.u 0 rfl)) (by kernel_rfl))) <|
   hk (fun cx=>cx.stR (wn rfl) rfl rfl 0 rfl (cx.rq 0 u_g1) (cx.u 0 rfl) (by kernel_rfl) (Eq.refl 9) (tyC_one _) q_g1 rfl trivial trivial) <|
   hn) ?_
  intro a2 w2 f2
  refine wp_ret ?_
  have s0_1:=f2.q 0 u_g1
  try simp only [Exit.inBlock,Exit.then]
  refine bodyPost_ret (res_c (fn:=Try.f14) rfl s0_1 (load_row 31 f2.rows.1 Try.underlying31 rfl (by kernel_rfl))) f2.d ?_
  have HE:(.agg (tyC ⟨1,allC,tZ.lo,tZ.hi⟩):Value)=.agg (tyC allT):=rfl
  exact ⟨retV HE,f2.b⟩
theorem eqR_refl (a:Rg):eqR a a=true:=(eqR_iff a a).2 rfl
theorem ok_1 {t:Ty} (h0:(t.kd == 0)=false) (h:(t.kd == 1)=true):t.okB=(t.s.mayB && (t.lo == 0 && t.hi == 0)):=by
  unfold Ty.okB
  rw [h0,if_neg Bool.false_ne_true,h,if_pos rfl]
  show ((t.kd == 1 && (eqR t.s.r t.s.r && (eqK t.s.k t.s.k && (t.lo == 0 && t.hi == 0)))) && t.s.mayB)=_
  rw [h,eqR_refl,eqK_refl,Bool.true_and,Bool.true_and,Bool.true_and,Bool.and_comm]
theorem ok_2 {t:Ty} (h0:(t.kd == 0)=false) (h1:(t.kd == 1)=false) (h:(t.kd == 2 || t.kd == 3)=true):t.okB=(decide (t.lo ≤ t.hi) && (decide (-1048576 ≤ t.lo) && (decide (t.hi ≤ 1048576) && eqC t.s zSc))):=by
  unfold Ty.okB
  rw [h0,if_neg Bool.false_ne_true,h1,if_neg Bool.false_ne_true,h,if_pos rfl]
  show ((t.kd == t.kd && (eqR t.s.r zSc.r && (eqK t.s.k zSc.k && (t.lo == t.lo && t.hi == t.hi)))) && _)=_
  rw [beq_self_eq_true,beq_self_eq_true,beq_self_eq_true]
  unfold eqC
  cases eqR t.s.r zSc.r <;> cases eqK t.s.k zSc.k <;> cases decide (-1048576 ≤ t.lo) <;> cases decide (t.lo ≤ t.hi) <;> cases decide (t.hi ≤ 1048576) <;> rfl
theorem ok_3 {t:Ty} (h0:(t.kd == 0)=false) (h1:(t.kd == 1)=false) (h:(t.kd == 2 || t.kd == 3)=false):t.okB=false:=by
  unfold Ty.okB
  rw [h0,if_neg Bool.false_ne_true,h1,if_neg Bool.false_ne_true,h,if_neg Bool.false_ne_true]
set_option maxHeartbeats 4000000 in
theorem qtype_n (a:Ty) (W:World):Calls Try.prog 18 #[.agg (tyC a)] W fun e w'=>e=.returned (.bool (Ty.okB a)) ∧ Below W.heap.size W w':=by
  refine calls_abs Try.func18 rfl (Nat.le_of_ble_eq_true rfl) ?_
  intro a0 d0 z0 h0
  replace z0:a0.tmps.size=49:=z0
  have s0_0:a0.tmps.getD 0 undef=.agg (tyC a):=h0 0 (Nat.le_of_ble_eq_true rfl)
  refine wp_seq ?_
  refine go_reg [] [⟨0,1,31,(tyC a),none,#[]⟩] [none,oF] mo d0 z0 (Below.refl _ _) (by kernel_rfl) trivial (
   hk (fun cx=>cx.al (wn rfl) 0 rfl (ex_box rfl (cx.rq 0 s0_0) rfl) rfl rfl rfl rfl rfl trivial) <|
   hk (fun cx=>cx.q (ex_as rfl rfl)) <|
   hn) ?_
  intro a1 w1 f1
  obtain ⟨g1,u_g1,q_g1,b_g1⟩:=f1.al.1
  refine wp_seq ?_
  refine wp_seq ?_
  refine go_reg [bx g1 31 (tyC a)] [] [some (pt g1 0),some (.int .i8 a.kd)] mo f1.d f1.z f1.b (by kernel_rfl) ⟨b_g1,trivial⟩ (
   hk (fun cx=>cx.q (ex_fa rfl (cx.rq 1 u_g1) (faStI31_0_0 _ _))) <|
   hk (fun cx=>cx.q (ex_ld rfl (cx.u 0 rfl) (cx.rn 0 rfl) rfl Try.isAgg22)) <|
   hn) ?_
  intro a2 w2 f2
  refine wp_block ?_
  refine wp_seq ?_
  cases fk1:a.kd == 0
  case false=>
   have Ffk1:=Lib.hid fk1;clear fk1
   refine go_reg [] [] [oF,oF] mo f2.d f2.z f2.b (by kernel_rfl) trivial (
    hk (fun cx=>cx.v (ex_eq (x:=.tmp 4) rfl (cx.rq 4 (f2.v 1 rfl rfl rfl)) rfl) rfl (congrArg Value.bool Ffk1.out)) <|
    kmu 0 <|
    hn) ?_
   intro a3 w3 f3
   refine wp_cond_false (f3.v 1 rfl rfl rfl) ?_
   refine wp_seq ?_
   cases fk2:a.kd == 1
   case false=>
    have Ffk2:=Lib.hid fk2;clear fk2
    have s4_1:=f3.q 4 (f2.v 1 rfl rfl rfl)
    refine go_reg [] [] [oF,oF] mo f3.d f3.z f3.b (by kernel_rfl) trivial (
     hk (fun cx=>cx.v (ex_eq (x:=.tmp 4) rfl (cx.rq 4 s4_1) rfl) rfl (congrArg Value.bool Ffk2.out)) <|
     kmu 0 <|
     hn) ?_
    intro a4 w4 f4
    refine wp_cond_false (f4.v 1 rfl rfl rfl) ?_
    refine wp_cut (fun aI wI=>∃ bI:Bool,(p23 a)=bI ∧ Mid 49 W [(25,.bool bI),(1,.pointer (some ⟨g1,0,none⟩)),(2,.bool false)] [(g1,31,(tyC a))] aI wI) ?_ ?_
    ·
      refine wp_seq ?_
      cases fk3:a.kd == 2
      case false=>
       have Ffk3:=Lib.hid fk3;clear fk3
       have s4_2:=f4.q 4 s4_1
       refine go_reg [] [] [oF,oF] mo f4.d f4.z f4.b (by kernel_rfl) trivial (
        hk (fun cx=>cx.v (ex_eq (x:=.tmp 4) rfl (cx.rq 4 s4_2) rfl) rfl (congrArg Value.bool Ffk3.out)) <|
        kmu 0 <|
        hn) ?_
       intro a5 w5 f5
       refine wp_cond_false (f5.v 1 rfl rfl rfl) ?_
       cases fk4:a.kd == 3
       case false=>
        have Ffk4:=Lib.hid fk4;clear fk4
        have s4_3:=f5.q 4 s4_2
        refine go_reg [] [] [oF,oF] mo f5.d f5.z f5.b (by kernel_rfl) trivial (
         hk (fun cx=>cx.v (ex_eq (x:=.tmp 4) rfl (cx.rq 4 s4_3) rfl) rfl (congrArg Value.bool Ffk4.out)) <|
         kmu 0 <|
         hn) ?_
        intro a6 w6 f6
        have s1_4:=f6.q 1 (f5.q 1 (f4.q 1 (f3.q 1 (f2.q 1 u_g1))))
        have s2_5:=f6.q 2 (f5.q 2 (f4.q 2 (f3.q 2 (f2.q 2 (f1.v 1 rfl rfl rfl)))))
        have b_g1_6:=f6.k (f5.k (f4.k (f3.k (f2.k b_g1))))
        exact ⟨false,(show p23 a=false from by unfold p23;simp only [Ffk3.out,Ffk4.out,Bool.false_and,Bool.true_and,Bool.and_false,Bool.and_true,Bool.true_or,Bool.or_true,Bool.false_or,Bool.or_false]),f6.d,f6.z,f6.b,⟨(f6.v 1 rfl rfl rfl),s1_4,s2_5,trivial⟩,⟨b_g1_6,trivial⟩⟩
       have Ffk4:=Lib.hid fk4;clear fk4
       have s4_7:=f5.q 4 s4_2
       refine go_reg [] [] [oT,oT] mo f5.d f5.z f5.b (by kernel_rfl) trivial (
        hk (fun cx=>cx.v (ex_eq (x:=.tmp 4) rfl (cx.rq 4 s4_7) rfl) rfl (congrArg Value.bool Ffk4.out)) <|
        kmu 0 <|
        hn) ?_
       intro a7 w7 f7
       have s1_8:=f7.q 1 (f5.q 1 (f4.q 1 (f3.q 1 (f2.q 1 u_g1))))
       have s2_9:=f7.q 2 (f5.q 2 (f4.q 2 (f3.q 2 (f2.q 2 (f1.v 1 rfl rfl rfl)))))
       have b_g1_10:=f7.k (f5.k (f4.k (f3.k (f2.k b_g1))))
       exact ⟨true,(show p23 a=true from by unfold p23;simp only [Ffk3.out,Ffk4.out,Bool.false_and,Bool.true_and,Bool.and_false,Bool.and_true,Bool.true_or,Bool.or_true,Bool.false_or,Bool.or_false]),f7.d,f7.z,f7.b,⟨(f7.v 1 rfl rfl rfl),s1_8,s2_9,trivial⟩,⟨b_g1_10,trivial⟩⟩
      have Ffk3:=Lib.hid fk3;clear fk3
      have s4_11:=f4.q 4 s4_1
      refine go_reg [] [] [oT,oT] mo f4.d f4.z f4.b (by kernel_rfl) trivial (
       hk (fun cx=>cx.v (ex_eq (x:=.tmp 4) rfl (cx.rq 4 s4_11) rfl) rfl (congrArg Value.bool Ffk3.out)) <|
       kmu 0 <|
       hn) ?_
      intro a8 w8 f8
      refine wp_cond_true (f8.v 1 rfl rfl rfl) ?_
      refine wp_skip ?_
      have s1_12:=f8.q 1 (f4.q 1 (f3.q 1 (f2.q 1 u_g1)))
      have s2_13:=f8.q 2 (f4.q 2 (f3.q 2 (f2.q 2 (f1.v 1 rfl rfl rfl))))
      have b_g1_14:=f8.k (f4.k (f3.k (f2.k b_g1)))
      exact ⟨true,(show p23 a=true from by unfold p23;simp only [Ffk3.out,Bool.false_and,Bool.true_and,Bool.and_false,Bool.and_true,Bool.true_or,Bool.or_true,Bool.false_or,Bool.or_false]),f8.d,f8.z,f8.b,⟨(f8.v 1 rfl rfl rfl),s1_12,s2_13,trivial⟩,⟨b_g1_14,trivial⟩⟩
    rintro aL1 wL1 ⟨bI,hbI,dL1,zL1,BL1,⟨sL1_25,sL1_1,sL1_2,-⟩,⟨bL1_g1,-⟩⟩
    replace sL1_1:aL1.tmps.getD 1 undef=.pointer (some ⟨g1,0,none⟩):=sL1_1
    replace sL1_2:aL1.tmps.getD 2 undef=.bool false:=sL1_2
    replace bL1_g1:wL1.heap[g1]?=some (.cells (tyC a) 31 (0,0)):=bL1_g1
    cases bI
    case true=>
      replace sL1_25:aL1.tmps.getD 25 undef=.bool true:=sL1_25
      refine wp_cond_true sL1_25 ?_
      refine wp_seq ?_
      cases fk5:decide (a.lo ≤ a.hi)
      case false=>
       have Ffk5:=Lib.hid fk5;clear fk5
       refine go_reg [bx g1 31 (tyC a)] [] (tabs [some (pt g1 7),some (.int .i64 a.lo),some (pt g1 8),some (.int .i64 a.hi),oF,oF,oU,oU,oU,oF,oF,oU,oU,oU,oF,oF,oU,oU,oU,oU] [oF,oF]) mo dL1 zL1 BL1 (by kernel_rfl) ⟨bL1_g1,trivial⟩ (
        hk (fun cx=>cx.q (ex_fa rfl (cx.rq 1 sL1_1) (faStI31_2_0 _ _))) <|
        hk (fun cx=>cx.q (ex_ld rfl (cx.u 0 rfl) (cx.rn 0 rfl) rfl Try.isAgg3)) <|
        hk (fun cx=>cx.q (ex_fa rfl (cx.rq 1 sL1_1) (faStI31_3_0 _ _))) <|
        hk (fun cx=>cx.q (ex_ld rfl (cx.u 0 rfl) (cx.rn 0 rfl) rfl Try.isAgg3)) <|
        hk (fun cx=>cx.v (ex_le (x:=.tmp 29) (y:=.tmp 31) rfl (cx.u 0 rfl) (cx.u 1 rfl)) rfl (congrArg Value.bool Ffk5.out)) <|
        kmu 0 <|
        kno 0 <|
        kno 1 <|
        kno 1 <|
        hk (fun cx=>cx.q (ex_pf rfl (cx.u 0 rfl) rfl)) <|
        kmu 0 <|
        kno 0 <|
        kno 1 <|
        kno 1 <|
        hk (fun cx=>cx.q (ex_pf rfl (cx.u 0 rfl) rfl)) <|
        kmu 0 <|
        kno 0 <|
        kno 1 <|
        kno 0 <|
        kno 2 <|
        hk (fun cx=>cx.q (ex_pf rfl (cx.u 0 rfl) rfl)) <|
        kmu 0 <|
        hn) ?_
       intro a9 w9 f9
       refine wp_ret ?_
       try simp only [Exit.inBlock,Exit.then]
       refine bodyPost_ret (res_t (fn:=Try.f18) rfl (f9.v 21 rfl rfl rfl)) f9.d ?_
       have HE:(.bool false:Value)=.bool (Ty.okB a):=by rw [ok_2 Ffk1.out Ffk2.out (p23_is hbI)];simp only [Ffk5.out,Bool.false_and,Bool.true_and,Bool.and_false,Bool.and_true,Bool.true_or,Bool.or_true,Bool.false_or,Bool.or_false]
       exact ⟨retV HE,f9.b⟩
      have Ffk5:=Lib.hid fk5;clear fk5
      cases fk6:decide ((-1048576) ≤ a.lo)
      case false=>
       have Ffk6:=Lib.hid fk6;clear fk6
       refine go_reg [bx g1 31 (tyC a)] [] (tabs [some (pt g1 7),some (.int .i64 a.lo),some (pt g1 8),some (.int .i64 a.hi),oT,oT,some (pt g1 7),some (.int .i64 a.lo),oF,oF,oF,oU,oU,oU,oF,oF,oU,oU,oU,oU] [oF,oF]) mo dL1 zL1 BL1 (by kernel_rfl) ⟨bL1_g1,trivial⟩ (
        hk (fun cx=>cx.q (ex_fa rfl (cx.rq 1 sL1_1) (faStI31_2_0 _ _))) <|
        hk (fun cx=>cx.q (ex_ld rfl (cx.u 0 rfl) (cx.rn 0 rfl) rfl Try.isAgg3)) <|
        hk (fun cx=>cx.q (ex_fa rfl (cx.rq 1 sL1_1) (faStI31_3_0 _ _))) <|
        hk (fun cx=>cx.q (ex_ld rfl (cx.u 0 rfl) (cx.rn 0 rfl) rfl Try.isAgg3)) <|
        hk (fun cx=>cx.v (ex_le (x:=.tmp 29) (y:=.tmp 31) rfl (cx.u 0 rfl) (cx.u 1 rfl)) rfl (congrArg Value.bool Ffk5.out)) <|
        kmu 0 <|
        hk (fun cx=>cx.vy 0 (ex_fa rfl (cx.rq 1 sL1_1) (faStI31_2_0 _ _))) <|
        hk (fun cx=>cx.vy 1 (ex_ld rfl (cx.u 0 rfl) (cx.rn 0 rfl) rfl Try.isAgg3)) <|
        hk (fun cx=>cx.vy 1 (ex_ge (x:=.tmp 35) rfl (cx.u 0 rfl) rfl) (congrArg Value.bool Ffk6.out)) <|
        hk (fun cx=>cx.q (ex_pt rfl (cx.u 0 rfl) (cx.u 1 rfl))) <|
        kmu 0 <|
        kno 0 <|
        kno 1 <|
        kno 1 <|
        hk (fun cx=>cx.q (ex_pf rfl (cx.u 0 rfl) rfl)) <|
        kmu 0 <|
        kno 0 <|
        kno 1 <|
        kno 0 <|
        kno 2 <|
        hk (fun cx=>cx.q (ex_pf rfl (cx.u 0 rfl) rfl)) <|
        kmu 0 <|
        hn) ?_
       intro a10 w10 f10
       refine wp_ret ?_
       try simp only [Exit.inBlock,Exit.then]
       refine bodyPost_ret (res_t (fn:=Try.f18) rfl (f10.v 21 rfl rfl rfl)) f10.d ?_
       have HE:(.bool false:Value)=.bool (Ty.okB a):=by rw [ok_2 Ffk1.out Ffk2.out (p23_is hbI)];simp only [Ffk5.out,Ffk6.out,Bool.false_and,Bool.true_and,Bool.and_false,Bool.and_true,Bool.true_or,Bool.or_true,Bool.false_or,Bool.or_false]
       exact ⟨retV HE,f10.b⟩
      have Ffk6:=Lib.hid fk6;clear fk6
      cases fk7:decide (a.hi ≤ 1048576)
      case false=>
       have Ffk7:=Lib.hid fk7;clear fk7
       refine go_reg [bx g1 31 (tyC a)] [] (tabs [some (pt g1 7),some (.int .i64 a.lo),some (pt g1 8),some (.int .i64 a.hi),oT,oT,some (pt g1 7),some (.int .i64 a.lo),oT,oT,oT,some (pt g1 8),some (.int .i64 a.hi),oF,oF,oF,oU,oU,oU,oU] [oF,oF]) mo dL1 zL1 BL1 (by kernel_rfl) ⟨bL1_g1,trivial⟩ (
        hk (fun cx=>cx.q (ex_fa rfl (cx.rq 1 sL1_1) (faStI31_2_0 _ _))) <|
        hk (fun cx=>cx.q (ex_ld rfl (cx.u 0 rfl) (cx.rn 0 rfl) rfl Try.isAgg3)) <|
        hk (fun cx=>cx.q (ex_fa rfl (cx.rq 1 sL1_1) (faStI31_3_0 _ _))) <|
        hk (fun cx=>cx.q (ex_ld rfl (cx.u 0 rfl) (cx.rn 0 rfl) rfl Try.isAgg3)) <|
        hk (fun cx=>cx.v (ex_le (x:=.tmp 29) (y:=.tmp 31) rfl (cx.u 0 rfl) (cx.u 1 rfl)) rfl (congrArg Value.bool Ffk5.out)) <|
        kmu 0 <|
        hk (fun cx=>cx.vy 0 (ex_fa rfl (cx.rq 1 sL1_1) (faStI31_2_0 _ _))) <|
        hk (fun cx=>cx.vy 1 (ex_ld rfl (cx.u 0 rfl) (cx.rn 0 rfl) rfl Try.isAgg3)) <|
        hk (fun cx=>cx.vy 1 (ex_ge (x:=.tmp 35) rfl (cx.u 0 rfl) rfl) (congrArg Value.bool Ffk6.out)) <|
        hk (fun cx=>cx.q (ex_pt rfl (cx.u 0 rfl) (cx.u 1 rfl))) <|
        kmu 0 <|
        hk (fun cx=>cx.vy 0 (ex_fa rfl (cx.rq 1 sL1_1) (faStI31_3_0 _ _))) <|
        hk (fun cx=>cx.vy 1 (ex_ld rfl (cx.u 0 rfl) (cx.rn 0 rfl) rfl Try.isAgg3)) <|
        hk (fun cx=>cx.vy 1 (ex_le (x:=.tmp 40) rfl (cx.u 0 rfl) rfl) (congrArg Value.bool Ffk7.out)) <|
        hk (fun cx=>cx.q (ex_pt rfl (cx.u 0 rfl) (cx.u 1 rfl))) <|
        kmu 0 <|
        kno 0 <|
        kno 1 <|
        kno 0 <|
        kno 2 <|
        hk (fun cx=>cx.q (ex_pf rfl (cx.u 0 rfl) rfl)) <|
        kmu 0 <|
        hn) ?_
       intro a11 w11 f11
       refine wp_ret ?_
       try simp only [Exit.inBlock,Exit.then]
       refine bodyPost_ret (res_t (fn:=Try.f18) rfl (f11.v 21 rfl rfl rfl)) f11.d ?_
       have HE:(.bool false:Value)=.bool (Ty.okB a):=by rw [ok_2 Ffk1.out Ffk2.out (p23_is hbI)];simp only [Ffk5.out,Ffk6.out,Ffk7.out,Bool.false_and,Bool.true_and,Bool.and_false,Bool.and_true,Bool.true_or,Bool.or_true,Bool.false_or,Bool.or_false]
       exact ⟨retV HE,f11.b⟩
      have Ffk7:=Lib.hid fk7;clear fk7
      cases fk8:eqC a.s zSc
      case false=>
       have Ffk8:=Lib.hid fk8;clear fk8
       refine go_reg [bx g1 31 (tyC a)] [] (tabs [some (pt g1 7),some (.int .i64 a.lo),some (pt g1 8),some (.int .i64 a.hi),oT,oT,some (pt g1 7),some (.int .i64 a.lo),oT,oT,oT,some (pt g1 8),some (.int .i64 a.hi),oT,oT,oT,some (pt g1 1),some (.agg (scC a.s)),some (.agg (scC zSc)),oF] [oF,oF]) mo dL1 zL1 BL1 (by kernel_rfl) ⟨bL1_g1,trivial⟩ (
        hk (fun cx=>cx.q (ex_fa rfl (cx.rq 1 sL1_1) (faStI31_2_0 _ _))) <|
        hk (fun cx=>cx.q (ex_ld rfl (cx.u 0 rfl) (cx.rn 0 rfl) rfl Try.isAgg3)) <|
        hk (fun cx=>cx.q (ex_fa rfl (cx.rq 1 sL1_1) (faStI31_3_0 _ _))) <|
        hk (fun cx=>cx.q (ex_ld rfl (cx.u 0 rfl) (cx.rn 0 rfl) rfl Try.isAgg3)) <|
        hk (fun cx=>cx.v (ex_le (x:=.tmp 29) (y:=.tmp 31) rfl (cx.u 0 rfl) (cx.u 1 rfl)) rfl (congrArg Value.bool Ffk5.out)) <|
        kmu 0 <|
        hk (fun cx=>cx.vy 0 (ex_fa rfl (cx.rq 1 sL1_1) (faStI31_2_0 _ _))) <|
        hk (fun cx=>cx.vy 1 (ex_ld rfl (cx.u 0 rfl) (cx.rn 0 rfl) rfl Try.isAgg3)) <|
        hk (fun cx=>cx.vy 1 (ex_ge (x:=.tmp 35) rfl (cx.u 0 rfl) rfl) (congrArg Value.bool Ffk6.out)) <|
        hk (fun cx=>cx.q (ex_pt rfl (cx.u 0 rfl) (cx.u 1 rfl))) <|
        kmu 0 <|
        hk (fun cx=>cx.vy 0 (ex_fa rfl (cx.rq 1 sL1_1) (faStI31_3_0 _ _))) <|
        hk (fun cx=>cx.vy 1 (ex_ld rfl (cx.u 0 rfl) (cx.rn 0 rfl) rfl Try.isAgg3)) <|
        hk (fun cx=>cx.vy 1 (ex_le (x:=.tmp 40) rfl (cx.u 0 rfl) rfl) (congrArg Value.bool Ffk7.out)) <|
        hk (fun cx=>cx.q (ex_pt rfl (cx.u 0 rfl) (cx.u 1 rfl))) <|
        kmu 0 <|
        hk (fun cx=>cx.vy 0 (ex_fa rfl (cx.rq 1 sL1_1) (faStI31_1_0 _ _))) <|
        hk (fun cx=>cx.vy 1 (exec_loadR 29 _ rfl g1 1 (cx.u 0 rfl) (cx.rn 0 rfl) [.int .u64 a.s.r.u.lo,.int .u64 a.s.r.u.hi,.int .i64 a.s.r.s.lo,.int .i64 a.s.r.s.hi,.int .u64 (V a.s.k.v),.int .u64 (V a.s.k.m)] rfl _ Try.underlying29 rfl (by kernel_rfl))) <|
        hk (fun cx=>cx.vy 0 (ex_z6 rfl)) <|
        hk (fun cx=>cx.vy (v:=.bool (eqC a.s zSc)) 2 (exec_eql (x:=.tmp 45) (y:=.tmp 46) rfl (cx.u 0 rfl) (cx.u 1 rfl) (by kernel_rfl) (eq_sc a.s zSc _)) (congrArg Value.bool Ffk8.out)) <|
        hk (fun cx=>cx.q (ex_pt rfl (cx.u 0 rfl) (cx.u 1 rfl))) <|
        kmu 0 <|
        hn) ?_
       intro a12 w12 f12
       refine wp_ret ?_
       try simp only [Exit.inBlock,Exit.then]
       refine bodyPost_ret (res_t (fn:=Try.f18) rfl (f12.v 21 rfl rfl rfl)) f12.d ?_
       have HE:(.bool false:Value)=.bool (Ty.okB a):=by rw [ok_2 Ffk1.out Ffk2.out (p23_is hbI)];simp only [Ffk5.out,Ffk6.out,Ffk7.out,Ffk8.out,Bool.false_and,Bool.true_and,Bool.and_false,Bool.and_true,Bool.true_or,Bool.or_true,Bool.false_or,Bool.or_false]
       exact ⟨retV HE,f12.b⟩
      have Ffk8:=Lib.hid fk8;clear fk8
      refine go_reg [bx g1 31 (tyC a)] [] (tabs [some (pt g1 7),some (.int .i64 a.lo),some (pt g1 8),some (.int .i64 a.hi),oT,oT,some (pt g1 7),some (.int .i64 a.lo),oT,oT,oT,some (pt g1 8),some (.int .i64 a.hi),oT,oT,oT,some (pt g1 1),some (.agg (scC a.s)),some (.agg (scC zSc)),oT] [oT,oT]) mo dL1 zL1 BL1 (by kernel_rfl) ⟨bL1_g1,trivial⟩ (
       hk (fun cx=>cx.q (ex_fa rfl (cx.rq 1 sL1_1) (faStI31_2_0 _ _))) <|
       hk (fun cx=>cx.q (ex_ld rfl (cx.u 0 rfl) (cx.rn 0 rfl) rfl Try.isAgg3)) <|
       hk (fun cx=>cx.q (ex_fa rfl (cx.rq 1 sL1_1) (faStI31_3_0 _ _))) <|
       hk (fun cx=>cx.q (ex_ld rfl (cx.u 0 rfl) (cx.rn 0 rfl) rfl Try.isAgg3)) <|
       hk (fun cx=>cx.v (ex_le (x:=.tmp 29) (y:=.tmp 31) rfl (cx.u 0 rfl) (cx.u 1 rfl)) rfl (congrArg Value.bool Ffk5.out)) <|
       kmu 0 <|
       hk (fun cx=>cx.vy 0 (ex_fa rfl (cx.rq 1 sL1_1) (faStI31_2_0 _ _))) <|
       hk (fun cx=>cx.vy 1 (ex_ld rfl (cx.u 0 rfl) (cx.rn 0 rfl) rfl Try.isAgg3)) <|
       hk (fun cx=>cx.vy 1 (ex_ge (x:=.tmp 35) rfl (cx.u 0 rfl) rfl) (congrArg Value.bool Ffk6.out)) <|
       hk (fun cx=>cx.q (ex_pt rfl (cx.u 0 rfl) (cx.u 1 rfl))) <|
       kmu 0 <|
       hk (fun cx=>cx.vy 0 (ex_fa rfl (cx.rq 1 sL1_1) (faStI31_3_0 _ _))) <|
       hk (fun cx=>cx.vy 1 (ex_ld rfl (cx.u 0 rfl) (cx.rn 0 rfl) rfl Try.isAgg3)) <|
       hk (fun cx=>cx.vy 1 (ex_le (x:=.tmp 40) rfl (cx.u 0 rfl) rfl) (congrArg Value.bool Ffk7.out)) <|
       hk (fun cx=>cx.q (ex_pt rfl (cx.u 0 rfl) (cx.u 1 rfl))) <|
       kmu 0 <|
       hk (fun cx=>cx.vy 0 (ex_fa rfl (cx.rq 1 sL1_1) (faStI31_1_0 _ _))) <|
       hk (fun cx=>cx.vy 1 (exec_loadR 29 _ rfl g1 1 (cx.u 0 rfl) (cx.rn 0 rfl) [.int .u64 a.s.r.u.lo,.int .u64 a.s.r.u.hi,.int .i64 a.s.r.s.lo,.int .i64 a.s.r.s.hi,.int .u64 (V a.s.k.v),.int .u64 (V a.s.k.m)] rfl _ Try.underlying29 rfl (by kernel_rfl))) <|
       hk (fun cx=>cx.vy 0 (ex_z6 rfl)) <|
       hk (fun cx=>cx.vy (v:=.bool (eqC a.s zSc)) 2 (exec_eql (x:=.tmp 45) (y:=.tmp 46) rfl (cx.u 0 rfl) (cx.u 1 rfl) (by kernel_rfl) (eq_sc a.s zSc _)) (congrArg Value.bool Ffk8.out)) <|
       hk (fun cx=>cx.q (ex_pt rfl (cx.u 0 rfl) (cx.u 1 rfl))) <|
       kmu 0 <|
       hn) ?_
      intro a13 w13 f13
      refine wp_ret ?_
      try simp only [Exit.inBlock,Exit.then]
      refine bodyPost_ret (res_t (fn:=Try.f18) rfl (f13.v 21 rfl rfl rfl)) f13.d ?_
      have HE:(.bool true:Value)=.bool (Ty.okB a):=by rw [ok_2 Ffk1.out Ffk2.out (p23_is hbI)];simp only [Ffk5.out,Ffk6.out,Ffk7.out,Ffk8.out,Bool.false_and,Bool.true_and,Bool.and_false,Bool.and_true,Bool.true_or,Bool.or_true,Bool.false_or,Bool.or_false]
      exact ⟨retV HE,f13.b⟩
    replace sL1_25:aL1.tmps.getD 25 undef=.bool false:=sL1_25
    refine wp_cond_false sL1_25 ?_
    refine wp_skip ?_
    refine wp_seq ?_
    refine go_reg [] [] [oF] mo dL1 zL1 BL1 (by kernel_rfl) trivial (
     hk (fun cx=>cx.q (ex_as rfl rfl)) <|
     hn) ?_
    intro a14 w14 f14
    refine wp_ret ?_
    try simp only [Exit.inBlock,Exit.then]
    refine bodyPost_ret (res_t (fn:=Try.f18) rfl (f14.v 0 rfl rfl rfl)) f14.d ?_
    have HE:(.bool false:Value)=.bool (Ty.okB a):=by rw [ok_3 Ffk1.out Ffk2.out (p23_is hbI)]
    exact ⟨retV HE,f14.b⟩
   have Ffk2:=Lib.hid fk2;clear fk2
   have s4_15:=f3.q 4 (f2.v 1 rfl rfl rfl)
   refine go_reg [] [] [oT,oT] mo f3.d f3.z f3.b (by kernel_rfl) trivial (
    hk (fun cx=>cx.v (ex_eq (x:=.tmp 4) rfl (cx.rq 4 s4_15) rfl) rfl (congrArg Value.bool Ffk2.out)) <|
    kmu 0 <|
    hn) ?_
   intro a15 w15 f15
   refine wp_cond_true (f15.v 1 rfl rfl rfl) ?_
   refine wp_seq ?_
   cases fk9:Sc.mayB a.s
   case false=>
    have Ffk9:=Lib.hid fk9;clear fk9
    have b_g1_16:=f15.k (f3.k (f2.k b_g1))
    have s1_17:=f15.q 1 (f3.q 1 (f2.q 1 u_g1))
    refine go_reg [bx g1 31 (tyC a)] [] [some (pt g1 1),some (.agg (scC a.s)),oF,oF,oU,oU,oU,oF,oF,oU,oU,oU,oF,oF] mo f15.d f15.z f15.b (by kernel_rfl) ⟨b_g1_16,trivial⟩ (
     hk (fun cx=>cx.q (ex_fa rfl (cx.rq 1 s1_17) (faStI31_1_0 _ _))) <|
     hk (fun cx=>cx.q (exec_loadR 29 _ rfl g1 1 (cx.u 0 rfl) (cx.rn 0 rfl) [.int .u64 a.s.r.u.lo,.int .u64 a.s.r.u.hi,.int .i64 a.s.r.s.lo,.int .i64 a.s.r.s.hi,.int .u64 (V a.s.k.v),.int .u64 (V a.s.k.m)] rfl _ Try.underlying29 rfl (by kernel_rfl))) <|
     hc (fun _ _ wx cx=>cx.c rfl (args1 (cx.u 0 rfl)) Try.func43 (by decide +kernel) (wmay_n a.s wx) rfl (congrArg Value.bool Ffk9.out)) <|
     kmu 0 <|
     kno 0 <|
     kno 1 <|
     kno 1 <|
     hk (fun cx=>cx.q (ex_pf rfl (cx.u 0 rfl) rfl)) <|
     kmu 0 <|
     kno 0 <|
     kno 1 <|
     kno 1 <|
     hk (fun cx=>cx.q (ex_pf rfl (cx.u 0 rfl) rfl)) <|
     kmu 0 <|
     hn) ?_
    intro a16 w16 f16
    refine wp_ret ?_
    try simp only [Exit.inBlock,Exit.then]
    refine bodyPost_ret (res_t (fn:=Try.f18) rfl (f16.v 13 rfl rfl rfl)) f16.d ?_
    have HE:(.bool false:Value)=.bool (Ty.okB a):=by rw [ok_1 Ffk1.out Ffk2.out];simp only [Ffk9.out,Bool.false_and,Bool.true_and,Bool.and_false,Bool.and_true,Bool.true_or,Bool.or_true,Bool.false_or,Bool.or_false]
    exact ⟨retV HE,f16.b⟩
   have Ffk9:=Lib.hid fk9;clear fk9
   cases fk10:a.lo == 0
   case false=>
    have Ffk10:=Lib.hid fk10;clear fk10
    have b_g1_18:=f15.k (f3.k (f2.k b_g1))
    have s1_19:=f15.q 1 (f3.q 1 (f2.q 1 u_g1))
    refine go_reg [bx g1 31 (tyC a)] [] [some (pt g1 1),some (.agg (scC a.s)),oT,oT,some (pt g1 7),some (.int .i64 a.lo),oF,oF,oF,oU,oU,oU,oF,oF] mo f15.d f15.z f15.b (by kernel_rfl) ⟨b_g1_18,trivial⟩ (
     hk (fun cx=>cx.q (ex_fa rfl (cx.rq 1 s1_19) (faStI31_1_0 _ _))) <|
     hk (fun cx=>cx.q (exec_loadR 29 _ rfl g1 1 (cx.u 0 rfl) (cx.rn 0 rfl) [.int .u64 a.s.r.u.lo,.int .u64 a.s.r.u.hi,.int .i64 a.s.r.s.lo,.int .i64 a.s.r.s.hi,.int .u64 (V a.s.k.v),.int .u64 (V a.s.k.m)] rfl _ Try.underlying29 rfl (by kernel_rfl))) <|
     hc (fun _ _ wx cx=>cx.c rfl (args1 (cx.u 0 rfl)) Try.func43 (by decide +kernel) (wmay_n a.s wx) rfl (congrArg Value.bool Ffk9.out)) <|
     kmu 0 <|
     hk (fun cx=>cx.vy 0 (ex_fa rfl (cx.rq 1 s1_19) (faStI31_2_0 _ _))) <|
     hk (fun cx=>cx.vy 1 (ex_ld rfl (cx.u 0 rfl) (cx.rn 0 rfl) rfl Try.isAgg3)) <|
     hk (fun cx=>cx.vy 1 (ex_eq (x:=.tmp 17) rfl (cx.u 0 rfl) rfl) (congrArg Value.bool Ffk10.out)) <|
     hk (fun cx=>cx.q (ex_pt rfl (cx.u 0 rfl) (cx.u 1 rfl))) <|
     kmu 0 <|
     kno 0 <|
     kno 1 <|
     kno 1 <|
     hk (fun cx=>cx.q (ex_pf rfl (cx.u 0 rfl) rfl)) <|
     kmu 0 <|
     hn) ?_
    intro a17 w17 f17
    refine wp_ret ?_
    try simp only [Exit.inBlock,Exit.then]
    refine bodyPost_ret (res_t (fn:=Try.f18) rfl (f17.v 13 rfl rfl rfl)) f17.d ?_
    have HE:(.bool false:Value)=.bool (Ty.okB a):=by rw [ok_1 Ffk1.out Ffk2.out];simp only [Ffk9.out,Ffk10.out,Bool.false_and,Bool.true_and,Bool.and_false,Bool.and_true,Bool.true_or,Bool.or_true,Bool.false_or,Bool.or_false]
    exact ⟨retV HE,f17.b⟩
   have Ffk10:=Lib.hid fk10;clear fk10
   cases fk11:a.hi == 0
   case false=>
    have Ffk11:=Lib.hid fk11;clear fk11
    have b_g1_20:=f15.k (f3.k (f2.k b_g1))
    have s1_21:=f15.q 1 (f3.q 1 (f2.q 1 u_g1))
    refine go_reg [bx g1 31 (tyC a)] [] [some (pt g1 1),some (.agg (scC a.s)),oT,oT,some (pt g1 7),some (.int .i64 a.lo),oT,oT,oT,some (pt g1 8),some (.int .i64 a.hi),oF,oF,oF] mo f15.d f15.z f15.b (by kernel_rfl) ⟨b_g1_20,trivial⟩ (
     hk (fun cx=>cx.q (ex_fa rfl (cx.rq 1 s1_21) (faStI31_1_0 _ _))) <|
     hk (fun cx=>cx.q (exec_loadR 29 _ rfl g1 1 (cx.u 0 rfl) (cx.rn 0 rfl) [.int .u64 a.s.r.u.lo,.int .u64 a.s.r.u.hi,.int .i64 a.s.r.s.lo,.int .i64 a.s.r.s.hi,.int .u64 (V a.s.k.v),.int .u64 (V a.s.k.m)] rfl _ Try.underlying29 rfl (by kernel_rfl))) <|
     hc (fun _ _ wx cx=>cx.c rfl (args1 (cx.u 0 rfl)) Try.func43 (by decide +kernel) (wmay_n a.s wx) rfl (congrArg Value.bool Ffk9.out)) <|
     kmu 0 <|
     hk (fun cx=>cx.vy 0 (ex_fa rfl (cx.rq 1 s1_21) (faStI31_2_0 _ _))) <|
     hk (fun cx=>cx.vy 1 (ex_ld rfl (cx.u 0 rfl) (cx.rn 0 rfl) rfl Try.isAgg3)) <|
     hk (fun cx=>cx.vy 1 (ex_eq (x:=.tmp 17) rfl (cx.u 0 rfl) rfl) (congrArg Value.bool Ffk10.out)) <|
     hk (fun cx=>cx.q (ex_pt rfl (cx.u 0 rfl) (cx.u 1 rfl))) <|
     kmu 0 <|
     hk (fun cx=>cx.vy 0 (ex_fa rfl (cx.rq 1 s1_21) (faStI31_3_0 _ _))) <|
     hk (fun cx=>cx.vy 1 (ex_ld rfl (cx.u 0 rfl) (cx.rn 0 rfl) rfl Try.isAgg3)) <|
     hk (fun cx=>cx.vy 1 (ex_eq (x:=.tmp 22) rfl (cx.u 0 rfl) rfl) (congrArg Value.bool Ffk11.out)) <|
     hk (fun cx=>cx.q (ex_pt rfl (cx.u 0 rfl) (cx.u 1 rfl))) <|
     kmu 0 <|
     hn) ?_
    intro a18 w18 f18
    refine wp_ret ?_
    try simp only [Exit.inBlock,Exit.then]
    refine bodyPost_ret (res_t (fn:=Try.f18) rfl (f18.v 13 rfl rfl rfl)) f18.d ?_
    have HE:(.bool false:Value)=.bool (Ty.okB a):=by rw [ok_1 Ffk1.out Ffk2.out];simp only [Ffk9.out,Ffk10.out,Ffk11.out,Bool.false_and,Bool.true_and,Bool.and_false,Bool.and_true,Bool.true_or,Bool.or_true,Bool.false_or,Bool.or_false]
    exact ⟨retV HE,f18.b⟩
   have Ffk11:=Lib.hid fk11;clear fk11
   have b_g1_22:=f15.k (f3.k (f2.k b_g1))
   have s1_23:=f15.q 1 (f3.q 1 (f2.q 1 u_g1))
   refine go_reg [bx g1 31 (tyC a)] [] [some (pt g1 1),some (.agg (scC a.s)),oT,oT,some (pt g1 7),some (.int .i64 a.lo),oT,oT,oT,some (pt g1 8),some (.int .i64 a.hi),oT,oT,oT] mo f15.d f15.z f15.b (by kernel_rfl) ⟨b_g1_22,trivial⟩ (
    hk (fun cx=>cx.q (ex_fa rfl (cx.rq 1 s1_23) (faStI31_1_0 _ _))) <|
    hk (fun cx=>cx.q (exec_loadR 29 _ rfl g1 1 (cx.u 0 rfl) (cx.rn 0 rfl) [.int .u64 a.s.r.u.lo,.int .u64 a.s.r.u.hi,.int .i64 a.s.r.s.lo,.int .i64 a.s.r.s.hi,.int .u64 (V a.s.k.v),.int .u64 (V a.s.k.m)] rfl _ Try.underlying29 rfl (by kernel_rfl))) <|
    hc (fun _ _ wx cx=>cx.c rfl (args1 (cx.u 0 rfl)) Try.func43 (by decide +kernel) (wmay_n a.s wx) rfl (congrArg Value.bool Ffk9.out)) <|
    kmu 0 <|
    hk (fun cx=>cx.vy 0 (ex_fa rfl (cx.rq 1 s1_23) (faStI31_2_0 _ _))) <|
    hk (fun cx=>cx.vy 1 (ex_ld rfl (cx.u 0 rfl) (cx.rn 0 rfl) rfl Try.isAgg3)) <|
    hk (fun cx=>cx.vy 1 (ex_eq (x:=.tmp 17) rfl (cx.u 0 rfl) rfl) (congrArg Value.bool Ffk10.out)) <|
    hk (fun cx=>cx.q (ex_pt rfl (cx.u 0 rfl) (cx.u 1 rfl))) <|
    kmu 0 <|
    hk (fun cx=>cx.vy 0 (ex_fa rfl (cx.rq 1 s1_23) (faStI31_3_0 _ _))) <|
    hk (fun cx=>cx.vy 1 (ex_ld rfl (cx.u 0 rfl) (cx.rn 0 rfl) rfl Try.isAgg3)) <|
    hk (fun cx=>cx.vy 1 (ex_eq (x:=.tmp 22) rfl (cx.u 0 rfl) rfl) (congrArg Value.bool Ffk11.out)) <|
    hk (fun cx=>cx.q (ex_pt rfl (cx.u 0 rfl) (cx.u 1 rfl))) <|
    kmu 0 <|
    hn) ?_
   intro a19 w19 f19
   refine wp_ret ?_
   try simp only [Exit.inBlock,Exit.then]
   refine bodyPost_ret (res_t (fn:=Try.f18) rfl (f19.v 13 rfl rfl rfl)) f19.d ?_
   have HE:(.bool true:Value)=.bool (Ty.okB a):=by rw [ok_1 Ffk1.out Ffk2.out];simp only [Ffk9.out,Ffk10.out,Ffk11.out,Bool.false_and,Bool.true_and,Bool.and_false,Bool.and_true,Bool.true_or,Bool.or_true,Bool.false_or,Bool.or_false]
   exact ⟨retV HE,f19.b⟩
  have Ffk1:=Lib.hid fk1;clear fk1
  refine go_reg [] [] [oT,oT] mo f2.d f2.z f2.b (by kernel_rfl) trivial (
   hk (fun cx=>cx.v (ex_eq (x:=.tmp 4) rfl (cx.rq 4 (f2.v 1 rfl rfl rfl)) rfl) rfl (congrArg Value.bool Ffk1.out)) <|
   kmu 0 <|
   hn) ?_
  intro a20 w20 f20
  refine wp_cond_true (f20.v 1 rfl rfl rfl) ?_
  refine wp_seq ?_
  cases fk12:eqT a tZ
  case false=>
   have Ffk12:=Lib.hid fk12;clear fk12
   have b_g1_24:=f20.k (f2.k b_g1)
   have s1_25:=f20.q 1 (f2.q 1 u_g1)
   refine go_reg [bx g1 31 (tyC a)] [] [some (.agg (tyC a)),some (.agg (tyC tZ)),oF,oF] mo f20.d f20.z f20.b (by kernel_rfl) ⟨b_g1_24,trivial⟩ (
    hk (fun cx=>cx.q (ldTy rfl (cx.rq 1 s1_25) (cx.rn 0 rfl))) <|
    hk (fun cx=>cx.q (ex_z9 rfl)) <|
    hk (fun cx=>cx.v (v:=.bool (eqT a tZ)) (exec_eql (x:=.tmp 7) (y:=.tmp 8) rfl (cx.u 0 rfl) (cx.u 1 rfl) (by kernel_rfl) (eq_ty a tZ _)) rfl (congrArg Value.bool Ffk12.out)) <|
    kmu 0 <|
    hn) ?_
   intro a21 w21 f21
   refine wp_ret ?_
   try simp only [Exit.inBlock,Exit.then]
   refine bodyPost_ret (res_t (fn:=Try.f18) rfl (f21.v 3 rfl rfl rfl)) f21.d ?_
   have HE:(.bool false:Value)=.bool (Ty.okB a):=by unfold Ty.okB;rw [Ffk1.out,if_pos rfl,Ffk12.out]
   exact ⟨retV HE,f21.b⟩
  have Ffk12:=Lib.hid fk12;clear fk12
  have b_g1_26:=f20.k (f2.k b_g1)
  have s1_27:=f20.q 1 (f2.q 1 u_g1)
  refine go_reg [bx g1 31 (tyC a)] [] [some (.agg (tyC a)),some (.agg (tyC tZ)),oT,oT] mo f20.d f20.z f20.b (by kernel_rfl) ⟨b_g1_26,trivial⟩ (
   hk (fun cx=>cx.q (ldTy rfl (cx.rq 1 s1_27) (cx.rn 0 rfl))) <|
   hk (fun cx=>cx.q (ex_z9 rfl)) <|
   hk (fun cx=>cx.v (v:=.bool (eqT a tZ)) (exec_eql (x:=.tmp 7) (y:=.tmp 8) rfl (cx.u 0 rfl) (cx.u 1 rfl) (by kernel_rfl) (eq_ty a tZ _)) rfl (congrArg Value.bool Ffk12.out)) <|
   kmu 0 <|
   hn) ?_
  intro a22 w22 f22
  refine wp_ret ?_
  try simp only [Exit.inBlock,Exit.then]
  refine bodyPost_ret (res_t (fn:=Try.f18) rfl (f22.v 3 rfl rfl rfl)) f22.d ?_
  have HE:(.bool true:Value)=.bool (Ty.okB a):=by unfold Ty.okB;rw [Ffk1.out,if_pos rfl,Ffk12.out]
  exact ⟨retV HE,f22.b⟩
set_option maxHeartbeats 4000000 in
theorem qmay_n (a:St) (W:World):Calls Try.prog 16 #[.agg (stC a)] W fun e w'=>e=.returned (.bool (okS a)) ∧ Below W.heap.size W w':=by
  refine calls_abs Try.func16 rfl (Nat.le_of_ble_eq_true rfl) ?_
  intro a0 d0 z0 h0
  replace z0:a0.tmps.size=33:=z0
  have s0_0:a0.tmps.getD 0 undef=.agg (stC a):=h0 0 (Nat.le_of_ble_eq_true rfl)
  refine wp_seq ?_
  refine go_reg [] [⟨0,1,35,(stC a),none,#[]⟩] [none,oF] mo d0 z0 (Below.refl _ _) (by kernel_rfl) trivial (
   hk (fun cx=>cx.al (wn rfl) 0 rfl (ex_box rfl (cx.rq 0 s0_0) rfl) rfl rfl rfl rfl rfl trivial) <|
   hk (fun cx=>cx.q (ex_as rfl rfl)) <|
   hn) ?_
  intro a1 w1 f1
  obtain ⟨g1,u_g1,q_g1,b_g1⟩:=f1.al.1
  refine wp_seq ?_
  refine wp_seq ?_
  refine go_reg [] [] [some (.int .i64 0)] mo f1.d f1.z f1.b (by kernel_rfl) trivial (
   hk (fun cx=>cx.q (ex_as rfl rfl)) <|
   hn) ?_
  intro a2 w2 f2
  refine wp_block ?_
  have s1_1:=f2.q 1 u_g1
  have b_g1_2:=f2.k b_g1
  refine wp_count 11 (fun k1 aI wI=>allN (regP a) k1=true ∧ Mid 33 W [(1,.pointer (some ⟨g1,0,none⟩)),(3,.int .i64 (k1:Int))] [(g1,35,(stC a))] aI wI) ⟨rfl,f2.d,f2.z,f2.b,⟨s1_1,(f2.v 0 rfl rfl rfl),trivial⟩,⟨b_g1_2,trivial⟩⟩ ?_
  intro k1 aL1 wL1 hlek1 hI1
  obtain ⟨hp1,dL1,zL1,BL1,⟨sL1_1,sL1_3,-⟩,⟨bL1_g1,-⟩⟩:=hI1
  replace sL1_1:aL1.tmps.getD 1 undef=.pointer (some ⟨g1,0,none⟩):=sL1_1
  replace sL1_3:aL1.tmps.getD 3 undef=.int .i64 (k1:Int):=sL1_3
  replace bL1_g1:wL1.heap[g1]?=some (.cells (stC a) 35 (0,0)):=bL1_g1
  refine wp_seq ?_
  refine wp_seq ?_
  cases fk1:decide ((k1:Int) < 11)
  case true=>
   have Ffk1:=Lib.hid fk1;clear fk1
   have hlt1:k1 < 11:=by have:=Ffk1.out;simp only [decide_eq_true_eq] at this;omega
   refine go_reg [] [] [some (.int .i64 (k1:Int)),oT] mo dL1 zL1 BL1 (by kernel_rfl) trivial (
    hk (fun cx=>cx.q (ex_mv rfl (cx.rq 3 sL1_3))) <|
    hk (fun cx=>cx.v (ex_lt (x:=.tmp 5) rfl (cx.u 0 rfl) rfl) rfl (congrArg Value.bool Ffk1.out)) <|
    hn) ?_
   intro a3 w3 f3
   refine wp_cond_true (f3.v 1 rfl rfl rfl) ?_
   refine wp_skip ?_
   refine wp_seq ?_
   refine wp_block ?_
   refine wp_seq ?_
   cases fk2:Ty.okB (a k1)
   case false=>
    have Ffk2:=Lib.hid fk2;clear fk2
    have b_g1_3:=f3.k bL1_g1
    have s3_4:=f3.q 3 sL1_3
    have s1_5:=f3.q 1 sL1_1
    refine go_reg [bx g1 35 (stC a)] [] [some (.int .i64 (k1:Int)),some (pt g1 0),some (pt g1 (9 * k1)),some (.agg (tyC (a k1))),oF,oT] mo f3.d f3.z f3.b (by kernel_rfl) ⟨b_g1_3,trivial⟩ (
     hk (fun cx=>cx.q (ex_mv rfl (cx.rq 3 s3_4))) <|
     hk (fun cx=>cx.q (ex_fa rfl (cx.rq 1 s1_5) (faStI35_0_0 _ _))) <|
     hk (fun cx=>cx.v (ex_ia (n:=11) (sz:=9) rfl (cx.u 0 rfl) (cx.u 1 rfl) Try.underlying32 (by kernel_rfl) (by omega) (by omega) (by omega)) rfl rfl) <|
     hk (fun cx=>cx.v (ldEl (by omega) rfl (cx.u 0 rfl) (cx.rn 0 rfl)) rfl rfl) <|
     hc (fun _ _ wx cx=>cx.c rfl (args1 (cx.u 0 rfl)) Try.func18 (by decide +kernel) (qtype_n (a k1) wx) rfl (congrArg Value.bool Ffk2.out)) <|
     hk (fun cx=>cx.q (ex_not (x:=.tmp 13) rfl (cx.u 0 rfl))) <|
     hn) ?_
    intro a4 w4 f4
    refine wp_cond_true (f4.v 5 rfl rfl rfl) ?_
    refine wp_seq ?_
    refine go_reg [] [] [oF] mo f4.d f4.z f4.b (by kernel_rfl) trivial (
     hk (fun cx=>cx.q (ex_as rfl rfl)) <|
     hn) ?_
    intro a5 w5 f5
    refine wp_ret ?_
    try simp only [Exit.inBlock,Exit.then]
    refine bodyPost_ret (res_t (fn:=Try.f16) rfl (f5.v 0 rfl rfl rfl)) f5.d ?_
    have HN:=allN_no (p:=regP a) hlt1 (show regP a k1=false from by show Ty.okB (a k1)=_;simp only [Ffk2.out,Bool.not_true,Bool.not_false,Bool.false_and,Bool.true_and,Bool.and_false,Bool.and_true,Bool.or_true,Bool.true_or,Bool.false_or,Bool.or_false])
    have HE:(.bool false:Value)=.bool (okS a):=by unfold okS;simp only [HN,Bool.and_false,Bool.false_and]
    exact ⟨retV HE,f5.b⟩
   have Ffk2:=Lib.hid fk2;clear fk2
   have b_g1_6:=f3.k bL1_g1
   have s3_7:=f3.q 3 sL1_3
   have s1_8:=f3.q 1 sL1_1
   refine go_reg [bx g1 35 (stC a)] [] [some (.int .i64 (k1:Int)),some (pt g1 0),some (pt g1 (9 * k1)),some (.agg (tyC (a k1))),oT,oF] mo f3.d f3.z f3.b (by kernel_rfl) ⟨b_g1_6,trivial⟩ (
    hk (fun cx=>cx.q (ex_mv rfl (cx.rq 3 s3_7))) <|
    hk (fun cx=>cx.q (ex_fa rfl (cx.rq 1 s1_8) (faStI35_0_0 _ _))) <|
    hk (fun cx=>cx.v (ex_ia (n:=11) (sz:=9) rfl (cx.u 0 rfl) (cx.u 1 rfl) Try.underlying32 (by kernel_rfl) (by omega) (by omega) (by omega)) rfl rfl) <|
    hk (fun cx=>cx.v (ldEl (by omega) rfl (cx.u 0 rfl) (cx.rn 0 rfl)) rfl rfl) <|
    hc (fun _ _ wx cx=>cx.c rfl (args1 (cx.u 0 rfl)) Try.func18 (by decide +kernel) (qtype_n (a k1) wx) rfl (congrArg Value.bool Ffk2.out)) <|
    hk (fun cx=>cx.q (ex_not (x:=.tmp 13) rfl (cx.u 0 rfl))) <|
    hn) ?_
   intro a6 w6 f6
   refine wp_cond_false (f6.v 5 rfl rfl rfl) ?_
   refine wp_skip ?_
   have s3_9:=f6.q 3 s3_7
   refine go_reg [] [] [some (.int .i64 (k1:Int)),some (.int .i64 ((k1 + 1:Nat):Int)),some (.int .i64 ((k1 + 1:Nat):Int))] mo f6.d f6.z f6.b (by kernel_rfl) trivial (
    hk (fun cx=>cx.q (ex_mv rfl (cx.un 2 rfl rfl (by kernel_rfl) s3_9))) <|
    hk (fun cx=>cx.v (ex_add (x:=.tmp 7) rfl (cx.u 0 rfl) rfl) rfl (congrArg (Value.int .i64) (wrapk hlt1 (by decide)))) <|
    kmu 0 <|
    hn) ?_
   intro a7 w7 f7
   have s1_10:=f7.q 1 (f6.q 1 s1_8)
   have b_g1_11:=f7.k (f6.k b_g1_6)
   exact ⟨hlt1,allN_step (p:=regP a) hp1 (show regP a k1=true from by show Ty.okB (a k1)=_;simp only [Ffk2.out,Bool.not_true,Bool.not_false,Bool.false_and,Bool.true_and,Bool.and_false,Bool.and_true,Bool.or_true,Bool.true_or,Bool.false_or,Bool.or_false]),f7.d,f7.z,f7.b,⟨s1_10,(f7.v 2 rfl rfl rfl),trivial⟩,⟨b_g1_11,trivial⟩⟩
  have Ffk1:=Lib.hid fk1;clear fk1
  have hge1:k1=11:=by have:=Ffk1.out;simp only [decide_eq_false_iff_not] at this;omega
  refine go_reg [] [] [some (.int .i64 (k1:Int)),oF] mo dL1 zL1 BL1 (by kernel_rfl) trivial (
   hk (fun cx=>cx.q (ex_mv rfl (cx.rq 3 sL1_3))) <|
   hk (fun cx=>cx.v (ex_lt (x:=.tmp 5) rfl (cx.u 0 rfl) rfl) rfl (congrArg Value.bool Ffk1.out)) <|
   hn) ?_
  intro a8 w8 f8
  refine wp_cond_false (f8.v 1 rfl rfl rfl) ?_
  refine wp_exit ?_
  simp only [Exit.then,Exit.inBlock,if_true]
  refine wp_seq ?_
  refine wp_seq ?_
  refine go_reg [] [] [some (.int .i64 0)] mo f8.d f8.z f8.b (by kernel_rfl) trivial (
   hk (fun cx=>cx.q (ex_as rfl rfl)) <|
   hn) ?_
  intro a9 w9 f9
  refine wp_block ?_
  have s1_12:=f9.q 1 (f8.q 1 sL1_1)
  have b_g1_13:=f9.k (f8.k bL1_g1)
  refine wp_count 8 (fun k2 aI wI=>allN (sltP a) k2=true ∧ Mid 33 W [(1,.pointer (some ⟨g1,0,none⟩)),(4,.int .i64 (k2:Int))] [(g1,35,(stC a))] aI wI) ⟨rfl,f9.d,f9.z,f9.b,⟨s1_12,(f9.v 0 rfl rfl rfl),trivial⟩,⟨b_g1_13,trivial⟩⟩ ?_
  intro k2 aL2 wL2 hlek2 hI2
  obtain ⟨hp2,dL2,zL2,BL2,⟨sL2_1,sL2_4,-⟩,⟨bL2_g1,-⟩⟩:=hI2
  replace sL2_1:aL2.tmps.getD 1 undef=.pointer (some ⟨g1,0,none⟩):=sL2_1
  replace sL2_4:aL2.tmps.getD 4 undef=.int .i64 (k2:Int):=sL2_4
  replace bL2_g1:wL2.heap[g1]?=some (.cells (stC a) 35 (0,0)):=bL2_g1
  refine wp_seq ?_
  refine wp_seq ?_
  cases fk3:decide ((k2:Int) < 8)
  case true=>
   have Ffk3:=Lib.hid fk3;clear fk3
   have hlt2:k2 < 8:=by have:=Ffk3.out;simp only [decide_eq_true_eq] at this;omega
   refine go_reg [] [] [some (.int .i64 (k2:Int)),oT] mo dL2 zL2 BL2 (by kernel_rfl) trivial (
    hk (fun cx=>cx.q (ex_mv rfl (cx.rq 4 sL2_4))) <|
    hk (fun cx=>cx.v (ex_lt (x:=.tmp 15) rfl (cx.u 0 rfl) rfl) rfl (congrArg Value.bool Ffk3.out)) <|
    hn) ?_
   intro a10 w10 f10
   refine wp_cond_true (f10.v 1 rfl rfl rfl) ?_
   refine wp_skip ?_
   refine wp_seq ?_
   refine wp_block ?_
   refine wp_seq ?_
   cases fk4:Ty.okB (a (11 + k2))
   case false=>
    have Ffk4:=Lib.hid fk4;clear fk4
    have b_g1_14:=f10.k bL2_g1
    have s4_15:=f10.q 4 sL2_4
    have s1_16:=f10.q 1 sL2_1
    refine go_reg [bx g1 35 (stC a)] [] [some (.int .i64 (k2:Int)),some (pt g1 99),some (pt g1 (9 * (11 + k2))),some (.agg (tyC (a (11 + k2)))),oF,oT,oT,oU,oU,oU,oU,oU,oU,oT] mo f10.d f10.z f10.b (by kernel_rfl) ⟨b_g1_14,trivial⟩ (
     hk (fun cx=>cx.q (ex_mv rfl (cx.rq 4 s4_15))) <|
     hk (fun cx=>cx.q (ex_fa rfl (cx.rq 1 s1_16) (faStI35_1_0 _ _))) <|
     hk (fun cx=>cx.v (ex_ia (n:=8) (sz:=9) rfl (cx.u 0 rfl) (cx.u 1 rfl) Try.underlying33 (by kernel_rfl) (by omega) (by omega) (by omega)) rfl rfl) <|
     hk (fun cx=>cx.v (ldEl (by omega) rfl (cx.u 0 rfl) (cx.rn 0 rfl)) rfl rfl) <|
     hc (fun _ _ wx cx=>cx.c rfl (args1 (cx.u 0 rfl)) Try.func18 (by decide +kernel) (qtype_n (a (11 + k2)) wx) rfl (congrArg Value.bool Ffk4.out)) <|
     hk (fun cx=>cx.q (ex_not (x:=.tmp 23) rfl (cx.u 0 rfl))) <|
     kmu 0 <|
     kno 0 <|
     kno 0 <|
     kno 2 <|
     kno 1 <|
     kno 1 <|
     kno 1 <|
     hk (fun cx=>cx.q (ex_pt rfl (cx.u 0 rfl) rfl)) <|
     hn) ?_
    intro a11 w11 f11
    refine wp_cond_true (f11.v 13 rfl rfl rfl) ?_
    refine wp_seq ?_
    refine go_reg [] [] [oF] mo f11.d f11.z f11.b (by kernel_rfl) trivial (
     hk (fun cx=>cx.q (ex_as rfl rfl)) <|
     hn) ?_
    intro a12 w12 f12
    refine wp_ret ?_
    try simp only [Exit.inBlock,Exit.then]
    refine bodyPost_ret (res_t (fn:=Try.f16) rfl (f12.v 0 rfl rfl rfl)) f12.d ?_
    have HN:=allN_no (p:=sltP a) hlt2 (show sltP a k2=false from by show (!Ty.unB (a (11 + k2)) && Ty.okB (a (11 + k2)))=_;simp only [Ffk4.out,Bool.not_true,Bool.not_false,Bool.false_and,Bool.true_and,Bool.and_false,Bool.and_true,Bool.or_true,Bool.true_or,Bool.false_or,Bool.or_false])
    have HE:(.bool false:Value)=.bool (okS a):=by unfold okS;simp only [HN,Bool.and_false]
    exact ⟨retV HE,f12.b⟩
   have Ffk4:=Lib.hid fk4;clear fk4
   cases fk5:Ty.unB (a (11 + k2))
   case false=>
    have Ffk5:=Lib.hid fk5;clear fk5
    have b_g1_17:=f10.k bL2_g1
    have s4_18:=f10.q 4 sL2_4
    have s1_19:=f10.q 1 sL2_1
    refine go_reg [bx g1 35 (stC a)] [] [some (.int .i64 (k2:Int)),some (pt g1 99),some (pt g1 (9 * (11 + k2))),some (.agg (tyC (a (11 + k2)))),oT,oF,oF,some (.int .i64 (k2:Int)),some (pt g1 99),some (pt g1 (9 * (11 + k2))),some (pt g1 (9 * (11 + k2))),some (.int .i8 (a (11 + k2)).kd),some (.bool (Ty.unB (a (11 + k2)))),oF] mo f10.d f10.z f10.b (by kernel_rfl) ⟨b_g1_17,trivial⟩ (
     hk (fun cx=>cx.q (ex_mv rfl (cx.rq 4 s4_18))) <|
     hk (fun cx=>cx.q (ex_fa rfl (cx.rq 1 s1_19) (faStI35_1_0 _ _))) <|
     hk (fun cx=>cx.v (ex_ia (n:=8) (sz:=9) rfl (cx.u 0 rfl) (cx.u 1 rfl) Try.underlying33 (by kernel_rfl) (by omega) (by omega) (by omega)) rfl rfl) <|
     hk (fun cx=>cx.v (ldEl (by omega) rfl (cx.u 0 rfl) (cx.rn 0 rfl)) rfl rfl) <|
     hc (fun _ _ wx cx=>cx.c rfl (args1 (cx.u 0 rfl)) Try.func18 (by decide +kernel) (qtype_n (a (11 + k2)) wx) rfl (congrArg Value.bool Ffk4.out)) <|
     hk (fun cx=>cx.q (ex_not (x:=.tmp 23) rfl (cx.u 0 rfl))) <|
     kmu 0 <|
     hk (fun cx=>cx.vy 0 (ex_mv rfl (cx.rq 4 s4_18))) <|
     hk (fun cx=>cx.vy 0 (ex_fa rfl (cx.rq 1 s1_19) (faStI35_1_0 _ _))) <|
     hk (fun cx=>cx.vy 2 (ex_ia (n:=8) (sz:=9) rfl (cx.u 0 rfl) (cx.u 1 rfl) Try.underlying33 (by kernel_rfl) (by omega) (by omega) (by omega)) rfl) <|
     hk (fun cx=>cx.vy 1 (ex_fa rfl (cx.u 0 rfl) (fxStI31_0 _ _ _))) <|
     hk (fun cx=>cx.vy 1 (ldKd (by omega) rfl (cx.u 0 rfl) (cx.rn 0 rfl)) rfl) <|
     hk (fun cx=>cx.vy 1 (ex_eq (x:=.tmp 30) rfl (cx.u 0 rfl) rfl) (congrArg Value.bool rfl)) <|
     hk (fun cx=>cx.v (ex_pf rfl (cx.u 0 rfl) (cx.u 1 rfl)) rfl (congrArg Value.bool Ffk5.out)) <|
     hn) ?_
    intro a13 w13 f13
    refine wp_cond_false (f13.v 13 rfl rfl rfl) ?_
    refine wp_skip ?_
    have s4_20:=f13.q 4 s4_18
    refine go_reg [] [] [some (.int .i64 (k2:Int)),some (.int .i64 ((k2 + 1:Nat):Int)),some (.int .i64 ((k2 + 1:Nat):Int))] mo f13.d f13.z f13.b (by kernel_rfl) trivial (
     hk (fun cx=>cx.q (ex_mv rfl (cx.un 2 rfl rfl (by kernel_rfl) s4_20))) <|
     hk (fun cx=>cx.v (ex_add (x:=.tmp 17) rfl (cx.u 0 rfl) rfl) rfl (congrArg (Value.int .i64) (wrapk hlt2 (by decide)))) <|
     kmu 0 <|
     hn) ?_
    intro a14 w14 f14
    have s1_21:=f14.q 1 (f13.q 1 s1_19)
    have b_g1_22:=f14.k (f13.k b_g1_17)
    exact ⟨hlt2,allN_step (p:=sltP a) hp2 (show sltP a k2=true from by show (!Ty.unB (a (11 + k2)) && Ty.okB (a (11 + k2)))=_;simp only [Ffk5.out,Ffk4.out,Bool.not_true,Bool.not_false,Bool.false_and,Bool.true_and,Bool.and_false,Bool.and_true,Bool.or_true,Bool.true_or,Bool.false_or,Bool.or_false]),f14.d,f14.z,f14.b,⟨s1_21,(f14.v 2 rfl rfl rfl),trivial⟩,⟨b_g1_22,trivial⟩⟩
   have Ffk5:=Lib.hid fk5;clear fk5
   have b_g1_23:=f10.k bL2_g1
   have s4_24:=f10.q 4 sL2_4
   have s1_25:=f10.q 1 sL2_1
   refine go_reg [bx g1 35 (stC a)] [] [some (.int .i64 (k2:Int)),some (pt g1 99),some (pt g1 (9 * (11 + k2))),some (.agg (tyC (a (11 + k2)))),oT,oF,oF,some (.int .i64 (k2:Int)),some (pt g1 99),some (pt g1 (9 * (11 + k2))),some (pt g1 (9 * (11 + k2))),some (.int .i8 (a (11 + k2)).kd),some (.bool (Ty.unB (a (11 + k2)))),oT] mo f10.d f10.z f10.b (by kernel_rfl) ⟨b_g1_23,trivial⟩ (
    hk (fun cx=>cx.q (ex_mv rfl (cx.rq 4 s4_24))) <|
    hk (fun cx=>cx.q (ex_fa rfl (cx.rq 1 s1_25) (faStI35_1_0 _ _))) <|
    hk (fun cx=>cx.v (ex_ia (n:=8) (sz:=9) rfl (cx.u 0 rfl) (cx.u 1 rfl) Try.underlying33 (by kernel_rfl) (by omega) (by omega) (by omega)) rfl rfl) <|
    hk (fun cx=>cx.v (ldEl (by omega) rfl (cx.u 0 rfl) (cx.rn 0 rfl)) rfl rfl) <|
    hc (fun _ _ wx cx=>cx.c rfl (args1 (cx.u 0 rfl)) Try.func18 (by decide +kernel) (qtype_n (a (11 + k2)) wx) rfl (congrArg Value.bool Ffk4.out)) <|
    hk (fun cx=>cx.q (ex_not (x:=.tmp 23) rfl (cx.u 0 rfl))) <|
    kmu 0 <|
    hk (fun cx=>cx.vy 0 (ex_mv rfl (cx.rq 4 s4_24))) <|
    hk (fun cx=>cx.vy 0 (ex_fa rfl (cx.rq 1 s1_25) (faStI35_1_0 _ _))) <|
    hk (fun cx=>cx.vy 2 (ex_ia (n:=8) (sz:=9) rfl (cx.u 0 rfl) (cx.u 1 rfl) Try.underlying33 (by kernel_rfl) (by omega) (by omega) (by omega)) rfl) <|
    hk (fun cx=>cx.vy 1 (ex_fa rfl (cx.u 0 rfl) (fxStI31_0 _ _ _))) <|
    hk (fun cx=>cx.vy 1 (ldKd (by omega) rfl (cx.u 0 rfl) (cx.rn 0 rfl)) rfl) <|
    hk (fun cx=>cx.vy 1 (ex_eq (x:=.tmp 30) rfl (cx.u 0 rfl) rfl) (congrArg Value.bool rfl)) <|
    hk (fun cx=>cx.v (ex_pf rfl (cx.u 0 rfl) (cx.u 1 rfl)) rfl (congrArg Value.bool Ffk5.out)) <|
    hn) ?_
   intro a15 w15 f15
   refine wp_cond_true (f15.v 13 rfl rfl rfl) ?_
   refine wp_seq ?_
   refine go_reg [] [] [oF] mo f15.d f15.z f15.b (by kernel_rfl) trivial (
    hk (fun cx=>cx.q (ex_as rfl rfl)) <|
    hn) ?_
   intro a16 w16 f16
   refine wp_ret ?_
   try simp only [Exit.inBlock,Exit.then]
   refine bodyPost_ret (res_t (fn:=Try.f16) rfl (f16.v 0 rfl rfl rfl)) f16.d ?_
   have HN:=allN_no (p:=sltP a) hlt2 (show sltP a k2=false from by show (!Ty.unB (a (11 + k2)) && Ty.okB (a (11 + k2)))=_;simp only [Ffk5.out,Ffk4.out,Bool.not_true,Bool.not_false,Bool.false_and,Bool.true_and,Bool.and_false,Bool.and_true,Bool.or_true,Bool.true_or,Bool.false_or,Bool.or_false])
   have HE:(.bool false:Value)=.bool (okS a):=by unfold okS;simp only [HN,Bool.and_false]
   exact ⟨retV HE,f16.b⟩
  have Ffk3:=Lib.hid fk3;clear fk3
  have hge2:k2=8:=by have:=Ffk3.out;simp only [decide_eq_false_iff_not] at this;omega
  refine go_reg [] [] [some (.int .i64 (k2:Int)),oF] mo dL2 zL2 BL2 (by kernel_rfl) trivial (
   hk (fun cx=>cx.q (ex_mv rfl (cx.rq 4 sL2_4))) <|
   hk (fun cx=>cx.v (ex_lt (x:=.tmp 15) rfl (cx.u 0 rfl) rfl) rfl (congrArg Value.bool Ffk3.out)) <|
   hn) ?_
  intro a17 w17 f17
  refine wp_cond_false (f17.v 1 rfl rfl rfl) ?_
  refine wp_exit ?_
  simp only [Exit.then,Exit.inBlock,if_true]
  refine wp_seq ?_
  refine go_reg [] [] [oT] mo f17.d f17.z f17.b (by kernel_rfl) trivial (
   hk (fun cx=>cx.q (ex_as rfl rfl)) <|
   hn) ?_
  intro a18 w18 f18
  refine wp_ret ?_
  try simp only [Exit.inBlock,Exit.then]
  refine bodyPost_ret (res_t (fn:=Try.f16) rfl (f18.v 0 rfl rfl rfl)) f18.d ?_
  have HE:(.bool true:Value)=.bool (okS a):=by unfold okS;simp only [show allN (regP a) 11=true from hge1 ▸ hp1,show allN (sltP a) 8=true from hge2 ▸ hp2,Bool.true_and]
  exact ⟨retV HE,f18.b⟩
set_option maxHeartbeats 4000000 in
theorem qfirst_n  (W:World):Calls Try.prog 12 #[] W fun e w'=>e=.returned (.agg (stC firstS)) ∧ Below W.heap.size W w':=by
  refine calls_abs Try.func12 rfl (Nat.le_of_ble_eq_true rfl) ?_
  intro a0 d0 z0 h0
  replace z0:a0.tmps.size=19:=z0
  refine wp_seq ?_
  refine go_reg [] [⟨0,0,35,(stC zS),none,#[]⟩] [none] mo d0 z0 (Below.refl _ _) (by kernel_rfl) trivial (
   hk (fun cx=>cx.al (wn rfl) 0 rfl (al_st rfl) rfl rfl rfl rfl rfl trivial) <|
   hn) ?_
  intro a1 w1 f1
  obtain ⟨g1,u_g1,q_g1,b_g1⟩:=f1.al.1
  refine wp_seq ?_
  refine go_reg [] [⟨0,1,35,(stC zS),none,#[]⟩] [none] mo f1.d f1.z f1.b (by kernel_rfl) trivial (
   hk (fun cx=>cx.al (wn rfl) 0 rfl (al_st rfl) rfl rfl rfl rfl rfl trivial) <|
   hn) ?_
  intro a2 w2 f2
  obtain ⟨g2,u_g2,q_g2,b_g2⟩:=f2.al.1
  refine wp_seq ?_
  refine go_reg [⟨g2,35,(stC zS),some 3,(stC (upS zS 1 ⟨2,tZ.s,tZ.lo,tZ.hi⟩))⟩] [] [some (.agg (tyC ⟨2,tZ.s,tZ.lo,tZ.hi⟩)),some (pt g2 0),some (pt g2 (9 * 1)),none] mo f2.d f2.z f2.b (by kernel_rfl) ⟨b_g2,trivial⟩ (
   hk (fun cx=>cx.q (exec_build rfl (parts1 rfl) (by kernel_rfl))) <|
   hk (fun cx=>cx.q (ex_fa rfl (cx.rq 1 u_g2) (faStI35_0_0 _ _))) <|
   hk (fun cx=>cx.v (ex_ia (n:=11) (sz:=9) rfl (cx.u 0 rfl) rfl Try.underlying32 (by kernel_rfl) (by omega) (by omega) (by omega)) rfl rfl) <|
   hk (fun cx=>cx.stP (wn rfl) rfl rfl 0 rfl (cx.u 0 rfl) (cx.u 1 rfl) (tyC_one _) (by kernel_rfl) (by rw [stC_size];show _ + 9 ≤ _;omega) (stC_set _ (by omega) _) (Nat.le_trans f1.b.size q_g2) rfl trivial trivial) <|
   hn) ?_
  intro a3 w3 f3
  refine wp_seq ?_
  have s1_1:=f3.q 1 u_g2
  refine go_reg [⟨g2,35,(stC (upS zS 1 ⟨2,tZ.s,tZ.lo,tZ.hi⟩)),some 3,(stC (upS (upS zS 1 ⟨2,tZ.s,tZ.lo,tZ.hi⟩) 10 ⟨3,tZ.s,64,64⟩))⟩] [] [some (.agg (tyC ⟨3,tZ.s,64,64⟩)),some (pt g2 0),some (pt g2 (9 * 10)),none] mo f3.d f3.z f3.b (by kernel_rfl) ⟨f3.rows.1,trivial⟩ (
   hk (fun cx=>cx.q (exec_build rfl (parts3 rfl rfl rfl) (by kernel_rfl))) <|
   hk (fun cx=>cx.q (ex_fa rfl (cx.rq 1 s1_1) (faStI35_0_0 _ _))) <|
   hk (fun cx=>cx.v (ex_ia (n:=11) (sz:=9) rfl (cx.u 0 rfl) rfl Try.underlying32 (by kernel_rfl) (by omega) (by omega) (by omega)) rfl rfl) <|
   hk (fun cx=>cx.stP (wn rfl) rfl rfl 0 rfl (cx.u 0 rfl) (cx.u 1 rfl) (tyC_one _) (by kernel_rfl) (by rw [stC_size];show _ + 9 ≤ _;omega) (stC_set _ (by omega) _) (Nat.le_trans f1.b.size q_g2) rfl trivial trivial) <|
   hn) ?_
  intro a4 w4 f4
  refine wp_seq ?_
  refine wp_seq ?_
  refine go_reg [] [] [some (.int .i64 0)] mo f4.d f4.z f4.b (by kernel_rfl) trivial (
   hk (fun cx=>cx.q (ex_as rfl rfl)) <|
   hn) ?_
  intro a5 w5 f5
  refine wp_block ?_
  have neL1_0_1:=(ne_row b_g1 q_g2)
  have s0_2:=f5.q 0 (f4.q 0 (f3.q 0 (f2.q 0 u_g1)))
  have s1_3:=f5.q 1 (f4.q 1 s1_1)
  have b_g1_4:=f5.k (f4.kp (f3.kp (f2.k b_g1) ⟨.inr (ne_row b_g1 q_g2),trivial⟩) ⟨.inr (ne_row b_g1 q_g2),trivial⟩)
  have b_g2_5:=f5.k f4.rows.1
  refine wp_count 8 (fun k1 aI wI=>True ∧ Mid 19 W [(0,.pointer (some ⟨g1,0,none⟩)),(1,.pointer (some ⟨g2,0,none⟩)),(2,.int .i64 (k1:Int))] [(g1,35,(stC zS)),(g2,35,(stC (fillT (upS (upS zS 1 (ptT 2 0 0)) 10 (ptT 3 64 64)) 11 k1 (scT (oneC 0#64)))))] aI wI) ⟨trivial,f5.d,f5.z,f5.b,⟨s0_2,s1_3,(f5.v 0 rfl rfl rfl),trivial⟩,⟨b_g1_4,(row_eq b_g2_5 (congrArg stC (fill_0 _ _ _).symm)),trivial⟩⟩ ?_
  intro k1 aL1 wL1 hlek1 hI1
  obtain ⟨hp1,dL1,zL1,BL1,⟨sL1_0,sL1_1,sL1_2,-⟩,⟨bL1_g1,bL1_g2,-⟩⟩:=hI1
  replace sL1_0:aL1.tmps.getD 0 undef=.pointer (some ⟨g1,0,none⟩):=sL1_0
  replace sL1_1:aL1.tmps.getD 1 undef=.pointer (some ⟨g2,0,none⟩):=sL1_1
  replace sL1_2:aL1.tmps.getD 2 undef=.int .i64 (k1:Int):=sL1_2
  replace bL1_g1:wL1.heap[g1]?=some (.cells (stC zS) 35 (0,0)):=bL1_g1
  replace bL1_g2:wL1.heap[g2]?=some (.cells (stC (fillT (upS (upS zS 1 (ptT 2 0 0)) 10 (ptT 3 64 64)) 11 k1 (scT (oneC 0#64)))) 35 (0,0)):=bL1_g2
  refine wp_seq ?_
  refine wp_seq ?_
  cases fk1:decide ((k1:Int) < 8)
  case true=>
   have Ffk1:=Lib.hid fk1;clear fk1
   have hlt1:k1 < 8:=by have:=Ffk1.out;simp only [decide_eq_true_eq] at this;omega
   refine go_reg [] [] [some (.int .i64 (k1:Int)),oT] mo dL1 zL1 BL1 (by kernel_rfl) trivial (
    hk (fun cx=>cx.q (ex_mv rfl (cx.rq 2 sL1_2))) <|
    hk (fun cx=>cx.v (ex_lt (x:=.tmp 9) rfl (cx.u 0 rfl) rfl) rfl (congrArg Value.bool Ffk1.out)) <|
    hn) ?_
   intro a6 w6 f6
   refine wp_cond_true (f6.v 1 rfl rfl rfl) ?_
   refine wp_skip ?_
   refine wp_seq ?_
   refine wp_block ?_
   have b_g2_6:=f6.k bL1_g2
   have s2_7:=f6.q 2 sL1_2
   have s1_8:=f6.q 1 sL1_1
   refine go_reg [⟨g2,35,(stC (fillT (upS (upS zS 1 (ptT 2 0 0)) 10 (ptT 3 64 64)) 11 k1 (scT (oneC 0#64)))),some 5,(stC (upS (fillT (upS (upS zS 1 (ptT 2 0 0)) 10 (ptT 3 64 64)) 11 k1 (scT (oneC 0#64))) (11 + k1) ⟨1,oneC 0#64,tZ.lo,tZ.hi⟩))⟩] [] [some (.int .i64 (k1:Int)),some (.agg (scC (oneC 0#64))),some (.agg (tyC ⟨1,oneC 0#64,tZ.lo,tZ.hi⟩)),some (pt g2 99),some (pt g2 (9 * (11 + k1))),none] mo f6.d f6.z f6.b (by kernel_rfl) ⟨b_g2_6,trivial⟩ (
    hk (fun cx=>cx.q (ex_mv rfl (cx.rq 2 s2_7))) <|
    hc (fun _ _ wx cx=>cx.c rfl (args1 rfl) Try.func39 (by decide +kernel) (wone_n 0#64 wx) rfl rfl) <|
    hk (fun cx=>cx.q (exec_build rfl (parts2 rfl (cx.u 0 rfl)) (by kernel_rfl))) <|
    hk (fun cx=>cx.q (ex_fa rfl (cx.rq 1 s1_8) (faStI35_1_0 _ _))) <|
    hk (fun cx=>cx.v (ex_ia (n:=8) (sz:=9) rfl (cx.u 0 rfl) (cx.u 1 rfl) Try.underlying33 (by kernel_rfl) (by omega) (by omega) (by omega)) rfl rfl) <|
    hk (fun cx=>cx.stP (wn rfl) rfl rfl 0 rfl (cx.u 0 rfl) (cx.u 1 rfl) (tyC_one _) (by kernel_rfl) (by rw [stC_size];show _ + 9 ≤ _;omega) (stC_set _ (by omega) _) (Nat.le_trans f1.b.size q_g2) rfl trivial trivial) <|
    hn) ?_
   intro a7 w7 f7
   have s2_9:=f7.q 2 s2_7
   refine go_reg [] [] [some (.int .i64 (k1:Int)),some (.int .i64 ((k1 + 1:Nat):Int)),some (.int .i64 ((k1 + 1:Nat):Int))] mo f7.d f7.z f7.b (by kernel_rfl) trivial (
    hk (fun cx=>cx.q (ex_mv rfl (cx.un 2 rfl rfl (by kernel_rfl) s2_9))) <|
    hk (fun cx=>cx.v (ex_add (x:=.tmp 11) rfl (cx.u 0 rfl) rfl) rfl (congrArg (Value.int .i64) (wrapk hlt1 (by decide)))) <|
    kmu 0 <|
    hn) ?_
   intro a8 w8 f8
   have s0_10:=f8.q 0 (f7.q 0 (f6.q 0 sL1_0))
   have s1_11:=f8.q 1 (f7.q 1 s1_8)
   have b_g1_12:=f8.k (f7.kp (f6.k bL1_g1) ⟨.inr neL1_0_1,trivial⟩)
   have b_g2_13:=f8.k f7.rows.1
   exact ⟨hlt1,trivial,f8.d,f8.z,f8.b,⟨s0_10,s1_11,(f8.v 2 rfl rfl rfl),trivial⟩,⟨b_g1_12,(row_eq b_g2_13 (congrArg stC (fill_step _ _ _ _))),trivial⟩⟩
  have Ffk1:=Lib.hid fk1;clear fk1
  have hge1:k1=8:=by have:=Ffk1.out;simp only [decide_eq_false_iff_not] at this;omega
  refine go_reg [] [] [some (.int .i64 (k1:Int)),oF] mo dL1 zL1 BL1 (by kernel_rfl) trivial (
   hk (fun cx=>cx.q (ex_mv rfl (cx.rq 2 sL1_2))) <|
   hk (fun cx=>cx.v (ex_lt (x:=.tmp 9) rfl (cx.u 0 rfl) rfl) rfl (congrArg Value.bool Ffk1.out)) <|
   hn) ?_
  intro a9 w9 f9
  refine wp_cond_false (f9.v 1 rfl rfl rfl) ?_
  refine wp_exit ?_
  simp only [Exit.then,Exit.inBlock,if_true]
  refine wp_seq ?_
  have b_g2_14:=f9.k bL1_g2
  have b_g1_15:=f9.k bL1_g1
  have s1_16:=f9.q 1 sL1_1
  have s0_17:=f9.q 0 sL1_0
  refine go_reg [bx g2 35 (stC (fillT (upS (upS zS 1 (ptT 2 0 0)) 10 (ptT 3 64 64)) 11 k1 (scT (oneC 0#64)))),⟨g1,35,(stC zS),some 1,(stC (fillT (upS (upS zS 1 (ptT 2 0 0)) 10 (ptT 3 64 64)) 11 k1 (scT (oneC 0#64))))⟩] [] [some (.agg (stC (fillT (upS (upS zS 1 (ptT 2 0 0)) 10 (ptT 3 64 64)) 11 k1 (scT (oneC 0#64))))),none] mo f9.d f9.z f9.b (by kernel_rfl) ⟨b_g2_14,b_g1_15,trivial⟩ (
   hk (fun cx=>cx.q (ldSt rfl (cx.rq 1 s1_16) (cx.rn 0 rfl))) <|
   hk (fun cx=>cx.stR (wn rfl) rfl rfl 1 rfl (cx.rq 0 s0_17) (cx.u 0 rfl) (st_info _) ((stC_size _).trans (stC_size _).symm) (stC_one _) q_g1 rfl ⟨neL1_0_1.symm,trivial⟩ trivial) <|
   hn) ?_
  intro a10 w10 f10
  refine wp_ret ?_
  have s0_18:=f10.q 0 s0_17
  try simp only [Exit.inBlock,Exit.then]
  refine bodyPost_ret (res_c (fn:=Try.f12) rfl s0_18 (load_row 35 f10.rows.2.1 Try.underlying35 rfl (st_info _))) f10.d ?_
  have HE:(.agg (stC (fillT (upS (upS zS 1 (ptT 2 0 0)) 10 (ptT 3 64 64)) 11 k1 (scT (oneC 0#64)))):Value)=.agg (stC firstS):=by rw [hge1];exact congrArg Value.agg (stC_congr (fun i hi=>by rcases below19 hi with rfl | rfl | rfl | rfl | rfl | rfl | rfl | rfl | rfl | rfl | rfl | rfl | rfl | rfl | rfl | rfl | rfl | rfl | rfl <;> rfl))
  exact ⟨retV HE,f10.b⟩
theorem kd_3 {t:Ty} (h:t.okB=true) (h0:(t.kd == 0)=false) (h1:(t.kd == 1)=false) (h2:(t.kd == 2)=false):(t.kd == 3)=true:=by
  cases e:t.kd == 3 with
  | true=>rfl
  | false=>rw [ok_3 h0 h1 (by rw [h2,e];rfl)] at h;cases h
set_option maxHeartbeats 4000000 in
theorem qholds_n (a:Ty) (v:B) (W:World) (ha:a.Ok):Calls Try.prog 20 #[.agg (tyC a),.int .u64 (V v)] W fun e w'=>e=.returned (.bool (Ty.holdB a v)) ∧ Below W.heap.size W w':=by
  have HA:=Lib.hid ha
  clear ha
  refine calls_abs Try.func20 rfl (Nat.le_of_ble_eq_true rfl) ?_
  intro a0 d0 z0 h0
  replace z0:a0.tmps.size=36:=z0
  have s0_0:a0.tmps.getD 0 undef=.agg (tyC a):=h0 0 (Nat.le_of_ble_eq_true rfl)
  have s1_0:a0.tmps.getD 1 undef=.int .u64 (V v):=h0 1 (Nat.le_of_ble_eq_true rfl)
  refine wp_seq ?_
  refine go_reg [] [⟨0,2,31,(tyC a),none,#[]⟩] [none,oF] mo d0 z0 (Below.refl _ _) (by kernel_rfl) trivial (
   hk (fun cx=>cx.al (wn rfl) 0 rfl (ex_box rfl (cx.rq 0 s0_0) rfl) rfl rfl rfl rfl rfl trivial) <|
   hk (fun cx=>cx.q (ex_as rfl rfl)) <|
   hn) ?_
  intro a1 w1 f1
  obtain ⟨g1,u_g1,q_g1,b_g1⟩:=f1.al.1
  refine wp_seq ?_
  refine wp_seq ?_
  cases fk1:Ty.okB a
  case false=>
   have Ffk1:=Lib.hid fk1;clear fk1
   refine go_reg [bx g1 31 (tyC a)] [] [some (.agg (tyC a)),oF,oT] mo f1.d f1.z f1.b (by kernel_rfl) ⟨b_g1,trivial⟩ (
    hk (fun cx=>cx.q (ldTy rfl (cx.rq 2 u_g1) (cx.rn 0 rfl))) <|
    hc (fun _ _ wx cx=>cx.c rfl (args1 (cx.u 0 rfl)) Try.func18 (by decide +kernel) (qtype_n a wx) rfl (congrArg Value.bool Ffk1.out)) <|
    hk (fun cx=>cx.q (ex_not (x:=.tmp 8) rfl (cx.u 0 rfl))) <|
    hn) ?_
   intro a2 w2 f2
   refine wp_cond_true (f2.v 2 rfl rfl rfl) ?_
   refine wp_seq ?_
   refine go_reg [] [] [oF] mo f2.d f2.z f2.b (by kernel_rfl) trivial (
    hk (fun cx=>cx.q (ex_as rfl rfl)) <|
    hn) ?_
   intro a3 w3 f3
   refine wp_ret ?_
   try simp only [Exit.inBlock,Exit.then]
   refine bodyPost_ret (res_t (fn:=Try.f20) rfl (f3.v 0 rfl rfl rfl)) f3.d ?_
   have HE:(.bool false:Value)=.bool (Ty.holdB a v):=by unfold Ty.holdB Ty.toB;simp only [Ffk1.out,if_true,if_false,Bool.false_eq_true,Bool.false_and,Bool.true_and,Bool.and_false,Bool.and_true,Bool.true_or,Bool.or_true,Bool.false_or,Bool.or_false]
   exact ⟨retV HE,f3.b⟩
  have Ffk1:=Lib.hid fk1;clear fk1
  refine go_reg [bx g1 31 (tyC a)] [] [some (.agg (tyC a)),oT,oF] mo f1.d f1.z f1.b (by kernel_rfl) ⟨b_g1,trivial⟩ (
   hk (fun cx=>cx.q (ldTy rfl (cx.rq 2 u_g1) (cx.rn 0 rfl))) <|
   hc (fun _ _ wx cx=>cx.c rfl (args1 (cx.u 0 rfl)) Try.func18 (by decide +kernel) (qtype_n a wx) rfl (congrArg Value.bool Ffk1.out)) <|
   hk (fun cx=>cx.q (ex_not (x:=.tmp 8) rfl (cx.u 0 rfl))) <|
   hn) ?_
  intro a4 w4 f4
  refine wp_cond_false (f4.v 2 rfl rfl rfl) ?_
  refine wp_skip ?_
  refine wp_seq ?_
  refine go_reg [] [] [some (.int .u64 3145728)] mo f4.d f4.z f4.b (by kernel_rfl) trivial (
   hk (fun cx=>cx.q (ex_as rfl rfl)) <|
   hn) ?_
  intro a5 w5 f5
  refine wp_seq ?_
  refine wp_seq ?_
  have b_g1_1:=f5.k (f4.k b_g1)
  have s2_2:=f5.q 2 (f4.q 2 u_g1)
  refine go_reg [bx g1 31 (tyC a)] [] [some (pt g1 0),some (.int .i8 a.kd)] mo f5.d f5.z f5.b (by kernel_rfl) ⟨b_g1_1,trivial⟩ (
   hk (fun cx=>cx.q (ex_fa rfl (cx.rq 2 s2_2) (faStI31_0_0 _ _))) <|
   hk (fun cx=>cx.q (ex_ld rfl (cx.u 0 rfl) (cx.rn 0 rfl) rfl Try.isAgg22)) <|
   hn) ?_
  intro a6 w6 f6
  refine wp_block ?_
  refine wp_seq ?_
  cases fk2:a.kd == 0
  case false=>
   have Ffk2:=Lib.hid fk2;clear fk2
   refine go_reg [] [] [oF,oF] mo f6.d f6.z f6.b (by kernel_rfl) trivial (
    hk (fun cx=>cx.v (ex_eq (x:=.tmp 11) rfl (cx.rq 11 (f6.v 1 rfl rfl rfl)) rfl) rfl (congrArg Value.bool Ffk2.out)) <|
    kmu 0 <|
    hn) ?_
   intro a7 w7 f7
   refine wp_cond_false (f7.v 1 rfl rfl rfl) ?_
   refine wp_seq ?_
   cases fk3:a.kd == 1
   case false=>
    have Ffk3:=Lib.hid fk3;clear fk3
    have s11_3:=f7.q 11 (f6.v 1 rfl rfl rfl)
    refine go_reg [] [] [oF,oF] mo f7.d f7.z f7.b (by kernel_rfl) trivial (
     hk (fun cx=>cx.v (ex_eq (x:=.tmp 11) rfl (cx.rq 11 s11_3) rfl) rfl (congrArg Value.bool Ffk3.out)) <|
     kmu 0 <|
     hn) ?_
    intro a8 w8 f8
    refine wp_cond_false (f8.v 1 rfl rfl rfl) ?_
    refine wp_seq ?_
    cases fk4:a.kd == 2
    case false=>
     have Ffk4:=Lib.hid fk4;clear fk4
     have s11_4:=f8.q 11 s11_3
     refine go_reg [] [] [oF,oF] mo f8.d f8.z f8.b (by kernel_rfl) trivial (
      hk (fun cx=>cx.v (ex_eq (x:=.tmp 11) rfl (cx.rq 11 s11_4) rfl) rfl (congrArg Value.bool Ffk4.out)) <|
      kmu 0 <|
      hn) ?_
     intro a9 w9 f9
     refine wp_cond_false (f9.v 1 rfl rfl rfl) ?_
     refine wp_skip ?_
     refine wp_seq ?_
     have s1_5:=f9.q 1 (f8.q 1 (f7.q 1 (f6.q 1 (f5.q 1 (f4.q 1 (f1.q 1 s1_0))))))
     have s5_6:=f9.q 5 (f8.q 5 (f7.q 5 (f6.q 5 (f5.v 0 rfl rfl rfl))))
     refine go_reg [] [] [some (.int .u64 (V v)),some (.int .u64 3145728),some (.int .u64 (V (v - 3145728#64))),some (.int .i64 (sg (V (v - 3145728#64)))),some (.int .i64 (sg (V (v - 3145728#64))))] mo f9.d f9.z f9.b (by kernel_rfl) trivial (
      hk (fun cx=>cx.q (ex_mv rfl (cx.rq 1 s1_5))) <|
      hk (fun cx=>cx.q (ex_mv rfl (cx.rq 5 s5_6))) <|
      hk (fun cx=>cx.v (ex_sub (x:=.tmp 22) (y:=.tmp 23) rfl (cx.u 0 rfl) (cx.u 1 rfl)) rfl (congrArg (Value.int .u64) (off_3 v))) <|
      hk (fun cx=>cx.v (ex_conv (x:=.tmp 24) rfl (cx.u 0 rfl) Try.underlying23 Try.underlying2) rfl (congrArg (Value.int .i64) (wrap_sg _))) <|
      kmu 0 <|
      hn) ?_
     intro a10 w10 f10
     refine wp_seq ?_
     cases fk5:decide (a.lo ≤ (sg (V (v - 3145728#64))))
     case false=>
      have Ffk5:=Lib.hid fk5;clear fk5
      have b_g1_7:=f10.k (f9.k (f8.k (f7.k (f6.k b_g1_1))))
      have s2_8:=f10.q 2 (f9.q 2 (f8.q 2 (f7.q 2 (f6.q 2 s2_2))))
      refine go_reg [bx g1 31 (tyC a)] [] [some (.int .i64 (sg (V (v - 3145728#64)))),some (pt g1 7),some (.int .i64 a.lo),oF,oF,oU,oU,oU,oU,oF,oF] mo f10.d f10.z f10.b (by kernel_rfl) ⟨b_g1_7,trivial⟩ (
       hk (fun cx=>cx.q (ex_mv rfl (cx.rq 6 (f10.v 4 rfl rfl rfl)))) <|
       hk (fun cx=>cx.q (ex_fa rfl (cx.rq 2 s2_8) (faStI31_2_0 _ _))) <|
       hk (fun cx=>cx.q (ex_ld rfl (cx.u 0 rfl) (cx.rn 0 rfl) rfl Try.isAgg3)) <|
       hk (fun cx=>cx.v (ex_ge (x:=.tmp 26) (y:=.tmp 28) rfl (cx.u 0 rfl) (cx.u 1 rfl)) rfl (congrArg Value.bool Ffk5.out)) <|
       kmu 0 <|
       kno 0 <|
       kno 0 <|
       kno 1 <|
       kno 2 <|
       hk (fun cx=>cx.q (ex_pf rfl (cx.u 0 rfl) rfl)) <|
       kmu 0 <|
       hn) ?_
      intro a11 w11 f11
      refine wp_ret ?_
      try simp only [Exit.inBlock,Exit.then]
      refine bodyPost_ret (res_t (fn:=Try.f20) rfl (f11.v 10 rfl rfl rfl)) f11.d ?_
      have HE:(.bool false:Value)=.bool (Ty.holdB a v):=by have h3:(a.kd == 3)=true:=kd_3 Ffk1.out Ffk2.out Ffk3.out Ffk4.out;unfold Ty.holdB Ty.toB;simp only [Ffk1.out,Ffk3.out,Ffk4.out,h3,if_true,if_false,Bool.false_eq_true,Ffk5.out,Bool.false_and,Bool.true_and,Bool.and_false,Bool.and_true,Bool.true_or,Bool.or_true,Bool.false_or,Bool.or_false]
      exact ⟨retV HE,f11.b⟩
     have Ffk5:=Lib.hid fk5;clear fk5
     cases fk6:decide ((sg (V (v - 3145728#64))) ≤ a.hi)
     case false=>
      have Ffk6:=Lib.hid fk6;clear fk6
      have b_g1_9:=f10.k (f9.k (f8.k (f7.k (f6.k b_g1_1))))
      have s2_10:=f10.q 2 (f9.q 2 (f8.q 2 (f7.q 2 (f6.q 2 s2_2))))
      refine go_reg [bx g1 31 (tyC a)] [] [some (.int .i64 (sg (V (v - 3145728#64)))),some (pt g1 7),some (.int .i64 a.lo),oT,oT,some (.int .i64 (sg (V (v - 3145728#64)))),some (pt g1 8),some (.int .i64 a.hi),oF,oF,oF] mo f10.d f10.z f10.b (by kernel_rfl) ⟨b_g1_9,trivial⟩ (
       hk (fun cx=>cx.q (ex_mv rfl (cx.rq 6 (f10.v 4 rfl rfl rfl)))) <|
       hk (fun cx=>cx.q (ex_fa rfl (cx.rq 2 s2_10) (faStI31_2_0 _ _))) <|
       hk (fun cx=>cx.q (ex_ld rfl (cx.u 0 rfl) (cx.rn 0 rfl) rfl Try.isAgg3)) <|
       hk (fun cx=>cx.v (ex_ge (x:=.tmp 26) (y:=.tmp 28) rfl (cx.u 0 rfl) (cx.u 1 rfl)) rfl (congrArg Value.bool Ffk5.out)) <|
       kmu 0 <|
       hk (fun cx=>cx.vy 0 (ex_mv rfl (cx.rq 6 (f10.v 4 rfl rfl rfl)))) <|
       hk (fun cx=>cx.vy 0 (ex_fa rfl (cx.rq 2 s2_10) (faStI31_3_0 _ _))) <|
       hk (fun cx=>cx.vy 1 (ex_ld rfl (cx.u 0 rfl) (cx.rn 0 rfl) rfl Try.isAgg3)) <|
       hk (fun cx=>cx.vy 2 (ex_le (x:=.tmp 31) (y:=.tmp 33) rfl (cx.u 0 rfl) (cx.u 1 rfl)) (congrArg Value.bool Ffk6.out)) <|
       hk (fun cx=>cx.q (ex_pt rfl (cx.u 0 rfl) (cx.u 1 rfl))) <|
       kmu 0 <|
       hn) ?_
      intro a12 w12 f12
      refine wp_ret ?_
      try simp only [Exit.inBlock,Exit.then]
      refine bodyPost_ret (res_t (fn:=Try.f20) rfl (f12.v 10 rfl rfl rfl)) f12.d ?_
      have HE:(.bool false:Value)=.bool (Ty.holdB a v):=by have h3:(a.kd == 3)=true:=kd_3 Ffk1.out Ffk2.out Ffk3.out Ffk4.out;unfold Ty.holdB Ty.toB;simp only [Ffk1.out,Ffk3.out,Ffk4.out,h3,if_true,if_false,Bool.false_eq_true,Ffk5.out,Ffk6.out,Bool.false_and,Bool.true_and,Bool.and_false,Bool.and_true,Bool.true_or,Bool.or_true,Bool.false_or,Bool.or_false]
      exact ⟨retV HE,f12.b⟩
     have Ffk6:=Lib.hid fk6;clear fk6
     have b_g1_11:=f10.k (f9.k (f8.k (f7.k (f6.k b_g1_1))))
     have s2_12:=f10.q 2 (f9.q 2 (f8.q 2 (f7.q 2 (f6.q 2 s2_2))))
     refine go_reg [bx g1 31 (tyC a)] [] [some (.int .i64 (sg (V (v - 3145728#64)))),some (pt g1 7),some (.int .i64 a.lo),oT,oT,some (.int .i64 (sg (V (v - 3145728#64)))),some (pt g1 8),some (.int .i64 a.hi),oT,oT,oT] mo f10.d f10.z f10.b (by kernel_rfl) ⟨b_g1_11,trivial⟩ (
      hk (fun cx=>cx.q (ex_mv rfl (cx.rq 6 (f10.v 4 rfl rfl rfl)))) <|
      hk (fun cx=>cx.q (ex_fa rfl (cx.rq 2 s2_12) (faStI31_2_0 _ _))) <|
      hk (fun cx=>cx.q (ex_ld rfl (cx.u 0 rfl) (cx.rn 0 rfl) rfl Try.isAgg3)) <|
      hk (fun cx=>cx.v (ex_ge (x:=.tmp 26) (y:=.tmp 28) rfl (cx.u 0 rfl) (cx.u 1 rfl)) rfl (congrArg Value.bool Ffk5.out)) <|
      kmu 0 <|
      hk (fun cx=>cx.vy 0 (ex_mv rfl (cx.rq 6 (f10.v 4 rfl rfl rfl)))) <|
      hk (fun cx=>cx.vy 0 (ex_fa rfl (cx.rq 2 s2_12) (faStI31_3_0 _ _))) <|
      hk (fun cx=>cx.vy 1 (ex_ld rfl (cx.u 0 rfl) (cx.rn 0 rfl) rfl Try.isAgg3)) <|
      hk (fun cx=>cx.vy 2 (ex_le (x:=.tmp 31) (y:=.tmp 33) rfl (cx.u 0 rfl) (cx.u 1 rfl)) (congrArg Value.bool Ffk6.out)) <|
      hk (fun cx=>cx.q (ex_pt rfl (cx.u 0 rfl) (cx.u 1 rfl))) <|
      kmu 0 <|
      hn) ?_
     intro a13 w13 f13
     refine wp_ret ?_
     try simp only [Exit.inBlock,Exit.then]
     refine bodyPost_ret (res_t (fn:=Try.f20) rfl (f13.v 10 rfl rfl rfl)) f13.d ?_
     have HE:(.bool true:Value)=.bool (Ty.holdB a v):=by have h3:(a.kd == 3)=true:=kd_3 Ffk1.out Ffk2.out Ffk3.out Ffk4.out;unfold Ty.holdB Ty.toB;simp only [Ffk1.out,Ffk3.out,Ffk4.out,h3,if_true,if_false,Bool.false_eq_true,Ffk5.out,Ffk6.out,Bool.false_and,Bool.true_and,Bool.and_false,Bool.and_true,Bool.true_or,Bool.or_true,Bool.false_or,Bool.or_false]
     exact ⟨retV HE,f13.b⟩
    have Ffk4:=Lib.hid fk4;clear fk4
    have s11_13:=f8.q 11 s11_3
    refine go_reg [] [] [oT,oT] mo f8.d f8.z f8.b (by kernel_rfl) trivial (
     hk (fun cx=>cx.v (ex_eq (x:=.tmp 11) rfl (cx.rq 11 s11_13) rfl) rfl (congrArg Value.bool Ffk4.out)) <|
     kmu 0 <|
     hn) ?_
    intro a14 w14 f14
    refine wp_cond_true (f14.v 1 rfl rfl rfl) ?_
    refine go_reg [] [] [some (.int .u64 2097152)] mo f14.d f14.z f14.b (by kernel_rfl) trivial (
     hk (fun cx=>cx.q (ex_as rfl rfl)) <|
     hn) ?_
    intro a15 w15 f15
    refine wp_seq ?_
    have s1_14:=f15.q 1 (f14.q 1 (f8.q 1 (f7.q 1 (f6.q 1 (f5.q 1 (f4.q 1 (f1.q 1 s1_0)))))))
    refine go_reg [] [] [some (.int .u64 (V v)),some (.int .u64 2097152),some (.int .u64 (V (v - 2097152#64))),some (.int .i64 (sg (V (v - 2097152#64)))),some (.int .i64 (sg (V (v - 2097152#64))))] mo f15.d f15.z f15.b (by kernel_rfl) trivial (
     hk (fun cx=>cx.q (ex_mv rfl (cx.rq 1 s1_14))) <|
     hk (fun cx=>cx.q (ex_mv rfl (cx.rq 5 (f15.v 0 rfl rfl rfl)))) <|
     hk (fun cx=>cx.v (ex_sub (x:=.tmp 22) (y:=.tmp 23) rfl (cx.u 0 rfl) (cx.u 1 rfl)) rfl (congrArg (Value.int .u64) (off_2 v))) <|
     hk (fun cx=>cx.v (ex_conv (x:=.tmp 24) rfl (cx.u 0 rfl) Try.underlying23 Try.underlying2) rfl (congrArg (Value.int .i64) (wrap_sg _))) <|
     kmu 0 <|
     hn) ?_
    intro a16 w16 f16
    refine wp_seq ?_
    cases fk7:decide (a.lo ≤ (sg (V (v - 2097152#64))))
    case false=>
     have Ffk7:=Lib.hid fk7;clear fk7
     have b_g1_15:=f16.k (f15.k (f14.k (f8.k (f7.k (f6.k b_g1_1)))))
     have s2_16:=f16.q 2 (f15.q 2 (f14.q 2 (f8.q 2 (f7.q 2 (f6.q 2 s2_2)))))
     refine go_reg [bx g1 31 (tyC a)] [] [some (.int .i64 (sg (V (v - 2097152#64)))),some (pt g1 7),some (.int .i64 a.lo),oF,oF,oU,oU,oU,oU,oF,oF] mo f16.d f16.z f16.b (by kernel_rfl) ⟨b_g1_15,trivial⟩ (
      hk (fun cx=>cx.q (ex_mv rfl (cx.rq 6 (f16.v 4 rfl rfl rfl)))) <|
      hk (fun cx=>cx.q (ex_fa rfl (cx.rq 2 s2_16) (faStI31_2_0 _ _))) <|
      hk (fun cx=>cx.q (ex_ld rfl (cx.u 0 rfl) (cx.rn 0 rfl) rfl Try.isAgg3)) <|
      hk (fun cx=>cx.v (ex_ge (x:=.tmp 26) (y:=.tmp 28) rfl (cx.u 0 rfl) (cx.u 1 rfl)) rfl (congrArg Value.bool Ffk7.out)) <|
      kmu 0 <|
      kno 0 <|
      kno 0 <|
      kno 1 <|
      kno 2 <|
      hk (fun cx=>cx.q (ex_pf rfl (cx.u 0 rfl) rfl)) <|
      kmu 0 <|
      hn) ?_
     intro a17 w17 f17
     refine wp_ret ?_
     try simp only [Exit.inBlock,Exit.then]
     refine bodyPost_ret (res_t (fn:=Try.f20) rfl (f17.v 10 rfl rfl rfl)) f17.d ?_
     have HE:(.bool false:Value)=.bool (Ty.holdB a v):=by unfold Ty.holdB Ty.toB;simp only [Ffk1.out,Ffk3.out,Ffk4.out,if_true,if_false,Bool.false_eq_true,Ffk7.out,Bool.false_and,Bool.true_and,Bool.and_false,Bool.and_true,Bool.true_or,Bool.or_true,Bool.false_or,Bool.or_false]
     exact ⟨retV HE,f17.b⟩
    have Ffk7:=Lib.hid fk7;clear fk7
    cases fk8:decide ((sg (V (v - 2097152#64))) ≤ a.hi)
    case false=>
     have Ffk8:=Lib.hid fk8;clear fk8
     have b_g1_17:=f16.k (f15.k (f14.k (f8.k (f7.k (f6.k b_g1_1)))))
     have s2_18:=f16.q 2 (f15.q 2 (f14.q 2 (f8.q 2 (f7.q 2 (f6.q 2 s2_2)))))
     refine go_reg [bx g1 31 (tyC a)] [] [some (.int .i64 (sg (V (v - 2097152#64)))),some (pt g1 7),some (.int .i64 a.lo),oT,oT,some (.int .i64 (sg (V (v - 2097152#64)))),some (pt g1 8),some (.int .i64 a.hi),oF,oF,oF] mo f16.d f16.z f16.b (by kernel_rfl) ⟨b_g1_17,trivial⟩ (
      hk (fun cx=>cx.q (ex_mv rfl (cx.rq 6 (f16.v 4 rfl rfl rfl)))) <|
      hk (fun cx=>cx.q (ex_fa rfl (cx.rq 2 s2_18) (faStI31_2_0 _ _))) <|
      hk (fun cx=>cx.q (ex_ld rfl (cx.u 0 rfl) (cx.rn 0 rfl) rfl Try.isAgg3)) <|
      hk (fun cx=>cx.v (ex_ge (x:=.tmp 26) (y:=.tmp 28) rfl (cx.u 0 rfl) (cx.u 1 rfl)) rfl (congrArg Value.bool Ffk7.out)) <|
      kmu 0 <|
      hk (fun cx=>cx.vy 0 (ex_mv rfl (cx.rq 6 (f16.v 4 rfl rfl rfl)))) <|
      hk (fun cx=>cx.vy 0 (ex_fa rfl (cx.rq 2 s2_18) (faStI31_3_0 _ _))) <|
      hk (fun cx=>cx.vy 1 (ex_ld rfl (cx.u 0 rfl) (cx.rn 0 rfl) rfl Try.isAgg3)) <|
      hk (fun cx=>cx.vy 2 (ex_le (x:=.tmp 31) (y:=.tmp 33) rfl (cx.u 0 rfl) (cx.u 1 rfl)) (congrArg Value.bool Ffk8.out)) <|
      hk (fun cx=>cx.q (ex_pt rfl (cx.u 0 rfl) (cx.u 1 rfl))) <|
      kmu 0 <|
      hn) ?_
     intro a18 w18 f18
     refine wp_ret ?_
     try simp only [Exit.inBlock,Exit.then]
     refine bodyPost_ret (res_t (fn:=Try.f20) rfl (f18.v 10 rfl rfl rfl)) f18.d ?_
     have HE:(.bool false:Value)=.bool (Ty.holdB a v):=by unfold Ty.holdB Ty.toB;simp only [Ffk1.out,Ffk3.out,Ffk4.out,if_true,if_false,Bool.false_eq_true,Ffk7.out,Ffk8.out,Bool.false_and,Bool.true_and,Bool.and_false,Bool.and_true,Bool.true_or,Bool.or_true,Bool.false_or,Bool.or_false]
     exact ⟨retV HE,f18.b⟩
    have Ffk8:=Lib.hid fk8;clear fk8
    have b_g1_19:=f16.k (f15.k (f14.k (f8.k (f7.k (f6.k b_g1_1)))))
    have s2_20:=f16.q 2 (f15.q 2 (f14.q 2 (f8.q 2 (f7.q 2 (f6.q 2 s2_2)))))
    refine go_reg [bx g1 31 (tyC a)] [] [some (.int .i64 (sg (V (v - 2097152#64)))),some (pt g1 7),some (.int .i64 a.lo),oT,oT,some (.int .i64 (sg (V (v - 2097152#64)))),some (pt g1 8),some (.int .i64 a.hi),oT,oT,oT] mo f16.d f16.z f16.b (by kernel_rfl) ⟨b_g1_19,trivial⟩ (
     hk (fun cx=>cx.q (ex_mv rfl (cx.rq 6 (f16.v 4 rfl rfl rfl)))) <|
     hk (fun cx=>cx.q (ex_fa rfl (cx.rq 2 s2_20) (faStI31_2_0 _ _))) <|
     hk (fun cx=>cx.q (ex_ld rfl (cx.u 0 rfl) (cx.rn 0 rfl) rfl Try.isAgg3)) <|
     hk (fun cx=>cx.v (ex_ge (x:=.tmp 26) (y:=.tmp 28) rfl (cx.u 0 rfl) (cx.u 1 rfl)) rfl (congrArg Value.bool Ffk7.out)) <|
     kmu 0 <|
     hk (fun cx=>cx.vy 0 (ex_mv rfl (cx.rq 6 (f16.v 4 rfl rfl rfl)))) <|
     hk (fun cx=>cx.vy 0 (ex_fa rfl (cx.rq 2 s2_20) (faStI31_3_0 _ _))) <|
     hk (fun cx=>cx.vy 1 (ex_ld rfl (cx.u 0 rfl) (cx.rn 0 rfl) rfl Try.isAgg3)) <|
     hk (fun cx=>cx.vy 2 (ex_le (x:=.tmp 31) (y:=.tmp 33) rfl (cx.u 0 rfl) (cx.u 1 rfl)) (congrArg Value.bool Ffk8.out)) <|
     hk (fun cx=>cx.q (ex_pt rfl (cx.u 0 rfl) (cx.u 1 rfl))) <|
     kmu 0 <|
     hn) ?_
    intro a19 w19 f19
    refine wp_ret ?_
    try simp only [Exit.inBlock,Exit.then]
    refine bodyPost_ret (res_t (fn:=Try.f20) rfl (f19.v 10 rfl rfl rfl)) f19.d ?_
    have HE:(.bool true:Value)=.bool (Ty.holdB a v):=by unfold Ty.holdB Ty.toB;simp only [Ffk1.out,Ffk3.out,Ffk4.out,if_true,if_false,Bool.false_eq_true,Ffk7.out,Ffk8.out,Bool.false_and,Bool.true_and,Bool.and_false,Bool.and_true,Bool.true_or,Bool.or_true,Bool.false_or,Bool.or_false]
    exact ⟨retV HE,f19.b⟩
   have Ffk3:=Lib.hid fk3;clear fk3
   have s11_21:=f7.q 11 (f6.v 1 rfl rfl rfl)
   refine go_reg [] [] [oT,oT] mo f7.d f7.z f7.b (by kernel_rfl) trivial (
    hk (fun cx=>cx.v (ex_eq (x:=.tmp 11) rfl (cx.rq 11 s11_21) rfl) rfl (congrArg Value.bool Ffk3.out)) <|
    kmu 0 <|
    hn) ?_
   intro a20 w20 f20
   refine wp_cond_true (f20.v 1 rfl rfl rfl) ?_
   refine wp_seq ?_
   have b_g1_22:=f20.k (f7.k (f6.k b_g1_1))
   have s2_23:=f20.q 2 (f7.q 2 (f6.q 2 s2_2))
   have s1_24:=f20.q 1 (f7.q 1 (f6.q 1 (f5.q 1 (f4.q 1 (f1.q 1 s1_0)))))
   refine go_reg [bx g1 31 (tyC a)] [] [some (pt g1 1),some (.agg (scC a.s)),some (.int .u64 (V v)),some (.bool (Sc.hasB a.s v)),some (.bool (Sc.hasB a.s v))] mo f20.d f20.z f20.b (by kernel_rfl) ⟨b_g1_22,trivial⟩ (
    hk (fun cx=>cx.q (ex_fa rfl (cx.rq 2 s2_23) (faStI31_1_0 _ _))) <|
    hk (fun cx=>cx.q (exec_loadR 29 _ rfl g1 1 (cx.u 0 rfl) (cx.rn 0 rfl) [.int .u64 a.s.r.u.lo,.int .u64 a.s.r.u.hi,.int .i64 a.s.r.s.lo,.int .i64 a.s.r.s.hi,.int .u64 (V a.s.k.v),.int .u64 (V a.s.k.m)] rfl _ Try.underlying29 rfl (by kernel_rfl))) <|
    hk (fun cx=>cx.q (ex_mv rfl (cx.rq 1 s1_24))) <|
    hc (fun _ _ wx cx=>cx.c rfl (args2 (cx.u 0 rfl) (cx.u 1 rfl)) Try.func46 (by decide +kernel) (whas_n a.s v wx) rfl rfl) <|
    kmu 0 <|
    hn) ?_
   intro a21 w21 f21
   refine wp_ret ?_
   try simp only [Exit.inBlock,Exit.then]
   refine bodyPost_ret (res_t (fn:=Try.f20) rfl (f21.v 4 rfl rfl rfl)) f21.d ?_
   have HE:(.bool (Sc.hasB a.s v):Value)=.bool (Ty.holdB a v):=by unfold Ty.holdB Ty.toB;simp only [Ffk1.out,Ffk3.out,if_true,if_false,Bool.false_eq_true,Bool.false_and,Bool.true_and,Bool.and_false,Bool.and_true,Bool.true_or,Bool.or_true,Bool.false_or,Bool.or_false]
   exact ⟨retV HE,f21.b⟩
  have Ffk2:=Lib.hid fk2;clear fk2
  refine go_reg [] [] [oT,oT] mo f6.d f6.z f6.b (by kernel_rfl) trivial (
   hk (fun cx=>cx.v (ex_eq (x:=.tmp 11) rfl (cx.rq 11 (f6.v 1 rfl rfl rfl)) rfl) rfl (congrArg Value.bool Ffk2.out)) <|
   kmu 0 <|
   hn) ?_
  intro a22 w22 f22
  refine wp_cond_true (f22.v 1 rfl rfl rfl) ?_
  refine wp_seq ?_
  refine go_reg [] [] [oT] mo f22.d f22.z f22.b (by kernel_rfl) trivial (
   hk (fun cx=>cx.q (ex_as rfl rfl)) <|
   hn) ?_
  intro a23 w23 f23
  refine wp_ret ?_
  try simp only [Exit.inBlock,Exit.then]
  refine bodyPost_ret (res_t (fn:=Try.f20) rfl (f23.v 0 rfl rfl rfl)) f23.d ?_
  have HE:(.bool true:Value)=.bool (Ty.holdB a v):=by have h:=yb Ffk2.out;unfold Ty.holdB;rw [Ffk1.out,h];rfl
  exact ⟨retV HE,f23.b⟩
end Go.Proofs.Ytcnneeimkcnjfaa.Sta
