import Derived.Test.YtcnneeimkcnjfaaStC
namespace Go.Proofs.Ytcnneeimkcnjfaa.Sta
open Go.RowKit Bnd Knw
set_option linter.unusedVariables false
set_option linter.unusedSimpArgs false
set_option linter.unnecessarySimpa false
set_option maxRecDepth 100000
theorem faStD31_0_0 (g:Nat) (w:World):(Instr.fieldAt 31 (.pointer (some ⟨g,0,none⟩)) 0).run Try.prog w=.ok (.pointer (some ⟨g,0,none⟩)) w:=by simp [go_sem]
theorem faStD31_2_0 (g:Nat) (w:World):(Instr.fieldAt 31 (.pointer (some ⟨g,0,none⟩)) 2).run Try.prog w=.ok (.pointer (some ⟨g,7,none⟩)) w:=by simp [go_sem]
theorem faStD31_3_0 (g:Nat) (w:World):(Instr.fieldAt 31 (.pointer (some ⟨g,0,none⟩)) 3).run Try.prog w=.ok (.pointer (some ⟨g,8,none⟩)) w:=by simp [go_sem]
theorem faStD31_1_0 (g:Nat) (w:World):(Instr.fieldAt 31 (.pointer (some ⟨g,0,none⟩)) 1).run Try.prog w=.ok (.pointer (some ⟨g,1,none⟩)) w:=by simp [go_sem]
set_option maxHeartbeats 4000000 in
theorem unset_n (a:Ty) (W:World):Calls Try.prog 36 #[.agg (tyC a)] W fun e w'=>e=.returned (.bool (Ty.unB a)) ∧ Below W.heap.size W w':=by
  refine calls_abs Try.func36 rfl (Nat.le_of_ble_eq_true rfl) ?_
  intro a0 d0 z0 h0
  replace z0:a0.tmps.size=6:=z0
  have s0_0:a0.tmps.getD 0 undef=.agg (tyC a):=h0 0 (Nat.le_of_ble_eq_true rfl)
  refine wp_seq ?_
  refine go_reg [] [⟨0,1,31,(tyC a),none,#[]⟩] [none,oF] mo d0 z0 (Below.refl _ _) (by kernel_rfl) trivial (
   hk (fun cx=>cx.al (wn rfl) 0 rfl (ex_box rfl (cx.rq 0 s0_0) rfl) rfl rfl rfl rfl rfl trivial) <|
   hk (fun cx=>cx.q (ex_as rfl rfl)) <|
   hn) ?_
  intro a1 w1 f1
  obtain ⟨g1,u_g1,q_g1,b_g1⟩:=f1.al.1
  refine wp_seq ?_
  refine go_reg [bx g1 31 (tyC a)] [] [some (pt g1 0),some (.int .i8 a.kd),some (.bool (a.kd == 0)),some (.bool (a.kd == 0))] mo f1.d f1.z f1.b (by kernel_rfl) ⟨b_g1,trivial⟩ (
   hk (fun cx=>cx.q (ex_fa rfl (cx.rq 1 u_g1) (faStD31_0_0 _ _))) <|
   hk (fun cx=>cx.q (ex_ld rfl (cx.u 0 rfl) (cx.rn 0 rfl) rfl Try.isAgg22)) <|
   hk (fun cx=>cx.q (ex_eq (x:=.tmp 4) rfl (cx.u 0 rfl) rfl)) <|
   kmu 0 <|
   hn) ?_
  intro a2 w2 f2
  refine wp_ret ?_
  try simp only [Exit.inBlock,Exit.then]
  refine bodyPost_ret (res_t (fn:=Try.f36) rfl (f2.v 3 rfl rfl rfl)) f2.d ?_
  have HE:(.bool (a.kd == 0):Value)=.bool (Ty.unB a):=rfl
  exact ⟨retV HE,f2.b⟩
set_option maxHeartbeats 4000000 in
theorem sct_n (s:Sc) (W:World):Calls Try.prog 32 #[.agg (scC s)] W fun e w'=>e=.returned (.agg (tyC (scT s))) ∧ Below W.heap.size W w':=by
  refine calls_abs Try.func32 rfl (Nat.le_of_ble_eq_true rfl) ?_
  intro a0 d0 z0 h0
  replace z0:a0.tmps.size=5:=z0
  have s0_0:a0.tmps.getD 0 undef=.agg (scC s):=h0 0 (Nat.le_of_ble_eq_true rfl)
  refine wp_seq ?_
  refine go_reg [] [⟨0,1,29,(scC s),none,#[]⟩,⟨1,2,31,(tyC tZ),none,#[]⟩] [none,none] mo d0 z0 (Below.refl _ _) (by kernel_rfl) trivial (
   hk (fun cx=>cx.al (wn rfl) 0 rfl (ex_box rfl (cx.rq 0 s0_0) rfl) rfl rfl rfl rfl rfl trivial) <|
   hk (fun cx=>cx.al (wn rfl) 1 rfl (al_ty rfl) rfl rfl rfl rfl rfl trivial) <|
   hn) ?_
  intro a1 w1 f1
  obtain ⟨g1,u_g1,q_g1,b_g1⟩:=f1.al.1
  obtain ⟨g2,u_g2,q_g2,b_g2⟩:=f1.al.2.1
  refine wp_seq ?_
  refine go_reg [bx g1 29 (scC s),⟨g2,31,(tyC tZ),some 2,(tyC ⟨1,s,tZ.lo,tZ.hi⟩)⟩] [] [some (.agg (scC s)),some (.agg (tyC ⟨1,s,tZ.lo,tZ.hi⟩)),none] mo f1.d f1.z f1.b (by kernel_rfl) ⟨b_g1,b_g2,trivial⟩ (
   hk (fun cx=>cx.q (ldSc rfl (cx.rq 1 u_g1) (cx.rn 0 rfl))) <|
   hk (fun cx=>cx.q (exec_build rfl (parts2 rfl (cx.u 0 rfl)) (by kernel_rfl))) <|
   hk (fun cx=>cx.stR (wn rfl) rfl rfl 1 rfl (cx.rq 2 u_g2) (cx.u 0 rfl) (by kernel_rfl) (Eq.refl 9) (tyC_one _) q_g2 rfl ⟨(ne_ptr (pairAt f1.ps 0 1 (by decide) rfl rfl) u_g1 u_g2),trivial⟩ trivial) <|
   hn) ?_
  intro a2 w2 f2
  refine wp_ret ?_
  have s2_1:=f2.q 2 u_g2
  try simp only [Exit.inBlock,Exit.then]
  refine bodyPost_ret (res_c (fn:=Try.f32) rfl s2_1 (load_row 31 f2.rows.2.1 Try.underlying31 rfl (by kernel_rfl))) f2.d ?_
  have HE:(.agg (tyC ⟨1,s,tZ.lo,tZ.hi⟩):Value)=.agg (tyC (scT s)):=rfl
  exact ⟨retV HE,f2.b⟩
set_option maxHeartbeats 4000000 in
theorem ptt_n (k l h:Int) (W:World):Calls Try.prog 37 #[.int .i8 k,.int .i64 l,.int .i64 h] W fun e w'=>e=.returned (.agg (tyC (ptT k l h))) ∧ Below W.heap.size W w':=by
  refine calls_abs Try.func37 rfl (Nat.le_of_ble_eq_true rfl) ?_
  intro a0 d0 z0 h0
  replace z0:a0.tmps.size=11:=z0
  have s0_0:a0.tmps.getD 0 undef=.int .i8 k:=h0 0 (Nat.le_of_ble_eq_true rfl)
  have s1_0:a0.tmps.getD 1 undef=.int .i64 l:=h0 1 (Nat.le_of_ble_eq_true rfl)
  have s2_0:a0.tmps.getD 2 undef=.int .i64 h:=h0 2 (Nat.le_of_ble_eq_true rfl)
  refine wp_seq ?_
  refine go_reg [] [⟨0,6,31,(tyC tZ),none,#[]⟩] [none] mo d0 z0 (Below.refl _ _) (by kernel_rfl) trivial (
   hk (fun cx=>cx.al (wn rfl) 0 rfl (al_ty rfl) rfl rfl rfl rfl rfl trivial) <|
   hn) ?_
  intro a1 w1 f1
  obtain ⟨g1,u_g1,q_g1,b_g1⟩:=f1.al.1
  refine wp_seq ?_
  have s0_1:=f1.q 0 s0_0
  have s1_2:=f1.q 1 s1_0
  have s2_3:=f1.q 2 s2_0
  refine go_reg [⟨g1,31,(tyC tZ),some 4,(tyC ⟨k,tZ.s,l,h⟩)⟩] [] [some (.int .i8 k),some (.int .i64 l),some (.int .i64 h),some (.agg (tyC ⟨k,tZ.s,l,h⟩)),none] mo f1.d f1.z f1.b (by kernel_rfl) ⟨b_g1,trivial⟩ (
   hk (fun cx=>cx.q (ex_mv rfl (cx.rq 0 s0_1))) <|
   hk (fun cx=>cx.q (ex_mv rfl (cx.rq 1 s1_2))) <|
   hk (fun cx=>cx.q (ex_mv rfl (cx.rq 2 s2_3))) <|
   hk (fun cx=>cx.q (exec_build rfl (parts3 (cx.u 0 rfl) (cx.u 1 rfl) (cx.u 2 rfl)) (by kernel_rfl))) <|
   hk (fun cx=>cx.stR (wn rfl) rfl rfl 0 rfl (cx.rq 6 u_g1) (cx.u 0 rfl) (by kernel_rfl) (Eq.refl 9) (tyC_one _) q_g1 rfl trivial trivial) <|
   hn) ?_
  intro a2 w2 f2
  refine wp_ret ?_
  have s6_4:=f2.q 6 u_g1
  try simp only [Exit.inBlock,Exit.then]
  refine bodyPost_ret (res_c (fn:=Try.f37) rfl s6_4 (load_row 31 f2.rows.1 Try.underlying31 rfl (by kernel_rfl))) f2.d ?_
  have HE:(.agg (tyC ⟨k,tZ.s,l,h⟩):Value)=.agg (tyC (ptT k l h)):=rfl
  exact ⟨retV HE,f2.b⟩
set_option maxHeartbeats 4000000 in
theorem tscalar_n  (W:World):Calls Try.prog 13 #[] W fun e w'=>e=.returned (.agg (tyC allT)) ∧ Below W.heap.size W w':=by
  refine calls_abs Try.func13 rfl (Nat.le_of_ble_eq_true rfl) ?_
  intro a0 d0 z0 h0
  replace z0:a0.tmps.size=3:=z0
  refine wp_seq ?_
  refine go_reg [] [⟨0,0,31,(tyC tZ),none,#[]⟩] [none] mo d0 z0 (Below.refl _ _) (by kernel_rfl) trivial (
   hk (fun cx=>cx.al (wn rfl) 0 rfl (al_ty rfl) rfl rfl rfl rfl rfl trivial) <|
   hn) ?_
  intro a1 w1 f1
  obtain ⟨g1,u_g1,q_g1,b_g1⟩:=f1.al.1
  refine wp_seq ?_
  refine go_reg [⟨g1,31,(tyC tZ),some 2,(tyC (scT allC))⟩] [] [some (.agg (scC allC)),some (.agg (tyC (scT allC))),none] mo f1.d f1.z f1.b (by kernel_rfl) ⟨b_g1,trivial⟩ (
   hc (fun _ _ wx cx=>cx.c rfl (args0 ) Try.func40 (by decide +kernel) (vall_n wx) rfl rfl) <|
   hc (fun _ _ wx cx=>cx.c rfl (args1 (cx.u 0 rfl)) Try.func32 (by decide +kernel) (sct_n allC wx) rfl rfl) <|
   hk (fun cx=>cx.stR (wn rfl) rfl rfl 0 rfl (cx.rq 0 u_g1) (cx.u 0 rfl) (by kernel_rfl) (Eq.refl 9) (tyC_one _) q_g1 rfl trivial trivial) <|
   hn) ?_
  intro a2 w2 f2
  refine wp_ret ?_
  have s0_1:=f2.q 0 u_g1
  try simp only [Exit.inBlock,Exit.then]
  refine bodyPost_ret (res_c (fn:=Try.f13) rfl s0_1 (load_row 31 f2.rows.1 Try.underlying31 rfl (by kernel_rfl))) f2.d ?_
  have HE:(.agg (tyC (scT allC)):Value)=.agg (tyC allT):=rfl
  exact ⟨retV HE,f2.b⟩
set_option maxHeartbeats 4000000 in
theorem ttype_n (a:Ty) (W:World):Calls Try.prog 17 #[.agg (tyC a)] W fun e w'=>e=.returned (.bool (Ty.okB a)) ∧ Below W.heap.size W w':=by
  refine calls_abs Try.func17 rfl (Nat.le_of_ble_eq_true rfl) ?_
  intro a0 d0 z0 h0
  replace z0:a0.tmps.size=51:=z0
  have s0_0:a0.tmps.getD 0 undef=.agg (tyC a):=h0 0 (Nat.le_of_ble_eq_true rfl)
  refine wp_seq ?_
  refine go_reg [] [⟨0,1,31,(tyC a),none,#[]⟩] [none,oF] mo d0 z0 (Below.refl _ _) (by kernel_rfl) trivial (
   hk (fun cx=>cx.al (wn rfl) 0 rfl (ex_box rfl (cx.rq 0 s0_0) rfl) rfl rfl rfl rfl rfl trivial) <|
   hk (fun cx=>cx.q (ex_as rfl rfl)) <|
   hn) ?_
  intro a1 w1 f1
  obtain ⟨g1,u_g1,q_g1,b_g1⟩:=f1.al.1
  refine wp_seq ?_
  refine wp_seq ?_
  refine go_reg [bx g1 31 (tyC a)] [] [some (pt g1 0),some (.int .i8 a.kd)] mo f1.d f1.z f1.b (by kernel_rfl) ⟨b_g1,trivial⟩ (
   hk (fun cx=>cx.q (ex_fa rfl (cx.rq 1 u_g1) (faStD31_0_0 _ _))) <|
   hk (fun cx=>cx.q (ex_ld rfl (cx.u 0 rfl) (cx.rn 0 rfl) rfl Try.isAgg22)) <|
   hn) ?_
  intro a2 w2 f2
  refine wp_block ?_
  refine wp_seq ?_
  cases fk1:a.kd == 0
  case false=>
   have Ffk1:=Lib.hid fk1;clear fk1
   refine go_reg [] [] [oF,oF] mo f2.d f2.z f2.b (by kernel_rfl) trivial (
    hk (fun cx=>cx.v (ex_eq (x:=.tmp 4) rfl (cx.rq 4 (f2.v 1 rfl rfl rfl)) rfl) rfl (congrArg Value.bool Ffk1.out)) <|
    kmu 0 <|
    hn) ?_
   intro a3 w3 f3
   refine wp_cond_false (f3.v 1 rfl rfl rfl) ?_
   refine wp_seq ?_
   cases fk2:a.kd == 1
   case false=>
    have Ffk2:=Lib.hid fk2;clear fk2
    have s4_1:=f3.q 4 (f2.v 1 rfl rfl rfl)
    refine go_reg [] [] [oF,oF] mo f3.d f3.z f3.b (by kernel_rfl) trivial (
     hk (fun cx=>cx.v (ex_eq (x:=.tmp 4) rfl (cx.rq 4 s4_1) rfl) rfl (congrArg Value.bool Ffk2.out)) <|
     kmu 0 <|
     hn) ?_
    intro a4 w4 f4
    refine wp_cond_false (f4.v 1 rfl rfl rfl) ?_
    refine wp_cut (fun aI wI=>∃ bI:Bool,(p23 a)=bI ∧ Mid 51 W [(22,.bool bI),(1,.pointer (some ⟨g1,0,none⟩)),(2,.bool false)] [(g1,31,(tyC a))] aI wI) ?_ ?_
    ·
      refine wp_seq ?_
      cases fk3:a.kd == 2
      case false=>
       have Ffk3:=Lib.hid fk3;clear fk3
       have s4_2:=f4.q 4 s4_1
       refine go_reg [] [] [oF,oF] mo f4.d f4.z f4.b (by kernel_rfl) trivial (
        hk (fun cx=>cx.v (ex_eq (x:=.tmp 4) rfl (cx.rq 4 s4_2) rfl) rfl (congrArg Value.bool Ffk3.out)) <|
        kmu 0 <|
        hn) ?_
       intro a5 w5 f5
       refine wp_cond_false (f5.v 1 rfl rfl rfl) ?_
       cases fk4:a.kd == 3
       case false=>
        have Ffk4:=Lib.hid fk4;clear fk4
        have s4_3:=f5.q 4 s4_2
        refine go_reg [] [] [oF,oF] mo f5.d f5.z f5.b (by kernel_rfl) trivial (
         hk (fun cx=>cx.v (ex_eq (x:=.tmp 4) rfl (cx.rq 4 s4_3) rfl) rfl (congrArg Value.bool Ffk4.out)) <|
         kmu 0 <|
         hn) ?_
        intro a6 w6 f6
        have s1_4:=f6.q 1 (f5.q 1 (f4.q 1 (f3.q 1 (f2.q 1 u_g1))))
        have s2_5:=f6.q 2 (f5.q 2 (f4.q 2 (f3.q 2 (f2.q 2 (f1.v 1 rfl rfl rfl)))))
        have b_g1_6:=f6.k (f5.k (f4.k (f3.k (f2.k b_g1))))
        exact ⟨false,(show p23 a=false from by unfold p23;simp only [Ffk3.out,Ffk4.out,Bool.true_or,Bool.or_true,Bool.false_or,Bool.or_false]),f6.d,f6.z,f6.b,⟨(f6.v 1 rfl rfl rfl),s1_4,s2_5,trivial⟩,⟨b_g1_6,trivial⟩⟩
       have Ffk4:=Lib.hid fk4;clear fk4
       have s4_7:=f5.q 4 s4_2
       refine go_reg [] [] [oT,oT] mo f5.d f5.z f5.b (by kernel_rfl) trivial (
        hk (fun cx=>cx.v (ex_eq (x:=.tmp 4) rfl (cx.rq 4 s4_7) rfl) rfl (congrArg Value.bool Ffk4.out)) <|
        kmu 0 <|
        hn) ?_
       intro a7 w7 f7
       have s1_8:=f7.q 1 (f5.q 1 (f4.q 1 (f3.q 1 (f2.q 1 u_g1))))
       have s2_9:=f7.q 2 (f5.q 2 (f4.q 2 (f3.q 2 (f2.q 2 (f1.v 1 rfl rfl rfl)))))
       have b_g1_10:=f7.k (f5.k (f4.k (f3.k (f2.k b_g1))))
       exact ⟨true,(show p23 a=true from by unfold p23;simp only [Ffk3.out,Ffk4.out,Bool.true_or,Bool.or_true,Bool.false_or,Bool.or_false]),f7.d,f7.z,f7.b,⟨(f7.v 1 rfl rfl rfl),s1_8,s2_9,trivial⟩,⟨b_g1_10,trivial⟩⟩
      have Ffk3:=Lib.hid fk3;clear fk3
      have s4_11:=f4.q 4 s4_1
      refine go_reg [] [] [oT,oT] mo f4.d f4.z f4.b (by kernel_rfl) trivial (
       hk (fun cx=>cx.v (ex_eq (x:=.tmp 4) rfl (cx.rq 4 s4_11) rfl) rfl (congrArg Value.bool Ffk3.out)) <|
       kmu 0 <|
       hn) ?_
      intro a8 w8 f8
      refine wp_cond_true (f8.v 1 rfl rfl rfl) ?_
      refine wp_skip ?_
      have s1_12:=f8.q 1 (f4.q 1 (f3.q 1 (f2.q 1 u_g1)))
      have s2_13:=f8.q 2 (f4.q 2 (f3.q 2 (f2.q 2 (f1.v 1 rfl rfl rfl))))
      have b_g1_14:=f8.k (f4.k (f3.k (f2.k b_g1)))
      exact ⟨true,(show p23 a=true from by unfold p23;simp only [Ffk3.out,Bool.true_or,Bool.or_true,Bool.false_or,Bool.or_false]),f8.d,f8.z,f8.b,⟨(f8.v 1 rfl rfl rfl),s1_12,s2_13,trivial⟩,⟨b_g1_14,trivial⟩⟩
    rintro aL1 wL1 ⟨bI,hbI,dL1,zL1,BL1,⟨sL1_22,sL1_1,sL1_2,-⟩,⟨bL1_g1,-⟩⟩
    replace sL1_1:aL1.tmps.getD 1 undef=.pointer (some ⟨g1,0,none⟩):=sL1_1
    replace sL1_2:aL1.tmps.getD 2 undef=.bool false:=sL1_2
    replace bL1_g1:wL1.heap[g1]?=some (.cells (tyC a) 31 (0,0)):=bL1_g1
    cases bI
    case true=>
      replace sL1_22:aL1.tmps.getD 22 undef=.bool true:=sL1_22
      refine wp_cond_true sL1_22 ?_
      refine wp_seq ?_
      cases fk5:eqT a (ptT a.kd a.lo a.hi)
      case false=>
       have Ffk5:=Lib.hid fk5;clear fk5
       refine go_reg [bx g1 31 (tyC a)] [] (tabs [some (.agg (tyC a)),some (pt g1 0),some (.int .i8 a.kd),some (pt g1 7),some (.int .i64 a.lo),some (pt g1 8),some (.int .i64 a.hi),some (.agg (tyC (ptT a.kd a.lo a.hi))),oF,oF,oU,oU,oU,oF,oF,oU,oU,oU,oU,oU] [oF,oF,oU,oU,oU,oF,oF]) mo dL1 zL1 BL1 (by kernel_rfl) ⟨bL1_g1,trivial⟩ (
        hk (fun cx=>cx.q (ldTy rfl (cx.rq 1 sL1_1) (cx.rn 0 rfl))) <|
        hk (fun cx=>cx.q (ex_fa rfl (cx.rq 1 sL1_1) (faStD31_0_0 _ _))) <|
        hk (fun cx=>cx.q (ex_ld rfl (cx.u 0 rfl) (cx.rn 0 rfl) rfl Try.isAgg22)) <|
        hk (fun cx=>cx.q (ex_fa rfl (cx.rq 1 sL1_1) (faStD31_2_0 _ _))) <|
        hk (fun cx=>cx.q (ex_ld rfl (cx.u 0 rfl) (cx.rn 0 rfl) rfl Try.isAgg3)) <|
        hk (fun cx=>cx.q (ex_fa rfl (cx.rq 1 sL1_1) (faStD31_3_0 _ _))) <|
        hk (fun cx=>cx.q (ex_ld rfl (cx.u 0 rfl) (cx.rn 0 rfl) rfl Try.isAgg3)) <|
        hc (fun _ _ wx cx=>cx.c rfl (args3 (cx.u 0 rfl) (cx.u 1 rfl) (cx.u 2 rfl)) Try.func37 (by decide +kernel) (ptt_n a.kd a.lo a.hi wx) rfl rfl) <|
        hk (fun cx=>cx.v (v:=.bool (eqT a (ptT a.kd a.lo a.hi))) (exec_eql (x:=.tmp 25) (y:=.tmp 32) rfl (cx.u 0 rfl) (cx.u 1 rfl) (by kernel_rfl) (eq_ty a (ptT a.kd a.lo a.hi) _)) rfl (congrArg Value.bool Ffk5.out)) <|
        kmu 0 <|
        kno 0 <|
        kno 1 <|
        kno 1 <|
        hk (fun cx=>cx.q (ex_pf rfl (cx.u 0 rfl) rfl)) <|
        kmu 0 <|
        kno 0 <|
        kno 1 <|
        kno 0 <|
        kno 1 <|
        kno 2 <|
        hk (fun cx=>cx.q (ex_pf rfl (cx.u 0 rfl) rfl)) <|
        kmu 0 <|
        kno 0 <|
        kno 1 <|
        kno 1 <|
        hk (fun cx=>cx.q (ex_pf rfl (cx.u 0 rfl) rfl)) <|
        kmu 0 <|
        hn) ?_
       intro a9 w9 f9
       refine wp_ret ?_
       try simp only [Exit.inBlock,Exit.then]
       refine bodyPost_ret (res_t (fn:=Try.f17) rfl (f9.v 26 rfl rfl rfl)) f9.d ?_
       have HE:(.bool false:Value)=.bool (Ty.okB a):=by unfold Ty.okB;simp only [Ffk1.out,Ffk2.out,Ffk5.out,p23_is hbI,Bool.true_and,Bool.and_true,Bool.false_and,Bool.and_false,Bool.or_false,Bool.false_or,Bool.true_or,Bool.or_true,Bool.not_true,Bool.not_false,if_true,if_false,Bool.false_eq_true,Bool.true_eq_false,reduceCtorEq];try rfl
       exact ⟨retV HE,f9.b⟩
      have Ffk5:=Lib.hid fk5;clear fk5
      cases fk6:decide ((-1048576) ≤ a.lo)
      case false=>
       have Ffk6:=Lib.hid fk6;clear fk6
       refine go_reg [bx g1 31 (tyC a)] [] (tabs [some (.agg (tyC a)),some (pt g1 0),some (.int .i8 a.kd),some (pt g1 7),some (.int .i64 a.lo),some (pt g1 8),some (.int .i64 a.hi),some (.agg (tyC (ptT a.kd a.lo a.hi))),oT,oT,some (pt g1 7),some (.int .i64 a.lo),oF,oF,oF,oU,oU,oU,oU,oU] [oF,oF,oU,oU,oU,oF,oF]) mo dL1 zL1 BL1 (by kernel_rfl) ⟨bL1_g1,trivial⟩ (
        hk (fun cx=>cx.q (ldTy rfl (cx.rq 1 sL1_1) (cx.rn 0 rfl))) <|
        hk (fun cx=>cx.q (ex_fa rfl (cx.rq 1 sL1_1) (faStD31_0_0 _ _))) <|
        hk (fun cx=>cx.q (ex_ld rfl (cx.u 0 rfl) (cx.rn 0 rfl) rfl Try.isAgg22)) <|
        hk (fun cx=>cx.q (ex_fa rfl (cx.rq 1 sL1_1) (faStD31_2_0 _ _))) <|
        hk (fun cx=>cx.q (ex_ld rfl (cx.u 0 rfl) (cx.rn 0 rfl) rfl Try.isAgg3)) <|
        hk (fun cx=>cx.q (ex_fa rfl (cx.rq 1 sL1_1) (faStD31_3_0 _ _))) <|
        hk (fun cx=>cx.q (ex_ld rfl (cx.u 0 rfl) (cx.rn 0 rfl) rfl Try.isAgg3)) <|
        hc (fun _ _ wx cx=>cx.c rfl (args3 (cx.u 0 rfl) (cx.u 1 rfl) (cx.u 2 rfl)) Try.func37 (by decide +kernel) (ptt_n a.kd a.lo a.hi wx) rfl rfl) <|
        hk (fun cx=>cx.v (v:=.bool (eqT a (ptT a.kd a.lo a.hi))) (exec_eql (x:=.tmp 25) (y:=.tmp 32) rfl (cx.u 0 rfl) (cx.u 1 rfl) (by kernel_rfl) (eq_ty a (ptT a.kd a.lo a.hi) _)) rfl (congrArg Value.bool Ffk5.out)) <|
        kmu 0 <|
        hk (fun cx=>cx.vy 0 (ex_fa rfl (cx.rq 1 sL1_1) (faStD31_2_0 _ _))) <|
        hk (fun cx=>cx.vy 1 (ex_ld rfl (cx.u 0 rfl) (cx.rn 0 rfl) rfl Try.isAgg3)) <|
        hk (fun cx=>cx.vy 1 (ex_le (y:=.tmp 36) rfl rfl (cx.u 0 rfl)) (congrArg Value.bool Ffk6.out)) <|
        hk (fun cx=>cx.q (ex_pt rfl (cx.u 0 rfl) (cx.u 1 rfl))) <|
        kmu 0 <|
        kno 0 <|
        kno 1 <|
        kno 0 <|
        kno 1 <|
        kno 2 <|
        hk (fun cx=>cx.q (ex_pf rfl (cx.u 0 rfl) rfl)) <|
        kmu 0 <|
        kno 0 <|
        kno 1 <|
        kno 1 <|
        hk (fun cx=>cx.q (ex_pf rfl (cx.u 0 rfl) rfl)) <|
        kmu 0 <|
        hn) ?_
       intro a10 w10 f10
       refine wp_ret ?_
       try simp only [Exit.inBlock,Exit.then]
       refine bodyPost_ret (res_t (fn:=Try.f17) rfl (f10.v 26 rfl rfl rfl)) f10.d ?_
       have HE:(.bool false:Value)=.bool (Ty.okB a):=by unfold Ty.okB;simp only [Ffk1.out,Ffk2.out,Ffk5.out,Ffk6.out,p23_is hbI,Bool.true_and,Bool.and_true,Bool.false_and,Bool.and_false,Bool.or_false,Bool.false_or,Bool.true_or,Bool.or_true,Bool.not_true,Bool.not_false,if_true,if_false,Bool.false_eq_true,Bool.true_eq_false,reduceCtorEq];try rfl
       exact ⟨retV HE,f10.b⟩
      have Ffk6:=Lib.hid fk6;clear fk6
      cases fk7:decide (a.lo ≤ a.hi)
      case false=>
       have Ffk7:=Lib.hid fk7;clear fk7
       refine go_reg [bx g1 31 (tyC a)] [] (tabs [some (.agg (tyC a)),some (pt g1 0),some (.int .i8 a.kd),some (pt g1 7),some (.int .i64 a.lo),some (pt g1 8),some (.int .i64 a.hi),some (.agg (tyC (ptT a.kd a.lo a.hi))),oT,oT,some (pt g1 7),some (.int .i64 a.lo),oT,oT,oT,some (pt g1 7),some (.int .i64 a.lo),some (pt g1 8),some (.int .i64 a.hi),oF] [oF,oF,oU,oU,oU,oF,oF]) mo dL1 zL1 BL1 (by kernel_rfl) ⟨bL1_g1,trivial⟩ (
        hk (fun cx=>cx.q (ldTy rfl (cx.rq 1 sL1_1) (cx.rn 0 rfl))) <|
        hk (fun cx=>cx.q (ex_fa rfl (cx.rq 1 sL1_1) (faStD31_0_0 _ _))) <|
        hk (fun cx=>cx.q (ex_ld rfl (cx.u 0 rfl) (cx.rn 0 rfl) rfl Try.isAgg22)) <|
        hk (fun cx=>cx.q (ex_fa rfl (cx.rq 1 sL1_1) (faStD31_2_0 _ _))) <|
        hk (fun cx=>cx.q (ex_ld rfl (cx.u 0 rfl) (cx.rn 0 rfl) rfl Try.isAgg3)) <|
        hk (fun cx=>cx.q (ex_fa rfl (cx.rq 1 sL1_1) (faStD31_3_0 _ _))) <|
        hk (fun cx=>cx.q (ex_ld rfl (cx.u 0 rfl) (cx.rn 0 rfl) rfl Try.isAgg3)) <|
        hc (fun _ _ wx cx=>cx.c rfl (args3 (cx.u 0 rfl) (cx.u 1 rfl) (cx.u 2 rfl)) Try.func37 (by decide +kernel) (ptt_n a.kd a.lo a.hi wx) rfl rfl) <|
        hk (fun cx=>cx.v (v:=.bool (eqT a (ptT a.kd a.lo a.hi))) (exec_eql (x:=.tmp 25) (y:=.tmp 32) rfl (cx.u 0 rfl) (cx.u 1 rfl) (by kernel_rfl) (eq_ty a (ptT a.kd a.lo a.hi) _)) rfl (congrArg Value.bool Ffk5.out)) <|
        kmu 0 <|
        hk (fun cx=>cx.vy 0 (ex_fa rfl (cx.rq 1 sL1_1) (faStD31_2_0 _ _))) <|
        hk (fun cx=>cx.vy 1 (ex_ld rfl (cx.u 0 rfl) (cx.rn 0 rfl) rfl Try.isAgg3)) <|
        hk (fun cx=>cx.vy 1 (ex_le (y:=.tmp 36) rfl rfl (cx.u 0 rfl)) (congrArg Value.bool Ffk6.out)) <|
        hk (fun cx=>cx.q (ex_pt rfl (cx.u 0 rfl) (cx.u 1 rfl))) <|
        kmu 0 <|
        hk (fun cx=>cx.vy 0 (ex_fa rfl (cx.rq 1 sL1_1) (faStD31_2_0 _ _))) <|
        hk (fun cx=>cx.vy 1 (ex_ld rfl (cx.u 0 rfl) (cx.rn 0 rfl) rfl Try.isAgg3)) <|
        hk (fun cx=>cx.vy 0 (ex_fa rfl (cx.rq 1 sL1_1) (faStD31_3_0 _ _))) <|
        hk (fun cx=>cx.vy 1 (ex_ld rfl (cx.u 0 rfl) (cx.rn 0 rfl) rfl Try.isAgg3)) <|
        hk (fun cx=>cx.vy 2 (ex_le (x:=.tmp 41) (y:=.tmp 43) rfl (cx.u 0 rfl) (cx.u 1 rfl)) (congrArg Value.bool Ffk7.out)) <|
        hk (fun cx=>cx.q (ex_pt rfl (cx.u 0 rfl) (cx.u 1 rfl))) <|
        kmu 0 <|
        kno 0 <|
        kno 1 <|
        kno 1 <|
        hk (fun cx=>cx.q (ex_pf rfl (cx.u 0 rfl) rfl)) <|
        kmu 0 <|
        hn) ?_
       intro a11 w11 f11
       refine wp_ret ?_
       try simp only [Exit.inBlock,Exit.then]
       refine bodyPost_ret (res_t (fn:=Try.f17) rfl (f11.v 26 rfl rfl rfl)) f11.d ?_
       have HE:(.bool false:Value)=.bool (Ty.okB a):=by unfold Ty.okB;simp only [Ffk1.out,Ffk2.out,Ffk5.out,Ffk6.out,Ffk7.out,p23_is hbI,Bool.true_and,Bool.and_true,Bool.false_and,Bool.and_false,Bool.or_false,Bool.false_or,Bool.true_or,Bool.or_true,Bool.not_true,Bool.not_false,if_true,if_false,Bool.false_eq_true,Bool.true_eq_false,reduceCtorEq];try rfl
       exact ⟨retV HE,f11.b⟩
      have Ffk7:=Lib.hid fk7;clear fk7
      cases fk8:decide (a.hi ≤ 1048576)
      case false=>
       have Ffk8:=Lib.hid fk8;clear fk8
       refine go_reg [bx g1 31 (tyC a)] [] (tabs [some (.agg (tyC a)),some (pt g1 0),some (.int .i8 a.kd),some (pt g1 7),some (.int .i64 a.lo),some (pt g1 8),some (.int .i64 a.hi),some (.agg (tyC (ptT a.kd a.lo a.hi))),oT,oT,some (pt g1 7),some (.int .i64 a.lo),oT,oT,oT,some (pt g1 7),some (.int .i64 a.lo),some (pt g1 8),some (.int .i64 a.hi),oT] [oT,oT,some (pt g1 8),some (.int .i64 a.hi),oF,oF,oF]) mo dL1 zL1 BL1 (by kernel_rfl) ⟨bL1_g1,trivial⟩ (
        hk (fun cx=>cx.q (ldTy rfl (cx.rq 1 sL1_1) (cx.rn 0 rfl))) <|
        hk (fun cx=>cx.q (ex_fa rfl (cx.rq 1 sL1_1) (faStD31_0_0 _ _))) <|
        hk (fun cx=>cx.q (ex_ld rfl (cx.u 0 rfl) (cx.rn 0 rfl) rfl Try.isAgg22)) <|
        hk (fun cx=>cx.q (ex_fa rfl (cx.rq 1 sL1_1) (faStD31_2_0 _ _))) <|
        hk (fun cx=>cx.q (ex_ld rfl (cx.u 0 rfl) (cx.rn 0 rfl) rfl Try.isAgg3)) <|
        hk (fun cx=>cx.q (ex_fa rfl (cx.rq 1 sL1_1) (faStD31_3_0 _ _))) <|
        hk (fun cx=>cx.q (ex_ld rfl (cx.u 0 rfl) (cx.rn 0 rfl) rfl Try.isAgg3)) <|
        hc (fun _ _ wx cx=>cx.c rfl (args3 (cx.u 0 rfl) (cx.u 1 rfl) (cx.u 2 rfl)) Try.func37 (by decide +kernel) (ptt_n a.kd a.lo a.hi wx) rfl rfl) <|
        hk (fun cx=>cx.v (v:=.bool (eqT a (ptT a.kd a.lo a.hi))) (exec_eql (x:=.tmp 25) (y:=.tmp 32) rfl (cx.u 0 rfl) (cx.u 1 rfl) (by kernel_rfl) (eq_ty a (ptT a.kd a.lo a.hi) _)) rfl (congrArg Value.bool Ffk5.out)) <|
        kmu 0 <|
        hk (fun cx=>cx.vy 0 (ex_fa rfl (cx.rq 1 sL1_1) (faStD31_2_0 _ _))) <|
        hk (fun cx=>cx.vy 1 (ex_ld rfl (cx.u 0 rfl) (cx.rn 0 rfl) rfl Try.isAgg3)) <|
        hk (fun cx=>cx.vy 1 (ex_le (y:=.tmp 36) rfl rfl (cx.u 0 rfl)) (congrArg Value.bool Ffk6.out)) <|
        hk (fun cx=>cx.q (ex_pt rfl (cx.u 0 rfl) (cx.u 1 rfl))) <|
        kmu 0 <|
        hk (fun cx=>cx.vy 0 (ex_fa rfl (cx.rq 1 sL1_1) (faStD31_2_0 _ _))) <|
        hk (fun cx=>cx.vy 1 (ex_ld rfl (cx.u 0 rfl) (cx.rn 0 rfl) rfl Try.isAgg3)) <|
        hk (fun cx=>cx.vy 0 (ex_fa rfl (cx.rq 1 sL1_1) (faStD31_3_0 _ _))) <|
        hk (fun cx=>cx.vy 1 (ex_ld rfl (cx.u 0 rfl) (cx.rn 0 rfl) rfl Try.isAgg3)) <|
        hk (fun cx=>cx.vy 2 (ex_le (x:=.tmp 41) (y:=.tmp 43) rfl (cx.u 0 rfl) (cx.u 1 rfl)) (congrArg Value.bool Ffk7.out)) <|
        hk (fun cx=>cx.q (ex_pt rfl (cx.u 0 rfl) (cx.u 1 rfl))) <|
        kmu 0 <|
        hk (fun cx=>cx.vy 0 (ex_fa rfl (cx.rq 1 sL1_1) (faStD31_3_0 _ _))) <|
        hk (fun cx=>cx.vy 1 (ex_ld rfl (cx.u 0 rfl) (cx.rn 0 rfl) rfl Try.isAgg3)) <|
        hk (fun cx=>cx.vy 1 (ex_le (x:=.tmp 48) rfl (cx.u 0 rfl) rfl) (congrArg Value.bool Ffk8.out)) <|
        hk (fun cx=>cx.q (ex_pt rfl (cx.u 0 rfl) (cx.u 1 rfl))) <|
        kmu 0 <|
        hn) ?_
       intro a12 w12 f12
       refine wp_ret ?_
       try simp only [Exit.inBlock,Exit.then]
       refine bodyPost_ret (res_t (fn:=Try.f17) rfl (f12.v 26 rfl rfl rfl)) f12.d ?_
       have HE:(.bool false:Value)=.bool (Ty.okB a):=by unfold Ty.okB;simp only [Ffk1.out,Ffk2.out,Ffk5.out,Ffk6.out,Ffk7.out,Ffk8.out,p23_is hbI,Bool.true_and,Bool.and_true,Bool.false_and,Bool.and_false,Bool.or_false,Bool.false_or,Bool.true_or,Bool.or_true,Bool.not_true,Bool.not_false,if_true,if_false,Bool.false_eq_true,Bool.true_eq_false,reduceCtorEq];try rfl
       exact ⟨retV HE,f12.b⟩
      have Ffk8:=Lib.hid fk8;clear fk8
      refine go_reg [bx g1 31 (tyC a)] [] (tabs [some (.agg (tyC a)),some (pt g1 0),some (.int .i8 a.kd),some (pt g1 7),some (.int .i64 a.lo),some (pt g1 8),some (.int .i64 a.hi),some (.agg (tyC (ptT a.kd a.lo a.hi))),oT,oT,some (pt g1 7),some (.int .i64 a.lo),oT,oT,oT,some (pt g1 7),some (.int .i64 a.lo),some (pt g1 8),some (.int .i64 a.hi),oT] [oT,oT,some (pt g1 8),some (.int .i64 a.hi),oT,oT,oT]) mo dL1 zL1 BL1 (by kernel_rfl) ⟨bL1_g1,trivial⟩ (
       hk (fun cx=>cx.q (ldTy rfl (cx.rq 1 sL1_1) (cx.rn 0 rfl))) <|
       hk (fun cx=>cx.q (ex_fa rfl (cx.rq 1 sL1_1) (faStD31_0_0 _ _))) <|
       hk (fun cx=>cx.q (ex_ld rfl (cx.u 0 rfl) (cx.rn 0 rfl) rfl Try.isAgg22)) <|
       hk (fun cx=>cx.q (ex_fa rfl (cx.rq 1 sL1_1) (faStD31_2_0 _ _))) <|
       hk (fun cx=>cx.q (ex_ld rfl (cx.u 0 rfl) (cx.rn 0 rfl) rfl Try.isAgg3)) <|
       hk (fun cx=>cx.q (ex_fa rfl (cx.rq 1 sL1_1) (faStD31_3_0 _ _))) <|
       hk (fun cx=>cx.q (ex_ld rfl (cx.u 0 rfl) (cx.rn 0 rfl) rfl Try.isAgg3)) <|
       hc (fun _ _ wx cx=>cx.c rfl (args3 (cx.u 0 rfl) (cx.u 1 rfl) (cx.u 2 rfl)) Try.func37 (by decide +kernel) (ptt_n a.kd a.lo a.hi wx) rfl rfl) <|
       hk (fun cx=>cx.v (v:=.bool (eqT a (ptT a.kd a.lo a.hi))) (exec_eql (x:=.tmp 25) (y:=.tmp 32) rfl (cx.u 0 rfl) (cx.u 1 rfl) (by kernel_rfl) (eq_ty a (ptT a.kd a.lo a.hi) _)) rfl (congrArg Value.bool Ffk5.out)) <|
       kmu 0 <|
       hk (fun cx=>cx.vy 0 (ex_fa rfl (cx.rq 1 sL1_1) (faStD31_2_0 _ _))) <|
       hk (fun cx=>cx.vy 1 (ex_ld rfl (cx.u 0 rfl) (cx.rn 0 rfl) rfl Try.isAgg3)) <|
       hk (fun cx=>cx.vy 1 (ex_le (y:=.tmp 36) rfl rfl (cx.u 0 rfl)) (congrArg Value.bool Ffk6.out)) <|
       hk (fun cx=>cx.q (ex_pt rfl (cx.u 0 rfl) (cx.u 1 rfl))) <|
       kmu 0 <|
       hk (fun cx=>cx.vy 0 (ex_fa rfl (cx.rq 1 sL1_1) (faStD31_2_0 _ _))) <|
       hk (fun cx=>cx.vy 1 (ex_ld rfl (cx.u 0 rfl) (cx.rn 0 rfl) rfl Try.isAgg3)) <|
       hk (fun cx=>cx.vy 0 (ex_fa rfl (cx.rq 1 sL1_1) (faStD31_3_0 _ _))) <|
       hk (fun cx=>cx.vy 1 (ex_ld rfl (cx.u 0 rfl) (cx.rn 0 rfl) rfl Try.isAgg3)) <|
       hk (fun cx=>cx.vy 2 (ex_le (x:=.tmp 41) (y:=.tmp 43) rfl (cx.u 0 rfl) (cx.u 1 rfl)) (congrArg Value.bool Ffk7.out)) <|
       hk (fun cx=>cx.q (ex_pt rfl (cx.u 0 rfl) (cx.u 1 rfl))) <|
       kmu 0 <|
       hk (fun cx=>cx.vy 0 (ex_fa rfl (cx.rq 1 sL1_1) (faStD31_3_0 _ _))) <|
       hk (fun cx=>cx.vy 1 (ex_ld rfl (cx.u 0 rfl) (cx.rn 0 rfl) rfl Try.isAgg3)) <|
       hk (fun cx=>cx.vy 1 (ex_le (x:=.tmp 48) rfl (cx.u 0 rfl) rfl) (congrArg Value.bool Ffk8.out)) <|
       hk (fun cx=>cx.q (ex_pt rfl (cx.u 0 rfl) (cx.u 1 rfl))) <|
       kmu 0 <|
       hn) ?_
      intro a13 w13 f13
      refine wp_ret ?_
      try simp only [Exit.inBlock,Exit.then]
      refine bodyPost_ret (res_t (fn:=Try.f17) rfl (f13.v 26 rfl rfl rfl)) f13.d ?_
      have HE:(.bool true:Value)=.bool (Ty.okB a):=by unfold Ty.okB;simp only [Ffk1.out,Ffk2.out,Ffk5.out,Ffk6.out,Ffk7.out,Ffk8.out,p23_is hbI,Bool.true_and,Bool.and_true,Bool.false_and,Bool.and_false,Bool.or_false,Bool.false_or,Bool.true_or,Bool.or_true,Bool.not_true,Bool.not_false,if_true,if_false,Bool.false_eq_true,Bool.true_eq_false,reduceCtorEq];try rfl
      exact ⟨retV HE,f13.b⟩
    replace sL1_22:aL1.tmps.getD 22 undef=.bool false:=sL1_22
    refine wp_cond_false sL1_22 ?_
    refine wp_skip ?_
    refine wp_seq ?_
    refine go_reg [] [] [oF] mo dL1 zL1 BL1 (by kernel_rfl) trivial (
     hk (fun cx=>cx.q (ex_as rfl rfl)) <|
     hn) ?_
    intro a14 w14 f14
    refine wp_ret ?_
    try simp only [Exit.inBlock,Exit.then]
    refine bodyPost_ret (res_t (fn:=Try.f17) rfl (f14.v 0 rfl rfl rfl)) f14.d ?_
    have HE:(.bool false:Value)=.bool (Ty.okB a):=by unfold Ty.okB;simp only [Ffk1.out,Ffk2.out,p23_is hbI,Bool.true_and,Bool.and_true,Bool.false_and,Bool.and_false,Bool.or_false,Bool.false_or,Bool.true_or,Bool.or_true,Bool.not_true,Bool.not_false,if_true,if_false,Bool.false_eq_true,Bool.true_eq_false,reduceCtorEq];try rfl
    exact ⟨retV HE,f14.b⟩
   have Ffk2:=Lib.hid fk2;clear fk2
   have s4_15:=f3.q 4 (f2.v 1 rfl rfl rfl)
   refine go_reg [] [] [oT,oT] mo f3.d f3.z f3.b (by kernel_rfl) trivial (
    hk (fun cx=>cx.v (ex_eq (x:=.tmp 4) rfl (cx.rq 4 s4_15) rfl) rfl (congrArg Value.bool Ffk2.out)) <|
    kmu 0 <|
    hn) ?_
   intro a15 w15 f15
   refine wp_cond_true (f15.v 1 rfl rfl rfl) ?_
   refine wp_seq ?_
   cases fk9:eqT a (scT a.s)
   case false=>
    have Ffk9:=Lib.hid fk9;clear fk9
    have b_g1_16:=f15.k (f3.k (f2.k b_g1))
    have s1_17:=f15.q 1 (f3.q 1 (f2.q 1 u_g1))
    refine go_reg [bx g1 31 (tyC a)] [] [some (.agg (tyC a)),some (pt g1 1),some (.agg (scC a.s)),some (.agg (tyC (scT a.s))),oF,oF,oU,oU,oU,oF,oF] mo f15.d f15.z f15.b (by kernel_rfl) ⟨b_g1_16,trivial⟩ (
     hk (fun cx=>cx.q (ldTy rfl (cx.rq 1 s1_17) (cx.rn 0 rfl))) <|
     hk (fun cx=>cx.q (ex_fa rfl (cx.rq 1 s1_17) (faStD31_1_0 _ _))) <|
     hk (fun cx=>cx.q (exec_loadR 29 _ rfl g1 1 (cx.u 0 rfl) (cx.rn 0 rfl) [.int .u64 a.s.r.u.lo,.int .u64 a.s.r.u.hi,.int .i64 a.s.r.s.lo,.int .i64 a.s.r.s.hi,.int .u64 (V a.s.k.v),.int .u64 (V a.s.k.m)] rfl _ Try.underlying29 rfl (by kernel_rfl))) <|
     hc (fun _ _ wx cx=>cx.c rfl (args1 (cx.u 0 rfl)) Try.func32 (by decide +kernel) (sct_n a.s wx) rfl rfl) <|
     hk (fun cx=>cx.v (v:=.bool (eqT a (scT a.s))) (exec_eql (x:=.tmp 12) (y:=.tmp 15) rfl (cx.u 0 rfl) (cx.u 1 rfl) (by kernel_rfl) (eq_ty a (scT a.s) _)) rfl (congrArg Value.bool Ffk9.out)) <|
     kmu 0 <|
     kno 0 <|
     kno 1 <|
     kno 1 <|
     hk (fun cx=>cx.q (ex_pf rfl (cx.u 0 rfl) rfl)) <|
     kmu 0 <|
     hn) ?_
    intro a16 w16 f16
    refine wp_ret ?_
    try simp only [Exit.inBlock,Exit.then]
    refine bodyPost_ret (res_t (fn:=Try.f17) rfl (f16.v 10 rfl rfl rfl)) f16.d ?_
    have HE:(.bool false:Value)=.bool (Ty.okB a):=by unfold Ty.okB;simp only [Ffk1.out,Ffk2.out,Ffk9.out,Bool.true_and,Bool.and_true,Bool.false_and,Bool.and_false,Bool.or_false,Bool.false_or,Bool.true_or,Bool.or_true,Bool.not_true,Bool.not_false,if_true,if_false,Bool.false_eq_true,Bool.true_eq_false,reduceCtorEq];try rfl
    exact ⟨retV HE,f16.b⟩
   have Ffk9:=Lib.hid fk9;clear fk9
   have b_g1_18:=f15.k (f3.k (f2.k b_g1))
   have s1_19:=f15.q 1 (f3.q 1 (f2.q 1 u_g1))
   refine go_reg [bx g1 31 (tyC a)] [] [some (.agg (tyC a)),some (pt g1 1),some (.agg (scC a.s)),some (.agg (tyC (scT a.s))),oT,oT,some (pt g1 1),some (.agg (scC a.s)),some (.bool (Sc.mayB a.s)),some (.bool (Sc.mayB a.s)),some (.bool (Sc.mayB a.s))] mo f15.d f15.z f15.b (by kernel_rfl) ⟨b_g1_18,trivial⟩ (
    hk (fun cx=>cx.q (ldTy rfl (cx.rq 1 s1_19) (cx.rn 0 rfl))) <|
    hk (fun cx=>cx.q (ex_fa rfl (cx.rq 1 s1_19) (faStD31_1_0 _ _))) <|
    hk (fun cx=>cx.q (exec_loadR 29 _ rfl g1 1 (cx.u 0 rfl) (cx.rn 0 rfl) [.int .u64 a.s.r.u.lo,.int .u64 a.s.r.u.hi,.int .i64 a.s.r.s.lo,.int .i64 a.s.r.s.hi,.int .u64 (V a.s.k.v),.int .u64 (V a.s.k.m)] rfl _ Try.underlying29 rfl (by kernel_rfl))) <|
    hc (fun _ _ wx cx=>cx.c rfl (args1 (cx.u 0 rfl)) Try.func32 (by decide +kernel) (sct_n a.s wx) rfl rfl) <|
    hk (fun cx=>cx.v (v:=.bool (eqT a (scT a.s))) (exec_eql (x:=.tmp 12) (y:=.tmp 15) rfl (cx.u 0 rfl) (cx.u 1 rfl) (by kernel_rfl) (eq_ty a (scT a.s) _)) rfl (congrArg Value.bool Ffk9.out)) <|
    kmu 0 <|
    hk (fun cx=>cx.vy 0 (ex_fa rfl (cx.rq 1 s1_19) (faStD31_1_0 _ _))) <|
    hk (fun cx=>cx.vy 1 (exec_loadR 29 _ rfl g1 1 (cx.u 0 rfl) (cx.rn 0 rfl) [.int .u64 a.s.r.u.lo,.int .u64 a.s.r.u.hi,.int .i64 a.s.r.s.lo,.int .i64 a.s.r.s.hi,.int .u64 (V a.s.k.v),.int .u64 (V a.s.k.m)] rfl _ Try.underlying29 rfl (by kernel_rfl))) <|
    hc (fun _ _ wx cx=>cx.call (cx.wy rfl rfl rfl rfl (cx.u 1 rfl)) rfl rfl (args1 (cx.u 0 rfl)) Try.func42 (by decide +kernel) rfl (vmay_n a.s wx) rfl rfl rfl rfl) <|
    hk (fun cx=>cx.q (ex_pt rfl (cx.u 0 rfl) (cx.u 1 rfl))) <|
    kmu 0 <|
    hn) ?_
   intro a17 w17 f17
   refine wp_ret ?_
   try simp only [Exit.inBlock,Exit.then]
   refine bodyPost_ret (res_t (fn:=Try.f17) rfl (f17.v 10 rfl rfl rfl)) f17.d ?_
   have HE:(.bool (Sc.mayB a.s):Value)=.bool (Ty.okB a):=by unfold Ty.okB;simp only [Ffk1.out,Ffk2.out,Ffk9.out,Bool.true_and,Bool.and_true,Bool.false_and,Bool.and_false,Bool.or_false,Bool.false_or,Bool.true_or,Bool.or_true,Bool.not_true,Bool.not_false,if_true,if_false,Bool.false_eq_true,Bool.true_eq_false,reduceCtorEq];try rfl
   exact ⟨retV HE,f17.b⟩
  have Ffk1:=Lib.hid fk1;clear fk1
  refine go_reg [] [] [oT,oT] mo f2.d f2.z f2.b (by kernel_rfl) trivial (
   hk (fun cx=>cx.v (ex_eq (x:=.tmp 4) rfl (cx.rq 4 (f2.v 1 rfl rfl rfl)) rfl) rfl (congrArg Value.bool Ffk1.out)) <|
   kmu 0 <|
   hn) ?_
  intro a18 w18 f18
  refine wp_cond_true (f18.v 1 rfl rfl rfl) ?_
  refine wp_seq ?_
  cases fk10:eqT a tZ
  case false=>
   have Ffk10:=Lib.hid fk10;clear fk10
   have b_g1_20:=f18.k (f2.k b_g1)
   have s1_21:=f18.q 1 (f2.q 1 u_g1)
   refine go_reg [bx g1 31 (tyC a)] [] [some (.agg (tyC a)),some (.agg (tyC tZ)),oF,oF] mo f18.d f18.z f18.b (by kernel_rfl) ⟨b_g1_20,trivial⟩ (
    hk (fun cx=>cx.q (ldTy rfl (cx.rq 1 s1_21) (cx.rn 0 rfl))) <|
    hk (fun cx=>cx.q (ex_z9 rfl)) <|
    hk (fun cx=>cx.v (v:=.bool (eqT a tZ)) (exec_eql (x:=.tmp 7) (y:=.tmp 8) rfl (cx.u 0 rfl) (cx.u 1 rfl) (by kernel_rfl) (eq_ty a tZ _)) rfl (congrArg Value.bool Ffk10.out)) <|
    kmu 0 <|
    hn) ?_
   intro a19 w19 f19
   refine wp_ret ?_
   try simp only [Exit.inBlock,Exit.then]
   refine bodyPost_ret (res_t (fn:=Try.f17) rfl (f19.v 3 rfl rfl rfl)) f19.d ?_
   have HE:(.bool false:Value)=.bool (Ty.okB a):=by unfold Ty.okB;simp only [Ffk1.out,Ffk10.out,Bool.true_and,Bool.and_true,Bool.false_and,Bool.and_false,Bool.or_false,Bool.false_or,Bool.true_or,Bool.or_true,Bool.not_true,Bool.not_false,if_true,if_false,Bool.false_eq_true,Bool.true_eq_false,reduceCtorEq];try rfl
   exact ⟨retV HE,f19.b⟩
  have Ffk10:=Lib.hid fk10;clear fk10
  have b_g1_22:=f18.k (f2.k b_g1)
  have s1_23:=f18.q 1 (f2.q 1 u_g1)
  refine go_reg [bx g1 31 (tyC a)] [] [some (.agg (tyC a)),some (.agg (tyC tZ)),oT,oT] mo f18.d f18.z f18.b (by kernel_rfl) ⟨b_g1_22,trivial⟩ (
   hk (fun cx=>cx.q (ldTy rfl (cx.rq 1 s1_23) (cx.rn 0 rfl))) <|
   hk (fun cx=>cx.q (ex_z9 rfl)) <|
   hk (fun cx=>cx.v (v:=.bool (eqT a tZ)) (exec_eql (x:=.tmp 7) (y:=.tmp 8) rfl (cx.u 0 rfl) (cx.u 1 rfl) (by kernel_rfl) (eq_ty a tZ _)) rfl (congrArg Value.bool Ffk10.out)) <|
   kmu 0 <|
   hn) ?_
  intro a20 w20 f20
  refine wp_ret ?_
  try simp only [Exit.inBlock,Exit.then]
  refine bodyPost_ret (res_t (fn:=Try.f17) rfl (f20.v 3 rfl rfl rfl)) f20.d ?_
  have HE:(.bool true:Value)=.bool (Ty.okB a):=by unfold Ty.okB;simp only [Ffk1.out,Ffk10.out,Bool.true_and,Bool.and_true,Bool.false_and,Bool.and_false,Bool.or_false,Bool.false_or,Bool.true_or,Bool.or_true,Bool.not_true,Bool.not_false,if_true,if_false,Bool.false_eq_true,Bool.true_eq_false,reduceCtorEq];try rfl
  exact ⟨retV HE,f20.b⟩
theorem off_2 (v:B):IntKind.u64.wrap (V v - 2097152)=V (v - 2097152#64):=by
  have:=V_sub v 2097152#64
  rwa [show V 2097152#64=2097152 from by decide] at this
theorem off_3 (v:B):IntKind.u64.wrap (V v - 3145728)=V (v - 3145728#64):=by
  have:=V_sub v 3145728#64
  rwa [show V 3145728#64=3145728 from by decide] at this
set_option maxHeartbeats 4000000 in
theorem pto_n (a:Ty) (v:B) (W:World) (ha:a.Ok):Calls Try.prog 45 #[.agg (tyC a),.int .u64 (V v)] W fun e w'=>e=.returned (.bool (Ty.toB a v)) ∧ Below W.heap.size W w':=by
  have HA:=Lib.hid ha
  clear ha
  refine calls_abs Try.func45 rfl (Nat.le_of_ble_eq_true rfl) ?_
  intro a0 d0 z0 h0
  replace z0:a0.tmps.size=17:=z0
  have s0_0:a0.tmps.getD 0 undef=.agg (tyC a):=h0 0 (Nat.le_of_ble_eq_true rfl)
  have s1_0:a0.tmps.getD 1 undef=.int .u64 (V v):=h0 1 (Nat.le_of_ble_eq_true rfl)
  refine wp_seq ?_
  refine go_reg [] [⟨0,2,31,(tyC a),none,#[]⟩] [none,oF] mo d0 z0 (Below.refl _ _) (by kernel_rfl) trivial (
   hk (fun cx=>cx.al (wn rfl) 0 rfl (ex_box rfl (cx.rq 0 s0_0) rfl) rfl rfl rfl rfl rfl trivial) <|
   hk (fun cx=>cx.q (ex_as rfl rfl)) <|
   hn) ?_
  intro a1 w1 f1
  obtain ⟨g1,u_g1,q_g1,b_g1⟩:=f1.al.1
  refine wp_seq ?_
  cases fk1:decide (a.lo ≤ (sg (V v)))
  case false=>
   have Ffk1:=Lib.hid fk1;clear fk1
   have s1_1:=f1.q 1 s1_0
   refine go_reg [bx g1 31 (tyC a)] [] [some (pt g1 7),some (.int .i64 a.lo),some (.int .u64 (V v)),some (.int .i64 (sg (V v))),oF,oF,oU,oU,oU,oU,oU,oF,oF] mo f1.d f1.z f1.b (by kernel_rfl) ⟨b_g1,trivial⟩ (
    hk (fun cx=>cx.q (ex_fa rfl (cx.rq 2 u_g1) (faStD31_2_0 _ _))) <|
    hk (fun cx=>cx.q (ex_ld rfl (cx.u 0 rfl) (cx.rn 0 rfl) rfl Try.isAgg3)) <|
    hk (fun cx=>cx.q (ex_mv rfl (cx.rq 1 s1_1))) <|
    hk (fun cx=>cx.v (ex_conv (x:=.tmp 7) rfl (cx.u 0 rfl) Try.underlying23 Try.underlying2) rfl (congrArg (Value.int .i64) (wrap_sg _))) <|
    hk (fun cx=>cx.v (ex_le (x:=.tmp 6) (y:=.tmp 8) rfl (cx.u 0 rfl) (cx.u 1 rfl)) rfl (congrArg Value.bool Ffk1.out)) <|
    kmu 0 <|
    kno 0 <|
    kno 1 <|
    kno 0 <|
    kno 1 <|
    kno 2 <|
    hk (fun cx=>cx.q (ex_pf rfl (cx.u 0 rfl) rfl)) <|
    kmu 0 <|
    hn) ?_
   intro a2 w2 f2
   refine wp_ret ?_
   try simp only [Exit.inBlock,Exit.then]
   refine bodyPost_ret (res_t (fn:=Try.f45) rfl (f2.v 12 rfl rfl rfl)) f2.d ?_
   have HE:(.bool false:Value)=.bool (Ty.toB a v):=by unfold Ty.toB;simp only [Ffk1.out,Bool.true_and,Bool.and_true,Bool.false_and,Bool.and_false,Bool.or_false,Bool.false_or,Bool.true_or,Bool.or_true,Bool.not_true,Bool.not_false,if_true,if_false,Bool.false_eq_true,Bool.true_eq_false,reduceCtorEq];try rfl
   exact ⟨retV HE,f2.b⟩
  have Ffk1:=Lib.hid fk1;clear fk1
  cases fk2:decide ((sg (V v)) ≤ a.hi)
  case false=>
   have Ffk2:=Lib.hid fk2;clear fk2
   have s1_2:=f1.q 1 s1_0
   refine go_reg [bx g1 31 (tyC a)] [] [some (pt g1 7),some (.int .i64 a.lo),some (.int .u64 (V v)),some (.int .i64 (sg (V v))),oT,oT,some (.int .u64 (V v)),some (.int .i64 (sg (V v))),some (pt g1 8),some (.int .i64 a.hi),oF,oF,oF] mo f1.d f1.z f1.b (by kernel_rfl) ⟨b_g1,trivial⟩ (
    hk (fun cx=>cx.q (ex_fa rfl (cx.rq 2 u_g1) (faStD31_2_0 _ _))) <|
    hk (fun cx=>cx.q (ex_ld rfl (cx.u 0 rfl) (cx.rn 0 rfl) rfl Try.isAgg3)) <|
    hk (fun cx=>cx.q (ex_mv rfl (cx.rq 1 s1_2))) <|
    hk (fun cx=>cx.v (ex_conv (x:=.tmp 7) rfl (cx.u 0 rfl) Try.underlying23 Try.underlying2) rfl (congrArg (Value.int .i64) (wrap_sg _))) <|
    hk (fun cx=>cx.v (ex_le (x:=.tmp 6) (y:=.tmp 8) rfl (cx.u 0 rfl) (cx.u 1 rfl)) rfl (congrArg Value.bool Ffk1.out)) <|
    kmu 0 <|
    hk (fun cx=>cx.vy 0 (ex_mv rfl (cx.rq 1 s1_2))) <|
    hk (fun cx=>cx.vy 1 (ex_conv (x:=.tmp 11) rfl (cx.u 0 rfl) Try.underlying23 Try.underlying2) (congrArg (Value.int .i64) (wrap_sg _))) <|
    hk (fun cx=>cx.vy 0 (ex_fa rfl (cx.rq 2 u_g1) (faStD31_3_0 _ _))) <|
    hk (fun cx=>cx.vy 1 (ex_ld rfl (cx.u 0 rfl) (cx.rn 0 rfl) rfl Try.isAgg3)) <|
    hk (fun cx=>cx.vy 2 (ex_le (x:=.tmp 12) (y:=.tmp 14) rfl (cx.u 0 rfl) (cx.u 1 rfl)) (congrArg Value.bool Ffk2.out)) <|
    hk (fun cx=>cx.q (ex_pt rfl (cx.u 0 rfl) (cx.u 1 rfl))) <|
    kmu 0 <|
    hn) ?_
   intro a3 w3 f3
   refine wp_ret ?_
   try simp only [Exit.inBlock,Exit.then]
   refine bodyPost_ret (res_t (fn:=Try.f45) rfl (f3.v 12 rfl rfl rfl)) f3.d ?_
   have HE:(.bool false:Value)=.bool (Ty.toB a v):=by unfold Ty.toB;simp only [Ffk1.out,Ffk2.out,Bool.true_and,Bool.and_true,Bool.false_and,Bool.and_false,Bool.or_false,Bool.false_or,Bool.true_or,Bool.or_true,Bool.not_true,Bool.not_false,if_true,if_false,Bool.false_eq_true,Bool.true_eq_false,reduceCtorEq];try rfl
   exact ⟨retV HE,f3.b⟩
  have Ffk2:=Lib.hid fk2;clear fk2
  have s1_3:=f1.q 1 s1_0
  refine go_reg [bx g1 31 (tyC a)] [] [some (pt g1 7),some (.int .i64 a.lo),some (.int .u64 (V v)),some (.int .i64 (sg (V v))),oT,oT,some (.int .u64 (V v)),some (.int .i64 (sg (V v))),some (pt g1 8),some (.int .i64 a.hi),oT,oT,oT] mo f1.d f1.z f1.b (by kernel_rfl) ⟨b_g1,trivial⟩ (
   hk (fun cx=>cx.q (ex_fa rfl (cx.rq 2 u_g1) (faStD31_2_0 _ _))) <|
   hk (fun cx=>cx.q (ex_ld rfl (cx.u 0 rfl) (cx.rn 0 rfl) rfl Try.isAgg3)) <|
   hk (fun cx=>cx.q (ex_mv rfl (cx.rq 1 s1_3))) <|
   hk (fun cx=>cx.v (ex_conv (x:=.tmp 7) rfl (cx.u 0 rfl) Try.underlying23 Try.underlying2) rfl (congrArg (Value.int .i64) (wrap_sg _))) <|
   hk (fun cx=>cx.v (ex_le (x:=.tmp 6) (y:=.tmp 8) rfl (cx.u 0 rfl) (cx.u 1 rfl)) rfl (congrArg Value.bool Ffk1.out)) <|
   kmu 0 <|
   hk (fun cx=>cx.vy 0 (ex_mv rfl (cx.rq 1 s1_3))) <|
   hk (fun cx=>cx.vy 1 (ex_conv (x:=.tmp 11) rfl (cx.u 0 rfl) Try.underlying23 Try.underlying2) (congrArg (Value.int .i64) (wrap_sg _))) <|
   hk (fun cx=>cx.vy 0 (ex_fa rfl (cx.rq 2 u_g1) (faStD31_3_0 _ _))) <|
   hk (fun cx=>cx.vy 1 (ex_ld rfl (cx.u 0 rfl) (cx.rn 0 rfl) rfl Try.isAgg3)) <|
   hk (fun cx=>cx.vy 2 (ex_le (x:=.tmp 12) (y:=.tmp 14) rfl (cx.u 0 rfl) (cx.u 1 rfl)) (congrArg Value.bool Ffk2.out)) <|
   hk (fun cx=>cx.q (ex_pt rfl (cx.u 0 rfl) (cx.u 1 rfl))) <|
   kmu 0 <|
   hn) ?_
  intro a4 w4 f4
  refine wp_ret ?_
  try simp only [Exit.inBlock,Exit.then]
  refine bodyPost_ret (res_t (fn:=Try.f45) rfl (f4.v 12 rfl rfl rfl)) f4.d ?_
  have HE:(.bool true:Value)=.bool (Ty.toB a v):=by unfold Ty.toB;simp only [Ffk1.out,Ffk2.out,Bool.true_and,Bool.and_true,Bool.false_and,Bool.and_false,Bool.or_false,Bool.false_or,Bool.true_or,Bool.or_true,Bool.not_true,Bool.not_false,if_true,if_false,Bool.false_eq_true,Bool.true_eq_false,reduceCtorEq];try rfl
  exact ⟨retV HE,f4.b⟩
set_option maxHeartbeats 4000000 in
theorem tholds_n (a:Ty) (v:B) (W:World) (ha:a.Ok):Calls Try.prog 19 #[.agg (tyC a),.int .u64 (V v)] W fun e w'=>e=.returned (.bool (Ty.holdB a v)) ∧ Below W.heap.size W w':=by
  have HA:=Lib.hid ha
  clear ha
  refine calls_abs Try.func19 rfl (Nat.le_of_ble_eq_true rfl) ?_
  intro a0 d0 z0 h0
  replace z0:a0.tmps.size=28:=z0
  have s0_0:a0.tmps.getD 0 undef=.agg (tyC a):=h0 0 (Nat.le_of_ble_eq_true rfl)
  have s1_0:a0.tmps.getD 1 undef=.int .u64 (V v):=h0 1 (Nat.le_of_ble_eq_true rfl)
  refine wp_seq ?_
  refine go_reg [] [⟨0,2,31,(tyC a),none,#[]⟩] [none,oF] mo d0 z0 (Below.refl _ _) (by kernel_rfl) trivial (
   hk (fun cx=>cx.al (wn rfl) 0 rfl (ex_box rfl (cx.rq 0 s0_0) rfl) rfl rfl rfl rfl rfl trivial) <|
   hk (fun cx=>cx.q (ex_as rfl rfl)) <|
   hn) ?_
  intro a1 w1 f1
  obtain ⟨g1,u_g1,q_g1,b_g1⟩:=f1.al.1
  refine wp_seq ?_
  refine wp_seq ?_
  cases fk1:Ty.okB a
  case false=>
   have Ffk1:=Lib.hid fk1;clear fk1
   refine go_reg [bx g1 31 (tyC a)] [] [some (.agg (tyC a)),oF,oT] mo f1.d f1.z f1.b (by kernel_rfl) ⟨b_g1,trivial⟩ (
    hk (fun cx=>cx.q (ldTy rfl (cx.rq 2 u_g1) (cx.rn 0 rfl))) <|
    hc (fun _ _ wx cx=>cx.c rfl (args1 (cx.u 0 rfl)) Try.func17 (by decide +kernel) (ttype_n a wx) rfl (congrArg Value.bool Ffk1.out)) <|
    hk (fun cx=>cx.q (ex_not (x:=.tmp 6) rfl (cx.u 0 rfl))) <|
    hn) ?_
   intro a2 w2 f2
   refine wp_cond_true (f2.v 2 rfl rfl rfl) ?_
   refine wp_seq ?_
   refine go_reg [] [] [oF] mo f2.d f2.z f2.b (by kernel_rfl) trivial (
    hk (fun cx=>cx.q (ex_as rfl rfl)) <|
    hn) ?_
   intro a3 w3 f3
   refine wp_ret ?_
   try simp only [Exit.inBlock,Exit.then]
   refine bodyPost_ret (res_t (fn:=Try.f19) rfl (f3.v 0 rfl rfl rfl)) f3.d ?_
   have HE:(.bool false:Value)=.bool (Ty.holdB a v):=by unfold Ty.holdB;simp only [Ffk1.out,Bool.true_and,Bool.and_true,Bool.false_and,Bool.and_false,Bool.or_false,Bool.false_or,Bool.true_or,Bool.or_true,Bool.not_true,Bool.not_false,if_true,if_false,Bool.false_eq_true,Bool.true_eq_false,reduceCtorEq];try rfl
   exact ⟨retV HE,f3.b⟩
  have Ffk1:=Lib.hid fk1;clear fk1
  refine go_reg [bx g1 31 (tyC a)] [] [some (.agg (tyC a)),oT,oF] mo f1.d f1.z f1.b (by kernel_rfl) ⟨b_g1,trivial⟩ (
   hk (fun cx=>cx.q (ldTy rfl (cx.rq 2 u_g1) (cx.rn 0 rfl))) <|
   hc (fun _ _ wx cx=>cx.c rfl (args1 (cx.u 0 rfl)) Try.func17 (by decide +kernel) (ttype_n a wx) rfl (congrArg Value.bool Ffk1.out)) <|
   hk (fun cx=>cx.q (ex_not (x:=.tmp 6) rfl (cx.u 0 rfl))) <|
   hn) ?_
  intro a4 w4 f4
  refine wp_cond_false (f4.v 2 rfl rfl rfl) ?_
  refine wp_skip ?_
  refine wp_seq ?_
  refine wp_seq ?_
  have b_g1_1:=f4.k b_g1
  have s2_2:=f4.q 2 u_g1
  refine go_reg [bx g1 31 (tyC a)] [] [some (pt g1 0),some (.int .i8 a.kd)] mo f4.d f4.z f4.b (by kernel_rfl) ⟨b_g1_1,trivial⟩ (
   hk (fun cx=>cx.q (ex_fa rfl (cx.rq 2 s2_2) (faStD31_0_0 _ _))) <|
   hk (fun cx=>cx.q (ex_ld rfl (cx.u 0 rfl) (cx.rn 0 rfl) rfl Try.isAgg22)) <|
   hn) ?_
  intro a5 w5 f5
  refine wp_block ?_
  refine wp_seq ?_
  cases fk2:a.kd == 1
  case false=>
   have Ffk2:=Lib.hid fk2;clear fk2
   refine go_reg [] [] [oF,oF] mo f5.d f5.z f5.b (by kernel_rfl) trivial (
    hk (fun cx=>cx.v (ex_eq (x:=.tmp 9) rfl (cx.rq 9 (f5.v 1 rfl rfl rfl)) rfl) rfl (congrArg Value.bool Ffk2.out)) <|
    kmu 0 <|
    hn) ?_
   intro a6 w6 f6
   refine wp_cond_false (f6.v 1 rfl rfl rfl) ?_
   refine wp_seq ?_
   cases fk3:a.kd == 2
   case false=>
    have Ffk3:=Lib.hid fk3;clear fk3
    have s9_3:=f6.q 9 (f5.v 1 rfl rfl rfl)
    refine go_reg [] [] [oF,oF] mo f6.d f6.z f6.b (by kernel_rfl) trivial (
     hk (fun cx=>cx.v (ex_eq (x:=.tmp 9) rfl (cx.rq 9 s9_3) rfl) rfl (congrArg Value.bool Ffk3.out)) <|
     kmu 0 <|
     hn) ?_
    intro a7 w7 f7
    refine wp_cond_false (f7.v 1 rfl rfl rfl) ?_
    refine wp_seq ?_
    cases fk4:a.kd == 3
    case false=>
     have Ffk4:=Lib.hid fk4;clear fk4
     have s9_4:=f7.q 9 s9_3
     refine go_reg [] [] [oF,oF] mo f7.d f7.z f7.b (by kernel_rfl) trivial (
      hk (fun cx=>cx.v (ex_eq (x:=.tmp 9) rfl (cx.rq 9 s9_4) rfl) rfl (congrArg Value.bool Ffk4.out)) <|
      kmu 0 <|
      hn) ?_
     intro a8 w8 f8
     refine wp_cond_false (f8.v 1 rfl rfl rfl) ?_
     refine wp_skip ?_
     refine wp_seq ?_
     refine go_reg [] [] [oT] mo f8.d f8.z f8.b (by kernel_rfl) trivial (
      hk (fun cx=>cx.q (ex_as rfl rfl)) <|
      hn) ?_
     intro a9 w9 f9
     refine wp_ret ?_
     try simp only [Exit.inBlock,Exit.then]
     refine bodyPost_ret (res_t (fn:=Try.f19) rfl (f9.v 0 rfl rfl rfl)) f9.d ?_
     have HE:(.bool true:Value)=.bool (Ty.holdB a v):=by unfold Ty.holdB;simp only [Ffk1.out,Ffk2.out,Ffk3.out,Ffk4.out,Bool.true_and,Bool.and_true,Bool.false_and,Bool.and_false,Bool.or_false,Bool.false_or,Bool.true_or,Bool.or_true,Bool.not_true,Bool.not_false,if_true,if_false,Bool.false_eq_true,Bool.true_eq_false,reduceCtorEq];try rfl
     exact ⟨retV HE,f9.b⟩
    have Ffk4:=Lib.hid fk4;clear fk4
    have s9_5:=f7.q 9 s9_3
    refine go_reg [] [] [oT,oT] mo f7.d f7.z f7.b (by kernel_rfl) trivial (
     hk (fun cx=>cx.v (ex_eq (x:=.tmp 9) rfl (cx.rq 9 s9_5) rfl) rfl (congrArg Value.bool Ffk4.out)) <|
     kmu 0 <|
     hn) ?_
    intro a10 w10 f10
    refine wp_cond_true (f10.v 1 rfl rfl rfl) ?_
    refine wp_seq ?_
    have b_g1_6:=f10.k (f7.k (f6.k (f5.k b_g1_1)))
    have s2_7:=f10.q 2 (f7.q 2 (f6.q 2 (f5.q 2 s2_2)))
    have s1_8:=f10.q 1 (f7.q 1 (f6.q 1 (f5.q 1 (f4.q 1 (f1.q 1 s1_0)))))
    refine go_reg [bx g1 31 (tyC a)] [] [some (.agg (tyC a)),some (.int .u64 (V v)),some (.int .u64 (V (v - 3145728#64))),some (.bool (Ty.toB a (v - 3145728#64))),some (.bool (Ty.toB a (v - 3145728#64)))] mo f10.d f10.z f10.b (by kernel_rfl) ⟨b_g1_6,trivial⟩ (
     hk (fun cx=>cx.q (ldTy rfl (cx.rq 2 s2_7) (cx.rn 0 rfl))) <|
     hk (fun cx=>cx.q (ex_mv rfl (cx.rq 1 s1_8))) <|
     hk (fun cx=>cx.v (ex_sub (x:=.tmp 25) rfl (cx.u 0 rfl) rfl) rfl (congrArg (Value.int .u64) (off_3 v))) <|
     hc (fun _ _ wx cx=>cx.c rfl (args2 (cx.u 0 rfl) (cx.u 1 rfl)) Try.func45 (by decide +kernel) (pto_n a (v - 3145728#64) wx HA.out) rfl rfl) <|
     kmu 0 <|
     hn) ?_
    intro a11 w11 f11
    refine wp_ret ?_
    try simp only [Exit.inBlock,Exit.then]
    refine bodyPost_ret (res_t (fn:=Try.f19) rfl (f11.v 4 rfl rfl rfl)) f11.d ?_
    have HE:(.bool (Ty.toB a (v - 3145728#64)):Value)=.bool (Ty.holdB a v):=by unfold Ty.holdB;simp only [Ffk1.out,Ffk2.out,Ffk3.out,Ffk4.out,Bool.true_and,Bool.and_true,Bool.false_and,Bool.and_false,Bool.or_false,Bool.false_or,Bool.true_or,Bool.or_true,Bool.not_true,Bool.not_false,if_true,if_false,Bool.false_eq_true,Bool.true_eq_false,reduceCtorEq];try rfl
    exact ⟨retV HE,f11.b⟩
   have Ffk3:=Lib.hid fk3;clear fk3
   have s9_9:=f6.q 9 (f5.v 1 rfl rfl rfl)
   refine go_reg [] [] [oT,oT] mo f6.d f6.z f6.b (by kernel_rfl) trivial (
    hk (fun cx=>cx.v (ex_eq (x:=.tmp 9) rfl (cx.rq 9 s9_9) rfl) rfl (congrArg Value.bool Ffk3.out)) <|
    kmu 0 <|
    hn) ?_
   intro a12 w12 f12
   refine wp_cond_true (f12.v 1 rfl rfl rfl) ?_
   refine wp_seq ?_
   have b_g1_10:=f12.k (f6.k (f5.k b_g1_1))
   have s2_11:=f12.q 2 (f6.q 2 (f5.q 2 s2_2))
   have s1_12:=f12.q 1 (f6.q 1 (f5.q 1 (f4.q 1 (f1.q 1 s1_0))))
   refine go_reg [bx g1 31 (tyC a)] [] [some (.agg (tyC a)),some (.int .u64 (V v)),some (.int .u64 (V (v - 2097152#64))),some (.bool (Ty.toB a (v - 2097152#64))),some (.bool (Ty.toB a (v - 2097152#64)))] mo f12.d f12.z f12.b (by kernel_rfl) ⟨b_g1_10,trivial⟩ (
    hk (fun cx=>cx.q (ldTy rfl (cx.rq 2 s2_11) (cx.rn 0 rfl))) <|
    hk (fun cx=>cx.q (ex_mv rfl (cx.rq 1 s1_12))) <|
    hk (fun cx=>cx.v (ex_sub (x:=.tmp 19) rfl (cx.u 0 rfl) rfl) rfl (congrArg (Value.int .u64) (off_2 v))) <|
    hc (fun _ _ wx cx=>cx.c rfl (args2 (cx.u 0 rfl) (cx.u 1 rfl)) Try.func45 (by decide +kernel) (pto_n a (v - 2097152#64) wx HA.out) rfl rfl) <|
    kmu 0 <|
    hn) ?_
   intro a13 w13 f13
   refine wp_ret ?_
   try simp only [Exit.inBlock,Exit.then]
   refine bodyPost_ret (res_t (fn:=Try.f19) rfl (f13.v 4 rfl rfl rfl)) f13.d ?_
   have HE:(.bool (Ty.toB a (v - 2097152#64)):Value)=.bool (Ty.holdB a v):=by unfold Ty.holdB;simp only [Ffk1.out,Ffk2.out,Ffk3.out,Bool.true_and,Bool.and_true,Bool.false_and,Bool.and_false,Bool.or_false,Bool.false_or,Bool.true_or,Bool.or_true,Bool.not_true,Bool.not_false,if_true,if_false,Bool.false_eq_true,Bool.true_eq_false,reduceCtorEq];try rfl
   exact ⟨retV HE,f13.b⟩
  have Ffk2:=Lib.hid fk2;clear fk2
  refine go_reg [] [] [oT,oT] mo f5.d f5.z f5.b (by kernel_rfl) trivial (
   hk (fun cx=>cx.v (ex_eq (x:=.tmp 9) rfl (cx.rq 9 (f5.v 1 rfl rfl rfl)) rfl) rfl (congrArg Value.bool Ffk2.out)) <|
   kmu 0 <|
   hn) ?_
  intro a14 w14 f14
  refine wp_cond_true (f14.v 1 rfl rfl rfl) ?_
  refine wp_seq ?_
  have b_g1_13:=f14.k (f5.k b_g1_1)
  have s2_14:=f14.q 2 (f5.q 2 s2_2)
  have s1_15:=f14.q 1 (f5.q 1 (f4.q 1 (f1.q 1 s1_0)))
  refine go_reg [bx g1 31 (tyC a)] [] [some (pt g1 1),some (.agg (scC a.s)),some (.int .u64 (V v)),some (.bool (Sc.hasB a.s v)),some (.bool (Sc.hasB a.s v))] mo f14.d f14.z f14.b (by kernel_rfl) ⟨b_g1_13,trivial⟩ (
   hk (fun cx=>cx.q (ex_fa rfl (cx.rq 2 s2_14) (faStD31_1_0 _ _))) <|
   hk (fun cx=>cx.q (exec_loadR 29 _ rfl g1 1 (cx.u 0 rfl) (cx.rn 0 rfl) [.int .u64 a.s.r.u.lo,.int .u64 a.s.r.u.hi,.int .i64 a.s.r.s.lo,.int .i64 a.s.r.s.hi,.int .u64 (V a.s.k.v),.int .u64 (V a.s.k.m)] rfl _ Try.underlying29 rfl (by kernel_rfl))) <|
   hk (fun cx=>cx.q (ex_mv rfl (cx.rq 1 s1_15))) <|
   hc (fun _ _ wx cx=>cx.c rfl (args2 (cx.u 0 rfl) (cx.u 1 rfl)) Try.func44 (by decide +kernel) (vhas_n a.s v wx) rfl rfl) <|
   kmu 0 <|
   hn) ?_
  intro a15 w15 f15
  refine wp_ret ?_
  try simp only [Exit.inBlock,Exit.then]
  refine bodyPost_ret (res_t (fn:=Try.f19) rfl (f15.v 4 rfl rfl rfl)) f15.d ?_
  have HE:(.bool (Sc.hasB a.s v):Value)=.bool (Ty.holdB a v):=by unfold Ty.holdB;simp only [Ffk1.out,Ffk2.out,Bool.true_and,Bool.and_true,Bool.false_and,Bool.and_false,Bool.or_false,Bool.false_or,Bool.true_or,Bool.or_true,Bool.not_true,Bool.not_false,if_true,if_false,Bool.false_eq_true,Bool.true_eq_false,reduceCtorEq];try rfl
  exact ⟨retV HE,f15.b⟩
set_option maxHeartbeats 4000000 in
theorem around_n (F:Nat) (fn:Func) (f:Sc → Sc → Sc) (a b:Ty) (lo hi:Int) (W:World) (hF:Try.prog.funcs[F]?=some fn) (hO:okF fn=true) (hC:∀ (x y:Sc) (W:World),x.r.Ok → y.r.Ok → Calls Try.prog F #[.agg (scC x),.agg (scC y)] W fun e w'=>e=.returned (.agg (scC (f x y))) ∧ Below W.heap.size W w') (ha:a.Ok) (hb:b.Ok):Calls Try.prog 50 #[.agg (tyC a),.agg (tyC b),.func (.func F) #[] #[],.int .i64 lo,.int .i64 hi] W fun e w'=>e=.returned (.agg (tyC (arnd f lo hi a b))) ∧ Below W.heap.size W w':=by
  have HA:=Lib.hid ha
  have HB:=Lib.hid hb
  clear ha hb
  refine calls_abs Try.func50 rfl (Nat.le_of_ble_eq_true rfl) ?_
  intro a0 d0 z0 h0
  replace z0:a0.tmps.size=42:=z0
  have s0_0:a0.tmps.getD 0 undef=.agg (tyC a):=h0 0 (Nat.le_of_ble_eq_true rfl)
  have s1_0:a0.tmps.getD 1 undef=.agg (tyC b):=h0 1 (Nat.le_of_ble_eq_true rfl)
  have s2_0:a0.tmps.getD 2 undef=.func (.func F) #[] #[]:=h0 2 (Nat.le_of_ble_eq_true rfl)
  have s3_0:a0.tmps.getD 3 undef=.int .i64 lo:=h0 3 (Nat.le_of_ble_eq_true rfl)
  have s4_0:a0.tmps.getD 4 undef=.int .i64 hi:=h0 4 (Nat.le_of_ble_eq_true rfl)
  refine wp_seq ?_
  refine go_reg [] [⟨0,5,31,(tyC a),none,#[]⟩,⟨1,6,31,(tyC b),none,#[]⟩,⟨2,10,31,(tyC tZ),none,#[]⟩] [none,none,none] mo d0 z0 (Below.refl _ _) (by kernel_rfl) trivial (
   hk (fun cx=>cx.al (wn rfl) 0 rfl (ex_box rfl (cx.rq 0 s0_0) rfl) rfl rfl rfl rfl rfl trivial) <|
   hk (fun cx=>cx.al (wn rfl) 1 rfl (ex_box rfl (cx.rq 1 s1_0) rfl) rfl rfl rfl rfl rfl trivial) <|
   hk (fun cx=>cx.al (wn rfl) 2 rfl (al_ty rfl) rfl rfl rfl rfl rfl trivial) <|
   hn) ?_
  intro a1 w1 f1
  obtain ⟨g1,u_g1,q_g1,b_g1⟩:=f1.al.1
  obtain ⟨g2,u_g2,q_g2,b_g2⟩:=f1.al.2.1
  obtain ⟨g3,u_g3,q_g3,b_g3⟩:=f1.al.2.2.1
  refine wp_seq ?_
  refine wp_block ?_
  refine wp_seq ?_
  cases fk1:Ty.unB a
  case false=>
   have Ffk1:=Lib.hid fk1;clear fk1
   cases fk2:Ty.unB b
   case false=>
    have Ffk2:=Lib.hid fk2;clear fk2
    refine go_reg [bx g1 31 (tyC a),bx g2 31 (tyC b)] [] [some (.agg (tyC a)),oF,oF,some (.agg (tyC b)),oF,oF,oF] mo f1.d f1.z f1.b (by kernel_rfl) ⟨b_g1,b_g2,trivial⟩ (
     hk (fun cx=>cx.q (ldTy rfl (cx.rq 5 u_g1) (cx.rn 0 rfl))) <|
     hc (fun _ _ wx cx=>cx.c rfl (args1 (cx.u 0 rfl)) Try.func36 (by decide +kernel) (unset_n a wx) rfl (congrArg Value.bool Ffk1.out)) <|
     kmu 0 <|
     hk (fun cx=>cx.vy 0 (ldTy rfl (cx.rq 6 u_g2) (cx.rn 1 rfl))) <|
     hc (fun _ _ wx cx=>cx.call (cx.wy rfl rfl rfl rfl (cx.u 1 rfl)) rfl rfl (args1 (cx.u 0 rfl)) Try.func36 (by decide +kernel) rfl (unset_n b wx) rfl rfl (congrArg Value.bool Ffk2.out) rfl) <|
     hk (fun cx=>cx.q (ex_pf rfl (cx.u 0 rfl) (cx.u 1 rfl))) <|
     kmu 0 <|
     hn) ?_
    intro a2 w2 f2
    refine wp_cond_false (f2.v 6 rfl rfl rfl) ?_
    refine wp_seq ?_
    cases fk3:a.kd != b.kd
    case false=>
     have Ffk3:=Lib.hid fk3;clear fk3
     have b_g1_1:=f2.k b_g1
     have b_g2_2:=f2.k b_g2
     have s5_3:=f2.q 5 u_g1
     have s6_4:=f2.q 6 u_g2
     refine go_reg [bx g1 31 (tyC a),bx g2 31 (tyC b)] [] [some (pt g1 0),some (.int .i8 a.kd),some (pt g2 0),some (.int .i8 b.kd),oF,oF] mo f2.d f2.z f2.b (by kernel_rfl) ⟨b_g1_1,b_g2_2,trivial⟩ (
      hk (fun cx=>cx.q (ex_fa rfl (cx.rq 5 s5_3) (faStD31_0_0 _ _))) <|
      hk (fun cx=>cx.q (ex_ld rfl (cx.u 0 rfl) (cx.rn 0 rfl) rfl Try.isAgg22)) <|
      hk (fun cx=>cx.q (ex_fa rfl (cx.rq 6 s6_4) (faStD31_0_0 _ _))) <|
      hk (fun cx=>cx.q (ex_ld rfl (cx.u 0 rfl) (cx.rn 1 rfl) rfl Try.isAgg22)) <|
      hk (fun cx=>cx.v (ex_ne (x:=.tmp 21) (y:=.tmp 23) rfl (cx.u 0 rfl) (cx.u 1 rfl)) rfl (congrArg Value.bool Ffk3.out)) <|
      kmu 0 <|
      hn) ?_
     intro a3 w3 f3
     refine wp_cond_false (f3.v 5 rfl rfl rfl) ?_
     refine wp_seq ?_
     cases fk4:a.kd == 1
     case false=>
      have Ffk4:=Lib.hid fk4;clear fk4
      have b_g1_5:=f3.k b_g1_1
      have s5_6:=f3.q 5 s5_3
      refine go_reg [bx g1 31 (tyC a)] [] [some (pt g1 0),some (.int .i8 a.kd),oF,oF] mo f3.d f3.z f3.b (by kernel_rfl) ⟨b_g1_5,trivial⟩ (
       hk (fun cx=>cx.q (ex_fa rfl (cx.rq 5 s5_6) (faStD31_0_0 _ _))) <|
       hk (fun cx=>cx.q (ex_ld rfl (cx.u 0 rfl) (cx.rn 0 rfl) rfl Try.isAgg22)) <|
       hk (fun cx=>cx.v (ex_eq (x:=.tmp 28) rfl (cx.u 0 rfl) rfl) rfl (congrArg Value.bool Ffk4.out)) <|
       kmu 0 <|
       hn) ?_
      intro a4 w4 f4
      refine wp_cond_false (f4.v 3 rfl rfl rfl) ?_
      refine wp_skip ?_
      refine wp_seq ?_
      have b_g1_7:=f4.k b_g1_5
      have b_g3_8:=f4.k (f3.k (f2.k b_g3))
      have s5_9:=f4.q 5 s5_6
      have s3_10:=f4.q 3 (f3.q 3 (f2.q 3 (f1.q 3 s3_0)))
      have s4_11:=f4.q 4 (f3.q 4 (f2.q 4 (f1.q 4 s4_0)))
      have s10_12:=f4.q 10 (f3.q 10 (f2.q 10 u_g3))
      refine go_reg [bx g1 31 (tyC a),⟨g3,31,(tyC tZ),some 5,(tyC (ptT a.kd lo hi))⟩] [] [some (pt g1 0),some (.int .i8 a.kd),some (.int .i64 lo),some (.int .i64 hi),some (.agg (tyC (ptT a.kd lo hi))),none] mo f4.d f4.z f4.b (by kernel_rfl) ⟨b_g1_7,b_g3_8,trivial⟩ (
       hk (fun cx=>cx.q (ex_fa rfl (cx.rq 5 s5_9) (faStD31_0_0 _ _))) <|
       hk (fun cx=>cx.q (ex_ld rfl (cx.u 0 rfl) (cx.rn 0 rfl) rfl Try.isAgg22)) <|
       hk (fun cx=>cx.q (ex_mv rfl (cx.rq 3 s3_10))) <|
       hk (fun cx=>cx.q (ex_mv rfl (cx.rq 4 s4_11))) <|
       hc (fun _ _ wx cx=>cx.c rfl (args3 (cx.u 0 rfl) (cx.u 1 rfl) (cx.u 2 rfl)) Try.func37 (by decide +kernel) (ptt_n a.kd lo hi wx) rfl rfl) <|
       hk (fun cx=>cx.stR (wn rfl) rfl rfl 1 rfl (cx.rq 10 s10_12) (cx.u 0 rfl) (by kernel_rfl) (Eq.refl 9) (tyC_one _) q_g3 rfl ⟨(ne_ptr (pairAt f1.ps 0 2 (by decide) rfl rfl) u_g1 u_g3),trivial⟩ trivial) <|
       hn) ?_
      intro a5 w5 f5
      refine wp_ret ?_
      have s10_13:=f5.q 10 s10_12
      try simp only [Exit.inBlock,Exit.then]
      refine bodyPost_ret (res_c (fn:=Try.f50) rfl s10_13 (load_row 31 f5.rows.2.1 Try.underlying31 rfl (by kernel_rfl))) f5.d ?_
      have HE:(.agg (tyC (ptT a.kd lo hi)):Value)=.agg (tyC (arnd f lo hi a b)):=by unfold arnd;simp only [Ffk1.out,Ffk2.out,Ffk3.out,Ffk4.out,Bool.true_and,Bool.and_true,Bool.false_and,Bool.and_false,Bool.or_false,Bool.false_or,Bool.true_or,Bool.or_true,Bool.not_true,Bool.not_false,if_true,if_false,Bool.false_eq_true,Bool.true_eq_false,reduceCtorEq];try rfl
      exact ⟨retV HE,f5.b⟩
     have Ffk4:=Lib.hid fk4;clear fk4
     have b_g1_14:=f3.k b_g1_1
     have s5_15:=f3.q 5 s5_3
     refine go_reg [bx g1 31 (tyC a)] [] [some (pt g1 0),some (.int .i8 a.kd),oT,oT] mo f3.d f3.z f3.b (by kernel_rfl) ⟨b_g1_14,trivial⟩ (
      hk (fun cx=>cx.q (ex_fa rfl (cx.rq 5 s5_15) (faStD31_0_0 _ _))) <|
      hk (fun cx=>cx.q (ex_ld rfl (cx.u 0 rfl) (cx.rn 0 rfl) rfl Try.isAgg22)) <|
      hk (fun cx=>cx.v (ex_eq (x:=.tmp 28) rfl (cx.u 0 rfl) rfl) rfl (congrArg Value.bool Ffk4.out)) <|
      kmu 0 <|
      hn) ?_
     intro a6 w6 f6
     refine wp_cond_true (f6.v 3 rfl rfl rfl) ?_
     refine wp_seq ?_
     have b_g1_16:=f6.k b_g1_14
     have b_g2_17:=f6.k (f3.k b_g2_2)
     have b_g3_18:=f6.k (f3.k (f2.k b_g3))
     have s2_19:=f6.q 2 (f3.q 2 (f2.q 2 (f1.q 2 s2_0)))
     have s5_20:=f6.q 5 s5_15
     have s6_21:=f6.q 6 (f3.q 6 s6_4)
     have s10_22:=f6.q 10 (f3.q 10 (f2.q 10 u_g3))
     refine go_reg [bx g1 31 (tyC a),bx g2 31 (tyC b),⟨g3,31,(tyC tZ),some 7,(tyC (scT (f a.s b.s)))⟩] [] [some (.func (.func F) #[] #[]),some (pt g1 1),some (.agg (scC a.s)),some (pt g2 1),some (.agg (scC b.s)),some (.agg (scC (f a.s b.s))),some (.agg (tyC (scT (f a.s b.s)))),none] mo f6.d f6.z f6.b (by kernel_rfl) ⟨b_g1_16,b_g2_17,b_g3_18,trivial⟩ (
      hk (fun cx=>cx.q (ex_mv rfl (cx.rq 2 s2_19))) <|
      hk (fun cx=>cx.q (ex_fa rfl (cx.rq 5 s5_20) (faStD31_1_0 _ _))) <|
      hk (fun cx=>cx.q (exec_loadR 29 _ rfl g1 1 (cx.u 0 rfl) (cx.rn 0 rfl) [.int .u64 a.s.r.u.lo,.int .u64 a.s.r.u.hi,.int .i64 a.s.r.s.lo,.int .i64 a.s.r.s.hi,.int .u64 (V a.s.k.v),.int .u64 (V a.s.k.m)] rfl _ Try.underlying29 rfl (by kernel_rfl))) <|
      hk (fun cx=>cx.q (ex_fa rfl (cx.rq 6 s6_21) (faStD31_1_0 _ _))) <|
      hk (fun cx=>cx.q (exec_loadR 29 _ rfl g2 1 (cx.u 0 rfl) (cx.rn 1 rfl) [.int .u64 b.s.r.u.lo,.int .u64 b.s.r.u.hi,.int .i64 b.s.r.s.lo,.int .i64 b.s.r.s.hi,.int .u64 (V b.s.k.v),.int .u64 (V b.s.k.m)] rfl _ Try.underlying29 rfl (by kernel_rfl))) <|
      hc (fun _ _ wx cx=>cx.callv (wn rfl) rfl rfl (cx.u 0 rfl) (args2 (cx.u 1 rfl) (cx.u 2 rfl)) hF hO (hC a.s b.s wx HA.out.2.1 HB.out.2.1) rfl rfl rfl rfl) <|
      hc (fun _ _ wx cx=>cx.c rfl (args1 (cx.u 0 rfl)) Try.func32 (by decide +kernel) (sct_n (f a.s b.s) wx) rfl rfl) <|
      hk (fun cx=>cx.stR (wn rfl) rfl rfl 2 rfl (cx.rq 10 s10_22) (cx.u 0 rfl) (by kernel_rfl) (Eq.refl 9) (tyC_one _) q_g3 rfl ⟨(ne_ptr (pairAt f1.ps 0 2 (by decide) rfl rfl) u_g1 u_g3),(ne_ptr (pairAt f1.ps 1 2 (by decide) rfl rfl) u_g2 u_g3),trivial⟩ trivial) <|
      hn) ?_
     intro a7 w7 f7
     refine wp_ret ?_
     have s10_23:=f7.q 10 s10_22
     try simp only [Exit.inBlock,Exit.then]
     refine bodyPost_ret (res_c (fn:=Try.f50) rfl s10_23 (load_row 31 f7.rows.2.2.1 Try.underlying31 rfl (by kernel_rfl))) f7.d ?_
     have HE:(.agg (tyC (scT (f a.s b.s))):Value)=.agg (tyC (arnd f lo hi a b)):=by unfold arnd;simp only [Ffk1.out,Ffk2.out,Ffk3.out,Ffk4.out,Bool.true_and,Bool.and_true,Bool.false_and,Bool.and_false,Bool.or_false,Bool.false_or,Bool.true_or,Bool.or_true,Bool.not_true,Bool.not_false,if_true,if_false,Bool.false_eq_true,Bool.true_eq_false,reduceCtorEq];try rfl
     exact ⟨retV HE,f7.b⟩
    have Ffk3:=Lib.hid fk3;clear fk3
    have b_g1_24:=f2.k b_g1
    have b_g2_25:=f2.k b_g2
    have s5_26:=f2.q 5 u_g1
    have s6_27:=f2.q 6 u_g2
    refine go_reg [bx g1 31 (tyC a),bx g2 31 (tyC b)] [] [some (pt g1 0),some (.int .i8 a.kd),some (pt g2 0),some (.int .i8 b.kd),oT,oT] mo f2.d f2.z f2.b (by kernel_rfl) ⟨b_g1_24,b_g2_25,trivial⟩ (
     hk (fun cx=>cx.q (ex_fa rfl (cx.rq 5 s5_26) (faStD31_0_0 _ _))) <|
     hk (fun cx=>cx.q (ex_ld rfl (cx.u 0 rfl) (cx.rn 0 rfl) rfl Try.isAgg22)) <|
     hk (fun cx=>cx.q (ex_fa rfl (cx.rq 6 s6_27) (faStD31_0_0 _ _))) <|
     hk (fun cx=>cx.q (ex_ld rfl (cx.u 0 rfl) (cx.rn 1 rfl) rfl Try.isAgg22)) <|
     hk (fun cx=>cx.v (ex_ne (x:=.tmp 21) (y:=.tmp 23) rfl (cx.u 0 rfl) (cx.u 1 rfl)) rfl (congrArg Value.bool Ffk3.out)) <|
     kmu 0 <|
     hn) ?_
    intro a8 w8 f8
    refine wp_cond_true (f8.v 5 rfl rfl rfl) ?_
    refine wp_seq ?_
    have b_g3_28:=f8.k (f2.k b_g3)
    have s10_29:=f8.q 10 (f2.q 10 u_g3)
    refine go_reg [⟨g3,31,(tyC tZ),some 1,(tyC allT)⟩] [] [some (.agg (tyC allT)),none] mo f8.d f8.z f8.b (by kernel_rfl) ⟨b_g3_28,trivial⟩ (
     hc (fun _ _ wx cx=>cx.c rfl (args0 ) Try.func13 (by decide +kernel) (tscalar_n wx) rfl rfl) <|
     hk (fun cx=>cx.stR (wn rfl) rfl rfl 0 rfl (cx.rq 10 s10_29) (cx.u 0 rfl) (by kernel_rfl) (Eq.refl 9) (tyC_one _) q_g3 rfl trivial trivial) <|
     hn) ?_
    intro a9 w9 f9
    refine wp_ret ?_
    have s10_30:=f9.q 10 s10_29
    try simp only [Exit.inBlock,Exit.then]
    refine bodyPost_ret (res_c (fn:=Try.f50) rfl s10_30 (load_row 31 f9.rows.1 Try.underlying31 rfl (by kernel_rfl))) f9.d ?_
    have HE:(.agg (tyC allT):Value)=.agg (tyC (arnd f lo hi a b)):=by unfold arnd;simp only [Ffk1.out,Ffk2.out,Ffk3.out,Bool.true_and,Bool.and_true,Bool.false_and,Bool.and_false,Bool.or_false,Bool.false_or,Bool.true_or,Bool.or_true,Bool.not_true,Bool.not_false,if_true,if_false,Bool.false_eq_true,Bool.true_eq_false,reduceCtorEq];try rfl
    exact ⟨retV HE,f9.b⟩
   have Ffk2:=Lib.hid fk2;clear fk2
   refine go_reg [bx g1 31 (tyC a),bx g2 31 (tyC b)] [] [some (.agg (tyC a)),oF,oF,some (.agg (tyC b)),oT,oT,oT] mo f1.d f1.z f1.b (by kernel_rfl) ⟨b_g1,b_g2,trivial⟩ (
    hk (fun cx=>cx.q (ldTy rfl (cx.rq 5 u_g1) (cx.rn 0 rfl))) <|
    hc (fun _ _ wx cx=>cx.c rfl (args1 (cx.u 0 rfl)) Try.func36 (by decide +kernel) (unset_n a wx) rfl (congrArg Value.bool Ffk1.out)) <|
    kmu 0 <|
    hk (fun cx=>cx.vy 0 (ldTy rfl (cx.rq 6 u_g2) (cx.rn 1 rfl))) <|
    hc (fun _ _ wx cx=>cx.call (cx.wy rfl rfl rfl rfl (cx.u 1 rfl)) rfl rfl (args1 (cx.u 0 rfl)) Try.func36 (by decide +kernel) rfl (unset_n b wx) rfl rfl (congrArg Value.bool Ffk2.out) rfl) <|
    hk (fun cx=>cx.q (ex_pf rfl (cx.u 0 rfl) (cx.u 1 rfl))) <|
    kmu 0 <|
    hn) ?_
   intro a10 w10 f10
   refine wp_cond_true (f10.v 6 rfl rfl rfl) ?_
   refine wp_seq ?_
   have b_g3_31:=f10.k b_g3
   have s10_32:=f10.q 10 u_g3
   refine go_reg [⟨g3,31,(tyC tZ),some 1,(tyC tZ)⟩] [] [some (.agg (tyC tZ)),none] mo f10.d f10.z f10.b (by kernel_rfl) ⟨b_g3_31,trivial⟩ (
    hk (fun cx=>cx.q (ex_z9 rfl)) <|
    hk (fun cx=>cx.stR (wn rfl) rfl rfl 0 rfl (cx.rq 10 s10_32) (cx.u 0 rfl) (by kernel_rfl) (Eq.refl 9) (tyC_one _) q_g3 rfl trivial trivial) <|
    hn) ?_
   intro a11 w11 f11
   refine wp_ret ?_
   have s10_33:=f11.q 10 s10_32
   try simp only [Exit.inBlock,Exit.then]
   refine bodyPost_ret (res_c (fn:=Try.f50) rfl s10_33 (load_row 31 f11.rows.1 Try.underlying31 rfl (by kernel_rfl))) f11.d ?_
   have HE:(.agg (tyC tZ):Value)=.agg (tyC (arnd f lo hi a b)):=by unfold arnd;simp only [Ffk1.out,Ffk2.out,Bool.true_and,Bool.and_true,Bool.false_and,Bool.and_false,Bool.or_false,Bool.false_or,Bool.true_or,Bool.or_true,Bool.not_true,Bool.not_false,if_true,if_false,Bool.false_eq_true,Bool.true_eq_false,reduceCtorEq];try rfl
   exact ⟨retV HE,f11.b⟩
  have Ffk1:=Lib.hid fk1;clear fk1
  refine go_reg [bx g1 31 (tyC a)] [] [some (.agg (tyC a)),oT,oT,oU,oU,oT,oT] mo f1.d f1.z f1.b (by kernel_rfl) ⟨b_g1,trivial⟩ (
   hk (fun cx=>cx.q (ldTy rfl (cx.rq 5 u_g1) (cx.rn 0 rfl))) <|
   hc (fun _ _ wx cx=>cx.c rfl (args1 (cx.u 0 rfl)) Try.func36 (by decide +kernel) (unset_n a wx) rfl (congrArg Value.bool Ffk1.out)) <|
   kmu 0 <|
   kno 0 <|
   kno 1 <|
   hk (fun cx=>cx.q (ex_pt rfl (cx.u 0 rfl) rfl)) <|
   kmu 0 <|
   hn) ?_
  intro a12 w12 f12
  refine wp_cond_true (f12.v 6 rfl rfl rfl) ?_
  refine wp_seq ?_
  have b_g3_34:=f12.k b_g3
  have s10_35:=f12.q 10 u_g3
  refine go_reg [⟨g3,31,(tyC tZ),some 1,(tyC tZ)⟩] [] [some (.agg (tyC tZ)),none] mo f12.d f12.z f12.b (by kernel_rfl) ⟨b_g3_34,trivial⟩ (
   hk (fun cx=>cx.q (ex_z9 rfl)) <|
   hk (fun cx=>cx.stR (wn rfl) rfl rfl 0 rfl (cx.rq 10 s10_35) (cx.u 0 rfl) (by kernel_rfl) (Eq.refl 9) (tyC_one _) q_g3 rfl trivial trivial) <|
   hn) ?_
  intro a13 w13 f13
  refine wp_ret ?_
  have s10_36:=f13.q 10 s10_35
  try simp only [Exit.inBlock,Exit.then]
  refine bodyPost_ret (res_c (fn:=Try.f50) rfl s10_36 (load_row 31 f13.rows.1 Try.underlying31 rfl (by kernel_rfl))) f13.d ?_
  have HE:(.agg (tyC tZ):Value)=.agg (tyC (arnd f lo hi a b)):=by unfold arnd;simp only [Ffk1.out,Bool.true_and,Bool.and_true,Bool.false_and,Bool.and_false,Bool.or_false,Bool.false_or,Bool.true_or,Bool.or_true,Bool.not_true,Bool.not_false,if_true,if_false,Bool.false_eq_true,Bool.true_eq_false,reduceCtorEq];try rfl
  exact ⟨retV HE,f13.b⟩
set_option maxHeartbeats 4000000 in
theorem join1_n (a b:Ty) (W:World) (ha:a.Ok) (hb:b.Ok):Calls Try.prog 49 #[.agg (tyC a),.agg (tyC b)] W fun e w'=>e=.returned (.agg (tyC (jT a b))) ∧ Below W.heap.size W w':=by
  have HA:=Lib.hid ha
  have HB:=Lib.hid hb
  clear ha hb
  refine calls_abs Try.func49 rfl (Nat.le_of_ble_eq_true rfl) ?_
  intro a0 d0 z0 h0
  replace z0:a0.tmps.size=18:=z0
  have s0_0:a0.tmps.getD 0 undef=.agg (tyC a):=h0 0 (Nat.le_of_ble_eq_true rfl)
  have s1_0:a0.tmps.getD 1 undef=.agg (tyC b):=h0 1 (Nat.le_of_ble_eq_true rfl)
  refine wp_seq ?_
  refine go_reg [] [⟨0,2,31,(tyC a),none,#[]⟩,⟨1,3,31,(tyC b),none,#[]⟩,⟨2,4,31,(tyC tZ),none,#[]⟩] [none,none,none] mo d0 z0 (Below.refl _ _) (by kernel_rfl) trivial (
   hk (fun cx=>cx.al (wn rfl) 0 rfl (ex_box rfl (cx.rq 0 s0_0) rfl) rfl rfl rfl rfl rfl trivial) <|
   hk (fun cx=>cx.al (wn rfl) 1 rfl (ex_box rfl (cx.rq 1 s1_0) rfl) rfl rfl rfl rfl rfl trivial) <|
   hk (fun cx=>cx.al (wn rfl) 2 rfl (al_ty rfl) rfl rfl rfl rfl rfl trivial) <|
   hn) ?_
  intro a1 w1 f1
  obtain ⟨g1,u_g1,q_g1,b_g1⟩:=f1.al.1
  obtain ⟨g2,u_g2,q_g2,b_g2⟩:=f1.al.2.1
  obtain ⟨g3,u_g3,q_g3,b_g3⟩:=f1.al.2.2.1
  refine wp_seq ?_
  refine go_reg [bx g1 31 (tyC a),bx g2 31 (tyC b),⟨g3,31,(tyC tZ),some 13,(tyC (arnd Sc.join (min a.lo b.lo) (max a.hi b.hi) a b))⟩] [] [some (.agg (tyC a)),some (.agg (tyC b)),some (pt g1 7),some (.int .i64 a.lo),some (pt g2 7),some (.int .i64 b.lo),some (.int .i64 (min a.lo b.lo)),some (pt g1 8),some (.int .i64 a.hi),some (pt g2 8),some (.int .i64 b.hi),some (.int .i64 (max a.hi b.hi)),some (.agg (tyC (arnd Sc.join (min a.lo b.lo) (max a.hi b.hi) a b))),none] mo f1.d f1.z f1.b (by kernel_rfl) ⟨b_g1,b_g2,b_g3,trivial⟩ (
   hk (fun cx=>cx.q (ldTy rfl (cx.rq 2 u_g1) (cx.rn 0 rfl))) <|
   hk (fun cx=>cx.q (ldTy rfl (cx.rq 3 u_g2) (cx.rn 1 rfl))) <|
   hk (fun cx=>cx.q (ex_fa rfl (cx.rq 2 u_g1) (faStD31_2_0 _ _))) <|
   hk (fun cx=>cx.q (ex_ld rfl (cx.u 0 rfl) (cx.rn 0 rfl) rfl Try.isAgg3)) <|
   hk (fun cx=>cx.q (ex_fa rfl (cx.rq 3 u_g2) (faStD31_2_0 _ _))) <|
   hk (fun cx=>cx.q (ex_ld rfl (cx.u 0 rfl) (cx.rn 1 rfl) rfl Try.isAgg3)) <|
   hk (fun cx=>cx.q (ex_min (x:=.tmp 8) (y:=.tmp 10) rfl (cx.u 0 rfl) (cx.u 1 rfl))) <|
   hk (fun cx=>cx.q (ex_fa rfl (cx.rq 2 u_g1) (faStD31_3_0 _ _))) <|
   hk (fun cx=>cx.q (ex_ld rfl (cx.u 0 rfl) (cx.rn 0 rfl) rfl Try.isAgg3)) <|
   hk (fun cx=>cx.q (ex_fa rfl (cx.rq 3 u_g2) (faStD31_3_0 _ _))) <|
   hk (fun cx=>cx.q (ex_ld rfl (cx.u 0 rfl) (cx.rn 1 rfl) rfl Try.isAgg3)) <|
   hc (fun _ ax _ cx=>cx.q (ex_max (x:=.tmp 13) (y:=.tmp 15) rfl (cx.u 0 rfl) (cx.u 1 rfl))) <|
   hc (fun _ ax wx cx=>cx.c rfl (args5 (cx.u 0 rfl) (cx.u 1 rfl) rfl (cx.u 2 rfl) (cx.u 3 rfl)) Try.func50 (by decide +kernel) (around_n 51 _ Sc.join a b (min a.lo b.lo) (max a.hi b.hi) wx Try.func51 (by decide +kernel) (fun x y W hx hy=>vjoin_n x y W hx hy) HA.out HB.out) rfl rfl) <|
   hk (fun cx=>cx.stR (wn rfl) rfl rfl 2 rfl (cx.rq 4 u_g3) (cx.u 0 rfl) (by kernel_rfl) (Eq.refl 9) (tyC_one _) q_g3 rfl ⟨(ne_ptr (pairAt f1.ps 0 2 (by decide) rfl rfl) u_g1 u_g3),(ne_ptr (pairAt f1.ps 1 2 (by decide) rfl rfl) u_g2 u_g3),trivial⟩ trivial) <|
   hn) ?_
  intro a2 w2 f2
  refine wp_ret ?_
  have s4_1:=f2.q 4 u_g3
  try simp only [Exit.inBlock,Exit.then]
  refine bodyPost_ret (res_c (fn:=Try.f49) rfl s4_1 (load_row 31 f2.rows.2.2.1 Try.underlying31 rfl (by kernel_rfl))) f2.d ?_
  have HE:(.agg (tyC (arnd Sc.join (min a.lo b.lo) (max a.hi b.hi) a b)):Value)=.agg (tyC (jT a b)):=rfl
  exact ⟨retV HE,f2.b⟩
theorem sub64 {n:Int} (h:sizeB n=true):IntKind.i64.wrap (64 - n)=64 - n:=by
  unfold sizeB at h
  simp only [Bool.or_eq_true,beq_iff_eq] at h
  rw [IntKind.wrap_i64];omega
theorem ex_quo {ρ:Operand → Value} {o:Oper} {w:World} {t z:TypeId} {x y:Operand} (ho:o.op=.binOp .quo t x y z) {a b:Int} (hx:ρ x=.int .i64 a) (hy:ρ y=.int .i64 b) (ha:0 ≤ a) (hb:0 < b) (hl:a < 9223372036854775808):(execOp ρ o).run Try.prog w=.ok (.value (.int .i64 (a / b))) w:=by
  have e1:¬ b=0:=by omega
  simp [execOp,ho,hx,hy,go_sem,e1]
  rw [Int.tdiv_eq_ediv_of_nonneg ha]
  have h0:=Int.ediv_nonneg ha (show (0:Int) ≤ b by omega)
  have h1:=Int.ediv_le_self b ha
  first | omega | (rw [IntKind.wrap_i64];omega) | (rw [wrap64];omega) | skip
set_option maxHeartbeats 4000000 in
theorem within_n (lo hi size:Int) (W:World):Calls Try.prog 30 #[.int .i64 lo,.int .i64 hi,.int .i64 size] W fun e w'=>e=.returned (.bool (withinB lo hi size)) ∧ Below W.heap.size W w':=by
  refine calls_abs Try.func30 rfl (Nat.le_of_ble_eq_true rfl) ?_
  intro a0 d0 z0 h0
  replace z0:a0.tmps.size=26:=z0
  have s0_0:a0.tmps.getD 0 undef=.int .i64 lo:=h0 0 (Nat.le_of_ble_eq_true rfl)
  have s1_0:a0.tmps.getD 1 undef=.int .i64 hi:=h0 1 (Nat.le_of_ble_eq_true rfl)
  have s2_0:a0.tmps.getD 2 undef=.int .i64 size:=h0 2 (Nat.le_of_ble_eq_true rfl)
  refine wp_seq ?_
  refine go_reg [] [] [oF] mo d0 z0 (Below.refl _ _) (by kernel_rfl) trivial (
   hk (fun cx=>cx.q (ex_as rfl rfl)) <|
   hn) ?_
  intro a1 w1 f1
  refine wp_seq ?_
  refine wp_seq ?_
  have s2_1:=f1.q 2 s2_0
  refine go_reg [] [] [some (.int .i64 size)] mo f1.d f1.z f1.b (by kernel_rfl) trivial (
   hk (fun cx=>cx.q (ex_mv rfl (cx.rq 2 s2_1))) <|
   hn) ?_
  intro a2 w2 f2
  refine wp_block ?_
  refine wp_cut (fun aI wI=>∃ bI:Bool,(sizeB size)=bI ∧ Mid 26 W [(8,.bool bI),(0,.int .i64 lo),(1,.int .i64 hi),(2,.int .i64 size),(6,.bool false)] [] aI wI) ?_ ?_
  ·
    refine wp_seq ?_
    cases fk1:size == 1
    case false=>
     have Ffk1:=Lib.hid fk1;clear fk1
     refine go_reg [] [] [oF,oF] mo f2.d f2.z f2.b (by kernel_rfl) trivial (
      hk (fun cx=>cx.v (ex_eq (x:=.tmp 7) rfl (cx.rq 7 (f2.v 0 rfl rfl rfl)) rfl) rfl (congrArg Value.bool Ffk1.out)) <|
      kmu 0 <|
      hn) ?_
     intro a3 w3 f3
     refine wp_cond_false (f3.v 1 rfl rfl rfl) ?_
     refine wp_seq ?_
     cases fk2:size == 2
     case false=>
      have Ffk2:=Lib.hid fk2;clear fk2
      have s7_2:=f3.q 7 (f2.v 0 rfl rfl rfl)
      refine go_reg [] [] [oF,oF] mo f3.d f3.z f3.b (by kernel_rfl) trivial (
       hk (fun cx=>cx.v (ex_eq (x:=.tmp 7) rfl (cx.rq 7 s7_2) rfl) rfl (congrArg Value.bool Ffk2.out)) <|
       kmu 0 <|
       hn) ?_
      intro a4 w4 f4
      refine wp_cond_false (f4.v 1 rfl rfl rfl) ?_
      refine wp_seq ?_
      cases fk3:size == 4
      case false=>
       have Ffk3:=Lib.hid fk3;clear fk3
       have s7_3:=f4.q 7 s7_2
       refine go_reg [] [] [oF,oF] mo f4.d f4.z f4.b (by kernel_rfl) trivial (
        hk (fun cx=>cx.v (ex_eq (x:=.tmp 7) rfl (cx.rq 7 s7_3) rfl) rfl (congrArg Value.bool Ffk3.out)) <|
        kmu 0 <|
        hn) ?_
       intro a5 w5 f5
       refine wp_cond_false (f5.v 1 rfl rfl rfl) ?_
       cases fk4:size == 8
       case false=>
        have Ffk4:=Lib.hid fk4;clear fk4
        have s7_4:=f5.q 7 s7_3
        refine go_reg [] [] [oF,oF] mo f5.d f5.z f5.b (by kernel_rfl) trivial (
         hk (fun cx=>cx.v (ex_eq (x:=.tmp 7) rfl (cx.rq 7 s7_4) rfl) rfl (congrArg Value.bool Ffk4.out)) <|
         kmu 0 <|
         hn) ?_
        intro a6 w6 f6
        have s0_5:=f6.q 0 (f5.q 0 (f4.q 0 (f3.q 0 (f2.q 0 (f1.q 0 s0_0)))))
        have s1_6:=f6.q 1 (f5.q 1 (f4.q 1 (f3.q 1 (f2.q 1 (f1.q 1 s1_0)))))
        have s2_7:=f6.q 2 (f5.q 2 (f4.q 2 (f3.q 2 (f2.q 2 s2_1))))
        have s6_8:=f6.q 6 (f5.q 6 (f4.q 6 (f3.q 6 (f2.q 6 (f1.v 0 rfl rfl rfl)))))
        exact ⟨false,(show sizeB size=false from by unfold sizeB;simp only [Ffk1.out,Ffk2.out,Ffk3.out,Ffk4.out,Bool.true_or,Bool.or_true,Bool.false_or,Bool.or_false]),f6.d,f6.z,f6.b,⟨(f6.v 1 rfl rfl rfl),s0_5,s1_6,s2_7,s6_8,trivial⟩,trivial⟩
       have Ffk4:=Lib.hid fk4;clear fk4
       have s7_9:=f5.q 7 s7_3
       refine go_reg [] [] [oT,oT] mo f5.d f5.z f5.b (by kernel_rfl) trivial (
        hk (fun cx=>cx.v (ex_eq (x:=.tmp 7) rfl (cx.rq 7 s7_9) rfl) rfl (congrArg Value.bool Ffk4.out)) <|
        kmu 0 <|
        hn) ?_
       intro a7 w7 f7
       have s0_10:=f7.q 0 (f5.q 0 (f4.q 0 (f3.q 0 (f2.q 0 (f1.q 0 s0_0)))))
       have s1_11:=f7.q 1 (f5.q 1 (f4.q 1 (f3.q 1 (f2.q 1 (f1.q 1 s1_0)))))
       have s2_12:=f7.q 2 (f5.q 2 (f4.q 2 (f3.q 2 (f2.q 2 s2_1))))
       have s6_13:=f7.q 6 (f5.q 6 (f4.q 6 (f3.q 6 (f2.q 6 (f1.v 0 rfl rfl rfl)))))
       exact ⟨true,(show sizeB size=true from by unfold sizeB;simp only [Ffk1.out,Ffk2.out,Ffk3.out,Ffk4.out,Bool.true_or,Bool.or_true,Bool.false_or,Bool.or_false]),f7.d,f7.z,f7.b,⟨(f7.v 1 rfl rfl rfl),s0_10,s1_11,s2_12,s6_13,trivial⟩,trivial⟩
      have Ffk3:=Lib.hid fk3;clear fk3
      have s7_14:=f4.q 7 s7_2
      refine go_reg [] [] [oT,oT] mo f4.d f4.z f4.b (by kernel_rfl) trivial (
       hk (fun cx=>cx.v (ex_eq (x:=.tmp 7) rfl (cx.rq 7 s7_14) rfl) rfl (congrArg Value.bool Ffk3.out)) <|
       kmu 0 <|
       hn) ?_
      intro a8 w8 f8
      refine wp_cond_true (f8.v 1 rfl rfl rfl) ?_
      refine wp_skip ?_
      have s0_15:=f8.q 0 (f4.q 0 (f3.q 0 (f2.q 0 (f1.q 0 s0_0))))
      have s1_16:=f8.q 1 (f4.q 1 (f3.q 1 (f2.q 1 (f1.q 1 s1_0))))
      have s2_17:=f8.q 2 (f4.q 2 (f3.q 2 (f2.q 2 s2_1)))
      have s6_18:=f8.q 6 (f4.q 6 (f3.q 6 (f2.q 6 (f1.v 0 rfl rfl rfl))))
      exact ⟨true,(show sizeB size=true from by unfold sizeB;simp only [Ffk1.out,Ffk2.out,Ffk3.out,Bool.true_or,Bool.or_true,Bool.false_or,Bool.or_false]),f8.d,f8.z,f8.b,⟨(f8.v 1 rfl rfl rfl),s0_15,s1_16,s2_17,s6_18,trivial⟩,trivial⟩
     have Ffk2:=Lib.hid fk2;clear fk2
     have s7_19:=f3.q 7 (f2.v 0 rfl rfl rfl)
     refine go_reg [] [] [oT,oT] mo f3.d f3.z f3.b (by kernel_rfl) trivial (
      hk (fun cx=>cx.v (ex_eq (x:=.tmp 7) rfl (cx.rq 7 s7_19) rfl) rfl (congrArg Value.bool Ffk2.out)) <|
      kmu 0 <|
      hn) ?_
     intro a9 w9 f9
     refine wp_cond_true (f9.v 1 rfl rfl rfl) ?_
     refine wp_skip ?_
     have s0_20:=f9.q 0 (f3.q 0 (f2.q 0 (f1.q 0 s0_0)))
     have s1_21:=f9.q 1 (f3.q 1 (f2.q 1 (f1.q 1 s1_0)))
     have s2_22:=f9.q 2 (f3.q 2 (f2.q 2 s2_1))
     have s6_23:=f9.q 6 (f3.q 6 (f2.q 6 (f1.v 0 rfl rfl rfl)))
     exact ⟨true,(show sizeB size=true from by unfold sizeB;simp only [Ffk1.out,Ffk2.out,Bool.true_or,Bool.or_true,Bool.false_or,Bool.or_false]),f9.d,f9.z,f9.b,⟨(f9.v 1 rfl rfl rfl),s0_20,s1_21,s2_22,s6_23,trivial⟩,trivial⟩
    have Ffk1:=Lib.hid fk1;clear fk1
    refine go_reg [] [] [oT,oT] mo f2.d f2.z f2.b (by kernel_rfl) trivial (
     hk (fun cx=>cx.v (ex_eq (x:=.tmp 7) rfl (cx.rq 7 (f2.v 0 rfl rfl rfl)) rfl) rfl (congrArg Value.bool Ffk1.out)) <|
     kmu 0 <|
     hn) ?_
    intro a10 w10 f10
    refine wp_cond_true (f10.v 1 rfl rfl rfl) ?_
    refine wp_skip ?_
    have s0_24:=f10.q 0 (f2.q 0 (f1.q 0 s0_0))
    have s1_25:=f10.q 1 (f2.q 1 (f1.q 1 s1_0))
    have s2_26:=f10.q 2 (f2.q 2 s2_1)
    have s6_27:=f10.q 6 (f2.q 6 (f1.v 0 rfl rfl rfl))
    exact ⟨true,(show sizeB size=true from by unfold sizeB;simp only [Ffk1.out,Bool.true_or,Bool.or_true,Bool.false_or,Bool.or_false]),f10.d,f10.z,f10.b,⟨(f10.v 1 rfl rfl rfl),s0_24,s1_25,s2_26,s6_27,trivial⟩,trivial⟩
  rintro aL1 wL1 ⟨bI,hbI,dL1,zL1,BL1,⟨sL1_8,sL1_0,sL1_1,sL1_2,sL1_6,-⟩,-⟩
  replace sL1_0:aL1.tmps.getD 0 undef=.int .i64 lo:=sL1_0
  replace sL1_1:aL1.tmps.getD 1 undef=.int .i64 hi:=sL1_1
  replace sL1_2:aL1.tmps.getD 2 undef=.int .i64 size:=sL1_2
  replace sL1_6:aL1.tmps.getD 6 undef=.bool false:=sL1_6
  cases bI
  case true=>
    replace sL1_8:aL1.tmps.getD 8 undef=.bool true:=sL1_8
    refine wp_cond_true sL1_8 ?_
    refine wp_seq ?_
    cases fk5:decide (0 ≤ lo)
    case false=>
     have Ffk5:=Lib.hid fk5;clear fk5
     refine go_reg [] [] [some (.int .i64 lo),oF,oF,oU,oU,oU,oF,oF,oU,oU,oU,oU,oF,oF] mo dL1 zL1 BL1 (by kernel_rfl) trivial (
      hk (fun cx=>cx.q (ex_mv rfl (cx.rq 0 sL1_0))) <|
      hk (fun cx=>cx.v (ex_le (y:=.tmp 13) rfl rfl (cx.u 0 rfl)) rfl (congrArg Value.bool Ffk5.out)) <|
      kmu 0 <|
      kno 0 <|
      kno 0 <|
      kno 2 <|
      hk (fun cx=>cx.q (ex_pf rfl (cx.u 0 rfl) rfl)) <|
      kmu 0 <|
      kno 0 <|
      kno 0 <|
      kno 1 <|
      kno 2 <|
      hk (fun cx=>cx.q (ex_pf rfl (cx.u 0 rfl) rfl)) <|
      kmu 0 <|
      hn) ?_
     intro a11 w11 f11
     refine wp_ret ?_
     try simp only [Exit.inBlock,Exit.then]
     refine bodyPost_ret (res_t (fn:=Try.f30) rfl (f11.v 13 rfl rfl rfl)) f11.d ?_
     have HE:(.bool false:Value)=.bool (withinB lo hi size):=by unfold withinB;simp only [ hbI,Ffk5.out,Bool.true_and,Bool.and_true,Bool.false_and,Bool.and_false,Bool.or_false,Bool.false_or,Bool.true_or,Bool.or_true,Bool.not_true,Bool.not_false,if_true,if_false,Bool.false_eq_true,Bool.true_eq_false,reduceCtorEq];try rfl
     exact ⟨retV HE,f11.b⟩
    have Ffk5:=Lib.hid fk5;clear fk5
    cases fk6:decide (lo ≤ hi)
    case false=>
     have Ffk6:=Lib.hid fk6;clear fk6
     refine go_reg [] [] [some (.int .i64 lo),oT,oT,some (.int .i64 lo),some (.int .i64 hi),oF,oF,oF,oU,oU,oU,oU,oF,oF] mo dL1 zL1 BL1 (by kernel_rfl) trivial (
      hk (fun cx=>cx.q (ex_mv rfl (cx.rq 0 sL1_0))) <|
      hk (fun cx=>cx.v (ex_le (y:=.tmp 13) rfl rfl (cx.u 0 rfl)) rfl (congrArg Value.bool Ffk5.out)) <|
      kmu 0 <|
      hk (fun cx=>cx.vy 0 (ex_mv rfl (cx.rq 0 sL1_0))) <|
      hk (fun cx=>cx.vy 0 (ex_mv rfl (cx.rq 1 sL1_1))) <|
      hk (fun cx=>cx.vy 2 (ex_le (x:=.tmp 16) (y:=.tmp 17) rfl (cx.u 0 rfl) (cx.u 1 rfl)) (congrArg Value.bool Ffk6.out)) <|
      hk (fun cx=>cx.q (ex_pt rfl (cx.u 0 rfl) (cx.u 1 rfl))) <|
      kmu 0 <|
      kno 0 <|
      kno 0 <|
      kno 1 <|
      kno 2 <|
      hk (fun cx=>cx.q (ex_pf rfl (cx.u 0 rfl) rfl)) <|
      kmu 0 <|
      hn) ?_
     intro a12 w12 f12
     refine wp_ret ?_
     try simp only [Exit.inBlock,Exit.then]
     refine bodyPost_ret (res_t (fn:=Try.f30) rfl (f12.v 13 rfl rfl rfl)) f12.d ?_
     have HE:(.bool false:Value)=.bool (withinB lo hi size):=by unfold withinB;simp only [ hbI,Ffk5.out,Ffk6.out,Bool.true_and,Bool.and_true,Bool.false_and,Bool.and_false,Bool.or_false,Bool.false_or,Bool.true_or,Bool.or_true,Bool.not_true,Bool.not_false,if_true,if_false,Bool.false_eq_true,Bool.true_eq_false,reduceCtorEq];try rfl
     exact ⟨retV HE,f12.b⟩
    have Ffk6:=Lib.hid fk6;clear fk6
    cases fk7:decide (hi ≤ (64 - size))
    case false=>
     have Ffk7:=Lib.hid fk7;clear fk7
     refine go_reg [] [] [some (.int .i64 lo),oT,oT,some (.int .i64 lo),some (.int .i64 hi),oT,oT,oT,some (.int .i64 hi),some (.int .i64 size),some (.int .i64 (64 - size)),oF,oF,oF] mo dL1 zL1 BL1 (by kernel_rfl) trivial (
      hk (fun cx=>cx.q (ex_mv rfl (cx.rq 0 sL1_0))) <|
      hk (fun cx=>cx.v (ex_le (y:=.tmp 13) rfl rfl (cx.u 0 rfl)) rfl (congrArg Value.bool Ffk5.out)) <|
      kmu 0 <|
      hk (fun cx=>cx.vy 0 (ex_mv rfl (cx.rq 0 sL1_0))) <|
      hk (fun cx=>cx.vy 0 (ex_mv rfl (cx.rq 1 sL1_1))) <|
      hk (fun cx=>cx.vy 2 (ex_le (x:=.tmp 16) (y:=.tmp 17) rfl (cx.u 0 rfl) (cx.u 1 rfl)) (congrArg Value.bool Ffk6.out)) <|
      hk (fun cx=>cx.q (ex_pt rfl (cx.u 0 rfl) (cx.u 1 rfl))) <|
      kmu 0 <|
      hk (fun cx=>cx.vy 0 (ex_mv rfl (cx.rq 1 sL1_1))) <|
      hk (fun cx=>cx.vy 0 (ex_mv rfl (cx.rq 2 sL1_2))) <|
      hk (fun cx=>cx.vy 1 (ex_sub (y:=.tmp 22) rfl rfl (cx.u 0 rfl)) (congrArg (Value.int .i64) (sub64 hbI))) <|
      hk (fun cx=>cx.vy 2 (ex_le (x:=.tmp 21) (y:=.tmp 23) rfl (cx.u 0 rfl) (cx.u 1 rfl)) (congrArg Value.bool Ffk7.out)) <|
      hk (fun cx=>cx.q (ex_pt rfl (cx.u 0 rfl) (cx.u 1 rfl))) <|
      kmu 0 <|
      hn) ?_
     intro a13 w13 f13
     refine wp_ret ?_
     try simp only [Exit.inBlock,Exit.then]
     refine bodyPost_ret (res_t (fn:=Try.f30) rfl (f13.v 13 rfl rfl rfl)) f13.d ?_
     have HE:(.bool false:Value)=.bool (withinB lo hi size):=by unfold withinB;simp only [ hbI,Ffk5.out,Ffk6.out,Ffk7.out,Bool.true_and,Bool.and_true,Bool.false_and,Bool.and_false,Bool.or_false,Bool.false_or,Bool.true_or,Bool.or_true,Bool.not_true,Bool.not_false,if_true,if_false,Bool.false_eq_true,Bool.true_eq_false,reduceCtorEq];try rfl
     exact ⟨retV HE,f13.b⟩
    have Ffk7:=Lib.hid fk7;clear fk7
    refine go_reg [] [] [some (.int .i64 lo),oT,oT,some (.int .i64 lo),some (.int .i64 hi),oT,oT,oT,some (.int .i64 hi),some (.int .i64 size),some (.int .i64 (64 - size)),oT,oT,oT] mo dL1 zL1 BL1 (by kernel_rfl) trivial (
     hk (fun cx=>cx.q (ex_mv rfl (cx.rq 0 sL1_0))) <|
     hk (fun cx=>cx.v (ex_le (y:=.tmp 13) rfl rfl (cx.u 0 rfl)) rfl (congrArg Value.bool Ffk5.out)) <|
     kmu 0 <|
     hk (fun cx=>cx.vy 0 (ex_mv rfl (cx.rq 0 sL1_0))) <|
     hk (fun cx=>cx.vy 0 (ex_mv rfl (cx.rq 1 sL1_1))) <|
     hk (fun cx=>cx.vy 2 (ex_le (x:=.tmp 16) (y:=.tmp 17) rfl (cx.u 0 rfl) (cx.u 1 rfl)) (congrArg Value.bool Ffk6.out)) <|
     hk (fun cx=>cx.q (ex_pt rfl (cx.u 0 rfl) (cx.u 1 rfl))) <|
     kmu 0 <|
     hk (fun cx=>cx.vy 0 (ex_mv rfl (cx.rq 1 sL1_1))) <|
     hk (fun cx=>cx.vy 0 (ex_mv rfl (cx.rq 2 sL1_2))) <|
     hk (fun cx=>cx.vy 1 (ex_sub (y:=.tmp 22) rfl rfl (cx.u 0 rfl)) (congrArg (Value.int .i64) (sub64 hbI))) <|
     hk (fun cx=>cx.vy 2 (ex_le (x:=.tmp 21) (y:=.tmp 23) rfl (cx.u 0 rfl) (cx.u 1 rfl)) (congrArg Value.bool Ffk7.out)) <|
     hk (fun cx=>cx.q (ex_pt rfl (cx.u 0 rfl) (cx.u 1 rfl))) <|
     kmu 0 <|
     hn) ?_
    intro a14 w14 f14
    refine wp_ret ?_
    try simp only [Exit.inBlock,Exit.then]
    refine bodyPost_ret (res_t (fn:=Try.f30) rfl (f14.v 13 rfl rfl rfl)) f14.d ?_
    have HE:(.bool true:Value)=.bool (withinB lo hi size):=by unfold withinB;simp only [ hbI,Ffk5.out,Ffk6.out,Ffk7.out,Bool.true_and,Bool.and_true,Bool.false_and,Bool.and_false,Bool.or_false,Bool.false_or,Bool.true_or,Bool.or_true,Bool.not_true,Bool.not_false,if_true,if_false,Bool.false_eq_true,Bool.true_eq_false,reduceCtorEq];try rfl
    exact ⟨retV HE,f14.b⟩
  replace sL1_8:aL1.tmps.getD 8 undef=.bool false:=sL1_8
  refine wp_cond_false sL1_8 ?_
  refine wp_skip ?_
  refine wp_seq ?_
  refine go_reg [] [] [oF] mo dL1 zL1 BL1 (by kernel_rfl) trivial (
   hk (fun cx=>cx.q (ex_as rfl rfl)) <|
   hn) ?_
  intro a15 w15 f15
  refine wp_ret ?_
  try simp only [Exit.inBlock,Exit.then]
  refine bodyPost_ret (res_t (fn:=Try.f30) rfl (f15.v 0 rfl rfl rfl)) f15.d ?_
  have HE:(.bool false:Value)=.bool (withinB lo hi size):=by unfold withinB;simp only [ hbI,Bool.true_and,Bool.and_true,Bool.false_and,Bool.and_false,Bool.or_false,Bool.false_or,Bool.true_or,Bool.or_true,Bool.not_true,Bool.not_false,if_true,if_false,Bool.false_eq_true,Bool.true_eq_false,reduceCtorEq];try rfl
  exact ⟨retV HE,f15.b⟩
set_option maxHeartbeats 4000000 in
theorem whole_n (lo hi size:Int) (W:World) (hlo0:0 ≤ lo) (hlo1:lo < 9223372036854775808):Calls Try.prog 31 #[.int .i64 lo,.int .i64 hi,.int .i64 size] W fun e w'=>e=.returned (.tuple #[.int .i64 (exN lo hi size),.bool (exactB lo hi size)]) ∧ Below W.heap.size W w':=by
  refine calls_abs Try.func31 rfl (Nat.le_of_ble_eq_true rfl) ?_
  intro a0 d0 z0 h0
  replace z0:a0.tmps.size=25:=z0
  have s0_0:a0.tmps.getD 0 undef=.int .i64 lo:=h0 0 (Nat.le_of_ble_eq_true rfl)
  have s1_0:a0.tmps.getD 1 undef=.int .i64 hi:=h0 1 (Nat.le_of_ble_eq_true rfl)
  have s2_0:a0.tmps.getD 2 undef=.int .i64 size:=h0 2 (Nat.le_of_ble_eq_true rfl)
  refine wp_seq ?_
  refine go_reg [] [] [some (.int .i64 0),oF] mo d0 z0 (Below.refl _ _) (by kernel_rfl) trivial (
   hk (fun cx=>cx.q (ex_as rfl rfl)) <|
   hk (fun cx=>cx.q (ex_as rfl rfl)) <|
   hn) ?_
  intro a1 w1 f1
  refine wp_seq ?_
  have s0_1:=f1.q 0 s0_0
  refine go_reg [] [] [some (.int .i64 lo),some (.int .i64 (lo / 8)),some (.int .i64 (lo / 8))] mo f1.d f1.z f1.b (by kernel_rfl) trivial (
   hk (fun cx=>cx.q (ex_mv rfl (cx.rq 0 s0_1))) <|
   hk (fun cx=>cx.q (ex_quo (x:=.tmp 9) rfl (cx.u 0 rfl) rfl hlo0 (by decide) hlo1)) <|
   kmu 0 <|
   hn) ?_
  intro a2 w2 f2
  refine wp_seq ?_
  refine wp_seq ?_
  cases fk1:size != 8
  case false=>
   have Ffk1:=Lib.hid fk1;clear fk1
   cases fk2:lo != hi
   case false=>
    have Ffk2:=Lib.hid fk2;clear fk2
    cases fk3:(lo / 8 * 8) != lo
    case false=>
     have Ffk3:=Lib.hid fk3;clear fk3
     have s2_2:=f2.q 2 (f1.q 2 s2_0)
     have s0_3:=f2.q 0 s0_1
     have s1_4:=f2.q 1 (f1.q 1 s1_0)
     refine go_reg [] [] [some (.int .i64 size),oF,oF,some (.int .i64 lo),some (.int .i64 hi),oF,oF,oF,some (.int .i64 (lo / 8)),some (.int .i64 (lo / 8 * 8)),some (.int .i64 lo),oF,oF] mo f2.d f2.z f2.b (by kernel_rfl) trivial (
      hk (fun cx=>cx.q (ex_mv rfl (cx.rq 2 s2_2))) <|
      hk (fun cx=>cx.v (ex_ne (x:=.tmp 11) rfl (cx.u 0 rfl) rfl) rfl (congrArg Value.bool Ffk1.out)) <|
      kmu 0 <|
      hk (fun cx=>cx.vy 0 (ex_mv rfl (cx.rq 0 s0_3))) <|
      hk (fun cx=>cx.vy 0 (ex_mv rfl (cx.rq 1 s1_4))) <|
      hk (fun cx=>cx.vy 2 (ex_ne (x:=.tmp 14) (y:=.tmp 15) rfl (cx.u 0 rfl) (cx.u 1 rfl)) (congrArg Value.bool Ffk2.out)) <|
      hk (fun cx=>cx.q (ex_pf rfl (cx.u 0 rfl) (cx.u 1 rfl))) <|
      kmu 0 <|
      hk (fun cx=>cx.vy 0 (ex_mv rfl (cx.rq 8 (f2.v 2 rfl rfl rfl)))) <|
      hk (fun cx=>cx.vy 1 (ex_mul (x:=.tmp 19) rfl (cx.u 0 rfl) rfl) (congrArg (Value.int .i64) (by rw [IntKind.wrap_i64];omega))) <|
      hk (fun cx=>cx.vy 0 (ex_mv rfl (cx.rq 0 s0_3))) <|
      hk (fun cx=>cx.vy 2 (ex_ne (x:=.tmp 20) (y:=.tmp 21) rfl (cx.u 0 rfl) (cx.u 1 rfl)) (congrArg Value.bool Ffk3.out)) <|
      hk (fun cx=>cx.q (ex_pf rfl (cx.u 0 rfl) (cx.u 1 rfl))) <|
      hn) ?_
     intro a3 w3 f3
     refine wp_cond_false (f3.v 12 rfl rfl rfl) ?_
     refine wp_skip ?_
     refine wp_seq ?_
     have s8_5:=f3.q 8 (f2.v 2 rfl rfl rfl)
     refine go_reg [] [] [some (.int .i64 (lo / 8)),some (.int .i64 (lo / 8)),oT] mo f3.d f3.z f3.b (by kernel_rfl) trivial (
      hk (fun cx=>cx.q (ex_mv rfl (cx.rq 8 s8_5))) <|
      kmu 0 <|
      hk (fun cx=>cx.q (ex_as rfl rfl)) <|
      hn) ?_
     intro a4 w4 f4
     refine wp_ret ?_
     try simp only [Exit.inBlock,Exit.then]
     refine bodyPost_ret (res_tt (fn:=Try.f31) rfl (f4.v 1 rfl rfl rfl) (f4.v 2 rfl rfl rfl)) f4.d ?_
     have h8:=Ffk1.out
     simp only [bne_iff_ne,ne_eq,bne_eq_false_iff_eq] at h8
     have hl:=Ffk2.out
     simp only [bne_iff_ne,ne_eq,bne_eq_false_iff_eq] at hl
     have hm:=Ffk3.out
     simp only [bne_iff_ne,ne_eq,bne_eq_false_iff_eq] at hm
     have hE:exactB lo hi size=true:=by
       unfold exactB
       simp only [Bool.and_eq_true,beq_iff_eq];omega
     have HE:(.tuple #[.int .i64 (lo / 8),.bool true]:Value)=.tuple #[.int .i64 (exN lo hi size),.bool (exactB lo hi size)]:=by unfold exN;rw [hE];simp only [if_true,if_false,Bool.false_eq_true]
     exact ⟨retV HE,f4.b⟩
    have Ffk3:=Lib.hid fk3;clear fk3
    have s2_6:=f2.q 2 (f1.q 2 s2_0)
    have s0_7:=f2.q 0 s0_1
    have s1_8:=f2.q 1 (f1.q 1 s1_0)
    refine go_reg [] [] [some (.int .i64 size),oF,oF,some (.int .i64 lo),some (.int .i64 hi),oF,oF,oF,some (.int .i64 (lo / 8)),some (.int .i64 (lo / 8 * 8)),some (.int .i64 lo),oT,oT] mo f2.d f2.z f2.b (by kernel_rfl) trivial (
     hk (fun cx=>cx.q (ex_mv rfl (cx.rq 2 s2_6))) <|
     hk (fun cx=>cx.v (ex_ne (x:=.tmp 11) rfl (cx.u 0 rfl) rfl) rfl (congrArg Value.bool Ffk1.out)) <|
     kmu 0 <|
     hk (fun cx=>cx.vy 0 (ex_mv rfl (cx.rq 0 s0_7))) <|
     hk (fun cx=>cx.vy 0 (ex_mv rfl (cx.rq 1 s1_8))) <|
     hk (fun cx=>cx.vy 2 (ex_ne (x:=.tmp 14) (y:=.tmp 15) rfl (cx.u 0 rfl) (cx.u 1 rfl)) (congrArg Value.bool Ffk2.out)) <|
     hk (fun cx=>cx.q (ex_pf rfl (cx.u 0 rfl) (cx.u 1 rfl))) <|
     kmu 0 <|
     hk (fun cx=>cx.vy 0 (ex_mv rfl (cx.rq 8 (f2.v 2 rfl rfl rfl)))) <|
     hk (fun cx=>cx.vy 1 (ex_mul (x:=.tmp 19) rfl (cx.u 0 rfl) rfl) (congrArg (Value.int .i64) (by rw [IntKind.wrap_i64];omega))) <|
     hk (fun cx=>cx.vy 0 (ex_mv rfl (cx.rq 0 s0_7))) <|
     hk (fun cx=>cx.vy 2 (ex_ne (x:=.tmp 20) (y:=.tmp 21) rfl (cx.u 0 rfl) (cx.u 1 rfl)) (congrArg Value.bool Ffk3.out)) <|
     hk (fun cx=>cx.q (ex_pf rfl (cx.u 0 rfl) (cx.u 1 rfl))) <|
     hn) ?_
    intro a5 w5 f5
    refine wp_cond_true (f5.v 12 rfl rfl rfl) ?_
    refine wp_seq ?_
    refine go_reg [] [] [some (.int .i64 0),oF] mo f5.d f5.z f5.b (by kernel_rfl) trivial (
     hk (fun cx=>cx.q (ex_as rfl rfl)) <|
     hk (fun cx=>cx.q (ex_as rfl rfl)) <|
     hn) ?_
    intro a6 w6 f6
    refine wp_ret ?_
    try simp only [Exit.inBlock,Exit.then]
    refine bodyPost_ret (res_tt (fn:=Try.f31) rfl (f6.v 0 rfl rfl rfl) (f6.v 1 rfl rfl rfl)) f6.d ?_
    have h8:=Ffk1.out
    simp only [bne_iff_ne,ne_eq,bne_eq_false_iff_eq] at h8
    have hl:=Ffk2.out
    simp only [bne_iff_ne,ne_eq,bne_eq_false_iff_eq] at hl
    have hm:=Ffk3.out
    simp only [bne_iff_ne,ne_eq,bne_eq_false_iff_eq] at hm
    have hE:exactB lo hi size=false:=by
      unfold exactB
      rw [Bool.eq_false_iff];intro hh;simp only [Bool.and_eq_true,beq_iff_eq] at hh;omega
    have HE:(.tuple #[.int .i64 0,.bool false]:Value)=.tuple #[.int .i64 (exN lo hi size),.bool (exactB lo hi size)]:=by unfold exN;rw [hE];simp only [if_true,if_false,Bool.false_eq_true]
    exact ⟨retV HE,f6.b⟩
   have Ffk2:=Lib.hid fk2;clear fk2
   have s2_9:=f2.q 2 (f1.q 2 s2_0)
   have s0_10:=f2.q 0 s0_1
   have s1_11:=f2.q 1 (f1.q 1 s1_0)
   refine go_reg [] [] [some (.int .i64 size),oF,oF,some (.int .i64 lo),some (.int .i64 hi),oT,oT,oT,oU,oU,oU,oU,oT] mo f2.d f2.z f2.b (by kernel_rfl) trivial (
    hk (fun cx=>cx.q (ex_mv rfl (cx.rq 2 s2_9))) <|
    hk (fun cx=>cx.v (ex_ne (x:=.tmp 11) rfl (cx.u 0 rfl) rfl) rfl (congrArg Value.bool Ffk1.out)) <|
    kmu 0 <|
    hk (fun cx=>cx.vy 0 (ex_mv rfl (cx.rq 0 s0_10))) <|
    hk (fun cx=>cx.vy 0 (ex_mv rfl (cx.rq 1 s1_11))) <|
    hk (fun cx=>cx.vy 2 (ex_ne (x:=.tmp 14) (y:=.tmp 15) rfl (cx.u 0 rfl) (cx.u 1 rfl)) (congrArg Value.bool Ffk2.out)) <|
    hk (fun cx=>cx.q (ex_pf rfl (cx.u 0 rfl) (cx.u 1 rfl))) <|
    kmu 0 <|
    kno 0 <|
    kno 1 <|
    kno 0 <|
    kno 2 <|
    hk (fun cx=>cx.q (ex_pt rfl (cx.u 0 rfl) rfl)) <|
    hn) ?_
   intro a7 w7 f7
   refine wp_cond_true (f7.v 12 rfl rfl rfl) ?_
   refine wp_seq ?_
   refine go_reg [] [] [some (.int .i64 0),oF] mo f7.d f7.z f7.b (by kernel_rfl) trivial (
    hk (fun cx=>cx.q (ex_as rfl rfl)) <|
    hk (fun cx=>cx.q (ex_as rfl rfl)) <|
    hn) ?_
   intro a8 w8 f8
   refine wp_ret ?_
   try simp only [Exit.inBlock,Exit.then]
   refine bodyPost_ret (res_tt (fn:=Try.f31) rfl (f8.v 0 rfl rfl rfl) (f8.v 1 rfl rfl rfl)) f8.d ?_
   have h8:=Ffk1.out
   simp only [bne_iff_ne,ne_eq,bne_eq_false_iff_eq] at h8
   have hl:=Ffk2.out
   simp only [bne_iff_ne,ne_eq,bne_eq_false_iff_eq] at hl
   have hE:exactB lo hi size=false:=by
     unfold exactB
     rw [Bool.eq_false_iff];intro hh;simp only [Bool.and_eq_true,beq_iff_eq] at hh;omega
   have HE:(.tuple #[.int .i64 0,.bool false]:Value)=.tuple #[.int .i64 (exN lo hi size),.bool (exactB lo hi size)]:=by unfold exN;rw [hE];simp only [if_true,if_false,Bool.false_eq_true]
   exact ⟨retV HE,f8.b⟩
  have Ffk1:=Lib.hid fk1;clear fk1
  have s2_12:=f2.q 2 (f1.q 2 s2_0)
  refine go_reg [] [] [some (.int .i64 size),oT,oT,oU,oU,oU,oT,oT,oU,oU,oU,oU,oT] mo f2.d f2.z f2.b (by kernel_rfl) trivial (
   hk (fun cx=>cx.q (ex_mv rfl (cx.rq 2 s2_12))) <|
   hk (fun cx=>cx.v (ex_ne (x:=.tmp 11) rfl (cx.u 0 rfl) rfl) rfl (congrArg Value.bool Ffk1.out)) <|
   kmu 0 <|
   kno 0 <|
   kno 0 <|
   kno 2 <|
   hk (fun cx=>cx.q (ex_pt rfl (cx.u 0 rfl) rfl)) <|
   kmu 0 <|
   kno 0 <|
   kno 1 <|
   kno 0 <|
   kno 2 <|
   hk (fun cx=>cx.q (ex_pt rfl (cx.u 0 rfl) rfl)) <|
   hn) ?_
  intro a9 w9 f9
  refine wp_cond_true (f9.v 12 rfl rfl rfl) ?_
  refine wp_seq ?_
  refine go_reg [] [] [some (.int .i64 0),oF] mo f9.d f9.z f9.b (by kernel_rfl) trivial (
   hk (fun cx=>cx.q (ex_as rfl rfl)) <|
   hk (fun cx=>cx.q (ex_as rfl rfl)) <|
   hn) ?_
  intro a10 w10 f10
  refine wp_ret ?_
  try simp only [Exit.inBlock,Exit.then]
  refine bodyPost_ret (res_tt (fn:=Try.f31) rfl (f10.v 0 rfl rfl rfl) (f10.v 1 rfl rfl rfl)) f10.d ?_
  have h8:=Ffk1.out
  simp only [bne_iff_ne,ne_eq,bne_eq_false_iff_eq] at h8
  have hE:exactB lo hi size=false:=by
    unfold exactB
    rw [Bool.eq_false_iff];intro hh;simp only [Bool.and_eq_true,beq_iff_eq] at hh;omega
  have HE:(.tuple #[.int .i64 0,.bool false]:Value)=.tuple #[.int .i64 (exN lo hi size),.bool (exactB lo hi size)]:=by unfold exN;rw [hE];simp only [if_true,if_false,Bool.false_eq_true]
  exact ⟨retV HE,f10.b⟩
end Go.Proofs.Ytcnneeimkcnjfaa.Sta
