import Derived.Test.YtcnneeimkcnjfaaStD
namespace Go.Proofs.Ytcnneeimkcnjfaa.Sta
open Go.RowKit Bnd Knw
set_option linter.unusedVariables false
set_option linter.unusedSimpArgs false
set_option linter.unnecessarySimpa false
set_option maxRecDepth 100000
theorem faStE35_0_0 (g:Nat) (w:World):(Instr.fieldAt 35 (.pointer (some ⟨g,0,none⟩)) 0).run Try.prog w=.ok (.pointer (some ⟨g,0,none⟩)) w:=by simp [go_sem]
theorem faStE35_1_0 (g:Nat) (w:World):(Instr.fieldAt 35 (.pointer (some ⟨g,0,none⟩)) 1).run Try.prog w=.ok (.pointer (some ⟨g,99,none⟩)) w:=by simp [go_sem]
set_option maxHeartbeats 4000000 in
theorem tmay_n (a:St) (W:World):Calls Try.prog 15 #[.agg (stC a)] W fun e w'=>e=.returned (.bool (okS a)) ∧ Below W.heap.size W w':=by
  refine calls_abs Try.func15 rfl (Nat.le_of_ble_eq_true rfl) ?_
  intro a0 d0 z0 h0
  replace z0:a0.tmps.size=32:=z0
  have s0_0:a0.tmps.getD 0 undef=.agg (stC a):=h0 0 (Nat.le_of_ble_eq_true rfl)
  refine wp_seq ?_
  refine go_reg [] [⟨0,1,35,(stC a),none,#[]⟩] [none,oF] mo d0 z0 (Below.refl _ _) (by kernel_rfl) trivial (
   hk (fun cx=>cx.al (wn rfl) 0 rfl (ex_box rfl (cx.rq 0 s0_0) rfl) rfl rfl rfl rfl rfl trivial) <|
   hk (fun cx=>cx.q (ex_as rfl rfl)) <|
   hn) ?_
  intro a1 w1 f1
  obtain ⟨g1,u_g1,q_g1,b_g1⟩:=f1.al.1
  refine wp_seq ?_
  refine wp_seq ?_
  refine go_reg [] [] [some (.int .i64 0)] mo f1.d f1.z f1.b (by kernel_rfl) trivial (
   hk (fun cx=>cx.q (ex_mv rfl rfl)) <|
   hn) ?_
  intro a2 w2 f2
  refine wp_block ?_
  have s1_1:=f2.q 1 u_g1
  have b_g1_2:=f2.k b_g1
  refine wp_count 11 (fun k1 aI wI=>allN (regP a) k1=true ∧ Mid 32 W [(1,.pointer (some ⟨g1,0,none⟩)),(5,.int .i64 (k1:Int))] [(g1,35,(stC a))] aI wI) ⟨rfl,f2.d,f2.z,f2.b,⟨s1_1,(f2.v 0 rfl rfl rfl),trivial⟩,⟨b_g1_2,trivial⟩⟩ ?_
  intro k1 aL1 wL1 hlek1 hI1
  obtain ⟨hp1,dL1,zL1,BL1,⟨sL1_1,sL1_5,-⟩,⟨bL1_g1,-⟩⟩:=hI1
  replace sL1_1:aL1.tmps.getD 1 undef=.pointer (some ⟨g1,0,none⟩):=sL1_1
  replace sL1_5:aL1.tmps.getD 5 undef=.int .i64 (k1:Int):=sL1_5
  replace bL1_g1:wL1.heap[g1]?=some (.cells (stC a) 35 (0,0)):=bL1_g1
  refine wp_seq ?_
  cases fk1:decide ((k1:Int) < 11)
  case true=>
   have Ffk1:=Lib.hid fk1;clear fk1
   have hlt1:k1 < 11:=by have:=Ffk1.out;simp only [decide_eq_true_eq] at this;omega
   refine go_reg [] [] [oT] mo dL1 zL1 BL1 (by kernel_rfl) trivial (
    hk (fun cx=>cx.v (ex_lt (x:=.tmp 5) rfl (cx.rq 5 sL1_5) rfl) rfl (congrArg Value.bool Ffk1.out)) <|
    hn) ?_
   intro a3 w3 f3
   refine wp_seq ?_
   refine wp_cond_true (f3.v 0 rfl rfl rfl) ?_
   refine wp_skip ?_
   refine wp_seq ?_
   refine wp_block ?_
   refine wp_seq ?_
   have s5_3:=f3.q 5 sL1_5
   refine go_reg [] [] [some (.int .i64 (k1:Int)),some (.int .i64 (k1:Int))] mo f3.d f3.z f3.b (by kernel_rfl) trivial (
    hk (fun cx=>cx.q (ex_mv rfl (cx.rq 5 s5_3))) <|
    kmu 0 <|
    hn) ?_
   intro a4 w4 f4
   refine wp_seq ?_
   cases fk2:Ty.okB (a k1)
   case false=>
    have Ffk2:=Lib.hid fk2;clear fk2
    have b_g1_4:=f4.k (f3.k bL1_g1)
    have s1_5:=f4.q 1 (f3.q 1 sL1_1)
    refine go_reg [bx g1 35 (stC a)] [] [some (.int .i64 (k1:Int)),some (pt g1 0),some (pt g1 (9 * k1)),some (.agg (tyC (a k1))),oF,oT] mo f4.d f4.z f4.b (by kernel_rfl) ⟨b_g1_4,trivial⟩ (
     hk (fun cx=>cx.q (ex_mv rfl (cx.rq 3 (f4.v 1 rfl rfl rfl)))) <|
     hk (fun cx=>cx.q (ex_fa rfl (cx.rq 1 s1_5) (faStE35_0_0 _ _))) <|
     hk (fun cx=>cx.v (ex_ia (n:=11) (sz:=9) rfl (cx.u 0 rfl) (cx.u 1 rfl) Try.underlying32 (by kernel_rfl) (by omega) (by omega) (by omega)) rfl rfl) <|
     hk (fun cx=>cx.v (ldEl (by omega) rfl (cx.u 0 rfl) (cx.rn 0 rfl)) rfl rfl) <|
     hc (fun _ _ wx cx=>cx.c rfl (args1 (cx.u 0 rfl)) Try.func17 (by decide +kernel) (ttype_n (a k1) wx) rfl (congrArg Value.bool Ffk2.out)) <|
     hk (fun cx=>cx.q (ex_not (x:=.tmp 12) rfl (cx.u 0 rfl))) <|
     hn) ?_
    intro a5 w5 f5
    refine wp_cond_true (f5.v 5 rfl rfl rfl) ?_
    refine wp_seq ?_
    refine go_reg [] [] [oF] mo f5.d f5.z f5.b (by kernel_rfl) trivial (
     hk (fun cx=>cx.q (ex_as rfl rfl)) <|
     hn) ?_
    intro a6 w6 f6
    refine wp_ret ?_
    try simp only [Exit.inBlock,Exit.then]
    refine bodyPost_ret (res_t (fn:=Try.f15) rfl (f6.v 0 rfl rfl rfl)) f6.d ?_
    have HN:=allN_no (p:=regP a) hlt1 (show regP a k1=false from by show Ty.okB (a k1)=_;simp only [Ffk2.out,Bool.not_true,Bool.not_false,Bool.false_and,Bool.true_and,Bool.and_false,Bool.and_true,Bool.or_true,Bool.true_or,Bool.false_or,Bool.or_false])
    have HE:(.bool false:Value)=.bool (okS a):=by unfold okS;simp only [HN,Bool.and_false,Bool.false_and]
    exact ⟨retV HE,f6.b⟩
   have Ffk2:=Lib.hid fk2;clear fk2
   have b_g1_6:=f4.k (f3.k bL1_g1)
   have s1_7:=f4.q 1 (f3.q 1 sL1_1)
   refine go_reg [bx g1 35 (stC a)] [] [some (.int .i64 (k1:Int)),some (pt g1 0),some (pt g1 (9 * k1)),some (.agg (tyC (a k1))),oT,oF] mo f4.d f4.z f4.b (by kernel_rfl) ⟨b_g1_6,trivial⟩ (
    hk (fun cx=>cx.q (ex_mv rfl (cx.rq 3 (f4.v 1 rfl rfl rfl)))) <|
    hk (fun cx=>cx.q (ex_fa rfl (cx.rq 1 s1_7) (faStE35_0_0 _ _))) <|
    hk (fun cx=>cx.v (ex_ia (n:=11) (sz:=9) rfl (cx.u 0 rfl) (cx.u 1 rfl) Try.underlying32 (by kernel_rfl) (by omega) (by omega) (by omega)) rfl rfl) <|
    hk (fun cx=>cx.v (ldEl (by omega) rfl (cx.u 0 rfl) (cx.rn 0 rfl)) rfl rfl) <|
    hc (fun _ _ wx cx=>cx.c rfl (args1 (cx.u 0 rfl)) Try.func17 (by decide +kernel) (ttype_n (a k1) wx) rfl (congrArg Value.bool Ffk2.out)) <|
    hk (fun cx=>cx.q (ex_not (x:=.tmp 12) rfl (cx.u 0 rfl))) <|
    hn) ?_
   intro a7 w7 f7
   refine wp_cond_false (f7.v 5 rfl rfl rfl) ?_
   refine wp_skip ?_
   have s5_8:=f7.q 5 (f4.q 5 s5_3)
   refine go_reg [] [] [some (.int .i64 ((k1 + 1:Nat):Int)),some (.int .i64 ((k1 + 1:Nat):Int))] mo f7.d f7.z f7.b (by kernel_rfl) trivial (
    hk (fun cx=>cx.v (ex_add (x:=.tmp 5) rfl (cx.un 1 rfl rfl (by kernel_rfl) s5_8) rfl) rfl (congrArg (Value.int .i64) (wrapk hlt1 (by decide)))) <|
    kmu 0 <|
    hn) ?_
   intro a8 w8 f8
   have s1_9:=f8.q 1 (f7.q 1 s1_7)
   have b_g1_10:=f8.k (f7.k b_g1_6)
   exact ⟨hlt1,allN_step (p:=regP a) hp1 (show regP a k1=true from by show Ty.okB (a k1)=_;simp only [Ffk2.out,Bool.not_true,Bool.not_false,Bool.false_and,Bool.true_and,Bool.and_false,Bool.and_true,Bool.or_true,Bool.true_or,Bool.false_or,Bool.or_false]),f8.d,f8.z,f8.b,⟨s1_9,(f8.v 1 rfl rfl rfl),trivial⟩,⟨b_g1_10,trivial⟩⟩
  have Ffk1:=Lib.hid fk1;clear fk1
  have hge1:k1=11:=by have:=Ffk1.out;simp only [decide_eq_false_iff_not] at this;omega
  refine go_reg [] [] [oF] mo dL1 zL1 BL1 (by kernel_rfl) trivial (
   hk (fun cx=>cx.v (ex_lt (x:=.tmp 5) rfl (cx.rq 5 sL1_5) rfl) rfl (congrArg Value.bool Ffk1.out)) <|
   hn) ?_
  intro a9 w9 f9
  refine wp_seq ?_
  refine wp_cond_false (f9.v 0 rfl rfl rfl) ?_
  refine wp_exit ?_
  simp only [Exit.then,Exit.inBlock,if_true]
  refine wp_seq ?_
  refine wp_seq ?_
  refine go_reg [] [] [some (.int .i64 0)] mo f9.d f9.z f9.b (by kernel_rfl) trivial (
   hk (fun cx=>cx.q (ex_mv rfl rfl)) <|
   hn) ?_
  intro a10 w10 f10
  refine wp_block ?_
  have s1_11:=f10.q 1 (f9.q 1 sL1_1)
  have b_g1_12:=f10.k (f9.k bL1_g1)
  refine wp_count 8 (fun k2 aI wI=>allN (sltP a) k2=true ∧ Mid 32 W [(1,.pointer (some ⟨g1,0,none⟩)),(15,.int .i64 (k2:Int))] [(g1,35,(stC a))] aI wI) ⟨rfl,f10.d,f10.z,f10.b,⟨s1_11,(f10.v 0 rfl rfl rfl),trivial⟩,⟨b_g1_12,trivial⟩⟩ ?_
  intro k2 aL2 wL2 hlek2 hI2
  obtain ⟨hp2,dL2,zL2,BL2,⟨sL2_1,sL2_15,-⟩,⟨bL2_g1,-⟩⟩:=hI2
  replace sL2_1:aL2.tmps.getD 1 undef=.pointer (some ⟨g1,0,none⟩):=sL2_1
  replace sL2_15:aL2.tmps.getD 15 undef=.int .i64 (k2:Int):=sL2_15
  replace bL2_g1:wL2.heap[g1]?=some (.cells (stC a) 35 (0,0)):=bL2_g1
  refine wp_seq ?_
  cases fk3:decide ((k2:Int) < 8)
  case true=>
   have Ffk3:=Lib.hid fk3;clear fk3
   have hlt2:k2 < 8:=by have:=Ffk3.out;simp only [decide_eq_true_eq] at this;omega
   refine go_reg [] [] [oT] mo dL2 zL2 BL2 (by kernel_rfl) trivial (
    hk (fun cx=>cx.v (ex_lt (x:=.tmp 15) rfl (cx.rq 15 sL2_15) rfl) rfl (congrArg Value.bool Ffk3.out)) <|
    hn) ?_
   intro a11 w11 f11
   refine wp_seq ?_
   refine wp_cond_true (f11.v 0 rfl rfl rfl) ?_
   refine wp_skip ?_
   refine wp_seq ?_
   refine wp_block ?_
   refine wp_seq ?_
   have s15_13:=f11.q 15 sL2_15
   refine go_reg [] [] [some (.int .i64 (k2:Int)),some (.int .i64 (k2:Int))] mo f11.d f11.z f11.b (by kernel_rfl) trivial (
    hk (fun cx=>cx.q (ex_mv rfl (cx.rq 15 s15_13))) <|
    kmu 0 <|
    hn) ?_
   intro a12 w12 f12
   refine wp_seq ?_
   cases fk4:Ty.unB (a (11 + k2))
   case false=>
    have Ffk4:=Lib.hid fk4;clear fk4
    cases fk5:Ty.okB (a (11 + k2))
    case false=>
     have Ffk5:=Lib.hid fk5;clear fk5
     have b_g1_14:=f12.k (f11.k bL2_g1)
     have s1_15:=f12.q 1 (f11.q 1 sL2_1)
     refine go_reg [bx g1 35 (stC a)] [] [some (.int .i64 (k2:Int)),some (pt g1 99),some (pt g1 (9 * (11 + k2))),some (.agg (tyC (a (11 + k2)))),oF,oF,some (.int .i64 (k2:Int)),some (pt g1 99),some (pt g1 (9 * (11 + k2))),some (.agg (tyC (a (11 + k2)))),oF,oT,oT] mo f12.d f12.z f12.b (by kernel_rfl) ⟨b_g1_14,trivial⟩ (
      hk (fun cx=>cx.q (ex_mv rfl (cx.rq 4 (f12.v 1 rfl rfl rfl)))) <|
      hk (fun cx=>cx.q (ex_fa rfl (cx.rq 1 s1_15) (faStE35_1_0 _ _))) <|
      hk (fun cx=>cx.v (ex_ia (n:=8) (sz:=9) rfl (cx.u 0 rfl) (cx.u 1 rfl) Try.underlying33 (by kernel_rfl) (by omega) (by omega) (by omega)) rfl rfl) <|
      hk (fun cx=>cx.v (ldEl (by omega) rfl (cx.u 0 rfl) (cx.rn 0 rfl)) rfl rfl) <|
      hc (fun _ _ wx cx=>cx.c rfl (args1 (cx.u 0 rfl)) Try.func36 (by decide +kernel) (unset_n (a (11 + k2)) wx) rfl (congrArg Value.bool Ffk4.out)) <|
      kmu 0 <|
      hk (fun cx=>cx.vy 0 (ex_mv rfl (cx.rq 4 (f12.v 1 rfl rfl rfl)))) <|
      hk (fun cx=>cx.vy 0 (ex_fa rfl (cx.rq 1 s1_15) (faStE35_1_0 _ _))) <|
      hk (fun cx=>cx.vy 2 (ex_ia (n:=8) (sz:=9) rfl (cx.u 0 rfl) (cx.u 1 rfl) Try.underlying33 (by kernel_rfl) (by omega) (by omega) (by omega)) rfl) <|
      hk (fun cx=>cx.vy 1 (ldEl (by omega) rfl (cx.u 0 rfl) (cx.rn 0 rfl)) rfl) <|
      hc (fun _ _ wx cx=>cx.call (cx.wy rfl rfl rfl rfl (cx.u 1 rfl)) rfl rfl (args1 (cx.u 0 rfl)) Try.func17 (by decide +kernel) rfl (ttype_n (a (11 + k2)) wx) rfl rfl (congrArg Value.bool Ffk5.out) rfl) <|
      hk (fun cx=>cx.vy 1 (ex_not (x:=.tmp 28) rfl (cx.u 0 rfl))) <|
      hk (fun cx=>cx.q (ex_pf rfl (cx.u 0 rfl) (cx.u 1 rfl))) <|
      hn) ?_
     intro a13 w13 f13
     refine wp_cond_true (f13.v 12 rfl rfl rfl) ?_
     refine wp_seq ?_
     refine go_reg [] [] [oF] mo f13.d f13.z f13.b (by kernel_rfl) trivial (
      hk (fun cx=>cx.q (ex_as rfl rfl)) <|
      hn) ?_
     intro a14 w14 f14
     refine wp_ret ?_
     try simp only [Exit.inBlock,Exit.then]
     refine bodyPost_ret (res_t (fn:=Try.f15) rfl (f14.v 0 rfl rfl rfl)) f14.d ?_
     have HN:=allN_no (p:=sltP a) hlt2 (show sltP a k2=false from by show (!Ty.unB (a (11 + k2)) && Ty.okB (a (11 + k2)))=_;simp only [Ffk4.out,Ffk5.out,Bool.not_true,Bool.not_false,Bool.false_and,Bool.true_and,Bool.and_false,Bool.and_true,Bool.or_true,Bool.true_or,Bool.false_or,Bool.or_false])
     have HE:(.bool false:Value)=.bool (okS a):=by unfold okS;simp only [HN,Bool.and_false]
     exact ⟨retV HE,f14.b⟩
    have Ffk5:=Lib.hid fk5;clear fk5
    have b_g1_16:=f12.k (f11.k bL2_g1)
    have s1_17:=f12.q 1 (f11.q 1 sL2_1)
    refine go_reg [bx g1 35 (stC a)] [] [some (.int .i64 (k2:Int)),some (pt g1 99),some (pt g1 (9 * (11 + k2))),some (.agg (tyC (a (11 + k2)))),oF,oF,some (.int .i64 (k2:Int)),some (pt g1 99),some (pt g1 (9 * (11 + k2))),some (.agg (tyC (a (11 + k2)))),oT,oF,oF] mo f12.d f12.z f12.b (by kernel_rfl) ⟨b_g1_16,trivial⟩ (
     hk (fun cx=>cx.q (ex_mv rfl (cx.rq 4 (f12.v 1 rfl rfl rfl)))) <|
     hk (fun cx=>cx.q (ex_fa rfl (cx.rq 1 s1_17) (faStE35_1_0 _ _))) <|
     hk (fun cx=>cx.v (ex_ia (n:=8) (sz:=9) rfl (cx.u 0 rfl) (cx.u 1 rfl) Try.underlying33 (by kernel_rfl) (by omega) (by omega) (by omega)) rfl rfl) <|
     hk (fun cx=>cx.v (ldEl (by omega) rfl (cx.u 0 rfl) (cx.rn 0 rfl)) rfl rfl) <|
     hc (fun _ _ wx cx=>cx.c rfl (args1 (cx.u 0 rfl)) Try.func36 (by decide +kernel) (unset_n (a (11 + k2)) wx) rfl (congrArg Value.bool Ffk4.out)) <|
     kmu 0 <|
     hk (fun cx=>cx.vy 0 (ex_mv rfl (cx.rq 4 (f12.v 1 rfl rfl rfl)))) <|
     hk (fun cx=>cx.vy 0 (ex_fa rfl (cx.rq 1 s1_17) (faStE35_1_0 _ _))) <|
     hk (fun cx=>cx.vy 2 (ex_ia (n:=8) (sz:=9) rfl (cx.u 0 rfl) (cx.u 1 rfl) Try.underlying33 (by kernel_rfl) (by omega) (by omega) (by omega)) rfl) <|
     hk (fun cx=>cx.vy 1 (ldEl (by omega) rfl (cx.u 0 rfl) (cx.rn 0 rfl)) rfl) <|
     hc (fun _ _ wx cx=>cx.call (cx.wy rfl rfl rfl rfl (cx.u 1 rfl)) rfl rfl (args1 (cx.u 0 rfl)) Try.func17 (by decide +kernel) rfl (ttype_n (a (11 + k2)) wx) rfl rfl (congrArg Value.bool Ffk5.out) rfl) <|
     hk (fun cx=>cx.vy 1 (ex_not (x:=.tmp 28) rfl (cx.u 0 rfl))) <|
     hk (fun cx=>cx.q (ex_pf rfl (cx.u 0 rfl) (cx.u 1 rfl))) <|
     hn) ?_
    intro a15 w15 f15
    refine wp_cond_false (f15.v 12 rfl rfl rfl) ?_
    refine wp_skip ?_
    have s15_18:=f15.q 15 (f12.q 15 s15_13)
    refine go_reg [] [] [some (.int .i64 ((k2 + 1:Nat):Int)),some (.int .i64 ((k2 + 1:Nat):Int))] mo f15.d f15.z f15.b (by kernel_rfl) trivial (
     hk (fun cx=>cx.v (ex_add (x:=.tmp 15) rfl (cx.un 1 rfl rfl (by kernel_rfl) s15_18) rfl) rfl (congrArg (Value.int .i64) (wrapk hlt2 (by decide)))) <|
     kmu 0 <|
     hn) ?_
    intro a16 w16 f16
    have s1_19:=f16.q 1 (f15.q 1 s1_17)
    have b_g1_20:=f16.k (f15.k b_g1_16)
    exact ⟨hlt2,allN_step (p:=sltP a) hp2 (show sltP a k2=true from by show (!Ty.unB (a (11 + k2)) && Ty.okB (a (11 + k2)))=_;simp only [Ffk4.out,Ffk5.out,Bool.not_true,Bool.not_false,Bool.false_and,Bool.true_and,Bool.and_false,Bool.and_true,Bool.or_true,Bool.true_or,Bool.false_or,Bool.or_false]),f16.d,f16.z,f16.b,⟨s1_19,(f16.v 1 rfl rfl rfl),trivial⟩,⟨b_g1_20,trivial⟩⟩
   have Ffk4:=Lib.hid fk4;clear fk4
   have b_g1_21:=f12.k (f11.k bL2_g1)
   have s1_22:=f12.q 1 (f11.q 1 sL2_1)
   refine go_reg [bx g1 35 (stC a)] [] [some (.int .i64 (k2:Int)),some (pt g1 99),some (pt g1 (9 * (11 + k2))),some (.agg (tyC (a (11 + k2)))),oT,oT,oU,oU,oU,oU,oU,oU,oT] mo f12.d f12.z f12.b (by kernel_rfl) ⟨b_g1_21,trivial⟩ (
    hk (fun cx=>cx.q (ex_mv rfl (cx.rq 4 (f12.v 1 rfl rfl rfl)))) <|
    hk (fun cx=>cx.q (ex_fa rfl (cx.rq 1 s1_22) (faStE35_1_0 _ _))) <|
    hk (fun cx=>cx.v (ex_ia (n:=8) (sz:=9) rfl (cx.u 0 rfl) (cx.u 1 rfl) Try.underlying33 (by kernel_rfl) (by omega) (by omega) (by omega)) rfl rfl) <|
    hk (fun cx=>cx.v (ldEl (by omega) rfl (cx.u 0 rfl) (cx.rn 0 rfl)) rfl rfl) <|
    hc (fun _ _ wx cx=>cx.c rfl (args1 (cx.u 0 rfl)) Try.func36 (by decide +kernel) (unset_n (a (11 + k2)) wx) rfl (congrArg Value.bool Ffk4.out)) <|
    kmu 0 <|
    kno 0 <|
    kno 0 <|
    kno 2 <|
    kno 1 <|
    kno 1 <|
    kno 1 <|
    hk (fun cx=>cx.q (ex_pt rfl (cx.u 0 rfl) rfl)) <|
    hn) ?_
   intro a17 w17 f17
   refine wp_cond_true (f17.v 12 rfl rfl rfl) ?_
   refine wp_seq ?_
   refine go_reg [] [] [oF] mo f17.d f17.z f17.b (by kernel_rfl) trivial (
    hk (fun cx=>cx.q (ex_as rfl rfl)) <|
    hn) ?_
   intro a18 w18 f18
   refine wp_ret ?_
   try simp only [Exit.inBlock,Exit.then]
   refine bodyPost_ret (res_t (fn:=Try.f15) rfl (f18.v 0 rfl rfl rfl)) f18.d ?_
   have HN:=allN_no (p:=sltP a) hlt2 (show sltP a k2=false from by show (!Ty.unB (a (11 + k2)) && Ty.okB (a (11 + k2)))=_;simp only [Ffk4.out,Bool.not_true,Bool.not_false,Bool.false_and,Bool.true_and,Bool.and_false,Bool.and_true,Bool.or_true,Bool.true_or,Bool.false_or,Bool.or_false])
   have HE:(.bool false:Value)=.bool (okS a):=by unfold okS;simp only [HN,Bool.and_false]
   exact ⟨retV HE,f18.b⟩
  have Ffk3:=Lib.hid fk3;clear fk3
  have hge2:k2=8:=by have:=Ffk3.out;simp only [decide_eq_false_iff_not] at this;omega
  refine go_reg [] [] [oF] mo dL2 zL2 BL2 (by kernel_rfl) trivial (
   hk (fun cx=>cx.v (ex_lt (x:=.tmp 15) rfl (cx.rq 15 sL2_15) rfl) rfl (congrArg Value.bool Ffk3.out)) <|
   hn) ?_
  intro a19 w19 f19
  refine wp_seq ?_
  refine wp_cond_false (f19.v 0 rfl rfl rfl) ?_
  refine wp_exit ?_
  simp only [Exit.then,Exit.inBlock,if_true]
  refine wp_seq ?_
  refine go_reg [] [] [oT] mo f19.d f19.z f19.b (by kernel_rfl) trivial (
   hk (fun cx=>cx.q (ex_as rfl rfl)) <|
   hn) ?_
  intro a20 w20 f20
  refine wp_ret ?_
  try simp only [Exit.inBlock,Exit.then]
  refine bodyPost_ret (res_t (fn:=Try.f15) rfl (f20.v 0 rfl rfl rfl)) f20.d ?_
  have HE:(.bool true:Value)=.bool (okS a):=by unfold okS;simp only [show allN (regP a) 11=true from hge1 ▸ hp1,show allN (sltP a) 8=true from hge2 ▸ hp2,Bool.true_and]
  exact ⟨retV HE,f20.b⟩
set_option maxHeartbeats 4000000 in
theorem tfirst_n  (W:World):Calls Try.prog 11 #[] W fun e w'=>e=.returned (.agg (stC firstS)) ∧ Below W.heap.size W w':=by
  refine calls_abs Try.func11 rfl (Nat.le_of_ble_eq_true rfl) ?_
  intro a0 d0 z0 h0
  replace z0:a0.tmps.size=19:=z0
  refine wp_seq ?_
  refine go_reg [] [⟨0,0,35,(stC zS),none,#[]⟩] [none] mo d0 z0 (Below.refl _ _) (by kernel_rfl) trivial (
   hk (fun cx=>cx.al (wn rfl) 0 rfl (al_st rfl) rfl rfl rfl rfl rfl trivial) <|
   hn) ?_
  intro a1 w1 f1
  obtain ⟨g1,u_g1,q_g1,b_g1⟩:=f1.al.1
  refine wp_seq ?_
  refine go_reg [] [⟨0,1,35,(stC zS),none,#[]⟩] [none] mo f1.d f1.z f1.b (by kernel_rfl) trivial (
   hk (fun cx=>cx.al (wn rfl) 0 rfl (al_st rfl) rfl rfl rfl rfl rfl trivial) <|
   hn) ?_
  intro a2 w2 f2
  obtain ⟨g2,u_g2,q_g2,b_g2⟩:=f2.al.1
  refine wp_seq ?_
  refine go_reg [⟨g2,35,(stC zS),some 3,(stC (upS zS 1 (ptT 2 0 0)))⟩] [] [some (.agg (tyC (ptT 2 0 0))),some (pt g2 0),some (pt g2 (9 * 1)),none] mo f2.d f2.z f2.b (by kernel_rfl) ⟨b_g2,trivial⟩ (
   hc (fun _ _ wx cx=>cx.c rfl (args3 rfl rfl rfl) Try.func37 (by decide +kernel) (ptt_n 2 0 0 wx) rfl rfl) <|
   hk (fun cx=>cx.q (ex_fa rfl (cx.rq 1 u_g2) (faStE35_0_0 _ _))) <|
   hk (fun cx=>cx.v (ex_ia (n:=11) (sz:=9) rfl (cx.u 0 rfl) rfl Try.underlying32 (by kernel_rfl) (by omega) (by omega) (by omega)) rfl rfl) <|
   hk (fun cx=>cx.stP (wn rfl) rfl rfl 0 rfl (cx.u 0 rfl) (cx.u 1 rfl) (tyC_one _) (by kernel_rfl) (by rw [stC_size];show _ + 9 ≤ _;omega) (stC_set _ (by omega) _) (Nat.le_trans f1.b.size q_g2) rfl trivial trivial) <|
   hn) ?_
  intro a3 w3 f3
  refine wp_seq ?_
  have s1_1:=f3.q 1 u_g2
  refine go_reg [⟨g2,35,(stC (upS zS 1 (ptT 2 0 0))),some 3,(stC (upS (upS zS 1 (ptT 2 0 0)) 10 (ptT 3 64 64)))⟩] [] [some (.agg (tyC (ptT 3 64 64))),some (pt g2 0),some (pt g2 (9 * 10)),none] mo f3.d f3.z f3.b (by kernel_rfl) ⟨f3.rows.1,trivial⟩ (
   hc (fun _ _ wx cx=>cx.c rfl (args3 rfl rfl rfl) Try.func37 (by decide +kernel) (ptt_n 3 64 64 wx) rfl rfl) <|
   hk (fun cx=>cx.q (ex_fa rfl (cx.rq 1 s1_1) (faStE35_0_0 _ _))) <|
   hk (fun cx=>cx.v (ex_ia (n:=11) (sz:=9) rfl (cx.u 0 rfl) rfl Try.underlying32 (by kernel_rfl) (by omega) (by omega) (by omega)) rfl rfl) <|
   hk (fun cx=>cx.stP (wn rfl) rfl rfl 0 rfl (cx.u 0 rfl) (cx.u 1 rfl) (tyC_one _) (by kernel_rfl) (by rw [stC_size];show _ + 9 ≤ _;omega) (stC_set _ (by omega) _) (Nat.le_trans f1.b.size q_g2) rfl trivial trivial) <|
   hn) ?_
  intro a4 w4 f4
  refine wp_seq ?_
  refine wp_seq ?_
  refine go_reg [] [] [some (.int .i64 0)] mo f4.d f4.z f4.b (by kernel_rfl) trivial (
   hk (fun cx=>cx.q (ex_mv rfl rfl)) <|
   hn) ?_
  intro a5 w5 f5
  refine wp_block ?_
  have neL1_0_1:=(ne_row b_g1 q_g2)
  have s0_2:=f5.q 0 (f4.q 0 (f3.q 0 (f2.q 0 u_g1)))
  have s1_3:=f5.q 1 (f4.q 1 s1_1)
  have b_g1_4:=f5.k (f4.kp (f3.kp (f2.k b_g1) ⟨.inr (ne_row b_g1 q_g2),trivial⟩) ⟨.inr (ne_row b_g1 q_g2),trivial⟩)
  have b_g2_5:=f5.k f4.rows.1
  refine wp_count 8 (fun k1 aI wI=>True ∧ Mid 19 W [(0,.pointer (some ⟨g1,0,none⟩)),(1,.pointer (some ⟨g2,0,none⟩)),(9,.int .i64 (k1:Int))] [(g1,35,(stC zS)),(g2,35,(stC (fillT (upS (upS zS 1 (ptT 2 0 0)) 10 (ptT 3 64 64)) 11 k1 (scT (oneC 0#64)))))] aI wI) ⟨trivial,f5.d,f5.z,f5.b,⟨s0_2,s1_3,(f5.v 0 rfl rfl rfl),trivial⟩,⟨b_g1_4,(row_eq b_g2_5 (congrArg stC (fill_0 _ _ _).symm)),trivial⟩⟩ ?_
  intro k1 aL1 wL1 hlek1 hI1
  obtain ⟨hp1,dL1,zL1,BL1,⟨sL1_0,sL1_1,sL1_9,-⟩,⟨bL1_g1,bL1_g2,-⟩⟩:=hI1
  replace sL1_0:aL1.tmps.getD 0 undef=.pointer (some ⟨g1,0,none⟩):=sL1_0
  replace sL1_1:aL1.tmps.getD 1 undef=.pointer (some ⟨g2,0,none⟩):=sL1_1
  replace sL1_9:aL1.tmps.getD 9 undef=.int .i64 (k1:Int):=sL1_9
  replace bL1_g1:wL1.heap[g1]?=some (.cells (stC zS) 35 (0,0)):=bL1_g1
  replace bL1_g2:wL1.heap[g2]?=some (.cells (stC (fillT (upS (upS zS 1 (ptT 2 0 0)) 10 (ptT 3 64 64)) 11 k1 (scT (oneC 0#64)))) 35 (0,0)):=bL1_g2
  refine wp_seq ?_
  cases fk1:decide ((k1:Int) < 8)
  case true=>
   have Ffk1:=Lib.hid fk1;clear fk1
   have hlt1:k1 < 8:=by have:=Ffk1.out;simp only [decide_eq_true_eq] at this;omega
   refine go_reg [] [] [oT] mo dL1 zL1 BL1 (by kernel_rfl) trivial (
    hk (fun cx=>cx.v (ex_lt (x:=.tmp 9) rfl (cx.rq 9 sL1_9) rfl) rfl (congrArg Value.bool Ffk1.out)) <|
    hn) ?_
   intro a6 w6 f6
   refine wp_seq ?_
   refine wp_cond_true (f6.v 0 rfl rfl rfl) ?_
   refine wp_skip ?_
   refine wp_seq ?_
   refine wp_block ?_
   refine wp_seq ?_
   have s9_6:=f6.q 9 sL1_9
   refine go_reg [] [] [some (.int .i64 (k1:Int)),some (.int .i64 (k1:Int))] mo f6.d f6.z f6.b (by kernel_rfl) trivial (
    hk (fun cx=>cx.q (ex_mv rfl (cx.rq 9 s9_6))) <|
    kmu 0 <|
    hn) ?_
   intro a7 w7 f7
   have b_g2_7:=f7.k (f6.k bL1_g2)
   have s1_8:=f7.q 1 (f6.q 1 sL1_1)
   refine go_reg [⟨g2,35,(stC (fillT (upS (upS zS 1 (ptT 2 0 0)) 10 (ptT 3 64 64)) 11 k1 (scT (oneC 0#64)))),some 5,(stC (upS (fillT (upS (upS zS 1 (ptT 2 0 0)) 10 (ptT 3 64 64)) 11 k1 (scT (oneC 0#64))) (11 + k1) (scT (oneC 0#64))))⟩] [] [some (.int .i64 (k1:Int)),some (.agg (scC (oneC 0#64))),some (.agg (tyC (scT (oneC 0#64)))),some (pt g2 99),some (pt g2 (9 * (11 + k1))),none] mo f7.d f7.z f7.b (by kernel_rfl) ⟨b_g2_7,trivial⟩ (
    hk (fun cx=>cx.q (ex_mv rfl (cx.rq 2 (f7.v 1 rfl rfl rfl)))) <|
    hc (fun _ _ wx cx=>cx.c rfl (args1 rfl) Try.func38 (by decide +kernel) (vone_n 0#64 wx) rfl rfl) <|
    hc (fun _ _ wx cx=>cx.c rfl (args1 (cx.u 0 rfl)) Try.func32 (by decide +kernel) (sct_n (oneC 0#64) wx) rfl rfl) <|
    hk (fun cx=>cx.q (ex_fa rfl (cx.rq 1 s1_8) (faStE35_1_0 _ _))) <|
    hk (fun cx=>cx.v (ex_ia (n:=8) (sz:=9) rfl (cx.u 0 rfl) (cx.u 1 rfl) Try.underlying33 (by kernel_rfl) (by omega) (by omega) (by omega)) rfl rfl) <|
    hk (fun cx=>cx.stP (wn rfl) rfl rfl 0 rfl (cx.u 0 rfl) (cx.u 1 rfl) (tyC_one _) (by kernel_rfl) (by rw [stC_size];show _ + 9 ≤ _;omega) (stC_set _ (by omega) _) (Nat.le_trans f1.b.size q_g2) rfl trivial trivial) <|
    hn) ?_
   intro a8 w8 f8
   have s9_9:=f8.q 9 (f7.q 9 s9_6)
   refine go_reg [] [] [some (.int .i64 ((k1 + 1:Nat):Int)),some (.int .i64 ((k1 + 1:Nat):Int))] mo f8.d f8.z f8.b (by kernel_rfl) trivial (
    hk (fun cx=>cx.v (ex_add (x:=.tmp 9) rfl (cx.un 1 rfl rfl (by kernel_rfl) s9_9) rfl) rfl (congrArg (Value.int .i64) (wrapk hlt1 (by decide)))) <|
    kmu 0 <|
    hn) ?_
   intro a9 w9 f9
   have s0_10:=f9.q 0 (f8.q 0 (f7.q 0 (f6.q 0 sL1_0)))
   have s1_11:=f9.q 1 (f8.q 1 s1_8)
   have b_g1_12:=f9.k (f8.kp (f7.k (f6.k bL1_g1)) ⟨.inr neL1_0_1,trivial⟩)
   have b_g2_13:=f9.k f8.rows.1
   exact ⟨hlt1,trivial,f9.d,f9.z,f9.b,⟨s0_10,s1_11,(f9.v 1 rfl rfl rfl),trivial⟩,⟨b_g1_12,(row_eq b_g2_13 (congrArg stC (fill_step _ _ _ _))),trivial⟩⟩
  have Ffk1:=Lib.hid fk1;clear fk1
  have hge1:k1=8:=by have:=Ffk1.out;simp only [decide_eq_false_iff_not] at this;omega
  refine go_reg [] [] [oF] mo dL1 zL1 BL1 (by kernel_rfl) trivial (
   hk (fun cx=>cx.v (ex_lt (x:=.tmp 9) rfl (cx.rq 9 sL1_9) rfl) rfl (congrArg Value.bool Ffk1.out)) <|
   hn) ?_
  intro a10 w10 f10
  refine wp_seq ?_
  refine wp_cond_false (f10.v 0 rfl rfl rfl) ?_
  refine wp_exit ?_
  simp only [Exit.then,Exit.inBlock,if_true]
  refine wp_seq ?_
  have b_g2_14:=f10.k bL1_g2
  have b_g1_15:=f10.k bL1_g1
  have s1_16:=f10.q 1 sL1_1
  have s0_17:=f10.q 0 sL1_0
  refine go_reg [bx g2 35 (stC (fillT (upS (upS zS 1 (ptT 2 0 0)) 10 (ptT 3 64 64)) 11 k1 (scT (oneC 0#64)))),⟨g1,35,(stC zS),some 1,(stC (fillT (upS (upS zS 1 (ptT 2 0 0)) 10 (ptT 3 64 64)) 11 k1 (scT (oneC 0#64))))⟩] [] [some (.agg (stC (fillT (upS (upS zS 1 (ptT 2 0 0)) 10 (ptT 3 64 64)) 11 k1 (scT (oneC 0#64))))),none] mo f10.d f10.z f10.b (by kernel_rfl) ⟨b_g2_14,b_g1_15,trivial⟩ (
   hk (fun cx=>cx.q (ldSt rfl (cx.rq 1 s1_16) (cx.rn 0 rfl))) <|
   hk (fun cx=>cx.stR (wn rfl) rfl rfl 1 rfl (cx.rq 0 s0_17) (cx.u 0 rfl) (st_info _) ((stC_size _).trans (stC_size _).symm) (stC_one _) q_g1 rfl ⟨neL1_0_1.symm,trivial⟩ trivial) <|
   hn) ?_
  intro a11 w11 f11
  refine wp_ret ?_
  have s0_18:=f11.q 0 s0_17
  try simp only [Exit.inBlock,Exit.then]
  refine bodyPost_ret (res_c (fn:=Try.f11) rfl s0_18 (load_row 35 f11.rows.2.1 Try.underlying35 rfl (st_info _))) f11.d ?_
  have HE:(.agg (stC (fillT (upS (upS zS 1 (ptT 2 0 0)) 10 (ptT 3 64 64)) 11 k1 (scT (oneC 0#64)))):Value)=.agg (stC firstS):=by rw [hge1];exact congrArg Value.agg (stC_congr (fun i hi=>by rcases below19 hi with rfl | rfl | rfl | rfl | rfl | rfl | rfl | rfl | rfl | rfl | rfl | rfl | rfl | rfl | rfl | rfl | rfl | rfl | rfl <;> rfl))
  exact ⟨retV HE,f11.b⟩
set_option maxHeartbeats 4000000 in
theorem onebyone_n (F:Nat) (fn:Func) (f:Ty → Ty → Ty) (a b:St) (W:World) (hF:Try.prog.funcs[F]?=some fn) (hO:okF fn=true) (hC:∀ (x y:Ty) (W:World),x.Ok → y.Ok → Calls Try.prog F #[.agg (tyC x),.agg (tyC y)] W fun e w'=>e=.returned (.agg (tyC (f x y))) ∧ Below W.heap.size W w') (ha:OkS a) (hb:OkS b):Calls Try.prog 48 #[.agg (stC a),.agg (stC b),.func (.func F) #[] #[]] W fun e w'=>e=.returned (.tuple #[.agg (stC (bothR f a b)),.int .i64 (bothE a b)]) ∧ Below W.heap.size W w':=by
  have HA:=Lib.hid ha
  have HB:=Lib.hid hb
  clear ha hb
  refine calls_abs Try.func48 rfl (Nat.le_of_ble_eq_true rfl) ?_
  intro a0 d0 z0 h0
  replace z0:a0.tmps.size=54:=z0
  have s0_0:a0.tmps.getD 0 undef=.agg (stC a):=h0 0 (Nat.le_of_ble_eq_true rfl)
  have s1_0:a0.tmps.getD 1 undef=.agg (stC b):=h0 1 (Nat.le_of_ble_eq_true rfl)
  have s2_0:a0.tmps.getD 2 undef=.func (.func F) #[] #[]:=h0 2 (Nat.le_of_ble_eq_true rfl)
  refine wp_seq ?_
  refine go_reg [] [⟨0,3,35,(stC a),none,#[]⟩,⟨1,4,35,(stC b),none,#[]⟩,⟨2,6,35,(stC zS),none,#[]⟩] [none,none,none,some (.int .i64 0)] mo d0 z0 (Below.refl _ _) (by kernel_rfl) trivial (
   hk (fun cx=>cx.al (wn rfl) 0 rfl (ex_box rfl (cx.rq 0 s0_0) rfl) rfl rfl rfl rfl rfl trivial) <|
   hk (fun cx=>cx.al (wn rfl) 1 rfl (ex_box rfl (cx.rq 1 s1_0) rfl) rfl rfl rfl rfl rfl trivial) <|
   hk (fun cx=>cx.al (wn rfl) 2 rfl (al_st rfl) rfl rfl rfl rfl rfl trivial) <|
   hk (fun cx=>cx.q (ex_as rfl rfl)) <|
   hn) ?_
  intro a1 w1 f1
  obtain ⟨g1,u_g1,q_g1,b_g1⟩:=f1.al.1
  obtain ⟨g2,u_g2,q_g2,b_g2⟩:=f1.al.2.1
  obtain ⟨g3,u_g3,q_g3,b_g3⟩:=f1.al.2.2.1
  refine wp_seq ?_
  refine wp_seq ?_
  cases fk1:okS a
  case false=>
   have Ffk1:=Lib.hid fk1;clear fk1
   refine go_reg [bx g1 35 (stC a)] [] [some (.agg (stC a)),oF,oT,oT,oU,oU,oU,oT] mo f1.d f1.z f1.b (by kernel_rfl) ⟨b_g1,trivial⟩ (
    hk (fun cx=>cx.q (ldSt rfl (cx.rq 3 u_g1) (cx.rn 0 rfl))) <|
    hc (fun _ _ wx cx=>cx.c rfl (args1 (cx.u 0 rfl)) Try.func15 (by decide +kernel) (tmay_n a wx) rfl (congrArg Value.bool Ffk1.out)) <|
    hk (fun cx=>cx.q (ex_not (x:=.tmp 11) rfl (cx.u 0 rfl))) <|
    kmu 0 <|
    kno 0 <|
    kno 1 <|
    kno 1 <|
    hk (fun cx=>cx.q (ex_pt rfl (cx.u 0 rfl) rfl)) <|
    hn) ?_
   intro a2 w2 f2
   refine wp_cond_true (f2.v 7 rfl rfl rfl) ?_
   refine wp_seq ?_
   have b_g3_1:=f2.k b_g3
   have s6_2:=f2.q 6 u_g3
   refine go_reg [⟨g3,35,(stC zS),some 1,(stC zS)⟩] [] [some (.agg (stC zS)),none,some (.int .i64 2)] mo f2.d f2.z f2.b (by kernel_rfl) ⟨b_g3_1,trivial⟩ (
    hk (fun cx=>cx.q (ex_zst rfl)) <|
    hk (fun cx=>cx.stR (wn rfl) rfl rfl 0 rfl (cx.rq 6 s6_2) (cx.u 0 rfl) (st_info _) ((stC_size _).trans (stC_size _).symm) (stC_one _) q_g3 rfl trivial trivial) <|
    hk (fun cx=>cx.q (ex_as rfl rfl)) <|
    hn) ?_
   intro a3 w3 f3
   refine wp_ret ?_
   have s6_3:=f3.q 6 s6_2
   try simp only [Exit.inBlock,Exit.then]
   refine bodyPost_ret (res_ct (fn:=Try.f48) rfl s6_3 (load_row 35 f3.rows.1 Try.underlying35 rfl (st_info _)) (f3.v 2 rfl rfl rfl)) f3.d ?_
   have HE:(.tuple #[.agg (stC zS),.int .i64 2]:Value)=.tuple #[.agg (stC (bothR f a b)),.int .i64 (bothE a b)]:=by unfold bothR bothE;simp only [Ffk1.out,Bool.false_and,Bool.and_false,if_false,Bool.false_eq_true]
   exact ⟨retV HE,f3.b⟩
  have Ffk1:=Lib.hid fk1;clear fk1
  cases fk2:okS b
  case false=>
   have Ffk2:=Lib.hid fk2;clear fk2
   refine go_reg [bx g1 35 (stC a),bx g2 35 (stC b)] [] [some (.agg (stC a)),oT,oF,oF,some (.agg (stC b)),oF,oT,oT] mo f1.d f1.z f1.b (by kernel_rfl) ⟨b_g1,b_g2,trivial⟩ (
    hk (fun cx=>cx.q (ldSt rfl (cx.rq 3 u_g1) (cx.rn 0 rfl))) <|
    hc (fun _ _ wx cx=>cx.c rfl (args1 (cx.u 0 rfl)) Try.func15 (by decide +kernel) (tmay_n a wx) rfl (congrArg Value.bool Ffk1.out)) <|
    hk (fun cx=>cx.q (ex_not (x:=.tmp 11) rfl (cx.u 0 rfl))) <|
    kmu 0 <|
    hk (fun cx=>cx.vy 0 (ldSt rfl (cx.rq 4 u_g2) (cx.rn 1 rfl))) <|
    hc (fun _ _ wx cx=>cx.call (cx.wy rfl rfl rfl rfl (cx.u 1 rfl)) rfl rfl (args1 (cx.u 0 rfl)) Try.func15 (by decide +kernel) rfl (tmay_n b wx) rfl rfl (congrArg Value.bool Ffk2.out) rfl) <|
    hk (fun cx=>cx.vy 1 (ex_not (x:=.tmp 15) rfl (cx.u 0 rfl))) <|
    hk (fun cx=>cx.q (ex_pf rfl (cx.u 0 rfl) (cx.u 1 rfl))) <|
    hn) ?_
   intro a4 w4 f4
   refine wp_cond_true (f4.v 7 rfl rfl rfl) ?_
   refine wp_seq ?_
   have b_g3_4:=f4.k b_g3
   have s6_5:=f4.q 6 u_g3
   refine go_reg [⟨g3,35,(stC zS),some 1,(stC zS)⟩] [] [some (.agg (stC zS)),none,some (.int .i64 2)] mo f4.d f4.z f4.b (by kernel_rfl) ⟨b_g3_4,trivial⟩ (
    hk (fun cx=>cx.q (ex_zst rfl)) <|
    hk (fun cx=>cx.stR (wn rfl) rfl rfl 0 rfl (cx.rq 6 s6_5) (cx.u 0 rfl) (st_info _) ((stC_size _).trans (stC_size _).symm) (stC_one _) q_g3 rfl trivial trivial) <|
    hk (fun cx=>cx.q (ex_as rfl rfl)) <|
    hn) ?_
   intro a5 w5 f5
   refine wp_ret ?_
   have s6_6:=f5.q 6 s6_5
   try simp only [Exit.inBlock,Exit.then]
   refine bodyPost_ret (res_ct (fn:=Try.f48) rfl s6_6 (load_row 35 f5.rows.1 Try.underlying35 rfl (st_info _)) (f5.v 2 rfl rfl rfl)) f5.d ?_
   have HE:(.tuple #[.agg (stC zS),.int .i64 2]:Value)=.tuple #[.agg (stC (bothR f a b)),.int .i64 (bothE a b)]:=by unfold bothR bothE;simp only [Ffk1.out,Ffk2.out,Bool.false_and,Bool.and_false,if_false,Bool.false_eq_true]
   exact ⟨retV HE,f5.b⟩
  have Ffk2:=Lib.hid fk2;clear fk2
  refine go_reg [bx g1 35 (stC a),bx g2 35 (stC b)] [] [some (.agg (stC a)),oT,oF,oF,some (.agg (stC b)),oT,oF,oF] mo f1.d f1.z f1.b (by kernel_rfl) ⟨b_g1,b_g2,trivial⟩ (
   hk (fun cx=>cx.q (ldSt rfl (cx.rq 3 u_g1) (cx.rn 0 rfl))) <|
   hc (fun _ _ wx cx=>cx.c rfl (args1 (cx.u 0 rfl)) Try.func15 (by decide +kernel) (tmay_n a wx) rfl (congrArg Value.bool Ffk1.out)) <|
   hk (fun cx=>cx.q (ex_not (x:=.tmp 11) rfl (cx.u 0 rfl))) <|
   kmu 0 <|
   hk (fun cx=>cx.vy 0 (ldSt rfl (cx.rq 4 u_g2) (cx.rn 1 rfl))) <|
   hc (fun _ _ wx cx=>cx.call (cx.wy rfl rfl rfl rfl (cx.u 1 rfl)) rfl rfl (args1 (cx.u 0 rfl)) Try.func15 (by decide +kernel) rfl (tmay_n b wx) rfl rfl (congrArg Value.bool Ffk2.out) rfl) <|
   hk (fun cx=>cx.vy 1 (ex_not (x:=.tmp 15) rfl (cx.u 0 rfl))) <|
   hk (fun cx=>cx.q (ex_pf rfl (cx.u 0 rfl) (cx.u 1 rfl))) <|
   hn) ?_
  intro a6 w6 f6
  refine wp_cond_false (f6.v 7 rfl rfl rfl) ?_
  refine wp_skip ?_
  refine wp_seq ?_
  refine wp_seq ?_
  refine go_reg [] [] [some (.int .i64 0)] mo f6.d f6.z f6.b (by kernel_rfl) trivial (
   hk (fun cx=>cx.q (ex_mv rfl rfl)) <|
   hn) ?_
  intro a7 w7 f7
  refine wp_block ?_
  have neL1_0_1:=(ne_ptr (pairAt f1.ps 0 1 (by decide) rfl rfl) u_g1 u_g2)
  have neL1_0_2:=(ne_ptr (pairAt f1.ps 0 2 (by decide) rfl rfl) u_g1 u_g3)
  have neL1_1_2:=(ne_ptr (pairAt f1.ps 1 2 (by decide) rfl rfl) u_g2 u_g3)
  have s2_7:=f7.q 2 (f6.q 2 (f1.q 2 s2_0))
  have s3_8:=f7.q 3 (f6.q 3 u_g1)
  have s4_9:=f7.q 4 (f6.q 4 u_g2)
  have s6_10:=f7.q 6 (f6.q 6 u_g3)
  have s7_11:=f7.q 7 (f6.q 7 (f1.v 3 rfl rfl rfl))
  have b_g1_12:=f7.k (f6.k b_g1)
  have b_g2_13:=f7.k (f6.k b_g2)
  have b_g3_14:=f7.k (f6.k b_g3)
  refine wp_count 11 (fun k1 aI wI=>True ∧ Mid 54 W [(2,.func (.func F) #[] #[]),(3,.pointer (some ⟨g1,0,none⟩)),(4,.pointer (some ⟨g2,0,none⟩)),(6,.pointer (some ⟨g3,0,none⟩)),(7,.int .i64 0),(19,.int .i64 (k1:Int))] [(g1,35,(stC (mixS f a b k1))),(g2,35,(stC b)),(g3,35,(stC zS))] aI wI) ⟨trivial,f7.d,f7.z,f7.b,⟨s2_7,s3_8,s4_9,s6_10,s7_11,(f7.v 0 rfl rfl rfl),trivial⟩,⟨(row_eq b_g1_12 (congrArg stC (mix_0 _ _ _).symm)),b_g2_13,b_g3_14,trivial⟩⟩ ?_
  intro k1 aL1 wL1 hlek1 hI1
  obtain ⟨hp1,dL1,zL1,BL1,⟨sL1_2,sL1_3,sL1_4,sL1_6,sL1_7,sL1_19,-⟩,⟨bL1_g1,bL1_g2,bL1_g3,-⟩⟩:=hI1
  replace sL1_2:aL1.tmps.getD 2 undef=.func (.func F) #[] #[]:=sL1_2
  replace sL1_3:aL1.tmps.getD 3 undef=.pointer (some ⟨g1,0,none⟩):=sL1_3
  replace sL1_4:aL1.tmps.getD 4 undef=.pointer (some ⟨g2,0,none⟩):=sL1_4
  replace sL1_6:aL1.tmps.getD 6 undef=.pointer (some ⟨g3,0,none⟩):=sL1_6
  replace sL1_7:aL1.tmps.getD 7 undef=.int .i64 0:=sL1_7
  replace sL1_19:aL1.tmps.getD 19 undef=.int .i64 (k1:Int):=sL1_19
  replace bL1_g1:wL1.heap[g1]?=some (.cells (stC (mixS f a b k1)) 35 (0,0)):=bL1_g1
  replace bL1_g2:wL1.heap[g2]?=some (.cells (stC b) 35 (0,0)):=bL1_g2
  replace bL1_g3:wL1.heap[g3]?=some (.cells (stC zS) 35 (0,0)):=bL1_g3
  refine wp_seq ?_
  cases fk3:decide ((k1:Int) < 11)
  case true=>
   have Ffk3:=Lib.hid fk3;clear fk3
   have hlt1:k1 < 11:=by have:=Ffk3.out;simp only [decide_eq_true_eq] at this;omega
   refine go_reg [] [] [oT] mo dL1 zL1 BL1 (by kernel_rfl) trivial (
    hk (fun cx=>cx.v (ex_lt (x:=.tmp 19) rfl (cx.rq 19 sL1_19) rfl) rfl (congrArg Value.bool Ffk3.out)) <|
    hn) ?_
   intro a8 w8 f8
   refine wp_seq ?_
   refine wp_cond_true (f8.v 0 rfl rfl rfl) ?_
   refine wp_skip ?_
   refine wp_seq ?_
   refine wp_block ?_
   refine wp_seq ?_
   have s19_15:=f8.q 19 sL1_19
   refine go_reg [] [] [some (.int .i64 (k1:Int)),some (.int .i64 (k1:Int))] mo f8.d f8.z f8.b (by kernel_rfl) trivial (
    hk (fun cx=>cx.q (ex_mv rfl (cx.rq 19 s19_15))) <|
    kmu 0 <|
    hn) ?_
   intro a9 w9 f9
   have b_g1_16:=f9.k (f8.k bL1_g1)
   have b_g2_17:=f9.k (f8.k bL1_g2)
   have s2_18:=f9.q 2 (f8.q 2 sL1_2)
   have s3_19:=f9.q 3 (f8.q 3 sL1_3)
   have s4_20:=f9.q 4 (f8.q 4 sL1_4)
   refine go_reg [⟨g1,35,(stC (mixS f a b k1)),some 13,(stC (upS (mixS f a b k1) k1 (f (mixS f a b k1 k1) (b k1))))⟩,bx g2 35 (stC b)] [] [some (.int .i64 (k1:Int)),some (.func (.func F) #[] #[]),some (.int .i64 (k1:Int)),some (pt g1 0),some (pt g1 (9 * k1)),some (.agg (tyC (mixS f a b k1 k1))),some (.int .i64 (k1:Int)),some (pt g2 0),some (pt g2 (9 * k1)),some (.agg (tyC (b k1))),some (.agg (tyC (f (mixS f a b k1 k1) (b k1)))),some (pt g1 0),some (pt g1 (9 * k1)),none] mo f9.d f9.z f9.b (by kernel_rfl) ⟨b_g1_16,b_g2_17,trivial⟩ (
    hk (fun cx=>cx.q (ex_mv rfl (cx.rq 8 (f9.v 1 rfl rfl rfl)))) <|
    hk (fun cx=>cx.q (ex_mv rfl (cx.rq 2 s2_18))) <|
    hk (fun cx=>cx.q (ex_mv rfl (cx.rq 8 (f9.v 1 rfl rfl rfl)))) <|
    hk (fun cx=>cx.q (ex_fa rfl (cx.rq 3 s3_19) (faStE35_0_0 _ _))) <|
    hk (fun cx=>cx.v (ex_ia (n:=11) (sz:=9) rfl (cx.u 0 rfl) (cx.u 1 rfl) Try.underlying32 (by kernel_rfl) (by omega) (by omega) (by omega)) rfl rfl) <|
    hk (fun cx=>cx.v (ldEl (by omega) rfl (cx.u 0 rfl) (cx.rf 0 rfl (by kernel_rfl))) rfl rfl) <|
    hk (fun cx=>cx.q (ex_mv rfl (cx.rq 8 (f9.v 1 rfl rfl rfl)))) <|
    hk (fun cx=>cx.q (ex_fa rfl (cx.rq 4 s4_20) (faStE35_0_0 _ _))) <|
    hk (fun cx=>cx.v (ex_ia (n:=11) (sz:=9) rfl (cx.u 0 rfl) (cx.u 1 rfl) Try.underlying32 (by kernel_rfl) (by omega) (by omega) (by omega)) rfl rfl) <|
    hk (fun cx=>cx.v (ldEl (by omega) rfl (cx.u 0 rfl) (cx.rn 1 rfl)) rfl rfl) <|
    hc (fun _ _ wx cx=>cx.callv (wn rfl) rfl rfl (cx.u 0 rfl) (args2 (cx.u 1 rfl) (cx.u 2 rfl)) hF hO (hC (mixS f a b k1 k1) (b k1) wx (mix_ok (HA.out _ (by omega))) (HB.out _ (by omega))) rfl rfl rfl rfl) <|
    hk (fun cx=>cx.q (ex_fa rfl (cx.rq 3 s3_19) (faStE35_0_0 _ _))) <|
    hk (fun cx=>cx.v (ex_ia (n:=11) (sz:=9) rfl (cx.u 0 rfl) (cx.u 1 rfl) Try.underlying32 (by kernel_rfl) (by omega) (by omega) (by omega)) rfl rfl) <|
    hk (fun cx=>cx.stP (wn rfl) rfl rfl 0 rfl (cx.u 0 rfl) (cx.u 1 rfl) (tyC_one _) (by kernel_rfl) (by rw [stC_size];show _ + 9 ≤ _;omega) (stC_set _ (by omega) _) q_g1 rfl ⟨neL1_0_1.symm,trivial⟩ trivial) <|
    hn) ?_
   intro a10 w10 f10
   have s19_21:=f10.q 19 (f9.q 19 s19_15)
   refine go_reg [] [] [some (.int .i64 ((k1 + 1:Nat):Int)),some (.int .i64 ((k1 + 1:Nat):Int))] mo f10.d f10.z f10.b (by kernel_rfl) trivial (
    hk (fun cx=>cx.v (ex_add (x:=.tmp 19) rfl (cx.un 1 rfl rfl (by kernel_rfl) s19_21) rfl) rfl (congrArg (Value.int .i64) (wrapk hlt1 (by decide)))) <|
    kmu 0 <|
    hn) ?_
   intro a11 w11 f11
   have s2_22:=f11.q 2 (f10.q 2 s2_18)
   have s3_23:=f11.q 3 (f10.q 3 s3_19)
   have s4_24:=f11.q 4 (f10.q 4 s4_20)
   have s6_25:=f11.q 6 (f10.q 6 (f9.q 6 (f8.q 6 sL1_6)))
   have s7_26:=f11.q 7 (f10.q 7 (f9.q 7 (f8.q 7 sL1_7)))
   have b_g1_27:=f11.k f10.rows.1
   have b_g2_28:=f11.k (f10.kp b_g2_17 ⟨.inr neL1_0_1.symm,.inl rfl,trivial⟩)
   have b_g3_29:=f11.k (f10.kp (f9.k (f8.k bL1_g3)) ⟨.inr neL1_0_2.symm,.inl rfl,trivial⟩)
   exact ⟨hlt1,trivial,f11.d,f11.z,f11.b,⟨s2_22,s3_23,s4_24,s6_25,s7_26,(f11.v 1 rfl rfl rfl),trivial⟩,⟨(row_eq b_g1_27 (congrArg stC (mix_step _ _ _ _))),b_g2_28,b_g3_29,trivial⟩⟩
  have Ffk3:=Lib.hid fk3;clear fk3
  have hge1:k1=11:=by have:=Ffk3.out;simp only [decide_eq_false_iff_not] at this;omega
  refine go_reg [] [] [oF] mo dL1 zL1 BL1 (by kernel_rfl) trivial (
   hk (fun cx=>cx.v (ex_lt (x:=.tmp 19) rfl (cx.rq 19 sL1_19) rfl) rfl (congrArg Value.bool Ffk3.out)) <|
   hn) ?_
  intro a12 w12 f12
  refine wp_seq ?_
  refine wp_cond_false (f12.v 0 rfl rfl rfl) ?_
  refine wp_exit ?_
  simp only [Exit.then,Exit.inBlock,if_true]
  refine wp_seq ?_
  refine wp_seq ?_
  refine go_reg [] [] [some (.int .i64 0)] mo f12.d f12.z f12.b (by kernel_rfl) trivial (
   hk (fun cx=>cx.q (ex_mv rfl rfl)) <|
   hn) ?_
  intro a13 w13 f13
  refine wp_block ?_
  have neL2_0_1:=neL1_0_1
  have neL2_0_2:=neL1_0_2
  have neL2_1_2:=neL1_1_2
  have s2_30:=f13.q 2 (f12.q 2 sL1_2)
  have s3_31:=f13.q 3 (f12.q 3 sL1_3)
  have s4_32:=f13.q 4 (f12.q 4 sL1_4)
  have s6_33:=f13.q 6 (f12.q 6 sL1_6)
  have s7_34:=f13.q 7 (f12.q 7 sL1_7)
  have b_g1_35:=f13.k (f12.k bL1_g1)
  have b_g2_36:=f13.k (f12.k bL1_g2)
  have b_g3_37:=f13.k (f12.k bL1_g3)
  refine wp_count 8 (fun k2 aI wI=>True ∧ Mid 54 W [(2,.func (.func F) #[] #[]),(3,.pointer (some ⟨g1,0,none⟩)),(4,.pointer (some ⟨g2,0,none⟩)),(6,.pointer (some ⟨g3,0,none⟩)),(7,.int .i64 0),(36,.int .i64 (k2:Int))] [(g1,35,(stC (mixS f a b (11 + k2)))),(g2,35,(stC b)),(g3,35,(stC zS))] aI wI) ⟨trivial,f13.d,f13.z,f13.b,⟨s2_30,s3_31,s4_32,s6_33,s7_34,(f13.v 0 rfl rfl rfl),trivial⟩,⟨(row_eq b_g1_35 (congrArg (fun n=>stC (mixS f a b n)) (show k1=11 + 0 by omega))),b_g2_36,b_g3_37,trivial⟩⟩ ?_
  intro k2 aL2 wL2 hlek2 hI2
  obtain ⟨hp2,dL2,zL2,BL2,⟨sL2_2,sL2_3,sL2_4,sL2_6,sL2_7,sL2_36,-⟩,⟨bL2_g1,bL2_g2,bL2_g3,-⟩⟩:=hI2
  replace sL2_2:aL2.tmps.getD 2 undef=.func (.func F) #[] #[]:=sL2_2
  replace sL2_3:aL2.tmps.getD 3 undef=.pointer (some ⟨g1,0,none⟩):=sL2_3
  replace sL2_4:aL2.tmps.getD 4 undef=.pointer (some ⟨g2,0,none⟩):=sL2_4
  replace sL2_6:aL2.tmps.getD 6 undef=.pointer (some ⟨g3,0,none⟩):=sL2_6
  replace sL2_7:aL2.tmps.getD 7 undef=.int .i64 0:=sL2_7
  replace sL2_36:aL2.tmps.getD 36 undef=.int .i64 (k2:Int):=sL2_36
  replace bL2_g1:wL2.heap[g1]?=some (.cells (stC (mixS f a b (11 + k2))) 35 (0,0)):=bL2_g1
  replace bL2_g2:wL2.heap[g2]?=some (.cells (stC b) 35 (0,0)):=bL2_g2
  replace bL2_g3:wL2.heap[g3]?=some (.cells (stC zS) 35 (0,0)):=bL2_g3
  refine wp_seq ?_
  cases fk4:decide ((k2:Int) < 8)
  case true=>
   have Ffk4:=Lib.hid fk4;clear fk4
   have hlt2:k2 < 8:=by have:=Ffk4.out;simp only [decide_eq_true_eq] at this;omega
   refine go_reg [] [] [oT] mo dL2 zL2 BL2 (by kernel_rfl) trivial (
    hk (fun cx=>cx.v (ex_lt (x:=.tmp 36) rfl (cx.rq 36 sL2_36) rfl) rfl (congrArg Value.bool Ffk4.out)) <|
    hn) ?_
   intro a14 w14 f14
   refine wp_seq ?_
   refine wp_cond_true (f14.v 0 rfl rfl rfl) ?_
   refine wp_skip ?_
   refine wp_seq ?_
   refine wp_block ?_
   refine wp_seq ?_
   have s36_38:=f14.q 36 sL2_36
   refine go_reg [] [] [some (.int .i64 (k2:Int)),some (.int .i64 (k2:Int))] mo f14.d f14.z f14.b (by kernel_rfl) trivial (
    hk (fun cx=>cx.q (ex_mv rfl (cx.rq 36 s36_38))) <|
    kmu 0 <|
    hn) ?_
   intro a15 w15 f15
   have b_g1_39:=f15.k (f14.k bL2_g1)
   have b_g2_40:=f15.k (f14.k bL2_g2)
   have s2_41:=f15.q 2 (f14.q 2 sL2_2)
   have s3_42:=f15.q 3 (f14.q 3 sL2_3)
   have s4_43:=f15.q 4 (f14.q 4 sL2_4)
   refine go_reg [⟨g1,35,(stC (mixS f a b (11 + k2))),some 13,(stC (upS (mixS f a b (11 + k2)) (11 + k2) (f (mixS f a b (11 + k2) (11 + k2)) (b (11 + k2)))))⟩,bx g2 35 (stC b)] [] [some (.int .i64 (k2:Int)),some (.func (.func F) #[] #[]),some (.int .i64 (k2:Int)),some (pt g1 99),some (pt g1 (9 * (11 + k2))),some (.agg (tyC (mixS f a b (11 + k2) (11 + k2)))),some (.int .i64 (k2:Int)),some (pt g2 99),some (pt g2 (9 * (11 + k2))),some (.agg (tyC (b (11 + k2)))),some (.agg (tyC (f (mixS f a b (11 + k2) (11 + k2)) (b (11 + k2))))),some (pt g1 99),some (pt g1 (9 * (11 + k2))),none] mo f15.d f15.z f15.b (by kernel_rfl) ⟨b_g1_39,b_g2_40,trivial⟩ (
    hk (fun cx=>cx.q (ex_mv rfl (cx.rq 9 (f15.v 1 rfl rfl rfl)))) <|
    hk (fun cx=>cx.q (ex_mv rfl (cx.rq 2 s2_41))) <|
    hk (fun cx=>cx.q (ex_mv rfl (cx.rq 9 (f15.v 1 rfl rfl rfl)))) <|
    hk (fun cx=>cx.q (ex_fa rfl (cx.rq 3 s3_42) (faStE35_1_0 _ _))) <|
    hk (fun cx=>cx.v (ex_ia (n:=8) (sz:=9) rfl (cx.u 0 rfl) (cx.u 1 rfl) Try.underlying33 (by kernel_rfl) (by omega) (by omega) (by omega)) rfl rfl) <|
    hk (fun cx=>cx.v (ldEl (by omega) rfl (cx.u 0 rfl) (cx.rf 0 rfl (by kernel_rfl))) rfl rfl) <|
    hk (fun cx=>cx.q (ex_mv rfl (cx.rq 9 (f15.v 1 rfl rfl rfl)))) <|
    hk (fun cx=>cx.q (ex_fa rfl (cx.rq 4 s4_43) (faStE35_1_0 _ _))) <|
    hk (fun cx=>cx.v (ex_ia (n:=8) (sz:=9) rfl (cx.u 0 rfl) (cx.u 1 rfl) Try.underlying33 (by kernel_rfl) (by omega) (by omega) (by omega)) rfl rfl) <|
    hk (fun cx=>cx.v (ldEl (by omega) rfl (cx.u 0 rfl) (cx.rn 1 rfl)) rfl rfl) <|
    hc (fun _ _ wx cx=>cx.callv (wn rfl) rfl rfl (cx.u 0 rfl) (args2 (cx.u 1 rfl) (cx.u 2 rfl)) hF hO (hC (mixS f a b (11 + k2) (11 + k2)) (b (11 + k2)) wx (mix_ok (HA.out _ (by omega))) (HB.out _ (by omega))) rfl rfl rfl rfl) <|
    hk (fun cx=>cx.q (ex_fa rfl (cx.rq 3 s3_42) (faStE35_1_0 _ _))) <|
    hk (fun cx=>cx.v (ex_ia (n:=8) (sz:=9) rfl (cx.u 0 rfl) (cx.u 1 rfl) Try.underlying33 (by kernel_rfl) (by omega) (by omega) (by omega)) rfl rfl) <|
    hk (fun cx=>cx.stP (wn rfl) rfl rfl 0 rfl (cx.u 0 rfl) (cx.u 1 rfl) (tyC_one _) (by kernel_rfl) (by rw [stC_size];show _ + 9 ≤ _;omega) (stC_set _ (by omega) _) q_g1 rfl ⟨neL2_0_1.symm,trivial⟩ trivial) <|
    hn) ?_
   intro a16 w16 f16
   have s36_44:=f16.q 36 (f15.q 36 s36_38)
   refine go_reg [] [] [some (.int .i64 ((k2 + 1:Nat):Int)),some (.int .i64 ((k2 + 1:Nat):Int))] mo f16.d f16.z f16.b (by kernel_rfl) trivial (
    hk (fun cx=>cx.v (ex_add (x:=.tmp 36) rfl (cx.un 1 rfl rfl (by kernel_rfl) s36_44) rfl) rfl (congrArg (Value.int .i64) (wrapk hlt2 (by decide)))) <|
    kmu 0 <|
    hn) ?_
   intro a17 w17 f17
   have s2_45:=f17.q 2 (f16.q 2 s2_41)
   have s3_46:=f17.q 3 (f16.q 3 s3_42)
   have s4_47:=f17.q 4 (f16.q 4 s4_43)
   have s6_48:=f17.q 6 (f16.q 6 (f15.q 6 (f14.q 6 sL2_6)))
   have s7_49:=f17.q 7 (f16.q 7 (f15.q 7 (f14.q 7 sL2_7)))
   have b_g1_50:=f17.k f16.rows.1
   have b_g2_51:=f17.k (f16.kp b_g2_40 ⟨.inr neL2_0_1.symm,.inl rfl,trivial⟩)
   have b_g3_52:=f17.k (f16.kp (f15.k (f14.k bL2_g3)) ⟨.inr neL2_0_2.symm,.inl rfl,trivial⟩)
   exact ⟨hlt2,trivial,f17.d,f17.z,f17.b,⟨s2_45,s3_46,s4_47,s6_48,s7_49,(f17.v 1 rfl rfl rfl),trivial⟩,⟨(row_eq b_g1_50 (congrArg stC (mix_step _ _ _ _))),b_g2_51,b_g3_52,trivial⟩⟩
  have Ffk4:=Lib.hid fk4;clear fk4
  have hge2:k2=8:=by have:=Ffk4.out;simp only [decide_eq_false_iff_not] at this;omega
  refine go_reg [] [] [oF] mo dL2 zL2 BL2 (by kernel_rfl) trivial (
   hk (fun cx=>cx.v (ex_lt (x:=.tmp 36) rfl (cx.rq 36 sL2_36) rfl) rfl (congrArg Value.bool Ffk4.out)) <|
   hn) ?_
  intro a18 w18 f18
  refine wp_seq ?_
  refine wp_cond_false (f18.v 0 rfl rfl rfl) ?_
  refine wp_exit ?_
  simp only [Exit.then,Exit.inBlock,if_true]
  refine wp_seq ?_
  have b_g1_53:=f18.k bL2_g1
  have b_g3_54:=f18.k bL2_g3
  have s3_55:=f18.q 3 sL2_3
  have s6_56:=f18.q 6 sL2_6
  refine go_reg [bx g1 35 (stC (mixS f a b (11 + k2))),⟨g3,35,(stC zS),some 1,(stC (mixS f a b (11 + k2)))⟩] [] [some (.agg (stC (mixS f a b (11 + k2)))),none,some (.int .i64 0)] mo f18.d f18.z f18.b (by kernel_rfl) ⟨b_g1_53,b_g3_54,trivial⟩ (
   hk (fun cx=>cx.q (ldSt rfl (cx.rq 3 s3_55) (cx.rn 0 rfl))) <|
   hk (fun cx=>cx.stR (wn rfl) rfl rfl 1 rfl (cx.rq 6 s6_56) (cx.u 0 rfl) (st_info _) ((stC_size _).trans (stC_size _).symm) (stC_one _) q_g3 rfl ⟨neL2_0_2,trivial⟩ trivial) <|
   hk (fun cx=>cx.q (ex_as rfl rfl)) <|
   hn) ?_
  intro a19 w19 f19
  refine wp_ret ?_
  have s6_57:=f19.q 6 s6_56
  try simp only [Exit.inBlock,Exit.then]
  refine bodyPost_ret (res_ct (fn:=Try.f48) rfl s6_57 (load_row 35 f19.rows.2.1 Try.underlying35 rfl (st_info _)) (f19.v 2 rfl rfl rfl)) f19.d ?_
  have HS:stC (mixS f a b (11 + k2))=stC (bothR f a b):=by rw [hge2];exact stC_congr (mix_end Ffk1.out Ffk2.out)
  have HE:(.tuple #[.agg (stC (mixS f a b (11 + k2))),.int .i64 0]:Value)=.tuple #[.agg (stC (bothR f a b)),.int .i64 (bothE a b)]:=by rw [HS,bothE_1 Ffk1.out Ffk2.out]
  exact ⟨retV HE,f19.b⟩
set_option maxHeartbeats 4000000 in
theorem tjoin_n (a b:St) (W:World) (ha:OkS a) (hb:OkS b):Calls Try.prog 24 #[.agg (stC a),.agg (stC b)] W fun e w'=>e=.returned (.tuple #[.agg (stC (bothR jT a b)),.int .i64 (bothE a b)]) ∧ Below W.heap.size W w':=by
  have HA:=Lib.hid ha
  have HB:=Lib.hid hb
  clear ha hb
  refine calls_abs Try.func24 rfl (Nat.le_of_ble_eq_true rfl) ?_
  intro a0 d0 z0 h0
  replace z0:a0.tmps.size=11:=z0
  have s0_0:a0.tmps.getD 0 undef=.agg (stC a):=h0 0 (Nat.le_of_ble_eq_true rfl)
  have s1_0:a0.tmps.getD 1 undef=.agg (stC b):=h0 1 (Nat.le_of_ble_eq_true rfl)
  refine wp_seq ?_
  refine go_reg [] [⟨0,2,35,(stC a),none,#[]⟩,⟨1,3,35,(stC b),none,#[]⟩,⟨2,4,35,(stC zS),none,#[]⟩] [none,none,none,some (.int .i64 0)] mo d0 z0 (Below.refl _ _) (by kernel_rfl) trivial (
   hk (fun cx=>cx.al (wn rfl) 0 rfl (ex_box rfl (cx.rq 0 s0_0) rfl) rfl rfl rfl rfl rfl trivial) <|
   hk (fun cx=>cx.al (wn rfl) 1 rfl (ex_box rfl (cx.rq 1 s1_0) rfl) rfl rfl rfl rfl rfl trivial) <|
   hk (fun cx=>cx.al (wn rfl) 2 rfl (al_st rfl) rfl rfl rfl rfl rfl trivial) <|
   hk (fun cx=>cx.q (ex_as rfl rfl)) <|
   hn) ?_
  intro a1 w1 f1
  obtain ⟨g1,u_g1,q_g1,b_g1⟩:=f1.al.1
  obtain ⟨g2,u_g2,q_g2,b_g2⟩:=f1.al.2.1
  obtain ⟨g3,u_g3,q_g3,b_g3⟩:=f1.al.2.2.1
  refine wp_seq ?_
  refine go_reg [bx g1 35 (stC a),bx g2 35 (stC b),⟨g3,35,(stC zS),some 5,(stC (bothR jT a b))⟩] [] [some (.agg (stC a)),some (.agg (stC b)),some (.tuple #[.agg (stC (bothR jT a b)),.int .i64 (bothE a b)]),some (.agg (stC (bothR jT a b))),some (.int .i64 (bothE a b)),none,some (.int .i64 (bothE a b))] mo f1.d f1.z f1.b (by kernel_rfl) ⟨b_g1,b_g2,b_g3,trivial⟩ (
   hk (fun cx=>cx.q (ldSt rfl (cx.rq 2 u_g1) (cx.rn 0 rfl))) <|
   hk (fun cx=>cx.q (ldSt rfl (cx.rq 3 u_g2) (cx.rn 1 rfl))) <|
   hc (fun _ _ wx cx=>cx.c rfl (args3 (cx.u 0 rfl) (cx.u 1 rfl) rfl) Try.func48 (by decide +kernel) (onebyone_n 49 _ jT a b wx Try.func49 (by decide +kernel) (fun x y W hx hy=>join1_n x y W hx hy) HA.out HB.out) rfl rfl) <|
   hk (fun cx=>cx.q (ex_ext (x:=.tmp 8) rfl (cx.u 0 rfl) rfl)) <|
   hk (fun cx=>cx.q (ex_ext (x:=.tmp 8) rfl (cx.u 0 rfl) rfl)) <|
   hk (fun cx=>cx.stR (wn rfl) rfl rfl 2 rfl (cx.rq 4 u_g3) (cx.u 0 rfl) (st_info _) ((stC_size _).trans (stC_size _).symm) (stC_one _) q_g3 rfl ⟨(ne_ptr (pairAt f1.ps 0 2 (by decide) rfl rfl) u_g1 u_g3),(ne_ptr (pairAt f1.ps 1 2 (by decide) rfl rfl) u_g2 u_g3),trivial⟩ trivial) <|
   kmu 0 <|
   hn) ?_
  intro a2 w2 f2
  refine wp_ret ?_
  have s4_1:=f2.q 4 u_g3
  try simp only [Exit.inBlock,Exit.then]
  refine bodyPost_ret (res_ct (fn:=Try.f24) rfl s4_1 (load_row 35 f2.rows.2.2.1 Try.underlying35 rfl (st_info _)) (f2.v 6 rfl rfl rfl)) f2.d ?_
  exact ⟨rfl,f2.b⟩
end Go.Proofs.Ytcnneeimkcnjfaa.Sta
