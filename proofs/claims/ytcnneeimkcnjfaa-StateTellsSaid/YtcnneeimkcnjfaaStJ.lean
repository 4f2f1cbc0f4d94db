import Derived.Test.YtcnneeimkcnjfaaStI
import Derived.Test.YtcnneeimkcnjfaaStT
namespace Go.Proofs.Ytcnneeimkcnjfaa.Sta
open Go.RowKit Bnd Knw
set_option linter.unusedVariables false
set_option linter.unusedSimpArgs false
set_option linter.unnecessarySimpa false
set_option maxRecDepth 100000
theorem faStJ35_0_0 (g:Nat) (w:World):(Instr.fieldAt 35 (.pointer (some ⟨g,0,none⟩)) 0).run Try.prog w=.ok (.pointer (some ⟨g,0,none⟩)) w:=by simp [go_sem]
theorem faStJ39_0_0 (g:Nat) (w:World):(Instr.fieldAt 39 (.pointer (some ⟨g,0,none⟩)) 0).run Try.prog w=.ok (.pointer (some ⟨g,0,none⟩)) w:=by simp [go_sem]
theorem faStJ39_1_0 (g:Nat) (w:World):(Instr.fieldAt 39 (.pointer (some ⟨g,0,none⟩)) 1).run Try.prog w=.ok (.pointer (some ⟨g,11,none⟩)) w:=by simp [go_sem]
theorem faStJ39_2_0 (g:Nat) (w:World):(Instr.fieldAt 39 (.pointer (some ⟨g,0,none⟩)) 2).run Try.prog w=.ok (.pointer (some ⟨g,12,none⟩)) w:=by simp [go_sem]
theorem faStJ35_1_0 (g:Nat) (w:World):(Instr.fieldAt 35 (.pointer (some ⟨g,0,none⟩)) 1).run Try.prog w=.ok (.pointer (some ⟨g,99,none⟩)) w:=by simp [go_sem]
theorem faStJ29_0_0 (g:Nat) (w:World):(Instr.fieldAt 29 (.pointer (some ⟨g,0,none⟩)) 0).run Try.prog w=.ok (.pointer (some ⟨g,0,none⟩)) w:=by simp [go_sem]
theorem faStJ25_1_0 (g:Nat) (w:World):(Instr.fieldAt 25 (.pointer (some ⟨g,0,none⟩)) 1).run Try.prog w=.ok (.pointer (some ⟨g,1,none⟩)) w:=by simp [go_sem]
theorem faStJ29_1_0 (g:Nat) (w:World):(Instr.fieldAt 29 (.pointer (some ⟨g,0,none⟩)) 1).run Try.prog w=.ok (.pointer (some ⟨g,4,none⟩)) w:=by simp [go_sem]
theorem faStJ31_0_0 (g:Nat) (w:World):(Instr.fieldAt 31 (.pointer (some ⟨g,0,none⟩)) 0).run Try.prog w=.ok (.pointer (some ⟨g,0,none⟩)) w:=by simp [go_sem]
theorem fxStJ31_0 (g o:Nat) (w:World):(Instr.fieldAt 31 (.pointer (some ⟨g,o,none⟩)) 0).run Try.prog w=.ok (.pointer (some ⟨g,o,none⟩)) w:=by simp [go_sem]
theorem ne0_of {t:Ty} {b:Bool} (h:(t.kd != 0)=b):t.unB=!b:=by
  unfold Ty.unB
  cases e:t.kd == 0 <;> simp_all [bne]
theorem bt0_of {x:Snp} {k:Nat} {b:Bool} (h:((x.set / 2 ^ k % 2) == 0)=b):Snp.bit x k=!b:=by
  subst h
  unfold Snp.bit
  rw [Bool.eq_iff_iff]
  simp only [beq_iff_eq,Bool.not_eq_true',beq_eq_false_iff_ne,ne_eq]
  omega
set_option maxHeartbeats 4000000 in
theorem qhas_n (a:St) (x:Snp) (W:World) (ha:OkS a) (hx:x.Ok):Calls Try.prog 22 #[.agg (stC a),.agg (snC x)] W fun e w'=>e=.returned (.bool (hasS a x)) ∧ Below W.heap.size W w':=by
  have HA:=Lib.hid ha
  have HX:=Lib.hid hx
  clear ha hx
  refine calls_abs Try.func22 rfl (Nat.le_of_ble_eq_true rfl) ?_
  intro a0 d0 z0 h0
  replace z0:a0.tmps.size=68:=z0
  have s0_0:a0.tmps.getD 0 undef=.agg (stC a):=h0 0 (Nat.le_of_ble_eq_true rfl)
  have s1_0:a0.tmps.getD 1 undef=.agg (snC x):=h0 1 (Nat.le_of_ble_eq_true rfl)
  refine wp_seq ?_
  refine go_reg [] [⟨0,2,35,(stC a),none,#[]⟩,⟨1,3,39,(snC x),none,#[]⟩] [none,none,oF] mo d0 z0 (Below.refl _ _) (by kernel_rfl) trivial (
   hk (fun cx=>cx.al (wn rfl) 0 rfl (ex_box rfl (cx.rq 0 s0_0) rfl) rfl rfl rfl rfl rfl trivial) <|
   hk (fun cx=>cx.al (wn rfl) 1 rfl (ex_box rfl (cx.rq 1 s1_0) rfl) rfl rfl rfl rfl rfl trivial) <|
   hk (fun cx=>cx.q (ex_as rfl rfl)) <|
   hn) ?_
  intro a1 w1 f1
  obtain ⟨g1,u_g1,q_g1,b_g1⟩:=f1.al.1
  obtain ⟨g2,u_g2,q_g2,b_g2⟩:=f1.al.2.1
  refine wp_seq ?_
  refine wp_seq ?_
  cases fk1:okS a
  case false=>
   have Ffk1:=Lib.hid fk1;clear fk1
   refine go_reg [bx g1 35 (stC a)] [] [some (.agg (stC a)),oF,oT] mo f1.d f1.z f1.b (by kernel_rfl) ⟨b_g1,trivial⟩ (
    hk (fun cx=>cx.q (ldSt rfl (cx.rq 2 u_g1) (cx.rn 0 rfl))) <|
    hc (fun _ _ wx cx=>cx.c rfl (args1 (cx.u 0 rfl)) Try.func16 (by decide +kernel) (qmay_n a wx) rfl (congrArg Value.bool Ffk1.out)) <|
    hk (fun cx=>cx.q (ex_not (x:=.tmp 10) rfl (cx.u 0 rfl))) <|
    hn) ?_
   intro a2 w2 f2
   refine wp_cond_true (f2.v 2 rfl rfl rfl) ?_
   refine wp_seq ?_
   refine go_reg [] [] [oF] mo f2.d f2.z f2.b (by kernel_rfl) trivial (
    hk (fun cx=>cx.q (ex_as rfl rfl)) <|
    hn) ?_
   intro a3 w3 f3
   refine wp_ret ?_
   try simp only [Exit.inBlock,Exit.then]
   refine bodyPost_ret (res_t (fn:=Try.f22) rfl (f3.v 0 rfl rfl rfl)) f3.d ?_
   have HE:(.bool false:Value)=.bool (hasS a x):=by unfold hasS;simp only [Ffk1.out,Bool.false_and,Bool.true_and]
   exact ⟨retV HE,f3.b⟩
  have Ffk1:=Lib.hid fk1;clear fk1
  refine go_reg [bx g1 35 (stC a)] [] [some (.agg (stC a)),oT,oF] mo f1.d f1.z f1.b (by kernel_rfl) ⟨b_g1,trivial⟩ (
   hk (fun cx=>cx.q (ldSt rfl (cx.rq 2 u_g1) (cx.rn 0 rfl))) <|
   hc (fun _ _ wx cx=>cx.c rfl (args1 (cx.u 0 rfl)) Try.func16 (by decide +kernel) (qmay_n a wx) rfl (congrArg Value.bool Ffk1.out)) <|
   hk (fun cx=>cx.q (ex_not (x:=.tmp 10) rfl (cx.u 0 rfl))) <|
   hn) ?_
  intro a4 w4 f4
  refine wp_cond_false (f4.v 2 rfl rfl rfl) ?_
  refine wp_skip ?_
  refine wp_seq ?_
  refine wp_seq ?_
  refine go_reg [] [] [some (.int .i64 0)] mo f4.d f4.z f4.b (by kernel_rfl) trivial (
   hk (fun cx=>cx.q (ex_as rfl rfl)) <|
   hn) ?_
  intro a5 w5 f5
  refine wp_block ?_
  have neL1_0_1:=(ne_ptr (pairAt f1.ps 0 1 (by decide) rfl rfl) u_g1 u_g2)
  have s2_1:=f5.q 2 (f4.q 2 u_g1)
  have s3_2:=f5.q 3 (f4.q 3 u_g2)
  have b_g1_3:=f5.k (f4.k b_g1)
  have b_g2_4:=f5.k (f4.k b_g2)
  refine wp_count 11 (fun k1 aI wI=>allN (hasR a x) k1=true ∧ Mid 68 W [(2,.pointer (some ⟨g1,0,none⟩)),(3,.pointer (some ⟨g2,0,none⟩)),(5,.int .i64 (k1:Int))] [(g1,35,(stC a)),(g2,39,(snC x))] aI wI) ⟨rfl,f5.d,f5.z,f5.b,⟨s2_1,s3_2,(f5.v 0 rfl rfl rfl),trivial⟩,⟨b_g1_3,b_g2_4,trivial⟩⟩ ?_
  intro k1 aL1 wL1 hlek1 hI1
  obtain ⟨hp1,dL1,zL1,BL1,⟨sL1_2,sL1_3,sL1_5,-⟩,⟨bL1_g1,bL1_g2,-⟩⟩:=hI1
  replace sL1_2:aL1.tmps.getD 2 undef=.pointer (some ⟨g1,0,none⟩):=sL1_2
  replace sL1_3:aL1.tmps.getD 3 undef=.pointer (some ⟨g2,0,none⟩):=sL1_3
  replace sL1_5:aL1.tmps.getD 5 undef=.int .i64 (k1:Int):=sL1_5
  replace bL1_g1:wL1.heap[g1]?=some (.cells (stC a) 35 (0,0)):=bL1_g1
  replace bL1_g2:wL1.heap[g2]?=some (.cells (snC x) 39 (0,0)):=bL1_g2
  refine wp_seq ?_
  refine wp_seq ?_
  cases fk2:decide ((k1:Int) < 11)
  case true=>
   have Ffk2:=Lib.hid fk2;clear fk2
   have hlt1:k1 < 11:=by have:=Ffk2.out;simp only [decide_eq_true_eq] at this;omega
   refine go_reg [] [] [some (.int .i64 (k1:Int)),oT] mo dL1 zL1 BL1 (by kernel_rfl) trivial (
    hk (fun cx=>cx.q (ex_mv rfl (cx.rq 5 sL1_5))) <|
    hk (fun cx=>cx.v (ex_lt (x:=.tmp 12) rfl (cx.u 0 rfl) rfl) rfl (congrArg Value.bool Ffk2.out)) <|
    hn) ?_
   intro a6 w6 f6
   refine wp_cond_true (f6.v 1 rfl rfl rfl) ?_
   refine wp_skip ?_
   refine wp_seq ?_
   refine wp_block ?_
   refine wp_seq ?_
   cases fk3:(a k1).kd != 0
   case false=>
    have Ffk3:=Lib.hid fk3;clear fk3
    cases fk4:Ty.holdB (a k1) (x.r k1)
    case false=>
     have Ffk4:=Lib.hid fk4;clear fk4
     have b_g1_5:=f6.k bL1_g1
     have b_g2_6:=f6.k bL1_g2
     have s5_7:=f6.q 5 sL1_5
     have s2_8:=f6.q 2 sL1_2
     have s3_9:=f6.q 3 sL1_3
     refine go_reg [bx g1 35 (stC a),bx g2 39 (snC x)] [] (tabs [some (.int .i64 (k1:Int)),some (pt g1 0),some (pt g1 (9 * k1)),some (pt g1 (9 * k1)),some (.int .i8 (a k1).kd),oF,oF,oU,oU,oU,oU,oU,oU,oF,oF,some (.int .i64 (k1:Int)),some (pt g1 0),some (pt g1 (9 * k1)),some (.agg (tyC (a k1))),some (.int .i64 (k1:Int))] [some (pt g2 0),some (pt g2 (k1)),some (.int .u64 (V (x.r k1))),oF,oT,oT]) mo f6.d f6.z f6.b (by kernel_rfl) ⟨b_g1_5,b_g2_6,trivial⟩ (
      hk (fun cx=>cx.q (ex_mv rfl (cx.rq 5 s5_7))) <|
      hk (fun cx=>cx.q (ex_fa rfl (cx.rq 2 s2_8) (faStJ35_0_0 _ _))) <|
      hk (fun cx=>cx.v (ex_ia (n:=11) (sz:=9) rfl (cx.u 0 rfl) (cx.u 1 rfl) Try.underlying32 (by kernel_rfl) (by omega) (by omega) (by omega)) rfl rfl) <|
      hk (fun cx=>cx.q (ex_fa rfl (cx.u 0 rfl) (fxStJ31_0 _ _ _))) <|
      hk (fun cx=>cx.v (ldKd (by omega) rfl (cx.u 0 rfl) (cx.rn 0 rfl)) rfl rfl) <|
      hk (fun cx=>cx.v (ex_ne (x:=.tmp 20) rfl (cx.u 0 rfl) rfl) rfl (congrArg Value.bool Ffk3.out)) <|
      kmu 0 <|
      kno 0 <|
      kno 1 <|
      kno 0 <|
      kno 2 <|
      kno 1 <|
      kno 1 <|
      hk (fun cx=>cx.q (ex_pf rfl (cx.u 0 rfl) rfl)) <|
      kmu 0 <|
      hk (fun cx=>cx.vy 0 (ex_mv rfl (cx.rq 5 s5_7))) <|
      hk (fun cx=>cx.vy 0 (ex_fa rfl (cx.rq 2 s2_8) (faStJ35_0_0 _ _))) <|
      hk (fun cx=>cx.vy 2 (ex_ia (n:=11) (sz:=9) rfl (cx.u 0 rfl) (cx.u 1 rfl) Try.underlying32 (by kernel_rfl) (by omega) (by omega) (by omega)) rfl) <|
      hk (fun cx=>cx.vy 1 (ldEl (by omega) rfl (cx.u 0 rfl) (cx.rn 0 rfl)) rfl) <|
      hk (fun cx=>cx.vy 0 (ex_mv rfl (cx.rq 5 s5_7))) <|
      hk (fun cx=>cx.vy 0 (ex_fa rfl (cx.rq 3 s3_9) (faStJ39_0_0 _ _))) <|
      hk (fun cx=>cx.vy 2 (ex_ia (n:=11) (sz:=1) rfl (cx.u 0 rfl) (cx.u 1 rfl) Try.underlying36 (by kernel_rfl) (by omega) (by omega) (by omega)) rfl) <|
      hk (fun cx=>cx.vy 1 (ldReg (by omega) rfl (cx.u 0 rfl) (cx.rn 1 rfl)) rfl) <|
      hc (fun _ _ wx cx=>cx.call (cx.wy rfl rfl rfl rfl (cx.u 2 rfl)) rfl rfl (args2 (cx.u 0 rfl) (cx.u 1 rfl)) Try.func20 (by decide +kernel) rfl (qholds_n (a k1) (x.r k1) wx (HA.out _ (by omega))) rfl rfl (congrArg Value.bool Ffk4.out) rfl) <|
      hk (fun cx=>cx.vy 1 (ex_not (x:=.tmp 39) rfl (cx.u 0 rfl))) <|
      hk (fun cx=>cx.q (ex_pf rfl (cx.u 0 rfl) (cx.u 1 rfl))) <|
      hn) ?_
     intro a7 w7 f7
     refine wp_cond_true (f7.v 25 rfl rfl rfl) ?_
     refine wp_seq ?_
     refine go_reg [] [] [oF] mo f7.d f7.z f7.b (by kernel_rfl) trivial (
      hk (fun cx=>cx.q (ex_as rfl rfl)) <|
      hn) ?_
     intro a8 w8 f8
     refine wp_ret ?_
     try simp only [Exit.inBlock,Exit.then]
     refine bodyPost_ret (res_t (fn:=Try.f22) rfl (f8.v 0 rfl rfl rfl)) f8.d ?_
     have HN:=allN_no (p:=hasR a x) hlt1 (show hasR a x k1=false from by show ((Snp.bit x k1 || Ty.unB (a k1)) && Ty.holdB (a k1) (x.r k1))=_;simp only [ne0_of Ffk3.out,Ffk4.out,Bool.not_true,Bool.not_false,Bool.false_and,Bool.true_and,Bool.and_false,Bool.and_true,Bool.or_true,Bool.true_or,Bool.false_or,Bool.or_false])
     have HE:(.bool false:Value)=.bool (hasS a x):=by unfold hasS;simp only [HN,Bool.and_false,Bool.false_and]
     exact ⟨retV HE,f8.b⟩
    have Ffk4:=Lib.hid fk4;clear fk4
    have b_g1_10:=f6.k bL1_g1
    have b_g2_11:=f6.k bL1_g2
    have s5_12:=f6.q 5 sL1_5
    have s2_13:=f6.q 2 sL1_2
    have s3_14:=f6.q 3 sL1_3
    refine go_reg [bx g1 35 (stC a),bx g2 39 (snC x)] [] (tabs [some (.int .i64 (k1:Int)),some (pt g1 0),some (pt g1 (9 * k1)),some (pt g1 (9 * k1)),some (.int .i8 (a k1).kd),oF,oF,oU,oU,oU,oU,oU,oU,oF,oF,some (.int .i64 (k1:Int)),some (pt g1 0),some (pt g1 (9 * k1)),some (.agg (tyC (a k1))),some (.int .i64 (k1:Int))] [some (pt g2 0),some (pt g2 (k1)),some (.int .u64 (V (x.r k1))),oT,oF,oF]) mo f6.d f6.z f6.b (by kernel_rfl) ⟨b_g1_10,b_g2_11,trivial⟩ (
     hk (fun cx=>cx.q (ex_mv rfl (cx.rq 5 s5_12))) <|
     hk (fun cx=>cx.q (ex_fa rfl (cx.rq 2 s2_13) (faStJ35_0_0 _ _))) <|
     hk (fun cx=>cx.v (ex_ia (n:=11) (sz:=9) rfl (cx.u 0 rfl) (cx.u 1 rfl) Try.underlying32 (by kernel_rfl) (by omega) (by omega) (by omega)) rfl rfl) <|
     hk (fun cx=>cx.q (ex_fa rfl (cx.u 0 rfl) (fxStJ31_0 _ _ _))) <|
     hk (fun cx=>cx.v (ldKd (by omega) rfl (cx.u 0 rfl) (cx.rn 0 rfl)) rfl rfl) <|
     hk (fun cx=>cx.v (ex_ne (x:=.tmp 20) rfl (cx.u 0 rfl) rfl) rfl (congrArg Value.bool Ffk3.out)) <|
     kmu 0 <|
     kno 0 <|
     kno 1 <|
     kno 0 <|
     kno 2 <|
     kno 1 <|
     kno 1 <|
     hk (fun cx=>cx.q (ex_pf rfl (cx.u 0 rfl) rfl)) <|
     kmu 0 <|
     hk (fun cx=>cx.vy 0 (ex_mv rfl (cx.rq 5 s5_12))) <|
     hk (fun cx=>cx.vy 0 (ex_fa rfl (cx.rq 2 s2_13) (faStJ35_0_0 _ _))) <|
     hk (fun cx=>cx.vy 2 (ex_ia (n:=11) (sz:=9) rfl (cx.u 0 rfl) (cx.u 1 rfl) Try.underlying32 (by kernel_rfl) (by omega) (by omega) (by omega)) rfl) <|
     hk (fun cx=>cx.vy 1 (ldEl (by omega) rfl (cx.u 0 rfl) (cx.rn 0 rfl)) rfl) <|
     hk (fun cx=>cx.vy 0 (ex_mv rfl (cx.rq 5 s5_12))) <|
     hk (fun cx=>cx.vy 0 (ex_fa rfl (cx.rq 3 s3_14) (faStJ39_0_0 _ _))) <|
     hk (fun cx=>cx.vy 2 (ex_ia (n:=11) (sz:=1) rfl (cx.u 0 rfl) (cx.u 1 rfl) Try.underlying36 (by kernel_rfl) (by omega) (by omega) (by omega)) rfl) <|
     hk (fun cx=>cx.vy 1 (ldReg (by omega) rfl (cx.u 0 rfl) (cx.rn 1 rfl)) rfl) <|
     hc (fun _ _ wx cx=>cx.call (cx.wy rfl rfl rfl rfl (cx.u 2 rfl)) rfl rfl (args2 (cx.u 0 rfl) (cx.u 1 rfl)) Try.func20 (by decide +kernel) rfl (qholds_n (a k1) (x.r k1) wx (HA.out _ (by omega))) rfl rfl (congrArg Value.bool Ffk4.out) rfl) <|
     hk (fun cx=>cx.vy 1 (ex_not (x:=.tmp 39) rfl (cx.u 0 rfl))) <|
     hk (fun cx=>cx.q (ex_pf rfl (cx.u 0 rfl) (cx.u 1 rfl))) <|
     hn) ?_
    intro a9 w9 f9
    refine wp_cond_false (f9.v 25 rfl rfl rfl) ?_
    refine wp_skip ?_
    have s5_15:=f9.q 5 s5_12
    refine go_reg [] [] [some (.int .i64 (k1:Int)),some (.int .i64 ((k1 + 1:Nat):Int)),some (.int .i64 ((k1 + 1:Nat):Int))] mo f9.d f9.z f9.b (by kernel_rfl) trivial (
     hk (fun cx=>cx.q (ex_mv rfl (cx.un 2 rfl rfl (by kernel_rfl) s5_15))) <|
     hk (fun cx=>cx.v (ex_add (x:=.tmp 14) rfl (cx.u 0 rfl) rfl) rfl (congrArg (Value.int .i64) (wrapk hlt1 (by decide)))) <|
     kmu 0 <|
     hn) ?_
    intro a10 w10 f10
    have s2_16:=f10.q 2 (f9.q 2 s2_13)
    have s3_17:=f10.q 3 (f9.q 3 s3_14)
    have b_g1_18:=f10.k (f9.k b_g1_10)
    have b_g2_19:=f10.k (f9.k b_g2_11)
    exact ⟨hlt1,allN_step (p:=hasR a x) hp1 (show hasR a x k1=true from by show ((Snp.bit x k1 || Ty.unB (a k1)) && Ty.holdB (a k1) (x.r k1))=_;simp only [ne0_of Ffk3.out,Ffk4.out,Bool.not_true,Bool.not_false,Bool.false_and,Bool.true_and,Bool.and_false,Bool.and_true,Bool.or_true,Bool.true_or,Bool.false_or,Bool.or_false]),f10.d,f10.z,f10.b,⟨s2_16,s3_17,(f10.v 2 rfl rfl rfl),trivial⟩,⟨b_g1_18,b_g2_19,trivial⟩⟩
   have Ffk3:=Lib.hid fk3;clear fk3
   cases fk5:(x.set / 2 ^ k1 % 2) == 0
   case false=>
    have Ffk5:=Lib.hid fk5;clear fk5
    cases fk6:Ty.holdB (a k1) (x.r k1)
    case false=>
     have Ffk6:=Lib.hid fk6;clear fk6
     have b_g1_20:=f6.k bL1_g1
     have b_g2_21:=f6.k bL1_g2
     have s5_22:=f6.q 5 sL1_5
     have s2_23:=f6.q 2 sL1_2
     have s3_24:=f6.q 3 sL1_3
     refine go_reg [bx g1 35 (stC a),bx g2 39 (snC x)] [] (tabs [some (.int .i64 (k1:Int)),some (pt g1 0),some (pt g1 (9 * k1)),some (pt g1 (9 * k1)),some (.int .i8 (a k1).kd),oT,oT,some (pt g2 11),some (.int .i64 x.set),some (.int .i64 (k1:Int)),some (.int .i64 (x.set / 2 ^ k1)),some (.int .i64 (x.set / 2 ^ k1 % 2)),oF,oF,oF,some (.int .i64 (k1:Int)),some (pt g1 0),some (pt g1 (9 * k1)),some (.agg (tyC (a k1))),some (.int .i64 (k1:Int))] [some (pt g2 0),some (pt g2 (k1)),some (.int .u64 (V (x.r k1))),oF,oT,oT]) mo f6.d f6.z f6.b (by kernel_rfl) ⟨b_g1_20,b_g2_21,trivial⟩ (
      hk (fun cx=>cx.q (ex_mv rfl (cx.rq 5 s5_22))) <|
      hk (fun cx=>cx.q (ex_fa rfl (cx.rq 2 s2_23) (faStJ35_0_0 _ _))) <|
      hk (fun cx=>cx.v (ex_ia (n:=11) (sz:=9) rfl (cx.u 0 rfl) (cx.u 1 rfl) Try.underlying32 (by kernel_rfl) (by omega) (by omega) (by omega)) rfl rfl) <|
      hk (fun cx=>cx.q (ex_fa rfl (cx.u 0 rfl) (fxStJ31_0 _ _ _))) <|
      hk (fun cx=>cx.v (ldKd (by omega) rfl (cx.u 0 rfl) (cx.rn 0 rfl)) rfl rfl) <|
      hk (fun cx=>cx.v (ex_ne (x:=.tmp 20) rfl (cx.u 0 rfl) rfl) rfl (congrArg Value.bool Ffk3.out)) <|
      kmu 0 <|
      hk (fun cx=>cx.vy 0 (ex_fa rfl (cx.rq 3 s3_24) (faStJ39_1_0 _ _))) <|
      hk (fun cx=>cx.vy 1 (ldSet rfl (cx.u 0 rfl) (cx.rn 1 rfl))) <|
      hk (fun cx=>cx.vy 0 (ex_mv rfl (cx.rq 5 s5_22))) <|
      hk (fun cx=>cx.vy 2 (ex_shri (x:=.tmp 24) (y:=.tmp 25) rfl (cx.u 0 rfl) (cx.u 1 rfl) (by omega)) rfl) <|
      hk (fun cx=>cx.vy 1 (ex_and (x:=.tmp 26) rfl (cx.u 0 rfl) rfl) (congrArg (Value.int .i64) (and_1k wS _))) <|
      hk (fun cx=>cx.vy 1 (ex_eq (x:=.tmp 27) rfl (cx.u 0 rfl) rfl) (congrArg Value.bool Ffk5.out)) <|
      hk (fun cx=>cx.q (ex_pt rfl (cx.u 0 rfl) (cx.u 1 rfl))) <|
      kmu 0 <|
      hk (fun cx=>cx.vy 0 (ex_mv rfl (cx.rq 5 s5_22))) <|
      hk (fun cx=>cx.vy 0 (ex_fa rfl (cx.rq 2 s2_23) (faStJ35_0_0 _ _))) <|
      hk (fun cx=>cx.vy 2 (ex_ia (n:=11) (sz:=9) rfl (cx.u 0 rfl) (cx.u 1 rfl) Try.underlying32 (by kernel_rfl) (by omega) (by omega) (by omega)) rfl) <|
      hk (fun cx=>cx.vy 1 (ldEl (by omega) rfl (cx.u 0 rfl) (cx.rn 0 rfl)) rfl) <|
      hk (fun cx=>cx.vy 0 (ex_mv rfl (cx.rq 5 s5_22))) <|
      hk (fun cx=>cx.vy 0 (ex_fa rfl (cx.rq 3 s3_24) (faStJ39_0_0 _ _))) <|
      hk (fun cx=>cx.vy 2 (ex_ia (n:=11) (sz:=1) rfl (cx.u 0 rfl) (cx.u 1 rfl) Try.underlying36 (by kernel_rfl) (by omega) (by omega) (by omega)) rfl) <|
      hk (fun cx=>cx.vy 1 (ldReg (by omega) rfl (cx.u 0 rfl) (cx.rn 1 rfl)) rfl) <|
      hc (fun _ _ wx cx=>cx.call (cx.wy rfl rfl rfl rfl (cx.u 2 rfl)) rfl rfl (args2 (cx.u 0 rfl) (cx.u 1 rfl)) Try.func20 (by decide +kernel) rfl (qholds_n (a k1) (x.r k1) wx (HA.out _ (by omega))) rfl rfl (congrArg Value.bool Ffk6.out) rfl) <|
      hk (fun cx=>cx.vy 1 (ex_not (x:=.tmp 39) rfl (cx.u 0 rfl))) <|
      hk (fun cx=>cx.q (ex_pf rfl (cx.u 0 rfl) (cx.u 1 rfl))) <|
      hn) ?_
     intro a11 w11 f11
     refine wp_cond_true (f11.v 25 rfl rfl rfl) ?_
     refine wp_seq ?_
     refine go_reg [] [] [oF] mo f11.d f11.z f11.b (by kernel_rfl) trivial (
      hk (fun cx=>cx.q (ex_as rfl rfl)) <|
      hn) ?_
     intro a12 w12 f12
     refine wp_ret ?_
     try simp only [Exit.inBlock,Exit.then]
     refine bodyPost_ret (res_t (fn:=Try.f22) rfl (f12.v 0 rfl rfl rfl)) f12.d ?_
     have HN:=allN_no (p:=hasR a x) hlt1 (show hasR a x k1=false from by show ((Snp.bit x k1 || Ty.unB (a k1)) && Ty.holdB (a k1) (x.r k1))=_;simp only [ne0_of Ffk3.out,bt0_of Ffk5.out,Ffk6.out,Bool.not_true,Bool.not_false,Bool.false_and,Bool.true_and,Bool.and_false,Bool.and_true,Bool.or_true,Bool.true_or,Bool.false_or,Bool.or_false])
     have HE:(.bool false:Value)=.bool (hasS a x):=by unfold hasS;simp only [HN,Bool.and_false,Bool.false_and]
     exact ⟨retV HE,f12.b⟩
    have Ffk6:=Lib.hid fk6;clear fk6
    have b_g1_25:=f6.k bL1_g1
    have b_g2_26:=f6.k bL1_g2
    have s5_27:=f6.q 5 sL1_5
    have s2_28:=f6.q 2 sL1_2
    have s3_29:=f6.q 3 sL1_3
    refine go_reg [bx g1 35 (stC a),bx g2 39 (snC x)] [] (tabs [some (.int .i64 (k1:Int)),some (pt g1 0),some (pt g1 (9 * k1)),some (pt g1 (9 * k1)),some (.int .i8 (a k1).kd),oT,oT,some (pt g2 11),some (.int .i64 x.set),some (.int .i64 (k1:Int)),some (.int .i64 (x.set / 2 ^ k1)),some (.int .i64 (x.set / 2 ^ k1 % 2)),oF,oF,oF,some (.int .i64 (k1:Int)),some (pt g1 0),some (pt g1 (9 * k1)),some (.agg (tyC (a k1))),some (.int .i64 (k1:Int))] [some (pt g2 0),some (pt g2 (k1)),some (.int .u64 (V (x.r k1))),oT,oF,oF]) mo f6.d f6.z f6.b (by kernel_rfl) ⟨b_g1_25,b_g2_26,trivial⟩ (
     hk (fun cx=>cx.q (ex_mv rfl (cx.rq 5 s5_27))) <|
     hk (fun cx=>cx.q (ex_fa rfl (cx.rq 2 s2_28) (faStJ35_0_0 _ _))) <|
     hk (fun cx=>cx.v (ex_ia (n:=11) (sz:=9) rfl (cx.u 0 rfl) (cx.u 1 rfl) Try.underlying32 (by kernel_rfl) (by omega) (by omega) (by omega)) rfl rfl) <|
     hk (fun cx=>cx.q (ex_fa rfl (cx.u 0 rfl) (fxStJ31_0 _ _ _))) <|
     hk (fun cx=>cx.v (ldKd (by omega) rfl (cx.u 0 rfl) (cx.rn 0 rfl)) rfl rfl) <|
     hk (fun cx=>cx.v (ex_ne (x:=.tmp 20) rfl (cx.u 0 rfl) rfl) rfl (congrArg Value.bool Ffk3.out)) <|
     kmu 0 <|
     hk (fun cx=>cx.vy 0 (ex_fa rfl (cx.rq 3 s3_29) (faStJ39_1_0 _ _))) <|
     hk (fun cx=>cx.vy 1 (ldSet rfl (cx.u 0 rfl) (cx.rn 1 rfl))) <|
     hk (fun cx=>cx.vy 0 (ex_mv rfl (cx.rq 5 s5_27))) <|
     hk (fun cx=>cx.vy 2 (ex_shri (x:=.tmp 24) (y:=.tmp 25) rfl (cx.u 0 rfl) (cx.u 1 rfl) (by omega)) rfl) <|
     hk (fun cx=>cx.vy 1 (ex_and (x:=.tmp 26) rfl (cx.u 0 rfl) rfl) (congrArg (Value.int .i64) (and_1k wS _))) <|
     hk (fun cx=>cx.vy 1 (ex_eq (x:=.tmp 27) rfl (cx.u 0 rfl) rfl) (congrArg Value.bool Ffk5.out)) <|
     hk (fun cx=>cx.q (ex_pt rfl (cx.u 0 rfl) (cx.u 1 rfl))) <|
     kmu 0 <|
     hk (fun cx=>cx.vy 0 (ex_mv rfl (cx.rq 5 s5_27))) <|
     hk (fun cx=>cx.vy 0 (ex_fa rfl (cx.rq 2 s2_28) (faStJ35_0_0 _ _))) <|
     hk (fun cx=>cx.vy 2 (ex_ia (n:=11) (sz:=9) rfl (cx.u 0 rfl) (cx.u 1 rfl) Try.underlying32 (by kernel_rfl) (by omega) (by omega) (by omega)) rfl) <|
     hk (fun cx=>cx.vy 1 (ldEl (by omega) rfl (cx.u 0 rfl) (cx.rn 0 rfl)) rfl) <|
     hk (fun cx=>cx.vy 0 (ex_mv rfl (cx.rq 5 s5_27))) <|
     hk (fun cx=>cx.vy 0 (ex_fa rfl (cx.rq 3 s3_29) (faStJ39_0_0 _ _))) <|
     hk (fun cx=>cx.vy 2 (ex_ia (n:=11) (sz:=1) rfl (cx.u 0 rfl) (cx.u 1 rfl) Try.underlying36 (by kernel_rfl) (by omega) (by omega) (by omega)) rfl) <|
     hk (fun cx=>cx.vy 1 (ldReg (by omega) rfl (cx.u 0 rfl) (cx.rn 1 rfl)) rfl) <|
     hc (fun _ _ wx cx=>cx.call (cx.wy rfl rfl rfl rfl (cx.u 2 rfl)) rfl rfl (args2 (cx.u 0 rfl) (cx.u 1 rfl)) Try.func20 (by decide +kernel) rfl (qholds_n (a k1) (x.r k1) wx (HA.out _ (by omega))) rfl rfl (congrArg Value.bool Ffk6.out) rfl) <|
     hk (fun cx=>cx.vy 1 (ex_not (x:=.tmp 39) rfl (cx.u 0 rfl))) <|
     hk (fun cx=>cx.q (ex_pf rfl (cx.u 0 rfl) (cx.u 1 rfl))) <|
     hn) ?_
    intro a13 w13 f13
    refine wp_cond_false (f13.v 25 rfl rfl rfl) ?_
    refine wp_skip ?_
    have s5_30:=f13.q 5 s5_27
    refine go_reg [] [] [some (.int .i64 (k1:Int)),some (.int .i64 ((k1 + 1:Nat):Int)),some (.int .i64 ((k1 + 1:Nat):Int))] mo f13.d f13.z f13.b (by kernel_rfl) trivial (
     hk (fun cx=>cx.q (ex_mv rfl (cx.un 2 rfl rfl (by kernel_rfl) s5_30))) <|
     hk (fun cx=>cx.v (ex_add (x:=.tmp 14) rfl (cx.u 0 rfl) rfl) rfl (congrArg (Value.int .i64) (wrapk hlt1 (by decide)))) <|
     kmu 0 <|
     hn) ?_
    intro a14 w14 f14
    have s2_31:=f14.q 2 (f13.q 2 s2_28)
    have s3_32:=f14.q 3 (f13.q 3 s3_29)
    have b_g1_33:=f14.k (f13.k b_g1_25)
    have b_g2_34:=f14.k (f13.k b_g2_26)
    exact ⟨hlt1,allN_step (p:=hasR a x) hp1 (show hasR a x k1=true from by show ((Snp.bit x k1 || Ty.unB (a k1)) && Ty.holdB (a k1) (x.r k1))=_;simp only [ne0_of Ffk3.out,bt0_of Ffk5.out,Ffk6.out,Bool.not_true,Bool.not_false,Bool.false_and,Bool.true_and,Bool.and_false,Bool.and_true,Bool.or_true,Bool.true_or,Bool.false_or,Bool.or_false]),f14.d,f14.z,f14.b,⟨s2_31,s3_32,(f14.v 2 rfl rfl rfl),trivial⟩,⟨b_g1_33,b_g2_34,trivial⟩⟩
   have Ffk5:=Lib.hid fk5;clear fk5
   have b_g1_35:=f6.k bL1_g1
   have b_g2_36:=f6.k bL1_g2
   have s5_37:=f6.q 5 sL1_5
   have s2_38:=f6.q 2 sL1_2
   have s3_39:=f6.q 3 sL1_3
   refine go_reg [bx g1 35 (stC a),bx g2 39 (snC x)] [] (tabs [some (.int .i64 (k1:Int)),some (pt g1 0),some (pt g1 (9 * k1)),some (pt g1 (9 * k1)),some (.int .i8 (a k1).kd),oT,oT,some (pt g2 11),some (.int .i64 x.set),some (.int .i64 (k1:Int)),some (.int .i64 (x.set / 2 ^ k1)),some (.int .i64 (x.set / 2 ^ k1 % 2)),oT,oT,oT,oU,oU,oU,oU,oU] [oU,oU,oU,oU,oU,oT]) mo f6.d f6.z f6.b (by kernel_rfl) ⟨b_g1_35,b_g2_36,trivial⟩ (
    hk (fun cx=>cx.q (ex_mv rfl (cx.rq 5 s5_37))) <|
    hk (fun cx=>cx.q (ex_fa rfl (cx.rq 2 s2_38) (faStJ35_0_0 _ _))) <|
    hk (fun cx=>cx.v (ex_ia (n:=11) (sz:=9) rfl (cx.u 0 rfl) (cx.u 1 rfl) Try.underlying32 (by kernel_rfl) (by omega) (by omega) (by omega)) rfl rfl) <|
    hk (fun cx=>cx.q (ex_fa rfl (cx.u 0 rfl) (fxStJ31_0 _ _ _))) <|
    hk (fun cx=>cx.v (ldKd (by omega) rfl (cx.u 0 rfl) (cx.rn 0 rfl)) rfl rfl) <|
    hk (fun cx=>cx.v (ex_ne (x:=.tmp 20) rfl (cx.u 0 rfl) rfl) rfl (congrArg Value.bool Ffk3.out)) <|
    kmu 0 <|
    hk (fun cx=>cx.vy 0 (ex_fa rfl (cx.rq 3 s3_39) (faStJ39_1_0 _ _))) <|
    hk (fun cx=>cx.vy 1 (ldSet rfl (cx.u 0 rfl) (cx.rn 1 rfl))) <|
    hk (fun cx=>cx.vy 0 (ex_mv rfl (cx.rq 5 s5_37))) <|
    hk (fun cx=>cx.vy 2 (ex_shri (x:=.tmp 24) (y:=.tmp 25) rfl (cx.u 0 rfl) (cx.u 1 rfl) (by omega)) rfl) <|
    hk (fun cx=>cx.vy 1 (ex_and (x:=.tmp 26) rfl (cx.u 0 rfl) rfl) (congrArg (Value.int .i64) (and_1k wS _))) <|
    hk (fun cx=>cx.vy 1 (ex_eq (x:=.tmp 27) rfl (cx.u 0 rfl) rfl) (congrArg Value.bool Ffk5.out)) <|
    hk (fun cx=>cx.q (ex_pt rfl (cx.u 0 rfl) (cx.u 1 rfl))) <|
    kmu 0 <|
    kno 0 <|
    kno 0 <|
    kno 2 <|
    kno 1 <|
    kno 0 <|
    kno 0 <|
    kno 2 <|
    kno 1 <|
    kno 2 <|
    kno 1 <|
    hk (fun cx=>cx.q (ex_pt rfl (cx.u 0 rfl) rfl)) <|
    hn) ?_
   intro a15 w15 f15
   refine wp_cond_true (f15.v 25 rfl rfl rfl) ?_
   refine wp_seq ?_
   refine go_reg [] [] [oF] mo f15.d f15.z f15.b (by kernel_rfl) trivial (
    hk (fun cx=>cx.q (ex_as rfl rfl)) <|
    hn) ?_
   intro a16 w16 f16
   refine wp_ret ?_
   try simp only [Exit.inBlock,Exit.then]
   refine bodyPost_ret (res_t (fn:=Try.f22) rfl (f16.v 0 rfl rfl rfl)) f16.d ?_
   have HN:=allN_no (p:=hasR a x) hlt1 (show hasR a x k1=false from by show ((Snp.bit x k1 || Ty.unB (a k1)) && Ty.holdB (a k1) (x.r k1))=_;simp only [ne0_of Ffk3.out,bt0_of Ffk5.out,Bool.not_true,Bool.not_false,Bool.false_and,Bool.true_and,Bool.and_false,Bool.and_true,Bool.or_true,Bool.true_or,Bool.false_or,Bool.or_false])
   have HE:(.bool false:Value)=.bool (hasS a x):=by unfold hasS;simp only [HN,Bool.and_false,Bool.false_and]
   exact ⟨retV HE,f16.b⟩
  have Ffk2:=Lib.hid fk2;clear fk2
  have hge1:k1=11:=by have:=Ffk2.out;simp only [decide_eq_false_iff_not] at this;omega
  refine go_reg [] [] [some (.int .i64 (k1:Int)),oF] mo dL1 zL1 BL1 (by kernel_rfl) trivial (
   hk (fun cx=>cx.q (ex_mv rfl (cx.rq 5 sL1_5))) <|
   hk (fun cx=>cx.v (ex_lt (x:=.tmp 12) rfl (cx.u 0 rfl) rfl) rfl (congrArg Value.bool Ffk2.out)) <|
   hn) ?_
  intro a17 w17 f17
  refine wp_cond_false (f17.v 1 rfl rfl rfl) ?_
  refine wp_exit ?_
  simp only [Exit.then,Exit.inBlock,if_true]
  refine wp_seq ?_
  refine wp_seq ?_
  refine go_reg [] [] [some (.int .i64 0)] mo f17.d f17.z f17.b (by kernel_rfl) trivial (
   hk (fun cx=>cx.q (ex_as rfl rfl)) <|
   hn) ?_
  intro a18 w18 f18
  refine wp_block ?_
  have neL2_0_1:=neL1_0_1
  have s2_40:=f18.q 2 (f17.q 2 sL1_2)
  have s3_41:=f18.q 3 (f17.q 3 sL1_3)
  have b_g1_42:=f18.k (f17.k bL1_g1)
  have b_g2_43:=f18.k (f17.k bL1_g2)
  refine wp_count 8 (fun k2 aI wI=>allN (hasF a x) k2=true ∧ Mid 68 W [(2,.pointer (some ⟨g1,0,none⟩)),(3,.pointer (some ⟨g2,0,none⟩)),(6,.int .i64 (k2:Int))] [(g1,35,(stC a)),(g2,39,(snC x))] aI wI) ⟨rfl,f18.d,f18.z,f18.b,⟨s2_40,s3_41,(f18.v 0 rfl rfl rfl),trivial⟩,⟨b_g1_42,b_g2_43,trivial⟩⟩ ?_
  intro k2 aL2 wL2 hlek2 hI2
  obtain ⟨hp2,dL2,zL2,BL2,⟨sL2_2,sL2_3,sL2_6,-⟩,⟨bL2_g1,bL2_g2,-⟩⟩:=hI2
  replace sL2_2:aL2.tmps.getD 2 undef=.pointer (some ⟨g1,0,none⟩):=sL2_2
  replace sL2_3:aL2.tmps.getD 3 undef=.pointer (some ⟨g2,0,none⟩):=sL2_3
  replace sL2_6:aL2.tmps.getD 6 undef=.int .i64 (k2:Int):=sL2_6
  replace bL2_g1:wL2.heap[g1]?=some (.cells (stC a) 35 (0,0)):=bL2_g1
  replace bL2_g2:wL2.heap[g2]?=some (.cells (snC x) 39 (0,0)):=bL2_g2
  refine wp_seq ?_
  refine wp_seq ?_
  cases fk7:decide ((k2:Int) < 8)
  case true=>
   have Ffk7:=Lib.hid fk7;clear fk7
   have hlt2:k2 < 8:=by have:=Ffk7.out;simp only [decide_eq_true_eq] at this;omega
   refine go_reg [] [] [some (.int .i64 (k2:Int)),oT] mo dL2 zL2 BL2 (by kernel_rfl) trivial (
    hk (fun cx=>cx.q (ex_mv rfl (cx.rq 6 sL2_6))) <|
    hk (fun cx=>cx.v (ex_lt (x:=.tmp 42) rfl (cx.u 0 rfl) rfl) rfl (congrArg Value.bool Ffk7.out)) <|
    hn) ?_
   intro a19 w19 f19
   refine wp_cond_true (f19.v 1 rfl rfl rfl) ?_
   refine wp_skip ?_
   refine wp_seq ?_
   refine wp_block ?_
   refine wp_seq ?_
   refine go_reg [] [] [some (.int .u64 0)] mo f19.d f19.z f19.b (by kernel_rfl) trivial (
    hk (fun cx=>cx.q (ex_as rfl rfl)) <|
    hn) ?_
   intro a20 w20 f20
   refine wp_seq ?_
   refine wp_seq ?_
   refine go_reg [] [] [some (.int .i64 7)] mo f20.d f20.z f20.b (by kernel_rfl) trivial (
    hk (fun cx=>cx.q (ex_as rfl rfl)) <|
    hn) ?_
   intro a21 w21 f21
   refine wp_block ?_
   have neL3_0_1:=neL2_0_1
   have s2_44:=f21.q 2 (f20.q 2 (f19.q 2 sL2_2))
   have s3_45:=f21.q 3 (f20.q 3 (f19.q 3 sL2_3))
   have s6_46:=f21.q 6 (f20.q 6 (f19.q 6 sL2_6))
   have s7_47:=f21.q 7 (f20.v 0 rfl rfl rfl)
   have s42_48:=f21.q 42 (f20.q 42 (f19.v 0 rfl rfl rfl))
   have s43_49:=f21.q 43 (f20.q 43 (f19.v 1 rfl rfl rfl))
   have b_g1_50:=f21.k (f20.k (f19.k bL2_g1))
   have b_g2_51:=f21.k (f20.k (f19.k bL2_g2))
   refine wp_count 8 (fun k3 aI wI=>True ∧ Mid 68 W [(2,.pointer (some ⟨g1,0,none⟩)),(3,.pointer (some ⟨g2,0,none⟩)),(6,.int .i64 (k2:Int)),(7,.int .u64 (V (topN x.f (8 * k2) 8 k3))),(8,.int .i64 (7 - (k3:Int))),(42,.int .i64 (k2:Int)),(43,.bool true)] [(g1,35,(stC a)),(g2,39,(snC x))] aI wI) ⟨trivial,f21.d,f21.z,f21.b,⟨s2_44,s3_45,s6_46,(s7_47.trans (congrArg (Value.int .u64) (top_0 _ _ _))),((f21.v 0 rfl rfl rfl).trans (congrArg (Value.int .i64) (show (7:Int)=7 - ((0:Nat):Int) by decide))),s42_48,s43_49,trivial⟩,⟨b_g1_50,b_g2_51,trivial⟩⟩ ?_
   intro k3 aL3 wL3 hlek3 hI3
   obtain ⟨hp3,dL3,zL3,BL3,⟨sL3_2,sL3_3,sL3_6,sL3_7,sL3_8,sL3_42,sL3_43,-⟩,⟨bL3_g1,bL3_g2,-⟩⟩:=hI3
   replace sL3_2:aL3.tmps.getD 2 undef=.pointer (some ⟨g1,0,none⟩):=sL3_2
   replace sL3_3:aL3.tmps.getD 3 undef=.pointer (some ⟨g2,0,none⟩):=sL3_3
   replace sL3_6:aL3.tmps.getD 6 undef=.int .i64 (k2:Int):=sL3_6
   replace sL3_7:aL3.tmps.getD 7 undef=.int .u64 (V (topN x.f (8 * k2) 8 k3)):=sL3_7
   replace sL3_8:aL3.tmps.getD 8 undef=.int .i64 (7 - (k3:Int)):=sL3_8
   replace sL3_42:aL3.tmps.getD 42 undef=.int .i64 (k2:Int):=sL3_42
   replace sL3_43:aL3.tmps.getD 43 undef=.bool true:=sL3_43
   replace bL3_g1:wL3.heap[g1]?=some (.cells (stC a) 35 (0,0)):=bL3_g1
   replace bL3_g2:wL3.heap[g2]?=some (.cells (snC x) 39 (0,0)):=bL3_g2
   refine wp_seq ?_
   refine wp_seq ?_
   cases fk8:decide (0 ≤ (7 - (k3:Int)))
   case true=>
    have Ffk8:=Lib.hid fk8;clear fk8
    have hlt3:k3 < 8:=by have:=Ffk8.out;simp only [decide_eq_true_eq] at this;omega
    refine go_reg [] [] [some (.int .i64 (7 - (k3:Int))),oT] mo dL3 zL3 BL3 (by kernel_rfl) trivial (
     hk (fun cx=>cx.q (ex_mv rfl (cx.rq 8 sL3_8))) <|
     hk (fun cx=>cx.v (ex_ge (x:=.tmp 46) rfl (cx.u 0 rfl) rfl) rfl (congrArg Value.bool Ffk8.out)) <|
     hn) ?_
    intro a22 w22 f22
    refine wp_cond_true (f22.v 1 rfl rfl rfl) ?_
    refine wp_skip ?_
    refine wp_seq ?_
    refine wp_block ?_
    have b_g2_52:=f22.k bL3_g2
    have s7_53:=f22.q 7 sL3_7
    have s6_54:=f22.q 6 sL3_6
    have s8_55:=f22.q 8 sL3_8
    have s3_56:=f22.q 3 sL3_3
    refine go_reg [bx g2 39 (snC x)] [] [some (.int .u64 (V (topN x.f (8 * k2) 8 k3))),some (.int .u64 (V (topN x.f (8 * k2) 8 k3) * 2 ^ Int.toNat 8 % 18446744073709551616)),some (.int .i64 (k2:Int)),some (.int .i64 ((8 * k2:Nat):Int)),some (.int .i64 (7 - (k3:Int))),some (.int .i64 ((8 * k2 + (8 - 1 - k3):Nat):Int)),some (pt g2 12),some (pt g2 (12 + (8 * k2 + (8 - 1 - k3)))),some (.int .u8 (x.f (8 * k2 + (8 - 1 - k3)))),some (.int .u64 (x.f (8 * k2 + (8 - 1 - k3)))),some (.int .u64 (V (topN x.f (8 * k2) 8 (k3 + 1)))),some (.int .u64 (V (topN x.f (8 * k2) 8 (k3 + 1))))] mo f22.d f22.z f22.b (by kernel_rfl) ⟨b_g2_52,trivial⟩ (
     hk (fun cx=>cx.q (ex_mv rfl (cx.un 11 rfl rfl (by kernel_rfl) s7_53))) <|
     hk (fun cx=>cx.q (exec_shl (x:=.tmp 50) rfl (cx.u 0 rfl) rfl (by decide) (by decide))) <|
     hk (fun cx=>cx.q (ex_mv rfl (cx.rq 6 s6_54))) <|
     hk (fun cx=>cx.v (ex_mul (y:=.tmp 52) rfl rfl (cx.u 0 rfl)) rfl (congrArg (Value.int .i64) (by rw [IntKind.wrap_i64];omega))) <|
     hk (fun cx=>cx.q (ex_mv rfl (cx.rq 8 s8_55))) <|
     hk (fun cx=>cx.v (ex_add (x:=.tmp 53) (y:=.tmp 54) rfl (cx.u 0 rfl) (cx.u 1 rfl)) rfl (congrArg (Value.int .i64) (by rw [IntKind.wrap_i64];omega))) <|
     hk (fun cx=>cx.q (ex_fa rfl (cx.rq 3 s3_56) (faStJ39_2_0 _ _))) <|
     hk (fun cx=>cx.v (ex_ia (n:=64) (sz:=1) rfl (cx.u 0 rfl) (cx.u 1 rfl) Try.underlying37 (by kernel_rfl) (by omega) (by omega) (by omega)) rfl rfl) <|
     hk (fun cx=>cx.v (ldByte (by omega) rfl (cx.u 0 rfl) (cx.rn 0 rfl)) rfl rfl) <|
     hk (fun cx=>cx.v (ex_conv (x:=.tmp 58) rfl (cx.u 0 rfl) Try.underlying5 Try.underlying23) rfl (congrArg (Value.int .u64) (by have:=HX.out.2 (8 * k2 + (8 - 1 - k3)) (by omega);rw [IntKind.wrap_u64];omega))) <|
     hk (fun cx=>cx.v (ex_or (x:=.tmp 51) (y:=.tmp 59) rfl (cx.u 0 rfl) (cx.u 1 rfl)) rfl (congrArg (Value.int .u64) (top_step hlt3 (by omega) (fun j hj=>HX.out.2 _ (by omega))))) <|
     kmu 0 <|
     hn) ?_
    intro a23 w23 f23
    have s8_57:=f23.q 8 s8_55
    refine go_reg [] [] [some (.int .i64 (7 - (k3:Int))),some (.int .i64 (7 - ((k3 + 1:Nat):Int))),some (.int .i64 (7 - ((k3 + 1:Nat):Int)))] mo f23.d f23.z f23.b (by kernel_rfl) trivial (
     hk (fun cx=>cx.q (ex_mv rfl (cx.un 2 rfl rfl (by kernel_rfl) s8_57))) <|
     hk (fun cx=>cx.v (ex_sub (x:=.tmp 48) rfl (cx.u 0 rfl) rfl) rfl (congrArg (Value.int .i64) (by rw [IntKind.wrap_i64];omega))) <|
     kmu 0 <|
     hn) ?_
    intro a24 w24 f24
    have s2_58:=f24.q 2 (f23.q 2 (f22.q 2 sL3_2))
    have s3_59:=f24.q 3 (f23.q 3 s3_56)
    have s6_60:=f24.q 6 (f23.q 6 s6_54)
    have s7_61:=f24.q 7 (f23.v 11 rfl rfl rfl)
    have s42_62:=f24.q 42 (f23.q 42 (f22.q 42 sL3_42))
    have s43_63:=f24.q 43 (f23.q 43 (f22.q 43 sL3_43))
    have b_g1_64:=f24.k (f23.k (f22.k bL3_g1))
    have b_g2_65:=f24.k (f23.k b_g2_52)
    exact ⟨hlt3,trivial,f24.d,f24.z,f24.b,⟨s2_58,s3_59,s6_60,s7_61,(f24.v 2 rfl rfl rfl),s42_62,s43_63,trivial⟩,⟨b_g1_64,b_g2_65,trivial⟩⟩
   have Ffk8:=Lib.hid fk8;clear fk8
   have hge3:k3=8:=by have:=Ffk8.out;simp only [decide_eq_false_iff_not] at this;omega
   refine go_reg [] [] [some (.int .i64 (7 - (k3:Int))),oF] mo dL3 zL3 BL3 (by kernel_rfl) trivial (
    hk (fun cx=>cx.q (ex_mv rfl (cx.rq 8 sL3_8))) <|
    hk (fun cx=>cx.v (ex_ge (x:=.tmp 46) rfl (cx.u 0 rfl) rfl) rfl (congrArg Value.bool Ffk8.out)) <|
    hn) ?_
   intro a25 w25 f25
   refine wp_cond_false (f25.v 1 rfl rfl rfl) ?_
   refine wp_exit ?_
   simp only [Exit.then,Exit.inBlock,if_true]
   refine wp_seq ?_
   cases fk9:Ty.holdB (a (11 + k2)) (Snp.slot x k2)
   case false=>
    have Ffk9:=Lib.hid fk9;clear fk9
    have b_g1_66:=f25.k bL3_g1
    have s6_67:=f25.q 6 sL3_6
    have s2_68:=f25.q 2 sL3_2
    have s7_69:=f25.q 7 sL3_7
    refine go_reg [bx g1 35 (stC a)] [] [some (.int .i64 (k2:Int)),some (pt g1 99),some (pt g1 (9 * (11 + k2))),some (.agg (tyC (a (11 + k2)))),some (.int .u64 (V (Snp.slot x k2))),oF,oT] mo f25.d f25.z f25.b (by kernel_rfl) ⟨b_g1_66,trivial⟩ (
     hk (fun cx=>cx.q (ex_mv rfl (cx.rq 6 s6_67))) <|
     hk (fun cx=>cx.q (ex_fa rfl (cx.rq 2 s2_68) (faStJ35_1_0 _ _))) <|
     hk (fun cx=>cx.v (ex_ia (n:=8) (sz:=9) rfl (cx.u 0 rfl) (cx.u 1 rfl) Try.underlying33 (by kernel_rfl) (by omega) (by omega) (by omega)) rfl rfl) <|
     hk (fun cx=>cx.v (ldEl (by omega) rfl (cx.u 0 rfl) (cx.rn 0 rfl)) rfl rfl) <|
     hk (fun cx=>cx.q ((ex_mv rfl (cx.rq 7 s7_69)).trans (by rw [hge3,top_full]))) <|
     hc (fun _ _ wx cx=>cx.c rfl (args2 (cx.u 0 rfl) (cx.u 1 rfl)) Try.func20 (by decide +kernel) (qholds_n (a (11 + k2)) (Snp.slot x k2) wx (HA.out _ (by omega))) rfl (congrArg Value.bool Ffk9.out)) <|
     hk (fun cx=>cx.q (ex_not (x:=.tmp 66) rfl (cx.u 0 rfl))) <|
     hn) ?_
    intro a26 w26 f26
    refine wp_cond_true (f26.v 6 rfl rfl rfl) ?_
    refine wp_seq ?_
    refine go_reg [] [] [oF] mo f26.d f26.z f26.b (by kernel_rfl) trivial (
     hk (fun cx=>cx.q (ex_as rfl rfl)) <|
     hn) ?_
    intro a27 w27 f27
    refine wp_ret ?_
    try simp only [Exit.inBlock,Exit.then]
    refine bodyPost_ret (res_t (fn:=Try.f22) rfl (f27.v 0 rfl rfl rfl)) f27.d ?_
    have HN:=allN_no (p:=hasF a x) hlt2 (show hasF a x k2=false from by show Ty.holdB (a (11 + k2)) (Snp.slot x k2)=_;simp only [Ffk9.out,Bool.not_true,Bool.not_false,Bool.false_and,Bool.true_and,Bool.and_false,Bool.and_true,Bool.or_true,Bool.true_or,Bool.false_or,Bool.or_false])
    have HE:(.bool false:Value)=.bool (hasS a x):=by unfold hasS;simp only [HN,Bool.and_false]
    exact ⟨retV HE,f27.b⟩
   have Ffk9:=Lib.hid fk9;clear fk9
   have b_g1_70:=f25.k bL3_g1
   have s6_71:=f25.q 6 sL3_6
   have s2_72:=f25.q 2 sL3_2
   have s7_73:=f25.q 7 sL3_7
   refine go_reg [bx g1 35 (stC a)] [] [some (.int .i64 (k2:Int)),some (pt g1 99),some (pt g1 (9 * (11 + k2))),some (.agg (tyC (a (11 + k2)))),some (.int .u64 (V (Snp.slot x k2))),oT,oF] mo f25.d f25.z f25.b (by kernel_rfl) ⟨b_g1_70,trivial⟩ (
    hk (fun cx=>cx.q (ex_mv rfl (cx.rq 6 s6_71))) <|
    hk (fun cx=>cx.q (ex_fa rfl (cx.rq 2 s2_72) (faStJ35_1_0 _ _))) <|
    hk (fun cx=>cx.v (ex_ia (n:=8) (sz:=9) rfl (cx.u 0 rfl) (cx.u 1 rfl) Try.underlying33 (by kernel_rfl) (by omega) (by omega) (by omega)) rfl rfl) <|
    hk (fun cx=>cx.v (ldEl (by omega) rfl (cx.u 0 rfl) (cx.rn 0 rfl)) rfl rfl) <|
    hk (fun cx=>cx.q ((ex_mv rfl (cx.rq 7 s7_73)).trans (by rw [hge3,top_full]))) <|
    hc (fun _ _ wx cx=>cx.c rfl (args2 (cx.u 0 rfl) (cx.u 1 rfl)) Try.func20 (by decide +kernel) (qholds_n (a (11 + k2)) (Snp.slot x k2) wx (HA.out _ (by omega))) rfl (congrArg Value.bool Ffk9.out)) <|
    hk (fun cx=>cx.q (ex_not (x:=.tmp 66) rfl (cx.u 0 rfl))) <|
    hn) ?_
   intro a28 w28 f28
   refine wp_cond_false (f28.v 6 rfl rfl rfl) ?_
   refine wp_skip ?_
   have s6_74:=f28.q 6 s6_71
   refine go_reg [] [] [some (.int .i64 (k2:Int)),some (.int .i64 ((k2 + 1:Nat):Int)),some (.int .i64 ((k2 + 1:Nat):Int))] mo f28.d f28.z f28.b (by kernel_rfl) trivial (
    hk (fun cx=>cx.q (ex_mv rfl (cx.un 2 rfl rfl (by kernel_rfl) s6_74))) <|
    hk (fun cx=>cx.v (ex_add (x:=.tmp 44) rfl (cx.u 0 rfl) rfl) rfl (congrArg (Value.int .i64) (wrapk hlt2 (by decide)))) <|
    kmu 0 <|
    hn) ?_
   intro a29 w29 f29
   have s2_75:=f29.q 2 (f28.q 2 s2_72)
   have s3_76:=f29.q 3 (f28.q 3 (f25.q 3 sL3_3))
   have b_g1_77:=f29.k (f28.k b_g1_70)
   have b_g2_78:=f29.k (f28.k (f25.k bL3_g2))
   exact ⟨hlt2,allN_step (p:=hasF a x) hp2 (show hasF a x k2=true from by show Ty.holdB (a (11 + k2)) (Snp.slot x k2)=_;simp only [Ffk9.out,Bool.not_true,Bool.not_false,Bool.false_and,Bool.true_and,Bool.and_false,Bool.and_true,Bool.or_true,Bool.true_or,Bool.false_or,Bool.or_false]),f29.d,f29.z,f29.b,⟨s2_75,s3_76,(f29.v 2 rfl rfl rfl),trivial⟩,⟨b_g1_77,b_g2_78,trivial⟩⟩
  have Ffk7:=Lib.hid fk7;clear fk7
  have hge2:k2=8:=by have:=Ffk7.out;simp only [decide_eq_false_iff_not] at this;omega
  refine go_reg [] [] [some (.int .i64 (k2:Int)),oF] mo dL2 zL2 BL2 (by kernel_rfl) trivial (
   hk (fun cx=>cx.q (ex_mv rfl (cx.rq 6 sL2_6))) <|
   hk (fun cx=>cx.v (ex_lt (x:=.tmp 42) rfl (cx.u 0 rfl) rfl) rfl (congrArg Value.bool Ffk7.out)) <|
   hn) ?_
  intro a30 w30 f30
  refine wp_cond_false (f30.v 1 rfl rfl rfl) ?_
  refine wp_exit ?_
  simp only [Exit.then,Exit.inBlock,if_true]
  refine wp_seq ?_
  refine go_reg [] [] [oT] mo f30.d f30.z f30.b (by kernel_rfl) trivial (
   hk (fun cx=>cx.q (ex_as rfl rfl)) <|
   hn) ?_
  intro a31 w31 f31
  refine wp_ret ?_
  try simp only [Exit.inBlock,Exit.then]
  refine bodyPost_ret (res_t (fn:=Try.f22) rfl (f31.v 0 rfl rfl rfl)) f31.d ?_
  have HE:(.bool true:Value)=.bool (hasS a x):=by unfold hasS;simp only [Ffk1.out,show allN (hasR a x) 11=true from hge1 ▸ hp1,show allN (hasF a x) 8=true from hge2 ▸ hp2,Bool.true_and]
  exact ⟨retV HE,f31.b⟩
set_option maxHeartbeats 4000000 in
theorem qplace_n (a:St) (lo hi size:Int) (W:World):Calls Try.prog 34 #[.agg (stC a),.int .i64 lo,.int .i64 hi,.int .i64 size] W fun e w'=>e=.returned (.bool (placeB a lo hi size)) ∧ Below W.heap.size W w':=by
  refine calls_abs Try.func34 rfl (Nat.le_of_ble_eq_true rfl) ?_
  intro a0 d0 z0 h0
  replace z0:a0.tmps.size=42:=z0
  have s0_0:a0.tmps.getD 0 undef=.agg (stC a):=h0 0 (Nat.le_of_ble_eq_true rfl)
  have s1_0:a0.tmps.getD 1 undef=.int .i64 lo:=h0 1 (Nat.le_of_ble_eq_true rfl)
  have s2_0:a0.tmps.getD 2 undef=.int .i64 hi:=h0 2 (Nat.le_of_ble_eq_true rfl)
  have s3_0:a0.tmps.getD 3 undef=.int .i64 size:=h0 3 (Nat.le_of_ble_eq_true rfl)
  refine wp_seq ?_
  refine go_reg [] [⟨0,4,35,(stC a),none,#[]⟩] [none,oF] mo d0 z0 (Below.refl _ _) (by kernel_rfl) trivial (
   hk (fun cx=>cx.al (wn rfl) 0 rfl (ex_box rfl (cx.rq 0 s0_0) rfl) rfl rfl rfl rfl rfl trivial) <|
   hk (fun cx=>cx.q (ex_as rfl rfl)) <|
   hn) ?_
  intro a1 w1 f1
  obtain ⟨g1,u_g1,q_g1,b_g1⟩:=f1.al.1
  refine wp_seq ?_
  cases fk1:okS a
  case false=>
   have Ffk1:=Lib.hid fk1;clear fk1
   refine go_reg [bx g1 35 (stC a)] [] (tabs [some (.agg (stC a)),oF,oF,oU,oU,oU,oU,oU,oU,oU,oU,oU,oU,oU,oU,oU,oU,oF,oF,oU] [oU,oF,oF,oU,oU,oU,oF,oF,oU,oU,oU,oU,oF,oF]) mo f1.d f1.z f1.b (by kernel_rfl) ⟨b_g1,trivial⟩ (
    hk (fun cx=>cx.q (ldSt rfl (cx.rq 4 u_g1) (cx.rn 0 rfl))) <|
    hc (fun _ _ wx cx=>cx.c rfl (args1 (cx.u 0 rfl)) Try.func16 (by decide +kernel) (qmay_n a wx) rfl (congrArg Value.bool Ffk1.out)) <|
    kmu 0 <|
    kno 0 <|
    kno 1 <|
    kno 1 <|
    kno 0 <|
    kno 1 <|
    kno 2 <|
    kno 2 <|
    kno 0 <|
    kno 1 <|
    kno 2 <|
    kno 2 <|
    kno 0 <|
    kno 1 <|
    kno 2 <|
    hk (fun cx=>cx.q (ex_pf rfl (cx.u 0 rfl) rfl)) <|
    kmu 0 <|
    kno 0 <|
    kno 1 <|
    hk (fun cx=>cx.q (ex_pf rfl (cx.u 0 rfl) rfl)) <|
    kmu 0 <|
    kno 0 <|
    kno 0 <|
    kno 2 <|
    hk (fun cx=>cx.q (ex_pf rfl (cx.u 0 rfl) rfl)) <|
    kmu 0 <|
    kno 0 <|
    kno 0 <|
    kno 1 <|
    kno 2 <|
    hk (fun cx=>cx.q (ex_pf rfl (cx.u 0 rfl) rfl)) <|
    kmu 0 <|
    hn) ?_
   intro a2 w2 f2
   refine wp_ret ?_
   try simp only [Exit.inBlock,Exit.then]
   refine bodyPost_ret (res_t (fn:=Try.f34) rfl (f2.v 33 rfl rfl rfl)) f2.d ?_
   have HE:(.bool false:Value)=.bool (placeB a lo hi size):=by unfold placeB withinB sizeB;simp only [Ffk1.out,Bool.true_and,Bool.and_true,Bool.false_and,Bool.and_false,Bool.or_false,Bool.false_or,Bool.true_or,Bool.or_true,Bool.not_true,Bool.not_false,if_true,if_false,Bool.false_eq_true,Bool.true_eq_false,reduceCtorEq];try rfl
   exact ⟨retV HE,f2.b⟩
  have Ffk1:=Lib.hid fk1;clear fk1
  cases fk2:size == 1
  case false=>
   have Ffk2:=Lib.hid fk2;clear fk2
   cases fk3:size == 2
   case false=>
    have Ffk3:=Lib.hid fk3;clear fk3
    cases fk4:size == 4
    case false=>
     have Ffk4:=Lib.hid fk4;clear fk4
     cases fk5:size == 8
     case false=>
      have Ffk5:=Lib.hid fk5;clear fk5
      have s3_1:=f1.q 3 s3_0
      refine go_reg [bx g1 35 (stC a)] [] (tabs [some (.agg (stC a)),oT,oT,some (.int .i64 size),oF,oF,some (.int .i64 size),oF,oF,oF,some (.int .i64 size),oF,oF,oF,some (.int .i64 size),oF,oF,oF,oF,oU] [oU,oF,oF,oU,oU,oU,oF,oF,oU,oU,oU,oU,oF,oF]) mo f1.d f1.z f1.b (by kernel_rfl) ⟨b_g1,trivial⟩ (
       hk (fun cx=>cx.q (ldSt rfl (cx.rq 4 u_g1) (cx.rn 0 rfl))) <|
       hc (fun _ _ wx cx=>cx.c rfl (args1 (cx.u 0 rfl)) Try.func16 (by decide +kernel) (qmay_n a wx) rfl (congrArg Value.bool Ffk1.out)) <|
       kmu 0 <|
       hk (fun cx=>cx.vy 0 (ex_mv rfl (cx.rq 3 s3_1))) <|
       hk (fun cx=>cx.vy 1 (ex_eq (x:=.tmp 12) rfl (cx.u 0 rfl) rfl) (congrArg Value.bool Ffk2.out)) <|
       hk (fun cx=>cx.vy 1 (ex_mv rfl (cx.u 0 rfl))) <|
       hk (fun cx=>cx.vy 0 (ex_mv rfl (cx.rq 3 s3_1))) <|
       hk (fun cx=>cx.vy 1 (ex_eq (x:=.tmp 15) rfl (cx.u 0 rfl) rfl) (congrArg Value.bool Ffk3.out)) <|
       hk (fun cx=>cx.vy 2 (ex_pf rfl (cx.u 0 rfl) (cx.u 1 rfl))) <|
       hk (fun cx=>cx.vy 2 (ex_mv rfl (cx.u 0 rfl))) <|
       hk (fun cx=>cx.vy 0 (ex_mv rfl (cx.rq 3 s3_1))) <|
       hk (fun cx=>cx.vy 1 (ex_eq (x:=.tmp 19) rfl (cx.u 0 rfl) rfl) (congrArg Value.bool Ffk4.out)) <|
       hk (fun cx=>cx.vy 2 (ex_pf rfl (cx.u 0 rfl) (cx.u 1 rfl))) <|
       hk (fun cx=>cx.vy 2 (ex_mv rfl (cx.u 0 rfl))) <|
       hk (fun cx=>cx.vy 0 (ex_mv rfl (cx.rq 3 s3_1))) <|
       hk (fun cx=>cx.vy 1 (ex_eq (x:=.tmp 23) rfl (cx.u 0 rfl) rfl) (congrArg Value.bool Ffk5.out)) <|
       hk (fun cx=>cx.vy 2 (ex_pf rfl (cx.u 0 rfl) (cx.u 1 rfl))) <|
       hk (fun cx=>cx.q (ex_pt rfl (cx.u 0 rfl) (cx.u 1 rfl))) <|
       kmu 0 <|
       kno 0 <|
       kno 1 <|
       hk (fun cx=>cx.q (ex_pf rfl (cx.u 0 rfl) rfl)) <|
       kmu 0 <|
       kno 0 <|
       kno 0 <|
       kno 2 <|
       hk (fun cx=>cx.q (ex_pf rfl (cx.u 0 rfl) rfl)) <|
       kmu 0 <|
       kno 0 <|
       kno 0 <|
       kno 1 <|
       kno 2 <|
       hk (fun cx=>cx.q (ex_pf rfl (cx.u 0 rfl) rfl)) <|
       kmu 0 <|
       hn) ?_
      intro a3 w3 f3
      refine wp_ret ?_
      try simp only [Exit.inBlock,Exit.then]
      refine bodyPost_ret (res_t (fn:=Try.f34) rfl (f3.v 33 rfl rfl rfl)) f3.d ?_
      have HE:(.bool false:Value)=.bool (placeB a lo hi size):=by unfold placeB withinB sizeB;simp only [Ffk1.out,Ffk2.out,Ffk3.out,Ffk4.out,Ffk5.out,Bool.true_and,Bool.and_true,Bool.false_and,Bool.and_false,Bool.or_false,Bool.false_or,Bool.true_or,Bool.or_true,Bool.not_true,Bool.not_false,if_true,if_false,Bool.false_eq_true,Bool.true_eq_false,reduceCtorEq];try rfl
      exact ⟨retV HE,f3.b⟩
     have Ffk5:=Lib.hid fk5;clear fk5
     have hsz:sizeB size=true:=by unfold sizeB;have:=yb Ffk5.out;rw [this];rfl
     cases fk6:decide (0 ≤ lo)
     case false=>
      have Ffk6:=Lib.hid fk6;clear fk6
      have s3_2:=f1.q 3 s3_0
      have s1_3:=f1.q 1 s1_0
      refine go_reg [bx g1 35 (stC a)] [] (tabs [some (.agg (stC a)),oT,oT,some (.int .i64 size),oF,oF,some (.int .i64 size),oF,oF,oF,some (.int .i64 size),oF,oF,oF,some (.int .i64 size),oT,oT,oT,oT,some (.int .i64 lo)] [oF,oF,oF,oU,oU,oU,oF,oF,oU,oU,oU,oU,oF,oF]) mo f1.d f1.z f1.b (by kernel_rfl) ⟨b_g1,trivial⟩ (
       hk (fun cx=>cx.q (ldSt rfl (cx.rq 4 u_g1) (cx.rn 0 rfl))) <|
       hc (fun _ _ wx cx=>cx.c rfl (args1 (cx.u 0 rfl)) Try.func16 (by decide +kernel) (qmay_n a wx) rfl (congrArg Value.bool Ffk1.out)) <|
       kmu 0 <|
       hk (fun cx=>cx.vy 0 (ex_mv rfl (cx.rq 3 s3_2))) <|
       hk (fun cx=>cx.vy 1 (ex_eq (x:=.tmp 12) rfl (cx.u 0 rfl) rfl) (congrArg Value.bool Ffk2.out)) <|
       hk (fun cx=>cx.vy 1 (ex_mv rfl (cx.u 0 rfl))) <|
       hk (fun cx=>cx.vy 0 (ex_mv rfl (cx.rq 3 s3_2))) <|
       hk (fun cx=>cx.vy 1 (ex_eq (x:=.tmp 15) rfl (cx.u 0 rfl) rfl) (congrArg Value.bool Ffk3.out)) <|
       hk (fun cx=>cx.vy 2 (ex_pf rfl (cx.u 0 rfl) (cx.u 1 rfl))) <|
       hk (fun cx=>cx.vy 2 (ex_mv rfl (cx.u 0 rfl))) <|
       hk (fun cx=>cx.vy 0 (ex_mv rfl (cx.rq 3 s3_2))) <|
       hk (fun cx=>cx.vy 1 (ex_eq (x:=.tmp 19) rfl (cx.u 0 rfl) rfl) (congrArg Value.bool Ffk4.out)) <|
       hk (fun cx=>cx.vy 2 (ex_pf rfl (cx.u 0 rfl) (cx.u 1 rfl))) <|
       hk (fun cx=>cx.vy 2 (ex_mv rfl (cx.u 0 rfl))) <|
       hk (fun cx=>cx.vy 0 (ex_mv rfl (cx.rq 3 s3_2))) <|
       hk (fun cx=>cx.vy 1 (ex_eq (x:=.tmp 23) rfl (cx.u 0 rfl) rfl) (congrArg Value.bool Ffk5.out)) <|
       hk (fun cx=>cx.vy 2 (ex_pf rfl (cx.u 0 rfl) (cx.u 1 rfl))) <|
       hk (fun cx=>cx.q (ex_pt rfl (cx.u 0 rfl) (cx.u 1 rfl))) <|
       kmu 0 <|
       hk (fun cx=>cx.vy 0 (ex_mv rfl (cx.rq 1 s1_3))) <|
       hk (fun cx=>cx.vy 1 (ex_ge (x:=.tmp 28) rfl (cx.u 0 rfl) rfl) (congrArg Value.bool Ffk6.out)) <|
       hk (fun cx=>cx.q (ex_pt rfl (cx.u 0 rfl) (cx.u 1 rfl))) <|
       kmu 0 <|
       kno 0 <|
       kno 0 <|
       kno 2 <|
       hk (fun cx=>cx.q (ex_pf rfl (cx.u 0 rfl) rfl)) <|
       kmu 0 <|
       kno 0 <|
       kno 0 <|
       kno 1 <|
       kno 2 <|
       hk (fun cx=>cx.q (ex_pf rfl (cx.u 0 rfl) rfl)) <|
       kmu 0 <|
       hn) ?_
      intro a4 w4 f4
      refine wp_ret ?_
      try simp only [Exit.inBlock,Exit.then]
      refine bodyPost_ret (res_t (fn:=Try.f34) rfl (f4.v 33 rfl rfl rfl)) f4.d ?_
      have HE:(.bool false:Value)=.bool (placeB a lo hi size):=by unfold placeB withinB sizeB;simp only [Ffk1.out,Ffk2.out,Ffk3.out,Ffk4.out,Ffk5.out,Ffk6.out,Bool.true_and,Bool.and_true,Bool.false_and,Bool.and_false,Bool.or_false,Bool.false_or,Bool.true_or,Bool.or_true,Bool.not_true,Bool.not_false,if_true,if_false,Bool.false_eq_true,Bool.true_eq_false,reduceCtorEq];try rfl
      exact ⟨retV HE,f4.b⟩
     have Ffk6:=Lib.hid fk6;clear fk6
     cases fk7:decide (lo ≤ hi)
     case false=>
      have Ffk7:=Lib.hid fk7;clear fk7
      have s3_4:=f1.q 3 s3_0
      have s1_5:=f1.q 1 s1_0
      have s2_6:=f1.q 2 s2_0
      refine go_reg [bx g1 35 (stC a)] [] (tabs [some (.agg (stC a)),oT,oT,some (.int .i64 size),oF,oF,some (.int .i64 size),oF,oF,oF,some (.int .i64 size),oF,oF,oF,some (.int .i64 size),oT,oT,oT,oT,some (.int .i64 lo)] [oT,oT,oT,some (.int .i64 lo),some (.int .i64 hi),oF,oF,oF,oU,oU,oU,oU,oF,oF]) mo f1.d f1.z f1.b (by kernel_rfl) ⟨b_g1,trivial⟩ (
       hk (fun cx=>cx.q (ldSt rfl (cx.rq 4 u_g1) (cx.rn 0 rfl))) <|
       hc (fun _ _ wx cx=>cx.c rfl (args1 (cx.u 0 rfl)) Try.func16 (by decide +kernel) (qmay_n a wx) rfl (congrArg Value.bool Ffk1.out)) <|
       kmu 0 <|
       hk (fun cx=>cx.vy 0 (ex_mv rfl (cx.rq 3 s3_4))) <|
       hk (fun cx=>cx.vy 1 (ex_eq (x:=.tmp 12) rfl (cx.u 0 rfl) rfl) (congrArg Value.bool Ffk2.out)) <|
       hk (fun cx=>cx.vy 1 (ex_mv rfl (cx.u 0 rfl))) <|
       hk (fun cx=>cx.vy 0 (ex_mv rfl (cx.rq 3 s3_4))) <|
       hk (fun cx=>cx.vy 1 (ex_eq (x:=.tmp 15) rfl (cx.u 0 rfl) rfl) (congrArg Value.bool Ffk3.out)) <|
       hk (fun cx=>cx.vy 2 (ex_pf rfl (cx.u 0 rfl) (cx.u 1 rfl))) <|
       hk (fun cx=>cx.vy 2 (ex_mv rfl (cx.u 0 rfl))) <|
       hk (fun cx=>cx.vy 0 (ex_mv rfl (cx.rq 3 s3_4))) <|
       hk (fun cx=>cx.vy 1 (ex_eq (x:=.tmp 19) rfl (cx.u 0 rfl) rfl) (congrArg Value.bool Ffk4.out)) <|
       hk (fun cx=>cx.vy 2 (ex_pf rfl (cx.u 0 rfl) (cx.u 1 rfl))) <|
       hk (fun cx=>cx.vy 2 (ex_mv rfl (cx.u 0 rfl))) <|
       hk (fun cx=>cx.vy 0 (ex_mv rfl (cx.rq 3 s3_4))) <|
       hk (fun cx=>cx.vy 1 (ex_eq (x:=.tmp 23) rfl (cx.u 0 rfl) rfl) (congrArg Value.bool Ffk5.out)) <|
       hk (fun cx=>cx.vy 2 (ex_pf rfl (cx.u 0 rfl) (cx.u 1 rfl))) <|
       hk (fun cx=>cx.q (ex_pt rfl (cx.u 0 rfl) (cx.u 1 rfl))) <|
       kmu 0 <|
       hk (fun cx=>cx.vy 0 (ex_mv rfl (cx.rq 1 s1_5))) <|
       hk (fun cx=>cx.vy 1 (ex_ge (x:=.tmp 28) rfl (cx.u 0 rfl) rfl) (congrArg Value.bool Ffk6.out)) <|
       hk (fun cx=>cx.q (ex_pt rfl (cx.u 0 rfl) (cx.u 1 rfl))) <|
       kmu 0 <|
       hk (fun cx=>cx.vy 0 (ex_mv rfl (cx.rq 1 s1_5))) <|
       hk (fun cx=>cx.vy 0 (ex_mv rfl (cx.rq 2 s2_6))) <|
       hk (fun cx=>cx.vy 2 (ex_le (x:=.tmp 32) (y:=.tmp 33) rfl (cx.u 0 rfl) (cx.u 1 rfl)) (congrArg Value.bool Ffk7.out)) <|
       hk (fun cx=>cx.q (ex_pt rfl (cx.u 0 rfl) (cx.u 1 rfl))) <|
       kmu 0 <|
       kno 0 <|
       kno 0 <|
       kno 1 <|
       kno 2 <|
       hk (fun cx=>cx.q (ex_pf rfl (cx.u 0 rfl) rfl)) <|
       kmu 0 <|
       hn) ?_
      intro a5 w5 f5
      refine wp_ret ?_
      try simp only [Exit.inBlock,Exit.then]
      refine bodyPost_ret (res_t (fn:=Try.f34) rfl (f5.v 33 rfl rfl rfl)) f5.d ?_
      have HE:(.bool false:Value)=.bool (placeB a lo hi size):=by unfold placeB withinB sizeB;simp only [Ffk1.out,Ffk2.out,Ffk3.out,Ffk4.out,Ffk5.out,Ffk6.out,Ffk7.out,Bool.true_and,Bool.and_true,Bool.false_and,Bool.and_false,Bool.or_false,Bool.false_or,Bool.true_or,Bool.or_true,Bool.not_true,Bool.not_false,if_true,if_false,Bool.false_eq_true,Bool.true_eq_false,reduceCtorEq];try rfl
      exact ⟨retV HE,f5.b⟩
     have Ffk7:=Lib.hid fk7;clear fk7
     cases fk8:decide (hi ≤ (64 - size))
     case false=>
      have Ffk8:=Lib.hid fk8;clear fk8
      have s3_7:=f1.q 3 s3_0
      have s1_8:=f1.q 1 s1_0
      have s2_9:=f1.q 2 s2_0
      refine go_reg [bx g1 35 (stC a)] [] (tabs [some (.agg (stC a)),oT,oT,some (.int .i64 size),oF,oF,some (.int .i64 size),oF,oF,oF,some (.int .i64 size),oF,oF,oF,some (.int .i64 size),oT,oT,oT,oT,some (.int .i64 lo)] [oT,oT,oT,some (.int .i64 lo),some (.int .i64 hi),oT,oT,oT,some (.int .i64 hi),some (.int .i64 size),some (.int .i64 (64 - size)),oF,oF,oF]) mo f1.d f1.z f1.b (by kernel_rfl) ⟨b_g1,trivial⟩ (
       hk (fun cx=>cx.q (ldSt rfl (cx.rq 4 u_g1) (cx.rn 0 rfl))) <|
       hc (fun _ _ wx cx=>cx.c rfl (args1 (cx.u 0 rfl)) Try.func16 (by decide +kernel) (qmay_n a wx) rfl (congrArg Value.bool Ffk1.out)) <|
       kmu 0 <|
       hk (fun cx=>cx.vy 0 (ex_mv rfl (cx.rq 3 s3_7))) <|
       hk (fun cx=>cx.vy 1 (ex_eq (x:=.tmp 12) rfl (cx.u 0 rfl) rfl) (congrArg Value.bool Ffk2.out)) <|
       hk (fun cx=>cx.vy 1 (ex_mv rfl (cx.u 0 rfl))) <|
       hk (fun cx=>cx.vy 0 (ex_mv rfl (cx.rq 3 s3_7))) <|
       hk (fun cx=>cx.vy 1 (ex_eq (x:=.tmp 15) rfl (cx.u 0 rfl) rfl) (congrArg Value.bool Ffk3.out)) <|
       hk (fun cx=>cx.vy 2 (ex_pf rfl (cx.u 0 rfl) (cx.u 1 rfl))) <|
       hk (fun cx=>cx.vy 2 (ex_mv rfl (cx.u 0 rfl))) <|
       hk (fun cx=>cx.vy 0 (ex_mv rfl (cx.rq 3 s3_7))) <|
       hk (fun cx=>cx.vy 1 (ex_eq (x:=.tmp 19) rfl (cx.u 0 rfl) rfl) (congrArg Value.bool Ffk4.out)) <|
       hk (fun cx=>cx.vy 2 (ex_pf rfl (cx.u 0 rfl) (cx.u 1 rfl))) <|
       hk (fun cx=>cx.vy 2 (ex_mv rfl (cx.u 0 rfl))) <|
       hk (fun cx=>cx.vy 0 (ex_mv rfl (cx.rq 3 s3_7))) <|
       hk (fun cx=>cx.vy 1 (ex_eq (x:=.tmp 23) rfl (cx.u 0 rfl) rfl) (congrArg Value.bool Ffk5.out)) <|
       hk (fun cx=>cx.vy 2 (ex_pf rfl (cx.u 0 rfl) (cx.u 1 rfl))) <|
       hk (fun cx=>cx.q (ex_pt rfl (cx.u 0 rfl) (cx.u 1 rfl))) <|
       kmu 0 <|
       hk (fun cx=>cx.vy 0 (ex_mv rfl (cx.rq 1 s1_8))) <|
       hk (fun cx=>cx.vy 1 (ex_ge (x:=.tmp 28) rfl (cx.u 0 rfl) rfl) (congrArg Value.bool Ffk6.out)) <|
       hk (fun cx=>cx.q (ex_pt rfl (cx.u 0 rfl) (cx.u 1 rfl))) <|
       kmu 0 <|
       hk (fun cx=>cx.vy 0 (ex_mv rfl (cx.rq 1 s1_8))) <|
       hk (fun cx=>cx.vy 0 (ex_mv rfl (cx.rq 2 s2_9))) <|
       hk (fun cx=>cx.vy 2 (ex_le (x:=.tmp 32) (y:=.tmp 33) rfl (cx.u 0 rfl) (cx.u 1 rfl)) (congrArg Value.bool Ffk7.out)) <|
       hk (fun cx=>cx.q (ex_pt rfl (cx.u 0 rfl) (cx.u 1 rfl))) <|
       kmu 0 <|
       hk (fun cx=>cx.vy 0 (ex_mv rfl (cx.rq 2 s2_9))) <|
       hk (fun cx=>cx.vy 0 (ex_mv rfl (cx.rq 3 s3_7))) <|
       hk (fun cx=>cx.vy 1 (ex_sub (y:=.tmp 38) rfl rfl (cx.u 0 rfl)) (congrArg (Value.int .i64) (sub64 hsz))) <|
       hk (fun cx=>cx.vy 2 (ex_le (x:=.tmp 37) (y:=.tmp 39) rfl (cx.u 0 rfl) (cx.u 1 rfl)) (congrArg Value.bool Ffk8.out)) <|
       hk (fun cx=>cx.q (ex_pt rfl (cx.u 0 rfl) (cx.u 1 rfl))) <|
       kmu 0 <|
       hn) ?_
      intro a6 w6 f6
      refine wp_ret ?_
      try simp only [Exit.inBlock,Exit.then]
      refine bodyPost_ret (res_t (fn:=Try.f34) rfl (f6.v 33 rfl rfl rfl)) f6.d ?_
      have HE:(.bool false:Value)=.bool (placeB a lo hi size):=by unfold placeB withinB sizeB;simp only [Ffk1.out,Ffk2.out,Ffk3.out,Ffk4.out,Ffk5.out,Ffk6.out,Ffk7.out,Ffk8.out,Bool.true_and,Bool.and_true,Bool.false_and,Bool.and_false,Bool.or_false,Bool.false_or,Bool.true_or,Bool.or_true,Bool.not_true,Bool.not_false,if_true,if_false,Bool.false_eq_true,Bool.true_eq_false,reduceCtorEq];try rfl
      exact ⟨retV HE,f6.b⟩
     have Ffk8:=Lib.hid fk8;clear fk8
     have s3_10:=f1.q 3 s3_0
     have s1_11:=f1.q 1 s1_0
     have s2_12:=f1.q 2 s2_0
     refine go_reg [bx g1 35 (stC a)] [] (tabs [some (.agg (stC a)),oT,oT,some (.int .i64 size),oF,oF,some (.int .i64 size),oF,oF,oF,some (.int .i64 size),oF,oF,oF,some (.int .i64 size),oT,oT,oT,oT,some (.int .i64 lo)] [oT,oT,oT,some (.int .i64 lo),some (.int .i64 hi),oT,oT,oT,some (.int .i64 hi),some (.int .i64 size),some (.int .i64 (64 - size)),oT,oT,oT]) mo f1.d f1.z f1.b (by kernel_rfl) ⟨b_g1,trivial⟩ (
      hk (fun cx=>cx.q (ldSt rfl (cx.rq 4 u_g1) (cx.rn 0 rfl))) <|
      hc (fun _ _ wx cx=>cx.c rfl (args1 (cx.u 0 rfl)) Try.func16 (by decide +kernel) (qmay_n a wx) rfl (congrArg Value.bool Ffk1.out)) <|
      kmu 0 <|
      hk (fun cx=>cx.vy 0 (ex_mv rfl (cx.rq 3 s3_10))) <|
      hk (fun cx=>cx.vy 1 (ex_eq (x:=.tmp 12) rfl (cx.u 0 rfl) rfl) (congrArg Value.bool Ffk2.out)) <|
      hk (fun cx=>cx.vy 1 (ex_mv rfl (cx.u 0 rfl))) <|
      hk (fun cx=>cx.vy 0 (ex_mv rfl (cx.rq 3 s3_10))) <|
      hk (fun cx=>cx.vy 1 (ex_eq (x:=.tmp 15) rfl (cx.u 0 rfl) rfl) (congrArg Value.bool Ffk3.out)) <|
      hk (fun cx=>cx.vy 2 (ex_pf rfl (cx.u 0 rfl) (cx.u 1 rfl))) <|
      hk (fun cx=>cx.vy 2 (ex_mv rfl (cx.u 0 rfl))) <|
      hk (fun cx=>cx.vy 0 (ex_mv rfl (cx.rq 3 s3_10))) <|
      hk (fun cx=>cx.vy 1 (ex_eq (x:=.tmp 19) rfl (cx.u 0 rfl) rfl) (congrArg Value.bool Ffk4.out)) <|
      hk (fun cx=>cx.vy 2 (ex_pf rfl (cx.u 0 rfl) (cx.u 1 rfl))) <|
      hk (fun cx=>cx.vy 2 (ex_mv rfl (cx.u 0 rfl))) <|
      hk (fun cx=>cx.vy 0 (ex_mv rfl (cx.rq 3 s3_10))) <|
      hk (fun cx=>cx.vy 1 (ex_eq (x:=.tmp 23) rfl (cx.u 0 rfl) rfl) (congrArg Value.bool Ffk5.out)) <|
      hk (fun cx=>cx.vy 2 (ex_pf rfl (cx.u 0 rfl) (cx.u 1 rfl))) <|
      hk (fun cx=>cx.q (ex_pt rfl (cx.u 0 rfl) (cx.u 1 rfl))) <|
      kmu 0 <|
      hk (fun cx=>cx.vy 0 (ex_mv rfl (cx.rq 1 s1_11))) <|
      hk (fun cx=>cx.vy 1 (ex_ge (x:=.tmp 28) rfl (cx.u 0 rfl) rfl) (congrArg Value.bool Ffk6.out)) <|
      hk (fun cx=>cx.q (ex_pt rfl (cx.u 0 rfl) (cx.u 1 rfl))) <|
      kmu 0 <|
      hk (fun cx=>cx.vy 0 (ex_mv rfl (cx.rq 1 s1_11))) <|
      hk (fun cx=>cx.vy 0 (ex_mv rfl (cx.rq 2 s2_12))) <|
      hk (fun cx=>cx.vy 2 (ex_le (x:=.tmp 32) (y:=.tmp 33) rfl (cx.u 0 rfl) (cx.u 1 rfl)) (congrArg Value.bool Ffk7.out)) <|
      hk (fun cx=>cx.q (ex_pt rfl (cx.u 0 rfl) (cx.u 1 rfl))) <|
      kmu 0 <|
      hk (fun cx=>cx.vy 0 (ex_mv rfl (cx.rq 2 s2_12))) <|
      hk (fun cx=>cx.vy 0 (ex_mv rfl (cx.rq 3 s3_10))) <|
      hk (fun cx=>cx.vy 1 (ex_sub (y:=.tmp 38) rfl rfl (cx.u 0 rfl)) (congrArg (Value.int .i64) (sub64 hsz))) <|
      hk (fun cx=>cx.vy 2 (ex_le (x:=.tmp 37) (y:=.tmp 39) rfl (cx.u 0 rfl) (cx.u 1 rfl)) (congrArg Value.bool Ffk8.out)) <|
      hk (fun cx=>cx.q (ex_pt rfl (cx.u 0 rfl) (cx.u 1 rfl))) <|
      kmu 0 <|
      hn) ?_
     intro a7 w7 f7
     refine wp_ret ?_
     try simp only [Exit.inBlock,Exit.then]
     refine bodyPost_ret (res_t (fn:=Try.f34) rfl (f7.v 33 rfl rfl rfl)) f7.d ?_
     have HE:(.bool true:Value)=.bool (placeB a lo hi size):=by unfold placeB withinB sizeB;simp only [Ffk1.out,Ffk2.out,Ffk3.out,Ffk4.out,Ffk5.out,Ffk6.out,Ffk7.out,Ffk8.out,Bool.true_and,Bool.and_true,Bool.false_and,Bool.and_false,Bool.or_false,Bool.false_or,Bool.true_or,Bool.or_true,Bool.not_true,Bool.not_false,if_true,if_false,Bool.false_eq_true,Bool.true_eq_false,reduceCtorEq];try rfl
     exact ⟨retV HE,f7.b⟩
    have Ffk4:=Lib.hid fk4;clear fk4
    have hsz:sizeB size=true:=by unfold sizeB;have:=yb Ffk4.out;rw [this];rfl
    cases fk9:decide (0 ≤ lo)
    case false=>
     have Ffk9:=Lib.hid fk9;clear fk9
     have s3_13:=f1.q 3 s3_0
     have s1_14:=f1.q 1 s1_0
     refine go_reg [bx g1 35 (stC a)] [] (tabs [some (.agg (stC a)),oT,oT,some (.int .i64 size),oF,oF,some (.int .i64 size),oF,oF,oF,some (.int .i64 size),oT,oT,oT,oU,oU,oT,oT,oT,some (.int .i64 lo)] [oF,oF,oF,oU,oU,oU,oF,oF,oU,oU,oU,oU,oF,oF]) mo f1.d f1.z f1.b (by kernel_rfl) ⟨b_g1,trivial⟩ (
      hk (fun cx=>cx.q (ldSt rfl (cx.rq 4 u_g1) (cx.rn 0 rfl))) <|
      hc (fun _ _ wx cx=>cx.c rfl (args1 (cx.u 0 rfl)) Try.func16 (by decide +kernel) (qmay_n a wx) rfl (congrArg Value.bool Ffk1.out)) <|
      kmu 0 <|
      hk (fun cx=>cx.vy 0 (ex_mv rfl (cx.rq 3 s3_13))) <|
      hk (fun cx=>cx.vy 1 (ex_eq (x:=.tmp 12) rfl (cx.u 0 rfl) rfl) (congrArg Value.bool Ffk2.out)) <|
      hk (fun cx=>cx.vy 1 (ex_mv rfl (cx.u 0 rfl))) <|
      hk (fun cx=>cx.vy 0 (ex_mv rfl (cx.rq 3 s3_13))) <|
      hk (fun cx=>cx.vy 1 (ex_eq (x:=.tmp 15) rfl (cx.u 0 rfl) rfl) (congrArg Value.bool Ffk3.out)) <|
      hk (fun cx=>cx.vy 2 (ex_pf rfl (cx.u 0 rfl) (cx.u 1 rfl))) <|
      hk (fun cx=>cx.vy 2 (ex_mv rfl (cx.u 0 rfl))) <|
      hk (fun cx=>cx.vy 0 (ex_mv rfl (cx.rq 3 s3_13))) <|
      hk (fun cx=>cx.vy 1 (ex_eq (x:=.tmp 19) rfl (cx.u 0 rfl) rfl) (congrArg Value.bool Ffk4.out)) <|
      hk (fun cx=>cx.vy 2 (ex_pf rfl (cx.u 0 rfl) (cx.u 1 rfl))) <|
      hk (fun cx=>cx.vy 2 (ex_mv rfl (cx.u 0 rfl))) <|
      kno 0 <|
      kno 1 <|
      hk (fun cx=>cx.vy 2 (ex_pt rfl (cx.u 0 rfl) rfl)) <|
      hk (fun cx=>cx.q (ex_pt rfl (cx.u 0 rfl) (cx.u 1 rfl))) <|
      kmu 0 <|
      hk (fun cx=>cx.vy 0 (ex_mv rfl (cx.rq 1 s1_14))) <|
      hk (fun cx=>cx.vy 1 (ex_ge (x:=.tmp 28) rfl (cx.u 0 rfl) rfl) (congrArg Value.bool Ffk9.out)) <|
      hk (fun cx=>cx.q (ex_pt rfl (cx.u 0 rfl) (cx.u 1 rfl))) <|
      kmu 0 <|
      kno 0 <|
      kno 0 <|
      kno 2 <|
      hk (fun cx=>cx.q (ex_pf rfl (cx.u 0 rfl) rfl)) <|
      kmu 0 <|
      kno 0 <|
      kno 0 <|
      kno 1 <|
      kno 2 <|
      hk (fun cx=>cx.q (ex_pf rfl (cx.u 0 rfl) rfl)) <|
      kmu 0 <|
      hn) ?_
     intro a8 w8 f8
     refine wp_ret ?_
     try simp only [Exit.inBlock,Exit.then]
     refine bodyPost_ret (res_t (fn:=Try.f34) rfl (f8.v 33 rfl rfl rfl)) f8.d ?_
     have HE:(.bool false:Value)=.bool (placeB a lo hi size):=by unfold placeB withinB sizeB;simp only [Ffk1.out,Ffk2.out,Ffk3.out,Ffk4.out,Ffk9.out,Bool.true_and,Bool.and_true,Bool.false_and,Bool.and_false,Bool.or_false,Bool.false_or,Bool.true_or,Bool.or_true,Bool.not_true,Bool.not_false,if_true,if_false,Bool.false_eq_true,Bool.true_eq_false,reduceCtorEq];try rfl
     exact ⟨retV HE,f8.b⟩
    have Ffk9:=Lib.hid fk9;clear fk9
    cases fk10:decide (lo ≤ hi)
    case false=>
     have Ffk10:=Lib.hid fk10;clear fk10
     have s3_15:=f1.q 3 s3_0
     have s1_16:=f1.q 1 s1_0
     have s2_17:=f1.q 2 s2_0
     refine go_reg [bx g1 35 (stC a)] [] (tabs [some (.agg (stC a)),oT,oT,some (.int .i64 size),oF,oF,some (.int .i64 size),oF,oF,oF,some (.int .i64 size),oT,oT,oT,oU,oU,oT,oT,oT,some (.int .i64 lo)] [oT,oT,oT,some (.int .i64 lo),some (.int .i64 hi),oF,oF,oF,oU,oU,oU,oU,oF,oF]) mo f1.d f1.z f1.b (by kernel_rfl) ⟨b_g1,trivial⟩ (
      hk (fun cx=>cx.q (ldSt rfl (cx.rq 4 u_g1) (cx.rn 0 rfl))) <|
      hc (fun _ _ wx cx=>cx.c rfl (args1 (cx.u 0 rfl)) Try.func16 (by decide +kernel) (qmay_n a wx) rfl (congrArg Value.bool Ffk1.out)) <|
      kmu 0 <|
      hk (fun cx=>cx.vy 0 (ex_mv rfl (cx.rq 3 s3_15))) <|
      hk (fun cx=>cx.vy 1 (ex_eq (x:=.tmp 12) rfl (cx.u 0 rfl) rfl) (congrArg Value.bool Ffk2.out)) <|
      hk (fun cx=>cx.vy 1 (ex_mv rfl (cx.u 0 rfl))) <|
      hk (fun cx=>cx.vy 0 (ex_mv rfl (cx.rq 3 s3_15))) <|
      hk (fun cx=>cx.vy 1 (ex_eq (x:=.tmp 15) rfl (cx.u 0 rfl) rfl) (congrArg Value.bool Ffk3.out)) <|
      hk (fun cx=>cx.vy 2 (ex_pf rfl (cx.u 0 rfl) (cx.u 1 rfl))) <|
      hk (fun cx=>cx.vy 2 (ex_mv rfl (cx.u 0 rfl))) <|
      hk (fun cx=>cx.vy 0 (ex_mv rfl (cx.rq 3 s3_15))) <|
      hk (fun cx=>cx.vy 1 (ex_eq (x:=.tmp 19) rfl (cx.u 0 rfl) rfl) (congrArg Value.bool Ffk4.out)) <|
      hk (fun cx=>cx.vy 2 (ex_pf rfl (cx.u 0 rfl) (cx.u 1 rfl))) <|
      hk (fun cx=>cx.vy 2 (ex_mv rfl (cx.u 0 rfl))) <|
      kno 0 <|
      kno 1 <|
      hk (fun cx=>cx.vy 2 (ex_pt rfl (cx.u 0 rfl) rfl)) <|
      hk (fun cx=>cx.q (ex_pt rfl (cx.u 0 rfl) (cx.u 1 rfl))) <|
      kmu 0 <|
      hk (fun cx=>cx.vy 0 (ex_mv rfl (cx.rq 1 s1_16))) <|
      hk (fun cx=>cx.vy 1 (ex_ge (x:=.tmp 28) rfl (cx.u 0 rfl) rfl) (congrArg Value.bool Ffk9.out)) <|
      hk (fun cx=>cx.q (ex_pt rfl (cx.u 0 rfl) (cx.u 1 rfl))) <|
      kmu 0 <|
      hk (fun cx=>cx.vy 0 (ex_mv rfl (cx.rq 1 s1_16))) <|
      hk (fun cx=>cx.vy 0 (ex_mv rfl (cx.rq 2 s2_17))) <|
      hk (fun cx=>cx.vy 2 (ex_le (x:=.tmp 32) (y:=.tmp 33) rfl (cx.u 0 rfl) (cx.u 1 rfl)) (congrArg Value.bool Ffk10.out)) <|
      hk (fun cx=>cx.q (ex_pt rfl (cx.u 0 rfl) (cx.u 1 rfl))) <|
      kmu 0 <|
      kno 0 <|
      kno 0 <|
      kno 1 <|
      kno 2 <|
      hk (fun cx=>cx.q (ex_pf rfl (cx.u 0 rfl) rfl)) <|
      kmu 0 <|
      hn) ?_
     intro a9 w9 f9
     refine wp_ret ?_
     try simp only [Exit.inBlock,Exit.then]
     refine bodyPost_ret (res_t (fn:=Try.f34) rfl (f9.v 33 rfl rfl rfl)) f9.d ?_
     have HE:(.bool false:Value)=.bool (placeB a lo hi size):=by unfold placeB withinB sizeB;simp only [Ffk1.out,Ffk2.out,Ffk3.out,Ffk4.out,Ffk9.out,Ffk10.out,Bool.true_and,Bool.and_true,Bool.false_and,Bool.and_false,Bool.or_false,Bool.false_or,Bool.true_or,Bool.or_true,Bool.not_true,Bool.not_false,if_true,if_false,Bool.false_eq_true,Bool.true_eq_false,reduceCtorEq];try rfl
     exact ⟨retV HE,f9.b⟩
    have Ffk10:=Lib.hid fk10;clear fk10
    cases fk11:decide (hi ≤ (64 - size))
    case false=>
     have Ffk11:=Lib.hid fk11;clear fk11
     have s3_18:=f1.q 3 s3_0
     have s1_19:=f1.q 1 s1_0
     have s2_20:=f1.q 2 s2_0
     refine go_reg [bx g1 35 (stC a)] [] (tabs [some (.agg (stC a)),oT,oT,some (.int .i64 size),oF,oF,some (.int .i64 size),oF,oF,oF,some (.int .i64 size),oT,oT,oT,oU,oU,oT,oT,oT,some (.int .i64 lo)] [oT,oT,oT,some (.int .i64 lo),some (.int .i64 hi),oT,oT,oT,some (.int .i64 hi),some (.int .i64 size),some (.int .i64 (64 - size)),oF,oF,oF]) mo f1.d f1.z f1.b (by kernel_rfl) ⟨b_g1,trivial⟩ (
      hk (fun cx=>cx.q (ldSt rfl (cx.rq 4 u_g1) (cx.rn 0 rfl))) <|
      hc (fun _ _ wx cx=>cx.c rfl (args1 (cx.u 0 rfl)) Try.func16 (by decide +kernel) (qmay_n a wx) rfl (congrArg Value.bool Ffk1.out)) <|
      kmu 0 <|
      hk (fun cx=>cx.vy 0 (ex_mv rfl (cx.rq 3 s3_18))) <|
      hk (fun cx=>cx.vy 1 (ex_eq (x:=.tmp 12) rfl (cx.u 0 rfl) rfl) (congrArg Value.bool Ffk2.out)) <|
      hk (fun cx=>cx.vy 1 (ex_mv rfl (cx.u 0 rfl))) <|
      hk (fun cx=>cx.vy 0 (ex_mv rfl (cx.rq 3 s3_18))) <|
      hk (fun cx=>cx.vy 1 (ex_eq (x:=.tmp 15) rfl (cx.u 0 rfl) rfl) (congrArg Value.bool Ffk3.out)) <|
      hk (fun cx=>cx.vy 2 (ex_pf rfl (cx.u 0 rfl) (cx.u 1 rfl))) <|
      hk (fun cx=>cx.vy 2 (ex_mv rfl (cx.u 0 rfl))) <|
      hk (fun cx=>cx.vy 0 (ex_mv rfl (cx.rq 3 s3_18))) <|
      hk (fun cx=>cx.vy 1 (ex_eq (x:=.tmp 19) rfl (cx.u 0 rfl) rfl) (congrArg Value.bool Ffk4.out)) <|
      hk (fun cx=>cx.vy 2 (ex_pf rfl (cx.u 0 rfl) (cx.u 1 rfl))) <|
      hk (fun cx=>cx.vy 2 (ex_mv rfl (cx.u 0 rfl))) <|
      kno 0 <|
      kno 1 <|
      hk (fun cx=>cx.vy 2 (ex_pt rfl (cx.u 0 rfl) rfl)) <|
      hk (fun cx=>cx.q (ex_pt rfl (cx.u 0 rfl) (cx.u 1 rfl))) <|
      kmu 0 <|
      hk (fun cx=>cx.vy 0 (ex_mv rfl (cx.rq 1 s1_19))) <|
      hk (fun cx=>cx.vy 1 (ex_ge (x:=.tmp 28) rfl (cx.u 0 rfl) rfl) (congrArg Value.bool Ffk9.out)) <|
      hk (fun cx=>cx.q (ex_pt rfl (cx.u 0 rfl) (cx.u 1 rfl))) <|
      kmu 0 <|
      hk (fun cx=>cx.vy 0 (ex_mv rfl (cx.rq 1 s1_19))) <|
      hk (fun cx=>cx.vy 0 (ex_mv rfl (cx.rq 2 s2_20))) <|
      hk (fun cx=>cx.vy 2 (ex_le (x:=.tmp 32) (y:=.tmp 33) rfl (cx.u 0 rfl) (cx.u 1 rfl)) (congrArg Value.bool Ffk10.out)) <|
      hk (fun cx=>cx.q (ex_pt rfl (cx.u 0 rfl) (cx.u 1 rfl))) <|
      kmu 0 <|
      hk (fun cx=>cx.vy 0 (ex_mv rfl (cx.rq 2 s2_20))) <|
      hk (fun cx=>cx.vy 0 (ex_mv rfl (cx.rq 3 s3_18))) <|
      hk (fun cx=>cx.vy 1 (ex_sub (y:=.tmp 38) rfl rfl (cx.u 0 rfl)) (congrArg (Value.int .i64) (sub64 hsz))) <|
      hk (fun cx=>cx.vy 2 (ex_le (x:=.tmp 37) (y:=.tmp 39) rfl (cx.u 0 rfl) (cx.u 1 rfl)) (congrArg Value.bool Ffk11.out)) <|
      hk (fun cx=>cx.q (ex_pt rfl (cx.u 0 rfl) (cx.u 1 rfl))) <|
      kmu 0 <|
      hn) ?_
     intro a10 w10 f10
     refine wp_ret ?_
     try simp only [Exit.inBlock,Exit.then]
     refine bodyPost_ret (res_t (fn:=Try.f34) rfl (f10.v 33 rfl rfl rfl)) f10.d ?_
     have HE:(.bool false:Value)=.bool (placeB a lo hi size):=by unfold placeB withinB sizeB;simp only [Ffk1.out,Ffk2.out,Ffk3.out,Ffk4.out,Ffk9.out,Ffk10.out,Ffk11.out,Bool.true_and,Bool.and_true,Bool.false_and,Bool.and_false,Bool.or_false,Bool.false_or,Bool.true_or,Bool.or_true,Bool.not_true,Bool.not_false,if_true,if_false,Bool.false_eq_true,Bool.true_eq_false,reduceCtorEq];try rfl
     exact ⟨retV HE,f10.b⟩
    have Ffk11:=Lib.hid fk11;clear fk11
    have s3_21:=f1.q 3 s3_0
    have s1_22:=f1.q 1 s1_0
    have s2_23:=f1.q 2 s2_0
    refine go_reg [bx g1 35 (stC a)] [] (tabs [some (.agg (stC a)),oT,oT,some (.int .i64 size),oF,oF,some (.int .i64 size),oF,oF,oF,some (.int .i64 size),oT,oT,oT,oU,oU,oT,oT,oT,some (.int .i64 lo)] [oT,oT,oT,some (.int .i64 lo),some (.int .i64 hi),oT,oT,oT,some (.int .i64 hi),some (.int .i64 size),some (.int .i64 (64 - size)),oT,oT,oT]) mo f1.d f1.z f1.b (by kernel_rfl) ⟨b_g1,trivial⟩ (
     hk (fun cx=>cx.q (ldSt rfl (cx.rq 4 u_g1) (cx.rn 0 rfl))) <|
     hc (fun _ _ wx cx=>cx.c rfl (args1 (cx.u 0 rfl)) Try.func16 (by decide +kernel) (qmay_n a wx) rfl (congrArg Value.bool Ffk1.out)) <|
     kmu 0 <|
     hk (fun cx=>cx.vy 0 (ex_mv rfl (cx.rq 3 s3_21))) <|
     hk (fun cx=>cx.vy 1 (ex_eq (x:=.tmp 12) rfl (cx.u 0 rfl) rfl) (congrArg Value.bool Ffk2.out)) <|
     hk (fun cx=>cx.vy 1 (ex_mv rfl (cx.u 0 rfl))) <|
     hk (fun cx=>cx.vy 0 (ex_mv rfl (cx.rq 3 s3_21))) <|
     hk (fun cx=>cx.vy 1 (ex_eq (x:=.tmp 15) rfl (cx.u 0 rfl) rfl) (congrArg Value.bool Ffk3.out)) <|
     hk (fun cx=>cx.vy 2 (ex_pf rfl (cx.u 0 rfl) (cx.u 1 rfl))) <|
     hk (fun cx=>cx.vy 2 (ex_mv rfl (cx.u 0 rfl))) <|
     hk (fun cx=>cx.vy 0 (ex_mv rfl (cx.rq 3 s3_21))) <|
     hk (fun cx=>cx.vy 1 (ex_eq (x:=.tmp 19) rfl (cx.u 0 rfl) rfl) (congrArg Value.bool Ffk4.out)) <|
     hk (fun cx=>cx.vy 2 (ex_pf rfl (cx.u 0 rfl) (cx.u 1 rfl))) <|
     hk (fun cx=>cx.vy 2 (ex_mv rfl (cx.u 0 rfl))) <|
     kno 0 <|
     kno 1 <|
     hk (fun cx=>cx.vy 2 (ex_pt rfl (cx.u 0 rfl) rfl)) <|
     hk (fun cx=>cx.q (ex_pt rfl (cx.u 0 rfl) (cx.u 1 rfl))) <|
     kmu 0 <|
     hk (fun cx=>cx.vy 0 (ex_mv rfl (cx.rq 1 s1_22))) <|
     hk (fun cx=>cx.vy 1 (ex_ge (x:=.tmp 28) rfl (cx.u 0 rfl) rfl) (congrArg Value.bool Ffk9.out)) <|
     hk (fun cx=>cx.q (ex_pt rfl (cx.u 0 rfl) (cx.u 1 rfl))) <|
     kmu 0 <|
     hk (fun cx=>cx.vy 0 (ex_mv rfl (cx.rq 1 s1_22))) <|
     hk (fun cx=>cx.vy 0 (ex_mv rfl (cx.rq 2 s2_23))) <|
     hk (fun cx=>cx.vy 2 (ex_le (x:=.tmp 32) (y:=.tmp 33) rfl (cx.u 0 rfl) (cx.u 1 rfl)) (congrArg Value.bool Ffk10.out)) <|
     hk (fun cx=>cx.q (ex_pt rfl (cx.u 0 rfl) (cx.u 1 rfl))) <|
     kmu 0 <|
     hk (fun cx=>cx.vy 0 (ex_mv rfl (cx.rq 2 s2_23))) <|
     hk (fun cx=>cx.vy 0 (ex_mv rfl (cx.rq 3 s3_21))) <|
     hk (fun cx=>cx.vy 1 (ex_sub (y:=.tmp 38) rfl rfl (cx.u 0 rfl)) (congrArg (Value.int .i64) (sub64 hsz))) <|
     hk (fun cx=>cx.vy 2 (ex_le (x:=.tmp 37) (y:=.tmp 39) rfl (cx.u 0 rfl) (cx.u 1 rfl)) (congrArg Value.bool Ffk11.out)) <|
     hk (fun cx=>cx.q (ex_pt rfl (cx.u 0 rfl) (cx.u 1 rfl))) <|
     kmu 0 <|
     hn) ?_
    intro a11 w11 f11
    refine wp_ret ?_
    try simp only [Exit.inBlock,Exit.then]
    refine bodyPost_ret (res_t (fn:=Try.f34) rfl (f11.v 33 rfl rfl rfl)) f11.d ?_
    have HE:(.bool true:Value)=.bool (placeB a lo hi size):=by unfold placeB withinB sizeB;simp only [Ffk1.out,Ffk2.out,Ffk3.out,Ffk4.out,Ffk9.out,Ffk10.out,Ffk11.out,Bool.true_and,Bool.and_true,Bool.false_and,Bool.and_false,Bool.or_false,Bool.false_or,Bool.true_or,Bool.or_true,Bool.not_true,Bool.not_false,if_true,if_false,Bool.false_eq_true,Bool.true_eq_false,reduceCtorEq];try rfl
    exact ⟨retV HE,f11.b⟩
   have Ffk3:=Lib.hid fk3;clear fk3
   have hsz:sizeB size=true:=by unfold sizeB;have:=yb Ffk3.out;rw [this];rfl
   cases fk12:decide (0 ≤ lo)
   case false=>
    have Ffk12:=Lib.hid fk12;clear fk12
    have s3_24:=f1.q 3 s3_0
    have s1_25:=f1.q 1 s1_0
    refine go_reg [bx g1 35 (stC a)] [] (tabs [some (.agg (stC a)),oT,oT,some (.int .i64 size),oF,oF,some (.int .i64 size),oT,oT,oT,oU,oU,oT,oT,oU,oU,oT,oT,oT,some (.int .i64 lo)] [oF,oF,oF,oU,oU,oU,oF,oF,oU,oU,oU,oU,oF,oF]) mo f1.d f1.z f1.b (by kernel_rfl) ⟨b_g1,trivial⟩ (
     hk (fun cx=>cx.q (ldSt rfl (cx.rq 4 u_g1) (cx.rn 0 rfl))) <|
     hc (fun _ _ wx cx=>cx.c rfl (args1 (cx.u 0 rfl)) Try.func16 (by decide +kernel) (qmay_n a wx) rfl (congrArg Value.bool Ffk1.out)) <|
     kmu 0 <|
     hk (fun cx=>cx.vy 0 (ex_mv rfl (cx.rq 3 s3_24))) <|
     hk (fun cx=>cx.vy 1 (ex_eq (x:=.tmp 12) rfl (cx.u 0 rfl) rfl) (congrArg Value.bool Ffk2.out)) <|
     hk (fun cx=>cx.vy 1 (ex_mv rfl (cx.u 0 rfl))) <|
     hk (fun cx=>cx.vy 0 (ex_mv rfl (cx.rq 3 s3_24))) <|
     hk (fun cx=>cx.vy 1 (ex_eq (x:=.tmp 15) rfl (cx.u 0 rfl) rfl) (congrArg Value.bool Ffk3.out)) <|
     hk (fun cx=>cx.vy 2 (ex_pf rfl (cx.u 0 rfl) (cx.u 1 rfl))) <|
     hk (fun cx=>cx.vy 2 (ex_mv rfl (cx.u 0 rfl))) <|
     kno 0 <|
     kno 1 <|
     hk (fun cx=>cx.vy 2 (ex_pt rfl (cx.u 0 rfl) rfl)) <|
     hk (fun cx=>cx.vy 2 (ex_mv rfl (cx.u 0 rfl))) <|
     kno 0 <|
     kno 1 <|
     hk (fun cx=>cx.vy 2 (ex_pt rfl (cx.u 0 rfl) rfl)) <|
     hk (fun cx=>cx.q (ex_pt rfl (cx.u 0 rfl) (cx.u 1 rfl))) <|
     kmu 0 <|
     hk (fun cx=>cx.vy 0 (ex_mv rfl (cx.rq 1 s1_25))) <|
     hk (fun cx=>cx.vy 1 (ex_ge (x:=.tmp 28) rfl (cx.u 0 rfl) rfl) (congrArg Value.bool Ffk12.out)) <|
     hk (fun cx=>cx.q (ex_pt rfl (cx.u 0 rfl) (cx.u 1 rfl))) <|
     kmu 0 <|
     kno 0 <|
     kno 0 <|
     kno 2 <|
     hk (fun cx=>cx.q (ex_pf rfl (cx.u 0 rfl) rfl)) <|
     kmu 0 <|
     kno 0 <|
     kno 0 <|
     kno 1 <|
     kno 2 <|
     hk (fun cx=>cx.q (ex_pf rfl (cx.u 0 rfl) rfl)) <|
     kmu 0 <|
     hn) ?_
    intro a12 w12 f12
    refine wp_ret ?_
    try simp only [Exit.inBlock,Exit.then]
    refine bodyPost_ret (res_t (fn:=Try.f34) rfl (f12.v 33 rfl rfl rfl)) f12.d ?_
    have HE:(.bool false:Value)=.bool (placeB a lo hi size):=by unfold placeB withinB sizeB;simp only [Ffk1.out,Ffk2.out,Ffk3.out,Ffk12.out,Bool.true_and,Bool.and_true,Bool.false_and,Bool.and_false,Bool.or_false,Bool.false_or,Bool.true_or,Bool.or_true,Bool.not_true,Bool.not_false,if_true,if_false,Bool.false_eq_true,Bool.true_eq_false,reduceCtorEq];try rfl
    exact ⟨retV HE,f12.b⟩
   have Ffk12:=Lib.hid fk12;clear fk12
   cases fk13:decide (lo ≤ hi)
   case false=>
    have Ffk13:=Lib.hid fk13;clear fk13
    have s3_26:=f1.q 3 s3_0
    have s1_27:=f1.q 1 s1_0
    have s2_28:=f1.q 2 s2_0
    refine go_reg [bx g1 35 (stC a)] [] (tabs [some (.agg (stC a)),oT,oT,some (.int .i64 size),oF,oF,some (.int .i64 size),oT,oT,oT,oU,oU,oT,oT,oU,oU,oT,oT,oT,some (.int .i64 lo)] [oT,oT,oT,some (.int .i64 lo),some (.int .i64 hi),oF,oF,oF,oU,oU,oU,oU,oF,oF]) mo f1.d f1.z f1.b (by kernel_rfl) ⟨b_g1,trivial⟩ (
     hk (fun cx=>cx.q (ldSt rfl (cx.rq 4 u_g1) (cx.rn 0 rfl))) <|
     hc (fun _ _ wx cx=>cx.c rfl (args1 (cx.u 0 rfl)) Try.func16 (by decide +kernel) (qmay_n a wx) rfl (congrArg Value.bool Ffk1.out)) <|
     kmu 0 <|
     hk (fun cx=>cx.vy 0 (ex_mv rfl (cx.rq 3 s3_26))) <|
     hk (fun cx=>cx.vy 1 (ex_eq (x:=.tmp 12) rfl (cx.u 0 rfl) rfl) (congrArg Value.bool Ffk2.out)) <|
     hk (fun cx=>cx.vy 1 (ex_mv rfl (cx.u 0 rfl))) <|
     hk (fun cx=>cx.vy 0 (ex_mv rfl (cx.rq 3 s3_26))) <|
     hk (fun cx=>cx.vy 1 (ex_eq (x:=.tmp 15) rfl (cx.u 0 rfl) rfl) (congrArg Value.bool Ffk3.out)) <|
     hk (fun cx=>cx.vy 2 (ex_pf rfl (cx.u 0 rfl) (cx.u 1 rfl))) <|
     hk (fun cx=>cx.vy 2 (ex_mv rfl (cx.u 0 rfl))) <|
     kno 0 <|
     kno 1 <|
     hk (fun cx=>cx.vy 2 (ex_pt rfl (cx.u 0 rfl) rfl)) <|
     hk (fun cx=>cx.vy 2 (ex_mv rfl (cx.u 0 rfl))) <|
     kno 0 <|
     kno 1 <|
     hk (fun cx=>cx.vy 2 (ex_pt rfl (cx.u 0 rfl) rfl)) <|
     hk (fun cx=>cx.q (ex_pt rfl (cx.u 0 rfl) (cx.u 1 rfl))) <|
     kmu 0 <|
     hk (fun cx=>cx.vy 0 (ex_mv rfl (cx.rq 1 s1_27))) <|
     hk (fun cx=>cx.vy 1 (ex_ge (x:=.tmp 28) rfl (cx.u 0 rfl) rfl) (congrArg Value.bool Ffk12.out)) <|
     hk (fun cx=>cx.q (ex_pt rfl (cx.u 0 rfl) (cx.u 1 rfl))) <|
     kmu 0 <|
     hk (fun cx=>cx.vy 0 (ex_mv rfl (cx.rq 1 s1_27))) <|
     hk (fun cx=>cx.vy 0 (ex_mv rfl (cx.rq 2 s2_28))) <|
     hk (fun cx=>cx.vy 2 (ex_le (x:=.tmp 32) (y:=.tmp 33) rfl (cx.u 0 rfl) (cx.u 1 rfl)) (congrArg Value.bool Ffk13.out)) <|
     hk (fun cx=>cx.q (ex_pt rfl (cx.u 0 rfl) (cx.u 1 rfl))) <|
     kmu 0 <|
     kno 0 <|
     kno 0 <|
     kno 1 <|
     kno 2 <|
     hk (fun cx=>cx.q (ex_pf rfl (cx.u 0 rfl) rfl)) <|
     kmu 0 <|
     hn) ?_
    intro a13 w13 f13
    refine wp_ret ?_
    try simp only [Exit.inBlock,Exit.then]
    refine bodyPost_ret (res_t (fn:=Try.f34) rfl (f13.v 33 rfl rfl rfl)) f13.d ?_
    have HE:(.bool false:Value)=.bool (placeB a lo hi size):=by unfold placeB withinB sizeB;simp only [Ffk1.out,Ffk2.out,Ffk3.out,Ffk12.out,Ffk13.out,Bool.true_and,Bool.and_true,Bool.false_and,Bool.and_false,Bool.or_false,Bool.false_or,Bool.true_or,Bool.or_true,Bool.not_true,Bool.not_false,if_true,if_false,Bool.false_eq_true,Bool.true_eq_false,reduceCtorEq];try rfl
    exact ⟨retV HE,f13.b⟩
   have Ffk13:=Lib.hid fk13;clear fk13
   cases fk14:decide (hi ≤ (64 - size))
   case false=>
    have Ffk14:=Lib.hid fk14;clear fk14
    have s3_29:=f1.q 3 s3_0
    have s1_30:=f1.q 1 s1_0
    have s2_31:=f1.q 2 s2_0
    refine go_reg [bx g1 35 (stC a)] [] (tabs [some (.agg (stC a)),oT,oT,some (.int .i64 size),oF,oF,some (.int .i64 size),oT,oT,oT,oU,oU,oT,oT,oU,oU,oT,oT,oT,some (.int .i64 lo)] [oT,oT,oT,some (.int .i64 lo),some (.int .i64 hi),oT,oT,oT,some (.int .i64 hi),some (.int .i64 size),some (.int .i64 (64 - size)),oF,oF,oF]) mo f1.d f1.z f1.b (by kernel_rfl) ⟨b_g1,trivial⟩ (
     hk (fun cx=>cx.q (ldSt rfl (cx.rq 4 u_g1) (cx.rn 0 rfl))) <|
     hc (fun _ _ wx cx=>cx.c rfl (args1 (cx.u 0 rfl)) Try.func16 (by decide +kernel) (qmay_n a wx) rfl (congrArg Value.bool Ffk1.out)) <|
     kmu 0 <|
     hk (fun cx=>cx.vy 0 (ex_mv rfl (cx.rq 3 s3_29))) <|
     hk (fun cx=>cx.vy 1 (ex_eq (x:=.tmp 12) rfl (cx.u 0 rfl) rfl) (congrArg Value.bool Ffk2.out)) <|
     hk (fun cx=>cx.vy 1 (ex_mv rfl (cx.u 0 rfl))) <|
     hk (fun cx=>cx.vy 0 (ex_mv rfl (cx.rq 3 s3_29))) <|
     hk (fun cx=>cx.vy 1 (ex_eq (x:=.tmp 15) rfl (cx.u 0 rfl) rfl) (congrArg Value.bool Ffk3.out)) <|
     hk (fun cx=>cx.vy 2 (ex_pf rfl (cx.u 0 rfl) (cx.u 1 rfl))) <|
     hk (fun cx=>cx.vy 2 (ex_mv rfl (cx.u 0 rfl))) <|
     kno 0 <|
     kno 1 <|
     hk (fun cx=>cx.vy 2 (ex_pt rfl (cx.u 0 rfl) rfl)) <|
     hk (fun cx=>cx.vy 2 (ex_mv rfl (cx.u 0 rfl))) <|
     kno 0 <|
     kno 1 <|
     hk (fun cx=>cx.vy 2 (ex_pt rfl (cx.u 0 rfl) rfl)) <|
     hk (fun cx=>cx.q (ex_pt rfl (cx.u 0 rfl) (cx.u 1 rfl))) <|
     kmu 0 <|
     hk (fun cx=>cx.vy 0 (ex_mv rfl (cx.rq 1 s1_30))) <|
     hk (fun cx=>cx.vy 1 (ex_ge (x:=.tmp 28) rfl (cx.u 0 rfl) rfl) (congrArg Value.bool Ffk12.out)) <|
     hk (fun cx=>cx.q (ex_pt rfl (cx.u 0 rfl) (cx.u 1 rfl))) <|
     kmu 0 <|
     hk (fun cx=>cx.vy 0 (ex_mv rfl (cx.rq 1 s1_30))) <|
     hk (fun cx=>cx.vy 0 (ex_mv rfl (cx.rq 2 s2_31))) <|
     hk (fun cx=>cx.vy 2 (ex_le (x:=.tmp 32) (y:=.tmp 33) rfl (cx.u 0 rfl) (cx.u 1 rfl)) (congrArg Value.bool Ffk13.out)) <|
     hk (fun cx=>cx.q (ex_pt rfl (cx.u 0 rfl) (cx.u 1 rfl))) <|
     kmu 0 <|
     hk (fun cx=>cx.vy 0 (ex_mv rfl (cx.rq 2 s2_31))) <|
     hk (fun cx=>cx.vy 0 (ex_mv rfl (cx.rq 3 s3_29))) <|
     hk (fun cx=>cx.vy 1 (ex_sub (y:=.tmp 38) rfl rfl (cx.u 0 rfl)) (congrArg (Value.int .i64) (sub64 hsz))) <|
     hk (fun cx=>cx.vy 2 (ex_le (x:=.tmp 37) (y:=.tmp 39) rfl (cx.u 0 rfl) (cx.u 1 rfl)) (congrArg Value.bool Ffk14.out)) <|
     hk (fun cx=>cx.q (ex_pt rfl (cx.u 0 rfl) (cx.u 1 rfl))) <|
     kmu 0 <|
     hn) ?_
    intro a14 w14 f14
    refine wp_ret ?_
    try simp only [Exit.inBlock,Exit.then]
    refine bodyPost_ret (res_t (fn:=Try.f34) rfl (f14.v 33 rfl rfl rfl)) f14.d ?_
    have HE:(.bool false:Value)=.bool (placeB a lo hi size):=by unfold placeB withinB sizeB;simp only [Ffk1.out,Ffk2.out,Ffk3.out,Ffk12.out,Ffk13.out,Ffk14.out,Bool.true_and,Bool.and_true,Bool.false_and,Bool.and_false,Bool.or_false,Bool.false_or,Bool.true_or,Bool.or_true,Bool.not_true,Bool.not_false,if_true,if_false,Bool.false_eq_true,Bool.true_eq_false,reduceCtorEq];try rfl
    exact ⟨retV HE,f14.b⟩
   have Ffk14:=Lib.hid fk14;clear fk14
   have s3_32:=f1.q 3 s3_0
   have s1_33:=f1.q 1 s1_0
   have s2_34:=f1.q 2 s2_0
   refine go_reg [bx g1 35 (stC a)] [] (tabs [some (.agg (stC a)),oT,oT,some (.int .i64 size),oF,oF,some (.int .i64 size),oT,oT,oT,oU,oU,oT,oT,oU,oU,oT,oT,oT,some (.int .i64 lo)] [oT,oT,oT,some (.int .i64 lo),some (.int .i64 hi),oT,oT,oT,some (.int .i64 hi),some (.int .i64 size),some (.int .i64 (64 - size)),oT,oT,oT]) mo f1.d f1.z f1.b (by kernel_rfl) ⟨b_g1,trivial⟩ (
    hk (fun cx=>cx.q (ldSt rfl (cx.rq 4 u_g1) (cx.rn 0 rfl))) <|
    hc (fun _ _ wx cx=>cx.c rfl (args1 (cx.u 0 rfl)) Try.func16 (by decide +kernel) (qmay_n a wx) rfl (congrArg Value.bool Ffk1.out)) <|
    kmu 0 <|
    hk (fun cx=>cx.vy 0 (ex_mv rfl (cx.rq 3 s3_32))) <|
    hk (fun cx=>cx.vy 1 (ex_eq (x:=.tmp 12) rfl (cx.u 0 rfl) rfl) (congrArg Value.bool Ffk2.out)) <|
    hk (fun cx=>cx.vy 1 (ex_mv rfl (cx.u 0 rfl))) <|
    hk (fun cx=>cx.vy 0 (ex_mv rfl (cx.rq 3 s3_32))) <|
    hk (fun cx=>cx.vy 1 (ex_eq (x:=.tmp 15) rfl (cx.u 0 rfl) rfl) (congrArg Value.bool Ffk3.out)) <|
    hk (fun cx=>cx.vy 2 (ex_pf rfl (cx.u 0 rfl) (cx.u 1 rfl))) <|
    hk (fun cx=>cx.vy 2 (ex_mv rfl (cx.u 0 rfl))) <|
    kno 0 <|
    kno 1 <|
    hk (fun cx=>cx.vy 2 (ex_pt rfl (cx.u 0 rfl) rfl)) <|
    hk (fun cx=>cx.vy 2 (ex_mv rfl (cx.u 0 rfl))) <|
    kno 0 <|
    kno 1 <|
    hk (fun cx=>cx.vy 2 (ex_pt rfl (cx.u 0 rfl) rfl)) <|
    hk (fun cx=>cx.q (ex_pt rfl (cx.u 0 rfl) (cx.u 1 rfl))) <|
    kmu 0 <|
    hk (fun cx=>cx.vy 0 (ex_mv rfl (cx.rq 1 s1_33))) <|
    hk (fun cx=>cx.vy 1 (ex_ge (x:=.tmp 28) rfl (cx.u 0 rfl) rfl) (congrArg Value.bool Ffk12.out)) <|
    hk (fun cx=>cx.q (ex_pt rfl (cx.u 0 rfl) (cx.u 1 rfl))) <|
    kmu 0 <|
    hk (fun cx=>cx.vy 0 (ex_mv rfl (cx.rq 1 s1_33))) <|
    hk (fun cx=>cx.vy 0 (ex_mv rfl (cx.rq 2 s2_34))) <|
    hk (fun cx=>cx.vy 2 (ex_le (x:=.tmp 32) (y:=.tmp 33) rfl (cx.u 0 rfl) (cx.u 1 rfl)) (congrArg Value.bool Ffk13.out)) <|
    hk (fun cx=>cx.q (ex_pt rfl (cx.u 0 rfl) (cx.u 1 rfl))) <|
    kmu 0 <|
    hk (fun cx=>cx.vy 0 (ex_mv rfl (cx.rq 2 s2_34))) <|
    hk (fun cx=>cx.vy 0 (ex_mv rfl (cx.rq 3 s3_32))) <|
    hk (fun cx=>cx.vy 1 (ex_sub (y:=.tmp 38) rfl rfl (cx.u 0 rfl)) (congrArg (Value.int .i64) (sub64 hsz))) <|
    hk (fun cx=>cx.vy 2 (ex_le (x:=.tmp 37) (y:=.tmp 39) rfl (cx.u 0 rfl) (cx.u 1 rfl)) (congrArg Value.bool Ffk14.out)) <|
    hk (fun cx=>cx.q (ex_pt rfl (cx.u 0 rfl) (cx.u 1 rfl))) <|
    kmu 0 <|
    hn) ?_
   intro a15 w15 f15
   refine wp_ret ?_
   try simp only [Exit.inBlock,Exit.then]
   refine bodyPost_ret (res_t (fn:=Try.f34) rfl (f15.v 33 rfl rfl rfl)) f15.d ?_
   have HE:(.bool true:Value)=.bool (placeB a lo hi size):=by unfold placeB withinB sizeB;simp only [Ffk1.out,Ffk2.out,Ffk3.out,Ffk12.out,Ffk13.out,Ffk14.out,Bool.true_and,Bool.and_true,Bool.false_and,Bool.and_false,Bool.or_false,Bool.false_or,Bool.true_or,Bool.or_true,Bool.not_true,Bool.not_false,if_true,if_false,Bool.false_eq_true,Bool.true_eq_false,reduceCtorEq];try rfl
   exact ⟨retV HE,f15.b⟩
  have Ffk2:=Lib.hid fk2;clear fk2
  have hsz:sizeB size=true:=by unfold sizeB;have:=yb Ffk2.out;rw [this];rfl
  cases fk15:decide (0 ≤ lo)
  case false=>
   have Ffk15:=Lib.hid fk15;clear fk15
   have s3_35:=f1.q 3 s3_0
   have s1_36:=f1.q 1 s1_0
   refine go_reg [bx g1 35 (stC a)] [] (tabs [some (.agg (stC a)),oT,oT,some (.int .i64 size),oT,oT,oU,oU,oT,oT,oU,oU,oT,oT,oU,oU,oT,oT,oT,some (.int .i64 lo)] [oF,oF,oF,oU,oU,oU,oF,oF,oU,oU,oU,oU,oF,oF]) mo f1.d f1.z f1.b (by kernel_rfl) ⟨b_g1,trivial⟩ (
    hk (fun cx=>cx.q (ldSt rfl (cx.rq 4 u_g1) (cx.rn 0 rfl))) <|
    hc (fun _ _ wx cx=>cx.c rfl (args1 (cx.u 0 rfl)) Try.func16 (by decide +kernel) (qmay_n a wx) rfl (congrArg Value.bool Ffk1.out)) <|
    kmu 0 <|
    hk (fun cx=>cx.vy 0 (ex_mv rfl (cx.rq 3 s3_35))) <|
    hk (fun cx=>cx.vy 1 (ex_eq (x:=.tmp 12) rfl (cx.u 0 rfl) rfl) (congrArg Value.bool Ffk2.out)) <|
    hk (fun cx=>cx.vy 1 (ex_mv rfl (cx.u 0 rfl))) <|
    kno 0 <|
    kno 1 <|
    hk (fun cx=>cx.vy 2 (ex_pt rfl (cx.u 0 rfl) rfl)) <|
    hk (fun cx=>cx.vy 2 (ex_mv rfl (cx.u 0 rfl))) <|
    kno 0 <|
    kno 1 <|
    hk (fun cx=>cx.vy 2 (ex_pt rfl (cx.u 0 rfl) rfl)) <|
    hk (fun cx=>cx.vy 2 (ex_mv rfl (cx.u 0 rfl))) <|
    kno 0 <|
    kno 1 <|
    hk (fun cx=>cx.vy 2 (ex_pt rfl (cx.u 0 rfl) rfl)) <|
    hk (fun cx=>cx.q (ex_pt rfl (cx.u 0 rfl) (cx.u 1 rfl))) <|
    kmu 0 <|
    hk (fun cx=>cx.vy 0 (ex_mv rfl (cx.rq 1 s1_36))) <|
    hk (fun cx=>cx.vy 1 (ex_ge (x:=.tmp 28) rfl (cx.u 0 rfl) rfl) (congrArg Value.bool Ffk15.out)) <|
    hk (fun cx=>cx.q (ex_pt rfl (cx.u 0 rfl) (cx.u 1 rfl))) <|
    kmu 0 <|
    kno 0 <|
    kno 0 <|
    kno 2 <|
    hk (fun cx=>cx.q (ex_pf rfl (cx.u 0 rfl) rfl)) <|
    kmu 0 <|
    kno 0 <|
    kno 0 <|
    kno 1 <|
    kno 2 <|
    hk (fun cx=>cx.q (ex_pf rfl (cx.u 0 rfl) rfl)) <|
    kmu 0 <|
    hn) ?_
   intro a16 w16 f16
   refine wp_ret ?_
   try simp only [Exit.inBlock,Exit.then]
   refine bodyPost_ret (res_t (fn:=Try.f34) rfl (f16.v 33 rfl rfl rfl)) f16.d ?_
   have HE:(.bool false:Value)=.bool (placeB a lo hi size):=by unfold placeB withinB sizeB;simp only [Ffk1.out,Ffk2.out,Ffk15.out,Bool.true_and,Bool.and_true,Bool.false_and,Bool.and_false,Bool.or_false,Bool.false_or,Bool.true_or,Bool.or_true,Bool.not_true,Bool.not_false,if_true,if_false,Bool.false_eq_true,Bool.true_eq_false,reduceCtorEq];try rfl
   exact ⟨retV HE,f16.b⟩
  have Ffk15:=Lib.hid fk15;clear fk15
  cases fk16:decide (lo ≤ hi)
  case false=>
   have Ffk16:=Lib.hid fk16;clear fk16
   have s3_37:=f1.q 3 s3_0
   have s1_38:=f1.q 1 s1_0
   have s2_39:=f1.q 2 s2_0
   refine go_reg [bx g1 35 (stC a)] [] (tabs [some (.agg (stC a)),oT,oT,some (.int .i64 size),oT,oT,oU,oU,oT,oT,oU,oU,oT,oT,oU,oU,oT,oT,oT,some (.int .i64 lo)] [oT,oT,oT,some (.int .i64 lo),some (.int .i64 hi),oF,oF,oF,oU,oU,oU,oU,oF,oF]) mo f1.d f1.z f1.b (by kernel_rfl) ⟨b_g1,trivial⟩ (
    hk (fun cx=>cx.q (ldSt rfl (cx.rq 4 u_g1) (cx.rn 0 rfl))) <|
    hc (fun _ _ wx cx=>cx.c rfl (args1 (cx.u 0 rfl)) Try.func16 (by decide +kernel) (qmay_n a wx) rfl (congrArg Value.bool Ffk1.out)) <|
    kmu 0 <|
    hk (fun cx=>cx.vy 0 (ex_mv rfl (cx.rq 3 s3_37))) <|
    hk (fun cx=>cx.vy 1 (ex_eq (x:=.tmp 12) rfl (cx.u 0 rfl) rfl) (congrArg Value.bool Ffk2.out)) <|
    hk (fun cx=>cx.vy 1 (ex_mv rfl (cx.u 0 rfl))) <|
    kno 0 <|
    kno 1 <|
    hk (fun cx=>cx.vy 2 (ex_pt rfl (cx.u 0 rfl) rfl)) <|
    hk (fun cx=>cx.vy 2 (ex_mv rfl (cx.u 0 rfl))) <|
    kno 0 <|
    kno 1 <|
    hk (fun cx=>cx.vy 2 (ex_pt rfl (cx.u 0 rfl) rfl)) <|
    hk (fun cx=>cx.vy 2 (ex_mv rfl (cx.u 0 rfl))) <|
    kno 0 <|
    kno 1 <|
    hk (fun cx=>cx.vy 2 (ex_pt rfl (cx.u 0 rfl) rfl)) <|
    hk (fun cx=>cx.q (ex_pt rfl (cx.u 0 rfl) (cx.u 1 rfl))) <|
    kmu 0 <|
    hk (fun cx=>cx.vy 0 (ex_mv rfl (cx.rq 1 s1_38))) <|
    hk (fun cx=>cx.vy 1 (ex_ge (x:=.tmp 28) rfl (cx.u 0 rfl) rfl) (congrArg Value.bool Ffk15.out)) <|
    hk (fun cx=>cx.q (ex_pt rfl (cx.u 0 rfl) (cx.u 1 rfl))) <|
    kmu 0 <|
    hk (fun cx=>cx.vy 0 (ex_mv rfl (cx.rq 1 s1_38))) <|
    hk (fun cx=>cx.vy 0 (ex_mv rfl (cx.rq 2 s2_39))) <|
    hk (fun cx=>cx.vy 2 (ex_le (x:=.tmp 32) (y:=.tmp 33) rfl (cx.u 0 rfl) (cx.u 1 rfl)) (congrArg Value.bool Ffk16.out)) <|
    hk (fun cx=>cx.q (ex_pt rfl (cx.u 0 rfl) (cx.u 1 rfl))) <|
    kmu 0 <|
    kno 0 <|
    kno 0 <|
    kno 1 <|
    kno 2 <|
    hk (fun cx=>cx.q (ex_pf rfl (cx.u 0 rfl) rfl)) <|
    kmu 0 <|
    hn) ?_
   intro a17 w17 f17
   refine wp_ret ?_
   try simp only [Exit.inBlock,Exit.then]
   refine bodyPost_ret (res_t (fn:=Try.f34) rfl (f17.v 33 rfl rfl rfl)) f17.d ?_
   have HE:(.bool false:Value)=.bool (placeB a lo hi size):=by unfold placeB withinB sizeB;simp only [Ffk1.out,Ffk2.out,Ffk15.out,Ffk16.out,Bool.true_and,Bool.and_true,Bool.false_and,Bool.and_false,Bool.or_false,Bool.false_or,Bool.true_or,Bool.or_true,Bool.not_true,Bool.not_false,if_true,if_false,Bool.false_eq_true,Bool.true_eq_false,reduceCtorEq];try rfl
   exact ⟨retV HE,f17.b⟩
  have Ffk16:=Lib.hid fk16;clear fk16
  cases fk17:decide (hi ≤ (64 - size))
  case false=>
   have Ffk17:=Lib.hid fk17;clear fk17
   have s3_40:=f1.q 3 s3_0
   have s1_41:=f1.q 1 s1_0
   have s2_42:=f1.q 2 s2_0
   refine go_reg [bx g1 35 (stC a)] [] (tabs [some (.agg (stC a)),oT,oT,some (.int .i64 size),oT,oT,oU,oU,oT,oT,oU,oU,oT,oT,oU,oU,oT,oT,oT,some (.int .i64 lo)] [oT,oT,oT,some (.int .i64 lo),some (.int .i64 hi),oT,oT,oT,some (.int .i64 hi),some (.int .i64 size),some (.int .i64 (64 - size)),oF,oF,oF]) mo f1.d f1.z f1.b (by kernel_rfl) ⟨b_g1,trivial⟩ (
    hk (fun cx=>cx.q (ldSt rfl (cx.rq 4 u_g1) (cx.rn 0 rfl))) <|
    hc (fun _ _ wx cx=>cx.c rfl (args1 (cx.u 0 rfl)) Try.func16 (by decide +kernel) (qmay_n a wx) rfl (congrArg Value.bool Ffk1.out)) <|
    kmu 0 <|
    hk (fun cx=>cx.vy 0 (ex_mv rfl (cx.rq 3 s3_40))) <|
    hk (fun cx=>cx.vy 1 (ex_eq (x:=.tmp 12) rfl (cx.u 0 rfl) rfl) (congrArg Value.bool Ffk2.out)) <|
    hk (fun cx=>cx.vy 1 (ex_mv rfl (cx.u 0 rfl))) <|
    kno 0 <|
    kno 1 <|
    hk (fun cx=>cx.vy 2 (ex_pt rfl (cx.u 0 rfl) rfl)) <|
    hk (fun cx=>cx.vy 2 (ex_mv rfl (cx.u 0 rfl))) <|
    kno 0 <|
    kno 1 <|
    hk (fun cx=>cx.vy 2 (ex_pt rfl (cx.u 0 rfl) rfl)) <|
    hk (fun cx=>cx.vy 2 (ex_mv rfl (cx.u 0 rfl))) <|
    kno 0 <|
    kno 1 <|
    hk (fun cx=>cx.vy 2 (ex_pt rfl (cx.u 0 rfl) rfl)) <|
    hk (fun cx=>cx.q (ex_pt rfl (cx.u 0 rfl) (cx.u 1 rfl))) <|
    kmu 0 <|
    hk (fun cx=>cx.vy 0 (ex_mv rfl (cx.rq 1 s1_41))) <|
    hk (fun cx=>cx.vy 1 (ex_ge (x:=.tmp 28) rfl (cx.u 0 rfl) rfl) (congrArg Value.bool Ffk15.out)) <|
    hk (fun cx=>cx.q (ex_pt rfl (cx.u 0 rfl) (cx.u 1 rfl))) <|
    kmu 0 <|
    hk (fun cx=>cx.vy 0 (ex_mv rfl (cx.rq 1 s1_41))) <|
    hk (fun cx=>cx.vy 0 (ex_mv rfl (cx.rq 2 s2_42))) <|
    hk (fun cx=>cx.vy 2 (ex_le (x:=.tmp 32) (y:=.tmp 33) rfl (cx.u 0 rfl) (cx.u 1 rfl)) (congrArg Value.bool Ffk16.out)) <|
    hk (fun cx=>cx.q (ex_pt rfl (cx.u 0 rfl) (cx.u 1 rfl))) <|
    kmu 0 <|
    hk (fun cx=>cx.vy 0 (ex_mv rfl (cx.rq 2 s2_42))) <|
    hk (fun cx=>cx.vy 0 (ex_mv rfl (cx.rq 3 s3_40))) <|
    hk (fun cx=>cx.vy 1 (ex_sub (y:=.tmp 38) rfl rfl (cx.u 0 rfl)) (congrArg (Value.int .i64) (sub64 hsz))) <|
    hk (fun cx=>cx.vy 2 (ex_le (x:=.tmp 37) (y:=.tmp 39) rfl (cx.u 0 rfl) (cx.u 1 rfl)) (congrArg Value.bool Ffk17.out)) <|
    hk (fun cx=>cx.q (ex_pt rfl (cx.u 0 rfl) (cx.u 1 rfl))) <|
    kmu 0 <|
    hn) ?_
   intro a18 w18 f18
   refine wp_ret ?_
   try simp only [Exit.inBlock,Exit.then]
   refine bodyPost_ret (res_t (fn:=Try.f34) rfl (f18.v 33 rfl rfl rfl)) f18.d ?_
   have HE:(.bool false:Value)=.bool (placeB a lo hi size):=by unfold placeB withinB sizeB;simp only [Ffk1.out,Ffk2.out,Ffk15.out,Ffk16.out,Ffk17.out,Bool.true_and,Bool.and_true,Bool.false_and,Bool.and_false,Bool.or_false,Bool.false_or,Bool.true_or,Bool.or_true,Bool.not_true,Bool.not_false,if_true,if_false,Bool.false_eq_true,Bool.true_eq_false,reduceCtorEq];try rfl
   exact ⟨retV HE,f18.b⟩
  have Ffk17:=Lib.hid fk17;clear fk17
  have s3_43:=f1.q 3 s3_0
  have s1_44:=f1.q 1 s1_0
  have s2_45:=f1.q 2 s2_0
  refine go_reg [bx g1 35 (stC a)] [] (tabs [some (.agg (stC a)),oT,oT,some (.int .i64 size),oT,oT,oU,oU,oT,oT,oU,oU,oT,oT,oU,oU,oT,oT,oT,some (.int .i64 lo)] [oT,oT,oT,some (.int .i64 lo),some (.int .i64 hi),oT,oT,oT,some (.int .i64 hi),some (.int .i64 size),some (.int .i64 (64 - size)),oT,oT,oT]) mo f1.d f1.z f1.b (by kernel_rfl) ⟨b_g1,trivial⟩ (
   hk (fun cx=>cx.q (ldSt rfl (cx.rq 4 u_g1) (cx.rn 0 rfl))) <|
   hc (fun _ _ wx cx=>cx.c rfl (args1 (cx.u 0 rfl)) Try.func16 (by decide +kernel) (qmay_n a wx) rfl (congrArg Value.bool Ffk1.out)) <|
   kmu 0 <|
   hk (fun cx=>cx.vy 0 (ex_mv rfl (cx.rq 3 s3_43))) <|
   hk (fun cx=>cx.vy 1 (ex_eq (x:=.tmp 12) rfl (cx.u 0 rfl) rfl) (congrArg Value.bool Ffk2.out)) <|
   hk (fun cx=>cx.vy 1 (ex_mv rfl (cx.u 0 rfl))) <|
   kno 0 <|
   kno 1 <|
   hk (fun cx=>cx.vy 2 (ex_pt rfl (cx.u 0 rfl) rfl)) <|
   hk (fun cx=>cx.vy 2 (ex_mv rfl (cx.u 0 rfl))) <|
   kno 0 <|
   kno 1 <|
   hk (fun cx=>cx.vy 2 (ex_pt rfl (cx.u 0 rfl) rfl)) <|
   hk (fun cx=>cx.vy 2 (ex_mv rfl (cx.u 0 rfl))) <|
   kno 0 <|
   kno 1 <|
   hk (fun cx=>cx.vy 2 (ex_pt rfl (cx.u 0 rfl) rfl)) <|
   hk (fun cx=>cx.q (ex_pt rfl (cx.u 0 rfl) (cx.u 1 rfl))) <|
   kmu 0 <|
   hk (fun cx=>cx.vy 0 (ex_mv rfl (cx.rq 1 s1_44))) <|
   hk (fun cx=>cx.vy 1 (ex_ge (x:=.tmp 28) rfl (cx.u 0 rfl) rfl) (congrArg Value.bool Ffk15.out)) <|
   hk (fun cx=>cx.q (ex_pt rfl (cx.u 0 rfl) (cx.u 1 rfl))) <|
   kmu 0 <|
   hk (fun cx=>cx.vy 0 (ex_mv rfl (cx.rq 1 s1_44))) <|
   hk (fun cx=>cx.vy 0 (ex_mv rfl (cx.rq 2 s2_45))) <|
   hk (fun cx=>cx.vy 2 (ex_le (x:=.tmp 32) (y:=.tmp 33) rfl (cx.u 0 rfl) (cx.u 1 rfl)) (congrArg Value.bool Ffk16.out)) <|
   hk (fun cx=>cx.q (ex_pt rfl (cx.u 0 rfl) (cx.u 1 rfl))) <|
   kmu 0 <|
   hk (fun cx=>cx.vy 0 (ex_mv rfl (cx.rq 2 s2_45))) <|
   hk (fun cx=>cx.vy 0 (ex_mv rfl (cx.rq 3 s3_43))) <|
   hk (fun cx=>cx.vy 1 (ex_sub (y:=.tmp 38) rfl rfl (cx.u 0 rfl)) (congrArg (Value.int .i64) (sub64 hsz))) <|
   hk (fun cx=>cx.vy 2 (ex_le (x:=.tmp 37) (y:=.tmp 39) rfl (cx.u 0 rfl) (cx.u 1 rfl)) (congrArg Value.bool Ffk17.out)) <|
   hk (fun cx=>cx.q (ex_pt rfl (cx.u 0 rfl) (cx.u 1 rfl))) <|
   kmu 0 <|
   hn) ?_
  intro a19 w19 f19
  refine wp_ret ?_
  try simp only [Exit.inBlock,Exit.then]
  refine bodyPost_ret (res_t (fn:=Try.f34) rfl (f19.v 33 rfl rfl rfl)) f19.d ?_
  have HE:(.bool true:Value)=.bool (placeB a lo hi size):=by unfold placeB withinB sizeB;simp only [Ffk1.out,Ffk2.out,Ffk15.out,Ffk16.out,Ffk17.out,Bool.true_and,Bool.and_true,Bool.false_and,Bool.and_false,Bool.or_false,Bool.false_or,Bool.true_or,Bool.or_true,Bool.not_true,Bool.not_false,if_true,if_false,Bool.false_eq_true,Bool.true_eq_false,reduceCtorEq];try rfl
  exact ⟨retV HE,f19.b⟩
theorem clamp_i8 {n:Int} (h:clampI n < 8):IntKind.i8.wrap (8 * clampI n)=8 * clampI n:=by have:=clamp_bd n;simp only [IntKind.wrap,IntKind.bits,IntKind.signed];simp;omega
theorem clamp_u8 (n:Int):IntKind.u64.wrap (8 * clampI n)=8 * clampI n:=by have:=clamp_bd n;rw [IntKind.wrap_u64];omega
theorem clamp_8 (n:Int):0 ≤ 8 * clampI n ∧ 8 * clampI n ≤ 64:=by have:=clamp_bd n;omega
theorem one_sh {n:Int} (h:clampI n < 8):IntKind.u64.wrap (((1 * 2 ^ Int.toNat (8 * clampI n)) % 18446744073709551616) - 1)=V (bytesB n):=by
  have b:=clamp_bd n
  have p:(2:Int) ^ (8 * clampI n).toNat=((2 ^ (8 * clampI n).toNat:Nat):Int):=pow_cast _
  have q:2 ^ (8 * clampI n).toNat ≤ 2 ^ 63:=Nat.pow_le_pow_right (by decide) (by omega)
  have r:0 < 2 ^ (8 * clampI n).toNat:=Nat.two_pow_pos _
  rw [bytes_V,IntKind.wrap_u64,Int.one_mul,p]
  omega
theorem bytes_8 {n:Int} (h:¬ clampI n < 8):allC.nar=bytesC n:=by
  have b:=clamp_bd n
  have e:bytesB n=18446744073709551615#64:=by unfold bytesB;rw [show clampI n=8 by omega];decide
  unfold bytesC
  rw [e];rfl
theorem zero_or (x:B):(0#64:B) ||| x=x:=ext fun i=>by rw [g_or,g_0,Bool.false_or]
theorem bytes_7 (n:Int):Sc.nar ⟨⟨⟨allC.r.u.lo,V (bytesB n)⟩,allC.r.s⟩,⟨0#64,bytesB n⟩⟩=bytesC n:=by
  have a:=V_nn (bytesB n);have b:=V_lt (bytesB n)
  have hk:rgK ⟨0#64,bytesB n⟩=⟨⟨0,V (bytesB n)⟩,allS⟩:=by unfold rgK;rw [zero_or];rfl
  have m1:Rg.mayB ⟨⟨0,V (bytesB n)⟩,allS⟩=true:=by rw [Bnd.may_iff];exact ⟨a,(show allS.lo ≤ allS.hi by decide)⟩
  have m2:allR.mayB=true:=by decide
  have e1:allR.meet2 ⟨⟨0,V (bytesB n)⟩,allS⟩=⟨⟨0,V (bytesB n)⟩,allS⟩:=by
    simp only [Rg.meet2,Pr.meet,allR,allU,allS,Rg.mk.injEq,Pr.mk.injEq];omega
  have e2:(⟨⟨0,V (bytesB n)⟩,allS⟩:Rg).meet2 ⟨⟨0,V (bytesB n)⟩,allS⟩=⟨⟨0,V (bytesB n)⟩,allS⟩:=by
    simp only [Rg.meet2,Pr.meet,allS,Rg.mk.injEq,Pr.mk.injEq];omega
  have r:(⟨⟨0,V (bytesB n)⟩,allS⟩:Rg).meetR (rgK ⟨0#64,bytesB n⟩)=allR.meetR (rgK ⟨0#64,bytesB n⟩):=by
    rw [hk];unfold Rg.meetR;rw [m1,m2,e1,e2]
  have s:(⟨⟨0,V (bytesB n)⟩,allS⟩:Rg).meetB (rgK ⟨0#64,bytesB n⟩)=allR.meetB (rgK ⟨0#64,bytesB n⟩):=by
    rw [hk];unfold Rg.meetB;rw [m1,m2,e1,e2]
  have on:Sc.onB ⟨⟨⟨0,V (bytesB n)⟩,allS⟩,⟨0#64,bytesB n⟩⟩=Sc.onB ⟨allR,⟨0#64,bytesB n⟩⟩ ∧ Sc.on ⟨⟨⟨0,V (bytesB n)⟩,allS⟩,⟨0#64,bytesB n⟩⟩=Sc.on ⟨allR,⟨0#64,bytesB n⟩⟩:=by
    have o1:Sc.onB ⟨⟨⟨0,V (bytesB n)⟩,allS⟩,⟨0#64,bytesB n⟩⟩=Sc.onB ⟨allR,⟨0#64,bytesB n⟩⟩:=by
      unfold Sc.onB Sc.oR
      dsimp only
      rw [r,s]
    refine ⟨o1,?_⟩
    unfold Sc.on
    rw [o1]
    unfold Sc.oK Sc.oR
    dsimp only
    rw [r]
  show Sc.nar ⟨⟨⟨0,V (bytesB n)⟩,allS⟩,⟨0#64,bytesB n⟩⟩=bytesC n
  unfold bytesC Sc.nar Sc.narB
  rw [on.1,on.2]
theorem cut_all {n:Int} (h:clampI n=1 ∨ clampI n=2 ∨ clampI n=4):Kn.cutK allK (8 * clampI n)=⟨0#64,bytesB n⟩:=by
  unfold bytesB
  have E:∀ {a b:Kn},a.v=b.v → a.m=b.m → a=b:=fun {a b} h1 h2=>by cases a;cases b;simp_all
  rcases h with h | h | h <;> rw [h] <;> exact E (by decide +kernel) (by decide +kernel)
theorem b7_ok (n:Int):Rg.Ok ⟨⟨allC.r.u.lo,V (bytesB n)⟩,allC.r.s⟩:=⟨⟨(show (0:Int) ≤ 0 ∧ (0:Int) < 18446744073709551616 by decide),V_nn _,V_lt _⟩,S_all⟩
set_option maxHeartbeats 4000000 in
theorem wbytes_n (n:Int) (W:World):Calls Try.prog 35 #[.int .i64 n] W fun e w'=>e=.returned (.agg (scC (bytesC n))) ∧ Below W.heap.size W w':=by
  refine calls_abs Try.func35 rfl (Nat.le_of_ble_eq_true rfl) ?_
  intro a0 d0 z0 h0
  replace z0:a0.tmps.size=48:=z0
  have s0_0:a0.tmps.getD 0 undef=.int .i64 n:=h0 0 (Nat.le_of_ble_eq_true rfl)
  refine wp_seq ?_
  refine go_reg [] [⟨0,2,29,(scC zSc),none,#[]⟩] [none] mo d0 z0 (Below.refl _ _) (by kernel_rfl) trivial (
   hk (fun cx=>cx.al (wn rfl) 0 rfl (al_sc rfl) rfl rfl rfl rfl rfl trivial) <|
   hn) ?_
  intro a1 w1 f1
  obtain ⟨g1,u_g1,q_g1,b_g1⟩:=f1.al.1
  refine wp_seq ?_
  have s0_1:=f1.q 0 s0_0
  refine go_reg [] [] [some (.int .i64 n),some (.int .i64 (max n 1)),some (.int .i64 (clampI n)),some (.int .i64 (clampI n))] mo f1.d f1.z f1.b (by kernel_rfl) trivial (
   hk (fun cx=>cx.q (ex_mv rfl (cx.un 3 rfl rfl (by kernel_rfl) s0_1))) <|
   hc (fun _ ax _ cx=>cx.q (ex_max (x:=.tmp 6) rfl (cx.u 0 rfl) rfl)) <|
   hk (fun cx=>cx.v (ex_min (x:=.tmp 7) rfl (cx.u 0 rfl) rfl) rfl (congrArg (Value.int .i64) rfl)) <|
   kmu 0 <|
   hn) ?_
  intro a2 w2 f2
  refine wp_seq ?_
  refine go_reg [] [⟨1,3,29,(scC zSc),some 2,(scC allC)⟩] [some (.agg (scC allC)),none,none] mo f2.d f2.z f2.b (by kernel_rfl) trivial (
   hc (fun _ _ wx cx=>cx.c rfl (args0 ) Try.func41 (by decide +kernel) (wall_n wx) rfl rfl) <|
   hk (fun cx=>cx.al (wn rfl) 0 rfl (al_sc rfl) rfl rfl rfl rfl (by kernel_rfl) trivial) <|
   hk (fun cx=>cx.stA (wn rfl) rfl rfl 0 0 rfl rfl rfl rfl (cx.u 1 rfl) (by kernel_rfl) (Eq.refl 6) (scC_one _) f2.b.size rfl rfl trivial) <|
   hn) ?_
  intro a3 w3 f3
  obtain ⟨g2,u_g2,q_g2,b_g2⟩:=f3.al.1
  refine wp_seq ?_
  refine wp_seq ?_
  cases fk1:decide ((clampI n) < 8)
  case false=>
   have Ffk1:=Lib.hid fk1;clear fk1
   have s0_2:=f3.q 0 (f2.v 3 rfl rfl rfl)
   refine go_reg [] [] [some (.int .i64 (clampI n)),oF] mo f3.d f3.z f3.b (by kernel_rfl) trivial (
    hk (fun cx=>cx.q (ex_mv rfl (cx.rq 0 s0_2))) <|
    hk (fun cx=>cx.v (ex_lt (x:=.tmp 10) rfl (cx.u 0 rfl) rfl) rfl (congrArg Value.bool Ffk1.out)) <|
    hn) ?_
   intro a4 w4 f4
   refine wp_cond_false (f4.v 1 rfl rfl rfl) ?_
   refine wp_skip ?_
   refine wp_seq ?_
   have b_g2_3:=f4.k b_g2
   have s3_4:=f4.q 3 u_g2
   refine go_reg [bx g2 29 (scC allC)] [⟨5,4,29,(scC zSc),some 6,(scC (Sc.nar allC))⟩] [some (.agg (scC allC)),some (.tuple #[.agg (scC (Sc.nar allC)),.bool (Sc.narB allC)]),some (.tuple #[.agg (scC (Sc.nar allC)),.bool (Sc.narB allC)]),some (.agg (scC (Sc.nar allC))),some (.bool (Sc.narB allC)),none,none,some (.bool (Sc.narB allC))] mo f4.d f4.z f4.b (by kernel_rfl) ⟨b_g2_3,trivial⟩ (
    hk (fun cx=>cx.q (ldSc rfl (cx.rq 3 s3_4) (cx.rn 0 rfl))) <|
    hc (fun _ _ wx cx=>cx.c rfl (args1 (cx.u 0 rfl)) Try.func61 (by decide +kernel) (wnarrow_n allC wx allR_ok) rfl rfl) <|
    kmu 0 <|
    hk (fun cx=>cx.q (ex_ext (x:=.tmp 42) rfl (cx.u 0 rfl) rfl)) <|
    hk (fun cx=>cx.q (ex_ext (x:=.tmp 42) rfl (cx.u 0 rfl) rfl)) <|
    hk (fun cx=>cx.al (wn rfl) 0 rfl (al_sc rfl) rfl rfl rfl rfl (by kernel_rfl) trivial) <|
    hk (fun cx=>cx.stA (wn rfl) rfl rfl 0 0 rfl rfl rfl rfl (cx.u 1 rfl) (by kernel_rfl) (Eq.refl 6) (scC_one _) f4.b.size rfl rfl trivial) <|
    kmu 0 <|
    hn) ?_
   intro a5 w5 f5
   obtain ⟨g3,u_g3,q_g3,b_g3⟩:=f5.al.1
   refine wp_seq ?_
   have b_g1_5:=f5.k (f4.k (f3.k (f2.k b_g1)))
   have s2_6:=f5.q 2 (f4.q 2 (f3.q 2 (f2.q 2 u_g1)))
   refine go_reg [bx g3 29 (scC (Sc.nar allC)),⟨g1,29,(scC zSc),some 1,(scC (Sc.nar allC))⟩] [] [some (.agg (scC (Sc.nar allC))),none] mo f5.d f5.z f5.b (by kernel_rfl) ⟨b_g3,b_g1_5,trivial⟩ (
    hk (fun cx=>cx.q (ldSc rfl (cx.rq 4 u_g3) (cx.rn 0 rfl))) <|
    hk (fun cx=>cx.stR (wn rfl) rfl rfl 1 rfl (cx.rq 2 s2_6) (cx.u 0 rfl) (by kernel_rfl) (Eq.refl 6) (scC_one _) q_g1 rfl ⟨(ne_row (f4.k (f3.k (f2.k b_g1))) q_g3).symm,trivial⟩ trivial) <|
    hn) ?_
   intro a6 w6 f6
   refine wp_ret ?_
   have s2_7:=f6.q 2 s2_6
   try simp only [Exit.inBlock,Exit.then]
   refine bodyPost_ret (res_c (fn:=Try.f35) rfl s2_7 (load_row 29 f6.rows.2.1 Try.underlying29 rfl (by kernel_rfl))) f6.d ?_
   have HE:(.agg (scC (Sc.nar allC)):Value)=.agg (scC (bytesC n)):=congrArg (fun s=>Value.agg (scC s)) (bytes_8 (of_decide_eq_false Ffk1.out))
   exact ⟨retV HE,f6.b⟩
  have Ffk1:=Lib.hid fk1;clear fk1
  have hc8:clampI n < 8:=of_decide_eq_true Ffk1.out
  have s0_8:=f3.q 0 (f2.v 3 rfl rfl rfl)
  refine go_reg [] [] [some (.int .i64 (clampI n)),oT] mo f3.d f3.z f3.b (by kernel_rfl) trivial (
   hk (fun cx=>cx.q (ex_mv rfl (cx.rq 0 s0_8))) <|
   hk (fun cx=>cx.v (ex_lt (x:=.tmp 10) rfl (cx.u 0 rfl) rfl) rfl (congrArg Value.bool Ffk1.out)) <|
   hn) ?_
  intro a7 w7 f7
  refine wp_cond_true (f7.v 1 rfl rfl rfl) ?_
  refine wp_seq ?_
  have b_g2_9:=f7.k b_g2
  have s0_10:=f7.q 0 s0_8
  have s3_11:=f7.q 3 u_g2
  refine go_reg [⟨g2,29,(scC allC),some 7,(scC ⟨⟨⟨allC.r.u.lo,V (bytesB n)⟩,allC.r.s⟩,allC.k⟩)⟩] [] [some (.int .i64 (clampI n)),some (.int .i64 (8 * clampI n)),some (.int .u64 (8 * clampI n)),some (.int .u64 ((1 * 2 ^ Int.toNat (8 * clampI n)) % 18446744073709551616)),some (.int .u64 (V (bytesB n))),some (pt g2 0),some (pt g2 1),none] mo f7.d f7.z f7.b (by kernel_rfl) ⟨b_g2_9,trivial⟩ (
   hk (fun cx=>cx.q (ex_mv rfl (cx.rq 0 s0_10))) <|
   hk (fun cx=>cx.v (ex_mul (y:=.tmp 12) rfl rfl (cx.u 0 rfl)) rfl (congrArg (Value.int .i64) (clamp_w n))) <|
   hk (fun cx=>cx.v (ex_conv (x:=.tmp 13) rfl (cx.u 0 rfl) Try.underlying3 Try.underlying55) rfl (congrArg (Value.int .u64) (clamp_u8 n))) <|
   hk (fun cx=>cx.q (exec_shl (y:=.tmp 14) rfl rfl (cx.u 0 rfl) (clamp_8 n).1 (clamp_8 n).2)) <|
   hk (fun cx=>cx.v (ex_sub (x:=.tmp 15) rfl (cx.u 0 rfl) rfl) rfl (congrArg (Value.int .u64) (one_sh hc8))) <|
   hk (fun cx=>cx.q (ex_fa rfl (cx.rq 3 s3_11) (faStJ29_0_0 _ _))) <|
   hk (fun cx=>cx.q (ex_fa rfl (cx.u 0 rfl) (faStJ25_1_0 _ _))) <|
   hk (fun cx=>cx.stC (wn rfl) rfl rfl 0 rfl (cx.u 0 rfl) (cx.u 1 rfl) rfl rfl (by kernel_rfl) rfl rfl (Nat.le_trans f2.b.size q_g2) rfl trivial trivial) <|
   hn) ?_
  intro a8 w8 f8
  refine wp_seq ?_
  have s0_12:=f8.q 0 s0_10
  have s3_13:=f8.q 3 s3_11
  refine go_reg [⟨g2,29,(scC ⟨⟨⟨allC.r.u.lo,V (bytesB n)⟩,allC.r.s⟩,allC.k⟩),some 6,(scC ⟨⟨⟨allC.r.u.lo,V (bytesB n)⟩,allC.r.s⟩,Kn.cutK allK (8 * clampI n)⟩)⟩] [] [some (.agg (knC allK)),some (.int .i64 (clampI n)),some (.int .i64 (8 * clampI n)),some (.int .i8 (8 * clampI n)),some (.agg (knC (Kn.cutK allK (8 * clampI n)))),some (pt g2 4),none] mo f8.d f8.z f8.b (by kernel_rfl) ⟨f8.rows.1,trivial⟩ (
   hc (fun _ _ wx cx=>cx.c rfl (args0 ) Try.func60 (by decide +kernel) (lall_n wx) rfl rfl) <|
   hk (fun cx=>cx.q (ex_mv rfl (cx.rq 0 s0_12))) <|
   hk (fun cx=>cx.v (ex_mul (y:=.tmp 20) rfl rfl (cx.u 0 rfl)) rfl (congrArg (Value.int .i64) (clamp_w n))) <|
   hk (fun cx=>cx.v (ex_conv (x:=.tmp 21) rfl (cx.u 0 rfl) Try.underlying3 Try.underlying22) rfl (congrArg (Value.int .i8) (clamp_i8 hc8))) <|
   hc (fun _ _ wx cx=>cx.c rfl (args2 (cx.u 0 rfl) (cx.u 1 rfl)) Try.func59 (by decide +kernel) (lcut_n allK (8 * clampI n) wx) rfl rfl) <|
   hk (fun cx=>cx.q (ex_fa rfl (cx.rq 3 s3_13) (faStJ29_1_0 _ _))) <|
   hk (fun cx=>cx.stP (wn rfl) rfl rfl 0 rfl (cx.u 0 rfl) (cx.u 1 rfl) (knC_one _) (by kernel_rfl) (Nat.le_of_ble_eq_true rfl) rfl (Nat.le_trans f2.b.size q_g2) rfl trivial trivial) <|
   hn) ?_
  intro a9 w9 f9
  refine wp_seq ?_
  cases fk2:(clampI n) != 1
  case false=>
   have Ffk2:=Lib.hid fk2;clear fk2
   have s0_14:=f9.q 0 s0_12
   refine go_reg [] [] [some (.int .i64 (clampI n)),oF,oF,oU,oU,oF,oF,oU,oU,oF] mo f9.d f9.z f9.b (by kernel_rfl) trivial (
    hk (fun cx=>cx.q (ex_mv rfl (cx.rq 0 s0_14))) <|
    hk (fun cx=>cx.v (ex_ne (x:=.tmp 25) rfl (cx.u 0 rfl) rfl) rfl (congrArg Value.bool Ffk2.out)) <|
    kmu 0 <|
    kno 0 <|
    kno 1 <|
    hk (fun cx=>cx.q (ex_pf rfl (cx.u 0 rfl) rfl)) <|
    kmu 0 <|
    kno 0 <|
    kno 1 <|
    hk (fun cx=>cx.q (ex_pf rfl (cx.u 0 rfl) rfl)) <|
    hn) ?_
   intro a10 w10 f10
   refine wp_cond_false (f10.v 9 rfl rfl rfl) ?_
   refine wp_skip ?_
   refine wp_seq ?_
   have b_g2_15:=f10.k f9.rows.1
   have s3_16:=f10.q 3 (f9.q 3 s3_13)
   refine go_reg [bx g2 29 (scC ⟨⟨⟨allC.r.u.lo,V (bytesB n)⟩,allC.r.s⟩,Kn.cutK allK (8 * clampI n)⟩)] [⟨5,4,29,(scC zSc),some 6,(scC (Sc.nar ⟨⟨⟨allC.r.u.lo,V (bytesB n)⟩,allC.r.s⟩,Kn.cutK allK (8 * clampI n)⟩))⟩] [some (.agg (scC ⟨⟨⟨allC.r.u.lo,V (bytesB n)⟩,allC.r.s⟩,Kn.cutK allK (8 * clampI n)⟩)),some (.tuple #[.agg (scC (Sc.nar ⟨⟨⟨allC.r.u.lo,V (bytesB n)⟩,allC.r.s⟩,Kn.cutK allK (8 * clampI n)⟩)),.bool (Sc.narB ⟨⟨⟨allC.r.u.lo,V (bytesB n)⟩,allC.r.s⟩,Kn.cutK allK (8 * clampI n)⟩)]),some (.tuple #[.agg (scC (Sc.nar ⟨⟨⟨allC.r.u.lo,V (bytesB n)⟩,allC.r.s⟩,Kn.cutK allK (8 * clampI n)⟩)),.bool (Sc.narB ⟨⟨⟨allC.r.u.lo,V (bytesB n)⟩,allC.r.s⟩,Kn.cutK allK (8 * clampI n)⟩)]),some (.agg (scC (Sc.nar ⟨⟨⟨allC.r.u.lo,V (bytesB n)⟩,allC.r.s⟩,Kn.cutK allK (8 * clampI n)⟩))),some (.bool (Sc.narB ⟨⟨⟨allC.r.u.lo,V (bytesB n)⟩,allC.r.s⟩,Kn.cutK allK (8 * clampI n)⟩)),none,none,some (.bool (Sc.narB ⟨⟨⟨allC.r.u.lo,V (bytesB n)⟩,allC.r.s⟩,Kn.cutK allK (8 * clampI n)⟩))] mo f10.d f10.z f10.b (by kernel_rfl) ⟨b_g2_15,trivial⟩ (
    hk (fun cx=>cx.q (ldSc rfl (cx.rq 3 s3_16) (cx.rn 0 rfl))) <|
    hc (fun _ _ wx cx=>cx.c rfl (args1 (cx.u 0 rfl)) Try.func61 (by decide +kernel) (wnarrow_n ⟨⟨⟨allC.r.u.lo,V (bytesB n)⟩,allC.r.s⟩,Kn.cutK allK (8 * clampI n)⟩ wx (b7_ok n)) rfl rfl) <|
    kmu 0 <|
    hk (fun cx=>cx.q (ex_ext (x:=.tmp 42) rfl (cx.u 0 rfl) rfl)) <|
    hk (fun cx=>cx.q (ex_ext (x:=.tmp 42) rfl (cx.u 0 rfl) rfl)) <|
    hk (fun cx=>cx.al (wn rfl) 0 rfl (al_sc rfl) rfl rfl rfl rfl (by kernel_rfl) trivial) <|
    hk (fun cx=>cx.stA (wn rfl) rfl rfl 0 0 rfl rfl rfl rfl (cx.u 1 rfl) (by kernel_rfl) (Eq.refl 6) (scC_one _) f10.b.size rfl rfl trivial) <|
    kmu 0 <|
    hn) ?_
   intro a11 w11 f11
   obtain ⟨g3,u_g3,q_g3,b_g3⟩:=f11.al.1
   refine wp_seq ?_
   have b_g1_17:=f11.k (f10.k (f9.kp (f8.kp (f7.k (f3.k (f2.k b_g1))) ⟨.inr (ne_row (f2.k b_g1) q_g2),trivial⟩) ⟨.inr (ne_row (f2.k b_g1) q_g2),trivial⟩))
   have s2_18:=f11.q 2 (f10.q 2 (f9.q 2 (f8.q 2 (f7.q 2 (f3.q 2 (f2.q 2 u_g1))))))
   refine go_reg [bx g3 29 (scC (Sc.nar ⟨⟨⟨allC.r.u.lo,V (bytesB n)⟩,allC.r.s⟩,Kn.cutK allK (8 * clampI n)⟩)),⟨g1,29,(scC zSc),some 1,(scC (Sc.nar ⟨⟨⟨allC.r.u.lo,V (bytesB n)⟩,allC.r.s⟩,Kn.cutK allK (8 * clampI n)⟩))⟩] [] [some (.agg (scC (Sc.nar ⟨⟨⟨allC.r.u.lo,V (bytesB n)⟩,allC.r.s⟩,Kn.cutK allK (8 * clampI n)⟩))),none] mo f11.d f11.z f11.b (by kernel_rfl) ⟨b_g3,b_g1_17,trivial⟩ (
    hk (fun cx=>cx.q (ldSc rfl (cx.rq 4 u_g3) (cx.rn 0 rfl))) <|
    hk (fun cx=>cx.stR (wn rfl) rfl rfl 1 rfl (cx.rq 2 s2_18) (cx.u 0 rfl) (by kernel_rfl) (Eq.refl 6) (scC_one _) q_g1 rfl ⟨(ne_row (f10.k (f9.kp (f8.kp (f7.k (f3.k (f2.k b_g1))) ⟨.inr (ne_row (f2.k b_g1) q_g2),trivial⟩) ⟨.inr (ne_row (f2.k b_g1) q_g2),trivial⟩)) q_g3).symm,trivial⟩ trivial) <|
    hn) ?_
   intro a12 w12 f12
   refine wp_ret ?_
   have s2_19:=f12.q 2 s2_18
   try simp only [Exit.inBlock,Exit.then]
   refine bodyPost_ret (res_c (fn:=Try.f35) rfl s2_19 (load_row 29 f12.rows.2.1 Try.underlying29 rfl (by kernel_rfl))) f12.d ?_
   have hc:clampI n=1:=by have:=Ffk2.out;simpa using this
   have HE:(.agg (scC (Sc.nar ⟨⟨⟨allC.r.u.lo,V (bytesB n)⟩,allC.r.s⟩,Kn.cutK allK (8 * clampI n)⟩)):Value)=.agg (scC (bytesC n)):=congrArg (fun s=>Value.agg (scC s)) (by rw [cut_all (.inl hc)];exact bytes_7 n)
   exact ⟨retV HE,f12.b⟩
  have Ffk2:=Lib.hid fk2;clear fk2
  cases fk3:(clampI n) != 2
  case false=>
   have Ffk3:=Lib.hid fk3;clear fk3
   have s0_20:=f9.q 0 s0_12
   refine go_reg [] [] [some (.int .i64 (clampI n)),oT,oT,some (.int .i64 (clampI n)),oF,oF,oF,oU,oU,oF] mo f9.d f9.z f9.b (by kernel_rfl) trivial (
    hk (fun cx=>cx.q (ex_mv rfl (cx.rq 0 s0_20))) <|
    hk (fun cx=>cx.v (ex_ne (x:=.tmp 25) rfl (cx.u 0 rfl) rfl) rfl (congrArg Value.bool Ffk2.out)) <|
    kmu 0 <|
    hk (fun cx=>cx.vy 0 (ex_mv rfl (cx.rq 0 s0_20))) <|
    hk (fun cx=>cx.vy 1 (ex_ne (x:=.tmp 28) rfl (cx.u 0 rfl) rfl) (congrArg Value.bool Ffk3.out)) <|
    hk (fun cx=>cx.q (ex_pt rfl (cx.u 0 rfl) (cx.u 1 rfl))) <|
    kmu 0 <|
    kno 0 <|
    kno 1 <|
    hk (fun cx=>cx.q (ex_pf rfl (cx.u 0 rfl) rfl)) <|
    hn) ?_
   intro a13 w13 f13
   refine wp_cond_false (f13.v 9 rfl rfl rfl) ?_
   refine wp_skip ?_
   refine wp_seq ?_
   have b_g2_21:=f13.k f9.rows.1
   have s3_22:=f13.q 3 (f9.q 3 s3_13)
   refine go_reg [bx g2 29 (scC ⟨⟨⟨allC.r.u.lo,V (bytesB n)⟩,allC.r.s⟩,Kn.cutK allK (8 * clampI n)⟩)] [⟨5,4,29,(scC zSc),some 6,(scC (Sc.nar ⟨⟨⟨allC.r.u.lo,V (bytesB n)⟩,allC.r.s⟩,Kn.cutK allK (8 * clampI n)⟩))⟩] [some (.agg (scC ⟨⟨⟨allC.r.u.lo,V (bytesB n)⟩,allC.r.s⟩,Kn.cutK allK (8 * clampI n)⟩)),some (.tuple #[.agg (scC (Sc.nar ⟨⟨⟨allC.r.u.lo,V (bytesB n)⟩,allC.r.s⟩,Kn.cutK allK (8 * clampI n)⟩)),.bool (Sc.narB ⟨⟨⟨allC.r.u.lo,V (bytesB n)⟩,allC.r.s⟩,Kn.cutK allK (8 * clampI n)⟩)]),some (.tuple #[.agg (scC (Sc.nar ⟨⟨⟨allC.r.u.lo,V (bytesB n)⟩,allC.r.s⟩,Kn.cutK allK (8 * clampI n)⟩)),.bool (Sc.narB ⟨⟨⟨allC.r.u.lo,V (bytesB n)⟩,allC.r.s⟩,Kn.cutK allK (8 * clampI n)⟩)]),some (.agg (scC (Sc.nar ⟨⟨⟨allC.r.u.lo,V (bytesB n)⟩,allC.r.s⟩,Kn.cutK allK (8 * clampI n)⟩))),some (.bool (Sc.narB ⟨⟨⟨allC.r.u.lo,V (bytesB n)⟩,allC.r.s⟩,Kn.cutK allK (8 * clampI n)⟩)),none,none,some (.bool (Sc.narB ⟨⟨⟨allC.r.u.lo,V (bytesB n)⟩,allC.r.s⟩,Kn.cutK allK (8 * clampI n)⟩))] mo f13.d f13.z f13.b (by kernel_rfl) ⟨b_g2_21,trivial⟩ (
    hk (fun cx=>cx.q (ldSc rfl (cx.rq 3 s3_22) (cx.rn 0 rfl))) <|
    hc (fun _ _ wx cx=>cx.c rfl (args1 (cx.u 0 rfl)) Try.func61 (by decide +kernel) (wnarrow_n ⟨⟨⟨allC.r.u.lo,V (bytesB n)⟩,allC.r.s⟩,Kn.cutK allK (8 * clampI n)⟩ wx (b7_ok n)) rfl rfl) <|
    kmu 0 <|
    hk (fun cx=>cx.q (ex_ext (x:=.tmp 42) rfl (cx.u 0 rfl) rfl)) <|
    hk (fun cx=>cx.q (ex_ext (x:=.tmp 42) rfl (cx.u 0 rfl) rfl)) <|
    hk (fun cx=>cx.al (wn rfl) 0 rfl (al_sc rfl) rfl rfl rfl rfl (by kernel_rfl) trivial) <|
    hk (fun cx=>cx.stA (wn rfl) rfl rfl 0 0 rfl rfl rfl rfl (cx.u 1 rfl) (by kernel_rfl) (Eq.refl 6) (scC_one _) f13.b.size rfl rfl trivial) <|
    kmu 0 <|
    hn) ?_
   intro a14 w14 f14
   obtain ⟨g3,u_g3,q_g3,b_g3⟩:=f14.al.1
   refine wp_seq ?_
   have b_g1_23:=f14.k (f13.k (f9.kp (f8.kp (f7.k (f3.k (f2.k b_g1))) ⟨.inr (ne_row (f2.k b_g1) q_g2),trivial⟩) ⟨.inr (ne_row (f2.k b_g1) q_g2),trivial⟩))
   have s2_24:=f14.q 2 (f13.q 2 (f9.q 2 (f8.q 2 (f7.q 2 (f3.q 2 (f2.q 2 u_g1))))))
   refine go_reg [bx g3 29 (scC (Sc.nar ⟨⟨⟨allC.r.u.lo,V (bytesB n)⟩,allC.r.s⟩,Kn.cutK allK (8 * clampI n)⟩)),⟨g1,29,(scC zSc),some 1,(scC (Sc.nar ⟨⟨⟨allC.r.u.lo,V (bytesB n)⟩,allC.r.s⟩,Kn.cutK allK (8 * clampI n)⟩))⟩] [] [some (.agg (scC (Sc.nar ⟨⟨⟨allC.r.u.lo,V (bytesB n)⟩,allC.r.s⟩,Kn.cutK allK (8 * clampI n)⟩))),none] mo f14.d f14.z f14.b (by kernel_rfl) ⟨b_g3,b_g1_23,trivial⟩ (
    hk (fun cx=>cx.q (ldSc rfl (cx.rq 4 u_g3) (cx.rn 0 rfl))) <|
    hk (fun cx=>cx.stR (wn rfl) rfl rfl 1 rfl (cx.rq 2 s2_24) (cx.u 0 rfl) (by kernel_rfl) (Eq.refl 6) (scC_one _) q_g1 rfl ⟨(ne_row (f13.k (f9.kp (f8.kp (f7.k (f3.k (f2.k b_g1))) ⟨.inr (ne_row (f2.k b_g1) q_g2),trivial⟩) ⟨.inr (ne_row (f2.k b_g1) q_g2),trivial⟩)) q_g3).symm,trivial⟩ trivial) <|
    hn) ?_
   intro a15 w15 f15
   refine wp_ret ?_
   have s2_25:=f15.q 2 s2_24
   try simp only [Exit.inBlock,Exit.then]
   refine bodyPost_ret (res_c (fn:=Try.f35) rfl s2_25 (load_row 29 f15.rows.2.1 Try.underlying29 rfl (by kernel_rfl))) f15.d ?_
   have hc:clampI n=2:=by have:=Ffk3.out;simpa using this
   have HE:(.agg (scC (Sc.nar ⟨⟨⟨allC.r.u.lo,V (bytesB n)⟩,allC.r.s⟩,Kn.cutK allK (8 * clampI n)⟩)):Value)=.agg (scC (bytesC n)):=congrArg (fun s=>Value.agg (scC s)) (by rw [cut_all (.inr (.inl hc))];exact bytes_7 n)
   exact ⟨retV HE,f15.b⟩
  have Ffk3:=Lib.hid fk3;clear fk3
  cases fk4:(clampI n) != 4
  case false=>
   have Ffk4:=Lib.hid fk4;clear fk4
   have s0_26:=f9.q 0 s0_12
   refine go_reg [] [] [some (.int .i64 (clampI n)),oT,oT,some (.int .i64 (clampI n)),oT,oT,oT,some (.int .i64 (clampI n)),oF,oF] mo f9.d f9.z f9.b (by kernel_rfl) trivial (
    hk (fun cx=>cx.q (ex_mv rfl (cx.rq 0 s0_26))) <|
    hk (fun cx=>cx.v (ex_ne (x:=.tmp 25) rfl (cx.u 0 rfl) rfl) rfl (congrArg Value.bool Ffk2.out)) <|
    kmu 0 <|
    hk (fun cx=>cx.vy 0 (ex_mv rfl (cx.rq 0 s0_26))) <|
    hk (fun cx=>cx.vy 1 (ex_ne (x:=.tmp 28) rfl (cx.u 0 rfl) rfl) (congrArg Value.bool Ffk3.out)) <|
    hk (fun cx=>cx.q (ex_pt rfl (cx.u 0 rfl) (cx.u 1 rfl))) <|
    kmu 0 <|
    hk (fun cx=>cx.vy 0 (ex_mv rfl (cx.rq 0 s0_26))) <|
    hk (fun cx=>cx.vy 1 (ex_ne (x:=.tmp 32) rfl (cx.u 0 rfl) rfl) (congrArg Value.bool Ffk4.out)) <|
    hk (fun cx=>cx.q (ex_pt rfl (cx.u 0 rfl) (cx.u 1 rfl))) <|
    hn) ?_
   intro a16 w16 f16
   refine wp_cond_false (f16.v 9 rfl rfl rfl) ?_
   refine wp_skip ?_
   refine wp_seq ?_
   have b_g2_27:=f16.k f9.rows.1
   have s3_28:=f16.q 3 (f9.q 3 s3_13)
   refine go_reg [bx g2 29 (scC ⟨⟨⟨allC.r.u.lo,V (bytesB n)⟩,allC.r.s⟩,Kn.cutK allK (8 * clampI n)⟩)] [⟨5,4,29,(scC zSc),some 6,(scC (Sc.nar ⟨⟨⟨allC.r.u.lo,V (bytesB n)⟩,allC.r.s⟩,Kn.cutK allK (8 * clampI n)⟩))⟩] [some (.agg (scC ⟨⟨⟨allC.r.u.lo,V (bytesB n)⟩,allC.r.s⟩,Kn.cutK allK (8 * clampI n)⟩)),some (.tuple #[.agg (scC (Sc.nar ⟨⟨⟨allC.r.u.lo,V (bytesB n)⟩,allC.r.s⟩,Kn.cutK allK (8 * clampI n)⟩)),.bool (Sc.narB ⟨⟨⟨allC.r.u.lo,V (bytesB n)⟩,allC.r.s⟩,Kn.cutK allK (8 * clampI n)⟩)]),some (.tuple #[.agg (scC (Sc.nar ⟨⟨⟨allC.r.u.lo,V (bytesB n)⟩,allC.r.s⟩,Kn.cutK allK (8 * clampI n)⟩)),.bool (Sc.narB ⟨⟨⟨allC.r.u.lo,V (bytesB n)⟩,allC.r.s⟩,Kn.cutK allK (8 * clampI n)⟩)]),some (.agg (scC (Sc.nar ⟨⟨⟨allC.r.u.lo,V (bytesB n)⟩,allC.r.s⟩,Kn.cutK allK (8 * clampI n)⟩))),some (.bool (Sc.narB ⟨⟨⟨allC.r.u.lo,V (bytesB n)⟩,allC.r.s⟩,Kn.cutK allK (8 * clampI n)⟩)),none,none,some (.bool (Sc.narB ⟨⟨⟨allC.r.u.lo,V (bytesB n)⟩,allC.r.s⟩,Kn.cutK allK (8 * clampI n)⟩))] mo f16.d f16.z f16.b (by kernel_rfl) ⟨b_g2_27,trivial⟩ (
    hk (fun cx=>cx.q (ldSc rfl (cx.rq 3 s3_28) (cx.rn 0 rfl))) <|
    hc (fun _ _ wx cx=>cx.c rfl (args1 (cx.u 0 rfl)) Try.func61 (by decide +kernel) (wnarrow_n ⟨⟨⟨allC.r.u.lo,V (bytesB n)⟩,allC.r.s⟩,Kn.cutK allK (8 * clampI n)⟩ wx (b7_ok n)) rfl rfl) <|
    kmu 0 <|
    hk (fun cx=>cx.q (ex_ext (x:=.tmp 42) rfl (cx.u 0 rfl) rfl)) <|
    hk (fun cx=>cx.q (ex_ext (x:=.tmp 42) rfl (cx.u 0 rfl) rfl)) <|
    hk (fun cx=>cx.al (wn rfl) 0 rfl (al_sc rfl) rfl rfl rfl rfl (by kernel_rfl) trivial) <|
    hk (fun cx=>cx.stA (wn rfl) rfl rfl 0 0 rfl rfl rfl rfl (cx.u 1 rfl) (by kernel_rfl) (Eq.refl 6) (scC_one _) f16.b.size rfl rfl trivial) <|
    kmu 0 <|
    hn) ?_
   intro a17 w17 f17
   obtain ⟨g3,u_g3,q_g3,b_g3⟩:=f17.al.1
   refine wp_seq ?_
   have b_g1_29:=f17.k (f16.k (f9.kp (f8.kp (f7.k (f3.k (f2.k b_g1))) ⟨.inr (ne_row (f2.k b_g1) q_g2),trivial⟩) ⟨.inr (ne_row (f2.k b_g1) q_g2),trivial⟩))
   have s2_30:=f17.q 2 (f16.q 2 (f9.q 2 (f8.q 2 (f7.q 2 (f3.q 2 (f2.q 2 u_g1))))))
   refine go_reg [bx g3 29 (scC (Sc.nar ⟨⟨⟨allC.r.u.lo,V (bytesB n)⟩,allC.r.s⟩,Kn.cutK allK (8 * clampI n)⟩)),⟨g1,29,(scC zSc),some 1,(scC (Sc.nar ⟨⟨⟨allC.r.u.lo,V (bytesB n)⟩,allC.r.s⟩,Kn.cutK allK (8 * clampI n)⟩))⟩] [] [some (.agg (scC (Sc.nar ⟨⟨⟨allC.r.u.lo,V (bytesB n)⟩,allC.r.s⟩,Kn.cutK allK (8 * clampI n)⟩))),none] mo f17.d f17.z f17.b (by kernel_rfl) ⟨b_g3,b_g1_29,trivial⟩ (
    hk (fun cx=>cx.q (ldSc rfl (cx.rq 4 u_g3) (cx.rn 0 rfl))) <|
    hk (fun cx=>cx.stR (wn rfl) rfl rfl 1 rfl (cx.rq 2 s2_30) (cx.u 0 rfl) (by kernel_rfl) (Eq.refl 6) (scC_one _) q_g1 rfl ⟨(ne_row (f16.k (f9.kp (f8.kp (f7.k (f3.k (f2.k b_g1))) ⟨.inr (ne_row (f2.k b_g1) q_g2),trivial⟩) ⟨.inr (ne_row (f2.k b_g1) q_g2),trivial⟩)) q_g3).symm,trivial⟩ trivial) <|
    hn) ?_
   intro a18 w18 f18
   refine wp_ret ?_
   have s2_31:=f18.q 2 s2_30
   try simp only [Exit.inBlock,Exit.then]
   refine bodyPost_ret (res_c (fn:=Try.f35) rfl s2_31 (load_row 29 f18.rows.2.1 Try.underlying29 rfl (by kernel_rfl))) f18.d ?_
   have hc:clampI n=4:=by have:=Ffk4.out;simpa using this
   have HE:(.agg (scC (Sc.nar ⟨⟨⟨allC.r.u.lo,V (bytesB n)⟩,allC.r.s⟩,Kn.cutK allK (8 * clampI n)⟩)):Value)=.agg (scC (bytesC n)):=congrArg (fun s=>Value.agg (scC s)) (by rw [cut_all (.inr (.inr hc))];exact bytes_7 n)
   exact ⟨retV HE,f18.b⟩
  have Ffk4:=Lib.hid fk4;clear fk4
  have s0_32:=f9.q 0 s0_12
  refine go_reg [] [] [some (.int .i64 (clampI n)),oT,oT,some (.int .i64 (clampI n)),oT,oT,oT,some (.int .i64 (clampI n)),oT,oT] mo f9.d f9.z f9.b (by kernel_rfl) trivial (
   hk (fun cx=>cx.q (ex_mv rfl (cx.rq 0 s0_32))) <|
   hk (fun cx=>cx.v (ex_ne (x:=.tmp 25) rfl (cx.u 0 rfl) rfl) rfl (congrArg Value.bool Ffk2.out)) <|
   kmu 0 <|
   hk (fun cx=>cx.vy 0 (ex_mv rfl (cx.rq 0 s0_32))) <|
   hk (fun cx=>cx.vy 1 (ex_ne (x:=.tmp 28) rfl (cx.u 0 rfl) rfl) (congrArg Value.bool Ffk3.out)) <|
   hk (fun cx=>cx.q (ex_pt rfl (cx.u 0 rfl) (cx.u 1 rfl))) <|
   kmu 0 <|
   hk (fun cx=>cx.vy 0 (ex_mv rfl (cx.rq 0 s0_32))) <|
   hk (fun cx=>cx.vy 1 (ex_ne (x:=.tmp 32) rfl (cx.u 0 rfl) rfl) (congrArg Value.bool Ffk4.out)) <|
   hk (fun cx=>cx.q (ex_pt rfl (cx.u 0 rfl) (cx.u 1 rfl))) <|
   hn) ?_
  intro a19 w19 f19
  refine wp_cond_true (f19.v 9 rfl rfl rfl) ?_
  have b_g2_33:=f19.k f9.rows.1
  have s0_34:=f19.q 0 s0_32
  have s3_35:=f19.q 3 (f9.q 3 s3_13)
  refine go_reg [⟨g2,29,(scC ⟨⟨⟨allC.r.u.lo,V (bytesB n)⟩,allC.r.s⟩,Kn.cutK allK (8 * clampI n)⟩),some 7,(scC ⟨⟨⟨allC.r.u.lo,V (bytesB n)⟩,allC.r.s⟩,⟨zKn.v,bytesB n⟩⟩)⟩] [] [some (.int .i64 (clampI n)),some (.int .i64 (8 * clampI n)),some (.int .u64 (8 * clampI n)),some (.int .u64 ((1 * 2 ^ Int.toNat (8 * clampI n)) % 18446744073709551616)),some (.int .u64 (V (bytesB n))),some (.agg (knC ⟨zKn.v,bytesB n⟩)),some (pt g2 4),none] mo f19.d f19.z f19.b (by kernel_rfl) ⟨b_g2_33,trivial⟩ (
   hk (fun cx=>cx.q (ex_mv rfl (cx.rq 0 s0_34))) <|
   hk (fun cx=>cx.v (ex_mul (y:=.tmp 35) rfl rfl (cx.u 0 rfl)) rfl (congrArg (Value.int .i64) (clamp_w n))) <|
   hk (fun cx=>cx.v (ex_conv (x:=.tmp 36) rfl (cx.u 0 rfl) Try.underlying3 Try.underlying55) rfl (congrArg (Value.int .u64) (clamp_u8 n))) <|
   hk (fun cx=>cx.q (exec_shl (y:=.tmp 37) rfl rfl (cx.u 0 rfl) (clamp_8 n).1 (clamp_8 n).2)) <|
   hk (fun cx=>cx.v (ex_sub (x:=.tmp 38) rfl (cx.u 0 rfl) rfl) rfl (congrArg (Value.int .u64) (one_sh hc8))) <|
   hk (fun cx=>cx.q (exec_build rfl (parts1 (cx.u 0 rfl)) (by kernel_rfl))) <|
   hk (fun cx=>cx.q (ex_fa rfl (cx.rq 3 s3_35) (faStJ29_1_0 _ _))) <|
   hk (fun cx=>cx.stP (wn rfl) rfl rfl 0 rfl (cx.u 0 rfl) (cx.u 1 rfl) (knC_one _) (by kernel_rfl) (Nat.le_of_ble_eq_true rfl) rfl (Nat.le_trans f2.b.size q_g2) rfl trivial trivial) <|
   hn) ?_
  intro a20 w20 f20
  refine wp_seq ?_
  have s3_36:=f20.q 3 s3_35
  refine go_reg [bx g2 29 (scC ⟨⟨⟨allC.r.u.lo,V (bytesB n)⟩,allC.r.s⟩,⟨zKn.v,bytesB n⟩⟩)] [⟨5,4,29,(scC zSc),some 6,(scC (Sc.nar ⟨⟨⟨allC.r.u.lo,V (bytesB n)⟩,allC.r.s⟩,⟨zKn.v,bytesB n⟩⟩))⟩] [some (.agg (scC ⟨⟨⟨allC.r.u.lo,V (bytesB n)⟩,allC.r.s⟩,⟨zKn.v,bytesB n⟩⟩)),some (.tuple #[.agg (scC (Sc.nar ⟨⟨⟨allC.r.u.lo,V (bytesB n)⟩,allC.r.s⟩,⟨zKn.v,bytesB n⟩⟩)),.bool (Sc.narB ⟨⟨⟨allC.r.u.lo,V (bytesB n)⟩,allC.r.s⟩,⟨zKn.v,bytesB n⟩⟩)]),some (.tuple #[.agg (scC (Sc.nar ⟨⟨⟨allC.r.u.lo,V (bytesB n)⟩,allC.r.s⟩,⟨zKn.v,bytesB n⟩⟩)),.bool (Sc.narB ⟨⟨⟨allC.r.u.lo,V (bytesB n)⟩,allC.r.s⟩,⟨zKn.v,bytesB n⟩⟩)]),some (.agg (scC (Sc.nar ⟨⟨⟨allC.r.u.lo,V (bytesB n)⟩,allC.r.s⟩,⟨zKn.v,bytesB n⟩⟩))),some (.bool (Sc.narB ⟨⟨⟨allC.r.u.lo,V (bytesB n)⟩,allC.r.s⟩,⟨zKn.v,bytesB n⟩⟩)),none,none,some (.bool (Sc.narB ⟨⟨⟨allC.r.u.lo,V (bytesB n)⟩,allC.r.s⟩,⟨zKn.v,bytesB n⟩⟩))] mo f20.d f20.z f20.b (by kernel_rfl) ⟨f20.rows.1,trivial⟩ (
   hk (fun cx=>cx.q (ldSc rfl (cx.rq 3 s3_36) (cx.rn 0 rfl))) <|
   hc (fun _ _ wx cx=>cx.c rfl (args1 (cx.u 0 rfl)) Try.func61 (by decide +kernel) (wnarrow_n ⟨⟨⟨allC.r.u.lo,V (bytesB n)⟩,allC.r.s⟩,⟨zKn.v,bytesB n⟩⟩ wx (b7_ok n)) rfl rfl) <|
   kmu 0 <|
   hk (fun cx=>cx.q (ex_ext (x:=.tmp 42) rfl (cx.u 0 rfl) rfl)) <|
   hk (fun cx=>cx.q (ex_ext (x:=.tmp 42) rfl (cx.u 0 rfl) rfl)) <|
   hk (fun cx=>cx.al (wn rfl) 0 rfl (al_sc rfl) rfl rfl rfl rfl (by kernel_rfl) trivial) <|
   hk (fun cx=>cx.stA (wn rfl) rfl rfl 0 0 rfl rfl rfl rfl (cx.u 1 rfl) (by kernel_rfl) (Eq.refl 6) (scC_one _) f20.b.size rfl rfl trivial) <|
   kmu 0 <|
   hn) ?_
  intro a21 w21 f21
  obtain ⟨g3,u_g3,q_g3,b_g3⟩:=f21.al.1
  refine wp_seq ?_
  have b_g1_37:=f21.k (f20.kp (f19.k (f9.kp (f8.kp (f7.k (f3.k (f2.k b_g1))) ⟨.inr (ne_row (f2.k b_g1) q_g2),trivial⟩) ⟨.inr (ne_row (f2.k b_g1) q_g2),trivial⟩)) ⟨.inr (ne_row (f2.k b_g1) q_g2),trivial⟩)
  have s2_38:=f21.q 2 (f20.q 2 (f19.q 2 (f9.q 2 (f8.q 2 (f7.q 2 (f3.q 2 (f2.q 2 u_g1)))))))
  refine go_reg [bx g3 29 (scC (Sc.nar ⟨⟨⟨allC.r.u.lo,V (bytesB n)⟩,allC.r.s⟩,⟨zKn.v,bytesB n⟩⟩)),⟨g1,29,(scC zSc),some 1,(scC (Sc.nar ⟨⟨⟨allC.r.u.lo,V (bytesB n)⟩,allC.r.s⟩,⟨zKn.v,bytesB n⟩⟩))⟩] [] [some (.agg (scC (Sc.nar ⟨⟨⟨allC.r.u.lo,V (bytesB n)⟩,allC.r.s⟩,⟨zKn.v,bytesB n⟩⟩))),none] mo f21.d f21.z f21.b (by kernel_rfl) ⟨b_g3,b_g1_37,trivial⟩ (
   hk (fun cx=>cx.q (ldSc rfl (cx.rq 4 u_g3) (cx.rn 0 rfl))) <|
   hk (fun cx=>cx.stR (wn rfl) rfl rfl 1 rfl (cx.rq 2 s2_38) (cx.u 0 rfl) (by kernel_rfl) (Eq.refl 6) (scC_one _) q_g1 rfl ⟨(ne_row (f20.kp (f19.k (f9.kp (f8.kp (f7.k (f3.k (f2.k b_g1))) ⟨.inr (ne_row (f2.k b_g1) q_g2),trivial⟩) ⟨.inr (ne_row (f2.k b_g1) q_g2),trivial⟩)) ⟨.inr (ne_row (f2.k b_g1) q_g2),trivial⟩) q_g3).symm,trivial⟩ trivial) <|
   hn) ?_
  intro a22 w22 f22
  refine wp_ret ?_
  have s2_39:=f22.q 2 s2_38
  try simp only [Exit.inBlock,Exit.then]
  refine bodyPost_ret (res_c (fn:=Try.f35) rfl s2_39 (load_row 29 f22.rows.2.1 Try.underlying29 rfl (by kernel_rfl))) f22.d ?_
  have HE:(.agg (scC (Sc.nar ⟨⟨⟨allC.r.u.lo,V (bytesB n)⟩,allC.r.s⟩,⟨zKn.v,bytesB n⟩⟩)):Value)=.agg (scC (bytesC n)):=congrArg (fun s=>Value.agg (scC s)) (bytes_7 n)
  exact ⟨retV HE,f22.b⟩
theorem ex_rem8 {ρ:Operand → Value} {o:Oper} {w:World} {t z:TypeId} {x y:Operand} (ho:o.op=.binOp .rem t x y z) {a:Int} (hx:ρ x=.int .i64 a) (hy:ρ y=.int .i64 8) (h0:0 ≤ a):(execOp ρ o).run Try.prog w=.ok (.value (.int .i64 (a % 8))) w:=by
  simp [execOp,ho,hx,hy,go_sem]
  rw [Int.tmod_eq_emod_of_nonneg h0]
set_option maxHeartbeats 4000000 in
theorem qload_n (a:St) (lo hi size:Int) (W:World):Calls Try.prog 8 #[.agg (stC a),.int .i64 lo,.int .i64 hi,.int .i64 size] W fun e w'=>e=.returned (.tuple #[.agg (tyC (loadR a lo hi size)),.int .i64 (loadE a lo hi size)]) ∧ Below W.heap.size W w':=by
  refine calls_abs Try.func8 rfl (Nat.le_of_ble_eq_true rfl) ?_
  intro a0 d0 z0 h0
  replace z0:a0.tmps.size=37:=z0
  have s0_0:a0.tmps.getD 0 undef=.agg (stC a):=h0 0 (Nat.le_of_ble_eq_true rfl)
  have s1_0:a0.tmps.getD 1 undef=.int .i64 lo:=h0 1 (Nat.le_of_ble_eq_true rfl)
  have s2_0:a0.tmps.getD 2 undef=.int .i64 hi:=h0 2 (Nat.le_of_ble_eq_true rfl)
  have s3_0:a0.tmps.getD 3 undef=.int .i64 size:=h0 3 (Nat.le_of_ble_eq_true rfl)
  refine wp_seq ?_
  refine go_reg [] [⟨0,4,35,(stC a),none,#[]⟩,⟨1,8,31,(tyC tZ),none,#[]⟩] [none,none,some (.int .i64 0)] mo d0 z0 (Below.refl _ _) (by kernel_rfl) trivial (
   hk (fun cx=>cx.al (wn rfl) 0 rfl (ex_box rfl (cx.rq 0 s0_0) rfl) rfl rfl rfl rfl rfl trivial) <|
   hk (fun cx=>cx.al (wn rfl) 1 rfl (al_ty rfl) rfl rfl rfl rfl rfl trivial) <|
   hk (fun cx=>cx.q (ex_as rfl rfl)) <|
   hn) ?_
  intro a1 w1 f1
  obtain ⟨g1,u_g1,q_g1,b_g1⟩:=f1.al.1
  obtain ⟨g2,u_g2,q_g2,b_g2⟩:=f1.al.2.1
  refine wp_seq ?_
  refine wp_seq ?_
  cases fk1:placeB a lo hi size
  case false=>
   have Ffk1:=Lib.hid fk1;clear fk1
   have s1_1:=f1.q 1 s1_0
   have s2_2:=f1.q 2 s2_0
   have s3_3:=f1.q 3 s3_0
   refine go_reg [bx g1 35 (stC a)] [] [some (.agg (stC a)),some (.int .i64 lo),some (.int .i64 hi),some (.int .i64 size),oF,oT] mo f1.d f1.z f1.b (by kernel_rfl) ⟨b_g1,trivial⟩ (
    hk (fun cx=>cx.q (ldSt rfl (cx.rq 4 u_g1) (cx.rn 0 rfl))) <|
    hk (fun cx=>cx.q (ex_mv rfl (cx.rq 1 s1_1))) <|
    hk (fun cx=>cx.q (ex_mv rfl (cx.rq 2 s2_2))) <|
    hk (fun cx=>cx.q (ex_mv rfl (cx.rq 3 s3_3))) <|
    hc (fun _ _ wx cx=>cx.c rfl (args4 (cx.u 0 rfl) (cx.u 1 rfl) (cx.u 2 rfl) (cx.u 3 rfl)) Try.func34 (by decide +kernel) (qplace_n a lo hi size wx) rfl (congrArg Value.bool Ffk1.out)) <|
    hk (fun cx=>cx.q (ex_not (x:=.tmp 14) rfl (cx.u 0 rfl))) <|
    hn) ?_
   intro a2 w2 f2
   refine wp_cond_true (f2.v 5 rfl rfl rfl) ?_
   refine wp_seq ?_
   have b_g2_4:=f2.k b_g2
   have s8_5:=f2.q 8 u_g2
   refine go_reg [⟨g2,31,(tyC tZ),some 1,(tyC tZ)⟩] [] [some (.agg (tyC tZ)),none,some (.int .i64 2)] mo f2.d f2.z f2.b (by kernel_rfl) ⟨b_g2_4,trivial⟩ (
    hk (fun cx=>cx.q (ex_z9 rfl)) <|
    hk (fun cx=>cx.stR (wn rfl) rfl rfl 0 rfl (cx.rq 8 s8_5) (cx.u 0 rfl) (by kernel_rfl) (Eq.refl 9) (tyC_one _) q_g2 rfl trivial trivial) <|
    hk (fun cx=>cx.q (ex_as rfl rfl)) <|
    hn) ?_
   intro a3 w3 f3
   refine wp_ret ?_
   have s8_6:=f3.q 8 s8_5
   try simp only [Exit.inBlock,Exit.then]
   refine bodyPost_ret (res_ct (fn:=Try.f8) rfl s8_6 (load_row 31 f3.rows.1 Try.underlying31 rfl (by kernel_rfl)) (f3.v 2 rfl rfl rfl)) f3.d ?_
   have HE:(.tuple #[.agg (tyC tZ),.int .i64 2]:Value)=.tuple #[.agg (tyC (loadR a lo hi size)),.int .i64 (loadE a lo hi size)]:=by unfold loadR loadE loadT exactB scT tZ;simp only [Ffk1.out,Bool.true_and,Bool.and_true,Bool.false_and,Bool.and_false,Bool.or_false,Bool.false_or,Bool.true_or,Bool.or_true,Bool.not_true,Bool.not_false,if_true,if_false,Bool.false_eq_true,Bool.true_eq_false,reduceCtorEq];try rfl
   exact ⟨retV HE,f3.b⟩
  have Ffk1:=Lib.hid fk1;clear fk1
  have hpl:=Ffk1.out
  have hbd:=place_bd hpl
  have s1_7:=f1.q 1 s1_0
  have s2_8:=f1.q 2 s2_0
  have s3_9:=f1.q 3 s3_0
  refine go_reg [bx g1 35 (stC a)] [] [some (.agg (stC a)),some (.int .i64 lo),some (.int .i64 hi),some (.int .i64 size),oT,oF] mo f1.d f1.z f1.b (by kernel_rfl) ⟨b_g1,trivial⟩ (
   hk (fun cx=>cx.q (ldSt rfl (cx.rq 4 u_g1) (cx.rn 0 rfl))) <|
   hk (fun cx=>cx.q (ex_mv rfl (cx.rq 1 s1_7))) <|
   hk (fun cx=>cx.q (ex_mv rfl (cx.rq 2 s2_8))) <|
   hk (fun cx=>cx.q (ex_mv rfl (cx.rq 3 s3_9))) <|
   hc (fun _ _ wx cx=>cx.c rfl (args4 (cx.u 0 rfl) (cx.u 1 rfl) (cx.u 2 rfl) (cx.u 3 rfl)) Try.func34 (by decide +kernel) (qplace_n a lo hi size wx) rfl (congrArg Value.bool Ffk1.out)) <|
   hk (fun cx=>cx.q (ex_not (x:=.tmp 14) rfl (cx.u 0 rfl))) <|
   hn) ?_
  intro a4 w4 f4
  refine wp_cond_false (f4.v 5 rfl rfl rfl) ?_
  refine wp_skip ?_
  refine wp_seq ?_
  refine wp_seq ?_
  cases fk2:size == 8
  case false=>
   have Ffk2:=Lib.hid fk2;clear fk2
   have s3_10:=f4.q 3 s3_9
   refine go_reg [] [] [some (.int .i64 size),oF,oF,oU,oU,oU,oF,oF,oU,oU,oU,oF] mo f4.d f4.z f4.b (by kernel_rfl) trivial (
    hk (fun cx=>cx.q (ex_mv rfl (cx.rq 3 s3_10))) <|
    hk (fun cx=>cx.v (ex_eq (x:=.tmp 17) rfl (cx.u 0 rfl) rfl) rfl (congrArg Value.bool Ffk2.out)) <|
    kmu 0 <|
    kno 0 <|
    kno 0 <|
    kno 2 <|
    hk (fun cx=>cx.q (ex_pf rfl (cx.u 0 rfl) rfl)) <|
    kmu 0 <|
    kno 0 <|
    kno 1 <|
    kno 1 <|
    hk (fun cx=>cx.q (ex_pf rfl (cx.u 0 rfl) rfl)) <|
    hn) ?_
   intro a5 w5 f5
   refine wp_cond_false (f5.v 11 rfl rfl rfl) ?_
   refine wp_skip ?_
   refine wp_seq ?_
   have b_g2_11:=f5.k (f4.k b_g2)
   have s3_12:=f5.q 3 s3_10
   have s8_13:=f5.q 8 (f4.q 8 u_g2)
   refine go_reg [⟨g2,31,(tyC tZ),some 3,(tyC ⟨1,bytesC size,tZ.lo,tZ.hi⟩)⟩] [] [some (.int .i64 size),some (.agg (scC (bytesC size))),some (.agg (tyC ⟨1,bytesC size,tZ.lo,tZ.hi⟩)),none,some (.int .i64 0)] mo f5.d f5.z f5.b (by kernel_rfl) ⟨b_g2_11,trivial⟩ (
    hk (fun cx=>cx.q (ex_mv rfl (cx.rq 3 s3_12))) <|
    hc (fun _ _ wx cx=>cx.c rfl (args1 (cx.u 0 rfl)) Try.func35 (by decide +kernel) (wbytes_n size wx) rfl rfl) <|
    hk (fun cx=>cx.q (exec_build rfl (parts2 rfl (cx.u 0 rfl)) (by kernel_rfl))) <|
    hk (fun cx=>cx.stR (wn rfl) rfl rfl 0 rfl (cx.rq 8 s8_13) (cx.u 0 rfl) (by kernel_rfl) (Eq.refl 9) (tyC_one _) q_g2 rfl trivial trivial) <|
    hk (fun cx=>cx.q (ex_as rfl rfl)) <|
    hn) ?_
   intro a6 w6 f6
   refine wp_ret ?_
   have s8_14:=f6.q 8 s8_13
   try simp only [Exit.inBlock,Exit.then]
   refine bodyPost_ret (res_ct (fn:=Try.f8) rfl s8_14 (load_row 31 f6.rows.1 Try.underlying31 rfl (by kernel_rfl)) (f6.v 4 rfl rfl rfl)) f6.d ?_
   have HE:(.tuple #[.agg (tyC ⟨1,bytesC size,tZ.lo,tZ.hi⟩),.int .i64 0]:Value)=.tuple #[.agg (tyC (loadR a lo hi size)),.int .i64 (loadE a lo hi size)]:=by unfold loadR loadE loadT exactB scT tZ;simp only [Ffk1.out,Ffk2.out,Bool.true_and,Bool.and_true,Bool.false_and,Bool.and_false,Bool.or_false,Bool.false_or,Bool.true_or,Bool.or_true,Bool.not_true,Bool.not_false,if_true,if_false,Bool.false_eq_true,Bool.true_eq_false,reduceCtorEq];try rfl
   exact ⟨retV HE,f6.b⟩
  have Ffk2:=Lib.hid fk2;clear fk2
  have h8:=yb Ffk2.out
  cases fk3:lo == hi
  case false=>
   have Ffk3:=Lib.hid fk3;clear fk3
   have s3_15:=f4.q 3 s3_9
   have s1_16:=f4.q 1 s1_7
   have s2_17:=f4.q 2 s2_8
   refine go_reg [] [] [some (.int .i64 size),oT,oT,some (.int .i64 lo),some (.int .i64 hi),oF,oF,oF,oU,oU,oU,oF] mo f4.d f4.z f4.b (by kernel_rfl) trivial (
    hk (fun cx=>cx.q (ex_mv rfl (cx.rq 3 s3_15))) <|
    hk (fun cx=>cx.v (ex_eq (x:=.tmp 17) rfl (cx.u 0 rfl) rfl) rfl (congrArg Value.bool Ffk2.out)) <|
    kmu 0 <|
    hk (fun cx=>cx.vy 0 (ex_mv rfl (cx.rq 1 s1_16))) <|
    hk (fun cx=>cx.vy 0 (ex_mv rfl (cx.rq 2 s2_17))) <|
    hk (fun cx=>cx.vy 2 (ex_eq (x:=.tmp 20) (y:=.tmp 21) rfl (cx.u 0 rfl) (cx.u 1 rfl)) (congrArg Value.bool Ffk3.out)) <|
    hk (fun cx=>cx.q (ex_pt rfl (cx.u 0 rfl) (cx.u 1 rfl))) <|
    kmu 0 <|
    kno 0 <|
    kno 1 <|
    kno 1 <|
    hk (fun cx=>cx.q (ex_pf rfl (cx.u 0 rfl) rfl)) <|
    hn) ?_
   intro a7 w7 f7
   refine wp_cond_false (f7.v 11 rfl rfl rfl) ?_
   refine wp_skip ?_
   refine wp_seq ?_
   have b_g2_18:=f7.k (f4.k b_g2)
   have s3_19:=f7.q 3 s3_15
   have s8_20:=f7.q 8 (f4.q 8 u_g2)
   refine go_reg [⟨g2,31,(tyC tZ),some 3,(tyC ⟨1,bytesC size,tZ.lo,tZ.hi⟩)⟩] [] [some (.int .i64 size),some (.agg (scC (bytesC size))),some (.agg (tyC ⟨1,bytesC size,tZ.lo,tZ.hi⟩)),none,some (.int .i64 0)] mo f7.d f7.z f7.b (by kernel_rfl) ⟨b_g2_18,trivial⟩ (
    hk (fun cx=>cx.q (ex_mv rfl (cx.rq 3 s3_19))) <|
    hc (fun _ _ wx cx=>cx.c rfl (args1 (cx.u 0 rfl)) Try.func35 (by decide +kernel) (wbytes_n size wx) rfl rfl) <|
    hk (fun cx=>cx.q (exec_build rfl (parts2 rfl (cx.u 0 rfl)) (by kernel_rfl))) <|
    hk (fun cx=>cx.stR (wn rfl) rfl rfl 0 rfl (cx.rq 8 s8_20) (cx.u 0 rfl) (by kernel_rfl) (Eq.refl 9) (tyC_one _) q_g2 rfl trivial trivial) <|
    hk (fun cx=>cx.q (ex_as rfl rfl)) <|
    hn) ?_
   intro a8 w8 f8
   refine wp_ret ?_
   have s8_21:=f8.q 8 s8_20
   try simp only [Exit.inBlock,Exit.then]
   refine bodyPost_ret (res_ct (fn:=Try.f8) rfl s8_21 (load_row 31 f8.rows.1 Try.underlying31 rfl (by kernel_rfl)) (f8.v 4 rfl rfl rfl)) f8.d ?_
   have HE:(.tuple #[.agg (tyC ⟨1,bytesC size,tZ.lo,tZ.hi⟩),.int .i64 0]:Value)=.tuple #[.agg (tyC (loadR a lo hi size)),.int .i64 (loadE a lo hi size)]:=by unfold loadR loadE loadT exactB scT tZ;simp only [Ffk1.out,Ffk2.out,Ffk3.out,Bool.true_and,Bool.and_true,Bool.false_and,Bool.and_false,Bool.or_false,Bool.false_or,Bool.true_or,Bool.or_true,Bool.not_true,Bool.not_false,if_true,if_false,Bool.false_eq_true,Bool.true_eq_false,reduceCtorEq];try rfl
   exact ⟨retV HE,f8.b⟩
  have Ffk3:=Lib.hid fk3;clear fk3
  have hlh:=yb Ffk3.out
  cases fk4:(lo % 8) == 0
  case false=>
   have Ffk4:=Lib.hid fk4;clear fk4
   have s3_22:=f4.q 3 s3_9
   have s1_23:=f4.q 1 s1_7
   have s2_24:=f4.q 2 s2_8
   refine go_reg [] [] [some (.int .i64 size),oT,oT,some (.int .i64 lo),some (.int .i64 hi),oT,oT,oT,some (.int .i64 lo),some (.int .i64 (lo % 8)),oF,oF] mo f4.d f4.z f4.b (by kernel_rfl) trivial (
    hk (fun cx=>cx.q (ex_mv rfl (cx.rq 3 s3_22))) <|
    hk (fun cx=>cx.v (ex_eq (x:=.tmp 17) rfl (cx.u 0 rfl) rfl) rfl (congrArg Value.bool Ffk2.out)) <|
    kmu 0 <|
    hk (fun cx=>cx.vy 0 (ex_mv rfl (cx.rq 1 s1_23))) <|
    hk (fun cx=>cx.vy 0 (ex_mv rfl (cx.rq 2 s2_24))) <|
    hk (fun cx=>cx.vy 2 (ex_eq (x:=.tmp 20) (y:=.tmp 21) rfl (cx.u 0 rfl) (cx.u 1 rfl)) (congrArg Value.bool Ffk3.out)) <|
    hk (fun cx=>cx.q (ex_pt rfl (cx.u 0 rfl) (cx.u 1 rfl))) <|
    kmu 0 <|
    hk (fun cx=>cx.vy 0 (ex_mv rfl (cx.rq 1 s1_23))) <|
    hk (fun cx=>cx.vy 1 (ex_rem8 (x:=.tmp 25) rfl (cx.u 0 rfl) rfl (by omega)) rfl) <|
    hk (fun cx=>cx.vy 1 (ex_eq (x:=.tmp 26) rfl (cx.u 0 rfl) rfl) (congrArg Value.bool Ffk4.out)) <|
    hk (fun cx=>cx.q (ex_pt rfl (cx.u 0 rfl) (cx.u 1 rfl))) <|
    hn) ?_
   intro a9 w9 f9
   refine wp_cond_false (f9.v 11 rfl rfl rfl) ?_
   refine wp_skip ?_
   refine wp_seq ?_
   have b_g2_25:=f9.k (f4.k b_g2)
   have s3_26:=f9.q 3 s3_22
   have s8_27:=f9.q 8 (f4.q 8 u_g2)
   refine go_reg [⟨g2,31,(tyC tZ),some 3,(tyC ⟨1,bytesC size,tZ.lo,tZ.hi⟩)⟩] [] [some (.int .i64 size),some (.agg (scC (bytesC size))),some (.agg (tyC ⟨1,bytesC size,tZ.lo,tZ.hi⟩)),none,some (.int .i64 0)] mo f9.d f9.z f9.b (by kernel_rfl) ⟨b_g2_25,trivial⟩ (
    hk (fun cx=>cx.q (ex_mv rfl (cx.rq 3 s3_26))) <|
    hc (fun _ _ wx cx=>cx.c rfl (args1 (cx.u 0 rfl)) Try.func35 (by decide +kernel) (wbytes_n size wx) rfl rfl) <|
    hk (fun cx=>cx.q (exec_build rfl (parts2 rfl (cx.u 0 rfl)) (by kernel_rfl))) <|
    hk (fun cx=>cx.stR (wn rfl) rfl rfl 0 rfl (cx.rq 8 s8_27) (cx.u 0 rfl) (by kernel_rfl) (Eq.refl 9) (tyC_one _) q_g2 rfl trivial trivial) <|
    hk (fun cx=>cx.q (ex_as rfl rfl)) <|
    hn) ?_
   intro a10 w10 f10
   refine wp_ret ?_
   have s8_28:=f10.q 8 s8_27
   try simp only [Exit.inBlock,Exit.then]
   refine bodyPost_ret (res_ct (fn:=Try.f8) rfl s8_28 (load_row 31 f10.rows.1 Try.underlying31 rfl (by kernel_rfl)) (f10.v 4 rfl rfl rfl)) f10.d ?_
   have HE:(.tuple #[.agg (tyC ⟨1,bytesC size,tZ.lo,tZ.hi⟩),.int .i64 0]:Value)=.tuple #[.agg (tyC (loadR a lo hi size)),.int .i64 (loadE a lo hi size)]:=by unfold loadR loadE loadT exactB scT tZ;simp only [Ffk1.out,Ffk2.out,Ffk3.out,Ffk4.out,Bool.true_and,Bool.and_true,Bool.false_and,Bool.and_false,Bool.or_false,Bool.false_or,Bool.true_or,Bool.or_true,Bool.not_true,Bool.not_false,if_true,if_false,Bool.false_eq_true,Bool.true_eq_false,reduceCtorEq];try rfl
   exact ⟨retV HE,f10.b⟩
  have Ffk4:=Lib.hid fk4;clear fk4
  have s3_29:=f4.q 3 s3_9
  have s1_30:=f4.q 1 s1_7
  have s2_31:=f4.q 2 s2_8
  refine go_reg [] [] [some (.int .i64 size),oT,oT,some (.int .i64 lo),some (.int .i64 hi),oT,oT,oT,some (.int .i64 lo),some (.int .i64 (lo % 8)),oT,oT] mo f4.d f4.z f4.b (by kernel_rfl) trivial (
   hk (fun cx=>cx.q (ex_mv rfl (cx.rq 3 s3_29))) <|
   hk (fun cx=>cx.v (ex_eq (x:=.tmp 17) rfl (cx.u 0 rfl) rfl) rfl (congrArg Value.bool Ffk2.out)) <|
   kmu 0 <|
   hk (fun cx=>cx.vy 0 (ex_mv rfl (cx.rq 1 s1_30))) <|
   hk (fun cx=>cx.vy 0 (ex_mv rfl (cx.rq 2 s2_31))) <|
   hk (fun cx=>cx.vy 2 (ex_eq (x:=.tmp 20) (y:=.tmp 21) rfl (cx.u 0 rfl) (cx.u 1 rfl)) (congrArg Value.bool Ffk3.out)) <|
   hk (fun cx=>cx.q (ex_pt rfl (cx.u 0 rfl) (cx.u 1 rfl))) <|
   kmu 0 <|
   hk (fun cx=>cx.vy 0 (ex_mv rfl (cx.rq 1 s1_30))) <|
   hk (fun cx=>cx.vy 1 (ex_rem8 (x:=.tmp 25) rfl (cx.u 0 rfl) rfl (by omega)) rfl) <|
   hk (fun cx=>cx.vy 1 (ex_eq (x:=.tmp 26) rfl (cx.u 0 rfl) rfl) (congrArg Value.bool Ffk4.out)) <|
   hk (fun cx=>cx.q (ex_pt rfl (cx.u 0 rfl) (cx.u 1 rfl))) <|
   hn) ?_
  intro a11 w11 f11
  refine wp_cond_true (f11.v 11 rfl rfl rfl) ?_
  refine wp_seq ?_
  have b_g1_32:=f11.k (f4.k b_g1)
  have b_g2_33:=f11.k (f4.k b_g2)
  have s1_34:=f11.q 1 s1_30
  have s4_35:=f11.q 4 (f4.q 4 u_g1)
  have s8_36:=f11.q 8 (f4.q 8 u_g2)
  refine go_reg [bx g1 35 (stC a),⟨g2,31,(tyC tZ),some 5,(tyC (a (11 + (lo / 8).toNat)))⟩] [] [some (.int .i64 lo),some (.int .i64 (lo / 8)),some (pt g1 99),some (pt g1 (9 * (11 + (lo / 8).toNat))),some (.agg (tyC (a (11 + (lo / 8).toNat)))),none,some (.int .i64 0)] mo f11.d f11.z f11.b (by kernel_rfl) ⟨b_g1_32,b_g2_33,trivial⟩ (
   hk (fun cx=>cx.q (ex_mv rfl (cx.rq 1 s1_34))) <|
   hk (fun cx=>cx.v (ex_quo (x:=.tmp 29) rfl (cx.u 0 rfl) rfl (by omega) (by decide) (by omega)) rfl rfl) <|
   hk (fun cx=>cx.q (ex_fa rfl (cx.rq 4 s4_35) (faStJ35_1_0 _ _))) <|
   hk (fun cx=>cx.v (ex_ia (n:=8) (sz:=9) rfl (cx.u 0 rfl) (cx.u 1 rfl) Try.underlying33 (by kernel_rfl) (by omega) (by omega) (by omega)) rfl rfl) <|
   hk (fun cx=>cx.v (ldEl (by omega) rfl (cx.u 0 rfl) (cx.rn 0 rfl)) rfl rfl) <|
   hk (fun cx=>cx.stR (wn rfl) rfl rfl 1 rfl (cx.rq 8 s8_36) (cx.u 0 rfl) (by kernel_rfl) (Eq.refl 9) (tyC_one _) q_g2 rfl ⟨(ne_ptr (pairAt f1.ps 0 1 (by decide) rfl rfl) u_g1 u_g2),trivial⟩ trivial) <|
   hk (fun cx=>cx.q (ex_as rfl rfl)) <|
   hn) ?_
  intro a12 w12 f12
  refine wp_ret ?_
  have s8_37:=f12.q 8 s8_36
  try simp only [Exit.inBlock,Exit.then]
  refine bodyPost_ret (res_ct (fn:=Try.f8) rfl s8_37 (load_row 31 f12.rows.2.1 Try.underlying31 rfl (by kernel_rfl)) (f12.v 6 rfl rfl rfl)) f12.d ?_
  have HE:(.tuple #[.agg (tyC (a (11 + (lo / 8).toNat))),.int .i64 0]:Value)=.tuple #[.agg (tyC (loadR a lo hi size)),.int .i64 (loadE a lo hi size)]:=by unfold loadR loadE loadT exactB scT tZ;simp only [Ffk1.out,Ffk2.out,Ffk3.out,Ffk4.out,Bool.true_and,Bool.and_true,Bool.false_and,Bool.and_false,Bool.or_false,Bool.false_or,Bool.true_or,Bool.or_true,Bool.not_true,Bool.not_false,if_true,if_false,Bool.false_eq_true,Bool.true_eq_false,reduceCtorEq];try rfl
  exact ⟨retV HE,f12.b⟩
def coverS (a:St) (l m:Nat):St:=fun j=>if 0 < m ∧ 11 + l / 8 ≤ j ∧ j ≤ 11 + (l + m - 1) / 8 then allT else a j
theorem cover_0 (a:St) (l:Nat):coverS a l 0=a:=by funext j;unfold coverS;rw [if_neg (by omega)]
theorem cover_step (a:St) (l m:Nat):upS (coverS a l m) (11 + (l + m) / 8) allT=coverS a l (m + 1):=by
  funext j
  unfold upS coverS
  by_cases e:j=11 + (l + m) / 8
  · rw [if_pos e,if_pos (by omega)]
  · rw [if_neg e]
    by_cases c:0 < m ∧ 11 + l / 8 ≤ j ∧ j ≤ 11 + (l + m - 1) / 8
    · rw [if_pos c,if_pos (by omega)]
    · rw [if_neg c,if_neg (by omega)]
theorem cover_end (a:St) {l m:Nat} {lo hi size:Int} (hm:0 < m) (hl:lo=(l:Int)) (h:hi + size - lo=(m:Int)):coverS a l m=fillS a (lo / 8).toNat ((hi + size - 1) / 8).toNat:=by
  funext j
  unfold coverS fillS
  by_cases c:0 < m ∧ 11 + l / 8 ≤ j ∧ j ≤ 11 + (l + m - 1) / 8
  · rw [if_pos c,if_pos (by omega)]
  · rw [if_neg c,if_neg (by omega)]
set_option maxHeartbeats 4000000 in
theorem qstore_n (a:St) (lo hi size:Int) (t:Ty) (W:World):Calls Try.prog 10 #[.agg (stC a),.int .i64 lo,.int .i64 hi,.int .i64 size,.agg (tyC t)] W fun e w'=>e=.returned (.tuple #[.agg (stC (storeR a lo hi size t)),.int .i64 (storeE a lo hi size t)]) ∧ Below W.heap.size W w':=by
  refine calls_abs Try.func10 rfl (Nat.le_of_ble_eq_true rfl) ?_
  intro a0 d0 z0 h0
  replace z0:a0.tmps.size=62:=z0
  have s0_0:a0.tmps.getD 0 undef=.agg (stC a):=h0 0 (Nat.le_of_ble_eq_true rfl)
  have s1_0:a0.tmps.getD 1 undef=.int .i64 lo:=h0 1 (Nat.le_of_ble_eq_true rfl)
  have s2_0:a0.tmps.getD 2 undef=.int .i64 hi:=h0 2 (Nat.le_of_ble_eq_true rfl)
  have s3_0:a0.tmps.getD 3 undef=.int .i64 size:=h0 3 (Nat.le_of_ble_eq_true rfl)
  have s4_0:a0.tmps.getD 4 undef=.agg (tyC t):=h0 4 (Nat.le_of_ble_eq_true rfl)
  refine wp_seq ?_
  refine go_reg [] [⟨0,5,35,(stC a),none,#[]⟩,⟨1,9,31,(tyC t),none,#[]⟩,⟨2,10,35,(stC zS),none,#[]⟩] [none,none,none,some (.int .i64 0)] mo d0 z0 (Below.refl _ _) (by kernel_rfl) trivial (
   hk (fun cx=>cx.al (wn rfl) 0 rfl (ex_box rfl (cx.rq 0 s0_0) rfl) rfl rfl rfl rfl rfl trivial) <|
   hk (fun cx=>cx.al (wn rfl) 1 rfl (ex_box rfl (cx.rq 4 s4_0) rfl) rfl rfl rfl rfl rfl trivial) <|
   hk (fun cx=>cx.al (wn rfl) 2 rfl (al_st rfl) rfl rfl rfl rfl rfl trivial) <|
   hk (fun cx=>cx.q (ex_as rfl rfl)) <|
   hn) ?_
  intro a1 w1 f1
  obtain ⟨g1,u_g1,q_g1,b_g1⟩:=f1.al.1
  obtain ⟨g2,u_g2,q_g2,b_g2⟩:=f1.al.2.1
  obtain ⟨g3,u_g3,q_g3,b_g3⟩:=f1.al.2.2.1
  refine wp_seq ?_
  refine wp_seq ?_
  cases fk1:placeB a lo hi size
  case false=>
   have Ffk1:=Lib.hid fk1;clear fk1
   have s1_1:=f1.q 1 s1_0
   have s2_2:=f1.q 2 s2_0
   have s3_3:=f1.q 3 s3_0
   refine go_reg [bx g1 35 (stC a)] [] [some (.agg (stC a)),some (.int .i64 lo),some (.int .i64 hi),some (.int .i64 size),oF,oT,oT,oU,oU,oU,oT,oT,oU,oU,oU,oT] mo f1.d f1.z f1.b (by kernel_rfl) ⟨b_g1,trivial⟩ (
    hk (fun cx=>cx.q (ldSt rfl (cx.rq 5 u_g1) (cx.rn 0 rfl))) <|
    hk (fun cx=>cx.q (ex_mv rfl (cx.rq 1 s1_1))) <|
    hk (fun cx=>cx.q (ex_mv rfl (cx.rq 2 s2_2))) <|
    hk (fun cx=>cx.q (ex_mv rfl (cx.rq 3 s3_3))) <|
    hc (fun _ _ wx cx=>cx.c rfl (args4 (cx.u 0 rfl) (cx.u 1 rfl) (cx.u 2 rfl) (cx.u 3 rfl)) Try.func34 (by decide +kernel) (qplace_n a lo hi size wx) rfl (congrArg Value.bool Ffk1.out)) <|
    hk (fun cx=>cx.q (ex_not (x:=.tmp 17) rfl (cx.u 0 rfl))) <|
    kmu 0 <|
    kno 0 <|
    kno 1 <|
    kno 1 <|
    hk (fun cx=>cx.q (ex_pt rfl (cx.u 0 rfl) rfl)) <|
    kmu 0 <|
    kno 0 <|
    kno 1 <|
    kno 1 <|
    hk (fun cx=>cx.q (ex_pt rfl (cx.u 0 rfl) rfl)) <|
    hn) ?_
   intro a2 w2 f2
   refine wp_cond_true (f2.v 15 rfl rfl rfl) ?_
   refine wp_seq ?_
   have b_g3_4:=f2.k b_g3
   have s10_5:=f2.q 10 u_g3
   refine go_reg [⟨g3,35,(stC zS),some 1,(stC zS)⟩] [] [some (.agg (stC zS)),none,some (.int .i64 2)] mo f2.d f2.z f2.b (by kernel_rfl) ⟨b_g3_4,trivial⟩ (
    hk (fun cx=>cx.q (ex_zst rfl)) <|
    hk (fun cx=>cx.stR (wn rfl) rfl rfl 0 rfl (cx.rq 10 s10_5) (cx.u 0 rfl) (st_info _) ((stC_size _).trans (stC_size _).symm) (stC_one _) q_g3 rfl trivial trivial) <|
    hk (fun cx=>cx.q (ex_as rfl rfl)) <|
    hn) ?_
   intro a3 w3 f3
   refine wp_ret ?_
   have s10_6:=f3.q 10 s10_5
   try simp only [Exit.inBlock,Exit.then]
   refine bodyPost_ret (res_ct (fn:=Try.f10) rfl s10_6 (load_row 35 f3.rows.1 Try.underlying35 rfl (st_info _)) (f3.v 2 rfl rfl rfl)) f3.d ?_
   have HE:(.tuple #[.agg (stC zS),.int .i64 2]:Value)=.tuple #[.agg (stC (storeR a lo hi size t)),.int .i64 (storeE a lo hi size t)]:=by unfold storeR storeE storeB storeS exactB;simp only [Ffk1.out,Bool.false_and,Bool.true_and,Bool.and_false,Bool.and_true,Bool.true_or,Bool.or_true,Bool.false_or,Bool.or_false,Bool.not_true,Bool.not_false,if_true,if_false,Bool.false_eq_true]
   exact ⟨retV HE,f3.b⟩
  have Ffk1:=Lib.hid fk1;clear fk1
  have hpl:=Ffk1.out
  have hbd:=place_bd hpl
  obtain ⟨l0,el⟩:∃ n:Nat,lo=(n:Int):=⟨lo.toNat,by omega⟩
  obtain ⟨z,ez⟩:∃ n:Nat,hi + size - lo=(n:Int):=⟨(hi + size - lo).toNat,by omega⟩
  have hz:0 < z ∧ l0 + z ≤ 64:=by omega
  cases fk2:Ty.okB t
  case false=>
   have Ffk2:=Lib.hid fk2;clear fk2
   have s1_7:=f1.q 1 s1_0
   have s2_8:=f1.q 2 s2_0
   have s3_9:=f1.q 3 s3_0
   refine go_reg [bx g1 35 (stC a),bx g2 31 (tyC t)] [] [some (.agg (stC a)),some (.int .i64 lo),some (.int .i64 hi),some (.int .i64 size),oT,oF,oF,some (.agg (tyC t)),oF,oT,oT,oT,oU,oU,oU,oT] mo f1.d f1.z f1.b (by kernel_rfl) ⟨b_g1,b_g2,trivial⟩ (
    hk (fun cx=>cx.q (ldSt rfl (cx.rq 5 u_g1) (cx.rn 0 rfl))) <|
    hk (fun cx=>cx.q (ex_mv rfl (cx.rq 1 s1_7))) <|
    hk (fun cx=>cx.q (ex_mv rfl (cx.rq 2 s2_8))) <|
    hk (fun cx=>cx.q (ex_mv rfl (cx.rq 3 s3_9))) <|
    hc (fun _ _ wx cx=>cx.c rfl (args4 (cx.u 0 rfl) (cx.u 1 rfl) (cx.u 2 rfl) (cx.u 3 rfl)) Try.func34 (by decide +kernel) (qplace_n a lo hi size wx) rfl (congrArg Value.bool Ffk1.out)) <|
    hk (fun cx=>cx.q (ex_not (x:=.tmp 17) rfl (cx.u 0 rfl))) <|
    kmu 0 <|
    hk (fun cx=>cx.vy 0 (ldTy rfl (cx.rq 9 u_g2) (cx.rn 1 rfl))) <|
    hc (fun _ _ wx cx=>cx.call (cx.wy rfl rfl rfl rfl (cx.u 1 rfl)) rfl rfl (args1 (cx.u 0 rfl)) Try.func18 (by decide +kernel) rfl (qtype_n t wx) rfl rfl (congrArg Value.bool Ffk2.out) rfl) <|
    hk (fun cx=>cx.vy 1 (ex_not (x:=.tmp 21) rfl (cx.u 0 rfl))) <|
    hk (fun cx=>cx.q (ex_pf rfl (cx.u 0 rfl) (cx.u 1 rfl))) <|
    kmu 0 <|
    kno 0 <|
    kno 1 <|
    kno 1 <|
    hk (fun cx=>cx.q (ex_pt rfl (cx.u 0 rfl) rfl)) <|
    hn) ?_
   intro a4 w4 f4
   refine wp_cond_true (f4.v 15 rfl rfl rfl) ?_
   refine wp_seq ?_
   have b_g3_10:=f4.k b_g3
   have s10_11:=f4.q 10 u_g3
   refine go_reg [⟨g3,35,(stC zS),some 1,(stC zS)⟩] [] [some (.agg (stC zS)),none,some (.int .i64 2)] mo f4.d f4.z f4.b (by kernel_rfl) ⟨b_g3_10,trivial⟩ (
    hk (fun cx=>cx.q (ex_zst rfl)) <|
    hk (fun cx=>cx.stR (wn rfl) rfl rfl 0 rfl (cx.rq 10 s10_11) (cx.u 0 rfl) (st_info _) ((stC_size _).trans (stC_size _).symm) (stC_one _) q_g3 rfl trivial trivial) <|
    hk (fun cx=>cx.q (ex_as rfl rfl)) <|
    hn) ?_
   intro a5 w5 f5
   refine wp_ret ?_
   have s10_12:=f5.q 10 s10_11
   try simp only [Exit.inBlock,Exit.then]
   refine bodyPost_ret (res_ct (fn:=Try.f10) rfl s10_12 (load_row 35 f5.rows.1 Try.underlying35 rfl (st_info _)) (f5.v 2 rfl rfl rfl)) f5.d ?_
   have HE:(.tuple #[.agg (stC zS),.int .i64 2]:Value)=.tuple #[.agg (stC (storeR a lo hi size t)),.int .i64 (storeE a lo hi size t)]:=by unfold storeR storeE storeB storeS exactB;simp only [Ffk1.out,Ffk2.out,Bool.false_and,Bool.true_and,Bool.and_false,Bool.and_true,Bool.true_or,Bool.or_true,Bool.false_or,Bool.or_false,Bool.not_true,Bool.not_false,if_true,if_false,Bool.false_eq_true]
   exact ⟨retV HE,f5.b⟩
  have Ffk2:=Lib.hid fk2;clear fk2
  cases fk3:t.kd == 0
  case false=>
   have Ffk3:=Lib.hid fk3;clear fk3
   have s1_13:=f1.q 1 s1_0
   have s2_14:=f1.q 2 s2_0
   have s3_15:=f1.q 3 s3_0
   refine go_reg [bx g1 35 (stC a),bx g2 31 (tyC t)] [] [some (.agg (stC a)),some (.int .i64 lo),some (.int .i64 hi),some (.int .i64 size),oT,oF,oF,some (.agg (tyC t)),oT,oF,oF,oF,some (pt g2 0),some (.int .i8 t.kd),oF,oF] mo f1.d f1.z f1.b (by kernel_rfl) ⟨b_g1,b_g2,trivial⟩ (
    hk (fun cx=>cx.q (ldSt rfl (cx.rq 5 u_g1) (cx.rn 0 rfl))) <|
    hk (fun cx=>cx.q (ex_mv rfl (cx.rq 1 s1_13))) <|
    hk (fun cx=>cx.q (ex_mv rfl (cx.rq 2 s2_14))) <|
    hk (fun cx=>cx.q (ex_mv rfl (cx.rq 3 s3_15))) <|
    hc (fun _ _ wx cx=>cx.c rfl (args4 (cx.u 0 rfl) (cx.u 1 rfl) (cx.u 2 rfl) (cx.u 3 rfl)) Try.func34 (by decide +kernel) (qplace_n a lo hi size wx) rfl (congrArg Value.bool Ffk1.out)) <|
    hk (fun cx=>cx.q (ex_not (x:=.tmp 17) rfl (cx.u 0 rfl))) <|
    kmu 0 <|
    hk (fun cx=>cx.vy 0 (ldTy rfl (cx.rq 9 u_g2) (cx.rn 1 rfl))) <|
    hc (fun _ _ wx cx=>cx.call (cx.wy rfl rfl rfl rfl (cx.u 1 rfl)) rfl rfl (args1 (cx.u 0 rfl)) Try.func18 (by decide +kernel) rfl (qtype_n t wx) rfl rfl (congrArg Value.bool Ffk2.out) rfl) <|
    hk (fun cx=>cx.vy 1 (ex_not (x:=.tmp 21) rfl (cx.u 0 rfl))) <|
    hk (fun cx=>cx.q (ex_pf rfl (cx.u 0 rfl) (cx.u 1 rfl))) <|
    kmu 0 <|
    hk (fun cx=>cx.vy 0 (ex_fa rfl (cx.rq 9 u_g2) (faStJ31_0_0 _ _))) <|
    hk (fun cx=>cx.vy 1 (ex_ld rfl (cx.u 0 rfl) (cx.rn 1 rfl) rfl Try.isAgg22)) <|
    hk (fun cx=>cx.vy 1 (ex_eq (x:=.tmp 26) rfl (cx.u 0 rfl) rfl) (congrArg Value.bool Ffk3.out)) <|
    hk (fun cx=>cx.q (ex_pf rfl (cx.u 0 rfl) (cx.u 1 rfl))) <|
    hn) ?_
   intro a6 w6 f6
   refine wp_cond_false (f6.v 15 rfl rfl rfl) ?_
   refine wp_skip ?_
   refine wp_seq ?_
   refine wp_seq ?_
   cases fk4:size == 8
   case false=>
    have Ffk4:=Lib.hid fk4;clear fk4
    have s3_16:=f6.q 3 s3_15
    refine go_reg [] [] [some (.int .i64 size),oF,oF,oU,oU,oU,oF,oF,oU,oU,oU,oF] mo f6.d f6.z f6.b (by kernel_rfl) trivial (
     hk (fun cx=>cx.q (ex_mv rfl (cx.rq 3 s3_16))) <|
     hk (fun cx=>cx.v (ex_eq (x:=.tmp 30) rfl (cx.u 0 rfl) rfl) rfl (congrArg Value.bool Ffk4.out)) <|
     kmu 0 <|
     kno 0 <|
     kno 0 <|
     kno 2 <|
     hk (fun cx=>cx.q (ex_pf rfl (cx.u 0 rfl) rfl)) <|
     kmu 0 <|
     kno 0 <|
     kno 1 <|
     kno 1 <|
     hk (fun cx=>cx.q (ex_pf rfl (cx.u 0 rfl) rfl)) <|
     hn) ?_
    intro a7 w7 f7
    refine wp_cond_false (f7.v 11 rfl rfl rfl) ?_
    refine wp_skip ?_
    refine wp_seq ?_
    refine wp_seq ?_
    have s1_17:=f7.q 1 (f6.q 1 s1_13)
    refine go_reg [] [] [some (.int .i64 lo),some (.int .i64 lo)] mo f7.d f7.z f7.b (by kernel_rfl) trivial (
     hk (fun cx=>cx.q (ex_mv rfl (cx.rq 1 s1_17))) <|
     kmu 0 <|
     hn) ?_
    intro a8 w8 f8
    refine wp_block ?_
    have neL1_0_1:=(ne_ptr (pairAt f1.ps 0 1 (by decide) rfl rfl) u_g1 u_g2)
    have neL1_0_2:=(ne_ptr (pairAt f1.ps 0 2 (by decide) rfl rfl) u_g1 u_g3)
    have neL1_1_2:=(ne_ptr (pairAt f1.ps 1 2 (by decide) rfl rfl) u_g2 u_g3)
    have s2_18:=f8.q 2 (f7.q 2 (f6.q 2 s2_14))
    have s3_19:=f8.q 3 (f7.q 3 s3_16)
    have s5_20:=f8.q 5 (f7.q 5 (f6.q 5 u_g1))
    have s10_21:=f8.q 10 (f7.q 10 (f6.q 10 u_g3))
    have s11_22:=f8.q 11 (f7.q 11 (f6.q 11 (f1.v 3 rfl rfl rfl)))
    have b_g1_23:=f8.k (f7.k (f6.k b_g1))
    have b_g2_24:=f8.k (f7.k (f6.k b_g2))
    have b_g3_25:=f8.k (f7.k (f6.k b_g3))
    refine wp_count z (fun k1 aI wI=>True ∧ Mid 62 W [(2,.int .i64 hi),(3,.int .i64 size),(5,.pointer (some ⟨g1,0,none⟩)),(10,.pointer (some ⟨g3,0,none⟩)),(11,.int .i64 0),(12,.int .i64 ((l0 + k1:Nat):Int))] [(g1,35,(stC (coverS a l0 k1))),(g2,31,(tyC t)),(g3,35,(stC zS))] aI wI) ⟨trivial,f8.d,f8.z,f8.b,⟨s2_18,s3_19,s5_20,s10_21,s11_22,((f8.v 1 rfl rfl rfl).trans (congrArg (Value.int .i64) (show lo=((l0 + 0:Nat):Int) by omega))),trivial⟩,⟨(row_eq b_g1_23 (congrArg stC (cover_0 _ _).symm)),b_g2_24,b_g3_25,trivial⟩⟩ ?_
    intro k1 aL1 wL1 hlek1 hI1
    obtain ⟨hp1,dL1,zL1,BL1,⟨sL1_2,sL1_3,sL1_5,sL1_10,sL1_11,sL1_12,-⟩,⟨bL1_g1,bL1_g2,bL1_g3,-⟩⟩:=hI1
    replace sL1_2:aL1.tmps.getD 2 undef=.int .i64 hi:=sL1_2
    replace sL1_3:aL1.tmps.getD 3 undef=.int .i64 size:=sL1_3
    replace sL1_5:aL1.tmps.getD 5 undef=.pointer (some ⟨g1,0,none⟩):=sL1_5
    replace sL1_10:aL1.tmps.getD 10 undef=.pointer (some ⟨g3,0,none⟩):=sL1_10
    replace sL1_11:aL1.tmps.getD 11 undef=.int .i64 0:=sL1_11
    replace sL1_12:aL1.tmps.getD 12 undef=.int .i64 ((l0 + k1:Nat):Int):=sL1_12
    replace bL1_g1:wL1.heap[g1]?=some (.cells (stC (coverS a l0 k1)) 35 (0,0)):=bL1_g1
    replace bL1_g2:wL1.heap[g2]?=some (.cells (tyC t) 31 (0,0)):=bL1_g2
    replace bL1_g3:wL1.heap[g3]?=some (.cells (stC zS) 35 (0,0)):=bL1_g3
    refine wp_seq ?_
    refine wp_seq ?_
    cases fk5:decide (((l0 + k1:Nat):Int) < (hi + size))
    case true=>
     have Ffk5:=Lib.hid fk5;clear fk5
     have hlt1:k1 < z:=by have:=Ffk5.out;simp only [decide_eq_true_eq] at this;omega
     refine go_reg [] [] [some (.int .i64 ((l0 + k1:Nat):Int)),some (.int .i64 hi),some (.int .i64 size),some (.int .i64 (hi + size)),oT] mo dL1 zL1 BL1 (by kernel_rfl) trivial (
      hk (fun cx=>cx.q (ex_mv rfl (cx.rq 12 sL1_12))) <|
      hk (fun cx=>cx.q (ex_mv rfl (cx.rq 2 sL1_2))) <|
      hk (fun cx=>cx.q (ex_mv rfl (cx.rq 3 sL1_3))) <|
      hk (fun cx=>cx.v (ex_add (x:=.tmp 50) (y:=.tmp 51) rfl (cx.u 0 rfl) (cx.u 1 rfl)) rfl (congrArg (Value.int .i64) (by rw [IntKind.wrap_i64];omega))) <|
      hk (fun cx=>cx.v (ex_lt (x:=.tmp 49) (y:=.tmp 52) rfl (cx.u 0 rfl) (cx.u 1 rfl)) rfl (congrArg Value.bool Ffk5.out)) <|
      hn) ?_
     intro a9 w9 f9
     refine wp_cond_true (f9.v 4 rfl rfl rfl) ?_
     refine wp_skip ?_
     refine wp_seq ?_
     refine wp_block ?_
     have b_g1_26:=f9.k bL1_g1
     have s12_27:=f9.q 12 sL1_12
     have s5_28:=f9.q 5 sL1_5
     refine go_reg [⟨g1,35,(stC (coverS a l0 k1)),some 5,(stC (upS (coverS a l0 k1) (11 + ((l0 + k1) / 8)) allT))⟩] [] [some (.int .i64 ((l0 + k1:Nat):Int)),some (.int .i64 (((l0 + k1) / 8:Nat):Int)),some (.agg (tyC allT)),some (pt g1 99),some (pt g1 (9 * (11 + ((l0 + k1) / 8)))),none] mo f9.d f9.z f9.b (by kernel_rfl) ⟨b_g1_26,trivial⟩ (
      hk (fun cx=>cx.q (ex_mv rfl (cx.rq 12 s12_27))) <|
      hk (fun cx=>cx.v ((ex_quo (x:=.tmp 56) rfl (cx.u 0 rfl) rfl (by omega) (by decide) (by omega)).trans (by rw [show ((l0 + k1:Nat):Int) / 8=(((l0 + k1) / 8:Nat):Int) by omega])) rfl rfl) <|
      hc (fun _ _ wx cx=>cx.c rfl (args0 ) Try.func14 (by decide +kernel) (qscalar_n wx) rfl rfl) <|
      hk (fun cx=>cx.q (ex_fa rfl (cx.rq 5 s5_28) (faStJ35_1_0 _ _))) <|
      hk (fun cx=>cx.v (ex_ia (n:=8) (sz:=9) rfl (cx.u 0 rfl) (cx.u 1 rfl) Try.underlying33 (by kernel_rfl) (by omega) (by omega) (by omega)) rfl rfl) <|
      hk (fun cx=>cx.stP (wn rfl) rfl rfl 0 rfl (cx.u 0 rfl) (cx.u 1 rfl) (tyC_one _) (by kernel_rfl) (by rw [stC_size];show _ + 9 ≤ _;omega) (stC_set _ (by omega) _) q_g1 rfl trivial trivial) <|
      hn) ?_
     intro a10 w10 f10
     have s12_29:=f10.q 12 s12_27
     refine go_reg [] [] [some (.int .i64 ((l0 + k1:Nat):Int)),some (.int .i64 ((l0 + (k1 + 1):Nat):Int)),some (.int .i64 ((l0 + (k1 + 1):Nat):Int))] mo f10.d f10.z f10.b (by kernel_rfl) trivial (
      hk (fun cx=>cx.q (ex_mv rfl (cx.un 2 rfl rfl (by kernel_rfl) s12_29))) <|
      hk (fun cx=>cx.v (ex_add (x:=.tmp 54) rfl (cx.u 0 rfl) rfl) rfl (congrArg (Value.int .i64) (by rw [IntKind.wrap_i64];omega))) <|
      kmu 0 <|
      hn) ?_
     intro a11 w11 f11
     have s2_30:=f11.q 2 (f10.q 2 (f9.q 2 sL1_2))
     have s3_31:=f11.q 3 (f10.q 3 (f9.q 3 sL1_3))
     have s5_32:=f11.q 5 (f10.q 5 s5_28)
     have s10_33:=f11.q 10 (f10.q 10 (f9.q 10 sL1_10))
     have s11_34:=f11.q 11 (f10.q 11 (f9.q 11 sL1_11))
     have b_g1_35:=f11.k f10.rows.1
     have b_g2_36:=f11.k (f10.kp (f9.k bL1_g2) ⟨.inr neL1_0_1.symm,trivial⟩)
     have b_g3_37:=f11.k (f10.kp (f9.k bL1_g3) ⟨.inr neL1_0_2.symm,trivial⟩)
     exact ⟨hlt1,trivial,f11.d,f11.z,f11.b,⟨s2_30,s3_31,s5_32,s10_33,s11_34,(f11.v 2 rfl rfl rfl),trivial⟩,⟨(row_eq b_g1_35 (congrArg stC (cover_step _ _ _))),b_g2_36,b_g3_37,trivial⟩⟩
    have Ffk5:=Lib.hid fk5;clear fk5
    have hge1:k1=z:=by have:=Ffk5.out;simp only [decide_eq_false_iff_not] at this;omega
    refine go_reg [] [] [some (.int .i64 ((l0 + k1:Nat):Int)),some (.int .i64 hi),some (.int .i64 size),some (.int .i64 (hi + size)),oF] mo dL1 zL1 BL1 (by kernel_rfl) trivial (
     hk (fun cx=>cx.q (ex_mv rfl (cx.rq 12 sL1_12))) <|
     hk (fun cx=>cx.q (ex_mv rfl (cx.rq 2 sL1_2))) <|
     hk (fun cx=>cx.q (ex_mv rfl (cx.rq 3 sL1_3))) <|
     hk (fun cx=>cx.v (ex_add (x:=.tmp 50) (y:=.tmp 51) rfl (cx.u 0 rfl) (cx.u 1 rfl)) rfl (congrArg (Value.int .i64) (by rw [IntKind.wrap_i64];omega))) <|
     hk (fun cx=>cx.v (ex_lt (x:=.tmp 49) (y:=.tmp 52) rfl (cx.u 0 rfl) (cx.u 1 rfl)) rfl (congrArg Value.bool Ffk5.out)) <|
     hn) ?_
    intro a12 w12 f12
    refine wp_cond_false (f12.v 4 rfl rfl rfl) ?_
    refine wp_exit ?_
    simp only [Exit.then,Exit.inBlock,if_true]
    refine wp_seq ?_
    have b_g1_38:=f12.k bL1_g1
    have b_g3_39:=f12.k bL1_g3
    have s5_40:=f12.q 5 sL1_5
    have s10_41:=f12.q 10 sL1_10
    refine go_reg [bx g1 35 (stC (coverS a l0 k1)),⟨g3,35,(stC zS),some 1,(stC (coverS a l0 k1))⟩] [] [some (.agg (stC (coverS a l0 k1))),none,some (.int .i64 0)] mo f12.d f12.z f12.b (by kernel_rfl) ⟨b_g1_38,b_g3_39,trivial⟩ (
     hk (fun cx=>cx.q (ldSt rfl (cx.rq 5 s5_40) (cx.rn 0 rfl))) <|
     hk (fun cx=>cx.stR (wn rfl) rfl rfl 1 rfl (cx.rq 10 s10_41) (cx.u 0 rfl) (st_info _) ((stC_size _).trans (stC_size _).symm) (stC_one _) q_g3 rfl ⟨neL1_0_2,trivial⟩ trivial) <|
     hk (fun cx=>cx.q (ex_as rfl rfl)) <|
     hn) ?_
    intro a13 w13 f13
    refine wp_ret ?_
    have s10_42:=f13.q 10 s10_41
    try simp only [Exit.inBlock,Exit.then]
    refine bodyPost_ret (res_ct (fn:=Try.f10) rfl s10_42 (load_row 35 f13.rows.2.1 Try.underlying35 rfl (st_info _)) (f13.v 2 rfl rfl rfl)) f13.d ?_
    have hu:Ty.unB t=false:=Ffk3.out
    have HB:storeB a lo hi size t=true:=by unfold storeB;simp only [Ffk1.out,Ffk2.out,hu,Bool.not_false,Bool.true_and]
    have hex:exactB lo hi size=false:=by unfold exactB;simp only [Ffk4.out,Bool.false_and,Bool.true_and,Bool.and_false,Bool.and_true,Bool.true_or,Bool.or_true,Bool.false_or,Bool.or_false]
    have HS:coverS a l0 k1=storeR a lo hi size t:=by unfold storeR storeS;simp only [HB,hex,if_true,if_false,Bool.false_eq_true];rw [hge1];exact cover_end a hz.1 el ez
    have HE:(.tuple #[.agg (stC (coverS a l0 k1)),.int .i64 0]:Value)=.tuple #[.agg (stC (storeR a lo hi size t)),.int .i64 (storeE a lo hi size t)]:=by rw [HS];unfold storeE;rw [HB];rfl
    exact ⟨retV HE,f13.b⟩
   have Ffk4:=Lib.hid fk4;clear fk4
   have h8:=yb Ffk4.out
   cases fk6:lo == hi
   case false=>
    have Ffk6:=Lib.hid fk6;clear fk6
    have s3_43:=f6.q 3 s3_15
    have s1_44:=f6.q 1 s1_13
    have s2_45:=f6.q 2 s2_14
    refine go_reg [] [] [some (.int .i64 size),oT,oT,some (.int .i64 lo),some (.int .i64 hi),oF,oF,oF,oU,oU,oU,oF] mo f6.d f6.z f6.b (by kernel_rfl) trivial (
     hk (fun cx=>cx.q (ex_mv rfl (cx.rq 3 s3_43))) <|
     hk (fun cx=>cx.v (ex_eq (x:=.tmp 30) rfl (cx.u 0 rfl) rfl) rfl (congrArg Value.bool Ffk4.out)) <|
     kmu 0 <|
     hk (fun cx=>cx.vy 0 (ex_mv rfl (cx.rq 1 s1_44))) <|
     hk (fun cx=>cx.vy 0 (ex_mv rfl (cx.rq 2 s2_45))) <|
     hk (fun cx=>cx.vy 2 (ex_eq (x:=.tmp 33) (y:=.tmp 34) rfl (cx.u 0 rfl) (cx.u 1 rfl)) (congrArg Value.bool Ffk6.out)) <|
     hk (fun cx=>cx.q (ex_pt rfl (cx.u 0 rfl) (cx.u 1 rfl))) <|
     kmu 0 <|
     kno 0 <|
     kno 1 <|
     kno 1 <|
     hk (fun cx=>cx.q (ex_pf rfl (cx.u 0 rfl) rfl)) <|
     hn) ?_
    intro a14 w14 f14
    refine wp_cond_false (f14.v 11 rfl rfl rfl) ?_
    refine wp_skip ?_
    refine wp_seq ?_
    refine wp_seq ?_
    have s1_46:=f14.q 1 s1_44
    refine go_reg [] [] [some (.int .i64 lo),some (.int .i64 lo)] mo f14.d f14.z f14.b (by kernel_rfl) trivial (
     hk (fun cx=>cx.q (ex_mv rfl (cx.rq 1 s1_46))) <|
     kmu 0 <|
     hn) ?_
    intro a15 w15 f15
    refine wp_block ?_
    have neL2_0_1:=(ne_ptr (pairAt f1.ps 0 1 (by decide) rfl rfl) u_g1 u_g2)
    have neL2_0_2:=(ne_ptr (pairAt f1.ps 0 2 (by decide) rfl rfl) u_g1 u_g3)
    have neL2_1_2:=(ne_ptr (pairAt f1.ps 1 2 (by decide) rfl rfl) u_g2 u_g3)
    have s2_47:=f15.q 2 (f14.q 2 s2_45)
    have s3_48:=f15.q 3 (f14.q 3 s3_43)
    have s5_49:=f15.q 5 (f14.q 5 (f6.q 5 u_g1))
    have s10_50:=f15.q 10 (f14.q 10 (f6.q 10 u_g3))
    have s11_51:=f15.q 11 (f14.q 11 (f6.q 11 (f1.v 3 rfl rfl rfl)))
    have b_g1_52:=f15.k (f14.k (f6.k b_g1))
    have b_g2_53:=f15.k (f14.k (f6.k b_g2))
    have b_g3_54:=f15.k (f14.k (f6.k b_g3))
    refine wp_count z (fun k1 aI wI=>True ∧ Mid 62 W [(2,.int .i64 hi),(3,.int .i64 size),(5,.pointer (some ⟨g1,0,none⟩)),(10,.pointer (some ⟨g3,0,none⟩)),(11,.int .i64 0),(12,.int .i64 ((l0 + k1:Nat):Int))] [(g1,35,(stC (coverS a l0 k1))),(g2,31,(tyC t)),(g3,35,(stC zS))] aI wI) ⟨trivial,f15.d,f15.z,f15.b,⟨s2_47,s3_48,s5_49,s10_50,s11_51,((f15.v 1 rfl rfl rfl).trans (congrArg (Value.int .i64) (show lo=((l0 + 0:Nat):Int) by omega))),trivial⟩,⟨(row_eq b_g1_52 (congrArg stC (cover_0 _ _).symm)),b_g2_53,b_g3_54,trivial⟩⟩ ?_
    intro k1 aL2 wL2 hlek1 hI2
    obtain ⟨hp1,dL2,zL2,BL2,⟨sL2_2,sL2_3,sL2_5,sL2_10,sL2_11,sL2_12,-⟩,⟨bL2_g1,bL2_g2,bL2_g3,-⟩⟩:=hI2
    replace sL2_2:aL2.tmps.getD 2 undef=.int .i64 hi:=sL2_2
    replace sL2_3:aL2.tmps.getD 3 undef=.int .i64 size:=sL2_3
    replace sL2_5:aL2.tmps.getD 5 undef=.pointer (some ⟨g1,0,none⟩):=sL2_5
    replace sL2_10:aL2.tmps.getD 10 undef=.pointer (some ⟨g3,0,none⟩):=sL2_10
    replace sL2_11:aL2.tmps.getD 11 undef=.int .i64 0:=sL2_11
    replace sL2_12:aL2.tmps.getD 12 undef=.int .i64 ((l0 + k1:Nat):Int):=sL2_12
    replace bL2_g1:wL2.heap[g1]?=some (.cells (stC (coverS a l0 k1)) 35 (0,0)):=bL2_g1
    replace bL2_g2:wL2.heap[g2]?=some (.cells (tyC t) 31 (0,0)):=bL2_g2
    replace bL2_g3:wL2.heap[g3]?=some (.cells (stC zS) 35 (0,0)):=bL2_g3
    refine wp_seq ?_
    refine wp_seq ?_
    cases fk7:decide (((l0 + k1:Nat):Int) < (hi + size))
    case true=>
     have Ffk7:=Lib.hid fk7;clear fk7
     have hlt1:k1 < z:=by have:=Ffk7.out;simp only [decide_eq_true_eq] at this;omega
     refine go_reg [] [] [some (.int .i64 ((l0 + k1:Nat):Int)),some (.int .i64 hi),some (.int .i64 size),some (.int .i64 (hi + size)),oT] mo dL2 zL2 BL2 (by kernel_rfl) trivial (
      hk (fun cx=>cx.q (ex_mv rfl (cx.rq 12 sL2_12))) <|
      hk (fun cx=>cx.q (ex_mv rfl (cx.rq 2 sL2_2))) <|
      hk (fun cx=>cx.q (ex_mv rfl (cx.rq 3 sL2_3))) <|
      hk (fun cx=>cx.v (ex_add (x:=.tmp 50) (y:=.tmp 51) rfl (cx.u 0 rfl) (cx.u 1 rfl)) rfl (congrArg (Value.int .i64) (by rw [IntKind.wrap_i64];omega))) <|
      hk (fun cx=>cx.v (ex_lt (x:=.tmp 49) (y:=.tmp 52) rfl (cx.u 0 rfl) (cx.u 1 rfl)) rfl (congrArg Value.bool Ffk7.out)) <|
      hn) ?_
     intro a16 w16 f16
     refine wp_cond_true (f16.v 4 rfl rfl rfl) ?_
     refine wp_skip ?_
     refine wp_seq ?_
     refine wp_block ?_
     have b_g1_55:=f16.k bL2_g1
     have s12_56:=f16.q 12 sL2_12
     have s5_57:=f16.q 5 sL2_5
     refine go_reg [⟨g1,35,(stC (coverS a l0 k1)),some 5,(stC (upS (coverS a l0 k1) (11 + ((l0 + k1) / 8)) allT))⟩] [] [some (.int .i64 ((l0 + k1:Nat):Int)),some (.int .i64 (((l0 + k1) / 8:Nat):Int)),some (.agg (tyC allT)),some (pt g1 99),some (pt g1 (9 * (11 + ((l0 + k1) / 8)))),none] mo f16.d f16.z f16.b (by kernel_rfl) ⟨b_g1_55,trivial⟩ (
      hk (fun cx=>cx.q (ex_mv rfl (cx.rq 12 s12_56))) <|
      hk (fun cx=>cx.v ((ex_quo (x:=.tmp 56) rfl (cx.u 0 rfl) rfl (by omega) (by decide) (by omega)).trans (by rw [show ((l0 + k1:Nat):Int) / 8=(((l0 + k1) / 8:Nat):Int) by omega])) rfl rfl) <|
      hc (fun _ _ wx cx=>cx.c rfl (args0 ) Try.func14 (by decide +kernel) (qscalar_n wx) rfl rfl) <|
      hk (fun cx=>cx.q (ex_fa rfl (cx.rq 5 s5_57) (faStJ35_1_0 _ _))) <|
      hk (fun cx=>cx.v (ex_ia (n:=8) (sz:=9) rfl (cx.u 0 rfl) (cx.u 1 rfl) Try.underlying33 (by kernel_rfl) (by omega) (by omega) (by omega)) rfl rfl) <|
      hk (fun cx=>cx.stP (wn rfl) rfl rfl 0 rfl (cx.u 0 rfl) (cx.u 1 rfl) (tyC_one _) (by kernel_rfl) (by rw [stC_size];show _ + 9 ≤ _;omega) (stC_set _ (by omega) _) q_g1 rfl trivial trivial) <|
      hn) ?_
     intro a17 w17 f17
     have s12_58:=f17.q 12 s12_56
     refine go_reg [] [] [some (.int .i64 ((l0 + k1:Nat):Int)),some (.int .i64 ((l0 + (k1 + 1):Nat):Int)),some (.int .i64 ((l0 + (k1 + 1):Nat):Int))] mo f17.d f17.z f17.b (by kernel_rfl) trivial (
      hk (fun cx=>cx.q (ex_mv rfl (cx.un 2 rfl rfl (by kernel_rfl) s12_58))) <|
      hk (fun cx=>cx.v (ex_add (x:=.tmp 54) rfl (cx.u 0 rfl) rfl) rfl (congrArg (Value.int .i64) (by rw [IntKind.wrap_i64];omega))) <|
      kmu 0 <|
      hn) ?_
     intro a18 w18 f18
     have s2_59:=f18.q 2 (f17.q 2 (f16.q 2 sL2_2))
     have s3_60:=f18.q 3 (f17.q 3 (f16.q 3 sL2_3))
     have s5_61:=f18.q 5 (f17.q 5 s5_57)
     have s10_62:=f18.q 10 (f17.q 10 (f16.q 10 sL2_10))
     have s11_63:=f18.q 11 (f17.q 11 (f16.q 11 sL2_11))
     have b_g1_64:=f18.k f17.rows.1
     have b_g2_65:=f18.k (f17.kp (f16.k bL2_g2) ⟨.inr neL2_0_1.symm,trivial⟩)
     have b_g3_66:=f18.k (f17.kp (f16.k bL2_g3) ⟨.inr neL2_0_2.symm,trivial⟩)
     exact ⟨hlt1,trivial,f18.d,f18.z,f18.b,⟨s2_59,s3_60,s5_61,s10_62,s11_63,(f18.v 2 rfl rfl rfl),trivial⟩,⟨(row_eq b_g1_64 (congrArg stC (cover_step _ _ _))),b_g2_65,b_g3_66,trivial⟩⟩
    have Ffk7:=Lib.hid fk7;clear fk7
    have hge1:k1=z:=by have:=Ffk7.out;simp only [decide_eq_false_iff_not] at this;omega
    refine go_reg [] [] [some (.int .i64 ((l0 + k1:Nat):Int)),some (.int .i64 hi),some (.int .i64 size),some (.int .i64 (hi + size)),oF] mo dL2 zL2 BL2 (by kernel_rfl) trivial (
     hk (fun cx=>cx.q (ex_mv rfl (cx.rq 12 sL2_12))) <|
     hk (fun cx=>cx.q (ex_mv rfl (cx.rq 2 sL2_2))) <|
     hk (fun cx=>cx.q (ex_mv rfl (cx.rq 3 sL2_3))) <|
     hk (fun cx=>cx.v (ex_add (x:=.tmp 50) (y:=.tmp 51) rfl (cx.u 0 rfl) (cx.u 1 rfl)) rfl (congrArg (Value.int .i64) (by rw [IntKind.wrap_i64];omega))) <|
     hk (fun cx=>cx.v (ex_lt (x:=.tmp 49) (y:=.tmp 52) rfl (cx.u 0 rfl) (cx.u 1 rfl)) rfl (congrArg Value.bool Ffk7.out)) <|
     hn) ?_
    intro a19 w19 f19
    refine wp_cond_false (f19.v 4 rfl rfl rfl) ?_
    refine wp_exit ?_
    simp only [Exit.then,Exit.inBlock,if_true]
    refine wp_seq ?_
    have b_g1_67:=f19.k bL2_g1
    have b_g3_68:=f19.k bL2_g3
    have s5_69:=f19.q 5 sL2_5
    have s10_70:=f19.q 10 sL2_10
    refine go_reg [bx g1 35 (stC (coverS a l0 k1)),⟨g3,35,(stC zS),some 1,(stC (coverS a l0 k1))⟩] [] [some (.agg (stC (coverS a l0 k1))),none,some (.int .i64 0)] mo f19.d f19.z f19.b (by kernel_rfl) ⟨b_g1_67,b_g3_68,trivial⟩ (
     hk (fun cx=>cx.q (ldSt rfl (cx.rq 5 s5_69) (cx.rn 0 rfl))) <|
     hk (fun cx=>cx.stR (wn rfl) rfl rfl 1 rfl (cx.rq 10 s10_70) (cx.u 0 rfl) (st_info _) ((stC_size _).trans (stC_size _).symm) (stC_one _) q_g3 rfl ⟨neL2_0_2,trivial⟩ trivial) <|
     hk (fun cx=>cx.q (ex_as rfl rfl)) <|
     hn) ?_
    intro a20 w20 f20
    refine wp_ret ?_
    have s10_71:=f20.q 10 s10_70
    try simp only [Exit.inBlock,Exit.then]
    refine bodyPost_ret (res_ct (fn:=Try.f10) rfl s10_71 (load_row 35 f20.rows.2.1 Try.underlying35 rfl (st_info _)) (f20.v 2 rfl rfl rfl)) f20.d ?_
    have hu:Ty.unB t=false:=Ffk3.out
    have HB:storeB a lo hi size t=true:=by unfold storeB;simp only [Ffk1.out,Ffk2.out,hu,Bool.not_false,Bool.true_and]
    have hex:exactB lo hi size=false:=by unfold exactB;simp only [Ffk4.out,Ffk6.out,Bool.false_and,Bool.true_and,Bool.and_false,Bool.and_true,Bool.true_or,Bool.or_true,Bool.false_or,Bool.or_false]
    have HS:coverS a l0 k1=storeR a lo hi size t:=by unfold storeR storeS;simp only [HB,hex,if_true,if_false,Bool.false_eq_true];rw [hge1];exact cover_end a hz.1 el ez
    have HE:(.tuple #[.agg (stC (coverS a l0 k1)),.int .i64 0]:Value)=.tuple #[.agg (stC (storeR a lo hi size t)),.int .i64 (storeE a lo hi size t)]:=by rw [HS];unfold storeE;rw [HB];rfl
    exact ⟨retV HE,f20.b⟩
   have Ffk6:=Lib.hid fk6;clear fk6
   have hlh:=yb Ffk6.out
   cases fk8:(lo % 8) == 0
   case false=>
    have Ffk8:=Lib.hid fk8;clear fk8
    have s3_72:=f6.q 3 s3_15
    have s1_73:=f6.q 1 s1_13
    have s2_74:=f6.q 2 s2_14
    refine go_reg [] [] [some (.int .i64 size),oT,oT,some (.int .i64 lo),some (.int .i64 hi),oT,oT,oT,some (.int .i64 lo),some (.int .i64 (lo % 8)),oF,oF] mo f6.d f6.z f6.b (by kernel_rfl) trivial (
     hk (fun cx=>cx.q (ex_mv rfl (cx.rq 3 s3_72))) <|
     hk (fun cx=>cx.v (ex_eq (x:=.tmp 30) rfl (cx.u 0 rfl) rfl) rfl (congrArg Value.bool Ffk4.out)) <|
     kmu 0 <|
     hk (fun cx=>cx.vy 0 (ex_mv rfl (cx.rq 1 s1_73))) <|
     hk (fun cx=>cx.vy 0 (ex_mv rfl (cx.rq 2 s2_74))) <|
     hk (fun cx=>cx.vy 2 (ex_eq (x:=.tmp 33) (y:=.tmp 34) rfl (cx.u 0 rfl) (cx.u 1 rfl)) (congrArg Value.bool Ffk6.out)) <|
     hk (fun cx=>cx.q (ex_pt rfl (cx.u 0 rfl) (cx.u 1 rfl))) <|
     kmu 0 <|
     hk (fun cx=>cx.vy 0 (ex_mv rfl (cx.rq 1 s1_73))) <|
     hk (fun cx=>cx.vy 1 (ex_rem8 (x:=.tmp 38) rfl (cx.u 0 rfl) rfl (by omega)) rfl) <|
     hk (fun cx=>cx.vy 1 (ex_eq (x:=.tmp 39) rfl (cx.u 0 rfl) rfl) (congrArg Value.bool Ffk8.out)) <|
     hk (fun cx=>cx.q (ex_pt rfl (cx.u 0 rfl) (cx.u 1 rfl))) <|
     hn) ?_
    intro a21 w21 f21
    refine wp_cond_false (f21.v 11 rfl rfl rfl) ?_
    refine wp_skip ?_
    refine wp_seq ?_
    refine wp_seq ?_
    have s1_75:=f21.q 1 s1_73
    refine go_reg [] [] [some (.int .i64 lo),some (.int .i64 lo)] mo f21.d f21.z f21.b (by kernel_rfl) trivial (
     hk (fun cx=>cx.q (ex_mv rfl (cx.rq 1 s1_75))) <|
     kmu 0 <|
     hn) ?_
    intro a22 w22 f22
    refine wp_block ?_
    have neL3_0_1:=(ne_ptr (pairAt f1.ps 0 1 (by decide) rfl rfl) u_g1 u_g2)
    have neL3_0_2:=(ne_ptr (pairAt f1.ps 0 2 (by decide) rfl rfl) u_g1 u_g3)
    have neL3_1_2:=(ne_ptr (pairAt f1.ps 1 2 (by decide) rfl rfl) u_g2 u_g3)
    have s2_76:=f22.q 2 (f21.q 2 s2_74)
    have s3_77:=f22.q 3 (f21.q 3 s3_72)
    have s5_78:=f22.q 5 (f21.q 5 (f6.q 5 u_g1))
    have s10_79:=f22.q 10 (f21.q 10 (f6.q 10 u_g3))
    have s11_80:=f22.q 11 (f21.q 11 (f6.q 11 (f1.v 3 rfl rfl rfl)))
    have b_g1_81:=f22.k (f21.k (f6.k b_g1))
    have b_g2_82:=f22.k (f21.k (f6.k b_g2))
    have b_g3_83:=f22.k (f21.k (f6.k b_g3))
    refine wp_count z (fun k1 aI wI=>True ∧ Mid 62 W [(2,.int .i64 hi),(3,.int .i64 size),(5,.pointer (some ⟨g1,0,none⟩)),(10,.pointer (some ⟨g3,0,none⟩)),(11,.int .i64 0),(12,.int .i64 ((l0 + k1:Nat):Int))] [(g1,35,(stC (coverS a l0 k1))),(g2,31,(tyC t)),(g3,35,(stC zS))] aI wI) ⟨trivial,f22.d,f22.z,f22.b,⟨s2_76,s3_77,s5_78,s10_79,s11_80,((f22.v 1 rfl rfl rfl).trans (congrArg (Value.int .i64) (show lo=((l0 + 0:Nat):Int) by omega))),trivial⟩,⟨(row_eq b_g1_81 (congrArg stC (cover_0 _ _).symm)),b_g2_82,b_g3_83,trivial⟩⟩ ?_
    intro k1 aL3 wL3 hlek1 hI3
    obtain ⟨hp1,dL3,zL3,BL3,⟨sL3_2,sL3_3,sL3_5,sL3_10,sL3_11,sL3_12,-⟩,⟨bL3_g1,bL3_g2,bL3_g3,-⟩⟩:=hI3
    replace sL3_2:aL3.tmps.getD 2 undef=.int .i64 hi:=sL3_2
    replace sL3_3:aL3.tmps.getD 3 undef=.int .i64 size:=sL3_3
    replace sL3_5:aL3.tmps.getD 5 undef=.pointer (some ⟨g1,0,none⟩):=sL3_5
    replace sL3_10:aL3.tmps.getD 10 undef=.pointer (some ⟨g3,0,none⟩):=sL3_10
    replace sL3_11:aL3.tmps.getD 11 undef=.int .i64 0:=sL3_11
    replace sL3_12:aL3.tmps.getD 12 undef=.int .i64 ((l0 + k1:Nat):Int):=sL3_12
    replace bL3_g1:wL3.heap[g1]?=some (.cells (stC (coverS a l0 k1)) 35 (0,0)):=bL3_g1
    replace bL3_g2:wL3.heap[g2]?=some (.cells (tyC t) 31 (0,0)):=bL3_g2
    replace bL3_g3:wL3.heap[g3]?=some (.cells (stC zS) 35 (0,0)):=bL3_g3
    refine wp_seq ?_
    refine wp_seq ?_
    cases fk9:decide (((l0 + k1:Nat):Int) < (hi + size))
    case true=>
     have Ffk9:=Lib.hid fk9;clear fk9
     have hlt1:k1 < z:=by have:=Ffk9.out;simp only [decide_eq_true_eq] at this;omega
     refine go_reg [] [] [some (.int .i64 ((l0 + k1:Nat):Int)),some (.int .i64 hi),some (.int .i64 size),some (.int .i64 (hi + size)),oT] mo dL3 zL3 BL3 (by kernel_rfl) trivial (
      hk (fun cx=>cx.q (ex_mv rfl (cx.rq 12 sL3_12))) <|
      hk (fun cx=>cx.q (ex_mv rfl (cx.rq 2 sL3_2))) <|
      hk (fun cx=>cx.q (ex_mv rfl (cx.rq 3 sL3_3))) <|
      hk (fun cx=>cx.v (ex_add (x:=.tmp 50) (y:=.tmp 51) rfl (cx.u 0 rfl) (cx.u 1 rfl)) rfl (congrArg (Value.int .i64) (by rw [IntKind.wrap_i64];omega))) <|
      hk (fun cx=>cx.v (ex_lt (x:=.tmp 49) (y:=.tmp 52) rfl (cx.u 0 rfl) (cx.u 1 rfl)) rfl (congrArg Value.bool Ffk9.out)) <|
      hn) ?_
     intro a23 w23 f23
     refine wp_cond_true (f23.v 4 rfl rfl rfl) ?_
     refine wp_skip ?_
     refine wp_seq ?_
     refine wp_block ?_
     have b_g1_84:=f23.k bL3_g1
     have s12_85:=f23.q 12 sL3_12
     have s5_86:=f23.q 5 sL3_5
     refine go_reg [⟨g1,35,(stC (coverS a l0 k1)),some 5,(stC (upS (coverS a l0 k1) (11 + ((l0 + k1) / 8)) allT))⟩] [] [some (.int .i64 ((l0 + k1:Nat):Int)),some (.int .i64 (((l0 + k1) / 8:Nat):Int)),some (.agg (tyC allT)),some (pt g1 99),some (pt g1 (9 * (11 + ((l0 + k1) / 8)))),none] mo f23.d f23.z f23.b (by kernel_rfl) ⟨b_g1_84,trivial⟩ (
      hk (fun cx=>cx.q (ex_mv rfl (cx.rq 12 s12_85))) <|
      hk (fun cx=>cx.v ((ex_quo (x:=.tmp 56) rfl (cx.u 0 rfl) rfl (by omega) (by decide) (by omega)).trans (by rw [show ((l0 + k1:Nat):Int) / 8=(((l0 + k1) / 8:Nat):Int) by omega])) rfl rfl) <|
      hc (fun _ _ wx cx=>cx.c rfl (args0 ) Try.func14 (by decide +kernel) (qscalar_n wx) rfl rfl) <|
      hk (fun cx=>cx.q (ex_fa rfl (cx.rq 5 s5_86) (faStJ35_1_0 _ _))) <|
      hk (fun cx=>cx.v (ex_ia (n:=8) (sz:=9) rfl (cx.u 0 rfl) (cx.u 1 rfl) Try.underlying33 (by kernel_rfl) (by omega) (by omega) (by omega)) rfl rfl) <|
      hk (fun cx=>cx.stP (wn rfl) rfl rfl 0 rfl (cx.u 0 rfl) (cx.u 1 rfl) (tyC_one _) (by kernel_rfl) (by rw [stC_size];show _ + 9 ≤ _;omega) (stC_set _ (by omega) _) q_g1 rfl trivial trivial) <|
      hn) ?_
     intro a24 w24 f24
     have s12_87:=f24.q 12 s12_85
     refine go_reg [] [] [some (.int .i64 ((l0 + k1:Nat):Int)),some (.int .i64 ((l0 + (k1 + 1):Nat):Int)),some (.int .i64 ((l0 + (k1 + 1):Nat):Int))] mo f24.d f24.z f24.b (by kernel_rfl) trivial (
      hk (fun cx=>cx.q (ex_mv rfl (cx.un 2 rfl rfl (by kernel_rfl) s12_87))) <|
      hk (fun cx=>cx.v (ex_add (x:=.tmp 54) rfl (cx.u 0 rfl) rfl) rfl (congrArg (Value.int .i64) (by rw [IntKind.wrap_i64];omega))) <|
      kmu 0 <|
      hn) ?_
     intro a25 w25 f25
     have s2_88:=f25.q 2 (f24.q 2 (f23.q 2 sL3_2))
     have s3_89:=f25.q 3 (f24.q 3 (f23.q 3 sL3_3))
     have s5_90:=f25.q 5 (f24.q 5 s5_86)
     have s10_91:=f25.q 10 (f24.q 10 (f23.q 10 sL3_10))
     have s11_92:=f25.q 11 (f24.q 11 (f23.q 11 sL3_11))
     have b_g1_93:=f25.k f24.rows.1
     have b_g2_94:=f25.k (f24.kp (f23.k bL3_g2) ⟨.inr neL3_0_1.symm,trivial⟩)
     have b_g3_95:=f25.k (f24.kp (f23.k bL3_g3) ⟨.inr neL3_0_2.symm,trivial⟩)
     exact ⟨hlt1,trivial,f25.d,f25.z,f25.b,⟨s2_88,s3_89,s5_90,s10_91,s11_92,(f25.v 2 rfl rfl rfl),trivial⟩,⟨(row_eq b_g1_93 (congrArg stC (cover_step _ _ _))),b_g2_94,b_g3_95,trivial⟩⟩
    have Ffk9:=Lib.hid fk9;clear fk9
    have hge1:k1=z:=by have:=Ffk9.out;simp only [decide_eq_false_iff_not] at this;omega
    refine go_reg [] [] [some (.int .i64 ((l0 + k1:Nat):Int)),some (.int .i64 hi),some (.int .i64 size),some (.int .i64 (hi + size)),oF] mo dL3 zL3 BL3 (by kernel_rfl) trivial (
     hk (fun cx=>cx.q (ex_mv rfl (cx.rq 12 sL3_12))) <|
     hk (fun cx=>cx.q (ex_mv rfl (cx.rq 2 sL3_2))) <|
     hk (fun cx=>cx.q (ex_mv rfl (cx.rq 3 sL3_3))) <|
     hk (fun cx=>cx.v (ex_add (x:=.tmp 50) (y:=.tmp 51) rfl (cx.u 0 rfl) (cx.u 1 rfl)) rfl (congrArg (Value.int .i64) (by rw [IntKind.wrap_i64];omega))) <|
     hk (fun cx=>cx.v (ex_lt (x:=.tmp 49) (y:=.tmp 52) rfl (cx.u 0 rfl) (cx.u 1 rfl)) rfl (congrArg Value.bool Ffk9.out)) <|
     hn) ?_
    intro a26 w26 f26
    refine wp_cond_false (f26.v 4 rfl rfl rfl) ?_
    refine wp_exit ?_
    simp only [Exit.then,Exit.inBlock,if_true]
    refine wp_seq ?_
    have b_g1_96:=f26.k bL3_g1
    have b_g3_97:=f26.k bL3_g3
    have s5_98:=f26.q 5 sL3_5
    have s10_99:=f26.q 10 sL3_10
    refine go_reg [bx g1 35 (stC (coverS a l0 k1)),⟨g3,35,(stC zS),some 1,(stC (coverS a l0 k1))⟩] [] [some (.agg (stC (coverS a l0 k1))),none,some (.int .i64 0)] mo f26.d f26.z f26.b (by kernel_rfl) ⟨b_g1_96,b_g3_97,trivial⟩ (
     hk (fun cx=>cx.q (ldSt rfl (cx.rq 5 s5_98) (cx.rn 0 rfl))) <|
     hk (fun cx=>cx.stR (wn rfl) rfl rfl 1 rfl (cx.rq 10 s10_99) (cx.u 0 rfl) (st_info _) ((stC_size _).trans (stC_size _).symm) (stC_one _) q_g3 rfl ⟨neL3_0_2,trivial⟩ trivial) <|
     hk (fun cx=>cx.q (ex_as rfl rfl)) <|
     hn) ?_
    intro a27 w27 f27
    refine wp_ret ?_
    have s10_100:=f27.q 10 s10_99
    try simp only [Exit.inBlock,Exit.then]
    refine bodyPost_ret (res_ct (fn:=Try.f10) rfl s10_100 (load_row 35 f27.rows.2.1 Try.underlying35 rfl (st_info _)) (f27.v 2 rfl rfl rfl)) f27.d ?_
    have hu:Ty.unB t=false:=Ffk3.out
    have HB:storeB a lo hi size t=true:=by unfold storeB;simp only [Ffk1.out,Ffk2.out,hu,Bool.not_false,Bool.true_and]
    have hex:exactB lo hi size=false:=by unfold exactB;simp only [Ffk4.out,Ffk6.out,Ffk8.out,Bool.false_and,Bool.true_and,Bool.and_false,Bool.and_true,Bool.true_or,Bool.or_true,Bool.false_or,Bool.or_false]
    have HS:coverS a l0 k1=storeR a lo hi size t:=by unfold storeR storeS;simp only [HB,hex,if_true,if_false,Bool.false_eq_true];rw [hge1];exact cover_end a hz.1 el ez
    have HE:(.tuple #[.agg (stC (coverS a l0 k1)),.int .i64 0]:Value)=.tuple #[.agg (stC (storeR a lo hi size t)),.int .i64 (storeE a lo hi size t)]:=by rw [HS];unfold storeE;rw [HB];rfl
    exact ⟨retV HE,f27.b⟩
   have Ffk8:=Lib.hid fk8;clear fk8
   have s3_101:=f6.q 3 s3_15
   have s1_102:=f6.q 1 s1_13
   have s2_103:=f6.q 2 s2_14
   refine go_reg [] [] [some (.int .i64 size),oT,oT,some (.int .i64 lo),some (.int .i64 hi),oT,oT,oT,some (.int .i64 lo),some (.int .i64 (lo % 8)),oT,oT] mo f6.d f6.z f6.b (by kernel_rfl) trivial (
    hk (fun cx=>cx.q (ex_mv rfl (cx.rq 3 s3_101))) <|
    hk (fun cx=>cx.v (ex_eq (x:=.tmp 30) rfl (cx.u 0 rfl) rfl) rfl (congrArg Value.bool Ffk4.out)) <|
    kmu 0 <|
    hk (fun cx=>cx.vy 0 (ex_mv rfl (cx.rq 1 s1_102))) <|
    hk (fun cx=>cx.vy 0 (ex_mv rfl (cx.rq 2 s2_103))) <|
    hk (fun cx=>cx.vy 2 (ex_eq (x:=.tmp 33) (y:=.tmp 34) rfl (cx.u 0 rfl) (cx.u 1 rfl)) (congrArg Value.bool Ffk6.out)) <|
    hk (fun cx=>cx.q (ex_pt rfl (cx.u 0 rfl) (cx.u 1 rfl))) <|
    kmu 0 <|
    hk (fun cx=>cx.vy 0 (ex_mv rfl (cx.rq 1 s1_102))) <|
    hk (fun cx=>cx.vy 1 (ex_rem8 (x:=.tmp 38) rfl (cx.u 0 rfl) rfl (by omega)) rfl) <|
    hk (fun cx=>cx.vy 1 (ex_eq (x:=.tmp 39) rfl (cx.u 0 rfl) rfl) (congrArg Value.bool Ffk8.out)) <|
    hk (fun cx=>cx.q (ex_pt rfl (cx.u 0 rfl) (cx.u 1 rfl))) <|
    hn) ?_
   intro a28 w28 f28
   refine wp_cond_true (f28.v 11 rfl rfl rfl) ?_
   refine wp_seq ?_
   have b_g2_104:=f28.k (f6.k b_g2)
   have b_g1_105:=f28.k (f6.k b_g1)
   have s1_106:=f28.q 1 s1_102
   have s9_107:=f28.q 9 (f6.q 9 u_g2)
   have s5_108:=f28.q 5 (f6.q 5 u_g1)
   refine go_reg [bx g2 31 (tyC t),⟨g1,35,(stC a),some 5,(stC (upS a (11 + (lo / 8).toNat) t))⟩] [] [some (.int .i64 lo),some (.int .i64 (lo / 8)),some (.agg (tyC t)),some (pt g1 99),some (pt g1 (9 * (11 + (lo / 8).toNat))),none] mo f28.d f28.z f28.b (by kernel_rfl) ⟨b_g2_104,b_g1_105,trivial⟩ (
    hk (fun cx=>cx.q (ex_mv rfl (cx.rq 1 s1_106))) <|
    hk (fun cx=>cx.v (ex_quo (x:=.tmp 42) rfl (cx.u 0 rfl) rfl (by omega) (by decide) (by omega)) rfl rfl) <|
    hk (fun cx=>cx.q (ldTy rfl (cx.rq 9 s9_107) (cx.rn 0 rfl))) <|
    hk (fun cx=>cx.q (ex_fa rfl (cx.rq 5 s5_108) (faStJ35_1_0 _ _))) <|
    hk (fun cx=>cx.v (ex_ia (n:=8) (sz:=9) rfl (cx.u 0 rfl) (cx.u 1 rfl) Try.underlying33 (by kernel_rfl) (by omega) (by omega) (by omega)) rfl rfl) <|
    hk (fun cx=>cx.stP (wn rfl) rfl rfl 1 rfl (cx.u 0 rfl) (cx.u 1 rfl) (tyC_one _) (by kernel_rfl) (by rw [stC_size];show _ + 9 ≤ _;omega) (stC_set _ (by omega) _) q_g1 rfl ⟨(ne_ptr (pairAt f1.ps 0 1 (by decide) rfl rfl) u_g1 u_g2).symm,trivial⟩ trivial) <|
    hn) ?_
   intro a29 w29 f29
   refine wp_seq ?_
   have b_g3_109:=f29.kp (f28.k (f6.k b_g3)) ⟨.inl rfl,.inr (ne_ptr (pairAt f1.ps 0 2 (by decide) rfl rfl) u_g1 u_g3).symm,trivial⟩
   have s5_110:=f29.q 5 s5_108
   have s10_111:=f29.q 10 (f28.q 10 (f6.q 10 u_g3))
   refine go_reg [bx g1 35 (stC (upS a (11 + (lo / 8).toNat) t)),⟨g3,35,(stC zS),some 1,(stC (upS a (11 + (lo / 8).toNat) t))⟩] [] [some (.agg (stC (upS a (11 + (lo / 8).toNat) t))),none,some (.int .i64 0)] mo f29.d f29.z f29.b (by kernel_rfl) ⟨f29.rows.2.1,b_g3_109,trivial⟩ (
    hk (fun cx=>cx.q (ldSt rfl (cx.rq 5 s5_110) (cx.rn 0 rfl))) <|
    hk (fun cx=>cx.stR (wn rfl) rfl rfl 1 rfl (cx.rq 10 s10_111) (cx.u 0 rfl) (st_info _) ((stC_size _).trans (stC_size _).symm) (stC_one _) q_g3 rfl ⟨(ne_ptr (pairAt f1.ps 0 2 (by decide) rfl rfl) u_g1 u_g3),trivial⟩ trivial) <|
    hk (fun cx=>cx.q (ex_as rfl rfl)) <|
    hn) ?_
   intro a30 w30 f30
   refine wp_ret ?_
   have s10_112:=f30.q 10 s10_111
   try simp only [Exit.inBlock,Exit.then]
   refine bodyPost_ret (res_ct (fn:=Try.f10) rfl s10_112 (load_row 35 f30.rows.2.1 Try.underlying35 rfl (st_info _)) (f30.v 2 rfl rfl rfl)) f30.d ?_
   have hu:Ty.unB t=false:=Ffk3.out
   have HE:(.tuple #[.agg (stC (upS a (11 + (lo / 8).toNat) t)),.int .i64 0]:Value)=.tuple #[.agg (stC (storeR a lo hi size t)),.int .i64 (storeE a lo hi size t)]:=by unfold storeR storeE storeB storeS exactB;simp only [Ffk1.out,Ffk2.out,Ffk4.out,Ffk6.out,Ffk8.out,hu,Bool.false_and,Bool.true_and,Bool.and_false,Bool.and_true,Bool.true_or,Bool.or_true,Bool.false_or,Bool.or_false,Bool.not_true,Bool.not_false,if_true,if_false,Bool.false_eq_true]
   exact ⟨retV HE,f30.b⟩
  have Ffk3:=Lib.hid fk3;clear fk3
  have s1_113:=f1.q 1 s1_0
  have s2_114:=f1.q 2 s2_0
  have s3_115:=f1.q 3 s3_0
  refine go_reg [bx g1 35 (stC a),bx g2 31 (tyC t)] [] [some (.agg (stC a)),some (.int .i64 lo),some (.int .i64 hi),some (.int .i64 size),oT,oF,oF,some (.agg (tyC t)),oT,oF,oF,oF,some (pt g2 0),some (.int .i8 t.kd),oT,oT] mo f1.d f1.z f1.b (by kernel_rfl) ⟨b_g1,b_g2,trivial⟩ (
   hk (fun cx=>cx.q (ldSt rfl (cx.rq 5 u_g1) (cx.rn 0 rfl))) <|
   hk (fun cx=>cx.q (ex_mv rfl (cx.rq 1 s1_113))) <|
   hk (fun cx=>cx.q (ex_mv rfl (cx.rq 2 s2_114))) <|
   hk (fun cx=>cx.q (ex_mv rfl (cx.rq 3 s3_115))) <|
   hc (fun _ _ wx cx=>cx.c rfl (args4 (cx.u 0 rfl) (cx.u 1 rfl) (cx.u 2 rfl) (cx.u 3 rfl)) Try.func34 (by decide +kernel) (qplace_n a lo hi size wx) rfl (congrArg Value.bool Ffk1.out)) <|
   hk (fun cx=>cx.q (ex_not (x:=.tmp 17) rfl (cx.u 0 rfl))) <|
   kmu 0 <|
   hk (fun cx=>cx.vy 0 (ldTy rfl (cx.rq 9 u_g2) (cx.rn 1 rfl))) <|
   hc (fun _ _ wx cx=>cx.call (cx.wy rfl rfl rfl rfl (cx.u 1 rfl)) rfl rfl (args1 (cx.u 0 rfl)) Try.func18 (by decide +kernel) rfl (qtype_n t wx) rfl rfl (congrArg Value.bool Ffk2.out) rfl) <|
   hk (fun cx=>cx.vy 1 (ex_not (x:=.tmp 21) rfl (cx.u 0 rfl))) <|
   hk (fun cx=>cx.q (ex_pf rfl (cx.u 0 rfl) (cx.u 1 rfl))) <|
   kmu 0 <|
   hk (fun cx=>cx.vy 0 (ex_fa rfl (cx.rq 9 u_g2) (faStJ31_0_0 _ _))) <|
   hk (fun cx=>cx.vy 1 (ex_ld rfl (cx.u 0 rfl) (cx.rn 1 rfl) rfl Try.isAgg22)) <|
   hk (fun cx=>cx.vy 1 (ex_eq (x:=.tmp 26) rfl (cx.u 0 rfl) rfl) (congrArg Value.bool Ffk3.out)) <|
   hk (fun cx=>cx.q (ex_pf rfl (cx.u 0 rfl) (cx.u 1 rfl))) <|
   hn) ?_
  intro a31 w31 f31
  refine wp_cond_true (f31.v 15 rfl rfl rfl) ?_
  refine wp_seq ?_
  have b_g3_116:=f31.k b_g3
  have s10_117:=f31.q 10 u_g3
  refine go_reg [⟨g3,35,(stC zS),some 1,(stC zS)⟩] [] [some (.agg (stC zS)),none,some (.int .i64 2)] mo f31.d f31.z f31.b (by kernel_rfl) ⟨b_g3_116,trivial⟩ (
   hk (fun cx=>cx.q (ex_zst rfl)) <|
   hk (fun cx=>cx.stR (wn rfl) rfl rfl 0 rfl (cx.rq 10 s10_117) (cx.u 0 rfl) (st_info _) ((stC_size _).trans (stC_size _).symm) (stC_one _) q_g3 rfl trivial trivial) <|
   hk (fun cx=>cx.q (ex_as rfl rfl)) <|
   hn) ?_
  intro a32 w32 f32
  refine wp_ret ?_
  have s10_118:=f32.q 10 s10_117
  try simp only [Exit.inBlock,Exit.then]
  refine bodyPost_ret (res_ct (fn:=Try.f10) rfl s10_118 (load_row 35 f32.rows.1 Try.underlying35 rfl (st_info _)) (f32.v 2 rfl rfl rfl)) f32.d ?_
  have hu:Ty.unB t=true:=Ffk3.out
  have HE:(.tuple #[.agg (stC zS),.int .i64 2]:Value)=.tuple #[.agg (stC (storeR a lo hi size t)),.int .i64 (storeE a lo hi size t)]:=by unfold storeR storeE storeB storeS exactB;simp only [Ffk1.out,Ffk2.out,hu,Bool.false_and,Bool.true_and,Bool.and_false,Bool.and_true,Bool.true_or,Bool.or_true,Bool.false_or,Bool.or_false,Bool.not_true,Bool.not_false,if_true,if_false,Bool.false_eq_true]
  exact ⟨retV HE,f32.b⟩
end Go.Proofs.Ytcnneeimkcnjfaa.Sta
