import Derived.Test.YtcnneeimkcnjfaaStE
namespace Go.Proofs.Ytcnneeimkcnjfaa.Sta
open Go.RowKit Bnd Knw
set_option linter.unusedVariables false
set_option linter.unusedSimpArgs false
set_option linter.unnecessarySimpa false
set_option maxRecDepth 100000
theorem faStF39_1_0 (g:Nat) (w:World):(Instr.fieldAt 39 (.pointer (some ⟨g,0,none⟩)) 1).run Try.prog w=.ok (.pointer (some ⟨g,11,none⟩)) w:=by simp [go_sem]
theorem faStF35_0_0 (g:Nat) (w:World):(Instr.fieldAt 35 (.pointer (some ⟨g,0,none⟩)) 0).run Try.prog w=.ok (.pointer (some ⟨g,0,none⟩)) w:=by simp [go_sem]
theorem faStF39_0_0 (g:Nat) (w:World):(Instr.fieldAt 39 (.pointer (some ⟨g,0,none⟩)) 0).run Try.prog w=.ok (.pointer (some ⟨g,0,none⟩)) w:=by simp [go_sem]
theorem faStF35_1_0 (g:Nat) (w:World):(Instr.fieldAt 35 (.pointer (some ⟨g,0,none⟩)) 1).run Try.prog w=.ok (.pointer (some ⟨g,99,none⟩)) w:=by simp [go_sem]
theorem faStF39_2_0 (g:Nat) (w:World):(Instr.fieldAt 39 (.pointer (some ⟨g,0,none⟩)) 2).run Try.prog w=.ok (.pointer (some ⟨g,12,none⟩)) w:=by simp [go_sem]
theorem get_sn (X:Snp) (k g:Nat) (W:World) (hX:X.Ok) (hk:k < 8) {fr:Nat × Nat} {T:TypeId} (hg:W.heap[g]?=some (.cells (snC X) T fr)):Calls Try.prog 47 #[.slice (some ⟨g,12 + 8 * k,none⟩) 8 (64 - 8 * k)] W fun e w'=>e=.returned (.int .u64 (V (X.slot k))) ∧ Below W.heap.size W w':=by
  refine (get_few g (12 + 8 * k) 8 (64 - 8 * k) (fun j=>X.f (8 * k + j)) W (by omega) (by omega) (by omega) (fun i hi=>hX.2 _ (by omega)) (fun i hi=>?_)).mono ?_
  · refine exec_load1 hg ?_
    rw [Nat.add_assoc]
    exact snL_byte X (show 8 * k + i < 64 by omega)
  · rintro e w' ⟨rfl,rfl⟩
    exact ⟨by rw [slot_V hX hk],Below.refl _ _⟩
section
variable {ρ:Operand → Value} {o:Oper} {w:World}
theorem ex_shri {t z:TypeId} {x y:Operand} (ho:o.op=.binOp .shr t x y z) {a:Int} {k:Nat} (hx:ρ x=.int .i64 a) (hy:ρ y=.int .i64 (k:Int)) (hk:k ≤ 62):(execOp ρ o).run Try.prog w=.ok (.value (.int .i64 (a / 2 ^ k))) w:=by
  have e1:¬ (k:Int) < 0:=by omega
  have e2:min k 64=k:=by omega
  simp [execOp,ho,hx,hy,go_sem,Op.shift,e1,e2]
theorem ex_sl {x y z:Operand} {g k:Nat} (ho:o.op=.slice 37 x (some y) (some z) none) (hx:ρ x=.pointer (some ⟨g,12,none⟩)) (hy:ρ y=.int .i64 ((8 * k:Nat):Int)) (hz:ρ z=.int .i64 ((8 * k + 8:Nat):Int)) (hk:k < 8):(execOp ρ o).run Try.prog w=.ok (.value (.slice (some ⟨g,12 + 8 * k,none⟩) 8 (64 - 8 * k))) w:=by
  have e1:¬ 64=8 * k:=by omega
  have e2:(8 * k:Nat) ≤ 8 * k + 8:=by omega
  have e3:8 * k + 8 ≤ 64:=by omega
  have e4:8 * k + 8 - 8 * k=8:=by omega
  simp [execOp,ho,hx,hy,hz,go_sem,Instr.sliceAt,run_underlying Try.underlying37,e1,e2,e3,e4]
  rw [if_pos ⟨by omega,by omega⟩,if_pos ⟨by omega,by omega⟩,show (8 * (k:Int)).toNat=8 * k by omega,show (8 * (k:Int) + 8).toNat=8 * k + 8 by omega,if_neg e1,e4]
end
set_option maxHeartbeats 4000000 in
theorem thas_n (a:St) (x:Snp) (W:World) (ha:OkS a) (hx:x.Ok):Calls Try.prog 21 #[.agg (stC a),.agg (snC x)] W fun e w'=>e=.returned (.bool (hasS a x)) ∧ Below W.heap.size W w':=by
  have HA:=Lib.hid ha
  have HX:=Lib.hid hx
  clear ha hx
  refine calls_abs Try.func21 rfl (Nat.le_of_ble_eq_true rfl) ?_
  intro a0 d0 z0 h0
  replace z0:a0.tmps.size=62:=z0
  have s0_0:a0.tmps.getD 0 undef=.agg (stC a):=h0 0 (Nat.le_of_ble_eq_true rfl)
  have s1_0:a0.tmps.getD 1 undef=.agg (snC x):=h0 1 (Nat.le_of_ble_eq_true rfl)
  refine wp_seq ?_
  refine go_reg [] [⟨0,2,35,(stC a),none,#[]⟩,⟨1,3,39,(snC x),none,#[]⟩] [none,none,oF] mo d0 z0 (Below.refl _ _) (by kernel_rfl) trivial (
   hk (fun cx=>cx.al (wn rfl) 0 rfl (ex_box rfl (cx.rq 0 s0_0) rfl) rfl rfl rfl rfl rfl trivial) <|
   hk (fun cx=>cx.al (wn rfl) 1 rfl (ex_box rfl (cx.rq 1 s1_0) rfl) rfl rfl rfl rfl rfl trivial) <|
   hk (fun cx=>cx.q (ex_as rfl rfl)) <|
   hn) ?_
  intro a1 w1 f1
  obtain ⟨g1,u_g1,q_g1,b_g1⟩:=f1.al.1
  obtain ⟨g2,u_g2,q_g2,b_g2⟩:=f1.al.2.1
  refine wp_seq ?_
  refine wp_seq ?_
  cases fk1:okS a
  case false=>
   have Ffk1:=Lib.hid fk1;clear fk1
   refine go_reg [bx g1 35 (stC a)] [] [some (.agg (stC a)),oF,oT] mo f1.d f1.z f1.b (by kernel_rfl) ⟨b_g1,trivial⟩ (
    hk (fun cx=>cx.q (ldSt rfl (cx.rq 2 u_g1) (cx.rn 0 rfl))) <|
    hc (fun _ _ wx cx=>cx.c rfl (args1 (cx.u 0 rfl)) Try.func15 (by decide +kernel) (tmay_n a wx) rfl (congrArg Value.bool Ffk1.out)) <|
    hk (fun cx=>cx.q (ex_not (x:=.tmp 10) rfl (cx.u 0 rfl))) <|
    hn) ?_
   intro a2 w2 f2
   refine wp_cond_true (f2.v 2 rfl rfl rfl) ?_
   refine wp_seq ?_
   refine go_reg [] [] [oF] mo f2.d f2.z f2.b (by kernel_rfl) trivial (
    hk (fun cx=>cx.q (ex_as rfl rfl)) <|
    hn) ?_
   intro a3 w3 f3
   refine wp_ret ?_
   try simp only [Exit.inBlock,Exit.then]
   refine bodyPost_ret (res_t (fn:=Try.f21) rfl (f3.v 0 rfl rfl rfl)) f3.d ?_
   have HE:(.bool false:Value)=.bool (hasS a x):=by unfold hasS;simp only [Ffk1.out,Bool.false_and,Bool.true_and]
   exact ⟨retV HE,f3.b⟩
  have Ffk1:=Lib.hid fk1;clear fk1
  refine go_reg [bx g1 35 (stC a)] [] [some (.agg (stC a)),oT,oF] mo f1.d f1.z f1.b (by kernel_rfl) ⟨b_g1,trivial⟩ (
   hk (fun cx=>cx.q (ldSt rfl (cx.rq 2 u_g1) (cx.rn 0 rfl))) <|
   hc (fun _ _ wx cx=>cx.c rfl (args1 (cx.u 0 rfl)) Try.func15 (by decide +kernel) (tmay_n a wx) rfl (congrArg Value.bool Ffk1.out)) <|
   hk (fun cx=>cx.q (ex_not (x:=.tmp 10) rfl (cx.u 0 rfl))) <|
   hn) ?_
  intro a4 w4 f4
  refine wp_cond_false (f4.v 2 rfl rfl rfl) ?_
  refine wp_skip ?_
  refine wp_seq ?_
  refine wp_seq ?_
  refine go_reg [] [] [some (.int .i64 0)] mo f4.d f4.z f4.b (by kernel_rfl) trivial (
   hk (fun cx=>cx.q (ex_mv rfl rfl)) <|
   hn) ?_
  intro a5 w5 f5
  refine wp_block ?_
  have neL1_0_1:=(ne_ptr (pairAt f1.ps 0 1 (by decide) rfl rfl) u_g1 u_g2)
  have s2_1:=f5.q 2 (f4.q 2 u_g1)
  have s3_2:=f5.q 3 (f4.q 3 u_g2)
  have b_g1_3:=f5.k (f4.k b_g1)
  have b_g2_4:=f5.k (f4.k b_g2)
  refine wp_count 11 (fun k1 aI wI=>allN (hasR a x) k1=true ∧ Mid 62 W [(2,.pointer (some ⟨g1,0,none⟩)),(3,.pointer (some ⟨g2,0,none⟩)),(12,.int .i64 (k1:Int))] [(g1,35,(stC a)),(g2,39,(snC x))] aI wI) ⟨rfl,f5.d,f5.z,f5.b,⟨s2_1,s3_2,(f5.v 0 rfl rfl rfl),trivial⟩,⟨b_g1_3,b_g2_4,trivial⟩⟩ ?_
  intro k1 aL1 wL1 hlek1 hI1
  obtain ⟨hp1,dL1,zL1,BL1,⟨sL1_2,sL1_3,sL1_12,-⟩,⟨bL1_g1,bL1_g2,-⟩⟩:=hI1
  replace sL1_2:aL1.tmps.getD 2 undef=.pointer (some ⟨g1,0,none⟩):=sL1_2
  replace sL1_3:aL1.tmps.getD 3 undef=.pointer (some ⟨g2,0,none⟩):=sL1_3
  replace sL1_12:aL1.tmps.getD 12 undef=.int .i64 (k1:Int):=sL1_12
  replace bL1_g1:wL1.heap[g1]?=some (.cells (stC a) 35 (0,0)):=bL1_g1
  replace bL1_g2:wL1.heap[g2]?=some (.cells (snC x) 39 (0,0)):=bL1_g2
  refine wp_seq ?_
  cases fk2:decide ((k1:Int) < 11)
  case true=>
   have Ffk2:=Lib.hid fk2;clear fk2
   have hlt1:k1 < 11:=by have:=Ffk2.out;simp only [decide_eq_true_eq] at this;omega
   refine go_reg [] [] [oT] mo dL1 zL1 BL1 (by kernel_rfl) trivial (
    hk (fun cx=>cx.v (ex_lt (x:=.tmp 12) rfl (cx.rq 12 sL1_12) rfl) rfl (congrArg Value.bool Ffk2.out)) <|
    hn) ?_
   intro a6 w6 f6
   refine wp_seq ?_
   refine wp_cond_true (f6.v 0 rfl rfl rfl) ?_
   refine wp_skip ?_
   refine wp_seq ?_
   refine wp_block ?_
   refine wp_seq ?_
   have s12_5:=f6.q 12 sL1_12
   refine go_reg [] [] [some (.int .i64 (k1:Int)),some (.int .i64 (k1:Int))] mo f6.d f6.z f6.b (by kernel_rfl) trivial (
    hk (fun cx=>cx.q (ex_mv rfl (cx.rq 12 s12_5))) <|
    kmu 0 <|
    hn) ?_
   intro a7 w7 f7
   refine wp_seq ?_
   cases fk3:Snp.bit x k1
   case false=>
    have Ffk3:=Lib.hid fk3;clear fk3
    have b_g2_6:=f7.k (f6.k bL1_g2)
    have s3_7:=f7.q 3 (f6.q 3 sL1_3)
    refine go_reg [bx g2 39 (snC x)] [] [some (pt g2 11),some (.int .i64 x.set),some (.int .i64 (k1:Int)),some (.int .i64 (x.set / 2 ^ k1)),some (.int .i64 (x.set / 2 ^ k1 % 2)),some (.bool (Snp.bit x k1)),oF] mo f7.d f7.z f7.b (by kernel_rfl) ⟨b_g2_6,trivial⟩ (
     hk (fun cx=>cx.q (ex_fa rfl (cx.rq 3 s3_7) (faStF39_1_0 _ _))) <|
     hk (fun cx=>cx.q (ldSet rfl (cx.u 0 rfl) (cx.rn 0 rfl))) <|
     hk (fun cx=>cx.q (ex_mv rfl (cx.rq 5 (f7.v 1 rfl rfl rfl)))) <|
     hk (fun cx=>cx.v (ex_shri (x:=.tmp 16) (y:=.tmp 17) rfl (cx.u 0 rfl) (cx.u 1 rfl) (by omega)) rfl rfl) <|
     hk (fun cx=>cx.v (ex_and (x:=.tmp 18) rfl (cx.u 0 rfl) rfl) rfl (congrArg (Value.int .i64) (and_1k wS _))) <|
     hk (fun cx=>cx.v (ex_eq (x:=.tmp 19) rfl (cx.u 0 rfl) rfl) rfl (congrArg Value.bool rfl)) <|
     hk (fun cx=>cx.v (ex_as rfl (cx.u 0 rfl)) rfl (congrArg Value.bool Ffk3.out)) <|
     hn) ?_
    intro a8 w8 f8
    refine wp_seq ?_
    cases fk4:Ty.unB (a k1)
    case false=>
     have Ffk4:=Lib.hid fk4;clear fk4
     have b_g1_8:=f8.k (f7.k (f6.k bL1_g1))
     have s5_9:=f8.q 5 (f7.v 1 rfl rfl rfl)
     have s2_10:=f8.q 2 (f7.q 2 (f6.q 2 sL1_2))
     refine go_reg [bx g1 35 (stC a)] [] (tabs [oF,oT,oT,some (.int .i64 (k1:Int)),some (pt g1 0),some (pt g1 (9 * k1)),some (.agg (tyC (a k1))),oF,oT,oT,oT,oU,oU,oU,oU,oU,oU,oU,oU,oU] [oU,oT]) mo f8.d f8.z f8.b (by kernel_rfl) ⟨b_g1_8,trivial⟩ (
      hk (fun cx=>cx.q (ex_mv rfl (cx.rq 6 (f8.v 6 rfl rfl rfl)))) <|
      hk (fun cx=>cx.q (ex_not (x:=.tmp 21) rfl (cx.u 0 rfl))) <|
      kmu 0 <|
      hk (fun cx=>cx.vy 0 (ex_mv rfl (cx.rq 5 s5_9))) <|
      hk (fun cx=>cx.vy 0 (ex_fa rfl (cx.rq 2 s2_10) (faStF35_0_0 _ _))) <|
      hk (fun cx=>cx.vy 2 (ex_ia (n:=11) (sz:=9) rfl (cx.u 0 rfl) (cx.u 1 rfl) Try.underlying32 (by kernel_rfl) (by omega) (by omega) (by omega)) rfl) <|
      hk (fun cx=>cx.vy 1 (ldEl (by omega) rfl (cx.u 0 rfl) (cx.rn 0 rfl)) rfl) <|
      hc (fun _ _ wx cx=>cx.call (cx.wy rfl rfl rfl rfl (cx.u 1 rfl)) rfl rfl (args1 (cx.u 0 rfl)) Try.func36 (by decide +kernel) rfl (unset_n (a k1) wx) rfl rfl (congrArg Value.bool Ffk4.out) rfl) <|
      hk (fun cx=>cx.vy 1 (ex_not (x:=.tmp 28) rfl (cx.u 0 rfl))) <|
      hk (fun cx=>cx.q (ex_pt rfl (cx.u 0 rfl) (cx.u 1 rfl))) <|
      kmu 0 <|
      kno 0 <|
      kno 0 <|
      kno 2 <|
      kno 1 <|
      kno 0 <|
      kno 0 <|
      kno 2 <|
      kno 1 <|
      kno 2 <|
      kno 1 <|
      hk (fun cx=>cx.q (ex_pt rfl (cx.u 0 rfl) rfl)) <|
      hn) ?_
     intro a9 w9 f9
     refine wp_cond_true (f9.v 21 rfl rfl rfl) ?_
     refine wp_seq ?_
     refine go_reg [] [] [oF] mo f9.d f9.z f9.b (by kernel_rfl) trivial (
      hk (fun cx=>cx.q (ex_as rfl rfl)) <|
      hn) ?_
     intro a10 w10 f10
     refine wp_ret ?_
     try simp only [Exit.inBlock,Exit.then]
     refine bodyPost_ret (res_t (fn:=Try.f21) rfl (f10.v 0 rfl rfl rfl)) f10.d ?_
     have HN:=allN_no (p:=hasR a x) hlt1 (show hasR a x k1=false from by show ((Snp.bit x k1 || Ty.unB (a k1)) && Ty.holdB (a k1) (x.r k1))=_;simp only [Ffk3.out,Ffk4.out,Bool.not_true,Bool.not_false,Bool.false_and,Bool.true_and,Bool.and_false,Bool.and_true,Bool.or_true,Bool.true_or,Bool.false_or,Bool.or_false])
     have HE:(.bool false:Value)=.bool (hasS a x):=by unfold hasS;simp only [HN,Bool.and_false,Bool.false_and]
     exact ⟨retV HE,f10.b⟩
    have Ffk4:=Lib.hid fk4;clear fk4
    cases fk5:Ty.holdB (a k1) (x.r k1)
    case false=>
     have Ffk5:=Lib.hid fk5;clear fk5
     have b_g1_11:=f8.k (f7.k (f6.k bL1_g1))
     have b_g2_12:=f8.k b_g2_6
     have s5_13:=f8.q 5 (f7.v 1 rfl rfl rfl)
     have s2_14:=f8.q 2 (f7.q 2 (f6.q 2 sL1_2))
     have s3_15:=f8.q 3 s3_7
     refine go_reg [bx g1 35 (stC a),bx g2 39 (snC x)] [] (tabs [oF,oT,oT,some (.int .i64 (k1:Int)),some (pt g1 0),some (pt g1 (9 * k1)),some (.agg (tyC (a k1))),oT,oF,oF,oF,some (.int .i64 (k1:Int)),some (pt g1 0),some (pt g1 (9 * k1)),some (.agg (tyC (a k1))),some (.int .i64 (k1:Int)),some (pt g2 0),some (pt g2 (k1)),some (.int .u64 (V (x.r k1))),oF] [oT,oT]) mo f8.d f8.z f8.b (by kernel_rfl) ⟨b_g1_11,b_g2_12,trivial⟩ (
      hk (fun cx=>cx.q (ex_mv rfl (cx.rq 6 (f8.v 6 rfl rfl rfl)))) <|
      hk (fun cx=>cx.q (ex_not (x:=.tmp 21) rfl (cx.u 0 rfl))) <|
      kmu 0 <|
      hk (fun cx=>cx.vy 0 (ex_mv rfl (cx.rq 5 s5_13))) <|
      hk (fun cx=>cx.vy 0 (ex_fa rfl (cx.rq 2 s2_14) (faStF35_0_0 _ _))) <|
      hk (fun cx=>cx.vy 2 (ex_ia (n:=11) (sz:=9) rfl (cx.u 0 rfl) (cx.u 1 rfl) Try.underlying32 (by kernel_rfl) (by omega) (by omega) (by omega)) rfl) <|
      hk (fun cx=>cx.vy 1 (ldEl (by omega) rfl (cx.u 0 rfl) (cx.rn 0 rfl)) rfl) <|
      hc (fun _ _ wx cx=>cx.call (cx.wy rfl rfl rfl rfl (cx.u 1 rfl)) rfl rfl (args1 (cx.u 0 rfl)) Try.func36 (by decide +kernel) rfl (unset_n (a k1) wx) rfl rfl (congrArg Value.bool Ffk4.out) rfl) <|
      hk (fun cx=>cx.vy 1 (ex_not (x:=.tmp 28) rfl (cx.u 0 rfl))) <|
      hk (fun cx=>cx.q (ex_pt rfl (cx.u 0 rfl) (cx.u 1 rfl))) <|
      kmu 0 <|
      hk (fun cx=>cx.vy 0 (ex_mv rfl (cx.rq 5 s5_13))) <|
      hk (fun cx=>cx.vy 0 (ex_fa rfl (cx.rq 2 s2_14) (faStF35_0_0 _ _))) <|
      hk (fun cx=>cx.vy 2 (ex_ia (n:=11) (sz:=9) rfl (cx.u 0 rfl) (cx.u 1 rfl) Try.underlying32 (by kernel_rfl) (by omega) (by omega) (by omega)) rfl) <|
      hk (fun cx=>cx.vy 1 (ldEl (by omega) rfl (cx.u 0 rfl) (cx.rn 0 rfl)) rfl) <|
      hk (fun cx=>cx.vy 0 (ex_mv rfl (cx.rq 5 s5_13))) <|
      hk (fun cx=>cx.vy 0 (ex_fa rfl (cx.rq 3 s3_15) (faStF39_0_0 _ _))) <|
      hk (fun cx=>cx.vy 2 (ex_ia (n:=11) (sz:=1) rfl (cx.u 0 rfl) (cx.u 1 rfl) Try.underlying36 (by kernel_rfl) (by omega) (by omega) (by omega)) rfl) <|
      hk (fun cx=>cx.vy 1 (ldReg (by omega) rfl (cx.u 0 rfl) (cx.rn 1 rfl)) rfl) <|
      hc (fun _ _ wx cx=>cx.call (cx.wy rfl rfl rfl rfl (cx.u 2 rfl)) rfl rfl (args2 (cx.u 0 rfl) (cx.u 1 rfl)) Try.func19 (by decide +kernel) rfl (tholds_n (a k1) (x.r k1) wx (HA.out _ (by omega))) rfl rfl (congrArg Value.bool Ffk5.out) rfl) <|
      hk (fun cx=>cx.vy 1 (ex_not (x:=.tmp 40) rfl (cx.u 0 rfl))) <|
      hk (fun cx=>cx.q (ex_pf rfl (cx.u 0 rfl) (cx.u 1 rfl))) <|
      hn) ?_
     intro a11 w11 f11
     refine wp_cond_true (f11.v 21 rfl rfl rfl) ?_
     refine wp_seq ?_
     refine go_reg [] [] [oF] mo f11.d f11.z f11.b (by kernel_rfl) trivial (
      hk (fun cx=>cx.q (ex_as rfl rfl)) <|
      hn) ?_
     intro a12 w12 f12
     refine wp_ret ?_
     try simp only [Exit.inBlock,Exit.then]
     refine bodyPost_ret (res_t (fn:=Try.f21) rfl (f12.v 0 rfl rfl rfl)) f12.d ?_
     have HN:=allN_no (p:=hasR a x) hlt1 (show hasR a x k1=false from by show ((Snp.bit x k1 || Ty.unB (a k1)) && Ty.holdB (a k1) (x.r k1))=_;simp only [Ffk3.out,Ffk4.out,Ffk5.out,Bool.not_true,Bool.not_false,Bool.false_and,Bool.true_and,Bool.and_false,Bool.and_true,Bool.or_true,Bool.true_or,Bool.false_or,Bool.or_false])
     have HE:(.bool false:Value)=.bool (hasS a x):=by unfold hasS;simp only [HN,Bool.and_false,Bool.false_and]
     exact ⟨retV HE,f12.b⟩
    have Ffk5:=Lib.hid fk5;clear fk5
    have b_g1_16:=f8.k (f7.k (f6.k bL1_g1))
    have b_g2_17:=f8.k b_g2_6
    have s5_18:=f8.q 5 (f7.v 1 rfl rfl rfl)
    have s2_19:=f8.q 2 (f7.q 2 (f6.q 2 sL1_2))
    have s3_20:=f8.q 3 s3_7
    refine go_reg [bx g1 35 (stC a),bx g2 39 (snC x)] [] (tabs [oF,oT,oT,some (.int .i64 (k1:Int)),some (pt g1 0),some (pt g1 (9 * k1)),some (.agg (tyC (a k1))),oT,oF,oF,oF,some (.int .i64 (k1:Int)),some (pt g1 0),some (pt g1 (9 * k1)),some (.agg (tyC (a k1))),some (.int .i64 (k1:Int)),some (pt g2 0),some (pt g2 (k1)),some (.int .u64 (V (x.r k1))),oT] [oF,oF]) mo f8.d f8.z f8.b (by kernel_rfl) ⟨b_g1_16,b_g2_17,trivial⟩ (
     hk (fun cx=>cx.q (ex_mv rfl (cx.rq 6 (f8.v 6 rfl rfl rfl)))) <|
     hk (fun cx=>cx.q (ex_not (x:=.tmp 21) rfl (cx.u 0 rfl))) <|
     kmu 0 <|
     hk (fun cx=>cx.vy 0 (ex_mv rfl (cx.rq 5 s5_18))) <|
     hk (fun cx=>cx.vy 0 (ex_fa rfl (cx.rq 2 s2_19) (faStF35_0_0 _ _))) <|
     hk (fun cx=>cx.vy 2 (ex_ia (n:=11) (sz:=9) rfl (cx.u 0 rfl) (cx.u 1 rfl) Try.underlying32 (by kernel_rfl) (by omega) (by omega) (by omega)) rfl) <|
     hk (fun cx=>cx.vy 1 (ldEl (by omega) rfl (cx.u 0 rfl) (cx.rn 0 rfl)) rfl) <|
     hc (fun _ _ wx cx=>cx.call (cx.wy rfl rfl rfl rfl (cx.u 1 rfl)) rfl rfl (args1 (cx.u 0 rfl)) Try.func36 (by decide +kernel) rfl (unset_n (a k1) wx) rfl rfl (congrArg Value.bool Ffk4.out) rfl) <|
     hk (fun cx=>cx.vy 1 (ex_not (x:=.tmp 28) rfl (cx.u 0 rfl))) <|
     hk (fun cx=>cx.q (ex_pt rfl (cx.u 0 rfl) (cx.u 1 rfl))) <|
     kmu 0 <|
     hk (fun cx=>cx.vy 0 (ex_mv rfl (cx.rq 5 s5_18))) <|
     hk (fun cx=>cx.vy 0 (ex_fa rfl (cx.rq 2 s2_19) (faStF35_0_0 _ _))) <|
     hk (fun cx=>cx.vy 2 (ex_ia (n:=11) (sz:=9) rfl (cx.u 0 rfl) (cx.u 1 rfl) Try.underlying32 (by kernel_rfl) (by omega) (by omega) (by omega)) rfl) <|
     hk (fun cx=>cx.vy 1 (ldEl (by omega) rfl (cx.u 0 rfl) (cx.rn 0 rfl)) rfl) <|
     hk (fun cx=>cx.vy 0 (ex_mv rfl (cx.rq 5 s5_18))) <|
     hk (fun cx=>cx.vy 0 (ex_fa rfl (cx.rq 3 s3_20) (faStF39_0_0 _ _))) <|
     hk (fun cx=>cx.vy 2 (ex_ia (n:=11) (sz:=1) rfl (cx.u 0 rfl) (cx.u 1 rfl) Try.underlying36 (by kernel_rfl) (by omega) (by omega) (by omega)) rfl) <|
     hk (fun cx=>cx.vy 1 (ldReg (by omega) rfl (cx.u 0 rfl) (cx.rn 1 rfl)) rfl) <|
     hc (fun _ _ wx cx=>cx.call (cx.wy rfl rfl rfl rfl (cx.u 2 rfl)) rfl rfl (args2 (cx.u 0 rfl) (cx.u 1 rfl)) Try.func19 (by decide +kernel) rfl (tholds_n (a k1) (x.r k1) wx (HA.out _ (by omega))) rfl rfl (congrArg Value.bool Ffk5.out) rfl) <|
     hk (fun cx=>cx.vy 1 (ex_not (x:=.tmp 40) rfl (cx.u 0 rfl))) <|
     hk (fun cx=>cx.q (ex_pf rfl (cx.u 0 rfl) (cx.u 1 rfl))) <|
     hn) ?_
    intro a13 w13 f13
    refine wp_cond_false (f13.v 21 rfl rfl rfl) ?_
    refine wp_skip ?_
    have s12_21:=f13.q 12 (f8.q 12 (f7.q 12 s12_5))
    refine go_reg [] [] [some (.int .i64 ((k1 + 1:Nat):Int)),some (.int .i64 ((k1 + 1:Nat):Int))] mo f13.d f13.z f13.b (by kernel_rfl) trivial (
     hk (fun cx=>cx.v (ex_add (x:=.tmp 12) rfl (cx.un 1 rfl rfl (by kernel_rfl) s12_21) rfl) rfl (congrArg (Value.int .i64) (wrapk hlt1 (by decide)))) <|
     kmu 0 <|
     hn) ?_
    intro a14 w14 f14
    have s2_22:=f14.q 2 (f13.q 2 s2_19)
    have s3_23:=f14.q 3 (f13.q 3 s3_20)
    have b_g1_24:=f14.k (f13.k b_g1_16)
    have b_g2_25:=f14.k (f13.k b_g2_17)
    exact ⟨hlt1,allN_step (p:=hasR a x) hp1 (show hasR a x k1=true from by show ((Snp.bit x k1 || Ty.unB (a k1)) && Ty.holdB (a k1) (x.r k1))=_;simp only [Ffk3.out,Ffk4.out,Ffk5.out,Bool.not_true,Bool.not_false,Bool.false_and,Bool.true_and,Bool.and_false,Bool.and_true,Bool.or_true,Bool.true_or,Bool.false_or,Bool.or_false]),f14.d,f14.z,f14.b,⟨s2_22,s3_23,(f14.v 1 rfl rfl rfl),trivial⟩,⟨b_g1_24,b_g2_25,trivial⟩⟩
   have Ffk3:=Lib.hid fk3;clear fk3
   have b_g2_26:=f7.k (f6.k bL1_g2)
   have s3_27:=f7.q 3 (f6.q 3 sL1_3)
   refine go_reg [bx g2 39 (snC x)] [] [some (pt g2 11),some (.int .i64 x.set),some (.int .i64 (k1:Int)),some (.int .i64 (x.set / 2 ^ k1)),some (.int .i64 (x.set / 2 ^ k1 % 2)),some (.bool (Snp.bit x k1)),oT] mo f7.d f7.z f7.b (by kernel_rfl) ⟨b_g2_26,trivial⟩ (
    hk (fun cx=>cx.q (ex_fa rfl (cx.rq 3 s3_27) (faStF39_1_0 _ _))) <|
    hk (fun cx=>cx.q (ldSet rfl (cx.u 0 rfl) (cx.rn 0 rfl))) <|
    hk (fun cx=>cx.q (ex_mv rfl (cx.rq 5 (f7.v 1 rfl rfl rfl)))) <|
    hk (fun cx=>cx.v (ex_shri (x:=.tmp 16) (y:=.tmp 17) rfl (cx.u 0 rfl) (cx.u 1 rfl) (by omega)) rfl rfl) <|
    hk (fun cx=>cx.v (ex_and (x:=.tmp 18) rfl (cx.u 0 rfl) rfl) rfl (congrArg (Value.int .i64) (and_1k wS _))) <|
    hk (fun cx=>cx.v (ex_eq (x:=.tmp 19) rfl (cx.u 0 rfl) rfl) rfl (congrArg Value.bool rfl)) <|
    hk (fun cx=>cx.v (ex_as rfl (cx.u 0 rfl)) rfl (congrArg Value.bool Ffk3.out)) <|
    hn) ?_
   intro a15 w15 f15
   refine wp_seq ?_
   cases fk6:Ty.holdB (a k1) (x.r k1)
   case false=>
    have Ffk6:=Lib.hid fk6;clear fk6
    have b_g1_28:=f15.k (f7.k (f6.k bL1_g1))
    have b_g2_29:=f15.k b_g2_26
    have s5_30:=f15.q 5 (f7.v 1 rfl rfl rfl)
    have s2_31:=f15.q 2 (f7.q 2 (f6.q 2 sL1_2))
    have s3_32:=f15.q 3 s3_27
    refine go_reg [bx g1 35 (stC a),bx g2 39 (snC x)] [] (tabs [oT,oF,oF,oU,oU,oU,oU,oU,oU,oF,oF,some (.int .i64 (k1:Int)),some (pt g1 0),some (pt g1 (9 * k1)),some (.agg (tyC (a k1))),some (.int .i64 (k1:Int)),some (pt g2 0),some (pt g2 (k1)),some (.int .u64 (V (x.r k1))),oF] [oT,oT]) mo f15.d f15.z f15.b (by kernel_rfl) ⟨b_g1_28,b_g2_29,trivial⟩ (
     hk (fun cx=>cx.q (ex_mv rfl (cx.rq 6 (f15.v 6 rfl rfl rfl)))) <|
     hk (fun cx=>cx.q (ex_not (x:=.tmp 21) rfl (cx.u 0 rfl))) <|
     kmu 0 <|
     kno 0 <|
     kno 0 <|
     kno 2 <|
     kno 1 <|
     kno 1 <|
     kno 1 <|
     hk (fun cx=>cx.q (ex_pf rfl (cx.u 0 rfl) rfl)) <|
     kmu 0 <|
     hk (fun cx=>cx.vy 0 (ex_mv rfl (cx.rq 5 s5_30))) <|
     hk (fun cx=>cx.vy 0 (ex_fa rfl (cx.rq 2 s2_31) (faStF35_0_0 _ _))) <|
     hk (fun cx=>cx.vy 2 (ex_ia (n:=11) (sz:=9) rfl (cx.u 0 rfl) (cx.u 1 rfl) Try.underlying32 (by kernel_rfl) (by omega) (by omega) (by omega)) rfl) <|
     hk (fun cx=>cx.vy 1 (ldEl (by omega) rfl (cx.u 0 rfl) (cx.rn 0 rfl)) rfl) <|
     hk (fun cx=>cx.vy 0 (ex_mv rfl (cx.rq 5 s5_30))) <|
     hk (fun cx=>cx.vy 0 (ex_fa rfl (cx.rq 3 s3_32) (faStF39_0_0 _ _))) <|
     hk (fun cx=>cx.vy 2 (ex_ia (n:=11) (sz:=1) rfl (cx.u 0 rfl) (cx.u 1 rfl) Try.underlying36 (by kernel_rfl) (by omega) (by omega) (by omega)) rfl) <|
     hk (fun cx=>cx.vy 1 (ldReg (by omega) rfl (cx.u 0 rfl) (cx.rn 1 rfl)) rfl) <|
     hc (fun _ _ wx cx=>cx.call (cx.wy rfl rfl rfl rfl (cx.u 2 rfl)) rfl rfl (args2 (cx.u 0 rfl) (cx.u 1 rfl)) Try.func19 (by decide +kernel) rfl (tholds_n (a k1) (x.r k1) wx (HA.out _ (by omega))) rfl rfl (congrArg Value.bool Ffk6.out) rfl) <|
     hk (fun cx=>cx.vy 1 (ex_not (x:=.tmp 40) rfl (cx.u 0 rfl))) <|
     hk (fun cx=>cx.q (ex_pf rfl (cx.u 0 rfl) (cx.u 1 rfl))) <|
     hn) ?_
    intro a16 w16 f16
    refine wp_cond_true (f16.v 21 rfl rfl rfl) ?_
    refine wp_seq ?_
    refine go_reg [] [] [oF] mo f16.d f16.z f16.b (by kernel_rfl) trivial (
     hk (fun cx=>cx.q (ex_as rfl rfl)) <|
     hn) ?_
    intro a17 w17 f17
    refine wp_ret ?_
    try simp only [Exit.inBlock,Exit.then]
    refine bodyPost_ret (res_t (fn:=Try.f21) rfl (f17.v 0 rfl rfl rfl)) f17.d ?_
    have HN:=allN_no (p:=hasR a x) hlt1 (show hasR a x k1=false from by show ((Snp.bit x k1 || Ty.unB (a k1)) && Ty.holdB (a k1) (x.r k1))=_;simp only [Ffk3.out,Ffk6.out,Bool.not_true,Bool.not_false,Bool.false_and,Bool.true_and,Bool.and_false,Bool.and_true,Bool.or_true,Bool.true_or,Bool.false_or,Bool.or_false])
    have HE:(.bool false:Value)=.bool (hasS a x):=by unfold hasS;simp only [HN,Bool.and_false,Bool.false_and]
    exact ⟨retV HE,f17.b⟩
   have Ffk6:=Lib.hid fk6;clear fk6
   have b_g1_33:=f15.k (f7.k (f6.k bL1_g1))
   have b_g2_34:=f15.k b_g2_26
   have s5_35:=f15.q 5 (f7.v 1 rfl rfl rfl)
   have s2_36:=f15.q 2 (f7.q 2 (f6.q 2 sL1_2))
   have s3_37:=f15.q 3 s3_27
   refine go_reg [bx g1 35 (stC a),bx g2 39 (snC x)] [] (tabs [oT,oF,oF,oU,oU,oU,oU,oU,oU,oF,oF,some (.int .i64 (k1:Int)),some (pt g1 0),some (pt g1 (9 * k1)),some (.agg (tyC (a k1))),some (.int .i64 (k1:Int)),some (pt g2 0),some (pt g2 (k1)),some (.int .u64 (V (x.r k1))),oT] [oF,oF]) mo f15.d f15.z f15.b (by kernel_rfl) ⟨b_g1_33,b_g2_34,trivial⟩ (
    hk (fun cx=>cx.q (ex_mv rfl (cx.rq 6 (f15.v 6 rfl rfl rfl)))) <|
    hk (fun cx=>cx.q (ex_not (x:=.tmp 21) rfl (cx.u 0 rfl))) <|
    kmu 0 <|
    kno 0 <|
    kno 0 <|
    kno 2 <|
    kno 1 <|
    kno 1 <|
    kno 1 <|
    hk (fun cx=>cx.q (ex_pf rfl (cx.u 0 rfl) rfl)) <|
    kmu 0 <|
    hk (fun cx=>cx.vy 0 (ex_mv rfl (cx.rq 5 s5_35))) <|
    hk (fun cx=>cx.vy 0 (ex_fa rfl (cx.rq 2 s2_36) (faStF35_0_0 _ _))) <|
    hk (fun cx=>cx.vy 2 (ex_ia (n:=11) (sz:=9) rfl (cx.u 0 rfl) (cx.u 1 rfl) Try.underlying32 (by kernel_rfl) (by omega) (by omega) (by omega)) rfl) <|
    hk (fun cx=>cx.vy 1 (ldEl (by omega) rfl (cx.u 0 rfl) (cx.rn 0 rfl)) rfl) <|
    hk (fun cx=>cx.vy 0 (ex_mv rfl (cx.rq 5 s5_35))) <|
    hk (fun cx=>cx.vy 0 (ex_fa rfl (cx.rq 3 s3_37) (faStF39_0_0 _ _))) <|
    hk (fun cx=>cx.vy 2 (ex_ia (n:=11) (sz:=1) rfl (cx.u 0 rfl) (cx.u 1 rfl) Try.underlying36 (by kernel_rfl) (by omega) (by omega) (by omega)) rfl) <|
    hk (fun cx=>cx.vy 1 (ldReg (by omega) rfl (cx.u 0 rfl) (cx.rn 1 rfl)) rfl) <|
    hc (fun _ _ wx cx=>cx.call (cx.wy rfl rfl rfl rfl (cx.u 2 rfl)) rfl rfl (args2 (cx.u 0 rfl) (cx.u 1 rfl)) Try.func19 (by decide +kernel) rfl (tholds_n (a k1) (x.r k1) wx (HA.out _ (by omega))) rfl rfl (congrArg Value.bool Ffk6.out) rfl) <|
    hk (fun cx=>cx.vy 1 (ex_not (x:=.tmp 40) rfl (cx.u 0 rfl))) <|
    hk (fun cx=>cx.q (ex_pf rfl (cx.u 0 rfl) (cx.u 1 rfl))) <|
    hn) ?_
   intro a18 w18 f18
   refine wp_cond_false (f18.v 21 rfl rfl rfl) ?_
   refine wp_skip ?_
   have s12_38:=f18.q 12 (f15.q 12 (f7.q 12 s12_5))
   refine go_reg [] [] [some (.int .i64 ((k1 + 1:Nat):Int)),some (.int .i64 ((k1 + 1:Nat):Int))] mo f18.d f18.z f18.b (by kernel_rfl) trivial (
    hk (fun cx=>cx.v (ex_add (x:=.tmp 12) rfl (cx.un 1 rfl rfl (by kernel_rfl) s12_38) rfl) rfl (congrArg (Value.int .i64) (wrapk hlt1 (by decide)))) <|
    kmu 0 <|
    hn) ?_
   intro a19 w19 f19
   have s2_39:=f19.q 2 (f18.q 2 s2_36)
   have s3_40:=f19.q 3 (f18.q 3 s3_37)
   have b_g1_41:=f19.k (f18.k b_g1_33)
   have b_g2_42:=f19.k (f18.k b_g2_34)
   exact ⟨hlt1,allN_step (p:=hasR a x) hp1 (show hasR a x k1=true from by show ((Snp.bit x k1 || Ty.unB (a k1)) && Ty.holdB (a k1) (x.r k1))=_;simp only [Ffk3.out,Ffk6.out,Bool.not_true,Bool.not_false,Bool.false_and,Bool.true_and,Bool.and_false,Bool.and_true,Bool.or_true,Bool.true_or,Bool.false_or,Bool.or_false]),f19.d,f19.z,f19.b,⟨s2_39,s3_40,(f19.v 1 rfl rfl rfl),trivial⟩,⟨b_g1_41,b_g2_42,trivial⟩⟩
  have Ffk2:=Lib.hid fk2;clear fk2
  have hge1:k1=11:=by have:=Ffk2.out;simp only [decide_eq_false_iff_not] at this;omega
  refine go_reg [] [] [oF] mo dL1 zL1 BL1 (by kernel_rfl) trivial (
   hk (fun cx=>cx.v (ex_lt (x:=.tmp 12) rfl (cx.rq 12 sL1_12) rfl) rfl (congrArg Value.bool Ffk2.out)) <|
   hn) ?_
  intro a20 w20 f20
  refine wp_seq ?_
  refine wp_cond_false (f20.v 0 rfl rfl rfl) ?_
  refine wp_exit ?_
  simp only [Exit.then,Exit.inBlock,if_true]
  refine wp_seq ?_
  refine wp_seq ?_
  refine go_reg [] [] [some (.int .i64 0)] mo f20.d f20.z f20.b (by kernel_rfl) trivial (
   hk (fun cx=>cx.q (ex_mv rfl rfl)) <|
   hn) ?_
  intro a21 w21 f21
  refine wp_block ?_
  have neL2_0_1:=neL1_0_1
  have s2_43:=f21.q 2 (f20.q 2 sL1_2)
  have s3_44:=f21.q 3 (f20.q 3 sL1_3)
  have b_g1_45:=f21.k (f20.k bL1_g1)
  have b_g2_46:=f21.k (f20.k bL1_g2)
  refine wp_count 8 (fun k2 aI wI=>allN (hasF a x) k2=true ∧ Mid 62 W [(2,.pointer (some ⟨g1,0,none⟩)),(3,.pointer (some ⟨g2,0,none⟩)),(44,.int .i64 (k2:Int))] [(g1,35,(stC a)),(g2,39,(snC x))] aI wI) ⟨rfl,f21.d,f21.z,f21.b,⟨s2_43,s3_44,(f21.v 0 rfl rfl rfl),trivial⟩,⟨b_g1_45,b_g2_46,trivial⟩⟩ ?_
  intro k2 aL2 wL2 hlek2 hI2
  obtain ⟨hp2,dL2,zL2,BL2,⟨sL2_2,sL2_3,sL2_44,-⟩,⟨bL2_g1,bL2_g2,-⟩⟩:=hI2
  replace sL2_2:aL2.tmps.getD 2 undef=.pointer (some ⟨g1,0,none⟩):=sL2_2
  replace sL2_3:aL2.tmps.getD 3 undef=.pointer (some ⟨g2,0,none⟩):=sL2_3
  replace sL2_44:aL2.tmps.getD 44 undef=.int .i64 (k2:Int):=sL2_44
  replace bL2_g1:wL2.heap[g1]?=some (.cells (stC a) 35 (0,0)):=bL2_g1
  replace bL2_g2:wL2.heap[g2]?=some (.cells (snC x) 39 (0,0)):=bL2_g2
  refine wp_seq ?_
  cases fk7:decide ((k2:Int) < 8)
  case true=>
   have Ffk7:=Lib.hid fk7;clear fk7
   have hlt2:k2 < 8:=by have:=Ffk7.out;simp only [decide_eq_true_eq] at this;omega
   refine go_reg [] [] [oT] mo dL2 zL2 BL2 (by kernel_rfl) trivial (
    hk (fun cx=>cx.v (ex_lt (x:=.tmp 44) rfl (cx.rq 44 sL2_44) rfl) rfl (congrArg Value.bool Ffk7.out)) <|
    hn) ?_
   intro a22 w22 f22
   refine wp_seq ?_
   refine wp_cond_true (f22.v 0 rfl rfl rfl) ?_
   refine wp_skip ?_
   refine wp_seq ?_
   refine wp_block ?_
   refine wp_seq ?_
   have s44_47:=f22.q 44 sL2_44
   refine go_reg [] [] [some (.int .i64 (k2:Int)),some (.int .i64 (k2:Int))] mo f22.d f22.z f22.b (by kernel_rfl) trivial (
    hk (fun cx=>cx.q (ex_mv rfl (cx.rq 44 s44_47))) <|
    kmu 0 <|
    hn) ?_
   intro a23 w23 f23
   refine wp_seq ?_
   refine go_reg [] [] [some (.int .i64 (k2:Int)),some (.int .i64 ((8 * k2:Nat):Int)),some (.int .i64 ((8 * k2:Nat):Int))] mo f23.d f23.z f23.b (by kernel_rfl) trivial (
    hk (fun cx=>cx.q (ex_mv rfl (cx.rq 7 (f23.v 1 rfl rfl rfl)))) <|
    hk (fun cx=>cx.v (ex_mul (x:=.tmp 47) rfl (cx.u 0 rfl) rfl) rfl (congrArg (Value.int .i64) (by rw [IntKind.wrap_i64];omega))) <|
    kmu 0 <|
    hn) ?_
   intro a24 w24 f24
   refine wp_seq ?_
   cases fk8:Ty.holdB (a (11 + k2)) (Snp.slot x k2)
   case false=>
    have Ffk8:=Lib.hid fk8;clear fk8
    have b_g1_48:=f24.k (f23.k (f22.k bL2_g1))
    have b_g2_49:=f24.k (f23.k (f22.k bL2_g2))
    have s7_50:=f24.q 7 (f23.v 1 rfl rfl rfl)
    have s2_51:=f24.q 2 (f23.q 2 (f22.q 2 sL2_2))
    have s3_52:=f24.q 3 (f23.q 3 (f22.q 3 sL2_3))
    refine go_reg [bx g1 35 (stC a),bx g2 39 (snC x)] [] [some (.int .i64 (k2:Int)),some (pt g1 99),some (pt g1 (9 * (11 + k2))),some (.agg (tyC (a (11 + k2)))),some (pt g2 12),some (.int .i64 ((8 * k2:Nat):Int)),some (.int .i64 ((8 * k2:Nat):Int)),some (.int .i64 ((8 * k2 + 8:Nat):Int)),some (.slice (some ⟨g2,12 + 8 * k2,none⟩) 8 (64 - 8 * k2)),some (.int .u64 (V (Snp.slot x k2))),oF,oT] mo f24.d f24.z f24.b (by kernel_rfl) ⟨b_g1_48,b_g2_49,trivial⟩ (
     hk (fun cx=>cx.q (ex_mv rfl (cx.rq 7 s7_50))) <|
     hk (fun cx=>cx.q (ex_fa rfl (cx.rq 2 s2_51) (faStF35_1_0 _ _))) <|
     hk (fun cx=>cx.v (ex_ia (n:=8) (sz:=9) rfl (cx.u 0 rfl) (cx.u 1 rfl) Try.underlying33 (by kernel_rfl) (by omega) (by omega) (by omega)) rfl rfl) <|
     hk (fun cx=>cx.v (ldEl (by omega) rfl (cx.u 0 rfl) (cx.rn 0 rfl)) rfl rfl) <|
     hk (fun cx=>cx.q (ex_fa rfl (cx.rq 3 s3_52) (faStF39_2_0 _ _))) <|
     hk (fun cx=>cx.q (ex_mv rfl (cx.rq 8 (f24.v 2 rfl rfl rfl)))) <|
     hk (fun cx=>cx.q (ex_mv rfl (cx.rq 8 (f24.v 2 rfl rfl rfl)))) <|
     hk (fun cx=>cx.v (ex_add (x:=.tmp 55) rfl (cx.u 0 rfl) rfl) rfl (congrArg (Value.int .i64) (by rw [IntKind.wrap_i64];omega))) <|
     hk (fun cx=>cx.v (ex_sl rfl (cx.u 0 rfl) (cx.u 1 rfl) (cx.u 2 rfl) (by omega)) rfl rfl) <|
     hc (fun _ _ wx cx=>cx.c rfl (args1 (cx.u 0 rfl)) Try.func47 (by decide +kernel) (get_sn x k2 g2 wx HX.out (by omega) (cx.rn 1 rfl)) rfl rfl) <|
     hc (fun _ _ wx cx=>cx.c rfl (args2 (cx.u 0 rfl) (cx.u 1 rfl)) Try.func19 (by decide +kernel) (tholds_n (a (11 + k2)) (Snp.slot x k2) wx (HA.out _ (by omega))) rfl (congrArg Value.bool Ffk8.out)) <|
     hk (fun cx=>cx.q (ex_not (x:=.tmp 59) rfl (cx.u 0 rfl))) <|
     hn) ?_
    intro a25 w25 f25
    refine wp_cond_true (f25.v 11 rfl rfl rfl) ?_
    refine wp_seq ?_
    refine go_reg [] [] [oF] mo f25.d f25.z f25.b (by kernel_rfl) trivial (
     hk (fun cx=>cx.q (ex_as rfl rfl)) <|
     hn) ?_
    intro a26 w26 f26
    refine wp_ret ?_
    try simp only [Exit.inBlock,Exit.then]
    refine bodyPost_ret (res_t (fn:=Try.f21) rfl (f26.v 0 rfl rfl rfl)) f26.d ?_
    have HN:=allN_no (p:=hasF a x) hlt2 (show hasF a x k2=false from by show Ty.holdB (a (11 + k2)) (Snp.slot x k2)=_;simp only [Ffk8.out,Bool.not_true,Bool.not_false,Bool.false_and,Bool.true_and,Bool.and_false,Bool.and_true,Bool.or_true,Bool.true_or,Bool.false_or,Bool.or_false])
    have HE:(.bool false:Value)=.bool (hasS a x):=by unfold hasS;simp only [HN,Bool.and_false]
    exact ⟨retV HE,f26.b⟩
   have Ffk8:=Lib.hid fk8;clear fk8
   have b_g1_53:=f24.k (f23.k (f22.k bL2_g1))
   have b_g2_54:=f24.k (f23.k (f22.k bL2_g2))
   have s7_55:=f24.q 7 (f23.v 1 rfl rfl rfl)
   have s2_56:=f24.q 2 (f23.q 2 (f22.q 2 sL2_2))
   have s3_57:=f24.q 3 (f23.q 3 (f22.q 3 sL2_3))
   refine go_reg [bx g1 35 (stC a),bx g2 39 (snC x)] [] [some (.int .i64 (k2:Int)),some (pt g1 99),some (pt g1 (9 * (11 + k2))),some (.agg (tyC (a (11 + k2)))),some (pt g2 12),some (.int .i64 ((8 * k2:Nat):Int)),some (.int .i64 ((8 * k2:Nat):Int)),some (.int .i64 ((8 * k2 + 8:Nat):Int)),some (.slice (some ⟨g2,12 + 8 * k2,none⟩) 8 (64 - 8 * k2)),some (.int .u64 (V (Snp.slot x k2))),oT,oF] mo f24.d f24.z f24.b (by kernel_rfl) ⟨b_g1_53,b_g2_54,trivial⟩ (
    hk (fun cx=>cx.q (ex_mv rfl (cx.rq 7 s7_55))) <|
    hk (fun cx=>cx.q (ex_fa rfl (cx.rq 2 s2_56) (faStF35_1_0 _ _))) <|
    hk (fun cx=>cx.v (ex_ia (n:=8) (sz:=9) rfl (cx.u 0 rfl) (cx.u 1 rfl) Try.underlying33 (by kernel_rfl) (by omega) (by omega) (by omega)) rfl rfl) <|
    hk (fun cx=>cx.v (ldEl (by omega) rfl (cx.u 0 rfl) (cx.rn 0 rfl)) rfl rfl) <|
    hk (fun cx=>cx.q (ex_fa rfl (cx.rq 3 s3_57) (faStF39_2_0 _ _))) <|
    hk (fun cx=>cx.q (ex_mv rfl (cx.rq 8 (f24.v 2 rfl rfl rfl)))) <|
    hk (fun cx=>cx.q (ex_mv rfl (cx.rq 8 (f24.v 2 rfl rfl rfl)))) <|
    hk (fun cx=>cx.v (ex_add (x:=.tmp 55) rfl (cx.u 0 rfl) rfl) rfl (congrArg (Value.int .i64) (by rw [IntKind.wrap_i64];omega))) <|
    hk (fun cx=>cx.v (ex_sl rfl (cx.u 0 rfl) (cx.u 1 rfl) (cx.u 2 rfl) (by omega)) rfl rfl) <|
    hc (fun _ _ wx cx=>cx.c rfl (args1 (cx.u 0 rfl)) Try.func47 (by decide +kernel) (get_sn x k2 g2 wx HX.out (by omega) (cx.rn 1 rfl)) rfl rfl) <|
    hc (fun _ _ wx cx=>cx.c rfl (args2 (cx.u 0 rfl) (cx.u 1 rfl)) Try.func19 (by decide +kernel) (tholds_n (a (11 + k2)) (Snp.slot x k2) wx (HA.out _ (by omega))) rfl (congrArg Value.bool Ffk8.out)) <|
    hk (fun cx=>cx.q (ex_not (x:=.tmp 59) rfl (cx.u 0 rfl))) <|
    hn) ?_
   intro a27 w27 f27
   refine wp_cond_false (f27.v 11 rfl rfl rfl) ?_
   refine wp_skip ?_
   have s44_58:=f27.q 44 (f24.q 44 (f23.q 44 s44_47))
   refine go_reg [] [] [some (.int .i64 ((k2 + 1:Nat):Int)),some (.int .i64 ((k2 + 1:Nat):Int))] mo f27.d f27.z f27.b (by kernel_rfl) trivial (
    hk (fun cx=>cx.v (ex_add (x:=.tmp 44) rfl (cx.un 1 rfl rfl (by kernel_rfl) s44_58) rfl) rfl (congrArg (Value.int .i64) (wrapk hlt2 (by decide)))) <|
    kmu 0 <|
    hn) ?_
   intro a28 w28 f28
   have s2_59:=f28.q 2 (f27.q 2 s2_56)
   have s3_60:=f28.q 3 (f27.q 3 s3_57)
   have b_g1_61:=f28.k (f27.k b_g1_53)
   have b_g2_62:=f28.k (f27.k b_g2_54)
   exact ⟨hlt2,allN_step (p:=hasF a x) hp2 (show hasF a x k2=true from by show Ty.holdB (a (11 + k2)) (Snp.slot x k2)=_;simp only [Ffk8.out,Bool.not_true,Bool.not_false,Bool.false_and,Bool.true_and,Bool.and_false,Bool.and_true,Bool.or_true,Bool.true_or,Bool.false_or,Bool.or_false]),f28.d,f28.z,f28.b,⟨s2_59,s3_60,(f28.v 1 rfl rfl rfl),trivial⟩,⟨b_g1_61,b_g2_62,trivial⟩⟩
  have Ffk7:=Lib.hid fk7;clear fk7
  have hge2:k2=8:=by have:=Ffk7.out;simp only [decide_eq_false_iff_not] at this;omega
  refine go_reg [] [] [oF] mo dL2 zL2 BL2 (by kernel_rfl) trivial (
   hk (fun cx=>cx.v (ex_lt (x:=.tmp 44) rfl (cx.rq 44 sL2_44) rfl) rfl (congrArg Value.bool Ffk7.out)) <|
   hn) ?_
  intro a29 w29 f29
  refine wp_seq ?_
  refine wp_cond_false (f29.v 0 rfl rfl rfl) ?_
  refine wp_exit ?_
  simp only [Exit.then,Exit.inBlock,if_true]
  refine wp_seq ?_
  refine go_reg [] [] [oT] mo f29.d f29.z f29.b (by kernel_rfl) trivial (
   hk (fun cx=>cx.q (ex_as rfl rfl)) <|
   hn) ?_
  intro a30 w30 f30
  refine wp_ret ?_
  try simp only [Exit.inBlock,Exit.then]
  refine bodyPost_ret (res_t (fn:=Try.f21) rfl (f30.v 0 rfl rfl rfl)) f30.d ?_
  have HE:(.bool true:Value)=.bool (hasS a x):=by unfold hasS;simp only [Ffk1.out,show allN (hasR a x) 11=true from hge1 ▸ hp1,show allN (hasF a x) 8=true from hge2 ▸ hp2,Bool.true_and]
  exact ⟨retV HE,f30.b⟩
theorem clamp_w (n:Int):IntKind.i64.wrap (8 * clampI n)=8 * clampI n:=by have:=clamp_bd n;rw [IntKind.wrap_i64];omega
theorem clamp_s (n:Int):IntKind.i64.wrap (64 - (8 * clampI n))=64 - 8 * clampI n:=by have:=clamp_bd n;rw [IntKind.wrap_i64];omega
theorem clamp_u (n:Int):IntKind.u64.wrap (64 - 8 * clampI n)=64 - 8 * clampI n:=by have:=clamp_bd n;rw [IntKind.wrap_u64];omega
theorem clamp_0 (n:Int):0 ≤ 64 - 8 * clampI n ∧ 64 - 8 * clampI n ≤ 64:=by have:=clamp_bd n;omega
theorem clamp_v (n:Int):18446744073709551615 / 2 ^ Int.toNat (64 - 8 * clampI n)=V (bytesB n):=by
  have b:=clamp_bd n
  rw [bytes_V,show Int.toNat (64 - 8 * clampI n)=64 - (8 * clampI n).toNat by omega,ones_div (by omega)]
set_option maxHeartbeats 4000000 in
theorem vbytes_n (n:Int) (W:World):Calls Try.prog 33 #[.int .i64 n] W fun e w'=>e=.returned (.agg (scC (bytesC n))) ∧ Below W.heap.size W w':=by
  refine calls_abs Try.func33 rfl (Nat.le_of_ble_eq_true rfl) ?_
  intro a0 d0 z0 h0
  replace z0:a0.tmps.size=15:=z0
  have s0_0:a0.tmps.getD 0 undef=.int .i64 n:=h0 0 (Nat.le_of_ble_eq_true rfl)
  refine wp_seq ?_
  refine go_reg [] [⟨0,2,29,(scC zSc),none,#[]⟩] [none] mo d0 z0 (Below.refl _ _) (by kernel_rfl) trivial (
   hk (fun cx=>cx.al (wn rfl) 0 rfl (al_sc rfl) rfl rfl rfl rfl rfl trivial) <|
   hn) ?_
  intro a1 w1 f1
  obtain ⟨g1,u_g1,q_g1,b_g1⟩:=f1.al.1
  refine wp_seq ?_
  have s0_1:=f1.q 0 s0_0
  refine go_reg [] [] [some (.int .i64 n),some (.int .i64 (max n 1)),some (.int .i64 (clampI n)),some (.int .i64 (8 * clampI n)),some (.int .i64 (64 - 8 * clampI n)),some (.int .u64 (64 - 8 * clampI n)),some (.int .u64 (V (bytesB n))),some (.int .u64 (V (bytesB n)))] mo f1.d f1.z f1.b (by kernel_rfl) trivial (
   hk (fun cx=>cx.q (ex_mv rfl (cx.rq 0 s0_1))) <|
   hc (fun _ ax _ cx=>cx.q (ex_max (x:=.tmp 4) rfl (cx.u 0 rfl) rfl)) <|
   hk (fun cx=>cx.v (ex_min (x:=.tmp 5) rfl (cx.u 0 rfl) rfl) rfl (congrArg (Value.int .i64) rfl)) <|
   hk (fun cx=>cx.v (ex_mul (y:=.tmp 6) rfl rfl (cx.u 0 rfl)) rfl (congrArg (Value.int .i64) (clamp_w n))) <|
   hk (fun cx=>cx.v (ex_sub (y:=.tmp 7) rfl rfl (cx.u 0 rfl)) rfl (congrArg (Value.int .i64) (clamp_s n))) <|
   hk (fun cx=>cx.v (ex_conv (x:=.tmp 8) rfl (cx.u 0 rfl) Try.underlying3 Try.underlying55) rfl (congrArg (Value.int .u64) (clamp_u n))) <|
   hk (fun cx=>cx.v (v:=.int .u64 (18446744073709551615 / 2 ^ Int.toNat (64 - 8 * clampI n))) (exec_shr (y:=.tmp 9) rfl rfl (cx.u 0 rfl) (clamp_0 n).1 (clamp_0 n).2) rfl (congrArg (Value.int .u64) (clamp_v n))) <|
   kmu 0 <|
   hn) ?_
  intro a2 w2 f2
  refine wp_seq ?_
  have b_g1_2:=f2.k b_g1
  have s2_3:=f2.q 2 u_g1
  refine go_reg [⟨g1,29,(scC zSc),some 4,(scC (Sc.nar ⟨allR,⟨zKn.v,bytesB n⟩⟩))⟩] [] [some (.agg (cR allR.u.lo allR.u.hi allR.s.lo allR.s.hi)),some (.int .u64 (V (bytesB n))),some (.agg (knC ⟨zKn.v,bytesB n⟩)),some (.agg (scC (Sc.nar ⟨allR,⟨zKn.v,bytesB n⟩⟩))),none] mo f2.d f2.z f2.b (by kernel_rfl) ⟨b_g1_2,trivial⟩ (
   hc (fun _ _ wx cx=>cx.c rfl (args0 ) Try.func58 (by decide +kernel) (all_n wx) rfl rfl) <|
   hk (fun cx=>cx.q (ex_mv rfl (cx.rq 3 (f2.v 7 rfl rfl rfl)))) <|
   hk (fun cx=>cx.q (exec_build rfl (parts1 (cx.u 0 rfl)) (by kernel_rfl))) <|
   hc (fun _ _ wx cx=>cx.c rfl (args2 (cx.u 0 rfl) (cx.u 1 rfl)) Try.func57 (by decide +kernel) (vnarrowed_n allR ⟨zKn.v,bytesB n⟩ wx allR_ok) rfl rfl) <|
   hk (fun cx=>cx.stR (wn rfl) rfl rfl 0 rfl (cx.rq 2 s2_3) (cx.u 0 rfl) (by kernel_rfl) (Eq.refl 6) (scC_one _) q_g1 rfl trivial trivial) <|
   hn) ?_
  intro a3 w3 f3
  refine wp_ret ?_
  have s2_4:=f3.q 2 s2_3
  try simp only [Exit.inBlock,Exit.then]
  refine bodyPost_ret (res_c (fn:=Try.f33) rfl s2_4 (load_row 29 f3.rows.1 Try.underlying29 rfl (by kernel_rfl))) f3.d ?_
  have HE:(.agg (scC (Sc.nar ⟨allR,⟨zKn.v,bytesB n⟩⟩)):Value)=.agg (scC (bytesC n)):=congrArg (fun s=>Value.agg (scC s)) (show Sc.nar ⟨allR,⟨zKn.v,bytesB n⟩⟩=bytesC n from rfl)
  exact ⟨retV HE,f3.b⟩
set_option maxHeartbeats 4000000 in
theorem tload_n (a:St) (lo hi size:Int) (W:World):Calls Try.prog 7 #[.agg (stC a),.int .i64 lo,.int .i64 hi,.int .i64 size] W fun e w'=>e=.returned (.tuple #[.agg (tyC (loadR a lo hi size)),.int .i64 (loadE a lo hi size)]) ∧ Below W.heap.size W w':=by
  refine calls_abs Try.func7 rfl (Nat.le_of_ble_eq_true rfl) ?_
  intro a0 d0 z0 h0
  replace z0:a0.tmps.size=38:=z0
  have s0_0:a0.tmps.getD 0 undef=.agg (stC a):=h0 0 (Nat.le_of_ble_eq_true rfl)
  have s1_0:a0.tmps.getD 1 undef=.int .i64 lo:=h0 1 (Nat.le_of_ble_eq_true rfl)
  have s2_0:a0.tmps.getD 2 undef=.int .i64 hi:=h0 2 (Nat.le_of_ble_eq_true rfl)
  have s3_0:a0.tmps.getD 3 undef=.int .i64 size:=h0 3 (Nat.le_of_ble_eq_true rfl)
  refine wp_seq ?_
  refine go_reg [] [⟨0,4,35,(stC a),none,#[]⟩,⟨1,8,31,(tyC tZ),none,#[]⟩] [none,none,some (.int .i64 0)] mo d0 z0 (Below.refl _ _) (by kernel_rfl) trivial (
   hk (fun cx=>cx.al (wn rfl) 0 rfl (ex_box rfl (cx.rq 0 s0_0) rfl) rfl rfl rfl rfl rfl trivial) <|
   hk (fun cx=>cx.al (wn rfl) 1 rfl (al_ty rfl) rfl rfl rfl rfl rfl trivial) <|
   hk (fun cx=>cx.q (ex_as rfl rfl)) <|
   hn) ?_
  intro a1 w1 f1
  obtain ⟨g1,u_g1,q_g1,b_g1⟩:=f1.al.1
  obtain ⟨g2,u_g2,q_g2,b_g2⟩:=f1.al.2.1
  refine wp_seq ?_
  refine wp_seq ?_
  cases fk1:okS a
  case false=>
   have Ffk1:=Lib.hid fk1;clear fk1
   refine go_reg [bx g1 35 (stC a)] [] [some (.agg (stC a)),oF,oT,oT,oU,oU,oU,oU,oU,oT] mo f1.d f1.z f1.b (by kernel_rfl) ⟨b_g1,trivial⟩ (
    hk (fun cx=>cx.q (ldSt rfl (cx.rq 4 u_g1) (cx.rn 0 rfl))) <|
    hc (fun _ _ wx cx=>cx.c rfl (args1 (cx.u 0 rfl)) Try.func15 (by decide +kernel) (tmay_n a wx) rfl (congrArg Value.bool Ffk1.out)) <|
    hk (fun cx=>cx.q (ex_not (x:=.tmp 13) rfl (cx.u 0 rfl))) <|
    kmu 0 <|
    kno 0 <|
    kno 0 <|
    kno 0 <|
    kno 3 <|
    kno 1 <|
    hk (fun cx=>cx.q (ex_pt rfl (cx.u 0 rfl) rfl)) <|
    hn) ?_
   intro a2 w2 f2
   refine wp_cond_true (f2.v 9 rfl rfl rfl) ?_
   refine wp_seq ?_
   have b_g2_1:=f2.k b_g2
   have s8_2:=f2.q 8 u_g2
   refine go_reg [⟨g2,31,(tyC tZ),some 1,(tyC tZ)⟩] [] [some (.agg (tyC tZ)),none,some (.int .i64 2)] mo f2.d f2.z f2.b (by kernel_rfl) ⟨b_g2_1,trivial⟩ (
    hk (fun cx=>cx.q (ex_z9 rfl)) <|
    hk (fun cx=>cx.stR (wn rfl) rfl rfl 0 rfl (cx.rq 8 s8_2) (cx.u 0 rfl) (by kernel_rfl) (Eq.refl 9) (tyC_one _) q_g2 rfl trivial trivial) <|
    hk (fun cx=>cx.q (ex_as rfl rfl)) <|
    hn) ?_
   intro a3 w3 f3
   refine wp_ret ?_
   have s8_3:=f3.q 8 s8_2
   try simp only [Exit.inBlock,Exit.then]
   refine bodyPost_ret (res_ct (fn:=Try.f7) rfl s8_3 (load_row 31 f3.rows.1 Try.underlying31 rfl (by kernel_rfl)) (f3.v 2 rfl rfl rfl)) f3.d ?_
   have HE:(.tuple #[.agg (tyC tZ),.int .i64 2]:Value)=.tuple #[.agg (tyC (loadR a lo hi size)),.int .i64 (loadE a lo hi size)]:=by unfold loadR loadE loadT placeB;simp only [Ffk1.out,Bool.true_and,Bool.and_true,Bool.false_and,Bool.and_false,Bool.or_false,Bool.false_or,Bool.true_or,Bool.or_true,Bool.not_true,Bool.not_false,if_true,if_false,Bool.false_eq_true,Bool.true_eq_false,reduceCtorEq];try rfl
   exact ⟨retV HE,f3.b⟩
  have Ffk1:=Lib.hid fk1;clear fk1
  cases fk2:withinB lo hi size
  case false=>
   have Ffk2:=Lib.hid fk2;clear fk2
   have s1_4:=f1.q 1 s1_0
   have s2_5:=f1.q 2 s2_0
   have s3_6:=f1.q 3 s3_0
   refine go_reg [bx g1 35 (stC a)] [] [some (.agg (stC a)),oT,oF,oF,some (.int .i64 lo),some (.int .i64 hi),some (.int .i64 size),oF,oT,oT] mo f1.d f1.z f1.b (by kernel_rfl) ⟨b_g1,trivial⟩ (
    hk (fun cx=>cx.q (ldSt rfl (cx.rq 4 u_g1) (cx.rn 0 rfl))) <|
    hc (fun _ _ wx cx=>cx.c rfl (args1 (cx.u 0 rfl)) Try.func15 (by decide +kernel) (tmay_n a wx) rfl (congrArg Value.bool Ffk1.out)) <|
    hk (fun cx=>cx.q (ex_not (x:=.tmp 13) rfl (cx.u 0 rfl))) <|
    kmu 0 <|
    hk (fun cx=>cx.vy 0 (ex_mv rfl (cx.rq 1 s1_4))) <|
    hk (fun cx=>cx.vy 0 (ex_mv rfl (cx.rq 2 s2_5))) <|
    hk (fun cx=>cx.vy 0 (ex_mv rfl (cx.rq 3 s3_6))) <|
    hc (fun _ _ wx cx=>cx.call (cx.wy rfl rfl rfl rfl (cx.u 3 rfl)) rfl rfl (args3 (cx.u 0 rfl) (cx.u 1 rfl) (cx.u 2 rfl)) Try.func30 (by decide +kernel) rfl (within_n lo hi size wx) rfl rfl (congrArg Value.bool Ffk2.out) rfl) <|
    hk (fun cx=>cx.vy 1 (ex_not (x:=.tmp 19) rfl (cx.u 0 rfl))) <|
    hk (fun cx=>cx.q (ex_pf rfl (cx.u 0 rfl) (cx.u 1 rfl))) <|
    hn) ?_
   intro a4 w4 f4
   refine wp_cond_true (f4.v 9 rfl rfl rfl) ?_
   refine wp_seq ?_
   have b_g2_7:=f4.k b_g2
   have s8_8:=f4.q 8 u_g2
   refine go_reg [⟨g2,31,(tyC tZ),some 1,(tyC tZ)⟩] [] [some (.agg (tyC tZ)),none,some (.int .i64 2)] mo f4.d f4.z f4.b (by kernel_rfl) ⟨b_g2_7,trivial⟩ (
    hk (fun cx=>cx.q (ex_z9 rfl)) <|
    hk (fun cx=>cx.stR (wn rfl) rfl rfl 0 rfl (cx.rq 8 s8_8) (cx.u 0 rfl) (by kernel_rfl) (Eq.refl 9) (tyC_one _) q_g2 rfl trivial trivial) <|
    hk (fun cx=>cx.q (ex_as rfl rfl)) <|
    hn) ?_
   intro a5 w5 f5
   refine wp_ret ?_
   have s8_9:=f5.q 8 s8_8
   try simp only [Exit.inBlock,Exit.then]
   refine bodyPost_ret (res_ct (fn:=Try.f7) rfl s8_9 (load_row 31 f5.rows.1 Try.underlying31 rfl (by kernel_rfl)) (f5.v 2 rfl rfl rfl)) f5.d ?_
   have HE:(.tuple #[.agg (tyC tZ),.int .i64 2]:Value)=.tuple #[.agg (tyC (loadR a lo hi size)),.int .i64 (loadE a lo hi size)]:=by unfold loadR loadE loadT placeB;simp only [Ffk1.out,Ffk2.out,Bool.true_and,Bool.and_true,Bool.false_and,Bool.and_false,Bool.or_false,Bool.false_or,Bool.true_or,Bool.or_true,Bool.not_true,Bool.not_false,if_true,if_false,Bool.false_eq_true,Bool.true_eq_false,reduceCtorEq];try rfl
   exact ⟨retV HE,f5.b⟩
  have Ffk2:=Lib.hid fk2;clear fk2
  have hbd:=within_bd Ffk2.out
  have s1_10:=f1.q 1 s1_0
  have s2_11:=f1.q 2 s2_0
  have s3_12:=f1.q 3 s3_0
  refine go_reg [bx g1 35 (stC a)] [] [some (.agg (stC a)),oT,oF,oF,some (.int .i64 lo),some (.int .i64 hi),some (.int .i64 size),oT,oF,oF] mo f1.d f1.z f1.b (by kernel_rfl) ⟨b_g1,trivial⟩ (
   hk (fun cx=>cx.q (ldSt rfl (cx.rq 4 u_g1) (cx.rn 0 rfl))) <|
   hc (fun _ _ wx cx=>cx.c rfl (args1 (cx.u 0 rfl)) Try.func15 (by decide +kernel) (tmay_n a wx) rfl (congrArg Value.bool Ffk1.out)) <|
   hk (fun cx=>cx.q (ex_not (x:=.tmp 13) rfl (cx.u 0 rfl))) <|
   kmu 0 <|
   hk (fun cx=>cx.vy 0 (ex_mv rfl (cx.rq 1 s1_10))) <|
   hk (fun cx=>cx.vy 0 (ex_mv rfl (cx.rq 2 s2_11))) <|
   hk (fun cx=>cx.vy 0 (ex_mv rfl (cx.rq 3 s3_12))) <|
   hc (fun _ _ wx cx=>cx.call (cx.wy rfl rfl rfl rfl (cx.u 3 rfl)) rfl rfl (args3 (cx.u 0 rfl) (cx.u 1 rfl) (cx.u 2 rfl)) Try.func30 (by decide +kernel) rfl (within_n lo hi size wx) rfl rfl (congrArg Value.bool Ffk2.out) rfl) <|
   hk (fun cx=>cx.vy 1 (ex_not (x:=.tmp 19) rfl (cx.u 0 rfl))) <|
   hk (fun cx=>cx.q (ex_pf rfl (cx.u 0 rfl) (cx.u 1 rfl))) <|
   hn) ?_
  intro a6 w6 f6
  refine wp_cond_false (f6.v 9 rfl rfl rfl) ?_
  refine wp_skip ?_
  refine wp_seq ?_
  refine wp_seq ?_
  cases fk3:exactB lo hi size
  case false=>
   have Ffk3:=Lib.hid fk3;clear fk3
   have s1_13:=f6.q 1 s1_10
   have s2_14:=f6.q 2 s2_11
   have s3_15:=f6.q 3 s3_12
   refine go_reg [] [] [some (.int .i64 lo),some (.int .i64 hi),some (.int .i64 size),some (.tuple #[.int .i64 (exN lo hi size),.bool (exactB lo hi size)]),some (.tuple #[.int .i64 (exN lo hi size),.bool (exactB lo hi size)]),some (.int .i64 (exN lo hi size)),oF,some (.int .i64 (exN lo hi size)),oF] mo f6.d f6.z f6.b (by kernel_rfl) trivial (
    hk (fun cx=>cx.q (ex_mv rfl (cx.rq 1 s1_13))) <|
    hk (fun cx=>cx.q (ex_mv rfl (cx.rq 2 s2_14))) <|
    hk (fun cx=>cx.q (ex_mv rfl (cx.rq 3 s3_15))) <|
    hc (fun _ _ wx cx=>cx.c rfl (args3 (cx.u 0 rfl) (cx.u 1 rfl) (cx.u 2 rfl)) Try.func31 (by decide +kernel) (whole_n lo hi size wx (show 0 ≤ lo by omega) (show lo < 9223372036854775808 by omega)) rfl rfl) <|
    kmu 0 <|
    hk (fun cx=>cx.q (ex_ext (x:=.tmp 23) rfl (cx.u 0 rfl) rfl)) <|
    hk (fun cx=>cx.v (ex_ext (x:=.tmp 23) rfl (cx.u 0 rfl) rfl) rfl (congrArg Value.bool Ffk3.out)) <|
    kmu 0 <|
    kmu 0 <|
    hn) ?_
   intro a7 w7 f7
   refine wp_seq ?_
   refine go_reg [] [] [oF] mo f7.d f7.z f7.b (by kernel_rfl) trivial (
    hk (fun cx=>cx.q (ex_mv rfl (cx.rq 11 (f7.v 8 rfl rfl rfl)))) <|
    hn) ?_
   intro a8 w8 f8
   refine wp_cond_false (f8.v 0 rfl rfl rfl) ?_
   refine wp_skip ?_
   refine wp_seq ?_
   have b_g2_16:=f8.k (f7.k (f6.k b_g2))
   have s3_17:=f8.q 3 (f7.q 3 s3_15)
   have s8_18:=f8.q 8 (f7.q 8 (f6.q 8 u_g2))
   refine go_reg [⟨g2,31,(tyC tZ),some 3,(tyC (scT (bytesC size)))⟩] [] [some (.int .i64 size),some (.agg (scC (bytesC size))),some (.agg (tyC (scT (bytesC size)))),none,some (.int .i64 0)] mo f8.d f8.z f8.b (by kernel_rfl) ⟨b_g2_16,trivial⟩ (
    hk (fun cx=>cx.q (ex_mv rfl (cx.rq 3 s3_17))) <|
    hc (fun _ _ wx cx=>cx.c rfl (args1 (cx.u 0 rfl)) Try.func33 (by decide +kernel) (vbytes_n size wx) rfl rfl) <|
    hc (fun _ _ wx cx=>cx.c rfl (args1 (cx.u 0 rfl)) Try.func32 (by decide +kernel) (sct_n (bytesC size) wx) rfl rfl) <|
    hk (fun cx=>cx.stR (wn rfl) rfl rfl 0 rfl (cx.rq 8 s8_18) (cx.u 0 rfl) (by kernel_rfl) (Eq.refl 9) (tyC_one _) q_g2 rfl trivial trivial) <|
    hk (fun cx=>cx.q (ex_as rfl rfl)) <|
    hn) ?_
   intro a9 w9 f9
   refine wp_ret ?_
   have s8_19:=f9.q 8 s8_18
   try simp only [Exit.inBlock,Exit.then]
   refine bodyPost_ret (res_ct (fn:=Try.f7) rfl s8_19 (load_row 31 f9.rows.1 Try.underlying31 rfl (by kernel_rfl)) (f9.v 4 rfl rfl rfl)) f9.d ?_
   have HE:(.tuple #[.agg (tyC (scT (bytesC size))),.int .i64 0]:Value)=.tuple #[.agg (tyC (loadR a lo hi size)),.int .i64 (loadE a lo hi size)]:=by unfold loadR loadE loadT placeB;simp only [Ffk1.out,Ffk2.out,Ffk3.out,Bool.true_and,Bool.and_true,Bool.false_and,Bool.and_false,Bool.or_false,Bool.false_or,Bool.true_or,Bool.or_true,Bool.not_true,Bool.not_false,if_true,if_false,Bool.false_eq_true,Bool.true_eq_false,reduceCtorEq];try rfl
   exact ⟨retV HE,f9.b⟩
  have Ffk3:=Lib.hid fk3;clear fk3
  have hxd:=exact_bd Ffk3.out
  have hxn:exN lo hi size=lo / 8:=by unfold exN;rw [Ffk3.out];rfl
  have s1_20:=f6.q 1 s1_10
  have s2_21:=f6.q 2 s2_11
  have s3_22:=f6.q 3 s3_12
  refine go_reg [] [] [some (.int .i64 lo),some (.int .i64 hi),some (.int .i64 size),some (.tuple #[.int .i64 (exN lo hi size),.bool (exactB lo hi size)]),some (.tuple #[.int .i64 (exN lo hi size),.bool (exactB lo hi size)]),some (.int .i64 (exN lo hi size)),oT,some (.int .i64 (exN lo hi size)),oT] mo f6.d f6.z f6.b (by kernel_rfl) trivial (
   hk (fun cx=>cx.q (ex_mv rfl (cx.rq 1 s1_20))) <|
   hk (fun cx=>cx.q (ex_mv rfl (cx.rq 2 s2_21))) <|
   hk (fun cx=>cx.q (ex_mv rfl (cx.rq 3 s3_22))) <|
   hc (fun _ _ wx cx=>cx.c rfl (args3 (cx.u 0 rfl) (cx.u 1 rfl) (cx.u 2 rfl)) Try.func31 (by decide +kernel) (whole_n lo hi size wx (show 0 ≤ lo by omega) (show lo < 9223372036854775808 by omega)) rfl rfl) <|
   kmu 0 <|
   hk (fun cx=>cx.q (ex_ext (x:=.tmp 23) rfl (cx.u 0 rfl) rfl)) <|
   hk (fun cx=>cx.v (ex_ext (x:=.tmp 23) rfl (cx.u 0 rfl) rfl) rfl (congrArg Value.bool Ffk3.out)) <|
   kmu 0 <|
   kmu 0 <|
   hn) ?_
  intro a10 w10 f10
  refine wp_seq ?_
  refine go_reg [] [] [oT] mo f10.d f10.z f10.b (by kernel_rfl) trivial (
   hk (fun cx=>cx.q (ex_mv rfl (cx.rq 11 (f10.v 8 rfl rfl rfl)))) <|
   hn) ?_
  intro a11 w11 f11
  refine wp_cond_true (f11.v 0 rfl rfl rfl) ?_
  refine wp_seq ?_
  have b_g1_23:=f11.k (f10.k (f6.k b_g1))
  have b_g2_24:=f11.k (f10.k (f6.k b_g2))
  have s10_25:=f11.q 10 (f10.v 7 rfl rfl rfl)
  have s4_26:=f11.q 4 (f10.q 4 (f6.q 4 u_g1))
  have s8_27:=f11.q 8 (f10.q 8 (f6.q 8 u_g2))
  refine go_reg [bx g1 35 (stC a),⟨g2,31,(tyC tZ),some 4,(tyC (a (11 + (lo / 8).toNat)))⟩] [] [some (.int .i64 (exN lo hi size)),some (pt g1 99),some (pt g1 (9 * (11 + (lo / 8).toNat))),some (.agg (tyC (a (11 + (lo / 8).toNat)))),none,some (.int .i64 0)] mo f11.d f11.z f11.b (by kernel_rfl) ⟨b_g1_23,b_g2_24,trivial⟩ (
   hk (fun cx=>cx.q (ex_mv rfl (cx.rq 10 s10_25))) <|
   hk (fun cx=>cx.q (ex_fa rfl (cx.rq 4 s4_26) (faStF35_1_0 _ _))) <|
   hk (fun cx=>cx.v (ex_ia (n:=8) (sz:=9) rfl (cx.u 0 rfl) (cx.u 1 rfl) Try.underlying33 (by kernel_rfl) (by omega) (by omega) (by omega)) rfl rfl) <|
   hk (fun cx=>cx.v (ldEl (by omega) rfl (cx.u 0 rfl) (cx.rn 0 rfl)) rfl rfl) <|
   hk (fun cx=>cx.stR (wn rfl) rfl rfl 1 rfl (cx.rq 8 s8_27) (cx.u 0 rfl) (by kernel_rfl) (Eq.refl 9) (tyC_one _) q_g2 rfl ⟨(ne_ptr (pairAt f1.ps 0 1 (by decide) rfl rfl) u_g1 u_g2),trivial⟩ trivial) <|
   hk (fun cx=>cx.q (ex_as rfl rfl)) <|
   hn) ?_
  intro a12 w12 f12
  refine wp_ret ?_
  have s8_28:=f12.q 8 s8_27
  try simp only [Exit.inBlock,Exit.then]
  refine bodyPost_ret (res_ct (fn:=Try.f7) rfl s8_28 (load_row 31 f12.rows.2.1 Try.underlying31 rfl (by kernel_rfl)) (f12.v 5 rfl rfl rfl)) f12.d ?_
  have HE:(.tuple #[.agg (tyC (a (11 + (lo / 8).toNat))),.int .i64 0]:Value)=.tuple #[.agg (tyC (loadR a lo hi size)),.int .i64 (loadE a lo hi size)]:=by unfold loadR loadE loadT placeB;simp only [Ffk1.out,Ffk2.out,Ffk3.out,Bool.true_and,Bool.and_true,Bool.false_and,Bool.and_false,Bool.or_false,Bool.false_or,Bool.true_or,Bool.or_true,Bool.not_true,Bool.not_false,if_true,if_false,Bool.false_eq_true,Bool.true_eq_false,reduceCtorEq];try rfl
  exact ⟨retV HE,f12.b⟩
set_option maxHeartbeats 4000000 in
theorem tstore_n (a:St) (lo hi size:Int) (t:Ty) (W:World):Calls Try.prog 9 #[.agg (stC a),.int .i64 lo,.int .i64 hi,.int .i64 size,.agg (tyC t)] W fun e w'=>e=.returned (.tuple #[.agg (stC (storeR a lo hi size t)),.int .i64 (storeE a lo hi size t)]) ∧ Below W.heap.size W w':=by
  refine calls_abs Try.func9 rfl (Nat.le_of_ble_eq_true rfl) ?_
  intro a0 d0 z0 h0
  replace z0:a0.tmps.size=66:=z0
  have s0_0:a0.tmps.getD 0 undef=.agg (stC a):=h0 0 (Nat.le_of_ble_eq_true rfl)
  have s1_0:a0.tmps.getD 1 undef=.int .i64 lo:=h0 1 (Nat.le_of_ble_eq_true rfl)
  have s2_0:a0.tmps.getD 2 undef=.int .i64 hi:=h0 2 (Nat.le_of_ble_eq_true rfl)
  have s3_0:a0.tmps.getD 3 undef=.int .i64 size:=h0 3 (Nat.le_of_ble_eq_true rfl)
  have s4_0:a0.tmps.getD 4 undef=.agg (tyC t):=h0 4 (Nat.le_of_ble_eq_true rfl)
  refine wp_seq ?_
  refine go_reg [] [⟨0,5,35,(stC a),none,#[]⟩,⟨1,9,31,(tyC t),none,#[]⟩,⟨2,10,35,(stC zS),none,#[]⟩] [none,none,none,some (.int .i64 0)] mo d0 z0 (Below.refl _ _) (by kernel_rfl) trivial (
   hk (fun cx=>cx.al (wn rfl) 0 rfl (ex_box rfl (cx.rq 0 s0_0) rfl) rfl rfl rfl rfl rfl trivial) <|
   hk (fun cx=>cx.al (wn rfl) 1 rfl (ex_box rfl (cx.rq 4 s4_0) rfl) rfl rfl rfl rfl rfl trivial) <|
   hk (fun cx=>cx.al (wn rfl) 2 rfl (al_st rfl) rfl rfl rfl rfl rfl trivial) <|
   hk (fun cx=>cx.q (ex_as rfl rfl)) <|
   hn) ?_
  intro a1 w1 f1
  obtain ⟨g1,u_g1,q_g1,b_g1⟩:=f1.al.1
  obtain ⟨g2,u_g2,q_g2,b_g2⟩:=f1.al.2.1
  obtain ⟨g3,u_g3,q_g3,b_g3⟩:=f1.al.2.2.1
  refine wp_seq ?_
  refine wp_seq ?_
  cases fk1:okS a
  case false=>
   have Ffk1:=Lib.hid fk1;clear fk1
   refine go_reg [bx g1 35 (stC a)] [] [some (.agg (stC a)),oF,oT,oT,oU,oU,oU,oU,oU,oT,oT,oU,oU,oU,oT,oT,oU,oU,oT] mo f1.d f1.z f1.b (by kernel_rfl) ⟨b_g1,trivial⟩ (
    hk (fun cx=>cx.q (ldSt rfl (cx.rq 5 u_g1) (cx.rn 0 rfl))) <|
    hc (fun _ _ wx cx=>cx.c rfl (args1 (cx.u 0 rfl)) Try.func15 (by decide +kernel) (tmay_n a wx) rfl (congrArg Value.bool Ffk1.out)) <|
    hk (fun cx=>cx.q (ex_not (x:=.tmp 17) rfl (cx.u 0 rfl))) <|
    kmu 0 <|
    kno 0 <|
    kno 0 <|
    kno 0 <|
    kno 3 <|
    kno 1 <|
    hk (fun cx=>cx.q (ex_pt rfl (cx.u 0 rfl) rfl)) <|
    kmu 0 <|
    kno 0 <|
    kno 1 <|
    kno 1 <|
    hk (fun cx=>cx.q (ex_pt rfl (cx.u 0 rfl) rfl)) <|
    kmu 0 <|
    kno 0 <|
    kno 1 <|
    hk (fun cx=>cx.q (ex_pt rfl (cx.u 0 rfl) rfl)) <|
    hn) ?_
   intro a2 w2 f2
   refine wp_cond_true (f2.v 18 rfl rfl rfl) ?_
   refine wp_seq ?_
   have b_g3_1:=f2.k b_g3
   have s10_2:=f2.q 10 u_g3
   refine go_reg [⟨g3,35,(stC zS),some 1,(stC zS)⟩] [] [some (.agg (stC zS)),none,some (.int .i64 2)] mo f2.d f2.z f2.b (by kernel_rfl) ⟨b_g3_1,trivial⟩ (
    hk (fun cx=>cx.q (ex_zst rfl)) <|
    hk (fun cx=>cx.stR (wn rfl) rfl rfl 0 rfl (cx.rq 10 s10_2) (cx.u 0 rfl) (st_info _) ((stC_size _).trans (stC_size _).symm) (stC_one _) q_g3 rfl trivial trivial) <|
    hk (fun cx=>cx.q (ex_as rfl rfl)) <|
    hn) ?_
   intro a3 w3 f3
   refine wp_ret ?_
   have s10_3:=f3.q 10 s10_2
   try simp only [Exit.inBlock,Exit.then]
   refine bodyPost_ret (res_ct (fn:=Try.f9) rfl s10_3 (load_row 35 f3.rows.1 Try.underlying35 rfl (st_info _)) (f3.v 2 rfl rfl rfl)) f3.d ?_
   have HE:(.tuple #[.agg (stC zS),.int .i64 2]:Value)=.tuple #[.agg (stC (storeR a lo hi size t)),.int .i64 (storeE a lo hi size t)]:=by unfold storeR storeE storeB storeS placeB;simp only [Ffk1.out,Bool.true_and,Bool.and_true,Bool.false_and,Bool.and_false,Bool.or_false,Bool.false_or,Bool.true_or,Bool.or_true,Bool.not_true,Bool.not_false,if_true,if_false,Bool.false_eq_true,Bool.true_eq_false,reduceCtorEq];try rfl
   exact ⟨retV HE,f3.b⟩
  have Ffk1:=Lib.hid fk1;clear fk1
  cases fk2:withinB lo hi size
  case false=>
   have Ffk2:=Lib.hid fk2;clear fk2
   have s1_4:=f1.q 1 s1_0
   have s2_5:=f1.q 2 s2_0
   have s3_6:=f1.q 3 s3_0
   refine go_reg [bx g1 35 (stC a)] [] [some (.agg (stC a)),oT,oF,oF,some (.int .i64 lo),some (.int .i64 hi),some (.int .i64 size),oF,oT,oT,oT,oU,oU,oU,oT,oT,oU,oU,oT] mo f1.d f1.z f1.b (by kernel_rfl) ⟨b_g1,trivial⟩ (
    hk (fun cx=>cx.q (ldSt rfl (cx.rq 5 u_g1) (cx.rn 0 rfl))) <|
    hc (fun _ _ wx cx=>cx.c rfl (args1 (cx.u 0 rfl)) Try.func15 (by decide +kernel) (tmay_n a wx) rfl (congrArg Value.bool Ffk1.out)) <|
    hk (fun cx=>cx.q (ex_not (x:=.tmp 17) rfl (cx.u 0 rfl))) <|
    kmu 0 <|
    hk (fun cx=>cx.vy 0 (ex_mv rfl (cx.rq 1 s1_4))) <|
    hk (fun cx=>cx.vy 0 (ex_mv rfl (cx.rq 2 s2_5))) <|
    hk (fun cx=>cx.vy 0 (ex_mv rfl (cx.rq 3 s3_6))) <|
    hc (fun _ _ wx cx=>cx.call (cx.wy rfl rfl rfl rfl (cx.u 3 rfl)) rfl rfl (args3 (cx.u 0 rfl) (cx.u 1 rfl) (cx.u 2 rfl)) Try.func30 (by decide +kernel) rfl (within_n lo hi size wx) rfl rfl (congrArg Value.bool Ffk2.out) rfl) <|
    hk (fun cx=>cx.vy 1 (ex_not (x:=.tmp 23) rfl (cx.u 0 rfl))) <|
    hk (fun cx=>cx.q (ex_pf rfl (cx.u 0 rfl) (cx.u 1 rfl))) <|
    kmu 0 <|
    kno 0 <|
    kno 1 <|
    kno 1 <|
    hk (fun cx=>cx.q (ex_pt rfl (cx.u 0 rfl) rfl)) <|
    kmu 0 <|
    kno 0 <|
    kno 1 <|
    hk (fun cx=>cx.q (ex_pt rfl (cx.u 0 rfl) rfl)) <|
    hn) ?_
   intro a4 w4 f4
   refine wp_cond_true (f4.v 18 rfl rfl rfl) ?_
   refine wp_seq ?_
   have b_g3_7:=f4.k b_g3
   have s10_8:=f4.q 10 u_g3
   refine go_reg [⟨g3,35,(stC zS),some 1,(stC zS)⟩] [] [some (.agg (stC zS)),none,some (.int .i64 2)] mo f4.d f4.z f4.b (by kernel_rfl) ⟨b_g3_7,trivial⟩ (
    hk (fun cx=>cx.q (ex_zst rfl)) <|
    hk (fun cx=>cx.stR (wn rfl) rfl rfl 0 rfl (cx.rq 10 s10_8) (cx.u 0 rfl) (st_info _) ((stC_size _).trans (stC_size _).symm) (stC_one _) q_g3 rfl trivial trivial) <|
    hk (fun cx=>cx.q (ex_as rfl rfl)) <|
    hn) ?_
   intro a5 w5 f5
   refine wp_ret ?_
   have s10_9:=f5.q 10 s10_8
   try simp only [Exit.inBlock,Exit.then]
   refine bodyPost_ret (res_ct (fn:=Try.f9) rfl s10_9 (load_row 35 f5.rows.1 Try.underlying35 rfl (st_info _)) (f5.v 2 rfl rfl rfl)) f5.d ?_
   have HE:(.tuple #[.agg (stC zS),.int .i64 2]:Value)=.tuple #[.agg (stC (storeR a lo hi size t)),.int .i64 (storeE a lo hi size t)]:=by unfold storeR storeE storeB storeS placeB;simp only [Ffk1.out,Ffk2.out,Bool.true_and,Bool.and_true,Bool.false_and,Bool.and_false,Bool.or_false,Bool.false_or,Bool.true_or,Bool.or_true,Bool.not_true,Bool.not_false,if_true,if_false,Bool.false_eq_true,Bool.true_eq_false,reduceCtorEq];try rfl
   exact ⟨retV HE,f5.b⟩
  have Ffk2:=Lib.hid fk2;clear fk2
  have hbd:=within_bd Ffk2.out
  obtain ⟨l0,el⟩:∃ n:Nat,lo / 8=(n:Int):=⟨(lo / 8).toNat,by omega⟩
  obtain ⟨h0,eh⟩:∃ n:Nat,(hi + size - 1) / 8=(n:Int):=⟨((hi + size - 1) / 8).toNat,by omega⟩
  have hlh:l0 ≤ h0 ∧ h0 < 8:=by omega
  cases fk3:Ty.okB t
  case false=>
   have Ffk3:=Lib.hid fk3;clear fk3
   have s1_10:=f1.q 1 s1_0
   have s2_11:=f1.q 2 s2_0
   have s3_12:=f1.q 3 s3_0
   refine go_reg [bx g1 35 (stC a),bx g2 31 (tyC t)] [] [some (.agg (stC a)),oT,oF,oF,some (.int .i64 lo),some (.int .i64 hi),some (.int .i64 size),oT,oF,oF,oF,some (.agg (tyC t)),oF,oT,oT,oT,oU,oU,oT] mo f1.d f1.z f1.b (by kernel_rfl) ⟨b_g1,b_g2,trivial⟩ (
    hk (fun cx=>cx.q (ldSt rfl (cx.rq 5 u_g1) (cx.rn 0 rfl))) <|
    hc (fun _ _ wx cx=>cx.c rfl (args1 (cx.u 0 rfl)) Try.func15 (by decide +kernel) (tmay_n a wx) rfl (congrArg Value.bool Ffk1.out)) <|
    hk (fun cx=>cx.q (ex_not (x:=.tmp 17) rfl (cx.u 0 rfl))) <|
    kmu 0 <|
    hk (fun cx=>cx.vy 0 (ex_mv rfl (cx.rq 1 s1_10))) <|
    hk (fun cx=>cx.vy 0 (ex_mv rfl (cx.rq 2 s2_11))) <|
    hk (fun cx=>cx.vy 0 (ex_mv rfl (cx.rq 3 s3_12))) <|
    hc (fun _ _ wx cx=>cx.call (cx.wy rfl rfl rfl rfl (cx.u 3 rfl)) rfl rfl (args3 (cx.u 0 rfl) (cx.u 1 rfl) (cx.u 2 rfl)) Try.func30 (by decide +kernel) rfl (within_n lo hi size wx) rfl rfl (congrArg Value.bool Ffk2.out) rfl) <|
    hk (fun cx=>cx.vy 1 (ex_not (x:=.tmp 23) rfl (cx.u 0 rfl))) <|
    hk (fun cx=>cx.q (ex_pf rfl (cx.u 0 rfl) (cx.u 1 rfl))) <|
    kmu 0 <|
    hk (fun cx=>cx.vy 0 (ldTy rfl (cx.rq 9 u_g2) (cx.rn 1 rfl))) <|
    hc (fun _ _ wx cx=>cx.call (cx.wy rfl rfl rfl rfl (cx.u 1 rfl)) rfl rfl (args1 (cx.u 0 rfl)) Try.func17 (by decide +kernel) rfl (ttype_n t wx) rfl rfl (congrArg Value.bool Ffk3.out) rfl) <|
    hk (fun cx=>cx.vy 1 (ex_not (x:=.tmp 28) rfl (cx.u 0 rfl))) <|
    hk (fun cx=>cx.q (ex_pf rfl (cx.u 0 rfl) (cx.u 1 rfl))) <|
    kmu 0 <|
    kno 0 <|
    kno 1 <|
    hk (fun cx=>cx.q (ex_pt rfl (cx.u 0 rfl) rfl)) <|
    hn) ?_
   intro a6 w6 f6
   refine wp_cond_true (f6.v 18 rfl rfl rfl) ?_
   refine wp_seq ?_
   have b_g3_13:=f6.k b_g3
   have s10_14:=f6.q 10 u_g3
   refine go_reg [⟨g3,35,(stC zS),some 1,(stC zS)⟩] [] [some (.agg (stC zS)),none,some (.int .i64 2)] mo f6.d f6.z f6.b (by kernel_rfl) ⟨b_g3_13,trivial⟩ (
    hk (fun cx=>cx.q (ex_zst rfl)) <|
    hk (fun cx=>cx.stR (wn rfl) rfl rfl 0 rfl (cx.rq 10 s10_14) (cx.u 0 rfl) (st_info _) ((stC_size _).trans (stC_size _).symm) (stC_one _) q_g3 rfl trivial trivial) <|
    hk (fun cx=>cx.q (ex_as rfl rfl)) <|
    hn) ?_
   intro a7 w7 f7
   refine wp_ret ?_
   have s10_15:=f7.q 10 s10_14
   try simp only [Exit.inBlock,Exit.then]
   refine bodyPost_ret (res_ct (fn:=Try.f9) rfl s10_15 (load_row 35 f7.rows.1 Try.underlying35 rfl (st_info _)) (f7.v 2 rfl rfl rfl)) f7.d ?_
   have HE:(.tuple #[.agg (stC zS),.int .i64 2]:Value)=.tuple #[.agg (stC (storeR a lo hi size t)),.int .i64 (storeE a lo hi size t)]:=by unfold storeR storeE storeB storeS placeB;simp only [Ffk1.out,Ffk2.out,Ffk3.out,Bool.true_and,Bool.and_true,Bool.false_and,Bool.and_false,Bool.or_false,Bool.false_or,Bool.true_or,Bool.or_true,Bool.not_true,Bool.not_false,if_true,if_false,Bool.false_eq_true,Bool.true_eq_false,reduceCtorEq];try rfl
   exact ⟨retV HE,f7.b⟩
  have Ffk3:=Lib.hid fk3;clear fk3
  cases fk4:Ty.unB t
  case false=>
   have Ffk4:=Lib.hid fk4;clear fk4
   have s1_16:=f1.q 1 s1_0
   have s2_17:=f1.q 2 s2_0
   have s3_18:=f1.q 3 s3_0
   refine go_reg [bx g1 35 (stC a),bx g2 31 (tyC t)] [] [some (.agg (stC a)),oT,oF,oF,some (.int .i64 lo),some (.int .i64 hi),some (.int .i64 size),oT,oF,oF,oF,some (.agg (tyC t)),oT,oF,oF,oF,some (.agg (tyC t)),oF,oF] mo f1.d f1.z f1.b (by kernel_rfl) ⟨b_g1,b_g2,trivial⟩ (
    hk (fun cx=>cx.q (ldSt rfl (cx.rq 5 u_g1) (cx.rn 0 rfl))) <|
    hc (fun _ _ wx cx=>cx.c rfl (args1 (cx.u 0 rfl)) Try.func15 (by decide +kernel) (tmay_n a wx) rfl (congrArg Value.bool Ffk1.out)) <|
    hk (fun cx=>cx.q (ex_not (x:=.tmp 17) rfl (cx.u 0 rfl))) <|
    kmu 0 <|
    hk (fun cx=>cx.vy 0 (ex_mv rfl (cx.rq 1 s1_16))) <|
    hk (fun cx=>cx.vy 0 (ex_mv rfl (cx.rq 2 s2_17))) <|
    hk (fun cx=>cx.vy 0 (ex_mv rfl (cx.rq 3 s3_18))) <|
    hc (fun _ _ wx cx=>cx.call (cx.wy rfl rfl rfl rfl (cx.u 3 rfl)) rfl rfl (args3 (cx.u 0 rfl) (cx.u 1 rfl) (cx.u 2 rfl)) Try.func30 (by decide +kernel) rfl (within_n lo hi size wx) rfl rfl (congrArg Value.bool Ffk2.out) rfl) <|
    hk (fun cx=>cx.vy 1 (ex_not (x:=.tmp 23) rfl (cx.u 0 rfl))) <|
    hk (fun cx=>cx.q (ex_pf rfl (cx.u 0 rfl) (cx.u 1 rfl))) <|
    kmu 0 <|
    hk (fun cx=>cx.vy 0 (ldTy rfl (cx.rq 9 u_g2) (cx.rn 1 rfl))) <|
    hc (fun _ _ wx cx=>cx.call (cx.wy rfl rfl rfl rfl (cx.u 1 rfl)) rfl rfl (args1 (cx.u 0 rfl)) Try.func17 (by decide +kernel) rfl (ttype_n t wx) rfl rfl (congrArg Value.bool Ffk3.out) rfl) <|
    hk (fun cx=>cx.vy 1 (ex_not (x:=.tmp 28) rfl (cx.u 0 rfl))) <|
    hk (fun cx=>cx.q (ex_pf rfl (cx.u 0 rfl) (cx.u 1 rfl))) <|
    kmu 0 <|
    hk (fun cx=>cx.vy 0 (ldTy rfl (cx.rq 9 u_g2) (cx.rn 1 rfl))) <|
    hc (fun _ _ wx cx=>cx.call (cx.wy rfl rfl rfl rfl (cx.u 1 rfl)) rfl rfl (args1 (cx.u 0 rfl)) Try.func36 (by decide +kernel) rfl (unset_n t wx) rfl rfl (congrArg Value.bool Ffk4.out) rfl) <|
    hk (fun cx=>cx.q (ex_pf rfl (cx.u 0 rfl) (cx.u 1 rfl))) <|
    hn) ?_
   intro a8 w8 f8
   refine wp_cond_false (f8.v 18 rfl rfl rfl) ?_
   refine wp_skip ?_
   refine wp_seq ?_
   refine wp_seq ?_
   cases fk5:exactB lo hi size
   case false=>
    have Ffk5:=Lib.hid fk5;clear fk5
    have s1_19:=f8.q 1 s1_16
    have s2_20:=f8.q 2 s2_17
    have s3_21:=f8.q 3 s3_18
    refine go_reg [] [] [some (.int .i64 lo),some (.int .i64 hi),some (.int .i64 size),some (.tuple #[.int .i64 (exN lo hi size),.bool (exactB lo hi size)]),some (.tuple #[.int .i64 (exN lo hi size),.bool (exactB lo hi size)]),some (.int .i64 (exN lo hi size)),oF,some (.int .i64 (exN lo hi size)),oF] mo f8.d f8.z f8.b (by kernel_rfl) trivial (
     hk (fun cx=>cx.q (ex_mv rfl (cx.rq 1 s1_19))) <|
     hk (fun cx=>cx.q (ex_mv rfl (cx.rq 2 s2_20))) <|
     hk (fun cx=>cx.q (ex_mv rfl (cx.rq 3 s3_21))) <|
     hc (fun _ _ wx cx=>cx.c rfl (args3 (cx.u 0 rfl) (cx.u 1 rfl) (cx.u 2 rfl)) Try.func31 (by decide +kernel) (whole_n lo hi size wx (show 0 ≤ lo by omega) (show lo < 9223372036854775808 by omega)) rfl rfl) <|
     kmu 0 <|
     hk (fun cx=>cx.q (ex_ext (x:=.tmp 36) rfl (cx.u 0 rfl) rfl)) <|
     hk (fun cx=>cx.v (ex_ext (x:=.tmp 36) rfl (cx.u 0 rfl) rfl) rfl (congrArg Value.bool Ffk5.out)) <|
     kmu 0 <|
     kmu 0 <|
     hn) ?_
    intro a9 w9 f9
    refine wp_seq ?_
    refine go_reg [] [] [oF] mo f9.d f9.z f9.b (by kernel_rfl) trivial (
     hk (fun cx=>cx.q (ex_mv rfl (cx.rq 13 (f9.v 8 rfl rfl rfl)))) <|
     hn) ?_
    intro a10 w10 f10
    refine wp_cond_false (f10.v 0 rfl rfl rfl) ?_
    refine wp_skip ?_
    refine wp_seq ?_
    have s2_22:=f10.q 2 (f9.q 2 s2_20)
    have s3_23:=f10.q 3 (f9.q 3 s3_21)
    refine go_reg [] [] [some (.int .i64 hi),some (.int .i64 size),some (.int .i64 (hi + size)),some (.int .i64 (hi + size - 1)),some (.int .i64 (h0:Int)),some (.int .i64 (h0:Int))] mo f10.d f10.z f10.b (by kernel_rfl) trivial (
     hk (fun cx=>cx.q (ex_mv rfl (cx.rq 2 s2_22))) <|
     hk (fun cx=>cx.q (ex_mv rfl (cx.rq 3 s3_23))) <|
     hk (fun cx=>cx.v (ex_add (x:=.tmp 49) (y:=.tmp 50) rfl (cx.u 0 rfl) (cx.u 1 rfl)) rfl (congrArg (Value.int .i64) (by rw [IntKind.wrap_i64];omega))) <|
     hk (fun cx=>cx.v (ex_sub (x:=.tmp 51) rfl (cx.u 0 rfl) rfl) rfl (congrArg (Value.int .i64) (by rw [IntKind.wrap_i64];omega))) <|
     hk (fun cx=>cx.v ((ex_quo (x:=.tmp 52) rfl (cx.u 0 rfl) rfl (by omega) (by decide) (by omega)).trans (by rw [eh])) rfl rfl) <|
     kmu 0 <|
     hn) ?_
    intro a11 w11 f11
    refine wp_seq ?_
    refine wp_seq ?_
    have s1_24:=f11.q 1 (f10.q 1 (f9.q 1 s1_19))
    refine go_reg [] [] [some (.int .i64 lo),some (.int .i64 (l0:Int)),some (.int .i64 (l0:Int))] mo f11.d f11.z f11.b (by kernel_rfl) trivial (
     hk (fun cx=>cx.q (ex_mv rfl (cx.rq 1 s1_24))) <|
     hk (fun cx=>cx.v ((ex_quo (x:=.tmp 54) rfl (cx.u 0 rfl) rfl (by omega) (by decide) (by omega)).trans (by rw [el])) rfl rfl) <|
     kmu 0 <|
     hn) ?_
    intro a12 w12 f12
    refine wp_block ?_
    have neL1_0_1:=(ne_ptr (pairAt f1.ps 0 1 (by decide) rfl rfl) u_g1 u_g2)
    have neL1_0_2:=(ne_ptr (pairAt f1.ps 0 2 (by decide) rfl rfl) u_g1 u_g3)
    have neL1_1_2:=(ne_ptr (pairAt f1.ps 1 2 (by decide) rfl rfl) u_g2 u_g3)
    have s5_25:=f12.q 5 (f11.q 5 (f10.q 5 (f9.q 5 (f8.q 5 u_g1))))
    have s10_26:=f12.q 10 (f11.q 10 (f10.q 10 (f9.q 10 (f8.q 10 u_g3))))
    have s11_27:=f12.q 11 (f11.q 11 (f10.q 11 (f9.q 11 (f8.q 11 (f1.v 3 rfl rfl rfl)))))
    have s14_28:=f12.q 14 (f11.v 5 rfl rfl rfl)
    have b_g1_29:=f12.k (f11.k (f10.k (f9.k (f8.k b_g1))))
    have b_g2_30:=f12.k (f11.k (f10.k (f9.k (f8.k b_g2))))
    have b_g3_31:=f12.k (f11.k (f10.k (f9.k (f8.k b_g3))))
    refine wp_count (h0 + 1 - l0) (fun k1 aI wI=>True ∧ Mid 66 W [(5,.pointer (some ⟨g1,0,none⟩)),(10,.pointer (some ⟨g3,0,none⟩)),(11,.int .i64 0),(14,.int .i64 (h0:Int)),(15,.int .i64 ((l0 + k1:Nat):Int))] [(g1,35,(stC (fillT a (11 + l0) k1 allT))),(g2,31,(tyC t)),(g3,35,(stC zS))] aI wI) ⟨trivial,f12.d,f12.z,f12.b,⟨s5_25,s10_26,s11_27,s14_28,(f12.v 2 rfl rfl rfl),trivial⟩,⟨(row_eq b_g1_29 (congrArg stC (fill_0 _ _ _).symm)),b_g2_30,b_g3_31,trivial⟩⟩ ?_
    intro k1 aL1 wL1 hlek1 hI1
    obtain ⟨hp1,dL1,zL1,BL1,⟨sL1_5,sL1_10,sL1_11,sL1_14,sL1_15,-⟩,⟨bL1_g1,bL1_g2,bL1_g3,-⟩⟩:=hI1
    replace sL1_5:aL1.tmps.getD 5 undef=.pointer (some ⟨g1,0,none⟩):=sL1_5
    replace sL1_10:aL1.tmps.getD 10 undef=.pointer (some ⟨g3,0,none⟩):=sL1_10
    replace sL1_11:aL1.tmps.getD 11 undef=.int .i64 0:=sL1_11
    replace sL1_14:aL1.tmps.getD 14 undef=.int .i64 (h0:Int):=sL1_14
    replace sL1_15:aL1.tmps.getD 15 undef=.int .i64 ((l0 + k1:Nat):Int):=sL1_15
    replace bL1_g1:wL1.heap[g1]?=some (.cells (stC (fillT a (11 + l0) k1 allT)) 35 (0,0)):=bL1_g1
    replace bL1_g2:wL1.heap[g2]?=some (.cells (tyC t) 31 (0,0)):=bL1_g2
    replace bL1_g3:wL1.heap[g3]?=some (.cells (stC zS) 35 (0,0)):=bL1_g3
    refine wp_seq ?_
    refine wp_seq ?_
    cases fk6:decide (((l0 + k1:Nat):Int) ≤ (h0:Int))
    case true=>
     have Ffk6:=Lib.hid fk6;clear fk6
     have hlt1:k1 < h0 + 1 - l0:=by have:=Ffk6.out;simp only [decide_eq_true_eq] at this;omega
     refine go_reg [] [] [some (.int .i64 ((l0 + k1:Nat):Int)),some (.int .i64 (h0:Int)),oT] mo dL1 zL1 BL1 (by kernel_rfl) trivial (
      hk (fun cx=>cx.q (ex_mv rfl (cx.rq 15 sL1_15))) <|
      hk (fun cx=>cx.q (ex_mv rfl (cx.rq 14 sL1_14))) <|
      hk (fun cx=>cx.v (ex_le (x:=.tmp 56) (y:=.tmp 57) rfl (cx.u 0 rfl) (cx.u 1 rfl)) rfl (congrArg Value.bool Ffk6.out)) <|
      hn) ?_
     intro a13 w13 f13
     refine wp_cond_true (f13.v 2 rfl rfl rfl) ?_
     refine wp_skip ?_
     refine wp_seq ?_
     refine wp_block ?_
     have b_g1_32:=f13.k bL1_g1
     have s15_33:=f13.q 15 sL1_15
     have s5_34:=f13.q 5 sL1_5
     refine go_reg [⟨g1,35,(stC (fillT a (11 + l0) k1 allT)),some 4,(stC (upS (fillT a (11 + l0) k1 allT) (11 + (l0 + k1)) allT))⟩] [] [some (.int .i64 ((l0 + k1:Nat):Int)),some (.agg (tyC allT)),some (pt g1 99),some (pt g1 (9 * (11 + (l0 + k1)))),none] mo f13.d f13.z f13.b (by kernel_rfl) ⟨b_g1_32,trivial⟩ (
      hk (fun cx=>cx.q (ex_mv rfl (cx.rq 15 s15_33))) <|
      hc (fun _ _ wx cx=>cx.c rfl (args0 ) Try.func13 (by decide +kernel) (tscalar_n wx) rfl rfl) <|
      hk (fun cx=>cx.q (ex_fa rfl (cx.rq 5 s5_34) (faStF35_1_0 _ _))) <|
      hk (fun cx=>cx.v (ex_ia (n:=8) (sz:=9) rfl (cx.u 0 rfl) (cx.u 1 rfl) Try.underlying33 (by kernel_rfl) (by omega) (by omega) (by omega)) rfl rfl) <|
      hk (fun cx=>cx.stP (wn rfl) rfl rfl 0 rfl (cx.u 0 rfl) (cx.u 1 rfl) (tyC_one _) (by kernel_rfl) (by rw [stC_size];show _ + 9 ≤ _;omega) (stC_set _ (by omega) _) q_g1 rfl trivial trivial) <|
      hn) ?_
     intro a14 w14 f14
     have s15_35:=f14.q 15 s15_33
     refine go_reg [] [] [some (.int .i64 ((l0 + k1:Nat):Int)),some (.int .i64 ((l0 + (k1 + 1):Nat):Int)),some (.int .i64 ((l0 + (k1 + 1):Nat):Int))] mo f14.d f14.z f14.b (by kernel_rfl) trivial (
      hk (fun cx=>cx.q (ex_mv rfl (cx.un 2 rfl rfl (by kernel_rfl) s15_35))) <|
      hk (fun cx=>cx.v (ex_add (x:=.tmp 59) rfl (cx.u 0 rfl) rfl) rfl (congrArg (Value.int .i64) (by rw [IntKind.wrap_i64];omega))) <|
      kmu 0 <|
      hn) ?_
     intro a15 w15 f15
     have s5_36:=f15.q 5 (f14.q 5 s5_34)
     have s10_37:=f15.q 10 (f14.q 10 (f13.q 10 sL1_10))
     have s11_38:=f15.q 11 (f14.q 11 (f13.q 11 sL1_11))
     have s14_39:=f15.q 14 (f14.q 14 (f13.q 14 sL1_14))
     have b_g1_40:=f15.k f14.rows.1
     have b_g2_41:=f15.k (f14.kp (f13.k bL1_g2) ⟨.inr neL1_0_1.symm,trivial⟩)
     have b_g3_42:=f15.k (f14.kp (f13.k bL1_g3) ⟨.inr neL1_0_2.symm,trivial⟩)
     exact ⟨hlt1,trivial,f15.d,f15.z,f15.b,⟨s5_36,s10_37,s11_38,s14_39,(f15.v 2 rfl rfl rfl),trivial⟩,⟨(row_eq b_g1_40 (congrArg stC (by rw [← Nat.add_assoc,fill_step]))),b_g2_41,b_g3_42,trivial⟩⟩
    have Ffk6:=Lib.hid fk6;clear fk6
    have hge1:k1=h0 + 1 - l0:=by have:=Ffk6.out;simp only [decide_eq_false_iff_not] at this;omega
    refine go_reg [] [] [some (.int .i64 ((l0 + k1:Nat):Int)),some (.int .i64 (h0:Int)),oF] mo dL1 zL1 BL1 (by kernel_rfl) trivial (
     hk (fun cx=>cx.q (ex_mv rfl (cx.rq 15 sL1_15))) <|
     hk (fun cx=>cx.q (ex_mv rfl (cx.rq 14 sL1_14))) <|
     hk (fun cx=>cx.v (ex_le (x:=.tmp 56) (y:=.tmp 57) rfl (cx.u 0 rfl) (cx.u 1 rfl)) rfl (congrArg Value.bool Ffk6.out)) <|
     hn) ?_
    intro a16 w16 f16
    refine wp_cond_false (f16.v 2 rfl rfl rfl) ?_
    refine wp_exit ?_
    simp only [Exit.then,Exit.inBlock,if_true]
    refine wp_seq ?_
    have b_g1_43:=f16.k bL1_g1
    have b_g3_44:=f16.k bL1_g3
    have s5_45:=f16.q 5 sL1_5
    have s10_46:=f16.q 10 sL1_10
    refine go_reg [bx g1 35 (stC (fillT a (11 + l0) k1 allT)),⟨g3,35,(stC zS),some 1,(stC (fillT a (11 + l0) k1 allT))⟩] [] [some (.agg (stC (fillT a (11 + l0) k1 allT))),none,some (.int .i64 0)] mo f16.d f16.z f16.b (by kernel_rfl) ⟨b_g1_43,b_g3_44,trivial⟩ (
     hk (fun cx=>cx.q (ldSt rfl (cx.rq 5 s5_45) (cx.rn 0 rfl))) <|
     hk (fun cx=>cx.stR (wn rfl) rfl rfl 1 rfl (cx.rq 10 s10_46) (cx.u 0 rfl) (st_info _) ((stC_size _).trans (stC_size _).symm) (stC_one _) q_g3 rfl ⟨neL1_0_2,trivial⟩ trivial) <|
     hk (fun cx=>cx.q (ex_as rfl rfl)) <|
     hn) ?_
    intro a17 w17 f17
    refine wp_ret ?_
    have s10_47:=f17.q 10 s10_46
    try simp only [Exit.inBlock,Exit.then]
    refine bodyPost_ret (res_ct (fn:=Try.f9) rfl s10_47 (load_row 35 f17.rows.2.1 Try.underlying35 rfl (st_info _)) (f17.v 2 rfl rfl rfl)) f17.d ?_
    have HB:storeB a lo hi size t=true:=by unfold storeB placeB;simp only [Ffk1.out,Ffk2.out,Ffk3.out,Ffk4.out,Bool.not_false,Bool.true_and]
    have HS:fillT a (11 + l0) k1 allT=storeR a lo hi size t:=by unfold storeR storeS;simp only [HB,Ffk5.out,if_true,if_false,Bool.false_eq_true];rw [hge1,fillS_is hlh.1,el,eh,Int.toNat_natCast,Int.toNat_natCast]
    have HE:(.tuple #[.agg (stC (fillT a (11 + l0) k1 allT)),.int .i64 0]:Value)=.tuple #[.agg (stC (storeR a lo hi size t)),.int .i64 (storeE a lo hi size t)]:=by rw [HS];unfold storeE;rw [HB];rfl
    exact ⟨retV HE,f17.b⟩
   have Ffk5:=Lib.hid fk5;clear fk5
   have hxd:=exact_bd Ffk5.out
   have hxn:exN lo hi size=lo / 8:=by unfold exN;rw [Ffk5.out];rfl
   have s1_48:=f8.q 1 s1_16
   have s2_49:=f8.q 2 s2_17
   have s3_50:=f8.q 3 s3_18
   refine go_reg [] [] [some (.int .i64 lo),some (.int .i64 hi),some (.int .i64 size),some (.tuple #[.int .i64 (exN lo hi size),.bool (exactB lo hi size)]),some (.tuple #[.int .i64 (exN lo hi size),.bool (exactB lo hi size)]),some (.int .i64 (exN lo hi size)),oT,some (.int .i64 (exN lo hi size)),oT] mo f8.d f8.z f8.b (by kernel_rfl) trivial (
    hk (fun cx=>cx.q (ex_mv rfl (cx.rq 1 s1_48))) <|
    hk (fun cx=>cx.q (ex_mv rfl (cx.rq 2 s2_49))) <|
    hk (fun cx=>cx.q (ex_mv rfl (cx.rq 3 s3_50))) <|
    hc (fun _ _ wx cx=>cx.c rfl (args3 (cx.u 0 rfl) (cx.u 1 rfl) (cx.u 2 rfl)) Try.func31 (by decide +kernel) (whole_n lo hi size wx (show 0 ≤ lo by omega) (show lo < 9223372036854775808 by omega)) rfl rfl) <|
    kmu 0 <|
    hk (fun cx=>cx.q (ex_ext (x:=.tmp 36) rfl (cx.u 0 rfl) rfl)) <|
    hk (fun cx=>cx.v (ex_ext (x:=.tmp 36) rfl (cx.u 0 rfl) rfl) rfl (congrArg Value.bool Ffk5.out)) <|
    kmu 0 <|
    kmu 0 <|
    hn) ?_
   intro a18 w18 f18
   refine wp_seq ?_
   refine go_reg [] [] [oT] mo f18.d f18.z f18.b (by kernel_rfl) trivial (
    hk (fun cx=>cx.q (ex_mv rfl (cx.rq 13 (f18.v 8 rfl rfl rfl)))) <|
    hn) ?_
   intro a19 w19 f19
   refine wp_cond_true (f19.v 0 rfl rfl rfl) ?_
   refine wp_seq ?_
   have b_g2_51:=f19.k (f18.k (f8.k b_g2))
   have b_g1_52:=f19.k (f18.k (f8.k b_g1))
   have s12_53:=f19.q 12 (f18.v 7 rfl rfl rfl)
   have s9_54:=f19.q 9 (f18.q 9 (f8.q 9 u_g2))
   have s5_55:=f19.q 5 (f18.q 5 (f8.q 5 u_g1))
   refine go_reg [bx g2 31 (tyC t),⟨g1,35,(stC a),some 4,(stC (upS a (11 + (lo / 8).toNat) t))⟩] [] [some (.int .i64 (exN lo hi size)),some (.agg (tyC t)),some (pt g1 99),some (pt g1 (9 * (11 + (lo / 8).toNat))),none] mo f19.d f19.z f19.b (by kernel_rfl) ⟨b_g2_51,b_g1_52,trivial⟩ (
    hk (fun cx=>cx.q (ex_mv rfl (cx.rq 12 s12_53))) <|
    hk (fun cx=>cx.q (ldTy rfl (cx.rq 9 s9_54) (cx.rn 0 rfl))) <|
    hk (fun cx=>cx.q (ex_fa rfl (cx.rq 5 s5_55) (faStF35_1_0 _ _))) <|
    hk (fun cx=>cx.v (ex_ia (n:=8) (sz:=9) rfl (cx.u 0 rfl) (cx.u 1 rfl) Try.underlying33 (by kernel_rfl) (by omega) (by omega) (by omega)) rfl rfl) <|
    hk (fun cx=>cx.stP (wn rfl) rfl rfl 1 rfl (cx.u 0 rfl) (cx.u 1 rfl) (tyC_one _) (by kernel_rfl) (by rw [stC_size];show _ + 9 ≤ _;omega) (stC_set _ (by omega) _) q_g1 rfl ⟨(ne_ptr (pairAt f1.ps 0 1 (by decide) rfl rfl) u_g1 u_g2).symm,trivial⟩ trivial) <|
    hn) ?_
   intro a20 w20 f20
   refine wp_seq ?_
   have b_g3_56:=f20.kp (f19.k (f18.k (f8.k b_g3))) ⟨.inl rfl,.inr (ne_ptr (pairAt f1.ps 0 2 (by decide) rfl rfl) u_g1 u_g3).symm,trivial⟩
   have s5_57:=f20.q 5 s5_55
   have s10_58:=f20.q 10 (f19.q 10 (f18.q 10 (f8.q 10 u_g3)))
   refine go_reg [bx g1 35 (stC (upS a (11 + (lo / 8).toNat) t)),⟨g3,35,(stC zS),some 1,(stC (upS a (11 + (lo / 8).toNat) t))⟩] [] [some (.agg (stC (upS a (11 + (lo / 8).toNat) t))),none,some (.int .i64 0)] mo f20.d f20.z f20.b (by kernel_rfl) ⟨f20.rows.2.1,b_g3_56,trivial⟩ (
    hk (fun cx=>cx.q (ldSt rfl (cx.rq 5 s5_57) (cx.rn 0 rfl))) <|
    hk (fun cx=>cx.stR (wn rfl) rfl rfl 1 rfl (cx.rq 10 s10_58) (cx.u 0 rfl) (st_info _) ((stC_size _).trans (stC_size _).symm) (stC_one _) q_g3 rfl ⟨(ne_ptr (pairAt f1.ps 0 2 (by decide) rfl rfl) u_g1 u_g3),trivial⟩ trivial) <|
    hk (fun cx=>cx.q (ex_as rfl rfl)) <|
    hn) ?_
   intro a21 w21 f21
   refine wp_ret ?_
   have s10_59:=f21.q 10 s10_58
   try simp only [Exit.inBlock,Exit.then]
   refine bodyPost_ret (res_ct (fn:=Try.f9) rfl s10_59 (load_row 35 f21.rows.2.1 Try.underlying35 rfl (st_info _)) (f21.v 2 rfl rfl rfl)) f21.d ?_
   have HE:(.tuple #[.agg (stC (upS a (11 + (lo / 8).toNat) t)),.int .i64 0]:Value)=.tuple #[.agg (stC (storeR a lo hi size t)),.int .i64 (storeE a lo hi size t)]:=by unfold storeR storeE storeB storeS placeB;simp only [Ffk1.out,Ffk2.out,Ffk3.out,Ffk4.out,Ffk5.out,Bool.true_and,Bool.and_true,Bool.false_and,Bool.and_false,Bool.or_false,Bool.false_or,Bool.true_or,Bool.or_true,Bool.not_true,Bool.not_false,if_true,if_false,Bool.false_eq_true,Bool.true_eq_false,reduceCtorEq];try rfl
   exact ⟨retV HE,f21.b⟩
  have Ffk4:=Lib.hid fk4;clear fk4
  have s1_60:=f1.q 1 s1_0
  have s2_61:=f1.q 2 s2_0
  have s3_62:=f1.q 3 s3_0
  refine go_reg [bx g1 35 (stC a),bx g2 31 (tyC t)] [] [some (.agg (stC a)),oT,oF,oF,some (.int .i64 lo),some (.int .i64 hi),some (.int .i64 size),oT,oF,oF,oF,some (.agg (tyC t)),oT,oF,oF,oF,some (.agg (tyC t)),oT,oT] mo f1.d f1.z f1.b (by kernel_rfl) ⟨b_g1,b_g2,trivial⟩ (
   hk (fun cx=>cx.q (ldSt rfl (cx.rq 5 u_g1) (cx.rn 0 rfl))) <|
   hc (fun _ _ wx cx=>cx.c rfl (args1 (cx.u 0 rfl)) Try.func15 (by decide +kernel) (tmay_n a wx) rfl (congrArg Value.bool Ffk1.out)) <|
   hk (fun cx=>cx.q (ex_not (x:=.tmp 17) rfl (cx.u 0 rfl))) <|
   kmu 0 <|
   hk (fun cx=>cx.vy 0 (ex_mv rfl (cx.rq 1 s1_60))) <|
   hk (fun cx=>cx.vy 0 (ex_mv rfl (cx.rq 2 s2_61))) <|
   hk (fun cx=>cx.vy 0 (ex_mv rfl (cx.rq 3 s3_62))) <|
   hc (fun _ _ wx cx=>cx.call (cx.wy rfl rfl rfl rfl (cx.u 3 rfl)) rfl rfl (args3 (cx.u 0 rfl) (cx.u 1 rfl) (cx.u 2 rfl)) Try.func30 (by decide +kernel) rfl (within_n lo hi size wx) rfl rfl (congrArg Value.bool Ffk2.out) rfl) <|
   hk (fun cx=>cx.vy 1 (ex_not (x:=.tmp 23) rfl (cx.u 0 rfl))) <|
   hk (fun cx=>cx.q (ex_pf rfl (cx.u 0 rfl) (cx.u 1 rfl))) <|
   kmu 0 <|
   hk (fun cx=>cx.vy 0 (ldTy rfl (cx.rq 9 u_g2) (cx.rn 1 rfl))) <|
   hc (fun _ _ wx cx=>cx.call (cx.wy rfl rfl rfl rfl (cx.u 1 rfl)) rfl rfl (args1 (cx.u 0 rfl)) Try.func17 (by decide +kernel) rfl (ttype_n t wx) rfl rfl (congrArg Value.bool Ffk3.out) rfl) <|
   hk (fun cx=>cx.vy 1 (ex_not (x:=.tmp 28) rfl (cx.u 0 rfl))) <|
   hk (fun cx=>cx.q (ex_pf rfl (cx.u 0 rfl) (cx.u 1 rfl))) <|
   kmu 0 <|
   hk (fun cx=>cx.vy 0 (ldTy rfl (cx.rq 9 u_g2) (cx.rn 1 rfl))) <|
   hc (fun _ _ wx cx=>cx.call (cx.wy rfl rfl rfl rfl (cx.u 1 rfl)) rfl rfl (args1 (cx.u 0 rfl)) Try.func36 (by decide +kernel) rfl (unset_n t wx) rfl rfl (congrArg Value.bool Ffk4.out) rfl) <|
   hk (fun cx=>cx.q (ex_pf rfl (cx.u 0 rfl) (cx.u 1 rfl))) <|
   hn) ?_
  intro a22 w22 f22
  refine wp_cond_true (f22.v 18 rfl rfl rfl) ?_
  refine wp_seq ?_
  have b_g3_63:=f22.k b_g3
  have s10_64:=f22.q 10 u_g3
  refine go_reg [⟨g3,35,(stC zS),some 1,(stC zS)⟩] [] [some (.agg (stC zS)),none,some (.int .i64 2)] mo f22.d f22.z f22.b (by kernel_rfl) ⟨b_g3_63,trivial⟩ (
   hk (fun cx=>cx.q (ex_zst rfl)) <|
   hk (fun cx=>cx.stR (wn rfl) rfl rfl 0 rfl (cx.rq 10 s10_64) (cx.u 0 rfl) (st_info _) ((stC_size _).trans (stC_size _).symm) (stC_one _) q_g3 rfl trivial trivial) <|
   hk (fun cx=>cx.q (ex_as rfl rfl)) <|
   hn) ?_
  intro a23 w23 f23
  refine wp_ret ?_
  have s10_65:=f23.q 10 s10_64
  try simp only [Exit.inBlock,Exit.then]
  refine bodyPost_ret (res_ct (fn:=Try.f9) rfl s10_65 (load_row 35 f23.rows.1 Try.underlying35 rfl (st_info _)) (f23.v 2 rfl rfl rfl)) f23.d ?_
  have HE:(.tuple #[.agg (stC zS),.int .i64 2]:Value)=.tuple #[.agg (stC (storeR a lo hi size t)),.int .i64 (storeE a lo hi size t)]:=by unfold storeR storeE storeB storeS placeB;simp only [Ffk1.out,Ffk2.out,Ffk3.out,Ffk4.out,Bool.true_and,Bool.and_true,Bool.false_and,Bool.and_false,Bool.or_false,Bool.false_or,Bool.true_or,Bool.or_true,Bool.not_true,Bool.not_false,if_true,if_false,Bool.false_eq_true,Bool.true_eq_false,reduceCtorEq];try rfl
  exact ⟨retV HE,f23.b⟩
end Go.Proofs.Ytcnneeimkcnjfaa.Sta
