import Derived.Test.YtbpehbeakhocnaaGreatDoorIRm07
set_option maxHeartbeats 4000000
set_option linter.unusedVariables false
set_option linter.unusedSimpArgs false
set_option linter.unnecessarySimpa false
namespace Go.Proofs.YtbpehbeakhocnaaGreatDoor.Mrm
open Go Go.RowKit
set_option maxRecDepth 100000
theorem faEnD24_0_0 (g:Nat) (w:World):(Instr.fieldAt 38 (.pointer (some ⟨g,0,none⟩)) 0).run Tryz.prog w=.ok (.pointer (some ⟨g,0,none⟩)) w:=by simp [go_sem]
theorem faEnD24_2_0 (g:Nat) (w:World):(Instr.fieldAt 38 (.pointer (some ⟨g,0,none⟩)) 2).run Tryz.prog w=.ok (.pointer (some ⟨g,2,none⟩)) w:=by simp [go_sem]
theorem faEnD24_3_0 (g:Nat) (w:World):(Instr.fieldAt 38 (.pointer (some ⟨g,0,none⟩)) 3).run Tryz.prog w=.ok (.pointer (some ⟨g,3,none⟩)) w:=by simp [go_sem]
theorem faEnD24_4_0 (g:Nat) (w:World):(Instr.fieldAt 38 (.pointer (some ⟨g,0,none⟩)) 4).run Tryz.prog w=.ok (.pointer (some ⟨g,4,none⟩)) w:=by simp [go_sem]
theorem faEnD24_5_0 (g:Nat) (w:World):(Instr.fieldAt 38 (.pointer (some ⟨g,0,none⟩)) 5).run Tryz.prog w=.ok (.pointer (some ⟨g,5,none⟩)) w:=by simp [go_sem]
theorem faEnD24_6_0 (g:Nat) (w:World):(Instr.fieldAt 38 (.pointer (some ⟨g,0,none⟩)) 6).run Tryz.prog w=.ok (.pointer (some ⟨g,6,none⟩)) w:=by simp [go_sem]
theorem faEnD24_1_0 (g:Nat) (w:World):(Instr.fieldAt 38 (.pointer (some ⟨g,0,none⟩)) 1).run Tryz.prog w=.ok (.pointer (some ⟨g,1,none⟩)) w:=by simp [go_sem]
theorem faEnD24_7_0 (g:Nat) (w:World):(Instr.fieldAt 38 (.pointer (some ⟨g,0,none⟩)) 7).run Tryz.prog w=.ok (.pointer (some ⟨g,7,none⟩)) w:=by simp [go_sem]
theorem nb {b c:Bool} (h:(!b)=c):b=!c:=by rw [← h,Bool.not_not]
theorem wrap_w {n:Int} (h:-128 ≤ n ∧ n < 128):IntKind.i64.wrap n=n:=by rw [IntKind.wrap_i64];omega
theorem may_1 {x:Xi} (eK:clsI x.op=1):mayX x=(eqX x (fldX (clsI x.op) x) && (regB x.dst && (regB x.src && (regB x.base && (fourB x.disp && (fourB x.imm && longB x.w)))))):=by
  unfold mayX
  rw [eK]
  unfold clsB jmpB
  simp
theorem may_2 {x:Xi} (eK:clsI x.op=2):mayX x=(eqX x (fldX (clsI x.op) x) && (regB x.dst && (regB x.src && (regB x.base && (fourB x.disp && (fourB x.imm && longB x.w)))))):=by
  unfold mayX
  rw [eK]
  unfold clsB jmpB
  simp
theorem may_3 {x:Xi} (eK:clsI x.op=3):mayX x=(eqX x (fldX (clsI x.op) x) && (regB x.dst && (regB x.src && (regB x.base && (fourB x.disp && (fourB x.imm && (longB x.w && (decide (0 ≤ x.imm) && decide (x.imm < x.w))))))))):=by
  unfold mayX
  rw [eK]
  unfold clsB jmpB
  simp
theorem may_4 {x:Xi} (eK:clsI x.op=4):mayX x=(eqX x (fldX (clsI x.op) x) && (regB x.dst && (regB x.src && (regB x.base && (fourB x.disp && (fourB x.imm && longB x.w)))))):=by
  unfold mayX
  rw [eK]
  unfold clsB jmpB
  simp
theorem may_5 {x:Xi} (eK:clsI x.op=5):mayX x=(eqX x (fldX (clsI x.op) x) && (regB x.dst && (regB x.src && (regB x.base && (fourB x.disp && (fourB x.imm && (longB x.w && ccB x.cc))))))):=by
  unfold mayX
  rw [eK]
  unfold clsB jmpB
  simp
theorem may_6 {x:Xi} (eK:clsI x.op=6):mayX x=(eqX x (fldX (clsI x.op) x) && (regB x.dst && (regB x.src && (regB x.base && (fourB x.disp && (fourB x.imm && widB x.w)))))):=by
  unfold mayX
  rw [eK]
  unfold clsB jmpB
  simp
theorem may_7 {x:Xi} (eK:clsI x.op=7):mayX x=(eqX x (fldX (clsI x.op) x) && (regB x.dst && (regB x.src && (regB x.base && (fourB x.disp && (fourB x.imm && widB x.w)))))):=by
  unfold mayX
  rw [eK]
  unfold clsB jmpB
  simp
theorem may_8 {x:Xi} (eK:clsI x.op=8):mayX x=(eqX x (fldX (clsI x.op) x) && (regB x.dst && (regB x.src && (regB x.base && (fourB x.disp && (fourB x.imm && (x.w == 32 || (x.w == 8 && oneB x.imm)))))))):=by
  unfold mayX
  rw [eK]
  unfold clsB jmpB
  simp
theorem may_9 {x:Xi} (eK:clsI x.op=9):mayX x=(eqX x (fldX (clsI x.op) x) && (regB x.dst && (regB x.src && (regB x.base && (fourB x.disp && (fourB x.imm && ((x.w == 32 || (x.w == 8 && oneB x.imm)) && ccB x.cc))))))):=by
  unfold mayX
  rw [eK]
  unfold clsB jmpB
  simp
theorem may_10 {x:Xi} (eK:clsI x.op=10):mayX x=(eqX x (fldX (clsI x.op) x) && (regB x.dst && (regB x.src && (regB x.base && (fourB x.disp && (fourB x.imm && true)))))):=by
  unfold mayX
  rw [eK]
  unfold clsB jmpB
  simp
theorem cls_10 {n:Int} (op:Int) (e:clsI op=n) (h0:(n == 0)=false) (h1:(n == 1)=false) (h2:(n == 2)=false) (h3:(n == 3)=false) (h4:(n == 4)=false) (h5:(n == 5)=false) (h6:(n == 6)=false) (h7:(n == 7)=false) (h8:(n == 8)=false) (h9:(n == 9)=false):n=10:=by
  have:=clsI_cases op
  rw [e] at this
  simp only [beq_eq_false_iff_ne] at *
  omega
theorem emay_n (x:Xi) (W:World) (hw:-128 ≤ x.w ∧ x.w < 128):Calls Tryz.prog 30 #[.agg (xC x)] W fun e w'=>e=.returned (.bool (mayX x)) ∧ Below W.heap.size W w':=by
  refine calls_abs Tryz.func30 rfl (Nat.le_of_ble_eq_true rfl) ?_
  intro a0 d0 z0 h0
  replace z0:a0.tmps.size=122:=z0
  have s0_0:a0.tmps.getD 0 undef=.agg (xC x):=h0 0 (Nat.le_of_ble_eq_true rfl)
  refine wp_seq ?_
  refine go_reg [] [⟨0,1,38,(xC x),none,#[]⟩] [none,oF] mo d0 z0 (Below.refl _ _) (by kernel_rfl) trivial (
   hk (fun cx=>cx.al (wn rfl) 0 rfl (ex_box rfl (cx.rq 0 s0_0) rfl) rfl rfl rfl rfl rfl trivial) <|
   hk (fun cx=>cx.q (ex_as rfl rfl)) <|
   hn) ?_
  intro a1 w1 f1
  obtain ⟨g1,u_g1,q_g1,b_g1⟩:=f1.al.1
  refine wp_seq ?_
  refine go_reg [bx g1 38 (xC x)] [] [some (pt g1 0),some (.int .i8 x.op),some (.int .i64 (clsI x.op)),some (.int .i64 (clsI x.op))] mo f1.d f1.z f1.b (by kernel_rfl) ⟨b_g1,trivial⟩ (
   hk (fun cx=>cx.q (ex_fa rfl (cx.rq 1 u_g1) (faEnD24_0_0 _ _))) <|
   hk (fun cx=>cx.q (ex_ld rfl (cx.u 0 rfl) (cx.rn 0 rfl) rfl Tryz.isAgg36)) <|
   hc (fun _ _ wx cx=>cx.c rfl (args1 (cx.u 0 rfl)) Tryz.func29 (by decide +kernel) (((cls_n x.op wx).mono (by rintro e w' ⟨rfl,rfl⟩;exact ⟨rfl,Below.refl _ _⟩))) rfl rfl) <|
   kmu 0 <|
   hn) ?_
  intro a2 w2 f2
  refine wp_seq ?_
  refine wp_seq ?_
  cases fk1:(clsI x.op) == 0
  case true=>
   have Ffk1:=Lib.hid fk1;clear fk1
   refine go_reg [] [] (tabs [some (.int .i64 (clsI x.op)),oT,oT,oU,oU,oU,oU,oT,oT,oU,oU,oU,oU,oT,oT,oU,oU,oU,oU,oT] [oT,oU,oU,oU,oU,oT,oT,oU,oU,oU,oU,oT,oT,oU,oU,oU,oU,oT]) mo f2.d f2.z f2.b (by kernel_rfl) trivial (
    hk (fun cx=>cx.q (ex_mv rfl (cx.rq 3 (f2.v 3 rfl rfl rfl)))) <|
    hk (fun cx=>cx.v (ex_eq (x:=.tmp 7) rfl (cx.u 0 rfl) rfl) rfl (congrArg Value.bool Ffk1.out)) <|
    kmu 0 <|
    kno 0 <|
    kno 0 <|
    kno 1 <|
    kno 2 <|
    hk (fun cx=>cx.q (ex_pt rfl (cx.u 0 rfl) rfl)) <|
    kmu 0 <|
    kno 0 <|
    kno 1 <|
    kno 1 <|
    kno 1 <|
    hk (fun cx=>cx.q (ex_pt rfl (cx.u 0 rfl) rfl)) <|
    kmu 0 <|
    kno 0 <|
    kno 1 <|
    kno 1 <|
    kno 1 <|
    hk (fun cx=>cx.q (ex_pt rfl (cx.u 0 rfl) rfl)) <|
    kmu 0 <|
    kno 0 <|
    kno 1 <|
    kno 1 <|
    kno 1 <|
    hk (fun cx=>cx.q (ex_pt rfl (cx.u 0 rfl) rfl)) <|
    kmu 0 <|
    kno 0 <|
    kno 1 <|
    kno 1 <|
    kno 1 <|
    hk (fun cx=>cx.q (ex_pt rfl (cx.u 0 rfl) rfl)) <|
    kmu 0 <|
    kno 0 <|
    kno 1 <|
    kno 1 <|
    kno 1 <|
    hk (fun cx=>cx.q (ex_pt rfl (cx.u 0 rfl) rfl)) <|
    hn) ?_
   intro a3 w3 f3
   refine wp_cond_true (f3.v 37 rfl rfl rfl) ?_
   refine wp_seq ?_
   refine go_reg [] [] [oF] mo f3.d f3.z f3.b (by kernel_rfl) trivial (
    hk (fun cx=>cx.q (ex_as rfl rfl)) <|
    hn) ?_
   intro a4 w4 f4
   refine wp_ret ?_
   try simp only [Exit.inBlock,Exit.then]
   refine bodyPost_ret (res_t (fn:=Tryz.f30) rfl (f4.v 0 rfl rfl rfl)) f4.d ?_
   have HE:(.bool false:Value)=.bool (mayX x):=by unfold mayX bne;simp only [Ffk1.out,Bool.true_and,Bool.and_true,Bool.false_and,Bool.and_false,Bool.or_false,Bool.false_or,Bool.true_or,Bool.or_true,Bool.not_true,Bool.not_false]
   exact ⟨retV HE,f4.b⟩
  have Ffk1:=Lib.hid fk1;clear fk1
  cases fk2:!(eqX x (fldX (clsI x.op) x))
  case true=>
   have Ffk2:=Lib.hid fk2;clear fk2
   have b_g1_1:=f2.k b_g1
   have s1_2:=f2.q 1 u_g1
   refine go_reg [bx g1 38 (xC x)] [] (tabs [some (.int .i64 (clsI x.op)),oF,oF,some (.agg (xC x)),some (.agg (xC x)),some (.agg (xC (fldX (clsI x.op) x))),oT,oT,oT,oU,oU,oU,oU,oT,oT,oU,oU,oU,oU,oT] [oT,oU,oU,oU,oU,oT,oT,oU,oU,oU,oU,oT,oT,oU,oU,oU,oU,oT]) mo f2.d f2.z f2.b (by kernel_rfl) ⟨b_g1_1,trivial⟩ (
    hk (fun cx=>cx.q (ex_mv rfl (cx.rq 3 (f2.v 3 rfl rfl rfl)))) <|
    hk (fun cx=>cx.v (ex_eq (x:=.tmp 7) rfl (cx.u 0 rfl) rfl) rfl (congrArg Value.bool Ffk1.out)) <|
    kmu 0 <|
    hk (fun cx=>cx.vy 0 (ldX rfl (cx.rq 1 s1_2) (cx.rn 0 rfl))) <|
    hk (fun cx=>cx.vy 0 (ldX rfl (cx.rq 1 s1_2) (cx.rn 0 rfl))) <|
    hc (fun _ _ wx cx=>cx.call (cx.wy rfl rfl rfl rfl (cx.u 1 rfl)) rfl rfl (args1 (cx.u 0 rfl)) Tryz.func63 (by decide +kernel) rfl (efld_n x wx) rfl rfl rfl rfl) <|
    hk (fun cx=>cx.vy (v:=.bool (!(eqX x (fldX (clsI x.op) x)))) 2 (exec_neq (x:=.tmp 10) (y:=.tmp 12) rfl (cx.u 0 rfl) (cx.u 1 rfl) (by kernel_rfl) (eq_x x (fldX (clsI x.op) x) _)) (congrArg Value.bool Ffk2.out)) <|
    hk (fun cx=>cx.q (ex_pf rfl (cx.u 0 rfl) (cx.u 1 rfl))) <|
    kmu 0 <|
    kno 0 <|
    kno 1 <|
    kno 1 <|
    kno 1 <|
    hk (fun cx=>cx.q (ex_pt rfl (cx.u 0 rfl) rfl)) <|
    kmu 0 <|
    kno 0 <|
    kno 1 <|
    kno 1 <|
    kno 1 <|
    hk (fun cx=>cx.q (ex_pt rfl (cx.u 0 rfl) rfl)) <|
    kmu 0 <|
    kno 0 <|
    kno 1 <|
    kno 1 <|
    kno 1 <|
    hk (fun cx=>cx.q (ex_pt rfl (cx.u 0 rfl) rfl)) <|
    kmu 0 <|
    kno 0 <|
    kno 1 <|
    kno 1 <|
    kno 1 <|
    hk (fun cx=>cx.q (ex_pt rfl (cx.u 0 rfl) rfl)) <|
    kmu 0 <|
    kno 0 <|
    kno 1 <|
    kno 1 <|
    kno 1 <|
    hk (fun cx=>cx.q (ex_pt rfl (cx.u 0 rfl) rfl)) <|
    hn) ?_
   intro a5 w5 f5
   refine wp_cond_true (f5.v 37 rfl rfl rfl) ?_
   refine wp_seq ?_
   refine go_reg [] [] [oF] mo f5.d f5.z f5.b (by kernel_rfl) trivial (
    hk (fun cx=>cx.q (ex_as rfl rfl)) <|
    hn) ?_
   intro a6 w6 f6
   refine wp_ret ?_
   try simp only [Exit.inBlock,Exit.then]
   refine bodyPost_ret (res_t (fn:=Tryz.f30) rfl (f6.v 0 rfl rfl rfl)) f6.d ?_
   have HE:(.bool false:Value)=.bool (mayX x):=by unfold mayX bne;simp only [nb Ffk2.out,Ffk1.out,Bool.true_and,Bool.and_true,Bool.false_and,Bool.and_false,Bool.or_false,Bool.false_or,Bool.true_or,Bool.or_true,Bool.not_true,Bool.not_false]
   exact ⟨retV HE,f6.b⟩
  have Ffk2:=Lib.hid fk2;clear fk2
  cases fk3:regB x.dst
  case false=>
   have Ffk3:=Lib.hid fk3;clear fk3
   have b_g1_3:=f2.k b_g1
   have s1_4:=f2.q 1 u_g1
   refine go_reg [bx g1 38 (xC x)] [] (tabs [some (.int .i64 (clsI x.op)),oF,oF,some (.agg (xC x)),some (.agg (xC x)),some (.agg (xC (fldX (clsI x.op) x))),oF,oF,oF,some (pt g1 2),some (.int .i8 x.dst),oF,oT,oT,oT,oU,oU,oU,oU,oT] [oT,oU,oU,oU,oU,oT,oT,oU,oU,oU,oU,oT,oT,oU,oU,oU,oU,oT]) mo f2.d f2.z f2.b (by kernel_rfl) ⟨b_g1_3,trivial⟩ (
    hk (fun cx=>cx.q (ex_mv rfl (cx.rq 3 (f2.v 3 rfl rfl rfl)))) <|
    hk (fun cx=>cx.v (ex_eq (x:=.tmp 7) rfl (cx.u 0 rfl) rfl) rfl (congrArg Value.bool Ffk1.out)) <|
    kmu 0 <|
    hk (fun cx=>cx.vy 0 (ldX rfl (cx.rq 1 s1_4) (cx.rn 0 rfl))) <|
    hk (fun cx=>cx.vy 0 (ldX rfl (cx.rq 1 s1_4) (cx.rn 0 rfl))) <|
    hc (fun _ _ wx cx=>cx.call (cx.wy rfl rfl rfl rfl (cx.u 1 rfl)) rfl rfl (args1 (cx.u 0 rfl)) Tryz.func63 (by decide +kernel) rfl (efld_n x wx) rfl rfl rfl rfl) <|
    hk (fun cx=>cx.vy (v:=.bool (!(eqX x (fldX (clsI x.op) x)))) 2 (exec_neq (x:=.tmp 10) (y:=.tmp 12) rfl (cx.u 0 rfl) (cx.u 1 rfl) (by kernel_rfl) (eq_x x (fldX (clsI x.op) x) _)) (congrArg Value.bool Ffk2.out)) <|
    hk (fun cx=>cx.q (ex_pf rfl (cx.u 0 rfl) (cx.u 1 rfl))) <|
    kmu 0 <|
    hk (fun cx=>cx.vy 0 (ex_fa rfl (cx.rq 1 s1_4) (faEnD24_2_0 _ _))) <|
    hk (fun cx=>cx.vy 1 (ex_ld rfl (cx.u 0 rfl) (cx.rn 0 rfl) rfl Tryz.isAgg36)) <|
    hc (fun _ _ wx cx=>cx.call (cx.wy rfl rfl rfl rfl (cx.u 1 rfl)) rfl rfl (args1 (cx.u 0 rfl)) Tryz.func64 (by decide +kernel) rfl (ereg_n x.dst wx) rfl rfl (congrArg Value.bool Ffk3.out) rfl) <|
    hk (fun cx=>cx.vy 1 (ex_not (x:=.tmp 18) rfl (cx.u 0 rfl))) <|
    hk (fun cx=>cx.q (ex_pf rfl (cx.u 0 rfl) (cx.u 1 rfl))) <|
    kmu 0 <|
    kno 0 <|
    kno 1 <|
    kno 1 <|
    kno 1 <|
    hk (fun cx=>cx.q (ex_pt rfl (cx.u 0 rfl) rfl)) <|
    kmu 0 <|
    kno 0 <|
    kno 1 <|
    kno 1 <|
    kno 1 <|
    hk (fun cx=>cx.q (ex_pt rfl (cx.u 0 rfl) rfl)) <|
    kmu 0 <|
    kno 0 <|
    kno 1 <|
    kno 1 <|
    kno 1 <|
    hk (fun cx=>cx.q (ex_pt rfl (cx.u 0 rfl) rfl)) <|
    kmu 0 <|
    kno 0 <|
    kno 1 <|
    kno 1 <|
    kno 1 <|
    hk (fun cx=>cx.q (ex_pt rfl (cx.u 0 rfl) rfl)) <|
    hn) ?_
   intro a7 w7 f7
   refine wp_cond_true (f7.v 37 rfl rfl rfl) ?_
   refine wp_seq ?_
   refine go_reg [] [] [oF] mo f7.d f7.z f7.b (by kernel_rfl) trivial (
    hk (fun cx=>cx.q (ex_as rfl rfl)) <|
    hn) ?_
   intro a8 w8 f8
   refine wp_ret ?_
   try simp only [Exit.inBlock,Exit.then]
   refine bodyPost_ret (res_t (fn:=Tryz.f30) rfl (f8.v 0 rfl rfl rfl)) f8.d ?_
   have HE:(.bool false:Value)=.bool (mayX x):=by unfold mayX bne;simp only [nb Ffk2.out,Ffk3.out,Ffk1.out,Bool.true_and,Bool.and_true,Bool.false_and,Bool.and_false,Bool.or_false,Bool.false_or,Bool.true_or,Bool.or_true,Bool.not_true,Bool.not_false]
   exact ⟨retV HE,f8.b⟩
  have Ffk3:=Lib.hid fk3;clear fk3
  cases fk4:regB x.src
  case false=>
   have Ffk4:=Lib.hid fk4;clear fk4
   have b_g1_5:=f2.k b_g1
   have s1_6:=f2.q 1 u_g1
   refine go_reg [bx g1 38 (xC x)] [] (tabs [some (.int .i64 (clsI x.op)),oF,oF,some (.agg (xC x)),some (.agg (xC x)),some (.agg (xC (fldX (clsI x.op) x))),oF,oF,oF,some (pt g1 2),some (.int .i8 x.dst),oT,oF,oF,oF,some (pt g1 3),some (.int .i8 x.src),oF,oT,oT] [oT,oU,oU,oU,oU,oT,oT,oU,oU,oU,oU,oT,oT,oU,oU,oU,oU,oT]) mo f2.d f2.z f2.b (by kernel_rfl) ⟨b_g1_5,trivial⟩ (
    hk (fun cx=>cx.q (ex_mv rfl (cx.rq 3 (f2.v 3 rfl rfl rfl)))) <|
    hk (fun cx=>cx.v (ex_eq (x:=.tmp 7) rfl (cx.u 0 rfl) rfl) rfl (congrArg Value.bool Ffk1.out)) <|
    kmu 0 <|
    hk (fun cx=>cx.vy 0 (ldX rfl (cx.rq 1 s1_6) (cx.rn 0 rfl))) <|
    hk (fun cx=>cx.vy 0 (ldX rfl (cx.rq 1 s1_6) (cx.rn 0 rfl))) <|
    hc (fun _ _ wx cx=>cx.call (cx.wy rfl rfl rfl rfl (cx.u 1 rfl)) rfl rfl (args1 (cx.u 0 rfl)) Tryz.func63 (by decide +kernel) rfl (efld_n x wx) rfl rfl rfl rfl) <|
    hk (fun cx=>cx.vy (v:=.bool (!(eqX x (fldX (clsI x.op) x)))) 2 (exec_neq (x:=.tmp 10) (y:=.tmp 12) rfl (cx.u 0 rfl) (cx.u 1 rfl) (by kernel_rfl) (eq_x x (fldX (clsI x.op) x) _)) (congrArg Value.bool Ffk2.out)) <|
    hk (fun cx=>cx.q (ex_pf rfl (cx.u 0 rfl) (cx.u 1 rfl))) <|
    kmu 0 <|
    hk (fun cx=>cx.vy 0 (ex_fa rfl (cx.rq 1 s1_6) (faEnD24_2_0 _ _))) <|
    hk (fun cx=>cx.vy 1 (ex_ld rfl (cx.u 0 rfl) (cx.rn 0 rfl) rfl Tryz.isAgg36)) <|
    hc (fun _ _ wx cx=>cx.call (cx.wy rfl rfl rfl rfl (cx.u 1 rfl)) rfl rfl (args1 (cx.u 0 rfl)) Tryz.func64 (by decide +kernel) rfl (ereg_n x.dst wx) rfl rfl (congrArg Value.bool Ffk3.out) rfl) <|
    hk (fun cx=>cx.vy 1 (ex_not (x:=.tmp 18) rfl (cx.u 0 rfl))) <|
    hk (fun cx=>cx.q (ex_pf rfl (cx.u 0 rfl) (cx.u 1 rfl))) <|
    kmu 0 <|
    hk (fun cx=>cx.vy 0 (ex_fa rfl (cx.rq 1 s1_6) (faEnD24_3_0 _ _))) <|
    hk (fun cx=>cx.vy 1 (ex_ld rfl (cx.u 0 rfl) (cx.rn 0 rfl) rfl Tryz.isAgg36)) <|
    hc (fun _ _ wx cx=>cx.call (cx.wy rfl rfl rfl rfl (cx.u 1 rfl)) rfl rfl (args1 (cx.u 0 rfl)) Tryz.func64 (by decide +kernel) rfl (ereg_n x.src wx) rfl rfl (congrArg Value.bool Ffk4.out) rfl) <|
    hk (fun cx=>cx.vy 1 (ex_not (x:=.tmp 24) rfl (cx.u 0 rfl))) <|
    hk (fun cx=>cx.q (ex_pf rfl (cx.u 0 rfl) (cx.u 1 rfl))) <|
    kmu 0 <|
    kno 0 <|
    kno 1 <|
    kno 1 <|
    kno 1 <|
    hk (fun cx=>cx.q (ex_pt rfl (cx.u 0 rfl) rfl)) <|
    kmu 0 <|
    kno 0 <|
    kno 1 <|
    kno 1 <|
    kno 1 <|
    hk (fun cx=>cx.q (ex_pt rfl (cx.u 0 rfl) rfl)) <|
    kmu 0 <|
    kno 0 <|
    kno 1 <|
    kno 1 <|
    kno 1 <|
    hk (fun cx=>cx.q (ex_pt rfl (cx.u 0 rfl) rfl)) <|
    hn) ?_
   intro a9 w9 f9
   refine wp_cond_true (f9.v 37 rfl rfl rfl) ?_
   refine wp_seq ?_
   refine go_reg [] [] [oF] mo f9.d f9.z f9.b (by kernel_rfl) trivial (
    hk (fun cx=>cx.q (ex_as rfl rfl)) <|
    hn) ?_
   intro a10 w10 f10
   refine wp_ret ?_
   try simp only [Exit.inBlock,Exit.then]
   refine bodyPost_ret (res_t (fn:=Tryz.f30) rfl (f10.v 0 rfl rfl rfl)) f10.d ?_
   have HE:(.bool false:Value)=.bool (mayX x):=by unfold mayX bne;simp only [nb Ffk2.out,Ffk3.out,Ffk4.out,Ffk1.out,Bool.true_and,Bool.and_true,Bool.false_and,Bool.and_false,Bool.or_false,Bool.false_or,Bool.true_or,Bool.or_true,Bool.not_true,Bool.not_false]
   exact ⟨retV HE,f10.b⟩
  have Ffk4:=Lib.hid fk4;clear fk4
  cases fk5:regB x.base
  case false=>
   have Ffk5:=Lib.hid fk5;clear fk5
   have b_g1_7:=f2.k b_g1
   have s1_8:=f2.q 1 u_g1
   refine go_reg [bx g1 38 (xC x)] [] (tabs [some (.int .i64 (clsI x.op)),oF,oF,some (.agg (xC x)),some (.agg (xC x)),some (.agg (xC (fldX (clsI x.op) x))),oF,oF,oF,some (pt g1 2),some (.int .i8 x.dst),oT,oF,oF,oF,some (pt g1 3),some (.int .i8 x.src),oT,oF,oF] [oF,some (pt g1 4),some (.int .i8 x.base),oF,oT,oT,oT,oU,oU,oU,oU,oT,oT,oU,oU,oU,oU,oT]) mo f2.d f2.z f2.b (by kernel_rfl) ⟨b_g1_7,trivial⟩ (
    hk (fun cx=>cx.q (ex_mv rfl (cx.rq 3 (f2.v 3 rfl rfl rfl)))) <|
    hk (fun cx=>cx.v (ex_eq (x:=.tmp 7) rfl (cx.u 0 rfl) rfl) rfl (congrArg Value.bool Ffk1.out)) <|
    kmu 0 <|
    hk (fun cx=>cx.vy 0 (ldX rfl (cx.rq 1 s1_8) (cx.rn 0 rfl))) <|
    hk (fun cx=>cx.vy 0 (ldX rfl (cx.rq 1 s1_8) (cx.rn 0 rfl))) <|
    hc (fun _ _ wx cx=>cx.call (cx.wy rfl rfl rfl rfl (cx.u 1 rfl)) rfl rfl (args1 (cx.u 0 rfl)) Tryz.func63 (by decide +kernel) rfl (efld_n x wx) rfl rfl rfl rfl) <|
    hk (fun cx=>cx.vy (v:=.bool (!(eqX x (fldX (clsI x.op) x)))) 2 (exec_neq (x:=.tmp 10) (y:=.tmp 12) rfl (cx.u 0 rfl) (cx.u 1 rfl) (by kernel_rfl) (eq_x x (fldX (clsI x.op) x) _)) (congrArg Value.bool Ffk2.out)) <|
    hk (fun cx=>cx.q (ex_pf rfl (cx.u 0 rfl) (cx.u 1 rfl))) <|
    kmu 0 <|
    hk (fun cx=>cx.vy 0 (ex_fa rfl (cx.rq 1 s1_8) (faEnD24_2_0 _ _))) <|
    hk (fun cx=>cx.vy 1 (ex_ld rfl (cx.u 0 rfl) (cx.rn 0 rfl) rfl Tryz.isAgg36)) <|
    hc (fun _ _ wx cx=>cx.call (cx.wy rfl rfl rfl rfl (cx.u 1 rfl)) rfl rfl (args1 (cx.u 0 rfl)) Tryz.func64 (by decide +kernel) rfl (ereg_n x.dst wx) rfl rfl (congrArg Value.bool Ffk3.out) rfl) <|
    hk (fun cx=>cx.vy 1 (ex_not (x:=.tmp 18) rfl (cx.u 0 rfl))) <|
    hk (fun cx=>cx.q (ex_pf rfl (cx.u 0 rfl) (cx.u 1 rfl))) <|
    kmu 0 <|
    hk (fun cx=>cx.vy 0 (ex_fa rfl (cx.rq 1 s1_8) (faEnD24_3_0 _ _))) <|
    hk (fun cx=>cx.vy 1 (ex_ld rfl (cx.u 0 rfl) (cx.rn 0 rfl) rfl Tryz.isAgg36)) <|
    hc (fun _ _ wx cx=>cx.call (cx.wy rfl rfl rfl rfl (cx.u 1 rfl)) rfl rfl (args1 (cx.u 0 rfl)) Tryz.func64 (by decide +kernel) rfl (ereg_n x.src wx) rfl rfl (congrArg Value.bool Ffk4.out) rfl) <|
    hk (fun cx=>cx.vy 1 (ex_not (x:=.tmp 24) rfl (cx.u 0 rfl))) <|
    hk (fun cx=>cx.q (ex_pf rfl (cx.u 0 rfl) (cx.u 1 rfl))) <|
    kmu 0 <|
    hk (fun cx=>cx.vy 0 (ex_fa rfl (cx.rq 1 s1_8) (faEnD24_4_0 _ _))) <|
    hk (fun cx=>cx.vy 1 (ex_ld rfl (cx.u 0 rfl) (cx.rn 0 rfl) rfl Tryz.isAgg36)) <|
    hc (fun _ _ wx cx=>cx.call (cx.wy rfl rfl rfl rfl (cx.u 1 rfl)) rfl rfl (args1 (cx.u 0 rfl)) Tryz.func64 (by decide +kernel) rfl (ereg_n x.base wx) rfl rfl (congrArg Value.bool Ffk5.out) rfl) <|
    hk (fun cx=>cx.vy 1 (ex_not (x:=.tmp 30) rfl (cx.u 0 rfl))) <|
    hk (fun cx=>cx.q (ex_pf rfl (cx.u 0 rfl) (cx.u 1 rfl))) <|
    kmu 0 <|
    kno 0 <|
    kno 1 <|
    kno 1 <|
    kno 1 <|
    hk (fun cx=>cx.q (ex_pt rfl (cx.u 0 rfl) rfl)) <|
    kmu 0 <|
    kno 0 <|
    kno 1 <|
    kno 1 <|
    kno 1 <|
    hk (fun cx=>cx.q (ex_pt rfl (cx.u 0 rfl) rfl)) <|
    hn) ?_
   intro a11 w11 f11
   refine wp_cond_true (f11.v 37 rfl rfl rfl) ?_
   refine wp_seq ?_
   refine go_reg [] [] [oF] mo f11.d f11.z f11.b (by kernel_rfl) trivial (
    hk (fun cx=>cx.q (ex_as rfl rfl)) <|
    hn) ?_
   intro a12 w12 f12
   refine wp_ret ?_
   try simp only [Exit.inBlock,Exit.then]
   refine bodyPost_ret (res_t (fn:=Tryz.f30) rfl (f12.v 0 rfl rfl rfl)) f12.d ?_
   have HE:(.bool false:Value)=.bool (mayX x):=by unfold mayX bne;simp only [nb Ffk2.out,Ffk3.out,Ffk4.out,Ffk5.out,Ffk1.out,Bool.true_and,Bool.and_true,Bool.false_and,Bool.and_false,Bool.or_false,Bool.false_or,Bool.true_or,Bool.or_true,Bool.not_true,Bool.not_false]
   exact ⟨retV HE,f12.b⟩
  have Ffk5:=Lib.hid fk5;clear fk5
  cases fk6:fourB x.disp
  case false=>
   have Ffk6:=Lib.hid fk6;clear fk6
   have b_g1_9:=f2.k b_g1
   have s1_10:=f2.q 1 u_g1
   refine go_reg [bx g1 38 (xC x)] [] (tabs [some (.int .i64 (clsI x.op)),oF,oF,some (.agg (xC x)),some (.agg (xC x)),some (.agg (xC (fldX (clsI x.op) x))),oF,oF,oF,some (pt g1 2),some (.int .i8 x.dst),oT,oF,oF,oF,some (pt g1 3),some (.int .i8 x.src),oT,oF,oF] [oF,some (pt g1 4),some (.int .i8 x.base),oT,oF,oF,oF,some (pt g1 5),some (.int .i64 x.disp),oF,oT,oT,oT,oU,oU,oU,oU,oT]) mo f2.d f2.z f2.b (by kernel_rfl) ⟨b_g1_9,trivial⟩ (
    hk (fun cx=>cx.q (ex_mv rfl (cx.rq 3 (f2.v 3 rfl rfl rfl)))) <|
    hk (fun cx=>cx.v (ex_eq (x:=.tmp 7) rfl (cx.u 0 rfl) rfl) rfl (congrArg Value.bool Ffk1.out)) <|
    kmu 0 <|
    hk (fun cx=>cx.vy 0 (ldX rfl (cx.rq 1 s1_10) (cx.rn 0 rfl))) <|
    hk (fun cx=>cx.vy 0 (ldX rfl (cx.rq 1 s1_10) (cx.rn 0 rfl))) <|
    hc (fun _ _ wx cx=>cx.call (cx.wy rfl rfl rfl rfl (cx.u 1 rfl)) rfl rfl (args1 (cx.u 0 rfl)) Tryz.func63 (by decide +kernel) rfl (efld_n x wx) rfl rfl rfl rfl) <|
    hk (fun cx=>cx.vy (v:=.bool (!(eqX x (fldX (clsI x.op) x)))) 2 (exec_neq (x:=.tmp 10) (y:=.tmp 12) rfl (cx.u 0 rfl) (cx.u 1 rfl) (by kernel_rfl) (eq_x x (fldX (clsI x.op) x) _)) (congrArg Value.bool Ffk2.out)) <|
    hk (fun cx=>cx.q (ex_pf rfl (cx.u 0 rfl) (cx.u 1 rfl))) <|
    kmu 0 <|
    hk (fun cx=>cx.vy 0 (ex_fa rfl (cx.rq 1 s1_10) (faEnD24_2_0 _ _))) <|
    hk (fun cx=>cx.vy 1 (ex_ld rfl (cx.u 0 rfl) (cx.rn 0 rfl) rfl Tryz.isAgg36)) <|
    hc (fun _ _ wx cx=>cx.call (cx.wy rfl rfl rfl rfl (cx.u 1 rfl)) rfl rfl (args1 (cx.u 0 rfl)) Tryz.func64 (by decide +kernel) rfl (ereg_n x.dst wx) rfl rfl (congrArg Value.bool Ffk3.out) rfl) <|
    hk (fun cx=>cx.vy 1 (ex_not (x:=.tmp 18) rfl (cx.u 0 rfl))) <|
    hk (fun cx=>cx.q (ex_pf rfl (cx.u 0 rfl) (cx.u 1 rfl))) <|
    kmu 0 <|
    hk (fun cx=>cx.vy 0 (ex_fa rfl (cx.rq 1 s1_10) (faEnD24_3_0 _ _))) <|
    hk (fun cx=>cx.vy 1 (ex_ld rfl (cx.u 0 rfl) (cx.rn 0 rfl) rfl Tryz.isAgg36)) <|
    hc (fun _ _ wx cx=>cx.call (cx.wy rfl rfl rfl rfl (cx.u 1 rfl)) rfl rfl (args1 (cx.u 0 rfl)) Tryz.func64 (by decide +kernel) rfl (ereg_n x.src wx) rfl rfl (congrArg Value.bool Ffk4.out) rfl) <|
    hk (fun cx=>cx.vy 1 (ex_not (x:=.tmp 24) rfl (cx.u 0 rfl))) <|
    hk (fun cx=>cx.q (ex_pf rfl (cx.u 0 rfl) (cx.u 1 rfl))) <|
    kmu 0 <|
    hk (fun cx=>cx.vy 0 (ex_fa rfl (cx.rq 1 s1_10) (faEnD24_4_0 _ _))) <|
    hk (fun cx=>cx.vy 1 (ex_ld rfl (cx.u 0 rfl) (cx.rn 0 rfl) rfl Tryz.isAgg36)) <|
    hc (fun _ _ wx cx=>cx.call (cx.wy rfl rfl rfl rfl (cx.u 1 rfl)) rfl rfl (args1 (cx.u 0 rfl)) Tryz.func64 (by decide +kernel) rfl (ereg_n x.base wx) rfl rfl (congrArg Value.bool Ffk5.out) rfl) <|
    hk (fun cx=>cx.vy 1 (ex_not (x:=.tmp 30) rfl (cx.u 0 rfl))) <|
    hk (fun cx=>cx.q (ex_pf rfl (cx.u 0 rfl) (cx.u 1 rfl))) <|
    kmu 0 <|
    hk (fun cx=>cx.vy 0 (ex_fa rfl (cx.rq 1 s1_10) (faEnD24_5_0 _ _))) <|
    hk (fun cx=>cx.vy 1 (ex_ld rfl (cx.u 0 rfl) (cx.rn 0 rfl) rfl Tryz.isAgg3)) <|
    hc (fun _ _ wx cx=>cx.call (cx.wy rfl rfl rfl rfl (cx.u 1 rfl)) rfl rfl (args1 (cx.u 0 rfl)) Tryz.func65 (by decide +kernel) rfl (efour_n x.disp wx) rfl rfl (congrArg Value.bool Ffk6.out) rfl) <|
    hk (fun cx=>cx.vy 1 (ex_not (x:=.tmp 36) rfl (cx.u 0 rfl))) <|
    hk (fun cx=>cx.q (ex_pf rfl (cx.u 0 rfl) (cx.u 1 rfl))) <|
    kmu 0 <|
    kno 0 <|
    kno 1 <|
    kno 1 <|
    kno 1 <|
    hk (fun cx=>cx.q (ex_pt rfl (cx.u 0 rfl) rfl)) <|
    hn) ?_
   intro a13 w13 f13
   refine wp_cond_true (f13.v 37 rfl rfl rfl) ?_
   refine wp_seq ?_
   refine go_reg [] [] [oF] mo f13.d f13.z f13.b (by kernel_rfl) trivial (
    hk (fun cx=>cx.q (ex_as rfl rfl)) <|
    hn) ?_
   intro a14 w14 f14
   refine wp_ret ?_
   try simp only [Exit.inBlock,Exit.then]
   refine bodyPost_ret (res_t (fn:=Tryz.f30) rfl (f14.v 0 rfl rfl rfl)) f14.d ?_
   have HE:(.bool false:Value)=.bool (mayX x):=by unfold mayX bne;simp only [nb Ffk2.out,Ffk3.out,Ffk4.out,Ffk5.out,Ffk6.out,Ffk1.out,Bool.true_and,Bool.and_true,Bool.false_and,Bool.and_false,Bool.or_false,Bool.false_or,Bool.true_or,Bool.or_true,Bool.not_true,Bool.not_false]
   exact ⟨retV HE,f14.b⟩
  have Ffk6:=Lib.hid fk6;clear fk6
  cases fk7:fourB x.imm
  case false=>
   have Ffk7:=Lib.hid fk7;clear fk7
   have b_g1_11:=f2.k b_g1
   have s1_12:=f2.q 1 u_g1
   refine go_reg [bx g1 38 (xC x)] [] (tabs [some (.int .i64 (clsI x.op)),oF,oF,some (.agg (xC x)),some (.agg (xC x)),some (.agg (xC (fldX (clsI x.op) x))),oF,oF,oF,some (pt g1 2),some (.int .i8 x.dst),oT,oF,oF,oF,some (pt g1 3),some (.int .i8 x.src),oT,oF,oF] [oF,some (pt g1 4),some (.int .i8 x.base),oT,oF,oF,oF,some (pt g1 5),some (.int .i64 x.disp),oT,oF,oF,oF,some (pt g1 6),some (.int .i64 x.imm),oF,oT,oT]) mo f2.d f2.z f2.b (by kernel_rfl) ⟨b_g1_11,trivial⟩ (
    hk (fun cx=>cx.q (ex_mv rfl (cx.rq 3 (f2.v 3 rfl rfl rfl)))) <|
    hk (fun cx=>cx.v (ex_eq (x:=.tmp 7) rfl (cx.u 0 rfl) rfl) rfl (congrArg Value.bool Ffk1.out)) <|
    kmu 0 <|
    hk (fun cx=>cx.vy 0 (ldX rfl (cx.rq 1 s1_12) (cx.rn 0 rfl))) <|
    hk (fun cx=>cx.vy 0 (ldX rfl (cx.rq 1 s1_12) (cx.rn 0 rfl))) <|
    hc (fun _ _ wx cx=>cx.call (cx.wy rfl rfl rfl rfl (cx.u 1 rfl)) rfl rfl (args1 (cx.u 0 rfl)) Tryz.func63 (by decide +kernel) rfl (efld_n x wx) rfl rfl rfl rfl) <|
    hk (fun cx=>cx.vy (v:=.bool (!(eqX x (fldX (clsI x.op) x)))) 2 (exec_neq (x:=.tmp 10) (y:=.tmp 12) rfl (cx.u 0 rfl) (cx.u 1 rfl) (by kernel_rfl) (eq_x x (fldX (clsI x.op) x) _)) (congrArg Value.bool Ffk2.out)) <|
    hk (fun cx=>cx.q (ex_pf rfl (cx.u 0 rfl) (cx.u 1 rfl))) <|
    kmu 0 <|
    hk (fun cx=>cx.vy 0 (ex_fa rfl (cx.rq 1 s1_12) (faEnD24_2_0 _ _))) <|
    hk (fun cx=>cx.vy 1 (ex_ld rfl (cx.u 0 rfl) (cx.rn 0 rfl) rfl Tryz.isAgg36)) <|
    hc (fun _ _ wx cx=>cx.call (cx.wy rfl rfl rfl rfl (cx.u 1 rfl)) rfl rfl (args1 (cx.u 0 rfl)) Tryz.func64 (by decide +kernel) rfl (ereg_n x.dst wx) rfl rfl (congrArg Value.bool Ffk3.out) rfl) <|
    hk (fun cx=>cx.vy 1 (ex_not (x:=.tmp 18) rfl (cx.u 0 rfl))) <|
    hk (fun cx=>cx.q (ex_pf rfl (cx.u 0 rfl) (cx.u 1 rfl))) <|
    kmu 0 <|
    hk (fun cx=>cx.vy 0 (ex_fa rfl (cx.rq 1 s1_12) (faEnD24_3_0 _ _))) <|
    hk (fun cx=>cx.vy 1 (ex_ld rfl (cx.u 0 rfl) (cx.rn 0 rfl) rfl Tryz.isAgg36)) <|
    hc (fun _ _ wx cx=>cx.call (cx.wy rfl rfl rfl rfl (cx.u 1 rfl)) rfl rfl (args1 (cx.u 0 rfl)) Tryz.func64 (by decide +kernel) rfl (ereg_n x.src wx) rfl rfl (congrArg Value.bool Ffk4.out) rfl) <|
    hk (fun cx=>cx.vy 1 (ex_not (x:=.tmp 24) rfl (cx.u 0 rfl))) <|
    hk (fun cx=>cx.q (ex_pf rfl (cx.u 0 rfl) (cx.u 1 rfl))) <|
    kmu 0 <|
    hk (fun cx=>cx.vy 0 (ex_fa rfl (cx.rq 1 s1_12) (faEnD24_4_0 _ _))) <|
    hk (fun cx=>cx.vy 1 (ex_ld rfl (cx.u 0 rfl) (cx.rn 0 rfl) rfl Tryz.isAgg36)) <|
    hc (fun _ _ wx cx=>cx.call (cx.wy rfl rfl rfl rfl (cx.u 1 rfl)) rfl rfl (args1 (cx.u 0 rfl)) Tryz.func64 (by decide +kernel) rfl (ereg_n x.base wx) rfl rfl (congrArg Value.bool Ffk5.out) rfl) <|
    hk (fun cx=>cx.vy 1 (ex_not (x:=.tmp 30) rfl (cx.u 0 rfl))) <|
    hk (fun cx=>cx.q (ex_pf rfl (cx.u 0 rfl) (cx.u 1 rfl))) <|
    kmu 0 <|
    hk (fun cx=>cx.vy 0 (ex_fa rfl (cx.rq 1 s1_12) (faEnD24_5_0 _ _))) <|
    hk (fun cx=>cx.vy 1 (ex_ld rfl (cx.u 0 rfl) (cx.rn 0 rfl) rfl Tryz.isAgg3)) <|
    hc (fun _ _ wx cx=>cx.call (cx.wy rfl rfl rfl rfl (cx.u 1 rfl)) rfl rfl (args1 (cx.u 0 rfl)) Tryz.func65 (by decide +kernel) rfl (efour_n x.disp wx) rfl rfl (congrArg Value.bool Ffk6.out) rfl) <|
    hk (fun cx=>cx.vy 1 (ex_not (x:=.tmp 36) rfl (cx.u 0 rfl))) <|
    hk (fun cx=>cx.q (ex_pf rfl (cx.u 0 rfl) (cx.u 1 rfl))) <|
    kmu 0 <|
    hk (fun cx=>cx.vy 0 (ex_fa rfl (cx.rq 1 s1_12) (faEnD24_6_0 _ _))) <|
    hk (fun cx=>cx.vy 1 (ex_ld rfl (cx.u 0 rfl) (cx.rn 0 rfl) rfl Tryz.isAgg3)) <|
    hc (fun _ _ wx cx=>cx.call (cx.wy rfl rfl rfl rfl (cx.u 1 rfl)) rfl rfl (args1 (cx.u 0 rfl)) Tryz.func65 (by decide +kernel) rfl (efour_n x.imm wx) rfl rfl (congrArg Value.bool Ffk7.out) rfl) <|
    hk (fun cx=>cx.vy 1 (ex_not (x:=.tmp 42) rfl (cx.u 0 rfl))) <|
    hk (fun cx=>cx.q (ex_pf rfl (cx.u 0 rfl) (cx.u 1 rfl))) <|
    hn) ?_
   intro a15 w15 f15
   refine wp_cond_true (f15.v 37 rfl rfl rfl) ?_
   refine wp_seq ?_
   refine go_reg [] [] [oF] mo f15.d f15.z f15.b (by kernel_rfl) trivial (
    hk (fun cx=>cx.q (ex_as rfl rfl)) <|
    hn) ?_
   intro a16 w16 f16
   refine wp_ret ?_
   try simp only [Exit.inBlock,Exit.then]
   refine bodyPost_ret (res_t (fn:=Tryz.f30) rfl (f16.v 0 rfl rfl rfl)) f16.d ?_
   have HE:(.bool false:Value)=.bool (mayX x):=by unfold mayX bne;simp only [nb Ffk2.out,Ffk3.out,Ffk4.out,Ffk5.out,Ffk6.out,Ffk7.out,Ffk1.out,Bool.true_and,Bool.and_true,Bool.false_and,Bool.and_false,Bool.or_false,Bool.false_or,Bool.true_or,Bool.or_true,Bool.not_true,Bool.not_false]
   exact ⟨retV HE,f16.b⟩
  have Ffk7:=Lib.hid fk7;clear fk7
  have b_g1_13:=f2.k b_g1
  have s1_14:=f2.q 1 u_g1
  refine go_reg [bx g1 38 (xC x)] [] (tabs [some (.int .i64 (clsI x.op)),oF,oF,some (.agg (xC x)),some (.agg (xC x)),some (.agg (xC (fldX (clsI x.op) x))),oF,oF,oF,some (pt g1 2),some (.int .i8 x.dst),oT,oF,oF,oF,some (pt g1 3),some (.int .i8 x.src),oT,oF,oF] [oF,some (pt g1 4),some (.int .i8 x.base),oT,oF,oF,oF,some (pt g1 5),some (.int .i64 x.disp),oT,oF,oF,oF,some (pt g1 6),some (.int .i64 x.imm),oT,oF,oF]) mo f2.d f2.z f2.b (by kernel_rfl) ⟨b_g1_13,trivial⟩ (
   hk (fun cx=>cx.q (ex_mv rfl (cx.rq 3 (f2.v 3 rfl rfl rfl)))) <|
   hk (fun cx=>cx.v (ex_eq (x:=.tmp 7) rfl (cx.u 0 rfl) rfl) rfl (congrArg Value.bool Ffk1.out)) <|
   kmu 0 <|
   hk (fun cx=>cx.vy 0 (ldX rfl (cx.rq 1 s1_14) (cx.rn 0 rfl))) <|
   hk (fun cx=>cx.vy 0 (ldX rfl (cx.rq 1 s1_14) (cx.rn 0 rfl))) <|
   hc (fun _ _ wx cx=>cx.call (cx.wy rfl rfl rfl rfl (cx.u 1 rfl)) rfl rfl (args1 (cx.u 0 rfl)) Tryz.func63 (by decide +kernel) rfl (efld_n x wx) rfl rfl rfl rfl) <|
   hk (fun cx=>cx.vy (v:=.bool (!(eqX x (fldX (clsI x.op) x)))) 2 (exec_neq (x:=.tmp 10) (y:=.tmp 12) rfl (cx.u 0 rfl) (cx.u 1 rfl) (by kernel_rfl) (eq_x x (fldX (clsI x.op) x) _)) (congrArg Value.bool Ffk2.out)) <|
   hk (fun cx=>cx.q (ex_pf rfl (cx.u 0 rfl) (cx.u 1 rfl))) <|
   kmu 0 <|
   hk (fun cx=>cx.vy 0 (ex_fa rfl (cx.rq 1 s1_14) (faEnD24_2_0 _ _))) <|
   hk (fun cx=>cx.vy 1 (ex_ld rfl (cx.u 0 rfl) (cx.rn 0 rfl) rfl Tryz.isAgg36)) <|
   hc (fun _ _ wx cx=>cx.call (cx.wy rfl rfl rfl rfl (cx.u 1 rfl)) rfl rfl (args1 (cx.u 0 rfl)) Tryz.func64 (by decide +kernel) rfl (ereg_n x.dst wx) rfl rfl (congrArg Value.bool Ffk3.out) rfl) <|
   hk (fun cx=>cx.vy 1 (ex_not (x:=.tmp 18) rfl (cx.u 0 rfl))) <|
   hk (fun cx=>cx.q (ex_pf rfl (cx.u 0 rfl) (cx.u 1 rfl))) <|
   kmu 0 <|
   hk (fun cx=>cx.vy 0 (ex_fa rfl (cx.rq 1 s1_14) (faEnD24_3_0 _ _))) <|
   hk (fun cx=>cx.vy 1 (ex_ld rfl (cx.u 0 rfl) (cx.rn 0 rfl) rfl Tryz.isAgg36)) <|
   hc (fun _ _ wx cx=>cx.call (cx.wy rfl rfl rfl rfl (cx.u 1 rfl)) rfl rfl (args1 (cx.u 0 rfl)) Tryz.func64 (by decide +kernel) rfl (ereg_n x.src wx) rfl rfl (congrArg Value.bool Ffk4.out) rfl) <|
   hk (fun cx=>cx.vy 1 (ex_not (x:=.tmp 24) rfl (cx.u 0 rfl))) <|
   hk (fun cx=>cx.q (ex_pf rfl (cx.u 0 rfl) (cx.u 1 rfl))) <|
   kmu 0 <|
   hk (fun cx=>cx.vy 0 (ex_fa rfl (cx.rq 1 s1_14) (faEnD24_4_0 _ _))) <|
   hk (fun cx=>cx.vy 1 (ex_ld rfl (cx.u 0 rfl) (cx.rn 0 rfl) rfl Tryz.isAgg36)) <|
   hc (fun _ _ wx cx=>cx.call (cx.wy rfl rfl rfl rfl (cx.u 1 rfl)) rfl rfl (args1 (cx.u 0 rfl)) Tryz.func64 (by decide +kernel) rfl (ereg_n x.base wx) rfl rfl (congrArg Value.bool Ffk5.out) rfl) <|
   hk (fun cx=>cx.vy 1 (ex_not (x:=.tmp 30) rfl (cx.u 0 rfl))) <|
   hk (fun cx=>cx.q (ex_pf rfl (cx.u 0 rfl) (cx.u 1 rfl))) <|
   kmu 0 <|
   hk (fun cx=>cx.vy 0 (ex_fa rfl (cx.rq 1 s1_14) (faEnD24_5_0 _ _))) <|
   hk (fun cx=>cx.vy 1 (ex_ld rfl (cx.u 0 rfl) (cx.rn 0 rfl) rfl Tryz.isAgg3)) <|
   hc (fun _ _ wx cx=>cx.call (cx.wy rfl rfl rfl rfl (cx.u 1 rfl)) rfl rfl (args1 (cx.u 0 rfl)) Tryz.func65 (by decide +kernel) rfl (efour_n x.disp wx) rfl rfl (congrArg Value.bool Ffk6.out) rfl) <|
   hk (fun cx=>cx.vy 1 (ex_not (x:=.tmp 36) rfl (cx.u 0 rfl))) <|
   hk (fun cx=>cx.q (ex_pf rfl (cx.u 0 rfl) (cx.u 1 rfl))) <|
   kmu 0 <|
   hk (fun cx=>cx.vy 0 (ex_fa rfl (cx.rq 1 s1_14) (faEnD24_6_0 _ _))) <|
   hk (fun cx=>cx.vy 1 (ex_ld rfl (cx.u 0 rfl) (cx.rn 0 rfl) rfl Tryz.isAgg3)) <|
   hc (fun _ _ wx cx=>cx.call (cx.wy rfl rfl rfl rfl (cx.u 1 rfl)) rfl rfl (args1 (cx.u 0 rfl)) Tryz.func65 (by decide +kernel) rfl (efour_n x.imm wx) rfl rfl (congrArg Value.bool Ffk7.out) rfl) <|
   hk (fun cx=>cx.vy 1 (ex_not (x:=.tmp 42) rfl (cx.u 0 rfl))) <|
   hk (fun cx=>cx.q (ex_pf rfl (cx.u 0 rfl) (cx.u 1 rfl))) <|
   hn) ?_
  intro a17 w17 f17
  refine wp_cond_false (f17.v 37 rfl rfl rfl) ?_
  refine wp_skip ?_
  refine wp_seq ?_
  refine wp_seq ?_
  have s3_15:=f17.q 3 (f2.v 3 rfl rfl rfl)
  refine go_reg [] [] [some (.int .i64 (clsI x.op))] mo f17.d f17.z f17.b (by kernel_rfl) trivial (
   hk (fun cx=>cx.q (ex_mv rfl (cx.rq 3 s3_15))) <|
   hn) ?_
  intro a18 w18 f18
  refine wp_block ?_
  refine wp_seq ?_
  refine wp_seq ?_
  cases fk8:(clsI x.op) == 1
  case true=>
   have Ffk8:=Lib.hid fk8;clear fk8
   refine go_reg [] [] [oT,oT] mo f18.d f18.z f18.b (by kernel_rfl) trivial (
    hk (fun cx=>cx.v (ex_eq (x:=.tmp 45) rfl (cx.rq 45 (f18.v 0 rfl rfl rfl)) rfl) rfl (congrArg Value.bool Ffk8.out)) <|
    kmu 0 <|
    hn) ?_
   intro a19 w19 f19
   refine wp_cond_true (f19.v 1 rfl rfl rfl) ?_
   refine wp_skip ?_
   refine wp_cond_true (f19.v 1 rfl rfl rfl) ?_
   refine wp_seq ?_
   have b_g1_16:=f19.k (f18.k (f17.k b_g1_13))
   have s1_17:=f19.q 1 (f18.q 1 (f17.q 1 s1_14))
   refine go_reg [bx g1 38 (xC x)] [] [some (pt g1 1),some (.int .i8 x.w),some (.bool (longB x.w)),some (.bool (longB x.w))] mo f19.d f19.z f19.b (by kernel_rfl) ⟨b_g1_16,trivial⟩ (
    hk (fun cx=>cx.q (ex_fa rfl (cx.rq 1 s1_17) (faEnD24_1_0 _ _))) <|
    hk (fun cx=>cx.q (ex_ld rfl (cx.u 0 rfl) (cx.rn 0 rfl) rfl Tryz.isAgg36)) <|
    hc (fun _ _ wx cx=>cx.c rfl (args1 (cx.u 0 rfl)) Tryz.func66 (by decide +kernel) (elong_n x.w wx) rfl rfl) <|
    kmu 0 <|
    hn) ?_
   intro a20 w20 f20
   refine wp_ret ?_
   try simp only [Exit.inBlock,Exit.then]
   refine bodyPost_ret (res_t (fn:=Tryz.f30) rfl (f20.v 3 rfl rfl rfl)) f20.d ?_
   have HE:(.bool (longB x.w):Value)=.bool (mayX x):=by rw [may_1 (eq_of_beq Ffk8.out)];simp only [nb Ffk2.out,Ffk3.out,Ffk4.out,Ffk5.out,Ffk6.out,Ffk7.out,Bool.true_and,Bool.and_true,Bool.false_and,Bool.and_false,Bool.or_false,Bool.false_or,Bool.true_or,Bool.or_true,Bool.not_true,Bool.not_false]
   exact ⟨retV HE,f20.b⟩
  have Ffk8:=Lib.hid fk8;clear fk8
  refine go_reg [] [] [oF,oF] mo f18.d f18.z f18.b (by kernel_rfl) trivial (
   hk (fun cx=>cx.v (ex_eq (x:=.tmp 45) rfl (cx.rq 45 (f18.v 0 rfl rfl rfl)) rfl) rfl (congrArg Value.bool Ffk8.out)) <|
   kmu 0 <|
   hn) ?_
  intro a21 w21 f21
  refine wp_cond_false (f21.v 1 rfl rfl rfl) ?_
  refine wp_seq ?_
  cases fk9:(clsI x.op) == 2
  case true=>
   have Ffk9:=Lib.hid fk9;clear fk9
   have s45_18:=f21.q 45 (f18.v 0 rfl rfl rfl)
   refine go_reg [] [] [oT,oT] mo f21.d f21.z f21.b (by kernel_rfl) trivial (
    hk (fun cx=>cx.v (ex_eq (x:=.tmp 45) rfl (cx.rq 45 s45_18) rfl) rfl (congrArg Value.bool Ffk9.out)) <|
    kmu 0 <|
    hn) ?_
   intro a22 w22 f22
   refine wp_cond_true (f22.v 1 rfl rfl rfl) ?_
   refine wp_skip ?_
   refine wp_cond_true (f22.v 1 rfl rfl rfl) ?_
   refine wp_seq ?_
   have b_g1_19:=f22.k (f21.k (f18.k (f17.k b_g1_13)))
   have s1_20:=f22.q 1 (f21.q 1 (f18.q 1 (f17.q 1 s1_14)))
   refine go_reg [bx g1 38 (xC x)] [] [some (pt g1 1),some (.int .i8 x.w),some (.bool (longB x.w)),some (.bool (longB x.w))] mo f22.d f22.z f22.b (by kernel_rfl) ⟨b_g1_19,trivial⟩ (
    hk (fun cx=>cx.q (ex_fa rfl (cx.rq 1 s1_20) (faEnD24_1_0 _ _))) <|
    hk (fun cx=>cx.q (ex_ld rfl (cx.u 0 rfl) (cx.rn 0 rfl) rfl Tryz.isAgg36)) <|
    hc (fun _ _ wx cx=>cx.c rfl (args1 (cx.u 0 rfl)) Tryz.func66 (by decide +kernel) (elong_n x.w wx) rfl rfl) <|
    kmu 0 <|
    hn) ?_
   intro a23 w23 f23
   refine wp_ret ?_
   try simp only [Exit.inBlock,Exit.then]
   refine bodyPost_ret (res_t (fn:=Tryz.f30) rfl (f23.v 3 rfl rfl rfl)) f23.d ?_
   have HE:(.bool (longB x.w):Value)=.bool (mayX x):=by rw [may_2 (eq_of_beq Ffk9.out)];simp only [nb Ffk2.out,Ffk3.out,Ffk4.out,Ffk5.out,Ffk6.out,Ffk7.out,Bool.true_and,Bool.and_true,Bool.false_and,Bool.and_false,Bool.or_false,Bool.false_or,Bool.true_or,Bool.or_true,Bool.not_true,Bool.not_false]
   exact ⟨retV HE,f23.b⟩
  have Ffk9:=Lib.hid fk9;clear fk9
  have s45_21:=f21.q 45 (f18.v 0 rfl rfl rfl)
  refine go_reg [] [] [oF,oF] mo f21.d f21.z f21.b (by kernel_rfl) trivial (
   hk (fun cx=>cx.v (ex_eq (x:=.tmp 45) rfl (cx.rq 45 s45_21) rfl) rfl (congrArg Value.bool Ffk9.out)) <|
   kmu 0 <|
   hn) ?_
  intro a24 w24 f24
  refine wp_cond_false (f24.v 1 rfl rfl rfl) ?_
  cases fk10:(clsI x.op) == 4
  case true=>
   have Ffk10:=Lib.hid fk10;clear fk10
   have s45_22:=f24.q 45 s45_21
   refine go_reg [] [] [oT,oT] mo f24.d f24.z f24.b (by kernel_rfl) trivial (
    hk (fun cx=>cx.v (ex_eq (x:=.tmp 45) rfl (cx.rq 45 s45_22) rfl) rfl (congrArg Value.bool Ffk10.out)) <|
    kmu 0 <|
    hn) ?_
   intro a25 w25 f25
   refine wp_cond_true (f25.v 1 rfl rfl rfl) ?_
   refine wp_seq ?_
   have b_g1_23:=f25.k (f24.k (f21.k (f18.k (f17.k b_g1_13))))
   have s1_24:=f25.q 1 (f24.q 1 (f21.q 1 (f18.q 1 (f17.q 1 s1_14))))
   refine go_reg [bx g1 38 (xC x)] [] [some (pt g1 1),some (.int .i8 x.w),some (.bool (longB x.w)),some (.bool (longB x.w))] mo f25.d f25.z f25.b (by kernel_rfl) ⟨b_g1_23,trivial⟩ (
    hk (fun cx=>cx.q (ex_fa rfl (cx.rq 1 s1_24) (faEnD24_1_0 _ _))) <|
    hk (fun cx=>cx.q (ex_ld rfl (cx.u 0 rfl) (cx.rn 0 rfl) rfl Tryz.isAgg36)) <|
    hc (fun _ _ wx cx=>cx.c rfl (args1 (cx.u 0 rfl)) Tryz.func66 (by decide +kernel) (elong_n x.w wx) rfl rfl) <|
    kmu 0 <|
    hn) ?_
   intro a26 w26 f26
   refine wp_ret ?_
   try simp only [Exit.inBlock,Exit.then]
   refine bodyPost_ret (res_t (fn:=Tryz.f30) rfl (f26.v 3 rfl rfl rfl)) f26.d ?_
   have HE:(.bool (longB x.w):Value)=.bool (mayX x):=by rw [may_4 (eq_of_beq Ffk10.out)];simp only [nb Ffk2.out,Ffk3.out,Ffk4.out,Ffk5.out,Ffk6.out,Ffk7.out,Bool.true_and,Bool.and_true,Bool.false_and,Bool.and_false,Bool.or_false,Bool.false_or,Bool.true_or,Bool.or_true,Bool.not_true,Bool.not_false]
   exact ⟨retV HE,f26.b⟩
  have Ffk10:=Lib.hid fk10;clear fk10
  have s45_25:=f24.q 45 s45_21
  refine go_reg [] [] [oF,oF] mo f24.d f24.z f24.b (by kernel_rfl) trivial (
   hk (fun cx=>cx.v (ex_eq (x:=.tmp 45) rfl (cx.rq 45 s45_25) rfl) rfl (congrArg Value.bool Ffk10.out)) <|
   kmu 0 <|
   hn) ?_
  intro a27 w27 f27
  refine wp_cond_false (f27.v 1 rfl rfl rfl) ?_
  refine wp_seq ?_
  cases fk11:(clsI x.op) == 3
  case true=>
   have Ffk11:=Lib.hid fk11;clear fk11
   have s45_26:=f27.q 45 s45_25
   refine go_reg [] [] [oT,oT] mo f27.d f27.z f27.b (by kernel_rfl) trivial (
    hk (fun cx=>cx.v (ex_eq (x:=.tmp 45) rfl (cx.rq 45 s45_26) rfl) rfl (congrArg Value.bool Ffk11.out)) <|
    kmu 0 <|
    hn) ?_
   intro a28 w28 f28
   refine wp_cond_true (f28.v 1 rfl rfl rfl) ?_
   refine wp_seq ?_
   cases fk12:longB x.w
   case false=>
    have Ffk12:=Lib.hid fk12;clear fk12
    have b_g1_27:=f28.k (f27.k (f24.k (f21.k (f18.k (f17.k b_g1_13)))))
    have s1_28:=f28.q 1 (f27.q 1 (f24.q 1 (f21.q 1 (f18.q 1 (f17.q 1 s1_14)))))
    refine go_reg [bx g1 38 (xC x)] [] [some (pt g1 1),some (.int .i8 x.w),oF,oF,oU,oU,oU,oF,oF,oU,oU,oU,oU,oU,oU,oF,oF] mo f28.d f28.z f28.b (by kernel_rfl) ⟨b_g1_27,trivial⟩ (
     hk (fun cx=>cx.q (ex_fa rfl (cx.rq 1 s1_28) (faEnD24_1_0 _ _))) <|
     hk (fun cx=>cx.q (ex_ld rfl (cx.u 0 rfl) (cx.rn 0 rfl) rfl Tryz.isAgg36)) <|
     hc (fun _ _ wx cx=>cx.c rfl (args1 (cx.u 0 rfl)) Tryz.func66 (by decide +kernel) (elong_n x.w wx) rfl (congrArg Value.bool Ffk12.out)) <|
     kmu 0 <|
     kno 0 <|
     kno 1 <|
     kno 1 <|
     hk (fun cx=>cx.q (ex_pf rfl (cx.u 0 rfl) rfl)) <|
     kmu 0 <|
     kno 0 <|
     kno 1 <|
     kno 0 <|
     kno 1 <|
     kno 1 <|
     kno 2 <|
     hk (fun cx=>cx.q (ex_pf rfl (cx.u 0 rfl) rfl)) <|
     kmu 0 <|
     hn) ?_
    intro a29 w29 f29
    refine wp_ret ?_
    try simp only [Exit.inBlock,Exit.then]
    refine bodyPost_ret (res_t (fn:=Tryz.f30) rfl (f29.v 16 rfl rfl rfl)) f29.d ?_
    have HE:(.bool false:Value)=.bool (mayX x):=by rw [may_3 (eq_of_beq Ffk11.out)];simp only [nb Ffk2.out,Ffk3.out,Ffk4.out,Ffk5.out,Ffk6.out,Ffk7.out,Ffk12.out,Bool.true_and,Bool.and_true,Bool.false_and,Bool.and_false,Bool.or_false,Bool.false_or,Bool.true_or,Bool.or_true,Bool.not_true,Bool.not_false]
    exact ⟨retV HE,f29.b⟩
   have Ffk12:=Lib.hid fk12;clear fk12
   cases fk13:decide (0 ≤ x.imm)
   case false=>
    have Ffk13:=Lib.hid fk13;clear fk13
    have b_g1_29:=f28.k (f27.k (f24.k (f21.k (f18.k (f17.k b_g1_13)))))
    have s1_30:=f28.q 1 (f27.q 1 (f24.q 1 (f21.q 1 (f18.q 1 (f17.q 1 s1_14)))))
    refine go_reg [bx g1 38 (xC x)] [] [some (pt g1 1),some (.int .i8 x.w),oT,oT,some (pt g1 6),some (.int .i64 x.imm),oF,oF,oF,oU,oU,oU,oU,oU,oU,oF,oF] mo f28.d f28.z f28.b (by kernel_rfl) ⟨b_g1_29,trivial⟩ (
     hk (fun cx=>cx.q (ex_fa rfl (cx.rq 1 s1_30) (faEnD24_1_0 _ _))) <|
     hk (fun cx=>cx.q (ex_ld rfl (cx.u 0 rfl) (cx.rn 0 rfl) rfl Tryz.isAgg36)) <|
     hc (fun _ _ wx cx=>cx.c rfl (args1 (cx.u 0 rfl)) Tryz.func66 (by decide +kernel) (elong_n x.w wx) rfl (congrArg Value.bool Ffk12.out)) <|
     kmu 0 <|
     hk (fun cx=>cx.vy 0 (ex_fa rfl (cx.rq 1 s1_30) (faEnD24_6_0 _ _))) <|
     hk (fun cx=>cx.vy 1 (ex_ld rfl (cx.u 0 rfl) (cx.rn 0 rfl) rfl Tryz.isAgg3)) <|
     hk (fun cx=>cx.vy 1 (ex_ge (x:=.tmp 60) rfl (cx.u 0 rfl) rfl) (congrArg Value.bool Ffk13.out)) <|
     hk (fun cx=>cx.q (ex_pt rfl (cx.u 0 rfl) (cx.u 1 rfl))) <|
     kmu 0 <|
     kno 0 <|
     kno 1 <|
     kno 0 <|
     kno 1 <|
     kno 1 <|
     kno 2 <|
     hk (fun cx=>cx.q (ex_pf rfl (cx.u 0 rfl) rfl)) <|
     kmu 0 <|
     hn) ?_
    intro a30 w30 f30
    refine wp_ret ?_
    try simp only [Exit.inBlock,Exit.then]
    refine bodyPost_ret (res_t (fn:=Tryz.f30) rfl (f30.v 16 rfl rfl rfl)) f30.d ?_
    have HE:(.bool false:Value)=.bool (mayX x):=by rw [may_3 (eq_of_beq Ffk11.out)];simp only [nb Ffk2.out,Ffk3.out,Ffk4.out,Ffk5.out,Ffk6.out,Ffk7.out,Ffk12.out,Ffk13.out,Bool.true_and,Bool.and_true,Bool.false_and,Bool.and_false,Bool.or_false,Bool.false_or,Bool.true_or,Bool.or_true,Bool.not_true,Bool.not_false]
    exact ⟨retV HE,f30.b⟩
   have Ffk13:=Lib.hid fk13;clear fk13
   have b_g1_31:=f28.k (f27.k (f24.k (f21.k (f18.k (f17.k b_g1_13)))))
   have s1_32:=f28.q 1 (f27.q 1 (f24.q 1 (f21.q 1 (f18.q 1 (f17.q 1 s1_14)))))
   refine go_reg [bx g1 38 (xC x)] [] [some (pt g1 1),some (.int .i8 x.w),oT,oT,some (pt g1 6),some (.int .i64 x.imm),oT,oT,oT,some (pt g1 6),some (.int .i64 x.imm),some (pt g1 1),some (.int .i8 x.w),some (.int .i64 x.w),some (.bool (decide (x.imm < x.w))),some (.bool (decide (x.imm < x.w))),some (.bool (decide (x.imm < x.w)))] mo f28.d f28.z f28.b (by kernel_rfl) ⟨b_g1_31,trivial⟩ (
    hk (fun cx=>cx.q (ex_fa rfl (cx.rq 1 s1_32) (faEnD24_1_0 _ _))) <|
    hk (fun cx=>cx.q (ex_ld rfl (cx.u 0 rfl) (cx.rn 0 rfl) rfl Tryz.isAgg36)) <|
    hc (fun _ _ wx cx=>cx.c rfl (args1 (cx.u 0 rfl)) Tryz.func66 (by decide +kernel) (elong_n x.w wx) rfl (congrArg Value.bool Ffk12.out)) <|
    kmu 0 <|
    hk (fun cx=>cx.vy 0 (ex_fa rfl (cx.rq 1 s1_32) (faEnD24_6_0 _ _))) <|
    hk (fun cx=>cx.vy 1 (ex_ld rfl (cx.u 0 rfl) (cx.rn 0 rfl) rfl Tryz.isAgg3)) <|
    hk (fun cx=>cx.vy 1 (ex_ge (x:=.tmp 60) rfl (cx.u 0 rfl) rfl) (congrArg Value.bool Ffk13.out)) <|
    hk (fun cx=>cx.q (ex_pt rfl (cx.u 0 rfl) (cx.u 1 rfl))) <|
    kmu 0 <|
    hk (fun cx=>cx.vy 0 (ex_fa rfl (cx.rq 1 s1_32) (faEnD24_6_0 _ _))) <|
    hk (fun cx=>cx.vy 1 (ex_ld rfl (cx.u 0 rfl) (cx.rn 0 rfl) rfl Tryz.isAgg3)) <|
    hk (fun cx=>cx.vy 0 (ex_fa rfl (cx.rq 1 s1_32) (faEnD24_1_0 _ _))) <|
    hk (fun cx=>cx.vy 1 (ex_ld rfl (cx.u 0 rfl) (cx.rn 0 rfl) rfl Tryz.isAgg36)) <|
    hk (fun cx=>cx.vy 1 (ex_conv (x:=.tmp 67) rfl (cx.u 0 rfl) Tryz.underlying36 Tryz.underlying3) (congrArg (Value.int .i64) (wrap_w hw))) <|
    hk (fun cx=>cx.vy 2 (ex_lt (x:=.tmp 65) (y:=.tmp 68) rfl (cx.u 0 rfl) (cx.u 1 rfl))) <|
    hk (fun cx=>cx.q (ex_pt rfl (cx.u 0 rfl) (cx.u 1 rfl))) <|
    kmu 0 <|
    hn) ?_
   intro a31 w31 f31
   refine wp_ret ?_
   try simp only [Exit.inBlock,Exit.then]
   refine bodyPost_ret (res_t (fn:=Tryz.f30) rfl (f31.v 16 rfl rfl rfl)) f31.d ?_
   have HE:(.bool (decide (x.imm < x.w)):Value)=.bool (mayX x):=by rw [may_3 (eq_of_beq Ffk11.out)];simp only [nb Ffk2.out,Ffk3.out,Ffk4.out,Ffk5.out,Ffk6.out,Ffk7.out,Ffk12.out,Ffk13.out,Bool.true_and,Bool.and_true,Bool.false_and,Bool.and_false,Bool.or_false,Bool.false_or,Bool.true_or,Bool.or_true,Bool.not_true,Bool.not_false]
   exact ⟨retV HE,f31.b⟩
  have Ffk11:=Lib.hid fk11;clear fk11
  have s45_33:=f27.q 45 s45_25
  refine go_reg [] [] [oF,oF] mo f27.d f27.z f27.b (by kernel_rfl) trivial (
   hk (fun cx=>cx.v (ex_eq (x:=.tmp 45) rfl (cx.rq 45 s45_33) rfl) rfl (congrArg Value.bool Ffk11.out)) <|
   kmu 0 <|
   hn) ?_
  intro a32 w32 f32
  refine wp_cond_false (f32.v 1 rfl rfl rfl) ?_
  refine wp_seq ?_
  cases fk14:(clsI x.op) == 5
  case true=>
   have Ffk14:=Lib.hid fk14;clear fk14
   have s45_34:=f32.q 45 s45_33
   refine go_reg [] [] [oT,oT] mo f32.d f32.z f32.b (by kernel_rfl) trivial (
    hk (fun cx=>cx.v (ex_eq (x:=.tmp 45) rfl (cx.rq 45 s45_34) rfl) rfl (congrArg Value.bool Ffk14.out)) <|
    kmu 0 <|
    hn) ?_
   intro a33 w33 f33
   refine wp_cond_true (f33.v 1 rfl rfl rfl) ?_
   refine wp_seq ?_
   cases fk15:longB x.w
   case false=>
    have Ffk15:=Lib.hid fk15;clear fk15
    have b_g1_35:=f33.k (f32.k (f27.k (f24.k (f21.k (f18.k (f17.k b_g1_13))))))
    have s1_36:=f33.q 1 (f32.q 1 (f27.q 1 (f24.q 1 (f21.q 1 (f18.q 1 (f17.q 1 s1_14))))))
    refine go_reg [bx g1 38 (xC x)] [] [some (pt g1 1),some (.int .i8 x.w),oF,oF,oU,oU,oU,oF,oF] mo f33.d f33.z f33.b (by kernel_rfl) ⟨b_g1_35,trivial⟩ (
     hk (fun cx=>cx.q (ex_fa rfl (cx.rq 1 s1_36) (faEnD24_1_0 _ _))) <|
     hk (fun cx=>cx.q (ex_ld rfl (cx.u 0 rfl) (cx.rn 0 rfl) rfl Tryz.isAgg36)) <|
     hc (fun _ _ wx cx=>cx.c rfl (args1 (cx.u 0 rfl)) Tryz.func66 (by decide +kernel) (elong_n x.w wx) rfl (congrArg Value.bool Ffk15.out)) <|
     kmu 0 <|
     kno 0 <|
     kno 1 <|
     kno 1 <|
     hk (fun cx=>cx.q (ex_pf rfl (cx.u 0 rfl) rfl)) <|
     kmu 0 <|
     hn) ?_
    intro a34 w34 f34
    refine wp_ret ?_
    try simp only [Exit.inBlock,Exit.then]
    refine bodyPost_ret (res_t (fn:=Tryz.f30) rfl (f34.v 8 rfl rfl rfl)) f34.d ?_
    have HE:(.bool false:Value)=.bool (mayX x):=by rw [may_5 (eq_of_beq Ffk14.out)];simp only [nb Ffk2.out,Ffk3.out,Ffk4.out,Ffk5.out,Ffk6.out,Ffk7.out,Ffk15.out,Bool.true_and,Bool.and_true,Bool.false_and,Bool.and_false,Bool.or_false,Bool.false_or,Bool.true_or,Bool.or_true,Bool.not_true,Bool.not_false]
    exact ⟨retV HE,f34.b⟩
   have Ffk15:=Lib.hid fk15;clear fk15
   have b_g1_37:=f33.k (f32.k (f27.k (f24.k (f21.k (f18.k (f17.k b_g1_13))))))
   have s1_38:=f33.q 1 (f32.q 1 (f27.q 1 (f24.q 1 (f21.q 1 (f18.q 1 (f17.q 1 s1_14))))))
   refine go_reg [bx g1 38 (xC x)] [] [some (pt g1 1),some (.int .i8 x.w),oT,oT,some (pt g1 7),some (.int .i8 x.cc),some (.bool (ccB x.cc)),some (.bool (ccB x.cc)),some (.bool (ccB x.cc))] mo f33.d f33.z f33.b (by kernel_rfl) ⟨b_g1_37,trivial⟩ (
    hk (fun cx=>cx.q (ex_fa rfl (cx.rq 1 s1_38) (faEnD24_1_0 _ _))) <|
    hk (fun cx=>cx.q (ex_ld rfl (cx.u 0 rfl) (cx.rn 0 rfl) rfl Tryz.isAgg36)) <|
    hc (fun _ _ wx cx=>cx.c rfl (args1 (cx.u 0 rfl)) Tryz.func66 (by decide +kernel) (elong_n x.w wx) rfl (congrArg Value.bool Ffk15.out)) <|
    kmu 0 <|
    hk (fun cx=>cx.vy 0 (ex_fa rfl (cx.rq 1 s1_38) (faEnD24_7_0 _ _))) <|
    hk (fun cx=>cx.vy 1 (ex_ld rfl (cx.u 0 rfl) (cx.rn 0 rfl) rfl Tryz.isAgg36)) <|
    hc (fun _ _ wx cx=>cx.call (cx.wy rfl rfl rfl rfl (cx.u 1 rfl)) rfl rfl (args1 (cx.u 0 rfl)) Tryz.func67 (by decide +kernel) rfl (ecc_n x.cc wx) rfl rfl rfl rfl) <|
    hk (fun cx=>cx.q (ex_pt rfl (cx.u 0 rfl) (cx.u 1 rfl))) <|
    kmu 0 <|
    hn) ?_
   intro a35 w35 f35
   refine wp_ret ?_
   try simp only [Exit.inBlock,Exit.then]
   refine bodyPost_ret (res_t (fn:=Tryz.f30) rfl (f35.v 8 rfl rfl rfl)) f35.d ?_
   have HE:(.bool (ccB x.cc):Value)=.bool (mayX x):=by rw [may_5 (eq_of_beq Ffk14.out)];simp only [nb Ffk2.out,Ffk3.out,Ffk4.out,Ffk5.out,Ffk6.out,Ffk7.out,Ffk15.out,Bool.true_and,Bool.and_true,Bool.false_and,Bool.and_false,Bool.or_false,Bool.false_or,Bool.true_or,Bool.or_true,Bool.not_true,Bool.not_false]
   exact ⟨retV HE,f35.b⟩
  have Ffk14:=Lib.hid fk14;clear fk14
  have s45_39:=f32.q 45 s45_33
  refine go_reg [] [] [oF,oF] mo f32.d f32.z f32.b (by kernel_rfl) trivial (
   hk (fun cx=>cx.v (ex_eq (x:=.tmp 45) rfl (cx.rq 45 s45_39) rfl) rfl (congrArg Value.bool Ffk14.out)) <|
   kmu 0 <|
   hn) ?_
  intro a36 w36 f36
  refine wp_cond_false (f36.v 1 rfl rfl rfl) ?_
  refine wp_seq ?_
  refine wp_seq ?_
  cases fk16:(clsI x.op) == 6
  case true=>
   have Ffk16:=Lib.hid fk16;clear fk16
   have s45_40:=f36.q 45 s45_39
   refine go_reg [] [] [oT,oT] mo f36.d f36.z f36.b (by kernel_rfl) trivial (
    hk (fun cx=>cx.v (ex_eq (x:=.tmp 45) rfl (cx.rq 45 s45_40) rfl) rfl (congrArg Value.bool Ffk16.out)) <|
    kmu 0 <|
    hn) ?_
   intro a37 w37 f37
   refine wp_cond_true (f37.v 1 rfl rfl rfl) ?_
   refine wp_skip ?_
   refine wp_cond_true (f37.v 1 rfl rfl rfl) ?_
   refine wp_seq ?_
   have b_g1_41:=f37.k (f36.k (f32.k (f27.k (f24.k (f21.k (f18.k (f17.k b_g1_13)))))))
   have s1_42:=f37.q 1 (f36.q 1 (f32.q 1 (f27.q 1 (f24.q 1 (f21.q 1 (f18.q 1 (f17.q 1 s1_14)))))))
   refine go_reg [bx g1 38 (xC x)] [] [some (pt g1 1),some (.int .i8 x.w),some (.bool (widB x.w)),some (.bool (widB x.w))] mo f37.d f37.z f37.b (by kernel_rfl) ⟨b_g1_41,trivial⟩ (
    hk (fun cx=>cx.q (ex_fa rfl (cx.rq 1 s1_42) (faEnD24_1_0 _ _))) <|
    hk (fun cx=>cx.q (ex_ld rfl (cx.u 0 rfl) (cx.rn 0 rfl) rfl Tryz.isAgg36)) <|
    hc (fun _ _ wx cx=>cx.c rfl (args1 (cx.u 0 rfl)) Tryz.func68 (by decide +kernel) (ewid_n x.w wx) rfl rfl) <|
    kmu 0 <|
    hn) ?_
   intro a38 w38 f38
   refine wp_ret ?_
   try simp only [Exit.inBlock,Exit.then]
   refine bodyPost_ret (res_t (fn:=Tryz.f30) rfl (f38.v 3 rfl rfl rfl)) f38.d ?_
   have HE:(.bool (widB x.w):Value)=.bool (mayX x):=by rw [may_6 (eq_of_beq Ffk16.out)];simp only [nb Ffk2.out,Ffk3.out,Ffk4.out,Ffk5.out,Ffk6.out,Ffk7.out,Bool.true_and,Bool.and_true,Bool.false_and,Bool.and_false,Bool.or_false,Bool.false_or,Bool.true_or,Bool.or_true,Bool.not_true,Bool.not_false]
   exact ⟨retV HE,f38.b⟩
  have Ffk16:=Lib.hid fk16;clear fk16
  have s45_43:=f36.q 45 s45_39
  refine go_reg [] [] [oF,oF] mo f36.d f36.z f36.b (by kernel_rfl) trivial (
   hk (fun cx=>cx.v (ex_eq (x:=.tmp 45) rfl (cx.rq 45 s45_43) rfl) rfl (congrArg Value.bool Ffk16.out)) <|
   kmu 0 <|
   hn) ?_
  intro a39 w39 f39
  refine wp_cond_false (f39.v 1 rfl rfl rfl) ?_
  cases fk17:(clsI x.op) == 7
  case true=>
   have Ffk17:=Lib.hid fk17;clear fk17
   have s45_44:=f39.q 45 s45_43
   refine go_reg [] [] [oT,oT] mo f39.d f39.z f39.b (by kernel_rfl) trivial (
    hk (fun cx=>cx.v (ex_eq (x:=.tmp 45) rfl (cx.rq 45 s45_44) rfl) rfl (congrArg Value.bool Ffk17.out)) <|
    kmu 0 <|
    hn) ?_
   intro a40 w40 f40
   refine wp_cond_true (f40.v 1 rfl rfl rfl) ?_
   refine wp_seq ?_
   have b_g1_45:=f40.k (f39.k (f36.k (f32.k (f27.k (f24.k (f21.k (f18.k (f17.k b_g1_13))))))))
   have s1_46:=f40.q 1 (f39.q 1 (f36.q 1 (f32.q 1 (f27.q 1 (f24.q 1 (f21.q 1 (f18.q 1 (f17.q 1 s1_14))))))))
   refine go_reg [bx g1 38 (xC x)] [] [some (pt g1 1),some (.int .i8 x.w),some (.bool (widB x.w)),some (.bool (widB x.w))] mo f40.d f40.z f40.b (by kernel_rfl) ⟨b_g1_45,trivial⟩ (
    hk (fun cx=>cx.q (ex_fa rfl (cx.rq 1 s1_46) (faEnD24_1_0 _ _))) <|
    hk (fun cx=>cx.q (ex_ld rfl (cx.u 0 rfl) (cx.rn 0 rfl) rfl Tryz.isAgg36)) <|
    hc (fun _ _ wx cx=>cx.c rfl (args1 (cx.u 0 rfl)) Tryz.func68 (by decide +kernel) (ewid_n x.w wx) rfl rfl) <|
    kmu 0 <|
    hn) ?_
   intro a41 w41 f41
   refine wp_ret ?_
   try simp only [Exit.inBlock,Exit.then]
   refine bodyPost_ret (res_t (fn:=Tryz.f30) rfl (f41.v 3 rfl rfl rfl)) f41.d ?_
   have HE:(.bool (widB x.w):Value)=.bool (mayX x):=by rw [may_7 (eq_of_beq Ffk17.out)];simp only [nb Ffk2.out,Ffk3.out,Ffk4.out,Ffk5.out,Ffk6.out,Ffk7.out,Bool.true_and,Bool.and_true,Bool.false_and,Bool.and_false,Bool.or_false,Bool.false_or,Bool.true_or,Bool.or_true,Bool.not_true,Bool.not_false]
   exact ⟨retV HE,f41.b⟩
  have Ffk17:=Lib.hid fk17;clear fk17
  have s45_47:=f39.q 45 s45_43
  refine go_reg [] [] [oF,oF] mo f39.d f39.z f39.b (by kernel_rfl) trivial (
   hk (fun cx=>cx.v (ex_eq (x:=.tmp 45) rfl (cx.rq 45 s45_47) rfl) rfl (congrArg Value.bool Ffk17.out)) <|
   kmu 0 <|
   hn) ?_
  intro a42 w42 f42
  refine wp_cond_false (f42.v 1 rfl rfl rfl) ?_
  refine wp_seq ?_
  cases fk18:(clsI x.op) == 8
  case true=>
   have Ffk18:=Lib.hid fk18;clear fk18
   have s45_48:=f42.q 45 s45_47
   refine go_reg [] [] [oT,oT] mo f42.d f42.z f42.b (by kernel_rfl) trivial (
    hk (fun cx=>cx.v (ex_eq (x:=.tmp 45) rfl (cx.rq 45 s45_48) rfl) rfl (congrArg Value.bool Ffk18.out)) <|
    kmu 0 <|
    hn) ?_
   intro a43 w43 f43
   refine wp_cond_true (f43.v 1 rfl rfl rfl) ?_
   refine wp_seq ?_
   cases fk19:x.w == 32
   case true=>
    have Ffk19:=Lib.hid fk19;clear fk19
    have b_g1_49:=f43.k (f42.k (f39.k (f36.k (f32.k (f27.k (f24.k (f21.k (f18.k (f17.k b_g1_13)))))))))
    have s1_50:=f43.q 1 (f42.q 1 (f39.q 1 (f36.q 1 (f32.q 1 (f27.q 1 (f24.q 1 (f21.q 1 (f18.q 1 (f17.q 1 s1_14)))))))))
    refine go_reg [bx g1 38 (xC x)] [] [some (pt g1 1),some (.int .i8 x.w),oT,oT,oU,oU,oU,oU,oU,oU,oU,oU,oT,oT] mo f43.d f43.z f43.b (by kernel_rfl) ⟨b_g1_49,trivial⟩ (
     hk (fun cx=>cx.q (ex_fa rfl (cx.rq 1 s1_50) (faEnD24_1_0 _ _))) <|
     hk (fun cx=>cx.q (ex_ld rfl (cx.u 0 rfl) (cx.rn 0 rfl) rfl Tryz.isAgg36)) <|
     hk (fun cx=>cx.v (ex_eq (x:=.tmp 90) rfl (cx.u 0 rfl) rfl) rfl (congrArg Value.bool Ffk19.out)) <|
     kmu 0 <|
     kno 0 <|
     kno 1 <|
     kno 1 <|
     kno 1 <|
     kno 0 <|
     kno 1 <|
     kno 1 <|
     kno 2 <|
     hk (fun cx=>cx.q (ex_pt rfl (cx.u 0 rfl) rfl)) <|
     kmu 0 <|
     hn) ?_
    intro a44 w44 f44
    refine wp_ret ?_
    try simp only [Exit.inBlock,Exit.then]
    refine bodyPost_ret (res_t (fn:=Tryz.f30) rfl (f44.v 13 rfl rfl rfl)) f44.d ?_
    have HE:(.bool true:Value)=.bool (mayX x):=by rw [may_8 (eq_of_beq Ffk18.out)];simp only [nb Ffk2.out,Ffk3.out,Ffk4.out,Ffk5.out,Ffk6.out,Ffk7.out,Ffk19.out,Bool.true_and,Bool.and_true,Bool.false_and,Bool.and_false,Bool.or_false,Bool.false_or,Bool.true_or,Bool.or_true,Bool.not_true,Bool.not_false]
    exact ⟨retV HE,f44.b⟩
   have Ffk19:=Lib.hid fk19;clear fk19
   cases fk20:x.w == 8
   case false=>
    have Ffk20:=Lib.hid fk20;clear fk20
    have b_g1_51:=f43.k (f42.k (f39.k (f36.k (f32.k (f27.k (f24.k (f21.k (f18.k (f17.k b_g1_13)))))))))
    have s1_52:=f43.q 1 (f42.q 1 (f39.q 1 (f36.q 1 (f32.q 1 (f27.q 1 (f24.q 1 (f21.q 1 (f18.q 1 (f17.q 1 s1_14)))))))))
    refine go_reg [bx g1 38 (xC x)] [] [some (pt g1 1),some (.int .i8 x.w),oF,oF,some (pt g1 1),some (.int .i8 x.w),oF,oF,oU,oU,oU,oF,oF,oF] mo f43.d f43.z f43.b (by kernel_rfl) ⟨b_g1_51,trivial⟩ (
     hk (fun cx=>cx.q (ex_fa rfl (cx.rq 1 s1_52) (faEnD24_1_0 _ _))) <|
     hk (fun cx=>cx.q (ex_ld rfl (cx.u 0 rfl) (cx.rn 0 rfl) rfl Tryz.isAgg36)) <|
     hk (fun cx=>cx.v (ex_eq (x:=.tmp 90) rfl (cx.u 0 rfl) rfl) rfl (congrArg Value.bool Ffk19.out)) <|
     kmu 0 <|
     hk (fun cx=>cx.vy 0 (ex_fa rfl (cx.rq 1 s1_52) (faEnD24_1_0 _ _))) <|
     hk (fun cx=>cx.vy 1 (ex_ld rfl (cx.u 0 rfl) (cx.rn 0 rfl) rfl Tryz.isAgg36)) <|
     hk (fun cx=>cx.vy 1 (ex_eq (x:=.tmp 94) rfl (cx.u 0 rfl) rfl) (congrArg Value.bool Ffk20.out)) <|
     hk (fun cx=>cx.vy 1 (ex_mv rfl (cx.u 0 rfl))) <|
     kno 0 <|
     kno 1 <|
     kno 1 <|
     hk (fun cx=>cx.vy 2 (ex_pf rfl (cx.u 0 rfl) rfl)) <|
     hk (fun cx=>cx.q (ex_pf rfl (cx.u 0 rfl) (cx.u 1 rfl))) <|
     kmu 0 <|
     hn) ?_
    intro a45 w45 f45
    refine wp_ret ?_
    try simp only [Exit.inBlock,Exit.then]
    refine bodyPost_ret (res_t (fn:=Tryz.f30) rfl (f45.v 13 rfl rfl rfl)) f45.d ?_
    have HE:(.bool false:Value)=.bool (mayX x):=by rw [may_8 (eq_of_beq Ffk18.out)];simp only [nb Ffk2.out,Ffk3.out,Ffk4.out,Ffk5.out,Ffk6.out,Ffk7.out,Ffk19.out,Ffk20.out,Bool.true_and,Bool.and_true,Bool.false_and,Bool.and_false,Bool.or_false,Bool.false_or,Bool.true_or,Bool.or_true,Bool.not_true,Bool.not_false]
    exact ⟨retV HE,f45.b⟩
   have Ffk20:=Lib.hid fk20;clear fk20
   have b_g1_53:=f43.k (f42.k (f39.k (f36.k (f32.k (f27.k (f24.k (f21.k (f18.k (f17.k b_g1_13)))))))))
   have s1_54:=f43.q 1 (f42.q 1 (f39.q 1 (f36.q 1 (f32.q 1 (f27.q 1 (f24.q 1 (f21.q 1 (f18.q 1 (f17.q 1 s1_14)))))))))
   refine go_reg [bx g1 38 (xC x)] [] [some (pt g1 1),some (.int .i8 x.w),oF,oF,some (pt g1 1),some (.int .i8 x.w),oT,oT,some (pt g1 6),some (.int .i64 x.imm),some (.bool (oneB x.imm)),some (.bool (oneB x.imm)),some (.bool (oneB x.imm)),some (.bool (oneB x.imm))] mo f43.d f43.z f43.b (by kernel_rfl) ⟨b_g1_53,trivial⟩ (
    hk (fun cx=>cx.q (ex_fa rfl (cx.rq 1 s1_54) (faEnD24_1_0 _ _))) <|
    hk (fun cx=>cx.q (ex_ld rfl (cx.u 0 rfl) (cx.rn 0 rfl) rfl Tryz.isAgg36)) <|
    hk (fun cx=>cx.v (ex_eq (x:=.tmp 90) rfl (cx.u 0 rfl) rfl) rfl (congrArg Value.bool Ffk19.out)) <|
    kmu 0 <|
    hk (fun cx=>cx.vy 0 (ex_fa rfl (cx.rq 1 s1_54) (faEnD24_1_0 _ _))) <|
    hk (fun cx=>cx.vy 1 (ex_ld rfl (cx.u 0 rfl) (cx.rn 0 rfl) rfl Tryz.isAgg36)) <|
    hk (fun cx=>cx.vy 1 (ex_eq (x:=.tmp 94) rfl (cx.u 0 rfl) rfl) (congrArg Value.bool Ffk20.out)) <|
    hk (fun cx=>cx.vy 1 (ex_mv rfl (cx.u 0 rfl))) <|
    hk (fun cx=>cx.vy 0 (ex_fa rfl (cx.rq 1 s1_54) (faEnD24_6_0 _ _))) <|
    hk (fun cx=>cx.vy 1 (ex_ld rfl (cx.u 0 rfl) (cx.rn 0 rfl) rfl Tryz.isAgg3)) <|
    hc (fun _ _ wx cx=>cx.call (cx.wy rfl rfl rfl rfl (cx.u 1 rfl)) rfl rfl (args1 (cx.u 0 rfl)) Tryz.func69 (by decide +kernel) rfl (eone_n x.imm wx) rfl rfl rfl rfl) <|
    hk (fun cx=>cx.vy 2 (ex_pt rfl (cx.u 0 rfl) (cx.u 1 rfl))) <|
    hk (fun cx=>cx.q (ex_pf rfl (cx.u 0 rfl) (cx.u 1 rfl))) <|
    kmu 0 <|
    hn) ?_
   intro a46 w46 f46
   refine wp_ret ?_
   try simp only [Exit.inBlock,Exit.then]
   refine bodyPost_ret (res_t (fn:=Tryz.f30) rfl (f46.v 13 rfl rfl rfl)) f46.d ?_
   have HE:(.bool (oneB x.imm):Value)=.bool (mayX x):=by rw [may_8 (eq_of_beq Ffk18.out)];simp only [nb Ffk2.out,Ffk3.out,Ffk4.out,Ffk5.out,Ffk6.out,Ffk7.out,Ffk19.out,Ffk20.out,Bool.true_and,Bool.and_true,Bool.false_and,Bool.and_false,Bool.or_false,Bool.false_or,Bool.true_or,Bool.or_true,Bool.not_true,Bool.not_false]
   exact ⟨retV HE,f46.b⟩
  have Ffk18:=Lib.hid fk18;clear fk18
  have s45_55:=f42.q 45 s45_47
  refine go_reg [] [] [oF,oF] mo f42.d f42.z f42.b (by kernel_rfl) trivial (
   hk (fun cx=>cx.v (ex_eq (x:=.tmp 45) rfl (cx.rq 45 s45_55) rfl) rfl (congrArg Value.bool Ffk18.out)) <|
   kmu 0 <|
   hn) ?_
  intro a47 w47 f47
  refine wp_cond_false (f47.v 1 rfl rfl rfl) ?_
  refine wp_seq ?_
  cases fk21:(clsI x.op) == 9
  case true=>
   have Ffk21:=Lib.hid fk21;clear fk21
   have s45_56:=f47.q 45 s45_55
   refine go_reg [] [] [oT,oT] mo f47.d f47.z f47.b (by kernel_rfl) trivial (
    hk (fun cx=>cx.v (ex_eq (x:=.tmp 45) rfl (cx.rq 45 s45_56) rfl) rfl (congrArg Value.bool Ffk21.out)) <|
    kmu 0 <|
    hn) ?_
   intro a48 w48 f48
   refine wp_cond_true (f48.v 1 rfl rfl rfl) ?_
   refine wp_seq ?_
   cases fk22:x.w == 32
   case true=>
    have Ffk22:=Lib.hid fk22;clear fk22
    have b_g1_57:=f48.k (f47.k (f42.k (f39.k (f36.k (f32.k (f27.k (f24.k (f21.k (f18.k (f17.k b_g1_13))))))))))
    have s1_58:=f48.q 1 (f47.q 1 (f42.q 1 (f39.q 1 (f36.q 1 (f32.q 1 (f27.q 1 (f24.q 1 (f21.q 1 (f18.q 1 (f17.q 1 s1_14))))))))))
    refine go_reg [bx g1 38 (xC x)] [] [some (pt g1 1),some (.int .i8 x.w),oT,oT,oU,oU,oU,oU,oU,oU,oU,oU,oT,oT,some (pt g1 7),some (.int .i8 x.cc),some (.bool (ccB x.cc)),some (.bool (ccB x.cc)),some (.bool (ccB x.cc))] mo f48.d f48.z f48.b (by kernel_rfl) ⟨b_g1_57,trivial⟩ (
     hk (fun cx=>cx.q (ex_fa rfl (cx.rq 1 s1_58) (faEnD24_1_0 _ _))) <|
     hk (fun cx=>cx.q (ex_ld rfl (cx.u 0 rfl) (cx.rn 0 rfl) rfl Tryz.isAgg36)) <|
     hk (fun cx=>cx.v (ex_eq (x:=.tmp 105) rfl (cx.u 0 rfl) rfl) rfl (congrArg Value.bool Ffk22.out)) <|
     kmu 0 <|
     kno 0 <|
     kno 1 <|
     kno 1 <|
     kno 1 <|
     kno 0 <|
     kno 1 <|
     kno 1 <|
     kno 2 <|
     hk (fun cx=>cx.q (ex_pt rfl (cx.u 0 rfl) rfl)) <|
     kmu 0 <|
     hk (fun cx=>cx.vy 0 (ex_fa rfl (cx.rq 1 s1_58) (faEnD24_7_0 _ _))) <|
     hk (fun cx=>cx.vy 1 (ex_ld rfl (cx.u 0 rfl) (cx.rn 0 rfl) rfl Tryz.isAgg36)) <|
     hc (fun _ _ wx cx=>cx.call (cx.wy rfl rfl rfl rfl (cx.u 1 rfl)) rfl rfl (args1 (cx.u 0 rfl)) Tryz.func67 (by decide +kernel) rfl (ecc_n x.cc wx) rfl rfl rfl rfl) <|
     hk (fun cx=>cx.q (ex_pt rfl (cx.u 0 rfl) (cx.u 1 rfl))) <|
     kmu 0 <|
     hn) ?_
    intro a49 w49 f49
    refine wp_ret ?_
    try simp only [Exit.inBlock,Exit.then]
    refine bodyPost_ret (res_t (fn:=Tryz.f30) rfl (f49.v 18 rfl rfl rfl)) f49.d ?_
    have HE:(.bool (ccB x.cc):Value)=.bool (mayX x):=by rw [may_9 (eq_of_beq Ffk21.out)];simp only [nb Ffk2.out,Ffk3.out,Ffk4.out,Ffk5.out,Ffk6.out,Ffk7.out,Ffk22.out,Bool.true_and,Bool.and_true,Bool.false_and,Bool.and_false,Bool.or_false,Bool.false_or,Bool.true_or,Bool.or_true,Bool.not_true,Bool.not_false]
    exact ⟨retV HE,f49.b⟩
   have Ffk22:=Lib.hid fk22;clear fk22
   cases fk23:x.w == 8
   case false=>
    have Ffk23:=Lib.hid fk23;clear fk23
    have b_g1_59:=f48.k (f47.k (f42.k (f39.k (f36.k (f32.k (f27.k (f24.k (f21.k (f18.k (f17.k b_g1_13))))))))))
    have s1_60:=f48.q 1 (f47.q 1 (f42.q 1 (f39.q 1 (f36.q 1 (f32.q 1 (f27.q 1 (f24.q 1 (f21.q 1 (f18.q 1 (f17.q 1 s1_14))))))))))
    refine go_reg [bx g1 38 (xC x)] [] [some (pt g1 1),some (.int .i8 x.w),oF,oF,some (pt g1 1),some (.int .i8 x.w),oF,oF,oU,oU,oU,oF,oF,oF,oU,oU,oU,oF,oF] mo f48.d f48.z f48.b (by kernel_rfl) ⟨b_g1_59,trivial⟩ (
     hk (fun cx=>cx.q (ex_fa rfl (cx.rq 1 s1_60) (faEnD24_1_0 _ _))) <|
     hk (fun cx=>cx.q (ex_ld rfl (cx.u 0 rfl) (cx.rn 0 rfl) rfl Tryz.isAgg36)) <|
     hk (fun cx=>cx.v (ex_eq (x:=.tmp 105) rfl (cx.u 0 rfl) rfl) rfl (congrArg Value.bool Ffk22.out)) <|
     kmu 0 <|
     hk (fun cx=>cx.vy 0 (ex_fa rfl (cx.rq 1 s1_60) (faEnD24_1_0 _ _))) <|
     hk (fun cx=>cx.vy 1 (ex_ld rfl (cx.u 0 rfl) (cx.rn 0 rfl) rfl Tryz.isAgg36)) <|
     hk (fun cx=>cx.vy 1 (ex_eq (x:=.tmp 109) rfl (cx.u 0 rfl) rfl) (congrArg Value.bool Ffk23.out)) <|
     hk (fun cx=>cx.vy 1 (ex_mv rfl (cx.u 0 rfl))) <|
     kno 0 <|
     kno 1 <|
     kno 1 <|
     hk (fun cx=>cx.vy 2 (ex_pf rfl (cx.u 0 rfl) rfl)) <|
     hk (fun cx=>cx.q (ex_pf rfl (cx.u 0 rfl) (cx.u 1 rfl))) <|
     kmu 0 <|
     kno 0 <|
     kno 1 <|
     kno 1 <|
     hk (fun cx=>cx.q (ex_pf rfl (cx.u 0 rfl) rfl)) <|
     kmu 0 <|
     hn) ?_
    intro a50 w50 f50
    refine wp_ret ?_
    try simp only [Exit.inBlock,Exit.then]
    refine bodyPost_ret (res_t (fn:=Tryz.f30) rfl (f50.v 18 rfl rfl rfl)) f50.d ?_
    have HE:(.bool false:Value)=.bool (mayX x):=by rw [may_9 (eq_of_beq Ffk21.out)];simp only [nb Ffk2.out,Ffk3.out,Ffk4.out,Ffk5.out,Ffk6.out,Ffk7.out,Ffk22.out,Ffk23.out,Bool.true_and,Bool.and_true,Bool.false_and,Bool.and_false,Bool.or_false,Bool.false_or,Bool.true_or,Bool.or_true,Bool.not_true,Bool.not_false]
    exact ⟨retV HE,f50.b⟩
   have Ffk23:=Lib.hid fk23;clear fk23
   cases fk24:oneB x.imm
   case false=>
    have Ffk24:=Lib.hid fk24;clear fk24
    have b_g1_61:=f48.k (f47.k (f42.k (f39.k (f36.k (f32.k (f27.k (f24.k (f21.k (f18.k (f17.k b_g1_13))))))))))
    have s1_62:=f48.q 1 (f47.q 1 (f42.q 1 (f39.q 1 (f36.q 1 (f32.q 1 (f27.q 1 (f24.q 1 (f21.q 1 (f18.q 1 (f17.q 1 s1_14))))))))))
    refine go_reg [bx g1 38 (xC x)] [] [some (pt g1 1),some (.int .i8 x.w),oF,oF,some (pt g1 1),some (.int .i8 x.w),oT,oT,some (pt g1 6),some (.int .i64 x.imm),oF,oF,oF,oF,oU,oU,oU,oF,oF] mo f48.d f48.z f48.b (by kernel_rfl) ⟨b_g1_61,trivial⟩ (
     hk (fun cx=>cx.q (ex_fa rfl (cx.rq 1 s1_62) (faEnD24_1_0 _ _))) <|
     hk (fun cx=>cx.q (ex_ld rfl (cx.u 0 rfl) (cx.rn 0 rfl) rfl Tryz.isAgg36)) <|
     hk (fun cx=>cx.v (ex_eq (x:=.tmp 105) rfl (cx.u 0 rfl) rfl) rfl (congrArg Value.bool Ffk22.out)) <|
     kmu 0 <|
     hk (fun cx=>cx.vy 0 (ex_fa rfl (cx.rq 1 s1_62) (faEnD24_1_0 _ _))) <|
     hk (fun cx=>cx.vy 1 (ex_ld rfl (cx.u 0 rfl) (cx.rn 0 rfl) rfl Tryz.isAgg36)) <|
     hk (fun cx=>cx.vy 1 (ex_eq (x:=.tmp 109) rfl (cx.u 0 rfl) rfl) (congrArg Value.bool Ffk23.out)) <|
     hk (fun cx=>cx.vy 1 (ex_mv rfl (cx.u 0 rfl))) <|
     hk (fun cx=>cx.vy 0 (ex_fa rfl (cx.rq 1 s1_62) (faEnD24_6_0 _ _))) <|
     hk (fun cx=>cx.vy 1 (ex_ld rfl (cx.u 0 rfl) (cx.rn 0 rfl) rfl Tryz.isAgg3)) <|
     hc (fun _ _ wx cx=>cx.call (cx.wy rfl rfl rfl rfl (cx.u 1 rfl)) rfl rfl (args1 (cx.u 0 rfl)) Tryz.func69 (by decide +kernel) rfl (eone_n x.imm wx) rfl rfl (congrArg Value.bool Ffk24.out) rfl) <|
     hk (fun cx=>cx.vy 2 (ex_pt rfl (cx.u 0 rfl) (cx.u 1 rfl))) <|
     hk (fun cx=>cx.q (ex_pf rfl (cx.u 0 rfl) (cx.u 1 rfl))) <|
     kmu 0 <|
     kno 0 <|
     kno 1 <|
     kno 1 <|
     hk (fun cx=>cx.q (ex_pf rfl (cx.u 0 rfl) rfl)) <|
     kmu 0 <|
     hn) ?_
    intro a51 w51 f51
    refine wp_ret ?_
    try simp only [Exit.inBlock,Exit.then]
    refine bodyPost_ret (res_t (fn:=Tryz.f30) rfl (f51.v 18 rfl rfl rfl)) f51.d ?_
    have HE:(.bool false:Value)=.bool (mayX x):=by rw [may_9 (eq_of_beq Ffk21.out)];simp only [nb Ffk2.out,Ffk3.out,Ffk4.out,Ffk5.out,Ffk6.out,Ffk7.out,Ffk22.out,Ffk23.out,Ffk24.out,Bool.true_and,Bool.and_true,Bool.false_and,Bool.and_false,Bool.or_false,Bool.false_or,Bool.true_or,Bool.or_true,Bool.not_true,Bool.not_false]
    exact ⟨retV HE,f51.b⟩
   have Ffk24:=Lib.hid fk24;clear fk24
   have b_g1_63:=f48.k (f47.k (f42.k (f39.k (f36.k (f32.k (f27.k (f24.k (f21.k (f18.k (f17.k b_g1_13))))))))))
   have s1_64:=f48.q 1 (f47.q 1 (f42.q 1 (f39.q 1 (f36.q 1 (f32.q 1 (f27.q 1 (f24.q 1 (f21.q 1 (f18.q 1 (f17.q 1 s1_14))))))))))
   refine go_reg [bx g1 38 (xC x)] [] [some (pt g1 1),some (.int .i8 x.w),oF,oF,some (pt g1 1),some (.int .i8 x.w),oT,oT,some (pt g1 6),some (.int .i64 x.imm),oT,oT,oT,oT,some (pt g1 7),some (.int .i8 x.cc),some (.bool (ccB x.cc)),some (.bool (ccB x.cc)),some (.bool (ccB x.cc))] mo f48.d f48.z f48.b (by kernel_rfl) ⟨b_g1_63,trivial⟩ (
    hk (fun cx=>cx.q (ex_fa rfl (cx.rq 1 s1_64) (faEnD24_1_0 _ _))) <|
    hk (fun cx=>cx.q (ex_ld rfl (cx.u 0 rfl) (cx.rn 0 rfl) rfl Tryz.isAgg36)) <|
    hk (fun cx=>cx.v (ex_eq (x:=.tmp 105) rfl (cx.u 0 rfl) rfl) rfl (congrArg Value.bool Ffk22.out)) <|
    kmu 0 <|
    hk (fun cx=>cx.vy 0 (ex_fa rfl (cx.rq 1 s1_64) (faEnD24_1_0 _ _))) <|
    hk (fun cx=>cx.vy 1 (ex_ld rfl (cx.u 0 rfl) (cx.rn 0 rfl) rfl Tryz.isAgg36)) <|
    hk (fun cx=>cx.vy 1 (ex_eq (x:=.tmp 109) rfl (cx.u 0 rfl) rfl) (congrArg Value.bool Ffk23.out)) <|
    hk (fun cx=>cx.vy 1 (ex_mv rfl (cx.u 0 rfl))) <|
    hk (fun cx=>cx.vy 0 (ex_fa rfl (cx.rq 1 s1_64) (faEnD24_6_0 _ _))) <|
    hk (fun cx=>cx.vy 1 (ex_ld rfl (cx.u 0 rfl) (cx.rn 0 rfl) rfl Tryz.isAgg3)) <|
    hc (fun _ _ wx cx=>cx.call (cx.wy rfl rfl rfl rfl (cx.u 1 rfl)) rfl rfl (args1 (cx.u 0 rfl)) Tryz.func69 (by decide +kernel) rfl (eone_n x.imm wx) rfl rfl (congrArg Value.bool Ffk24.out) rfl) <|
    hk (fun cx=>cx.vy 2 (ex_pt rfl (cx.u 0 rfl) (cx.u 1 rfl))) <|
    hk (fun cx=>cx.q (ex_pf rfl (cx.u 0 rfl) (cx.u 1 rfl))) <|
    kmu 0 <|
    hk (fun cx=>cx.vy 0 (ex_fa rfl (cx.rq 1 s1_64) (faEnD24_7_0 _ _))) <|
    hk (fun cx=>cx.vy 1 (ex_ld rfl (cx.u 0 rfl) (cx.rn 0 rfl) rfl Tryz.isAgg36)) <|
    hc (fun _ _ wx cx=>cx.call (cx.wy rfl rfl rfl rfl (cx.u 1 rfl)) rfl rfl (args1 (cx.u 0 rfl)) Tryz.func67 (by decide +kernel) rfl (ecc_n x.cc wx) rfl rfl rfl rfl) <|
    hk (fun cx=>cx.q (ex_pt rfl (cx.u 0 rfl) (cx.u 1 rfl))) <|
    kmu 0 <|
    hn) ?_
   intro a52 w52 f52
   refine wp_ret ?_
   try simp only [Exit.inBlock,Exit.then]
   refine bodyPost_ret (res_t (fn:=Tryz.f30) rfl (f52.v 18 rfl rfl rfl)) f52.d ?_
   have HE:(.bool (ccB x.cc):Value)=.bool (mayX x):=by rw [may_9 (eq_of_beq Ffk21.out)];simp only [nb Ffk2.out,Ffk3.out,Ffk4.out,Ffk5.out,Ffk6.out,Ffk7.out,Ffk22.out,Ffk23.out,Ffk24.out,Bool.true_and,Bool.and_true,Bool.false_and,Bool.and_false,Bool.or_false,Bool.false_or,Bool.true_or,Bool.or_true,Bool.not_true,Bool.not_false]
   exact ⟨retV HE,f52.b⟩
  have Ffk21:=Lib.hid fk21;clear fk21
  have s45_65:=f47.q 45 s45_55
  refine go_reg [] [] [oF,oF] mo f47.d f47.z f47.b (by kernel_rfl) trivial (
   hk (fun cx=>cx.v (ex_eq (x:=.tmp 45) rfl (cx.rq 45 s45_65) rfl) rfl (congrArg Value.bool Ffk21.out)) <|
   kmu 0 <|
   hn) ?_
  intro a53 w53 f53
  refine wp_cond_false (f53.v 1 rfl rfl rfl) ?_
  refine wp_skip ?_
  refine wp_seq ?_
  refine go_reg [] [] [oT] mo f53.d f53.z f53.b (by kernel_rfl) trivial (
   hk (fun cx=>cx.q (ex_as rfl rfl)) <|
   hn) ?_
  intro a54 w54 f54
  refine wp_ret ?_
  try simp only [Exit.inBlock,Exit.then]
  refine bodyPost_ret (res_t (fn:=Tryz.f30) rfl (f54.v 0 rfl rfl rfl)) f54.d ?_
  have HE:(.bool true:Value)=.bool (mayX x):=by rw [may_10 (cls_10 x.op rfl Ffk1.out Ffk8.out Ffk9.out Ffk11.out Ffk10.out Ffk14.out Ffk16.out Ffk17.out Ffk18.out Ffk21.out)];simp only [nb Ffk2.out,Ffk3.out,Ffk4.out,Ffk5.out,Ffk6.out,Ffk7.out,Bool.true_and,Bool.and_true,Bool.false_and,Bool.and_false,Bool.or_false,Bool.false_or,Bool.true_or,Bool.or_true,Bool.not_true,Bool.not_false]
  exact ⟨retV HE,f54.b⟩
end Go.Proofs.YtbpehbeakhocnaaGreatDoor.Mrm
