import Derived.Test.YtjhedldplmhmjaaGreatDoorETe39
import Derived.Test.YtjhedldplmhmjaaGreatDoorETe30
import Derived.Test.YtjhedldplmhmjaaGreatDoorETe40
import Derived.Test.YtjhedldplmhmjaaGreatDoorETe41
set_option maxHeartbeats 4000000
set_option linter.unusedVariables false
set_option linter.unusedSimpArgs false
set_option linter.unnecessarySimpa false
namespace Go.Proofs.YtjhedldplmhmjaaGreatDoor.Exe
open Go Go.RowKit
open Mrm (Xi xC zX mayX bytesX)
open Flg (Fl fC zF addF subF ofF holF holE mayC parts5 ex_beq ex_bne)
set_option maxRecDepth 100000
theorem faExX30_0_0 (g:Nat)(w:World):(Instr.fieldAt 30 (.pointer (some ⟨g,0,none⟩)) 0).run Tryz.prog w=.ok (.pointer (some ⟨g,0,none⟩)) w:=by simp [go_sem]
theorem faExX30_4_0 (g:Nat)(w:World):(Instr.fieldAt 30 (.pointer (some ⟨g,0,none⟩)) 4).run Tryz.prog w=.ok (.pointer (some ⟨g,4,none⟩)) w:=by simp [go_sem]
theorem faExX27_0_0 (g:Nat)(w:World):(Instr.fieldAt 27 (.pointer (some ⟨g,0,none⟩)) 0).run Tryz.prog w=.ok (.pointer (some ⟨g,0,none⟩)) w:=by simp [go_sem]
theorem faExX30_5_0 (g:Nat)(w:World):(Instr.fieldAt 30 (.pointer (some ⟨g,0,none⟩)) 5).run Tryz.prog w=.ok (.pointer (some ⟨g,5,none⟩)) w:=by simp [go_sem]
theorem faExX30_1_0 (g:Nat)(w:World):(Instr.fieldAt 30 (.pointer (some ⟨g,0,none⟩)) 1).run Tryz.prog w=.ok (.pointer (some ⟨g,1,none⟩)) w:=by simp [go_sem]
theorem faExX30_3_0 (g:Nat)(w:World):(Instr.fieldAt 30 (.pointer (some ⟨g,0,none⟩)) 3).run Tryz.prog w=.ok (.pointer (some ⟨g,3,none⟩)) w:=by simp [go_sem]
theorem ex_quoi {ρ:Operand→Value}{o:Oper}{w:World}{t z:TypeId}{x y:Operand}(ho:o.op=.binOp .quo t x y z){a b:Int}(hx:ρ x=.int .i64 a)(hy:ρ y=.int .i64 b)(ha:0≤a)(hb:0<b)(hl:a<9223372036854775808):(execOp ρ o).run Tryz.prog w=.ok (.value (.int .i64 (a / b))) w:=by
 have e1:¬ b=0:=by omega
 simp [execOp,ho,hx,hy,go_sem,e1]
 rw [Int.tdiv_eq_ediv_of_nonneg ha]
 have h0:=Int.ediv_nonneg ha (show (0:Int)≤b by omega)
 have h1:=Int.ediv_le_self b ha
 first | omega | (rw [IntKind.wrap_i64];omega) | (rw [wrap64];omega) | skip
theorem w_pos {x:Xi}(h:mayX x=true)(e:x.op=26∨x.op=27):0≤x.w∧x.w<9223372036854775808:=by
 have c:Mrm.clsB (Mrm.clsI x.op) x=true:=by
  unfold mayX at h
  simp only [Bool.and_eq_true] at h
  exact h.2.2.2.2.2.2.2
 have c2:Mrm.widB x.w=true:=by
  rcases e with e | e
  ·rw [show Mrm.clsI x.op=6 by rw [e];rfl] at c;exact c
  ·rw [show Mrm.clsI x.op=7 by rw [e];rfl] at c;exact c
 unfold Mrm.widB at c2
 simp only [Bool.or_eq_true,beq_iff_eq] at c2
 omega
theorem adrQ_yes {m:Mc}{x:Xi}(hm:mayX x=true)(h:x.op=26∨x.op=27):adrX m x=IntKind.u64.wrap (m.r x.base.toNat+IntKind.u64.wrap x.disp)∧sizX x=x.w / 8∧hasX x=true:=by
 refine ⟨(if_pos hm).trans (if_pos h),(if_pos hm).trans (if_pos h),?_⟩
 unfold hasX;rw [hm];rcases h with h | h <;> rw [h] <;> rfl
theorem adrQ_ret {m:Mc}{x:Xi}(hm:mayX x=true)(h:x.op=30):adrX m x=m.r 4∧sizX x=8∧hasX x=true:=by
 refine ⟨(if_pos hm).trans ((if_neg (by omega)).trans (if_pos h)),(if_pos hm).trans ((if_neg (by omega)).trans (if_pos h)),?_⟩
 unfold hasX;rw [hm,h];rfl
theorem adrQ_no {m:Mc}{x:Xi}(hm:mayX x=false):adrX m x=0∧sizX x=0∧hasX x=false:=
 ⟨if_neg (by rw [hm];exact Bool.false_ne_true),if_neg (by rw [hm];exact Bool.false_ne_true),by unfold hasX;rw [hm];rfl⟩
theorem adrQ_oth {m:Mc}{x:Xi}(hm:mayX x=true)(n26:(x.op == 26)=false)(n27:(x.op == 27)=false)(n30:(x.op == 30)=false):adrX m x=0∧sizX x=0∧hasX x=false:=by
 have q:=And.intro n26 (And.intro n27 n30)
 simp only [beq_eq_false_iff_ne,ne_eq] at q
 refine ⟨(if_pos hm).trans ((if_neg (by omega)).trans (if_neg (by omega))),(if_pos hm).trans ((if_neg (by omega)).trans (if_neg (by omega))),?_⟩
 unfold hasX;rw [hm,n26,n27,n30];rfl
theorem ret3 {m:Mc}{x:Xi}{a b:Int}{c:Bool}(h:adrX m x=a∧sizX x=b∧hasX x=c):(.tuple #[.int .u64 a,.int .i64 b,.bool c]:Value)=.tuple #[.int .u64 (adrX m x),.int .i64 (sizX x),.bool (hasX x)]:=by rw [h.1,h.2.1,h.2.2]
def numQ (m:Mc):Bool:=decide (m.r 0<16)
def numV (m:Mc):Int:=bif numQ m then m.r 0 else 0
theorem numQ_yes {m:Mc}(h:decide (16≤m.r 0)=false):numQ m=true:=by unfold numQ;simp only [decide_eq_false_iff_not,decide_eq_true_eq] at *;omega
theorem numQ_no {m:Mc}(h:decide (16≤m.r 0)=true):numQ m=false:=by unfold numQ;simp only [decide_eq_false_iff_not,decide_eq_true_eq] at *;omega
theorem num_y {m:Mc}(hM:MOk m)(h:decide (16≤m.r 0)=false):(.tuple #[.int .i64 (IntKind.i64.wrap (m.r 0)),.bool true]:Value)=.tuple #[.int .i64 (numV m),.bool (numQ m)]:=by
 have hw:IntKind.i64.wrap (m.r 0)=m.r 0:=by have:=(hM.r 0).1;simp only [decide_eq_false_iff_not] at h;rw [IntKind.wrap_i64];omega
 rw [hw];unfold numV;rw [numQ_yes h];rfl
theorem num_n {m:Mc}(h:decide (16≤m.r 0)=true):(.tuple #[.int .i64 0,.bool false]:Value)=.tuple #[.int .i64 (numV m),.bool (numQ m)]:=by unfold numV;rw [numQ_no h];rfl
theorem qadr_n (m:Mc)(x:Xi)(W:World)(hX:Mrm.XOk x):Calls Tryz.prog 7 #[.agg (mcC m),.agg (xC x)] W fun e w'=>e=.returned (.tuple #[.int .u64 (adrX m x),.int .i64 (sizX x),.bool (hasX x)])∧Below W.heap.size W w':=by
 refine calls_abs Tryz.func7 rfl (Nat.le_of_ble_eq_true rfl) ?_
 intro a0 d0 z0 h0
 replace z0:a0.tmps.size=33:=z0
 have s0_0:a0.tmps.getD 0 undef=.agg (mcC m):=h0 0 (Nat.le_of_ble_eq_true rfl)
 have s1_0:a0.tmps.getD 1 undef=.agg (xC x):=h0 1 (Nat.le_of_ble_eq_true rfl)
 refine wp_seq ?_
 refine go_reg [] [⟨0,2,27,(mcC m),none,#[]⟩,⟨1,3,30,(xC x),none,#[]⟩] [none,none,some (.int .u64 0),some (.int .i64 0),oF] mo d0 z0 (Below.refl _ _) (by kernel_rfl) trivial (
  hk (fun cx=>cx.al (wn rfl) 0 rfl (ex_box rfl (cx.rq 0 s0_0) rfl) rfl rfl rfl rfl rfl trivial) <|
  hk (fun cx=>cx.al (wn rfl) 1 rfl (ex_box rfl (cx.rq 1 s1_0) rfl) rfl rfl rfl rfl rfl trivial) <|
  kq (fun cx=>ex_as rfl rfl) <|
  kq (fun cx=>ex_as rfl rfl) <|
  kq (fun cx=>ex_as rfl rfl) <|
  hn) ?_
 intro a1 w1 f1
 obtain ⟨g1,u_g1,q_g1,b_g1⟩:=f1.al.1
 obtain ⟨g2,u_g2,q_g2,b_g2⟩:=f1.al.2.1
 refine wp_seq ?_
 refine wp_seq ?_
 cases fk1:mayX x
 case false=>
  have Ffk1:=Lib.hid fk1;clear fk1
  refine go_reg [bx g2 30 (xC x)] [] [some (.agg (xC x)),oF,oT] mo f1.d f1.z f1.b (by kernel_rfl) ⟨b_g2,trivial⟩ (
   kq (fun cx=>Mrm.ldX rfl (cx.rq 3 u_g2) (cx.rn 0 rfl)) <|
   hc (fun _ _ wx cx=>cx.c rfl (args1 cx.u0) Tryz.func22 (by decide +kernel) (Mrm.emay_n x wx hX.w) rfl (congrArg Value.bool Ffk1.out)) <|
   kq (fun cx=>ex_not (x:=.tmp 8) rfl cx.u0) <|
   hn) ?_
  intro a2 w2 f2
  refine wp_cond_true (f2.vv 2) ?_
  refine wp_seq ?_
  refine go_reg [] [] [some (.int .u64 0),some (.int .i64 0),oF] mo f2.d f2.z f2.b (by kernel_rfl) trivial (
   kq (fun cx=>ex_as rfl rfl) <|
   kq (fun cx=>ex_as rfl rfl) <|
   kq (fun cx=>ex_as rfl rfl) <|
   hn) ?_
  intro a3 w3 f3
  refine wp_ret ?_
  try simp only [Exit.inBlock,Exit.then]
  refine bodyPost_ret (res_ttt (fn:=Tryz.f7) rfl (f3.vv 0) (f3.vv 1) (f3.vv 2)) f3.d ?_
  exact ⟨retV (ret3 (adrQ_no Ffk1.out)),f3.b⟩
 have Ffk1:=Lib.hid fk1;clear fk1
 have hm:mayX x=true:=Ffk1.out
 obtain ⟨hop,hd,hs,hb⟩:=Mrm.may_parts' hm
 refine go_reg [bx g2 30 (xC x)] [] [some (.agg (xC x)),oT,oF] mo f1.d f1.z f1.b (by kernel_rfl) ⟨b_g2,trivial⟩ (
  kq (fun cx=>Mrm.ldX rfl (cx.rq 3 u_g2) (cx.rn 0 rfl)) <|
  hc (fun _ _ wx cx=>cx.c rfl (args1 cx.u0) Tryz.func22 (by decide +kernel) (Mrm.emay_n x wx hX.w) rfl (congrArg Value.bool Ffk1.out)) <|
  kq (fun cx=>ex_not (x:=.tmp 8) rfl cx.u0) <|
  hn) ?_
 intro a4 w4 f4
 refine wp_cond_false (f4.vv 2) ?_
 refine wp_skip ?_
 refine wp_seq ?_
 refine wp_seq ?_
 have b_g2_1:=f4.k b_g2
 have s3_2:=f4.q 3 u_g2
 refine go_reg [bx g2 30 (xC x)] [] [some (pt g2 0),some (.int .i8 x.op)] mo f4.d f4.z f4.b (by kernel_rfl) ⟨b_g2_1,trivial⟩ (
  kq (fun cx=>ex_fa rfl (cx.rq 3 s3_2) (faExX30_0_0 _ _)) <|
  kq (fun cx=>ex_ld rfl (cx.u 0 rfl) (cx.rn 0 rfl) rfl Tryz.isAgg28) <|
  hn) ?_
 intro a5 w5 f5
 refine wp_block ?_
 refine wp_seq ?_
 refine wp_seq ?_
 cases fk2:x.op == 26
 case true=>
  have Ffk2:=Lib.hid fk2;clear fk2
  have hO26:x.op=26:=by simpa using Ffk2.out
  refine go_reg [] [] [oT,oT] mo f5.d f5.z f5.b (by kernel_rfl) trivial (
   hk (fun cx=>cx.v (ex_eq (x:=.tmp 11) rfl (cx.rq 11 (f5.vv 1)) rfl) rfl (congrArg Value.bool Ffk2.out)) <|
   kmu 0 <|
   hn) ?_
  intro a6 w6 f6
  refine wp_cond_true (f6.vv 1) ?_
  refine wp_skip ?_
  refine wp_cond_true (f6.vv 1) ?_
  refine wp_seq ?_
  have b_g2_3:=f6.k (f5.k b_g2_1)
  have b_g1_4:=f6.k (f5.k (f4.k b_g1))
  have s3_5:=f6.q 3 (f5.q 3 s3_2)
  have s2_6:=f6.q 2 (f5.q 2 (f4.q 2 u_g1))
  refine go_reg [bx g2 30 (xC x),bx g1 27 (mcC m)] [] [some (pt g2 4),some (.int .i8 x.base),some (pt g1 0),some (pt g1 (x.base.toNat)),some (.int .u64 (m.r x.base.toNat)),some (pt g2 5),some (.int .i64 x.disp),some (.int .u64 (IntKind.u64.wrap x.disp)),some (.int .u64 (IntKind.u64.wrap ((m.r x.base.toNat)+(IntKind.u64.wrap x.disp)))),some (pt g2 1),some (.int .i8 x.w),some (.int .i64 x.w),some (.int .i64 (x.w / 8)),some (.int .u64 (IntKind.u64.wrap ((m.r x.base.toNat)+(IntKind.u64.wrap x.disp)))),some (.int .i64 (x.w / 8)),oT] mo f6.d f6.z f6.b (by kernel_rfl) ⟨b_g2_3,b_g1_4,trivial⟩ (
   kq (fun cx=>ex_fa rfl (cx.rq 3 s3_5) (faExX30_4_0 _ _)) <|
   kq (fun cx=>ex_ld rfl (cx.u 0 rfl) (cx.rn 0 rfl) rfl Tryz.isAgg28) <|
   kq (fun cx=>ex_fa rfl (cx.rq 2 s2_6) (faExX27_0_0 _ _)) <|
   hk (fun cx=>cx.v (ex_ia (n:=16) (sz:=1) rfl (cx.u 0 rfl) (cx.u 1 rfl) Tryz.underlying23 (by kernel_rfl) (by omega) (by omega) (by omega)) rfl rfl) <|
   hk (fun cx=>cx.v (ldMcR (by omega) rfl (cx.u 0 rfl) (cx.rn 1 rfl)) rfl rfl) <|
   kq (fun cx=>ex_fa rfl (cx.rq 3 s3_5) (faExX30_5_0 _ _)) <|
   kq (fun cx=>ex_ld rfl (cx.u 0 rfl) (cx.rn 0 rfl) rfl Tryz.isAgg3) <|
   kq (fun cx=>ex_conv (x:=.tmp 21) rfl cx.u0 Tryz.underlying3 Tryz.underlying22) <|
   kq (fun cx=>ex_add (x:=.tmp 19) (y:=.tmp 22) rfl cx.u0 cx.u1) <|
   kq (fun cx=>ex_fa rfl (cx.rq 3 s3_5) (faExX30_1_0 _ _)) <|
   kq (fun cx=>ex_ld rfl (cx.u 0 rfl) (cx.rn 0 rfl) rfl Tryz.isAgg28) <|
   hk (fun cx=>cx.v (ex_conv (x:=.tmp 25) rfl cx.u0 Tryz.underlying28 Tryz.underlying3) rfl (congrArg (Value.int .i64) (wrap_w8 hX))) <|
   hk (fun cx=>cx.v (ex_quoi (x:=.tmp 26) rfl cx.u0 rfl (w_pos hm (by omega)).1 (by decide) (w_pos hm (by omega)).2) rfl rfl) <|
   kmu 0 <|
   kmu 0 <|
   kq (fun cx=>ex_as rfl rfl) <|
   hn) ?_
  intro a7 w7 f7
  refine wp_ret ?_
  try simp only [Exit.inBlock,Exit.then]
  refine bodyPost_ret (res_ttt (fn:=Tryz.f7) rfl (f7.vv 13) (f7.vv 14) (f7.vv 15)) f7.d ?_
  exact ⟨retV (ret3 (adrQ_yes hm (.inl hO26))),f7.b⟩
 have Ffk2:=Lib.hid fk2;clear fk2
 refine go_reg [] [] [oF,oF] mo f5.d f5.z f5.b (by kernel_rfl) trivial (
  hk (fun cx=>cx.v (ex_eq (x:=.tmp 11) rfl (cx.rq 11 (f5.vv 1)) rfl) rfl (congrArg Value.bool Ffk2.out)) <|
  kmu 0 <|
  hn) ?_
 intro a8 w8 f8
 refine wp_cond_false (f8.vv 1) ?_
 cases fk3:x.op == 27
 case true=>
  have Ffk3:=Lib.hid fk3;clear fk3
  have hO27:x.op=27:=by simpa using Ffk3.out
  have s11_7:=f8.q 11 (f5.vv 1)
  refine go_reg [] [] [oT,oT] mo f8.d f8.z f8.b (by kernel_rfl) trivial (
   hk (fun cx=>cx.v (ex_eq (x:=.tmp 11) rfl (cx.rq 11 s11_7) rfl) rfl (congrArg Value.bool Ffk3.out)) <|
   kmu 0 <|
   hn) ?_
  intro a9 w9 f9
  refine wp_cond_true (f9.vv 1) ?_
  refine wp_seq ?_
  have b_g2_8:=f9.k (f8.k (f5.k b_g2_1))
  have b_g1_9:=f9.k (f8.k (f5.k (f4.k b_g1)))
  have s3_10:=f9.q 3 (f8.q 3 (f5.q 3 s3_2))
  have s2_11:=f9.q 2 (f8.q 2 (f5.q 2 (f4.q 2 u_g1)))
  refine go_reg [bx g2 30 (xC x),bx g1 27 (mcC m)] [] [some (pt g2 4),some (.int .i8 x.base),some (pt g1 0),some (pt g1 (x.base.toNat)),some (.int .u64 (m.r x.base.toNat)),some (pt g2 5),some (.int .i64 x.disp),some (.int .u64 (IntKind.u64.wrap x.disp)),some (.int .u64 (IntKind.u64.wrap ((m.r x.base.toNat)+(IntKind.u64.wrap x.disp)))),some (pt g2 1),some (.int .i8 x.w),some (.int .i64 x.w),some (.int .i64 (x.w / 8)),some (.int .u64 (IntKind.u64.wrap ((m.r x.base.toNat)+(IntKind.u64.wrap x.disp)))),some (.int .i64 (x.w / 8)),oT] mo f9.d f9.z f9.b (by kernel_rfl) ⟨b_g2_8,b_g1_9,trivial⟩ (
   kq (fun cx=>ex_fa rfl (cx.rq 3 s3_10) (faExX30_4_0 _ _)) <|
   kq (fun cx=>ex_ld rfl (cx.u 0 rfl) (cx.rn 0 rfl) rfl Tryz.isAgg28) <|
   kq (fun cx=>ex_fa rfl (cx.rq 2 s2_11) (faExX27_0_0 _ _)) <|
   hk (fun cx=>cx.v (ex_ia (n:=16) (sz:=1) rfl (cx.u 0 rfl) (cx.u 1 rfl) Tryz.underlying23 (by kernel_rfl) (by omega) (by omega) (by omega)) rfl rfl) <|
   hk (fun cx=>cx.v (ldMcR (by omega) rfl (cx.u 0 rfl) (cx.rn 1 rfl)) rfl rfl) <|
   kq (fun cx=>ex_fa rfl (cx.rq 3 s3_10) (faExX30_5_0 _ _)) <|
   kq (fun cx=>ex_ld rfl (cx.u 0 rfl) (cx.rn 0 rfl) rfl Tryz.isAgg3) <|
   kq (fun cx=>ex_conv (x:=.tmp 21) rfl cx.u0 Tryz.underlying3 Tryz.underlying22) <|
   kq (fun cx=>ex_add (x:=.tmp 19) (y:=.tmp 22) rfl cx.u0 cx.u1) <|
   kq (fun cx=>ex_fa rfl (cx.rq 3 s3_10) (faExX30_1_0 _ _)) <|
   kq (fun cx=>ex_ld rfl (cx.u 0 rfl) (cx.rn 0 rfl) rfl Tryz.isAgg28) <|
   hk (fun cx=>cx.v (ex_conv (x:=.tmp 25) rfl cx.u0 Tryz.underlying28 Tryz.underlying3) rfl (congrArg (Value.int .i64) (wrap_w8 hX))) <|
   hk (fun cx=>cx.v (ex_quoi (x:=.tmp 26) rfl cx.u0 rfl (w_pos hm (by omega)).1 (by decide) (w_pos hm (by omega)).2) rfl rfl) <|
   kmu 0 <|
   kmu 0 <|
   kq (fun cx=>ex_as rfl rfl) <|
   hn) ?_
  intro a10 w10 f10
  refine wp_ret ?_
  try simp only [Exit.inBlock,Exit.then]
  refine bodyPost_ret (res_ttt (fn:=Tryz.f7) rfl (f10.vv 13) (f10.vv 14) (f10.vv 15)) f10.d ?_
  exact ⟨retV (ret3 (adrQ_yes hm (.inr hO27))),f10.b⟩
 have Ffk3:=Lib.hid fk3;clear fk3
 have s11_12:=f8.q 11 (f5.vv 1)
 refine go_reg [] [] [oF,oF] mo f8.d f8.z f8.b (by kernel_rfl) trivial (
  hk (fun cx=>cx.v (ex_eq (x:=.tmp 11) rfl (cx.rq 11 s11_12) rfl) rfl (congrArg Value.bool Ffk3.out)) <|
  kmu 0 <|
  hn) ?_
 intro a11 w11 f11
 refine wp_cond_false (f11.vv 1) ?_
 refine wp_seq ?_
 cases fk4:x.op == 30
 case true=>
  have Ffk4:=Lib.hid fk4;clear fk4
  have hO30:x.op=30:=by simpa using Ffk4.out
  have s11_13:=f11.q 11 s11_12
  refine go_reg [] [] [oT,oT] mo f11.d f11.z f11.b (by kernel_rfl) trivial (
   hk (fun cx=>cx.v (ex_eq (x:=.tmp 11) rfl (cx.rq 11 s11_13) rfl) rfl (congrArg Value.bool Ffk4.out)) <|
   kmu 0 <|
   hn) ?_
  intro a12 w12 f12
  refine wp_cond_true (f12.vv 1) ?_
  refine wp_seq ?_
  have b_g1_14:=f12.k (f11.k (f8.k (f5.k (f4.k b_g1))))
  have s2_15:=f12.q 2 (f11.q 2 (f8.q 2 (f5.q 2 (f4.q 2 u_g1))))
  refine go_reg [bx g1 27 (mcC m)] [] [some (pt g1 0),some (pt g1 (4)),some (.int .u64 (m.r 4)),some (.int .u64 (m.r 4)),some (.int .i64 8),oT] mo f12.d f12.z f12.b (by kernel_rfl) ⟨b_g1_14,trivial⟩ (
   kq (fun cx=>ex_fa rfl (cx.rq 2 s2_15) (faExX27_0_0 _ _)) <|
   hk (fun cx=>cx.v (ex_ia (n:=16) (sz:=1) rfl (cx.u 0 rfl) rfl Tryz.underlying23 (by kernel_rfl) (by omega) (by omega) (by omega)) rfl rfl) <|
   hk (fun cx=>cx.v (ldMcR (by omega) rfl (cx.u 0 rfl) (cx.rn 0 rfl)) rfl rfl) <|
   kmu 0 <|
   kq (fun cx=>ex_as rfl rfl) <|
   kq (fun cx=>ex_as rfl rfl) <|
   hn) ?_
  intro a13 w13 f13
  refine wp_ret ?_
  try simp only [Exit.inBlock,Exit.then]
  refine bodyPost_ret (res_ttt (fn:=Tryz.f7) rfl (f13.vv 3) (f13.vv 4) (f13.vv 5)) f13.d ?_
  exact ⟨retV (ret3 (adrQ_ret hm hO30)),f13.b⟩
 have Ffk4:=Lib.hid fk4;clear fk4
 have s11_16:=f11.q 11 s11_12
 refine go_reg [] [] [oF,oF] mo f11.d f11.z f11.b (by kernel_rfl) trivial (
  hk (fun cx=>cx.v (ex_eq (x:=.tmp 11) rfl (cx.rq 11 s11_16) rfl) rfl (congrArg Value.bool Ffk4.out)) <|
  kmu 0 <|
  hn) ?_
 intro a14 w14 f14
 refine wp_cond_false (f14.vv 1) ?_
 refine wp_skip ?_
 refine wp_seq ?_
 refine go_reg [] [] [some (.int .u64 0),some (.int .i64 0),oF] mo f14.d f14.z f14.b (by kernel_rfl) trivial (
  kq (fun cx=>ex_as rfl rfl) <|
  kq (fun cx=>ex_as rfl rfl) <|
  kq (fun cx=>ex_as rfl rfl) <|
  hn) ?_
 intro a15 w15 f15
 refine wp_ret ?_
 try simp only [Exit.inBlock,Exit.then]
 refine bodyPost_ret (res_ttt (fn:=Tryz.f7) rfl (f15.vv 0) (f15.vv 1) (f15.vv 2)) f15.d ?_
 exact ⟨retV (ret3 (adrQ_oth hm Ffk2.out Ffk3.out Ffk4.out)),f15.b⟩
theorem qsto_n (m:Mc)(x:Xi)(W:World)(hX:Mrm.XOk x):Calls Tryz.prog 15 #[.agg (mcC m),.agg (xC x)] W fun e w'=>e=.returned (.int .u64 (stoX m x))∧Below W.heap.size W w':=by
 refine calls_abs Tryz.func15 rfl (Nat.le_of_ble_eq_true rfl) ?_
 intro a0 d0 z0 h0
 replace z0:a0.tmps.size=21:=z0
 have s0_0:a0.tmps.getD 0 undef=.agg (mcC m):=h0 0 (Nat.le_of_ble_eq_true rfl)
 have s1_0:a0.tmps.getD 1 undef=.agg (xC x):=h0 1 (Nat.le_of_ble_eq_true rfl)
 refine wp_seq ?_
 refine go_reg [] [⟨0,2,27,(mcC m),none,#[]⟩,⟨1,3,30,(xC x),none,#[]⟩] [none,none,some (.int .u64 0)] mo d0 z0 (Below.refl _ _) (by kernel_rfl) trivial (
  hk (fun cx=>cx.al (wn rfl) 0 rfl (ex_box rfl (cx.rq 0 s0_0) rfl) rfl rfl rfl rfl rfl trivial) <|
  hk (fun cx=>cx.al (wn rfl) 1 rfl (ex_box rfl (cx.rq 1 s1_0) rfl) rfl rfl rfl rfl rfl trivial) <|
  kq (fun cx=>ex_as rfl rfl) <|
  hn) ?_
 intro a1 w1 f1
 obtain ⟨g1,u_g1,q_g1,b_g1⟩:=f1.al.1
 obtain ⟨g2,u_g2,q_g2,b_g2⟩:=f1.al.2.1
 refine wp_seq ?_
 refine wp_seq ?_
 cases fk1:mayX x
 case false=>
  have Ffk1:=Lib.hid fk1;clear fk1
  refine go_reg [bx g2 30 (xC x)] [] [some (.agg (xC x)),oF,oT,oT,oU,oU,oU,oT] mo f1.d f1.z f1.b (by kernel_rfl) ⟨b_g2,trivial⟩ (
   kq (fun cx=>Mrm.ldX rfl (cx.rq 3 u_g2) (cx.rn 0 rfl)) <|
   hc (fun _ _ wx cx=>cx.c rfl (args1 cx.u0) Tryz.func22 (by decide +kernel) (Mrm.emay_n x wx hX.w) rfl (congrArg Value.bool Ffk1.out)) <|
   kq (fun cx=>ex_not (x:=.tmp 6) rfl cx.u0) <|
   kmu 0 <|
   kno 0 <|
   kno 1 <|
   kno 1 <|
   kq (fun cx=>ex_pt rfl cx.u0 rfl) <|
   hn) ?_
  intro a2 w2 f2
  refine wp_cond_true (f2.vv 7) ?_
  refine wp_seq ?_
  refine go_reg [] [] [some (.int .u64 0)] mo f2.d f2.z f2.b (by kernel_rfl) trivial (
   kq (fun cx=>ex_as rfl rfl) <|
   hn) ?_
  intro a3 w3 f3
  refine wp_ret ?_
  try simp only [Exit.inBlock,Exit.then]
  refine bodyPost_ret (res_t (fn:=Tryz.f15) rfl (f3.vv 0)) f3.d ?_
  exact ⟨retV (congrArg (Value.int .u64) (Eq.symm (show stoX m x=_ from if_neg (by rw [Ffk1.out];simp)))),f3.b⟩
 have Ffk1:=Lib.hid fk1;clear fk1
 have hm:mayX x=true:=Ffk1.out
 obtain ⟨hop,hd,hs,hb⟩:=Mrm.may_parts' hm
 cases fk2:x.op != 27
 case true=>
  have Ffk2:=Lib.hid fk2;clear fk2
  refine go_reg [bx g2 30 (xC x)] [] [some (.agg (xC x)),oT,oF,oF,some (pt g2 0),some (.int .i8 x.op),oT,oT] mo f1.d f1.z f1.b (by kernel_rfl) ⟨b_g2,trivial⟩ (
   kq (fun cx=>Mrm.ldX rfl (cx.rq 3 u_g2) (cx.rn 0 rfl)) <|
   hc (fun _ _ wx cx=>cx.c rfl (args1 cx.u0) Tryz.func22 (by decide +kernel) (Mrm.emay_n x wx hX.w) rfl (congrArg Value.bool Ffk1.out)) <|
   kq (fun cx=>ex_not (x:=.tmp 6) rfl cx.u0) <|
   kmu 0 <|
   hk (fun cx=>cx.vy 0 (ex_fa rfl (cx.rq 3 u_g2) (faExX30_0_0 _ _))) <|
   hk (fun cx=>cx.vy 1 (ex_ld rfl (cx.u 0 rfl) (cx.rn 0 rfl) rfl Tryz.isAgg28)) <|
   hk (fun cx=>cx.vy 1 (ex_ne (x:=.tmp 10) rfl cx.u0 rfl) (congrArg Value.bool Ffk2.out)) <|
   kq (fun cx=>ex_pf rfl cx.u0 cx.u1) <|
   hn) ?_
  intro a4 w4 f4
  refine wp_cond_true (f4.vv 7) ?_
  refine wp_seq ?_
  refine go_reg [] [] [some (.int .u64 0)] mo f4.d f4.z f4.b (by kernel_rfl) trivial (
   kq (fun cx=>ex_as rfl rfl) <|
   hn) ?_
  intro a5 w5 f5
  refine wp_ret ?_
  try simp only [Exit.inBlock,Exit.then]
  refine bodyPost_ret (res_t (fn:=Tryz.f15) rfl (f5.vv 0)) f5.d ?_
  exact ⟨retV (congrArg (Value.int .u64) (Eq.symm (show stoX m x=_ from if_neg (by have q:=Ffk2.out;simp only [bne_iff_ne] at q;exact fun e=>q e.2)))),f5.b⟩
 have Ffk2:=Lib.hid fk2;clear fk2
 have hO27:x.op=27:=by simpa using Ffk2.out
 refine go_reg [bx g2 30 (xC x)] [] [some (.agg (xC x)),oT,oF,oF,some (pt g2 0),some (.int .i8 27),oF,oF] mo f1.d f1.z f1.b (by kernel_rfl) ⟨b_g2,trivial⟩ (
  kq (fun cx=>Mrm.ldX rfl (cx.rq 3 u_g2) (cx.rn 0 rfl)) <|
  hc (fun _ _ wx cx=>cx.c rfl (args1 cx.u0) Tryz.func22 (by decide +kernel) (Mrm.emay_n x wx hX.w) rfl (congrArg Value.bool Ffk1.out)) <|
  kq (fun cx=>ex_not (x:=.tmp 6) rfl cx.u0) <|
  kmu 0 <|
  hk (fun cx=>cx.vy 0 (ex_fa rfl (cx.rq 3 u_g2) (faExX30_0_0 _ _))) <|
  hk (fun cx=>cx.vy 1 (ex_ld rfl (cx.u 0 rfl) (cx.rn 0 rfl) rfl Tryz.isAgg28) (congrArg (Value.int .i8) hO27)) <|
  hk (fun cx=>cx.vy 1 (ex_ne (x:=.tmp 10) rfl cx.u0 rfl) (congrArg Value.bool (by decide))) <|
  kq (fun cx=>ex_pf rfl cx.u0 cx.u1) <|
  hn) ?_
 intro a6 w6 f6
 refine wp_cond_false (f6.vv 7) ?_
 refine wp_skip ?_
 refine wp_seq ?_
 have b_g2_1:=f6.k b_g2
 have b_g1_2:=f6.k b_g1
 have s3_3:=f6.q 3 u_g2
 have s2_4:=f6.q 2 u_g1
 refine go_reg [bx g2 30 (xC x),bx g1 27 (mcC m)] [] [some (pt g2 3),some (.int .i8 x.src),some (pt g1 0),some (pt g1 (x.src.toNat)),some (.int .u64 (m.r x.src.toNat)),some (pt g2 1),some (.int .i8 x.w),some (.int .u64 (cutI (m.r x.src.toNat) x.w)),some (.int .u64 (cutI (m.r x.src.toNat) x.w))] mo f6.d f6.z f6.b (by kernel_rfl) ⟨b_g2_1,b_g1_2,trivial⟩ (
  kq (fun cx=>ex_fa rfl (cx.rq 3 s3_3) (faExX30_3_0 _ _)) <|
  kq (fun cx=>ex_ld rfl (cx.u 0 rfl) (cx.rn 0 rfl) rfl Tryz.isAgg28) <|
  kq (fun cx=>ex_fa rfl (cx.rq 2 s2_4) (faExX27_0_0 _ _)) <|
  hk (fun cx=>cx.v (ex_ia (n:=16) (sz:=1) rfl (cx.u 0 rfl) (cx.u 1 rfl) Tryz.underlying23 (by kernel_rfl) (by omega) (by omega) (by omega)) rfl rfl) <|
  hk (fun cx=>cx.v (ldMcR (by omega) rfl (cx.u 0 rfl) (cx.rn 1 rfl)) rfl rfl) <|
  kq (fun cx=>ex_fa rfl (cx.rq 3 s3_3) (faExX30_1_0 _ _)) <|
  kq (fun cx=>ex_ld rfl (cx.u 0 rfl) (cx.rn 0 rfl) rfl Tryz.isAgg28) <|
  hc (fun _ _ wx cx=>cx.c rfl (args2 cx.u0 cx.u1) Tryz.func28 (by decide +kernel) (((refcut_any (m.r x.src.toNat) x.w wx).mono (by rintro e w' ⟨rfl,rfl⟩;exact ⟨rfl,Below.refl _ _⟩))) rfl rfl) <|
  kmu 0 <|
  hn) ?_
 intro a7 w7 f7
 refine wp_ret ?_
 try simp only [Exit.inBlock,Exit.then]
 refine bodyPost_ret (res_t (fn:=Tryz.f15) rfl (f7.vv 8)) f7.d ?_
 exact ⟨retV (congrArg (Value.int .u64) (Eq.symm (show stoX m x=_ from if_pos ⟨hm,hO27⟩))),f7.b⟩
theorem num_n_ (m:Mc)(W:World)(hM:MOk m):Calls Tryz.prog 8 #[.agg (mcC m)] W fun e w'=>e=.returned (.tuple #[.int .i64 (numV m),.bool (numQ m)])∧Below W.heap.size W w':=by
 refine calls_abs Tryz.func8 rfl (Nat.le_of_ble_eq_true rfl) ?_
 intro a0 d0 z0 h0
 replace z0:a0.tmps.size=12:=z0
 have s0_0:a0.tmps.getD 0 undef=.agg (mcC m):=h0 0 (Nat.le_of_ble_eq_true rfl)
 refine wp_seq ?_
 refine go_reg [] [⟨0,1,27,(mcC m),none,#[]⟩] [none,some (.int .i64 0),oF] mo d0 z0 (Below.refl _ _) (by kernel_rfl) trivial (
  hk (fun cx=>cx.al (wn rfl) 0 rfl (ex_box rfl (cx.rq 0 s0_0) rfl) rfl rfl rfl rfl rfl trivial) <|
  kq (fun cx=>ex_as rfl rfl) <|
  kq (fun cx=>ex_as rfl rfl) <|
  hn) ?_
 intro a1 w1 f1
 obtain ⟨g1,u_g1,q_g1,b_g1⟩:=f1.al.1
 refine wp_seq ?_
 refine go_reg [bx g1 27 (mcC m)] [] [some (pt g1 0),some (pt g1 (0)),some (.int .u64 (m.r 0)),some (.int .u64 (m.r 0))] mo f1.d f1.z f1.b (by kernel_rfl) ⟨b_g1,trivial⟩ (
  kq (fun cx=>ex_fa rfl (cx.rq 1 u_g1) (faExX27_0_0 _ _)) <|
  hk (fun cx=>cx.v (ex_ia (n:=16) (sz:=1) rfl (cx.u 0 rfl) rfl Tryz.underlying23 (by kernel_rfl) (by omega) (by omega) (by omega)) rfl rfl) <|
  hk (fun cx=>cx.v (ldMcR (by omega) rfl (cx.u 0 rfl) (cx.rn 0 rfl)) rfl rfl) <|
  kmu 0 <|
  hn) ?_
 intro a2 w2 f2
 refine wp_seq ?_
 refine wp_seq ?_
 cases fk1:decide (16≤(m.r 0))
 case true=>
  have Ffk1:=Lib.hid fk1;clear fk1
  refine go_reg [] [] [some (.int .u64 (m.r 0)),oT] mo f2.d f2.z f2.b (by kernel_rfl) trivial (
   kq (fun cx=>ex_mv rfl (cx.rq 4 (f2.vv 3))) <|
   hk (fun cx=>cx.v (ex_ge (x:=.tmp 8) rfl cx.u0 rfl) rfl (congrArg Value.bool Ffk1.out)) <|
   hn) ?_
  intro a3 w3 f3
  refine wp_cond_true (f3.vv 1) ?_
  refine wp_seq ?_
  refine go_reg [] [] [some (.int .i64 0),oF] mo f3.d f3.z f3.b (by kernel_rfl) trivial (
   kq (fun cx=>ex_as rfl rfl) <|
   kq (fun cx=>ex_as rfl rfl) <|
   hn) ?_
  intro a4 w4 f4
  refine wp_ret ?_
  try simp only [Exit.inBlock,Exit.then]
  refine bodyPost_ret (res_tt (fn:=Tryz.f8) rfl (f4.vv 0) (f4.vv 1)) f4.d ?_
  exact ⟨retV (num_n Ffk1.out),f4.b⟩
 have Ffk1:=Lib.hid fk1;clear fk1
 refine go_reg [] [] [some (.int .u64 (m.r 0)),oF] mo f2.d f2.z f2.b (by kernel_rfl) trivial (
  kq (fun cx=>ex_mv rfl (cx.rq 4 (f2.vv 3))) <|
  hk (fun cx=>cx.v (ex_ge (x:=.tmp 8) rfl cx.u0 rfl) rfl (congrArg Value.bool Ffk1.out)) <|
  hn) ?_
 intro a5 w5 f5
 refine wp_cond_false (f5.vv 1) ?_
 refine wp_skip ?_
 refine wp_seq ?_
 have s4_1:=f5.q 4 (f2.vv 3)
 refine go_reg [] [] [some (.int .u64 (m.r 0)),some (.int .i64 (IntKind.i64.wrap (m.r 0))),some (.int .i64 (IntKind.i64.wrap (m.r 0))),oT] mo f5.d f5.z f5.b (by kernel_rfl) trivial (
  kq (fun cx=>ex_mv rfl (cx.rq 4 s4_1)) <|
  kq (fun cx=>ex_conv (x:=.tmp 10) rfl cx.u0 Tryz.underlying22 Tryz.underlying3) <|
  kmu 0 <|
  kq (fun cx=>ex_as rfl rfl) <|
  hn) ?_
 intro a6 w6 f6
 refine wp_ret ?_
 try simp only [Exit.inBlock,Exit.then]
 refine bodyPost_ret (res_tt (fn:=Tryz.f8) rfl (f6.vv 2) (f6.vv 3)) f6.d ?_
 exact ⟨retV (num_y hM Ffk1.out),f6.b⟩
theorem qnum_n (m:Mc)(W:World)(hM:MOk m):Calls Tryz.prog 9 #[.agg (mcC m)] W fun e w'=>e=.returned (.tuple #[.int .i64 (numV m),.bool (numQ m)])∧Below W.heap.size W w':=by
 refine calls_abs Tryz.func9 rfl (Nat.le_of_ble_eq_true rfl) ?_
 intro a0 d0 z0 h0
 replace z0:a0.tmps.size=12:=z0
 have s0_0:a0.tmps.getD 0 undef=.agg (mcC m):=h0 0 (Nat.le_of_ble_eq_true rfl)
 refine wp_seq ?_
 refine go_reg [] [⟨0,1,27,(mcC m),none,#[]⟩] [none,some (.int .i64 0),oF] mo d0 z0 (Below.refl _ _) (by kernel_rfl) trivial (
  hk (fun cx=>cx.al (wn rfl) 0 rfl (ex_box rfl (cx.rq 0 s0_0) rfl) rfl rfl rfl rfl rfl trivial) <|
  kq (fun cx=>ex_as rfl rfl) <|
  kq (fun cx=>ex_as rfl rfl) <|
  hn) ?_
 intro a1 w1 f1
 obtain ⟨g1,u_g1,q_g1,b_g1⟩:=f1.al.1
 refine wp_seq ?_
 refine wp_seq ?_
 cases fk1:decide (16≤(m.r 0))
 case true=>
  have Ffk1:=Lib.hid fk1;clear fk1
  refine go_reg [bx g1 27 (mcC m)] [] [some (pt g1 0),some (pt g1 (0)),some (.int .u64 (m.r 0)),oT] mo f1.d f1.z f1.b (by kernel_rfl) ⟨b_g1,trivial⟩ (
   kq (fun cx=>ex_fa rfl (cx.rq 1 u_g1) (faExX27_0_0 _ _)) <|
   hk (fun cx=>cx.v (ex_ia (n:=16) (sz:=1) rfl (cx.u 0 rfl) rfl Tryz.underlying23 (by kernel_rfl) (by omega) (by omega) (by omega)) rfl rfl) <|
   hk (fun cx=>cx.v (ldMcR (by omega) rfl (cx.u 0 rfl) (cx.rn 0 rfl)) rfl rfl) <|
   hk (fun cx=>cx.v (ex_ge (x:=.tmp 6) rfl cx.u0 rfl) rfl (congrArg Value.bool Ffk1.out)) <|
   hn) ?_
  intro a2 w2 f2
  refine wp_cond_true (f2.vv 3) ?_
  refine wp_seq ?_
  refine go_reg [] [] [some (.int .i64 0),oF] mo f2.d f2.z f2.b (by kernel_rfl) trivial (
   kq (fun cx=>ex_as rfl rfl) <|
   kq (fun cx=>ex_as rfl rfl) <|
   hn) ?_
  intro a3 w3 f3
  refine wp_ret ?_
  try simp only [Exit.inBlock,Exit.then]
  refine bodyPost_ret (res_tt (fn:=Tryz.f9) rfl (f3.vv 0) (f3.vv 1)) f3.d ?_
  exact ⟨retV (num_n Ffk1.out),f3.b⟩
 have Ffk1:=Lib.hid fk1;clear fk1
 refine go_reg [bx g1 27 (mcC m)] [] [some (pt g1 0),some (pt g1 (0)),some (.int .u64 (m.r 0)),oF] mo f1.d f1.z f1.b (by kernel_rfl) ⟨b_g1,trivial⟩ (
  kq (fun cx=>ex_fa rfl (cx.rq 1 u_g1) (faExX27_0_0 _ _)) <|
  hk (fun cx=>cx.v (ex_ia (n:=16) (sz:=1) rfl (cx.u 0 rfl) rfl Tryz.underlying23 (by kernel_rfl) (by omega) (by omega) (by omega)) rfl rfl) <|
  hk (fun cx=>cx.v (ldMcR (by omega) rfl (cx.u 0 rfl) (cx.rn 0 rfl)) rfl rfl) <|
  hk (fun cx=>cx.v (ex_ge (x:=.tmp 6) rfl cx.u0 rfl) rfl (congrArg Value.bool Ffk1.out)) <|
  hn) ?_
 intro a4 w4 f4
 refine wp_cond_false (f4.vv 3) ?_
 refine wp_skip ?_
 refine wp_seq ?_
 have b_g1_1:=f4.k b_g1
 have s1_2:=f4.q 1 u_g1
 refine go_reg [bx g1 27 (mcC m)] [] [some (pt g1 0),some (pt g1 (0)),some (.int .u64 (m.r 0)),some (.int .i64 (IntKind.i64.wrap (m.r 0))),some (.int .i64 (IntKind.i64.wrap (m.r 0))),oT] mo f4.d f4.z f4.b (by kernel_rfl) ⟨b_g1_1,trivial⟩ (
  kq (fun cx=>ex_fa rfl (cx.rq 1 s1_2) (faExX27_0_0 _ _)) <|
  hk (fun cx=>cx.v (ex_ia (n:=16) (sz:=1) rfl (cx.u 0 rfl) rfl Tryz.underlying23 (by kernel_rfl) (by omega) (by omega) (by omega)) rfl rfl) <|
  hk (fun cx=>cx.v (ldMcR (by omega) rfl (cx.u 0 rfl) (cx.rn 0 rfl)) rfl rfl) <|
  kq (fun cx=>ex_conv (x:=.tmp 10) rfl cx.u0 Tryz.underlying22 Tryz.underlying3) <|
  kmu 0 <|
  kq (fun cx=>ex_as rfl rfl) <|
  hn) ?_
 intro a5 w5 f5
 refine wp_ret ?_
 try simp only [Exit.inBlock,Exit.then]
 refine bodyPost_ret (res_tt (fn:=Tryz.f9) rfl (f5.vv 4) (f5.vv 5)) f5.d ?_
 exact ⟨retV (num_y hM Ffk1.out),f5.b⟩
theorem qtocc_n (cc:Int)(W:World):Calls Tryz.prog 13 #[.int .i8 cc] W fun e w'=>e=.returned (.tuple #[.int .i8 (toC cc),.bool (toB cc)])∧W=w':=by
 by_cases h:0≤cc∧cc≤10
 ·rcases (show cc=0∨cc=1∨cc=2∨cc=3∨cc=4∨cc=5∨cc=6∨cc=7∨cc=8∨cc=9∨cc=10 by omega) with rfl | rfl | rfl | rfl | rfl | rfl | rfl | rfl | rfl | rfl | rfl
  all_goals (
   go_enter Tryz.func13,Tryz.ntmps13
   go_wp2
   go_ret2
   exact ⟨rfl,rfl⟩)
 ·have hb:toB cc=false:=by unfold toB;simp only [Bool.and_eq_false_iff,decide_eq_false_iff_not];omega
  rw [show toC cc=0 from if_neg (by rw [hb];exact Bool.false_ne_true),hb]
  have n0:(cc == 0)=false:=beq_eq_false_iff_ne.2 (by omega)
  have n1:(cc == 1)=false:=beq_eq_false_iff_ne.2 (by omega)
  have n2:(cc == 2)=false:=beq_eq_false_iff_ne.2 (by omega)
  have n3:(cc == 3)=false:=beq_eq_false_iff_ne.2 (by omega)
  have n4:(cc == 4)=false:=beq_eq_false_iff_ne.2 (by omega)
  have n5:(cc == 5)=false:=beq_eq_false_iff_ne.2 (by omega)
  have n6:(cc == 6)=false:=beq_eq_false_iff_ne.2 (by omega)
  have n7:(cc == 7)=false:=beq_eq_false_iff_ne.2 (by omega)
  have n8:(cc == 8)=false:=beq_eq_false_iff_ne.2 (by omega)
  have n9:(cc == 9)=false:=beq_eq_false_iff_ne.2 (by omega)
  have n10:(cc == 10)=false:=beq_eq_false_iff_ne.2 (by omega)
  clear h hb
  go_enter Tryz.func13,Tryz.ntmps13
  go_wp2
  go_ret2
  exact ⟨rfl,rfl⟩
end Go.Proofs.YtjhedldplmhmjaaGreatDoor.Exe
