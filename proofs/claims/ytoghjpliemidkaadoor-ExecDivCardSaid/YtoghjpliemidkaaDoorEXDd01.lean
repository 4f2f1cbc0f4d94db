import Derived.Test.YtoghjpliemidkaaDoorEXm36
set_option linter.unusedVariables false
set_option linter.unusedSimpArgs false
set_option linter.unnecessarySimpa false
namespace Go.Proofs.YtoghjpliemidkaaDoor.Exe
open Go Go.RowKit
open Mrm (Xi xC zX mayX bytesX)
open Flg (Fl fC zF addF subF ofF holF holE mayC parts5 ex_beq ex_bne)
set_option linter.unusedVariables false
set_option linter.unusedSimpArgs false
set_option linter.unnecessarySimpa false
set_option maxRecDepth 100000
theorem faExecDivW36_0_0 (g:Nat) (w:World):(Instr.fieldAt 36 (.pointer (some ⟨g,0,none⟩)) 0).run Tryd.prog w=.ok (.pointer (some ⟨g,0,none⟩)) w:=by simp [go_sem]
theorem faExecDivW36_1_0 (g:Nat) (w:World):(Instr.fieldAt 36 (.pointer (some ⟨g,0,none⟩)) 1).run Tryd.prog w=.ok (.pointer (some ⟨g,16,none⟩)) w:=by simp [go_sem]
theorem faExecDivW34_0_16 (g:Nat) (w:World):(Instr.fieldAt 34 (.pointer (some ⟨g,16,none⟩)) 0).run Tryd.prog w=.ok (.pointer (some ⟨g,16,none⟩)) w:=by simp [go_sem]
section
variable {m:Mc} {w b:Int}
theorem dv_arg (h:mayX ⟨24,w,b,0,0,0,0,0⟩=false):(doXe m ⟨24,w,b,0,0,0,0,0⟩ 0 == 2)=true:=by rw [show doXe m ⟨24,w,b,0,0,0,0,0⟩ 0=2 from if_neg (by rw [h];exact Bool.false_ne_true)];rfl
theorem dv_go:goX m ⟨24,w,b,0,0,0,0,0⟩ 0=bif (cutI (m.r 2) w == 0 && cutI (m.r b.toNat) w != 0) then some (divM (m.upA (IntKind.u64.wrap (m.a + IntKind.u64.wrap (lenX ⟨24,w,b,0,0,0,0,0⟩)))) ⟨24,w,b,0,0,0,0,0⟩) else none:=eff_24 _ _ rfl
theorem dv_zero (h:mayX ⟨24,w,b,0,0,0,0,0⟩=true) (h0:(cutI (m.r b.toNat) w == 0)=true):(doXe m ⟨24,w,b,0,0,0,0,0⟩ 0 == 20)=true:=by
  have e:goX m ⟨24,w,b,0,0,0,0,0⟩ 0=none:=by rw [dv_go,bne,h0,Bool.not_true,Bool.and_false];rfl
  rw [show doXe m ⟨24,w,b,0,0,0,0,0⟩ 0=20 from (if_pos h).trans (by rw [e];rfl)];rfl
theorem dv_high (h:mayX ⟨24,w,b,0,0,0,0,0⟩=true) (h0:(cutI (m.r 2) w != 0)=true):(doXe m ⟨24,w,b,0,0,0,0,0⟩ 0 == 20)=true:=by
  have e:goX m ⟨24,w,b,0,0,0,0,0⟩ 0=none:=by
    rw [dv_go,show (cutI (m.r 2) w == 0)=false by simpa [bne] using h0];rfl
  rw [show doXe m ⟨24,w,b,0,0,0,0,0⟩ 0=20 from (if_pos h).trans (by rw [e];rfl)];rfl
theorem dv_ok (h:mayX ⟨24,w,b,0,0,0,0,0⟩=true) (h0:(cutI (m.r b.toNat) w == 0)=false) (h1:(cutI (m.r 2) w != 0)=false):doXe m ⟨24,w,b,0,0,0,0,0⟩ 0=0 ∧ (doX m ⟨24,w,b,0,0,0,0,0⟩ 0)=divM (m.upA (IntKind.u64.wrap (m.a + IntKind.u64.wrap (lenX ⟨24,w,b,0,0,0,0,0⟩)))) ⟨24,w,b,0,0,0,0,0⟩:=by
  have e:goX m ⟨24,w,b,0,0,0,0,0⟩ 0=some (divM (m.upA (IntKind.u64.wrap (m.a + IntKind.u64.wrap (lenX ⟨24,w,b,0,0,0,0,0⟩)))) ⟨24,w,b,0,0,0,0,0⟩):=by
    rw [dv_go,bne,h0,show (cutI (m.r 2) w == 0)=true by simpa [bne] using h1];rfl
  exact ⟨(if_pos h).trans (by rw [e];rfl),(if_pos h).trans (by rw [e];rfl)⟩
theorem cut_again (v w:Int):cutI (cutI v w) w=cutI v w:=by
  unfold cutI
  (repeat' split) <;> omega
theorem do_cut (op w a b:Int):doI op w a (cutI b w)=doI op w a b:=by unfold doI;rw [cut_again]
end
set_option maxHeartbeats 4000000 in
theorem div_n (m:Mc) (w b:Int) (W:World) (hT:Mrm.Tabs W) (hM:MOk m) (hw:-128 ≤ w ∧ w < 128) (hb:-128 ≤ b ∧ b < 128):Calls Tryd.prog 6 #[.agg (mcC m),.int .i8 w,.int .i8 b] W fun e w'=>e=.returned (.bool true) ∧ Below W.heap.size W w':=by
  refine calls_abs Tryd.func6 rfl (Nat.le_of_ble_eq_true rfl) ?_
  intro a0 d0 z0 h0
  replace z0:a0.tmps.size=96:=z0
  have s0_0:a0.tmps.getD 0 undef=.agg (mcC m):=h0 0 (Nat.le_of_ble_eq_true rfl)
  have s1_0:a0.tmps.getD 1 undef=.int .i8 w:=h0 1 (Nat.le_of_ble_eq_true rfl)
  have s2_0:a0.tmps.getD 2 undef=.int .i8 b:=h0 2 (Nat.le_of_ble_eq_true rfl)
  refine wp_seq ?_
  refine go_reg [] [⟨0,3,36,(mcC m),none,#[]⟩] [none,oF] mo d0 z0 (Below.refl _ _) (by kernel_rfl) trivial (
   hk (fun cx=>cx.al (wn rfl) 0 rfl (ex_box rfl (cx.rq 0 s0_0) rfl) rfl rfl rfl rfl rfl trivial) <|
   hk (fun cx=>cx.q (ex_as rfl rfl)) <|
   hn) ?_
  intro a1 w1 f1
  obtain ⟨g1,u_g1,q_g1,b_g1⟩:=f1.al.1
  refine wp_seq ?_
  have s1_1:=f1.q 1 s1_0
  have s2_2:=f1.q 2 s2_0
  refine go_reg [] [⟨3,7,26,(xC zX),some 4,(xC ⟨24,w,b,0,0,0,0,0⟩)⟩] [some (.int .i8 w),some (.int .i8 b),some (.agg (xC ⟨24,w,b,0,0,0,0,0⟩)),none,none] mo f1.d f1.z f1.b (by kernel_rfl) trivial (
   hk (fun cx=>cx.q (ex_mv rfl (cx.rq 1 s1_1))) <|
   hk (fun cx=>cx.q (ex_mv rfl (cx.rq 2 s2_2))) <|
   hk (fun cx=>cx.q (exec_build rfl (parts3 rfl (cx.u 0 rfl) (cx.u 1 rfl)) (by kernel_rfl))) <|
   hk (fun cx=>cx.al (wn rfl) 0 rfl (Mrm.al_x rfl) rfl rfl rfl rfl (by kernel_rfl) trivial) <|
   hk (fun cx=>cx.stA (wn rfl) rfl rfl 0 0 rfl rfl rfl rfl (cx.u 1 rfl) (by kernel_rfl) (Eq.refl 8) (by simp [Value.oneCell']) f1.b.size rfl rfl trivial) <|
   hn) ?_
  intro a2 w2 f2
  obtain ⟨g2,u_g2,q_g2,b_g2⟩:=f2.al.1
  refine wp_seq ?_
  have b_g1_3:=f2.k b_g1
  have s3_4:=f2.q 3 u_g1
  refine go_reg [bx g1 36 (mcC m),bx g2 26 (xC ⟨24,w,b,0,0,0,0,0⟩)] [⟨6,8,36,(mcC zM),some 7,(mcC (doX m ⟨24,w,b,0,0,0,0,0⟩ 0))⟩] [some (.agg (mcC m)),some (.agg (xC ⟨24,w,b,0,0,0,0,0⟩)),some (.tuple #[.agg (mcC (doX m ⟨24,w,b,0,0,0,0,0⟩ 0)),.int .i64 (doXe m ⟨24,w,b,0,0,0,0,0⟩ 0)]),some (.tuple #[.agg (mcC (doX m ⟨24,w,b,0,0,0,0,0⟩ 0)),.int .i64 (doXe m ⟨24,w,b,0,0,0,0,0⟩ 0)]),some (.agg (mcC (doX m ⟨24,w,b,0,0,0,0,0⟩ 0))),some (.int .i64 (doXe m ⟨24,w,b,0,0,0,0,0⟩ 0)),none,none,some (.int .i64 (doXe m ⟨24,w,b,0,0,0,0,0⟩ 0))] mo f2.d f2.z f2.b (by kernel_rfl) ⟨b_g1_3,b_g2,trivial⟩ (
   hk (fun cx=>cx.q (ldMc rfl (cx.rq 3 s3_4) (cx.rn 0 rfl))) <|
   hk (fun cx=>cx.q (Mrm.ldX rfl (cx.rq 7 u_g2) (cx.rn 1 rfl))) <|
   hc (fun _ _ wx cx=>cx.c rfl (args3 (cx.u 0 rfl) (cx.u 1 rfl) rfl) Tryd.func11 (by decide +kernel) (do_n m ⟨24,w,b,0,0,0,0,0⟩ 0 wx (hT.below cx.S.1.1 (Nat.le_refl _)) (xok ⟨by decide,by decide⟩ hw hb ⟨by decide,by decide⟩ ⟨by decide,by decide⟩ ⟨by decide,by decide⟩ ⟨by decide,by decide⟩ ⟨by decide,by decide⟩) hM (⟨by omega,by omega⟩:U64 0)) rfl rfl) <|
   kmu 0 <|
   hk (fun cx=>cx.q (ex_ext (x:=.tmp 18) rfl (cx.u 0 rfl) rfl)) <|
   hk (fun cx=>cx.q (ex_ext (x:=.tmp 18) rfl (cx.u 0 rfl) rfl)) <|
   hk (fun cx=>cx.al (wn rfl) 0 rfl (al_mc rfl) rfl rfl rfl rfl (by kernel_rfl) trivial) <|
   hk (fun cx=>cx.stA (wn rfl) rfl rfl 0 0 rfl rfl rfl rfl (cx.u 1 rfl) (by kernel_rfl) (Eq.refl 22) (mcC_one _) f2.b.size rfl rfl trivial) <|
   kmu 0 <|
   hn) ?_
  intro a3 w3 f3
  obtain ⟨g3,u_g3,q_g3,b_g3⟩:=f3.al.1
  refine wp_seq ?_
  refine wp_seq ?_
  cases fk1:mayX ⟨24,w,b,0,0,0,0,0⟩
  case false=>
   have Ffk1:=Lib.hid fk1;clear fk1
   have hm:=Ffk1.out
   have b_g2_5:=f3.k b_g2
   have s7_6:=f3.q 7 u_g2
   refine go_reg [bx g2 26 (xC ⟨24,w,b,0,0,0,0,0⟩)] [] [some (.agg (xC ⟨24,w,b,0,0,0,0,0⟩)),oF,oT] mo f3.d f3.z f3.b (by kernel_rfl) ⟨b_g2_5,trivial⟩ (
    hk (fun cx=>cx.q (Mrm.ldX rfl (cx.rq 7 s7_6) (cx.rn 0 rfl))) <|
    hc (fun _ _ wx cx=>cx.c rfl (args1 (cx.u 0 rfl)) Tryd.func16 (by decide +kernel) (Mrm.may_n ⟨24,w,b,0,0,0,0,0⟩ (xok ⟨by decide,by decide⟩ hw hb ⟨by decide,by decide⟩ ⟨by decide,by decide⟩ ⟨by decide,by decide⟩ ⟨by decide,by decide⟩ ⟨by decide,by decide⟩) wx (hT.below cx.S.1.1 (Nat.le_refl _))) rfl (congrArg Value.bool Ffk1.out)) <|
    hk (fun cx=>cx.q (ex_not (x:=.tmp 25) rfl (cx.u 0 rfl))) <|
    hn) ?_
   intro a4 w4 f4
   refine wp_cond_true (f4.v 2 rfl rfl rfl) ?_
   refine wp_seq ?_
   have s9_7:=f4.q 9 (f3.v 8 rfl rfl rfl)
   refine go_reg [] [] [some (.int .i64 (doXe m ⟨24,w,b,0,0,0,0,0⟩ 0)),oT,oT,oT,oT,oT] mo f4.d f4.z f4.b (by kernel_rfl) trivial (
    hk (fun cx=>cx.q (ex_mv rfl (cx.rq 9 s9_7))) <|
    hk (fun cx=>cx.v (ex_eq (x:=.tmp 27) rfl (cx.u 0 rfl) rfl) rfl (congrArg Value.bool (dv_arg hm))) <|
    kmu 0 <|
    hc (fun _ _ wx cx=>cx.call (cx.wy rfl rfl rfl rfl (cx.u 0 rfl)) rfl rfl (args0 ) Tryd.func12 (by decide +kernel) rfl (wakes_n wx (hT.below cx.S.1.1 (Nat.le_refl _))) rfl rfl rfl rfl) <|
    hk (fun cx=>cx.q (ex_pt rfl (cx.u 0 rfl) (cx.u 1 rfl))) <|
    kmu 0 <|
    hn) ?_
   intro a5 w5 f5
   refine wp_ret ?_
   try simp only [Exit.inBlock,Exit.then]
   refine bodyPost_ret (res_t (fn:=Tryd.f6) rfl (f5.v 5 rfl rfl rfl)) f5.d ?_
   exact ⟨rfl,f5.b⟩
  have Ffk1:=Lib.hid fk1;clear fk1
  have hm:=Ffk1.out
  have hb16:0 ≤ b ∧ b < 16:=(Mrm.may_parts' hm).2.1
  have b_g2_8:=f3.k b_g2
  have s7_9:=f3.q 7 u_g2
  refine go_reg [bx g2 26 (xC ⟨24,w,b,0,0,0,0,0⟩)] [] [some (.agg (xC ⟨24,w,b,0,0,0,0,0⟩)),oT,oF] mo f3.d f3.z f3.b (by kernel_rfl) ⟨b_g2_8,trivial⟩ (
   hk (fun cx=>cx.q (Mrm.ldX rfl (cx.rq 7 s7_9) (cx.rn 0 rfl))) <|
   hc (fun _ _ wx cx=>cx.c rfl (args1 (cx.u 0 rfl)) Tryd.func16 (by decide +kernel) (Mrm.may_n ⟨24,w,b,0,0,0,0,0⟩ (xok ⟨by decide,by decide⟩ hw hb ⟨by decide,by decide⟩ ⟨by decide,by decide⟩ ⟨by decide,by decide⟩ ⟨by decide,by decide⟩ ⟨by decide,by decide⟩) wx (hT.below cx.S.1.1 (Nat.le_refl _))) rfl (congrArg Value.bool Ffk1.out)) <|
   hk (fun cx=>cx.q (ex_not (x:=.tmp 25) rfl (cx.u 0 rfl))) <|
   hn) ?_
  intro a6 w6 f6
  refine wp_cond_false (f6.v 2 rfl rfl rfl) ?_
  refine wp_skip ?_
  refine wp_seq ?_
  have b_g1_10:=f6.k (f3.k b_g1_3)
  have s2_11:=f6.q 2 (f3.q 2 (f2.q 2 s2_2))
  have s3_12:=f6.q 3 (f3.q 3 s3_4)
  have s1_13:=f6.q 1 (f3.q 1 (f2.q 1 s1_1))
  refine go_reg [bx g1 36 (mcC m)] [] [some (.int .i8 b),some (pt g1 0),some (pt g1 (b.toNat)),some (.int .u64 (m.r b.toNat)),some (.int .i8 w),some (.int .u64 (cutI (m.r b.toNat) w)),some (.int .u64 (cutI (m.r b.toNat) w))] mo f6.d f6.z f6.b (by kernel_rfl) ⟨b_g1_10,trivial⟩ (
   hk (fun cx=>cx.q (ex_mv rfl (cx.rq 2 s2_11))) <|
   hk (fun cx=>cx.q (ex_fa rfl (cx.rq 3 s3_12) (faExecDivW36_0_0 _ _))) <|
   hk (fun cx=>cx.v (ex_ia (n:=16) (sz:=1) rfl (cx.u 0 rfl) (cx.u 1 rfl) Tryd.underlying32 (by kernel_rfl) (by omega) (by omega) (by omega)) rfl rfl) <|
   hk (fun cx=>cx.v (ldMcR (by omega) rfl (cx.u 0 rfl) (cx.rn 0 rfl)) rfl rfl) <|
   hk (fun cx=>cx.q (ex_mv rfl (cx.rq 1 s1_13))) <|
   hc (fun _ _ wx cx=>cx.c rfl (args2 (cx.u 0 rfl) (cx.u 1 rfl)) Tryd.func17 (by decide +kernel) (((cut_any (m.r b.toNat) w wx).mono (by rintro e w' ⟨rfl,rfl⟩;exact ⟨rfl,Below.refl _ _⟩))) rfl rfl) <|
   kmu 0 <|
   hn) ?_
  intro a7 w7 f7
  refine wp_seq ?_
  refine wp_seq ?_
  cases fk2:(cutI (m.r b.toNat) w) == 0
  case false=>
   have Ffk2:=Lib.hid fk2;clear fk2
   have h0:=Ffk2.out
   cases fk3:(cutI (m.r 2) w) != 0
   case false=>
    have Ffk3:=Lib.hid fk3;clear fk3
    have h1:=Ffk3.out
    have OKD:=dv_ok hm h0 h1
    have b_g1_14:=f7.k b_g1_10
    have s3_15:=f7.q 3 s3_12
    have s1_16:=f7.q 1 s1_13
    refine go_reg [bx g1 36 (mcC m)] [] [some (.int .u64 (cutI (m.r b.toNat) w)),oF,oF,some (pt g1 0),some (pt g1 (2)),some (.int .u64 (m.r 2)),some (.int .i8 w),some (.int .u64 (cutI (m.r 2) w)),oF,oF] mo f7.d f7.z f7.b (by kernel_rfl) ⟨b_g1_14,trivial⟩ (
     hk (fun cx=>cx.q (ex_mv rfl (cx.rq 10 (f7.v 6 rfl rfl rfl)))) <|
     hk (fun cx=>cx.v (ex_eq (x:=.tmp 38) rfl (cx.u 0 rfl) rfl) rfl (congrArg Value.bool Ffk2.out)) <|
     kmu 0 <|
     hk (fun cx=>cx.vy 0 (ex_fa rfl (cx.rq 3 s3_15) (faExecDivW36_0_0 _ _))) <|
     hk (fun cx=>cx.vy 1 (ex_ia (n:=16) (sz:=1) rfl (cx.u 0 rfl) rfl Tryd.underlying32 (by kernel_rfl) (by omega) (by omega) (by omega)) rfl) <|
     hk (fun cx=>cx.vy 1 (ldMcR (by omega) rfl (cx.u 0 rfl) (cx.rn 0 rfl)) rfl) <|
     hk (fun cx=>cx.vy 0 (ex_mv rfl (cx.rq 1 s1_16))) <|
     hc (fun _ _ wx cx=>cx.call (cx.wy rfl rfl rfl rfl (cx.u 2 rfl)) rfl rfl (args2 (cx.u 0 rfl) (cx.u 1 rfl)) Tryd.func17 (by decide +kernel) rfl (((cut_any (m.r 2) w wx).mono (by rintro e w' ⟨rfl,rfl⟩;exact ⟨rfl,Below.refl _ _⟩))) rfl rfl rfl rfl) <|
     hk (fun cx=>cx.vy 1 (ex_ne (x:=.tmp 45) rfl (cx.u 0 rfl) rfl) (congrArg Value.bool Ffk3.out)) <|
     hk (fun cx=>cx.q (ex_pf rfl (cx.u 0 rfl) (cx.u 1 rfl))) <|
     hn) ?_
    intro a8 w8 f8
    refine wp_cond_false (f8.v 9 rfl rfl rfl) ?_
    refine wp_skip ?_
    refine wp_seq ?_
    have b_g1_17:=f8.k b_g1_14
    have s1_18:=f8.q 1 s1_16
    have s3_19:=f8.q 3 s3_15
    have s10_20:=f8.q 10 (f7.v 6 rfl rfl rfl)
    refine go_reg [bx g1 36 (mcC m)] [] [some (.int .i8 w),some (pt g1 0),some (pt g1 (0)),some (.int .u64 (m.r 0)),some (.int .u64 (cutI (m.r b.toNat) w)),some (.tuple #[.int .u64 (doI 3 w (m.r 0) (cutI (m.r b.toNat) w)),.int .i64 (doE 3 w)]),some (.tuple #[.int .u64 (doI 3 w (m.r 0) (cutI (m.r b.toNat) w)),.int .i64 (doE 3 w)]),some (.int .u64 (doI 3 w (m.r 0) (cutI (m.r b.toNat) w))),some (.int .i64 (doE 3 w)),some (.int .u64 (doI 3 w (m.r 0) (cutI (m.r b.toNat) w))),some (.int .i64 (doE 3 w))] mo f8.d f8.z f8.b (by kernel_rfl) ⟨b_g1_17,trivial⟩ (
     hk (fun cx=>cx.q (ex_mv rfl (cx.rq 1 s1_18))) <|
     hk (fun cx=>cx.q (ex_fa rfl (cx.rq 3 s3_19) (faExecDivW36_0_0 _ _))) <|
     hk (fun cx=>cx.v (ex_ia (n:=16) (sz:=1) rfl (cx.u 0 rfl) rfl Tryd.underlying32 (by kernel_rfl) (by omega) (by omega) (by omega)) rfl rfl) <|
     hk (fun cx=>cx.v (ldMcR (by omega) rfl (cx.u 0 rfl) (cx.rn 0 rfl)) rfl rfl) <|
     hk (fun cx=>cx.q (ex_mv rfl (cx.rq 10 s10_20))) <|
     hc (fun _ _ wx cx=>cx.c rfl (args4 rfl (cx.u 0 rfl) (cx.u 1 rfl) (cx.u 2 rfl)) Tryd.func18 (by decide +kernel) (do_any 3 w (m.r 0) (cutI (m.r b.toNat) w) wx (hM.r 0).1 (hM.r 0).2 ((hM.r b.toNat).cut w).1 ((hM.r b.toNat).cut w).2) rfl rfl) <|
     kmu 0 <|
     hk (fun cx=>cx.q (ex_ext (x:=.tmp 53) rfl (cx.u 0 rfl) rfl)) <|
     hk (fun cx=>cx.q (ex_ext (x:=.tmp 53) rfl (cx.u 0 rfl) rfl)) <|
     kmu 0 <|
     kmu 0 <|
     hn) ?_
    intro a9 w9 f9
    refine wp_seq ?_
    have b_g1_21:=f9.k b_g1_17
    have s1_22:=f9.q 1 s1_18
    have s3_23:=f9.q 3 s3_19
    have s10_24:=f9.q 10 s10_20
    refine go_reg [bx g1 36 (mcC m)] [] [some (.int .i8 w),some (pt g1 0),some (pt g1 (0)),some (.int .u64 (m.r 0)),some (.int .u64 (cutI (m.r b.toNat) w)),some (.tuple #[.int .u64 (doI 9 w (m.r 0) (cutI (m.r b.toNat) w)),.int .i64 (doE 9 w)]),some (.tuple #[.int .u64 (doI 9 w (m.r 0) (cutI (m.r b.toNat) w)),.int .i64 (doE 9 w)]),some (.int .u64 (doI 9 w (m.r 0) (cutI (m.r b.toNat) w))),some (.int .i64 (doE 9 w)),some (.int .u64 (doI 9 w (m.r 0) (cutI (m.r b.toNat) w))),some (.int .i64 (doE 9 w))] mo f9.d f9.z f9.b (by kernel_rfl) ⟨b_g1_21,trivial⟩ (
     hk (fun cx=>cx.q (ex_mv rfl (cx.rq 1 s1_22))) <|
     hk (fun cx=>cx.q (ex_fa rfl (cx.rq 3 s3_23) (faExecDivW36_0_0 _ _))) <|
     hk (fun cx=>cx.v (ex_ia (n:=16) (sz:=1) rfl (cx.u 0 rfl) rfl Tryd.underlying32 (by kernel_rfl) (by omega) (by omega) (by omega)) rfl rfl) <|
     hk (fun cx=>cx.v (ldMcR (by omega) rfl (cx.u 0 rfl) (cx.rn 0 rfl)) rfl rfl) <|
     hk (fun cx=>cx.q (ex_mv rfl (cx.rq 10 s10_24))) <|
     hc (fun _ _ wx cx=>cx.c rfl (args4 rfl (cx.u 0 rfl) (cx.u 1 rfl) (cx.u 2 rfl)) Tryd.func18 (by decide +kernel) (do_any 9 w (m.r 0) (cutI (m.r b.toNat) w) wx (hM.r 0).1 (hM.r 0).2 ((hM.r b.toNat).cut w).1 ((hM.r b.toNat).cut w).2) rfl rfl) <|
     kmu 0 <|
     hk (fun cx=>cx.q (ex_ext (x:=.tmp 62) rfl (cx.u 0 rfl) rfl)) <|
     hk (fun cx=>cx.q (ex_ext (x:=.tmp 62) rfl (cx.u 0 rfl) rfl)) <|
     kmu 0 <|
     kmu 0 <|
     hn) ?_
    intro a10 w10 f10
    refine wp_seq ?_
    have b_g3_25:=f10.k (f9.k (f8.k (f7.k (f6.k b_g3))))
    have s9_26:=f10.q 9 (f9.q 9 (f8.q 9 (f7.q 9 (f6.q 9 (f3.v 8 rfl rfl rfl)))))
    have s8_27:=f10.q 8 (f9.q 8 (f8.q 8 (f7.q 8 (f6.q 8 u_g3))))
    have s11_28:=f10.q 11 (f9.v 9 rfl rfl rfl)
    refine go_reg [bx g3 36 (mcC (doX m ⟨24,w,b,0,0,0,0,0⟩ 0))] [] (tabs [some (.int .i64 (doXe m ⟨24,w,b,0,0,0,0,0⟩ 0)),oT,oT,some (pt g3 0),some (pt g3 (0)),some (.int .u64 ((doX m ⟨24,w,b,0,0,0,0,0⟩ 0).r 0)),some (.int .u64 (doI 3 w (m.r 0) (cutI (m.r b.toNat) w))),oT,oT,oT,some (pt g3 0),some (pt g3 (2)),some (.int .u64 ((doX m ⟨24,w,b,0,0,0,0,0⟩ 0).r 2)),some (.int .u64 (doI 9 w (m.r 0) (cutI (m.r b.toNat) w))),oT,oT,oT,some (pt g3 16),some (pt g3 16),oF] [oT,oT,oT,oT,oT,oT]) mo f10.d f10.z f10.b (by kernel_rfl) ⟨b_g3_25,trivial⟩ (
     hk (fun cx=>cx.q (ex_mv rfl (cx.rq 9 s9_26))) <|
     hk (fun cx=>cx.v (ex_eq (x:=.tmp 71) rfl (cx.u 0 rfl) rfl) rfl (congrArg Value.bool (by rw [OKD.1];rfl))) <|
     kmu 0 <|
     hk (fun cx=>cx.vy 0 (ex_fa rfl (cx.rq 8 s8_27) (faExecDivW36_0_0 _ _))) <|
     hk (fun cx=>cx.vy 1 (ex_ia (n:=16) (sz:=1) rfl (cx.u 0 rfl) rfl Tryd.underlying32 (by kernel_rfl) (by omega) (by omega) (by omega)) rfl) <|
     hk (fun cx=>cx.vy 1 (ldMcR (by omega) rfl (cx.u 0 rfl) (cx.rn 0 rfl)) rfl) <|
     hk (fun cx=>cx.vy 0 (ex_mv rfl (cx.rq 11 s11_28))) <|
     hk (fun cx=>cx.vy 2 (ex_eq (x:=.tmp 76) (y:=.tmp 77) rfl (cx.u 0 rfl) (cx.u 1 rfl)) (congrArg Value.bool (by rw [OKD.2,do_cut];exact beq_self_eq_true _))) <|
     hk (fun cx=>cx.q (ex_pt rfl (cx.u 0 rfl) (cx.u 1 rfl))) <|
     kmu 0 <|
     hk (fun cx=>cx.vy 0 (ex_fa rfl (cx.rq 8 s8_27) (faExecDivW36_0_0 _ _))) <|
     hk (fun cx=>cx.vy 1 (ex_ia (n:=16) (sz:=1) rfl (cx.u 0 rfl) rfl Tryd.underlying32 (by kernel_rfl) (by omega) (by omega) (by omega)) rfl) <|
     hk (fun cx=>cx.vy 1 (ldMcR (by omega) rfl (cx.u 0 rfl) (cx.rn 0 rfl)) rfl) <|
     hk (fun cx=>cx.vy 0 (ex_mv rfl (cx.rq 13 (f10.v 9 rfl rfl rfl)))) <|
     hk (fun cx=>cx.vy 2 (ex_eq (x:=.tmp 83) (y:=.tmp 84) rfl (cx.u 0 rfl) (cx.u 1 rfl)) (congrArg Value.bool (by rw [OKD.2,do_cut];exact beq_self_eq_true _))) <|
     hk (fun cx=>cx.q (ex_pt rfl (cx.u 0 rfl) (cx.u 1 rfl))) <|
     kmu 0 <|
     hk (fun cx=>cx.vy 0 (ex_fa rfl (cx.rq 8 s8_27) (faExecDivW36_1_0 _ _))) <|
     hk (fun cx=>cx.vy 1 (ex_fa rfl (cx.u 0 rfl) (faExecDivW34_0_16 _ _))) <|
     hk (fun cx=>cx.vy 1 (ex_ld rfl (cx.u 0 rfl) (cx.rn 0 rfl) rfl Tryd.isAgg4) (congrArg Value.bool (by rw [OKD.2];rfl))) <|
     hk (fun cx=>cx.vy 1 (ex_not (x:=.tmp 90) rfl (cx.u 0 rfl))) <|
     hk (fun cx=>cx.q (ex_pt rfl (cx.u 0 rfl) (cx.u 1 rfl))) <|
     kmu 0 <|
     hc (fun _ _ wx cx=>cx.call (cx.wy rfl rfl rfl rfl (cx.u 0 rfl)) rfl rfl (args0 ) Tryd.func12 (by decide +kernel) rfl (wakes_n wx (hT.below cx.S.1.1 (Nat.le_refl _))) rfl rfl rfl rfl) <|
     hk (fun cx=>cx.q (ex_pt rfl (cx.u 0 rfl) (cx.u 1 rfl))) <|
     kmu 0 <|
     hn) ?_
    intro a11 w11 f11
    refine wp_ret ?_
    try simp only [Exit.inBlock,Exit.then]
    refine bodyPost_ret (res_t (fn:=Tryd.f6) rfl (f11.v 25 rfl rfl rfl)) f11.d ?_
    exact ⟨rfl,f11.b⟩
   have Ffk3:=Lib.hid fk3;clear fk3
   have h1:=Ffk3.out
   have b_g1_29:=f7.k b_g1_10
   have s3_30:=f7.q 3 s3_12
   have s1_31:=f7.q 1 s1_13
   refine go_reg [bx g1 36 (mcC m)] [] [some (.int .u64 (cutI (m.r b.toNat) w)),oF,oF,some (pt g1 0),some (pt g1 (2)),some (.int .u64 (m.r 2)),some (.int .i8 w),some (.int .u64 (cutI (m.r 2) w)),oT,oT] mo f7.d f7.z f7.b (by kernel_rfl) ⟨b_g1_29,trivial⟩ (
    hk (fun cx=>cx.q (ex_mv rfl (cx.rq 10 (f7.v 6 rfl rfl rfl)))) <|
    hk (fun cx=>cx.v (ex_eq (x:=.tmp 38) rfl (cx.u 0 rfl) rfl) rfl (congrArg Value.bool Ffk2.out)) <|
    kmu 0 <|
    hk (fun cx=>cx.vy 0 (ex_fa rfl (cx.rq 3 s3_30) (faExecDivW36_0_0 _ _))) <|
    hk (fun cx=>cx.vy 1 (ex_ia (n:=16) (sz:=1) rfl (cx.u 0 rfl) rfl Tryd.underlying32 (by kernel_rfl) (by omega) (by omega) (by omega)) rfl) <|
    hk (fun cx=>cx.vy 1 (ldMcR (by omega) rfl (cx.u 0 rfl) (cx.rn 0 rfl)) rfl) <|
    hk (fun cx=>cx.vy 0 (ex_mv rfl (cx.rq 1 s1_31))) <|
    hc (fun _ _ wx cx=>cx.call (cx.wy rfl rfl rfl rfl (cx.u 2 rfl)) rfl rfl (args2 (cx.u 0 rfl) (cx.u 1 rfl)) Tryd.func17 (by decide +kernel) rfl (((cut_any (m.r 2) w wx).mono (by rintro e w' ⟨rfl,rfl⟩;exact ⟨rfl,Below.refl _ _⟩))) rfl rfl rfl rfl) <|
    hk (fun cx=>cx.vy 1 (ex_ne (x:=.tmp 45) rfl (cx.u 0 rfl) rfl) (congrArg Value.bool Ffk3.out)) <|
    hk (fun cx=>cx.q (ex_pf rfl (cx.u 0 rfl) (cx.u 1 rfl))) <|
    hn) ?_
   intro a12 w12 f12
   refine wp_cond_true (f12.v 9 rfl rfl rfl) ?_
   refine wp_seq ?_
   have s9_32:=f12.q 9 (f7.q 9 (f6.q 9 (f3.v 8 rfl rfl rfl)))
   refine go_reg [] [] [some (.int .i64 (doXe m ⟨24,w,b,0,0,0,0,0⟩ 0)),oT,oT,oT,oT,oT] mo f12.d f12.z f12.b (by kernel_rfl) trivial (
    hk (fun cx=>cx.q (ex_mv rfl (cx.rq 9 s9_32))) <|
    hk (fun cx=>cx.v (ex_eq (x:=.tmp 48) rfl (cx.u 0 rfl) rfl) rfl (congrArg Value.bool (dv_high hm h1))) <|
    kmu 0 <|
    hc (fun _ _ wx cx=>cx.call (cx.wy rfl rfl rfl rfl (cx.u 0 rfl)) rfl rfl (args0 ) Tryd.func12 (by decide +kernel) rfl (wakes_n wx (hT.below cx.S.1.1 (Nat.le_refl _))) rfl rfl rfl rfl) <|
    hk (fun cx=>cx.q (ex_pt rfl (cx.u 0 rfl) (cx.u 1 rfl))) <|
    kmu 0 <|
    hn) ?_
   intro a13 w13 f13
   refine wp_ret ?_
   try simp only [Exit.inBlock,Exit.then]
   refine bodyPost_ret (res_t (fn:=Tryd.f6) rfl (f13.v 5 rfl rfl rfl)) f13.d ?_
   exact ⟨rfl,f13.b⟩
  have Ffk2:=Lib.hid fk2;clear fk2
  have h0:=Ffk2.out
  refine go_reg [] [] [some (.int .u64 (cutI (m.r b.toNat) w)),oT,oT,oU,oU,oU,oU,oU,oU,oT] mo f7.d f7.z f7.b (by kernel_rfl) trivial (
   hk (fun cx=>cx.q (ex_mv rfl (cx.rq 10 (f7.v 6 rfl rfl rfl)))) <|
   hk (fun cx=>cx.v (ex_eq (x:=.tmp 38) rfl (cx.u 0 rfl) rfl) rfl (congrArg Value.bool Ffk2.out)) <|
   kmu 0 <|
   kno 0 <|
   kno 1 <|
   kno 1 <|
   kno 0 <|
   kno 2 <|
   kno 1 <|
   hk (fun cx=>cx.q (ex_pt rfl (cx.u 0 rfl) rfl)) <|
   hn) ?_
  intro a14 w14 f14
  refine wp_cond_true (f14.v 9 rfl rfl rfl) ?_
  refine wp_seq ?_
  have s9_33:=f14.q 9 (f7.q 9 (f6.q 9 (f3.v 8 rfl rfl rfl)))
  refine go_reg [] [] [some (.int .i64 (doXe m ⟨24,w,b,0,0,0,0,0⟩ 0)),oT,oT,oT,oT,oT] mo f14.d f14.z f14.b (by kernel_rfl) trivial (
   hk (fun cx=>cx.q (ex_mv rfl (cx.rq 9 s9_33))) <|
   hk (fun cx=>cx.v (ex_eq (x:=.tmp 48) rfl (cx.u 0 rfl) rfl) rfl (congrArg Value.bool (dv_zero hm h0))) <|
   kmu 0 <|
   hc (fun _ _ wx cx=>cx.call (cx.wy rfl rfl rfl rfl (cx.u 0 rfl)) rfl rfl (args0 ) Tryd.func12 (by decide +kernel) rfl (wakes_n wx (hT.below cx.S.1.1 (Nat.le_refl _))) rfl rfl rfl rfl) <|
   hk (fun cx=>cx.q (ex_pt rfl (cx.u 0 rfl) (cx.u 1 rfl))) <|
   kmu 0 <|
   hn) ?_
  intro a15 w15 f15
  refine wp_ret ?_
  try simp only [Exit.inBlock,Exit.then]
  refine bodyPost_ret (res_t (fn:=Tryd.f6) rfl (f15.v 5 rfl rfl rfl)) f15.d ?_
  exact ⟨rfl,f15.b⟩
theorem div_law (m:Mc) (w b:Int) (W:World) (hM:MOk m) (h1:(Lit.int .i8 w).wf=true) (h2:(Lit.int .i8 b).wf=true) (hT:Mrm.Tabs W):Calls Tryd.prog 6 #[.agg (mcC m),.int .i8 w,.int .i8 b] W fun e w'=>e=.returned (.bool true) ∧ Below W.heap.size W w':=
  div_n m w b W hT hM (bd_i8 h1) (bd_i8 h2)
end Go.Proofs.YtoghjpliemidkaaDoor.Exe
