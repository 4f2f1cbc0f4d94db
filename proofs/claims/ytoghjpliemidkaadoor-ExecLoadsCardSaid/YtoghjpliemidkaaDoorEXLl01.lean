import Derived.Test.YtoghjpliemidkaaDoorEXm36
set_option linter.unusedVariables false
set_option linter.unusedSimpArgs false
set_option linter.unnecessarySimpa false
namespace Go.Proofs.YtoghjpliemidkaaDoor.Exe
open Go Go.RowKit
open Mrm (Xi xC zX mayX bytesX)
open Flg (Fl fC zF addF subF ofF holF holE mayC parts5 ex_beq ex_bne)
set_option linter.unusedVariables false
set_option linter.unusedSimpArgs false
set_option linter.unnecessarySimpa false
set_option maxRecDepth 100000
theorem faExecLoadsW36_0_0 (g:Nat) (w:World):(Instr.fieldAt 36 (.pointer (some ⟨g,0,none⟩)) 0).run Tryd.prog w=.ok (.pointer (some ⟨g,0,none⟩)) w:=by simp [go_sem]
theorem faExecLoadsW36_1_0 (g:Nat) (w:World):(Instr.fieldAt 36 (.pointer (some ⟨g,0,none⟩)) 1).run Tryd.prog w=.ok (.pointer (some ⟨g,16,none⟩)) w:=by simp [go_sem]
abbrev pX (w src base disp:Int):Xi:=⟨27,w,0,src,base,disp,0,0⟩
abbrev gX (w dst base disp:Int):Xi:=⟨26,w,dst,0,base,disp,0,0⟩
section
variable {m:Mc} {w src dst base disp l:Int}
theorem has27:hasX ⟨27,w,0,src,base,disp,0,0⟩=mayX ⟨27,w,0,src,base,disp,0,0⟩:=by show (mayX _ && _)=_;rw [show (((pX w src base disp).op == 26 || (pX w src base disp).op == 27) || (pX w src base disp).op == 30)=true from rfl,Bool.and_true]
theorem has26:hasX ⟨26,w,dst,0,base,disp,0,0⟩=mayX ⟨26,w,dst,0,base,disp,0,0⟩:=by show (mayX _ && _)=_;rw [show (((gX w dst base disp).op == 26 || (gX w dst base disp).op == 27) || (gX w dst base disp).op == 30)=true from rfl,Bool.and_true]
theorem adr27 (h:mayX ⟨27,w,0,src,base,disp,0,0⟩=true):adrX m ⟨27,w,0,src,base,disp,0,0⟩=IntKind.u64.wrap ((m.r base.toNat) + (IntKind.u64.wrap disp)):=(if_pos h).trans (if_pos (.inr rfl))
theorem adr26 (h:mayX ⟨26,w,dst,0,base,disp,0,0⟩=true):adrX m ⟨26,w,dst,0,base,disp,0,0⟩=IntKind.u64.wrap ((m.r base.toNat) + (IntKind.u64.wrap disp)):=(if_pos h).trans (if_pos (.inl rfl))
theorem siz27 (h:mayX ⟨27,w,0,src,base,disp,0,0⟩=true):sizX ⟨27,w,0,src,base,disp,0,0⟩=w / 8:=(if_pos h).trans (if_pos (.inr rfl))
theorem siz26 (h:mayX ⟨26,w,dst,0,base,disp,0,0⟩=true):sizX ⟨26,w,dst,0,base,disp,0,0⟩=w / 8:=(if_pos h).trans (if_pos (.inl rfl))
theorem sto27 (h:mayX ⟨27,w,0,src,base,disp,0,0⟩=true):stoX m ⟨27,w,0,src,base,disp,0,0⟩=cutI (m.r src.toNat) w:=if_pos ⟨h,rfl⟩
theorem cut_twice (v w:Int):cutI (cutI v w) w=cutI v w:=by
  unfold cutI
  (repeat' split) <;> omega
theorem goE {x:Xi} {m':Mc} (h:mayX x=true) (E:goX m x l=some m'):doX m x l=m' ∧ doXe m x l=0:=by
  unfold doX doXe
  rw [if_pos h,if_pos h,E]
  exact ⟨rfl,rfl⟩
theorem go27:goX m ⟨27,w,0,src,base,disp,0,0⟩ l=some (m.upA (IntKind.u64.wrap (m.a + IntKind.u64.wrap (lenX ⟨27,w,0,src,base,disp,0,0⟩)))):=eff_27 _ _ rfl
theorem go26:goX m ⟨26,w,dst,0,base,disp,0,0⟩ l=some ((m.upA (IntKind.u64.wrap (m.a + IntKind.u64.wrap (lenX ⟨26,w,dst,0,base,disp,0,0⟩)))).setR dst.toNat (cutI l w)):=eff_26 _ _ rfl
theorem do26 (h:mayX ⟨26,w,dst,0,base,disp,0,0⟩=true):(doX m ⟨26,w,dst,0,base,disp,0,0⟩ (cutI (m.r src.toNat) w)).r dst.toNat=cutI (m.r src.toNat) w:=by
  rw [(goE h go26).1]
  exact (setR_self _ _ _).trans (cut_twice _ _)
theorem regs27 (h:mayX ⟨27,w,0,src,base,disp,0,0⟩=true):∀ j,j < 16 → (doX m ⟨27,w,0,src,base,disp,0,0⟩ 0).r j=m.r j:=by
  rw [(goE h go27).1]
  exact fun _ _=>rfl
theorem flags27 (h:mayX ⟨27,w,0,src,base,disp,0,0⟩=true):Flg.eqF ((doX m ⟨27,w,0,src,base,disp,0,0⟩ 0).f) m.f=true:=by
  rw [(goE h go27).1]
  exact Flg.eqF_self _
theorem wid27 (h:mayX ⟨27,w,0,src,base,disp,0,0⟩=true):IntKind.i64.wrap (8 * (w / 8))=w:=by
  have c:Mrm.widB w=true:=by
    unfold mayX at h
    simp only [Bool.and_eq_true] at h
    exact h.2.2.2.2.2.2.2
  unfold Mrm.widB at c
  simp only [Bool.or_eq_true,beq_iff_eq] at c
  rw [IntKind.wrap_i64]
  omega
end
set_option maxHeartbeats 4000000 in
theorem loads_n (m:Mc) (w src dst base disp:Int) (W:World) (hT:Mrm.Tabs W) (hM:MOk m) (hw:-128 ≤ w ∧ w < 128) (hsrc:-128 ≤ src ∧ src < 128) (hdst:-128 ≤ dst ∧ dst < 128) (hbase:-128 ≤ base ∧ base < 128) (hdisp:-9223372036854775808 ≤ disp ∧ disp ≤ 9223372036854775807):Calls Tryd.prog 7 #[.agg (mcC m),.int .i8 w,.int .i8 src,.int .i8 dst,.int .i8 base,.int .i64 disp] W fun e w'=>e=.returned (.bool true) ∧ Below W.heap.size W w':=by
  refine calls_abs Tryd.func7 rfl (Nat.le_of_ble_eq_true rfl) ?_
  intro a0 d0 z0 h0
  replace z0:a0.tmps.size=154:=z0
  have s0_0:a0.tmps.getD 0 undef=.agg (mcC m):=h0 0 (Nat.le_of_ble_eq_true rfl)
  have s1_0:a0.tmps.getD 1 undef=.int .i8 w:=h0 1 (Nat.le_of_ble_eq_true rfl)
  have s2_0:a0.tmps.getD 2 undef=.int .i8 src:=h0 2 (Nat.le_of_ble_eq_true rfl)
  have s3_0:a0.tmps.getD 3 undef=.int .i8 dst:=h0 3 (Nat.le_of_ble_eq_true rfl)
  have s4_0:a0.tmps.getD 4 undef=.int .i8 base:=h0 4 (Nat.le_of_ble_eq_true rfl)
  have s5_0:a0.tmps.getD 5 undef=.int .i64 disp:=h0 5 (Nat.le_of_ble_eq_true rfl)
  refine wp_seq ?_
  refine go_reg [] [⟨0,6,36,(mcC m),none,#[]⟩] [none,oF] mo d0 z0 (Below.refl _ _) (by kernel_rfl) trivial (
   hk (fun cx=>cx.al (wn rfl) 0 rfl (ex_box rfl (cx.rq 0 s0_0) rfl) rfl rfl rfl rfl rfl trivial) <|
   hk (fun cx=>cx.q (ex_as rfl rfl)) <|
   hn) ?_
  intro a1 w1 f1
  obtain ⟨g1,u_g1,q_g1,b_g1⟩:=f1.al.1
  refine wp_seq ?_
  have s1_1:=f1.q 1 s1_0
  have s2_2:=f1.q 2 s2_0
  have s4_3:=f1.q 4 s4_0
  have s5_4:=f1.q 5 s5_0
  refine go_reg [] [⟨5,13,26,(xC zX),some 6,(xC ⟨27,w,0,src,base,disp,0,0⟩)⟩] [some (.int .i8 w),some (.int .i8 src),some (.int .i8 base),some (.int .i64 disp),some (.agg (xC ⟨27,w,0,src,base,disp,0,0⟩)),none,none] mo f1.d f1.z f1.b (by kernel_rfl) trivial (
   hk (fun cx=>cx.q (ex_mv rfl (cx.rq 1 s1_1))) <|
   hk (fun cx=>cx.q (ex_mv rfl (cx.rq 2 s2_2))) <|
   hk (fun cx=>cx.q (ex_mv rfl (cx.rq 4 s4_3))) <|
   hk (fun cx=>cx.q (ex_mv rfl (cx.rq 5 s5_4))) <|
   hk (fun cx=>cx.q (exec_build rfl (parts5 rfl (cx.u 0 rfl) (cx.u 1 rfl) (cx.u 2 rfl) (cx.u 3 rfl)) (by kernel_rfl))) <|
   hk (fun cx=>cx.al (wn rfl) 0 rfl (Mrm.al_x rfl) rfl rfl rfl rfl (by kernel_rfl) trivial) <|
   hk (fun cx=>cx.stA (wn rfl) rfl rfl 0 0 rfl rfl rfl rfl (cx.u 1 rfl) (by kernel_rfl) (Eq.refl 8) (by simp [Value.oneCell']) f1.b.size rfl rfl trivial) <|
   hn) ?_
  intro a2 w2 f2
  obtain ⟨g2,u_g2,q_g2,b_g2⟩:=f2.al.1
  refine wp_seq ?_
  have s1_5:=f2.q 1 s1_1
  have s3_6:=f2.q 3 (f1.q 3 s3_0)
  have s4_7:=f2.q 4 s4_3
  have s5_8:=f2.q 5 s5_4
  refine go_reg [] [⟨5,14,26,(xC zX),some 6,(xC ⟨26,w,dst,0,base,disp,0,0⟩)⟩] [some (.int .i8 w),some (.int .i8 dst),some (.int .i8 base),some (.int .i64 disp),some (.agg (xC ⟨26,w,dst,0,base,disp,0,0⟩)),none,none] mo f2.d f2.z f2.b (by kernel_rfl) trivial (
   hk (fun cx=>cx.q (ex_mv rfl (cx.rq 1 s1_5))) <|
   hk (fun cx=>cx.q (ex_mv rfl (cx.rq 3 s3_6))) <|
   hk (fun cx=>cx.q (ex_mv rfl (cx.rq 4 s4_7))) <|
   hk (fun cx=>cx.q (ex_mv rfl (cx.rq 5 s5_8))) <|
   hk (fun cx=>cx.q (exec_build rfl (parts5 rfl (cx.u 0 rfl) (cx.u 1 rfl) (cx.u 2 rfl) (cx.u 3 rfl)) (by kernel_rfl))) <|
   hk (fun cx=>cx.al (wn rfl) 0 rfl (Mrm.al_x rfl) rfl rfl rfl rfl (by kernel_rfl) trivial) <|
   hk (fun cx=>cx.stA (wn rfl) rfl rfl 0 0 rfl rfl rfl rfl (cx.u 1 rfl) (by kernel_rfl) (Eq.refl 8) (by simp [Value.oneCell']) f2.b.size rfl rfl trivial) <|
   hn) ?_
  intro a3 w3 f3
  obtain ⟨g3,u_g3,q_g3,b_g3⟩:=f3.al.1
  refine wp_seq ?_
  cases fk1:hasX ⟨27,w,0,src,base,disp,0,0⟩
  case false=>
   have Ffk1:=Lib.hid fk1;clear fk1
   have hmP:mayX ⟨27,w,0,src,base,disp,0,0⟩=false:=has27.symm.trans Ffk1.out
   have b_g1_9:=f3.k (f2.k b_g1)
   have b_g2_10:=f3.k b_g2
   have s6_11:=f3.q 6 (f2.q 6 u_g1)
   have s13_12:=f3.q 13 u_g2
   refine go_reg [bx g1 36 (mcC m),bx g2 26 (xC ⟨27,w,0,src,base,disp,0,0⟩)] [] [some (.agg (mcC m)),some (.agg (xC ⟨27,w,0,src,base,disp,0,0⟩)),some (.tuple #[.int .u64 (adrX m ⟨27,w,0,src,base,disp,0,0⟩),.int .i64 (sizX ⟨27,w,0,src,base,disp,0,0⟩),.bool (hasX ⟨27,w,0,src,base,disp,0,0⟩)]),some (.tuple #[.int .u64 (adrX m ⟨27,w,0,src,base,disp,0,0⟩),.int .i64 (sizX ⟨27,w,0,src,base,disp,0,0⟩),.bool (hasX ⟨27,w,0,src,base,disp,0,0⟩)]),some (.int .u64 (adrX m ⟨27,w,0,src,base,disp,0,0⟩)),some (.int .i64 (sizX ⟨27,w,0,src,base,disp,0,0⟩)),oF,some (.int .u64 (adrX m ⟨27,w,0,src,base,disp,0,0⟩)),some (.int .i64 (sizX ⟨27,w,0,src,base,disp,0,0⟩)),oF] mo f3.d f3.z f3.b (by kernel_rfl) ⟨b_g1_9,b_g2_10,trivial⟩ (
    hk (fun cx=>cx.q (ldMc rfl (cx.rq 6 s6_11) (cx.rn 0 rfl))) <|
    hk (fun cx=>cx.q (Mrm.ldX rfl (cx.rq 13 s13_12) (cx.rn 1 rfl))) <|
    hc (fun _ _ wx cx=>cx.c rfl (args2 (cx.u 0 rfl) (cx.u 1 rfl)) Tryd.func19 (by decide +kernel) (address_n m ⟨27,w,0,src,base,disp,0,0⟩ wx (hT.below cx.S.1.1 (Nat.le_refl _)) (xok ⟨by decide,by decide⟩ hw ⟨by decide,by decide⟩ hsrc hbase hdisp ⟨by decide,by decide⟩ ⟨by decide,by decide⟩) hM) rfl rfl) <|
    kmu 0 <|
    hk (fun cx=>cx.q (ex_ext (x:=.tmp 36) rfl (cx.u 0 rfl) rfl)) <|
    hk (fun cx=>cx.q (ex_ext (x:=.tmp 36) rfl (cx.u 0 rfl) rfl)) <|
    hk (fun cx=>cx.v (ex_ext (x:=.tmp 36) rfl (cx.u 0 rfl) rfl) rfl (congrArg Value.bool Ffk1.out)) <|
    kmu 0 <|
    kmu 0 <|
    kmu 0 <|
    hn) ?_
   intro a4 w4 f4
   refine wp_seq ?_
   cases fk2:hasX ⟨26,w,dst,0,base,disp,0,0⟩
   case false=>
    have Ffk2:=Lib.hid fk2;clear fk2
    have hmG:mayX ⟨26,w,dst,0,base,disp,0,0⟩=false:=has26.symm.trans Ffk2.out
    have b_g1_13:=f4.k b_g1_9
    have b_g3_14:=f4.k b_g3
    have s6_15:=f4.q 6 s6_11
    have s14_16:=f4.q 14 u_g3
    refine go_reg [bx g1 36 (mcC m),bx g3 26 (xC ⟨26,w,dst,0,base,disp,0,0⟩)] [] [some (.agg (mcC m)),some (.agg (xC ⟨26,w,dst,0,base,disp,0,0⟩)),some (.tuple #[.int .u64 (adrX m ⟨26,w,dst,0,base,disp,0,0⟩),.int .i64 (sizX ⟨26,w,dst,0,base,disp,0,0⟩),.bool (hasX ⟨26,w,dst,0,base,disp,0,0⟩)]),some (.tuple #[.int .u64 (adrX m ⟨26,w,dst,0,base,disp,0,0⟩),.int .i64 (sizX ⟨26,w,dst,0,base,disp,0,0⟩),.bool (hasX ⟨26,w,dst,0,base,disp,0,0⟩)]),some (.int .u64 (adrX m ⟨26,w,dst,0,base,disp,0,0⟩)),some (.int .i64 (sizX ⟨26,w,dst,0,base,disp,0,0⟩)),oF,some (.int .u64 (adrX m ⟨26,w,dst,0,base,disp,0,0⟩)),some (.int .i64 (sizX ⟨26,w,dst,0,base,disp,0,0⟩)),oF] mo f4.d f4.z f4.b (by kernel_rfl) ⟨b_g1_13,b_g3_14,trivial⟩ (
     hk (fun cx=>cx.q (ldMc rfl (cx.rq 6 s6_15) (cx.rn 0 rfl))) <|
     hk (fun cx=>cx.q (Mrm.ldX rfl (cx.rq 14 s14_16) (cx.rn 1 rfl))) <|
     hc (fun _ _ wx cx=>cx.c rfl (args2 (cx.u 0 rfl) (cx.u 1 rfl)) Tryd.func19 (by decide +kernel) (address_n m ⟨26,w,dst,0,base,disp,0,0⟩ wx (hT.below cx.S.1.1 (Nat.le_refl _)) (xok ⟨by decide,by decide⟩ hw hdst ⟨by decide,by decide⟩ hbase hdisp ⟨by decide,by decide⟩ ⟨by decide,by decide⟩) hM) rfl rfl) <|
     kmu 0 <|
     hk (fun cx=>cx.q (ex_ext (x:=.tmp 43) rfl (cx.u 0 rfl) rfl)) <|
     hk (fun cx=>cx.q (ex_ext (x:=.tmp 43) rfl (cx.u 0 rfl) rfl)) <|
     hk (fun cx=>cx.v (ex_ext (x:=.tmp 43) rfl (cx.u 0 rfl) rfl) rfl (congrArg Value.bool Ffk2.out)) <|
     kmu 0 <|
     kmu 0 <|
     kmu 0 <|
     hn) ?_
    intro a5 w5 f5
    refine wp_seq ?_
    refine wp_seq ?_
    have s17_17:=f5.q 17 (f4.v 9 rfl rfl rfl)
    refine go_reg [] [] [oF,oT,oT,oU,oU,oT] mo f5.d f5.z f5.b (by kernel_rfl) trivial (
     hk (fun cx=>cx.q (ex_mv rfl (cx.rq 17 s17_17))) <|
     hk (fun cx=>cx.q (ex_not (x:=.tmp 50) rfl (cx.u 0 rfl))) <|
     kmu 0 <|
     kno 0 <|
     kno 1 <|
     hk (fun cx=>cx.q (ex_pt rfl (cx.u 0 rfl) rfl)) <|
     hn) ?_
    intro a6 w6 f6
    refine wp_cond_true (f6.v 5 rfl rfl rfl) ?_
    refine wp_seq ?_
    have b_g2_18:=f6.k (f5.k (f4.k b_g2_10))
    have b_g3_19:=f6.k (f5.k b_g3_14)
    have s17_20:=f6.q 17 s17_17
    have s13_21:=f6.q 13 (f5.q 13 (f4.q 13 s13_12))
    have s20_22:=f6.q 20 (f5.v 9 rfl rfl rfl)
    have s14_23:=f6.q 14 (f5.q 14 s14_16)
    refine go_reg [bx g2 26 (xC ⟨27,w,0,src,base,disp,0,0⟩),bx g3 26 (xC ⟨26,w,dst,0,base,disp,0,0⟩)] [] [oF,some (.agg (xC ⟨27,w,0,src,base,disp,0,0⟩)),oF,oT,oT,oF,some (.agg (xC ⟨26,w,dst,0,base,disp,0,0⟩)),oF,oT,oT,oT,oT,oT,oT] mo f6.d f6.z f6.b (by kernel_rfl) ⟨b_g2_18,b_g3_19,trivial⟩ (
     hk (fun cx=>cx.q (ex_mv rfl (cx.rq 17 s17_20))) <|
     hk (fun cx=>cx.q (Mrm.ldX rfl (cx.rq 13 s13_21) (cx.rn 0 rfl))) <|
     hc (fun _ _ wx cx=>cx.c rfl (args1 (cx.u 0 rfl)) Tryd.func16 (by decide +kernel) (Mrm.may_n ⟨27,w,0,src,base,disp,0,0⟩ (xok ⟨by decide,by decide⟩ hw ⟨by decide,by decide⟩ hsrc hbase hdisp ⟨by decide,by decide⟩ ⟨by decide,by decide⟩) wx (hT.below cx.S.1.1 (Nat.le_refl _))) rfl (congrArg Value.bool hmP)) <|
     hk (fun cx=>cx.q (ex_beq (x:=.tmp 56) (y:=.tmp 58) rfl (cx.u 0 rfl) (cx.u 1 rfl))) <|
     kmu 0 <|
     hk (fun cx=>cx.vy 0 (ex_mv rfl (cx.rq 20 s20_22))) <|
     hk (fun cx=>cx.vy 0 (Mrm.ldX rfl (cx.rq 14 s14_23) (cx.rn 1 rfl))) <|
     hc (fun _ _ wx cx=>cx.call (cx.wy rfl rfl rfl rfl (cx.u 1 rfl)) rfl rfl (args1 (cx.u 0 rfl)) Tryd.func16 (by decide +kernel) rfl (Mrm.may_n ⟨26,w,dst,0,base,disp,0,0⟩ (xok ⟨by decide,by decide⟩ hw hdst ⟨by decide,by decide⟩ hbase hdisp ⟨by decide,by decide⟩ ⟨by decide,by decide⟩) wx (hT.below cx.S.1.1 (Nat.le_refl _))) rfl rfl (congrArg Value.bool hmG) rfl) <|
     hk (fun cx=>cx.vy 2 (ex_beq (x:=.tmp 61) (y:=.tmp 63) rfl (cx.u 0 rfl) (cx.u 1 rfl))) <|
     hk (fun cx=>cx.q (ex_pt rfl (cx.u 0 rfl) (cx.u 1 rfl))) <|
     kmu 0 <|
     hc (fun _ _ wx cx=>cx.call (cx.wy rfl rfl rfl rfl (cx.u 0 rfl)) rfl rfl (args0 ) Tryd.func12 (by decide +kernel) rfl (wakes_n wx (hT.below cx.S.1.1 (Nat.le_refl _))) rfl rfl rfl rfl) <|
     hk (fun cx=>cx.q (ex_pt rfl (cx.u 0 rfl) (cx.u 1 rfl))) <|
     kmu 0 <|
     hn) ?_
    intro a7 w7 f7
    refine wp_ret ?_
    try simp only [Exit.inBlock,Exit.then]
    refine bodyPost_ret (res_t (fn:=Tryd.f7) rfl (f7.v 13 rfl rfl rfl)) f7.d ?_
    exact ⟨rfl,f7.b⟩
   have Ffk2:=Lib.hid fk2;clear fk2
   have hmG:mayX ⟨26,w,dst,0,base,disp,0,0⟩=true:=has26.symm.trans Ffk2.out
   have hds:0 ≤ dst ∧ dst < 16:=(Mrm.may_parts' hmG).2.1
   have b_g1_24:=f4.k b_g1_9
   have b_g3_25:=f4.k b_g3
   have s6_26:=f4.q 6 s6_11
   have s14_27:=f4.q 14 u_g3
   refine go_reg [bx g1 36 (mcC m),bx g3 26 (xC ⟨26,w,dst,0,base,disp,0,0⟩)] [] [some (.agg (mcC m)),some (.agg (xC ⟨26,w,dst,0,base,disp,0,0⟩)),some (.tuple #[.int .u64 (adrX m ⟨26,w,dst,0,base,disp,0,0⟩),.int .i64 (sizX ⟨26,w,dst,0,base,disp,0,0⟩),.bool (hasX ⟨26,w,dst,0,base,disp,0,0⟩)]),some (.tuple #[.int .u64 (adrX m ⟨26,w,dst,0,base,disp,0,0⟩),.int .i64 (sizX ⟨26,w,dst,0,base,disp,0,0⟩),.bool (hasX ⟨26,w,dst,0,base,disp,0,0⟩)]),some (.int .u64 (IntKind.u64.wrap ((m.r base.toNat) + (IntKind.u64.wrap disp)))),some (.int .i64 (w / 8)),oT,some (.int .u64 (IntKind.u64.wrap ((m.r base.toNat) + (IntKind.u64.wrap disp)))),some (.int .i64 (w / 8)),oT] mo f4.d f4.z f4.b (by kernel_rfl) ⟨b_g1_24,b_g3_25,trivial⟩ (
    hk (fun cx=>cx.q (ldMc rfl (cx.rq 6 s6_26) (cx.rn 0 rfl))) <|
    hk (fun cx=>cx.q (Mrm.ldX rfl (cx.rq 14 s14_27) (cx.rn 1 rfl))) <|
    hc (fun _ _ wx cx=>cx.c rfl (args2 (cx.u 0 rfl) (cx.u 1 rfl)) Tryd.func19 (by decide +kernel) (address_n m ⟨26,w,dst,0,base,disp,0,0⟩ wx (hT.below cx.S.1.1 (Nat.le_refl _)) (xok ⟨by decide,by decide⟩ hw hdst ⟨by decide,by decide⟩ hbase hdisp ⟨by decide,by decide⟩ ⟨by decide,by decide⟩) hM) rfl rfl) <|
    kmu 0 <|
    hk (fun cx=>cx.v (ex_ext (x:=.tmp 43) rfl (cx.u 0 rfl) rfl) rfl (congrArg (Value.int .u64) (adr26 hmG))) <|
    hk (fun cx=>cx.v (ex_ext (x:=.tmp 43) rfl (cx.u 0 rfl) rfl) rfl (congrArg (Value.int .i64) (siz26 hmG))) <|
    hk (fun cx=>cx.v (ex_ext (x:=.tmp 43) rfl (cx.u 0 rfl) rfl) rfl (congrArg Value.bool Ffk2.out)) <|
    kmu 0 <|
    kmu 0 <|
    kmu 0 <|
    hn) ?_
   intro a8 w8 f8
   refine wp_seq ?_
   refine wp_seq ?_
   have s17_28:=f8.q 17 (f4.v 9 rfl rfl rfl)
   refine go_reg [] [] [oF,oT,oT,oU,oU,oT] mo f8.d f8.z f8.b (by kernel_rfl) trivial (
    hk (fun cx=>cx.q (ex_mv rfl (cx.rq 17 s17_28))) <|
    hk (fun cx=>cx.q (ex_not (x:=.tmp 50) rfl (cx.u 0 rfl))) <|
    kmu 0 <|
    kno 0 <|
    kno 1 <|
    hk (fun cx=>cx.q (ex_pt rfl (cx.u 0 rfl) rfl)) <|
    hn) ?_
   intro a9 w9 f9
   refine wp_cond_true (f9.v 5 rfl rfl rfl) ?_
   refine wp_seq ?_
   have b_g2_29:=f9.k (f8.k (f4.k b_g2_10))
   have b_g3_30:=f9.k (f8.k b_g3_25)
   have s17_31:=f9.q 17 s17_28
   have s13_32:=f9.q 13 (f8.q 13 (f4.q 13 s13_12))
   have s20_33:=f9.q 20 (f8.v 9 rfl rfl rfl)
   have s14_34:=f9.q 14 (f8.q 14 s14_27)
   refine go_reg [bx g2 26 (xC ⟨27,w,0,src,base,disp,0,0⟩),bx g3 26 (xC ⟨26,w,dst,0,base,disp,0,0⟩)] [] [oF,some (.agg (xC ⟨27,w,0,src,base,disp,0,0⟩)),oF,oT,oT,oT,some (.agg (xC ⟨26,w,dst,0,base,disp,0,0⟩)),oT,oT,oT,oT,oT,oT,oT] mo f9.d f9.z f9.b (by kernel_rfl) ⟨b_g2_29,b_g3_30,trivial⟩ (
    hk (fun cx=>cx.q (ex_mv rfl (cx.rq 17 s17_31))) <|
    hk (fun cx=>cx.q (Mrm.ldX rfl (cx.rq 13 s13_32) (cx.rn 0 rfl))) <|
    hc (fun _ _ wx cx=>cx.c rfl (args1 (cx.u 0 rfl)) Tryd.func16 (by decide +kernel) (Mrm.may_n ⟨27,w,0,src,base,disp,0,0⟩ (xok ⟨by decide,by decide⟩ hw ⟨by decide,by decide⟩ hsrc hbase hdisp ⟨by decide,by decide⟩ ⟨by decide,by decide⟩) wx (hT.below cx.S.1.1 (Nat.le_refl _))) rfl (congrArg Value.bool hmP)) <|
    hk (fun cx=>cx.q (ex_beq (x:=.tmp 56) (y:=.tmp 58) rfl (cx.u 0 rfl) (cx.u 1 rfl))) <|
    kmu 0 <|
    hk (fun cx=>cx.vy 0 (ex_mv rfl (cx.rq 20 s20_33))) <|
    hk (fun cx=>cx.vy 0 (Mrm.ldX rfl (cx.rq 14 s14_34) (cx.rn 1 rfl))) <|
    hc (fun _ _ wx cx=>cx.call (cx.wy rfl rfl rfl rfl (cx.u 1 rfl)) rfl rfl (args1 (cx.u 0 rfl)) Tryd.func16 (by decide +kernel) rfl (Mrm.may_n ⟨26,w,dst,0,base,disp,0,0⟩ (xok ⟨by decide,by decide⟩ hw hdst ⟨by decide,by decide⟩ hbase hdisp ⟨by decide,by decide⟩ ⟨by decide,by decide⟩) wx (hT.below cx.S.1.1 (Nat.le_refl _))) rfl rfl (congrArg Value.bool hmG) rfl) <|
    hk (fun cx=>cx.vy 2 (ex_beq (x:=.tmp 61) (y:=.tmp 63) rfl (cx.u 0 rfl) (cx.u 1 rfl))) <|
    hk (fun cx=>cx.q (ex_pt rfl (cx.u 0 rfl) (cx.u 1 rfl))) <|
    kmu 0 <|
    hc (fun _ _ wx cx=>cx.call (cx.wy rfl rfl rfl rfl (cx.u 0 rfl)) rfl rfl (args0 ) Tryd.func12 (by decide +kernel) rfl (wakes_n wx (hT.below cx.S.1.1 (Nat.le_refl _))) rfl rfl rfl rfl) <|
    hk (fun cx=>cx.q (ex_pt rfl (cx.u 0 rfl) (cx.u 1 rfl))) <|
    kmu 0 <|
    hn) ?_
   intro a10 w10 f10
   refine wp_ret ?_
   try simp only [Exit.inBlock,Exit.then]
   refine bodyPost_ret (res_t (fn:=Tryd.f7) rfl (f10.v 13 rfl rfl rfl)) f10.d ?_
   exact ⟨rfl,f10.b⟩
  have Ffk1:=Lib.hid fk1;clear fk1
  have hmP:mayX ⟨27,w,0,src,base,disp,0,0⟩=true:=has27.symm.trans Ffk1.out
  have hbs:(0 ≤ src ∧ src < 16) ∧ (0 ≤ base ∧ base < 16):=(Mrm.may_parts' hmP).2.2
  have b_g1_35:=f3.k (f2.k b_g1)
  have b_g2_36:=f3.k b_g2
  have s6_37:=f3.q 6 (f2.q 6 u_g1)
  have s13_38:=f3.q 13 u_g2
  refine go_reg [bx g1 36 (mcC m),bx g2 26 (xC ⟨27,w,0,src,base,disp,0,0⟩)] [] [some (.agg (mcC m)),some (.agg (xC ⟨27,w,0,src,base,disp,0,0⟩)),some (.tuple #[.int .u64 (adrX m ⟨27,w,0,src,base,disp,0,0⟩),.int .i64 (sizX ⟨27,w,0,src,base,disp,0,0⟩),.bool (hasX ⟨27,w,0,src,base,disp,0,0⟩)]),some (.tuple #[.int .u64 (adrX m ⟨27,w,0,src,base,disp,0,0⟩),.int .i64 (sizX ⟨27,w,0,src,base,disp,0,0⟩),.bool (hasX ⟨27,w,0,src,base,disp,0,0⟩)]),some (.int .u64 (IntKind.u64.wrap ((m.r base.toNat) + (IntKind.u64.wrap disp)))),some (.int .i64 (w / 8)),oT,some (.int .u64 (IntKind.u64.wrap ((m.r base.toNat) + (IntKind.u64.wrap disp)))),some (.int .i64 (w / 8)),oT] mo f3.d f3.z f3.b (by kernel_rfl) ⟨b_g1_35,b_g2_36,trivial⟩ (
   hk (fun cx=>cx.q (ldMc rfl (cx.rq 6 s6_37) (cx.rn 0 rfl))) <|
   hk (fun cx=>cx.q (Mrm.ldX rfl (cx.rq 13 s13_38) (cx.rn 1 rfl))) <|
   hc (fun _ _ wx cx=>cx.c rfl (args2 (cx.u 0 rfl) (cx.u 1 rfl)) Tryd.func19 (by decide +kernel) (address_n m ⟨27,w,0,src,base,disp,0,0⟩ wx (hT.below cx.S.1.1 (Nat.le_refl _)) (xok ⟨by decide,by decide⟩ hw ⟨by decide,by decide⟩ hsrc hbase hdisp ⟨by decide,by decide⟩ ⟨by decide,by decide⟩) hM) rfl rfl) <|
   kmu 0 <|
   hk (fun cx=>cx.v (ex_ext (x:=.tmp 36) rfl (cx.u 0 rfl) rfl) rfl (congrArg (Value.int .u64) (adr27 hmP))) <|
   hk (fun cx=>cx.v (ex_ext (x:=.tmp 36) rfl (cx.u 0 rfl) rfl) rfl (congrArg (Value.int .i64) (siz27 hmP))) <|
   hk (fun cx=>cx.v (ex_ext (x:=.tmp 36) rfl (cx.u 0 rfl) rfl) rfl (congrArg Value.bool Ffk1.out)) <|
   kmu 0 <|
   kmu 0 <|
   kmu 0 <|
   hn) ?_
  intro a11 w11 f11
  refine wp_seq ?_
  cases fk3:hasX ⟨26,w,dst,0,base,disp,0,0⟩
  case false=>
   have Ffk3:=Lib.hid fk3;clear fk3
   have hmG:mayX ⟨26,w,dst,0,base,disp,0,0⟩=false:=has26.symm.trans Ffk3.out
   have b_g1_39:=f11.k b_g1_35
   have b_g3_40:=f11.k b_g3
   have s6_41:=f11.q 6 s6_37
   have s14_42:=f11.q 14 u_g3
   refine go_reg [bx g1 36 (mcC m),bx g3 26 (xC ⟨26,w,dst,0,base,disp,0,0⟩)] [] [some (.agg (mcC m)),some (.agg (xC ⟨26,w,dst,0,base,disp,0,0⟩)),some (.tuple #[.int .u64 (adrX m ⟨26,w,dst,0,base,disp,0,0⟩),.int .i64 (sizX ⟨26,w,dst,0,base,disp,0,0⟩),.bool (hasX ⟨26,w,dst,0,base,disp,0,0⟩)]),some (.tuple #[.int .u64 (adrX m ⟨26,w,dst,0,base,disp,0,0⟩),.int .i64 (sizX ⟨26,w,dst,0,base,disp,0,0⟩),.bool (hasX ⟨26,w,dst,0,base,disp,0,0⟩)]),some (.int .u64 (adrX m ⟨26,w,dst,0,base,disp,0,0⟩)),some (.int .i64 (sizX ⟨26,w,dst,0,base,disp,0,0⟩)),oF,some (.int .u64 (adrX m ⟨26,w,dst,0,base,disp,0,0⟩)),some (.int .i64 (sizX ⟨26,w,dst,0,base,disp,0,0⟩)),oF] mo f11.d f11.z f11.b (by kernel_rfl) ⟨b_g1_39,b_g3_40,trivial⟩ (
    hk (fun cx=>cx.q (ldMc rfl (cx.rq 6 s6_41) (cx.rn 0 rfl))) <|
    hk (fun cx=>cx.q (Mrm.ldX rfl (cx.rq 14 s14_42) (cx.rn 1 rfl))) <|
    hc (fun _ _ wx cx=>cx.c rfl (args2 (cx.u 0 rfl) (cx.u 1 rfl)) Tryd.func19 (by decide +kernel) (address_n m ⟨26,w,dst,0,base,disp,0,0⟩ wx (hT.below cx.S.1.1 (Nat.le_refl _)) (xok ⟨by decide,by decide⟩ hw hdst ⟨by decide,by decide⟩ hbase hdisp ⟨by decide,by decide⟩ ⟨by decide,by decide⟩) hM) rfl rfl) <|
    kmu 0 <|
    hk (fun cx=>cx.q (ex_ext (x:=.tmp 43) rfl (cx.u 0 rfl) rfl)) <|
    hk (fun cx=>cx.q (ex_ext (x:=.tmp 43) rfl (cx.u 0 rfl) rfl)) <|
    hk (fun cx=>cx.v (ex_ext (x:=.tmp 43) rfl (cx.u 0 rfl) rfl) rfl (congrArg Value.bool Ffk3.out)) <|
    kmu 0 <|
    kmu 0 <|
    kmu 0 <|
    hn) ?_
   intro a12 w12 f12
   refine wp_seq ?_
   refine wp_seq ?_
   have s17_43:=f12.q 17 (f11.v 9 rfl rfl rfl)
   refine go_reg [] [] [oT,oF,oF,oF,oT,oT] mo f12.d f12.z f12.b (by kernel_rfl) trivial (
    hk (fun cx=>cx.q (ex_mv rfl (cx.rq 17 s17_43))) <|
    hk (fun cx=>cx.q (ex_not (x:=.tmp 50) rfl (cx.u 0 rfl))) <|
    kmu 0 <|
    hk (fun cx=>cx.vy 0 (ex_mv rfl (cx.rq 20 (f12.v 9 rfl rfl rfl)))) <|
    hk (fun cx=>cx.vy 1 (ex_not (x:=.tmp 53) rfl (cx.u 0 rfl))) <|
    hk (fun cx=>cx.q (ex_pf rfl (cx.u 0 rfl) (cx.u 1 rfl))) <|
    hn) ?_
   intro a13 w13 f13
   refine wp_cond_true (f13.v 5 rfl rfl rfl) ?_
   refine wp_seq ?_
   have b_g2_44:=f13.k (f12.k (f11.k b_g2_36))
   have b_g3_45:=f13.k (f12.k b_g3_40)
   have s17_46:=f13.q 17 s17_43
   have s13_47:=f13.q 13 (f12.q 13 (f11.q 13 s13_38))
   have s20_48:=f13.q 20 (f12.v 9 rfl rfl rfl)
   have s14_49:=f13.q 14 (f12.q 14 s14_42)
   refine go_reg [bx g2 26 (xC ⟨27,w,0,src,base,disp,0,0⟩),bx g3 26 (xC ⟨26,w,dst,0,base,disp,0,0⟩)] [] [oT,some (.agg (xC ⟨27,w,0,src,base,disp,0,0⟩)),oT,oT,oT,oF,some (.agg (xC ⟨26,w,dst,0,base,disp,0,0⟩)),oF,oT,oT,oT,oT,oT,oT] mo f13.d f13.z f13.b (by kernel_rfl) ⟨b_g2_44,b_g3_45,trivial⟩ (
    hk (fun cx=>cx.q (ex_mv rfl (cx.rq 17 s17_46))) <|
    hk (fun cx=>cx.q (Mrm.ldX rfl (cx.rq 13 s13_47) (cx.rn 0 rfl))) <|
    hc (fun _ _ wx cx=>cx.c rfl (args1 (cx.u 0 rfl)) Tryd.func16 (by decide +kernel) (Mrm.may_n ⟨27,w,0,src,base,disp,0,0⟩ (xok ⟨by decide,by decide⟩ hw ⟨by decide,by decide⟩ hsrc hbase hdisp ⟨by decide,by decide⟩ ⟨by decide,by decide⟩) wx (hT.below cx.S.1.1 (Nat.le_refl _))) rfl (congrArg Value.bool hmP)) <|
    hk (fun cx=>cx.q (ex_beq (x:=.tmp 56) (y:=.tmp 58) rfl (cx.u 0 rfl) (cx.u 1 rfl))) <|
    kmu 0 <|
    hk (fun cx=>cx.vy 0 (ex_mv rfl (cx.rq 20 s20_48))) <|
    hk (fun cx=>cx.vy 0 (Mrm.ldX rfl (cx.rq 14 s14_49) (cx.rn 1 rfl))) <|
    hc (fun _ _ wx cx=>cx.call (cx.wy rfl rfl rfl rfl (cx.u 1 rfl)) rfl rfl (args1 (cx.u 0 rfl)) Tryd.func16 (by decide +kernel) rfl (Mrm.may_n ⟨26,w,dst,0,base,disp,0,0⟩ (xok ⟨by decide,by decide⟩ hw hdst ⟨by decide,by decide⟩ hbase hdisp ⟨by decide,by decide⟩ ⟨by decide,by decide⟩) wx (hT.below cx.S.1.1 (Nat.le_refl _))) rfl rfl (congrArg Value.bool hmG) rfl) <|
    hk (fun cx=>cx.vy 2 (ex_beq (x:=.tmp 61) (y:=.tmp 63) rfl (cx.u 0 rfl) (cx.u 1 rfl))) <|
    hk (fun cx=>cx.q (ex_pt rfl (cx.u 0 rfl) (cx.u 1 rfl))) <|
    kmu 0 <|
    hc (fun _ _ wx cx=>cx.call (cx.wy rfl rfl rfl rfl (cx.u 0 rfl)) rfl rfl (args0 ) Tryd.func12 (by decide +kernel) rfl (wakes_n wx (hT.below cx.S.1.1 (Nat.le_refl _))) rfl rfl rfl rfl) <|
    hk (fun cx=>cx.q (ex_pt rfl (cx.u 0 rfl) (cx.u 1 rfl))) <|
    kmu 0 <|
    hn) ?_
   intro a14 w14 f14
   refine wp_ret ?_
   try simp only [Exit.inBlock,Exit.then]
   refine bodyPost_ret (res_t (fn:=Tryd.f7) rfl (f14.v 13 rfl rfl rfl)) f14.d ?_
   exact ⟨rfl,f14.b⟩
  have Ffk3:=Lib.hid fk3;clear fk3
  have hmG:mayX ⟨26,w,dst,0,base,disp,0,0⟩=true:=has26.symm.trans Ffk3.out
  have hds:0 ≤ dst ∧ dst < 16:=(Mrm.may_parts' hmG).2.1
  have b_g1_50:=f11.k b_g1_35
  have b_g3_51:=f11.k b_g3
  have s6_52:=f11.q 6 s6_37
  have s14_53:=f11.q 14 u_g3
  refine go_reg [bx g1 36 (mcC m),bx g3 26 (xC ⟨26,w,dst,0,base,disp,0,0⟩)] [] [some (.agg (mcC m)),some (.agg (xC ⟨26,w,dst,0,base,disp,0,0⟩)),some (.tuple #[.int .u64 (adrX m ⟨26,w,dst,0,base,disp,0,0⟩),.int .i64 (sizX ⟨26,w,dst,0,base,disp,0,0⟩),.bool (hasX ⟨26,w,dst,0,base,disp,0,0⟩)]),some (.tuple #[.int .u64 (adrX m ⟨26,w,dst,0,base,disp,0,0⟩),.int .i64 (sizX ⟨26,w,dst,0,base,disp,0,0⟩),.bool (hasX ⟨26,w,dst,0,base,disp,0,0⟩)]),some (.int .u64 (IntKind.u64.wrap ((m.r base.toNat) + (IntKind.u64.wrap disp)))),some (.int .i64 (w / 8)),oT,some (.int .u64 (IntKind.u64.wrap ((m.r base.toNat) + (IntKind.u64.wrap disp)))),some (.int .i64 (w / 8)),oT] mo f11.d f11.z f11.b (by kernel_rfl) ⟨b_g1_50,b_g3_51,trivial⟩ (
   hk (fun cx=>cx.q (ldMc rfl (cx.rq 6 s6_52) (cx.rn 0 rfl))) <|
   hk (fun cx=>cx.q (Mrm.ldX rfl (cx.rq 14 s14_53) (cx.rn 1 rfl))) <|
   hc (fun _ _ wx cx=>cx.c rfl (args2 (cx.u 0 rfl) (cx.u 1 rfl)) Tryd.func19 (by decide +kernel) (address_n m ⟨26,w,dst,0,base,disp,0,0⟩ wx (hT.below cx.S.1.1 (Nat.le_refl _)) (xok ⟨by decide,by decide⟩ hw hdst ⟨by decide,by decide⟩ hbase hdisp ⟨by decide,by decide⟩ ⟨by decide,by decide⟩) hM) rfl rfl) <|
   kmu 0 <|
   hk (fun cx=>cx.v (ex_ext (x:=.tmp 43) rfl (cx.u 0 rfl) rfl) rfl (congrArg (Value.int .u64) (adr26 hmG))) <|
   hk (fun cx=>cx.v (ex_ext (x:=.tmp 43) rfl (cx.u 0 rfl) rfl) rfl (congrArg (Value.int .i64) (siz26 hmG))) <|
   hk (fun cx=>cx.v (ex_ext (x:=.tmp 43) rfl (cx.u 0 rfl) rfl) rfl (congrArg Value.bool Ffk3.out)) <|
   kmu 0 <|
   kmu 0 <|
   kmu 0 <|
   hn) ?_
  intro a15 w15 f15
  refine wp_seq ?_
  refine wp_seq ?_
  have s17_54:=f15.q 17 (f11.v 9 rfl rfl rfl)
  refine go_reg [] [] [oT,oF,oF,oT,oF,oF] mo f15.d f15.z f15.b (by kernel_rfl) trivial (
   hk (fun cx=>cx.q (ex_mv rfl (cx.rq 17 s17_54))) <|
   hk (fun cx=>cx.q (ex_not (x:=.tmp 50) rfl (cx.u 0 rfl))) <|
   kmu 0 <|
   hk (fun cx=>cx.vy 0 (ex_mv rfl (cx.rq 20 (f15.v 9 rfl rfl rfl)))) <|
   hk (fun cx=>cx.vy 1 (ex_not (x:=.tmp 53) rfl (cx.u 0 rfl))) <|
   hk (fun cx=>cx.q (ex_pf rfl (cx.u 0 rfl) (cx.u 1 rfl))) <|
   hn) ?_
  intro a16 w16 f16
  refine wp_cond_false (f16.v 5 rfl rfl rfl) ?_
  refine wp_skip ?_
  refine wp_seq ?_
  have b_g1_55:=f16.k (f15.k b_g1_50)
  have b_g2_56:=f16.k (f15.k (f11.k b_g2_36))
  have s6_57:=f16.q 6 (f15.q 6 s6_52)
  have s13_58:=f16.q 13 (f15.q 13 (f11.q 13 s13_38))
  refine go_reg [bx g1 36 (mcC m),bx g2 26 (xC ⟨27,w,0,src,base,disp,0,0⟩)] [] [some (.agg (mcC m)),some (.agg (xC ⟨27,w,0,src,base,disp,0,0⟩)),some (.int .u64 (cutI (m.r src.toNat) w)),some (.int .u64 (cutI (m.r src.toNat) w))] mo f16.d f16.z f16.b (by kernel_rfl) ⟨b_g1_55,b_g2_56,trivial⟩ (
   hk (fun cx=>cx.q (ldMc rfl (cx.rq 6 s6_57) (cx.rn 0 rfl))) <|
   hk (fun cx=>cx.q (Mrm.ldX rfl (cx.rq 13 s13_58) (cx.rn 1 rfl))) <|
   hc (fun _ _ wx cx=>cx.c rfl (args2 (cx.u 0 rfl) (cx.u 1 rfl)) Tryd.func20 (by decide +kernel) (stored_n m ⟨27,w,0,src,base,disp,0,0⟩ wx (hT.below cx.S.1.1 (Nat.le_refl _)) (xok ⟨by decide,by decide⟩ hw ⟨by decide,by decide⟩ hsrc hbase hdisp ⟨by decide,by decide⟩ ⟨by decide,by decide⟩) hM) rfl (congrArg (Value.int .u64) (sto27 hmP))) <|
   kmu 0 <|
   hn) ?_
  intro a17 w17 f17
  refine wp_seq ?_
  have b_g1_59:=f17.k b_g1_55
  have b_g3_60:=f17.k (f16.k (f15.k b_g3_51))
  have s6_61:=f17.q 6 s6_57
  have s14_62:=f17.q 14 (f16.q 14 (f15.q 14 s14_53))
  refine go_reg [bx g1 36 (mcC m),bx g3 26 (xC ⟨26,w,dst,0,base,disp,0,0⟩)] [⟨7,22,36,(mcC zM),some 8,(mcC (doX m ⟨26,w,dst,0,base,disp,0,0⟩ (cutI (m.r src.toNat) w)))⟩] [some (.agg (mcC m)),some (.agg (xC ⟨26,w,dst,0,base,disp,0,0⟩)),some (.int .u64 (cutI (m.r src.toNat) w)),some (.tuple #[.agg (mcC (doX m ⟨26,w,dst,0,base,disp,0,0⟩ (cutI (m.r src.toNat) w))),.int .i64 (doXe m ⟨26,w,dst,0,base,disp,0,0⟩ (cutI (m.r src.toNat) w))]),some (.tuple #[.agg (mcC (doX m ⟨26,w,dst,0,base,disp,0,0⟩ (cutI (m.r src.toNat) w))),.int .i64 (doXe m ⟨26,w,dst,0,base,disp,0,0⟩ (cutI (m.r src.toNat) w))]),some (.agg (mcC (doX m ⟨26,w,dst,0,base,disp,0,0⟩ (cutI (m.r src.toNat) w)))),some (.int .i64 0),none,none,some (.int .i64 0)] mo f17.d f17.z f17.b (by kernel_rfl) ⟨b_g1_59,b_g3_60,trivial⟩ (
   hk (fun cx=>cx.q (ldMc rfl (cx.rq 6 s6_61) (cx.rn 0 rfl))) <|
   hk (fun cx=>cx.q (Mrm.ldX rfl (cx.rq 14 s14_62) (cx.rn 1 rfl))) <|
   hk (fun cx=>cx.q (ex_mv rfl (cx.rq 21 (f17.v 3 rfl rfl rfl)))) <|
   hc (fun _ _ wx cx=>cx.c rfl (args3 (cx.u 0 rfl) (cx.u 1 rfl) (cx.u 2 rfl)) Tryd.func11 (by decide +kernel) (do_n m ⟨26,w,dst,0,base,disp,0,0⟩ (cutI (m.r src.toNat) w) wx (hT.below cx.S.1.1 (Nat.le_refl _)) (xok ⟨by decide,by decide⟩ hw hdst ⟨by decide,by decide⟩ hbase hdisp ⟨by decide,by decide⟩ ⟨by decide,by decide⟩) hM ((hM.r _).cut _)) rfl rfl) <|
   kmu 0 <|
   hk (fun cx=>cx.q (ex_ext (x:=.tmp 72) rfl (cx.u 0 rfl) rfl)) <|
   hk (fun cx=>cx.v (ex_ext (x:=.tmp 72) rfl (cx.u 0 rfl) rfl) rfl (congrArg (Value.int .i64) (goE hmG go26).2)) <|
   hk (fun cx=>cx.al (wn rfl) 0 rfl (al_mc rfl) rfl rfl rfl rfl (by kernel_rfl) trivial) <|
   hk (fun cx=>cx.stA (wn rfl) rfl rfl 0 0 rfl rfl rfl rfl (cx.u 1 rfl) (by kernel_rfl) (Eq.refl 22) (mcC_one _) f17.b.size rfl rfl trivial) <|
   kmu 0 <|
   hn) ?_
  intro a18 w18 f18
  obtain ⟨g4,u_g4,q_g4,b_g4⟩:=f18.al.1
  refine wp_seq ?_
  have b_g1_63:=f18.k b_g1_59
  have b_g2_64:=f18.k (f17.k b_g2_56)
  have s6_65:=f18.q 6 s6_61
  have s13_66:=f18.q 13 (f17.q 13 s13_58)
  refine go_reg [bx g1 36 (mcC m),bx g2 26 (xC ⟨27,w,0,src,base,disp,0,0⟩)] [⟨6,24,36,(mcC zM),some 7,(mcC (doX m ⟨27,w,0,src,base,disp,0,0⟩ 0))⟩] [some (.agg (mcC m)),some (.agg (xC ⟨27,w,0,src,base,disp,0,0⟩)),some (.tuple #[.agg (mcC (doX m ⟨27,w,0,src,base,disp,0,0⟩ 0)),.int .i64 (doXe m ⟨27,w,0,src,base,disp,0,0⟩ 0)]),some (.tuple #[.agg (mcC (doX m ⟨27,w,0,src,base,disp,0,0⟩ 0)),.int .i64 (doXe m ⟨27,w,0,src,base,disp,0,0⟩ 0)]),some (.agg (mcC (doX m ⟨27,w,0,src,base,disp,0,0⟩ 0))),some (.int .i64 0),none,none,some (.int .i64 0)] mo f18.d f18.z f18.b (by kernel_rfl) ⟨b_g1_63,b_g2_64,trivial⟩ (
   hk (fun cx=>cx.q (ldMc rfl (cx.rq 6 s6_65) (cx.rn 0 rfl))) <|
   hk (fun cx=>cx.q (Mrm.ldX rfl (cx.rq 13 s13_66) (cx.rn 1 rfl))) <|
   hc (fun _ _ wx cx=>cx.c rfl (args3 (cx.u 0 rfl) (cx.u 1 rfl) rfl) Tryd.func11 (by decide +kernel) (do_n m ⟨27,w,0,src,base,disp,0,0⟩ 0 wx (hT.below cx.S.1.1 (Nat.le_refl _)) (xok ⟨by decide,by decide⟩ hw ⟨by decide,by decide⟩ hsrc hbase hdisp ⟨by decide,by decide⟩ ⟨by decide,by decide⟩) hM (⟨by omega,by omega⟩:U64 0)) rfl rfl) <|
   kmu 0 <|
   hk (fun cx=>cx.q (ex_ext (x:=.tmp 79) rfl (cx.u 0 rfl) rfl)) <|
   hk (fun cx=>cx.v (ex_ext (x:=.tmp 79) rfl (cx.u 0 rfl) rfl) rfl (congrArg (Value.int .i64) (goE hmP go27).2)) <|
   hk (fun cx=>cx.al (wn rfl) 0 rfl (al_mc rfl) rfl rfl rfl rfl (by kernel_rfl) trivial) <|
   hk (fun cx=>cx.stA (wn rfl) rfl rfl 0 0 rfl rfl rfl rfl (cx.u 1 rfl) (by kernel_rfl) (Eq.refl 22) (mcC_one _) f18.b.size rfl rfl trivial) <|
   kmu 0 <|
   hn) ?_
  intro a19 w19 f19
  obtain ⟨g5,u_g5,q_g5,b_g5⟩:=f19.al.1
  refine wp_seq ?_
  have b_g1_67:=f19.k b_g1_63
  have b_g4_68:=f19.k b_g4
  have s23_69:=f19.q 23 (f18.v 9 rfl rfl rfl)
  have s15_70:=f19.q 15 (f18.q 15 (f17.q 15 (f16.q 15 (f15.q 15 (f11.v 7 rfl rfl rfl)))))
  have s18_71:=f19.q 18 (f18.q 18 (f17.q 18 (f16.q 18 (f15.v 7 rfl rfl rfl))))
  have s16_72:=f19.q 16 (f18.q 16 (f17.q 16 (f16.q 16 (f15.q 16 (f11.v 8 rfl rfl rfl)))))
  have s19_73:=f19.q 19 (f18.q 19 (f17.q 19 (f16.q 19 (f15.v 8 rfl rfl rfl))))
  have s1_74:=f19.q 1 (f18.q 1 (f17.q 1 (f16.q 1 (f15.q 1 (f11.q 1 (f3.q 1 s1_5))))))
  have s4_75:=f19.q 4 (f18.q 4 (f17.q 4 (f16.q 4 (f15.q 4 (f11.q 4 (f3.q 4 s4_7))))))
  have s6_76:=f19.q 6 s6_65
  have s5_77:=f19.q 5 (f18.q 5 (f17.q 5 (f16.q 5 (f15.q 5 (f11.q 5 (f3.q 5 s5_8))))))
  have s21_78:=f19.q 21 (f18.q 21 (f17.v 3 rfl rfl rfl))
  have s2_79:=f19.q 2 (f18.q 2 (f17.q 2 (f16.q 2 (f15.q 2 (f11.q 2 (f3.q 2 (f2.q 2 s2_2)))))))
  have s3_80:=f19.q 3 (f18.q 3 (f17.q 3 (f16.q 3 (f15.q 3 (f11.q 3 (f3.q 3 s3_6))))))
  have s22_81:=f19.q 22 u_g4
  refine go_reg [bx g1 36 (mcC m),bx g4 36 (mcC (doX m ⟨26,w,dst,0,base,disp,0,0⟩ (cutI (m.r src.toNat) w))),bx g5 36 (mcC (doX m ⟨27,w,0,src,base,disp,0,0⟩ 0))] [] (tabs [some (.int .i64 0),oT,oT,some (.int .i64 0),oT,oT,oT,some (.int .u64 (IntKind.u64.wrap ((m.r base.toNat) + (IntKind.u64.wrap disp)))),some (.int .u64 (IntKind.u64.wrap ((m.r base.toNat) + (IntKind.u64.wrap disp)))),oT,oT,oT,some (.int .i64 (w / 8)),some (.int .i64 (w / 8)),oT,oT,oT,some (.int .i64 (w / 8)),some (.int .i64 w),some (.int .i8 w)] (tabs [some (.int .i64 w),oT,oT,oT,some (.int .u64 (IntKind.u64.wrap ((m.r base.toNat) + (IntKind.u64.wrap disp)))),some (.int .i8 base),some (pt g1 0),some (pt g1 (base.toNat)),some (.int .u64 (m.r base.toNat)),some (.int .i64 disp),some (.int .u64 (IntKind.u64.wrap disp)),some (.int .u64 (IntKind.u64.wrap ((m.r base.toNat) + (IntKind.u64.wrap disp)))),oT,oT,oT,some (.int .u64 (cutI (m.r src.toNat) w)),some (.int .i8 src),some (pt g1 0),some (pt g1 (src.toNat)),some (.int .u64 (m.r src.toNat))] (tabs [some (.int .i8 w),some (.int .u64 (cutI (m.r src.toNat) w)),oT,oT,oT,some (.int .i8 dst),some (pt g4 0),some (pt g4 (dst.toNat)),some (.int .u64 (cutI (m.r src.toNat) w)),some (.int .u64 (cutI (m.r src.toNat) w)),oT,oT,oT,some (pt g5 0),some (.agg (rgC (doX m ⟨27,w,0,src,base,disp,0,0⟩ 0))),some (pt g1 0),some (.agg (rgC m)),oT,oT,oT] [some (pt g5 16),some (.agg (fC (doX m ⟨27,w,0,src,base,disp,0,0⟩ 0).f)),some (pt g1 16),some (.agg (fC m.f)),oT,oT,oT,oT,oT,oT]))) mo f19.d f19.z f19.b (by kernel_rfl) ⟨b_g1_67,b_g4_68,b_g5,trivial⟩ (
   hk (fun cx=>cx.q (ex_mv rfl (cx.rq 23 s23_69))) <|
   hk (fun cx=>cx.v (ex_eq (x:=.tmp 85) rfl (cx.u 0 rfl) rfl) rfl (congrArg Value.bool (by decide))) <|
   kmu 0 <|
   hk (fun cx=>cx.vy 0 (ex_mv rfl (cx.rq 25 (f19.v 8 rfl rfl rfl)))) <|
   hk (fun cx=>cx.vy 1 (ex_eq (x:=.tmp 88) rfl (cx.u 0 rfl) rfl) (congrArg Value.bool (by decide))) <|
   hk (fun cx=>cx.q (ex_pt rfl (cx.u 0 rfl) (cx.u 1 rfl))) <|
   kmu 0 <|
   hk (fun cx=>cx.vy 0 (ex_mv rfl (cx.rq 15 s15_70))) <|
   hk (fun cx=>cx.vy 0 (ex_mv rfl (cx.rq 18 s18_71))) <|
   hk (fun cx=>cx.vy 2 (ex_eq (x:=.tmp 92) (y:=.tmp 93) rfl (cx.u 0 rfl) (cx.u 1 rfl)) (congrArg Value.bool (beq_self_eq_true _))) <|
   hk (fun cx=>cx.q (ex_pt rfl (cx.u 0 rfl) (cx.u 1 rfl))) <|
   kmu 0 <|
   hk (fun cx=>cx.vy 0 (ex_mv rfl (cx.rq 16 s16_72))) <|
   hk (fun cx=>cx.vy 0 (ex_mv rfl (cx.rq 19 s19_73))) <|
   hk (fun cx=>cx.vy 2 (ex_eq (x:=.tmp 97) (y:=.tmp 98) rfl (cx.u 0 rfl) (cx.u 1 rfl)) (congrArg Value.bool (beq_self_eq_true _))) <|
   hk (fun cx=>cx.q (ex_pt rfl (cx.u 0 rfl) (cx.u 1 rfl))) <|
   kmu 0 <|
   hk (fun cx=>cx.vy 0 (ex_mv rfl (cx.rq 16 s16_72))) <|
   hk (fun cx=>cx.vy 1 (ex_mul (y:=.tmp 102) rfl rfl (cx.u 0 rfl)) (congrArg (Value.int .i64) (wid27 hmP))) <|
   hk (fun cx=>cx.vy 0 (ex_mv rfl (cx.rq 1 s1_74))) <|
   hk (fun cx=>cx.vy 1 (ex_conv (x:=.tmp 104) rfl (cx.u 0 rfl) Tryd.underlying24 Tryd.underlying3) (congrArg (Value.int .i64) (by rw [IntKind.wrap_i64];omega))) <|
   hk (fun cx=>cx.vy 2 (ex_eq (x:=.tmp 103) (y:=.tmp 105) rfl (cx.u 0 rfl) (cx.u 1 rfl)) (congrArg Value.bool (beq_self_eq_true _))) <|
   hk (fun cx=>cx.q (ex_pt rfl (cx.u 0 rfl) (cx.u 1 rfl))) <|
   kmu 0 <|
   hk (fun cx=>cx.vy 0 (ex_mv rfl (cx.rq 15 s15_70))) <|
   hk (fun cx=>cx.vy 0 (ex_mv rfl (cx.rq 4 s4_75))) <|
   hk (fun cx=>cx.vy 0 (ex_fa rfl (cx.rq 6 s6_76) (faExecLoadsW36_0_0 _ _))) <|
   hk (fun cx=>cx.vy 2 (ex_ia (n:=16) (sz:=1) rfl (cx.u 0 rfl) (cx.u 1 rfl) Tryd.underlying32 (by kernel_rfl) (by omega) (by omega) (by omega)) rfl) <|
   hk (fun cx=>cx.vy 1 (ldMcR (by omega) rfl (cx.u 0 rfl) (cx.rn 0 rfl)) rfl) <|
   hk (fun cx=>cx.vy 0 (ex_mv rfl (cx.rq 5 s5_77))) <|
   hk (fun cx=>cx.vy 1 (ex_conv (x:=.tmp 114) rfl (cx.u 0 rfl) Tryd.underlying3 Tryd.underlying31)) <|
   hk (fun cx=>cx.vy 2 (ex_add (x:=.tmp 113) (y:=.tmp 115) rfl (cx.u 0 rfl) (cx.u 1 rfl))) <|
   hk (fun cx=>cx.vy 2 (ex_eq (x:=.tmp 109) (y:=.tmp 116) rfl (cx.u 0 rfl) (cx.u 1 rfl)) (congrArg Value.bool (beq_self_eq_true _))) <|
   hk (fun cx=>cx.q (ex_pt rfl (cx.u 0 rfl) (cx.u 1 rfl))) <|
   kmu 0 <|
   hk (fun cx=>cx.vy 0 (ex_mv rfl (cx.rq 21 s21_78))) <|
   hk (fun cx=>cx.vy 0 (ex_mv rfl (cx.rq 2 s2_79))) <|
   hk (fun cx=>cx.vy 0 (ex_fa rfl (cx.rq 6 s6_76) (faExecLoadsW36_0_0 _ _))) <|
   hk (fun cx=>cx.vy 2 (ex_ia (n:=16) (sz:=1) rfl (cx.u 0 rfl) (cx.u 1 rfl) Tryd.underlying32 (by kernel_rfl) (by omega) (by omega) (by omega)) rfl) <|
   hk (fun cx=>cx.vy 1 (ldMcR (by omega) rfl (cx.u 0 rfl) (cx.rn 0 rfl)) rfl) <|
   hk (fun cx=>cx.vy 0 (ex_mv rfl (cx.rq 1 s1_74))) <|
   hc (fun _ _ wx cx=>cx.call (cx.wy rfl rfl rfl rfl (cx.u 2 rfl)) rfl rfl (args2 (cx.u 0 rfl) (cx.u 1 rfl)) Tryd.func17 (by decide +kernel) rfl (((cut_any (m.r src.toNat) w wx).mono (by rintro e w' ⟨rfl,rfl⟩;exact ⟨rfl,Below.refl _ _⟩))) rfl rfl rfl rfl) <|
   hk (fun cx=>cx.vy 2 (ex_eq (x:=.tmp 120) (y:=.tmp 126) rfl (cx.u 0 rfl) (cx.u 1 rfl)) (congrArg Value.bool (beq_self_eq_true _))) <|
   hk (fun cx=>cx.q (ex_pt rfl (cx.u 0 rfl) (cx.u 1 rfl))) <|
   kmu 0 <|
   hk (fun cx=>cx.vy 0 (ex_mv rfl (cx.rq 3 s3_80))) <|
   hk (fun cx=>cx.vy 0 (ex_fa rfl (cx.rq 22 s22_81) (faExecLoadsW36_0_0 _ _))) <|
   hk (fun cx=>cx.vy 2 (ex_ia (n:=16) (sz:=1) rfl (cx.u 0 rfl) (cx.u 1 rfl) Tryd.underlying32 (by kernel_rfl) (by omega) (by omega) (by omega)) rfl) <|
   hk (fun cx=>cx.vy 1 (ldMcR (by omega) rfl (cx.u 0 rfl) (cx.rn 1 rfl)) (congrArg (Value.int .u64) (do26 hmG))) <|
   hk (fun cx=>cx.vy 0 (ex_mv rfl (cx.rq 21 s21_78))) <|
   hk (fun cx=>cx.vy 2 (ex_eq (x:=.tmp 133) (y:=.tmp 134) rfl (cx.u 0 rfl) (cx.u 1 rfl)) (congrArg Value.bool (beq_self_eq_true _))) <|
   hk (fun cx=>cx.q (ex_pt rfl (cx.u 0 rfl) (cx.u 1 rfl))) <|
   kmu 0 <|
   hk (fun cx=>cx.vy 0 (ex_fa rfl (cx.rq 24 u_g5) (faExecLoadsW36_0_0 _ _))) <|
   hk (fun cx=>cx.vy 1 (ldMcRg rfl (cx.u 0 rfl) (cx.rn 2 rfl))) <|
   hk (fun cx=>cx.vy 0 (ex_fa rfl (cx.rq 6 s6_76) (faExecLoadsW36_0_0 _ _))) <|
   hk (fun cx=>cx.vy 1 (ldMcRg rfl (cx.u 0 rfl) (cx.rn 0 rfl))) <|
   hk (fun cx=>cx.vy 2 (exec_eql (x:=.tmp 139) (y:=.tmp 141) rfl (cx.u 0 rfl) (cx.u 1 rfl) (by kernel_rfl) (eq_rg (doX m ⟨27,w,0,src,base,disp,0,0⟩ 0) m (regs27 hmP) _))) <|
   hk (fun cx=>cx.q (ex_pt rfl (cx.u 0 rfl) (cx.u 1 rfl))) <|
   kmu 0 <|
   hk (fun cx=>cx.vy 0 (ex_fa rfl (cx.rq 24 u_g5) (faExecLoadsW36_1_0 _ _))) <|
   hk (fun cx=>cx.vy 1 (ldMcF rfl (cx.u 0 rfl) (cx.rn 2 rfl))) <|
   hk (fun cx=>cx.vy 0 (ex_fa rfl (cx.rq 6 s6_76) (faExecLoadsW36_1_0 _ _))) <|
   hk (fun cx=>cx.vy 1 (ldMcF rfl (cx.u 0 rfl) (cx.rn 0 rfl))) <|
   hk (fun cx=>cx.vy (v:=.bool (Flg.eqF (doX m ⟨27,w,0,src,base,disp,0,0⟩ 0).f m.f)) 2 (exec_eql (x:=.tmp 146) (y:=.tmp 148) rfl (cx.u 0 rfl) (cx.u 1 rfl) (by kernel_rfl) (Flg.eq_f (doX m ⟨27,w,0,src,base,disp,0,0⟩ 0).f m.f _)) (congrArg Value.bool (flags27 hmP))) <|
   hk (fun cx=>cx.q (ex_pt rfl (cx.u 0 rfl) (cx.u 1 rfl))) <|
   kmu 0 <|
   hc (fun _ _ wx cx=>cx.call (cx.wy rfl rfl rfl rfl (cx.u 0 rfl)) rfl rfl (args0 ) Tryd.func12 (by decide +kernel) rfl (wakes_n wx (hT.below cx.S.1.1 (Nat.le_refl _))) rfl rfl rfl rfl) <|
   hk (fun cx=>cx.q (ex_pt rfl (cx.u 0 rfl) (cx.u 1 rfl))) <|
   kmu 0 <|
   hn) ?_
  intro a20 w20 f20
  refine wp_ret ?_
  try simp only [Exit.inBlock,Exit.then]
  refine bodyPost_ret (res_t (fn:=Tryd.f7) rfl (f20.v 69 rfl rfl rfl)) f20.d ?_
  exact ⟨rfl,f20.b⟩
theorem loads_law (m:Mc) (w src dst base disp:Int) (W:World) (hM:MOk m) (h1:(Lit.int .i8 w).wf=true) (h2:(Lit.int .i8 src).wf=true) (h3:(Lit.int .i8 dst).wf=true) (h4:(Lit.int .i8 base).wf=true) (h5:(Lit.int .i64 disp).wf=true) (hT:Mrm.Tabs W):Calls Tryd.prog 7 #[.agg (mcC m),.int .i8 w,.int .i8 src,.int .i8 dst,.int .i8 base,.int .i64 disp] W fun e w'=>e=.returned (.bool true) ∧ Below W.heap.size W w':=
  loads_n m w src dst base disp W hT hM (bd_i8 h1) (bd_i8 h2) (bd_i8 h3) (bd_i8 h4) (bd_i64 h5)
end Go.Proofs.YtoghjpliemidkaaDoor.Exe
