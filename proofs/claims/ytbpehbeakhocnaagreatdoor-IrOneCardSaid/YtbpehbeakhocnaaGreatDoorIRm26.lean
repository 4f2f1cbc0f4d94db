import Derived.Test.YtbpehbeakhocnaaGreatDoorIRm25
set_option maxHeartbeats 4000000
set_option linter.unusedVariables false
set_option linter.unusedSimpArgs false
set_option linter.unnecessarySimpa false
namespace Go.Proofs.YtbpehbeakhocnaaGreatDoor.Flg
open Go Go.RowKit
set_option maxRecDepth 100000
theorem doI0 {w:Int} (h:longB w=true) (a b:Int):doI 0 w a b=addV w a b:=if_pos ⟨by omega,by omega,h⟩
theorem doI1 {w:Int} (h:longB w=true) (a b:Int):doI 1 w a b=subV w a b:=if_pos ⟨by omega,by omega,h⟩
theorem doI11 {w:Int} (h:longB w=true) (v:Int):doI 11 w 0 v=cutI v w:=by
  rw [show doI 11 w 0 v=cutI (opI 11 w (cutI 0 w) (cutI v w)) w from if_pos ⟨by omega,by omega,h⟩,opI_11,cut_cut h]
theorem doE_t {op w:Int} (h:longB w=true) (h0:0 ≤ op) (h1:op ≤ 12):doE op w=0:=if_pos ⟨h0,h1,h⟩
theorem doE_f {op w:Int} (h:longB w=false):doE op w=2:=if_neg (by simp [h])
theorem known_n (c z s o:Bool) (W:World):Calls Tryz.prog 148 #[.bool c,.bool z,.bool s,.bool o] W fun e w'=>e=.returned (.agg (fC ⟨true,c,z,s,o⟩)) ∧ Below W.heap.size W w':=by
  refine calls_abs Tryz.func148 rfl (Nat.le_of_ble_eq_true rfl) ?_
  intro a0 d0 z0 h0
  replace z0:a0.tmps.size=14:=z0
  have s0_0:a0.tmps.getD 0 undef=.bool c:=h0 0 (Nat.le_of_ble_eq_true rfl)
  have s1_0:a0.tmps.getD 1 undef=.bool z:=h0 1 (Nat.le_of_ble_eq_true rfl)
  have s2_0:a0.tmps.getD 2 undef=.bool s:=h0 2 (Nat.le_of_ble_eq_true rfl)
  have s3_0:a0.tmps.getD 3 undef=.bool o:=h0 3 (Nat.le_of_ble_eq_true rfl)
  refine wp_seq ?_
  refine go_reg [] [⟨0,8,28,(fC zF),none,#[]⟩] [none] mo d0 z0 (Below.refl _ _) (by kernel_rfl) trivial (
   hk (fun cx=>cx.al (wn rfl) 0 rfl (al_f rfl) rfl rfl rfl rfl rfl trivial) <|
   hn) ?_
  intro a1 w1 f1
  obtain ⟨g1,u_g1,q_g1,b_g1⟩:=f1.al.1
  refine wp_seq ?_
  have s0_1:=f1.q 0 s0_0
  have s1_2:=f1.q 1 s1_0
  have s2_3:=f1.q 2 s2_0
  have s3_4:=f1.q 3 s3_0
  refine go_reg [⟨g1,28,(fC zF),some 5,(fC ⟨true,c,z,s,o⟩)⟩] [] [some (.bool c),some (.bool z),some (.bool s),some (.bool o),some (.agg (fC ⟨true,c,z,s,o⟩)),none] mo f1.d f1.z f1.b (by kernel_rfl) ⟨b_g1,trivial⟩ (
   hk (fun cx=>cx.q (ex_mv rfl (cx.rq 0 s0_1))) <|
   hk (fun cx=>cx.q (ex_mv rfl (cx.rq 1 s1_2))) <|
   hk (fun cx=>cx.q (ex_mv rfl (cx.rq 2 s2_3))) <|
   hk (fun cx=>cx.q (ex_mv rfl (cx.rq 3 s3_4))) <|
   hk (fun cx=>cx.q (exec_build rfl (parts5 rfl (cx.u 0 rfl) (cx.u 1 rfl) (cx.u 2 rfl) (cx.u 3 rfl)) (by kernel_rfl))) <|
   hk (fun cx=>cx.stR (wn rfl) rfl rfl 0 rfl (cx.rq 8 u_g1) (cx.u 0 rfl) (by kernel_rfl) (Eq.refl 5) (by simp [Value.oneCell']) q_g1 rfl trivial trivial) <|
   hn) ?_
  intro a2 w2 f2
  refine wp_ret ?_
  have s8_5:=f2.q 8 u_g1
  try simp only [Exit.inBlock,Exit.then]
  refine bodyPost_ret (res_c (fn:=Tryz.f148) rfl s8_5 (load_row 28 f2.rows.1 Tryz.underlying28 rfl (by kernel_rfl))) f2.d ?_
  exact ⟨rfl,f2.b⟩
theorem none_n  (W:World):Calls Tryz.prog 39 #[] W fun e w'=>e=.returned (.agg (fC zF)) ∧ Below W.heap.size W w':=by
  refine calls_abs Tryz.func39 rfl (Nat.le_of_ble_eq_true rfl) ?_
  intro a0 d0 z0 h0
  replace z0:a0.tmps.size=2:=z0
  refine wp_seq ?_
  refine go_reg [] [⟨0,0,28,(fC zF),none,#[]⟩] [none] mo d0 z0 (Below.refl _ _) (by kernel_rfl) trivial (
   hk (fun cx=>cx.al (wn rfl) 0 rfl (al_f rfl) rfl rfl rfl rfl rfl trivial) <|
   hn) ?_
  intro a1 w1 f1
  obtain ⟨g1,u_g1,q_g1,b_g1⟩:=f1.al.1
  refine wp_seq ?_
  refine go_reg [⟨g1,28,(fC zF),some 1,(fC zF)⟩] [] [some (.agg (fC zF)),none] mo f1.d f1.z f1.b (by kernel_rfl) ⟨b_g1,trivial⟩ (
   hk (fun cx=>cx.q (ex_z5 rfl)) <|
   hk (fun cx=>cx.stR (wn rfl) rfl rfl 0 rfl (cx.rq 0 u_g1) (cx.u 0 rfl) (by kernel_rfl) (Eq.refl 5) (by simp [Value.oneCell']) q_g1 rfl trivial trivial) <|
   hn) ?_
  intro a2 w2 f2
  refine wp_ret ?_
  have s0_1:=f2.q 0 u_g1
  try simp only [Exit.inBlock,Exit.then]
  refine bodyPost_ret (res_c (fn:=Tryz.f39) rfl s0_1 (load_row 28 f2.rows.1 Tryz.underlying28 rfl (by kernel_rfl))) f2.d ?_
  exact ⟨rfl,f2.b⟩
theorem after_n (w r:Int) (c o:Bool) (W:World) (hl:longB w=true):Calls Tryz.prog 144 #[.int .i8 w,.int .u64 r,.bool c,.bool o] W fun e w'=>e=.returned (.agg (fC (aftF w r c o))) ∧ Below W.heap.size W w':=by
  refine calls_abs Tryz.func144 rfl (Nat.le_of_ble_eq_true rfl) ?_
  intro a0 d0 z0 h0
  replace z0:a0.tmps.size=17:=z0
  have s0_0:a0.tmps.getD 0 undef=.int .i8 w:=h0 0 (Nat.le_of_ble_eq_true rfl)
  have s1_0:a0.tmps.getD 1 undef=.int .u64 r:=h0 1 (Nat.le_of_ble_eq_true rfl)
  have s2_0:a0.tmps.getD 2 undef=.bool c:=h0 2 (Nat.le_of_ble_eq_true rfl)
  have s3_0:a0.tmps.getD 3 undef=.bool o:=h0 3 (Nat.le_of_ble_eq_true rfl)
  refine wp_seq ?_
  refine go_reg [] [⟨0,8,28,(fC zF),none,#[]⟩] [none] mo d0 z0 (Below.refl _ _) (by kernel_rfl) trivial (
   hk (fun cx=>cx.al (wn rfl) 0 rfl (al_f rfl) rfl rfl rfl rfl rfl trivial) <|
   hn) ?_
  intro a1 w1 f1
  obtain ⟨g1,u_g1,q_g1,b_g1⟩:=f1.al.1
  refine wp_seq ?_
  have s2_1:=f1.q 2 s2_0
  have s1_2:=f1.q 1 s1_0
  have s0_3:=f1.q 0 s0_0
  have s3_4:=f1.q 3 s3_0
  refine go_reg [⟨g1,28,(fC zF),some 8,(fC ⟨true,c,r == 0,negB w r,o⟩)⟩] [] [some (.bool c),some (.int .u64 r),some (.bool (r == 0)),some (.int .i8 w),some (.int .u64 r),some (.bool (negB w r)),some (.bool o),some (.agg (fC ⟨true,c,r == 0,negB w r,o⟩)),none] mo f1.d f1.z f1.b (by kernel_rfl) ⟨b_g1,trivial⟩ (
   hk (fun cx=>cx.q (ex_mv rfl (cx.rq 2 s2_1))) <|
   hk (fun cx=>cx.q (ex_mv rfl (cx.rq 1 s1_2))) <|
   hk (fun cx=>cx.q (ex_eq (x:=.tmp 10) rfl (cx.u 0 rfl) rfl)) <|
   hk (fun cx=>cx.q (ex_mv rfl (cx.rq 0 s0_3))) <|
   hk (fun cx=>cx.q (ex_mv rfl (cx.rq 1 s1_2))) <|
   hc (fun _ _ wx cx=>cx.c rfl (args2 (cx.u 0 rfl) (cx.u 1 rfl)) Tryz.func143 (by decide +kernel) (((negative_n w r wx hl).mono (by rintro e w' ⟨rfl,rfl⟩;exact ⟨rfl,Below.refl _ _⟩))) rfl rfl) <|
   hk (fun cx=>cx.q (ex_mv rfl (cx.rq 3 s3_4))) <|
   hc (fun _ _ wx cx=>cx.c rfl (args4 (cx.u 0 rfl) (cx.u 1 rfl) (cx.u 2 rfl) (cx.u 3 rfl)) Tryz.func148 (by decide +kernel) (known_n c (r == 0) (negB w r) o wx) rfl rfl) <|
   hk (fun cx=>cx.stR (wn rfl) rfl rfl 0 rfl (cx.rq 8 u_g1) (cx.u 0 rfl) (by kernel_rfl) (Eq.refl 5) (by simp [Value.oneCell']) q_g1 rfl trivial trivial) <|
   hn) ?_
  intro a2 w2 f2
  refine wp_ret ?_
  have s8_5:=f2.q 8 u_g1
  try simp only [Exit.inBlock,Exit.then]
  refine bodyPost_ret (res_c (fn:=Tryz.f144) rfl s8_5 (load_row 28 f2.rows.1 Tryz.underlying28 rfl (by kernel_rfl))) f2.d ?_
  have HE:(.agg (fC ⟨true,c,r == 0,negB w r,o⟩):Value)=.agg (fC (aftF w r c o)):=by unfold aftF;simp only [Bool.true_and,Bool.and_true,Bool.false_and,Bool.and_false,Bool.or_false,Bool.false_or,Bool.true_or,Bool.or_true,Bool.not_true,Bool.not_false,if_true,if_false,Bool.false_eq_true,Bool.true_eq_false,reduceCtorEq];try rfl
  exact ⟨retV HE,f2.b⟩
theorem add_t (w a b:Int) (W:World) (ha:0 ≤ a ∧ a < 18446744073709551616) (hb:0 ≤ b ∧ b < 18446744073709551616) (hl:longB w=true):Calls Tryz.prog 108 #[.int .i8 w,.int .u64 a,.int .u64 b] W fun e w'=>e=.returned (.tuple #[.agg (fC (aftF w (addV w a b) (decide (addV w a b < cutI a w)) (overA w a b (addV w a b)))),.int .i64 0]) ∧ Below W.heap.size W w':=by
  refine calls_abs Tryz.func108 rfl (Nat.le_of_ble_eq_true rfl) ?_
  intro a0 d0 z0 h0
  replace z0:a0.tmps.size=49:=z0
  have s0_0:a0.tmps.getD 0 undef=.int .i8 w:=h0 0 (Nat.le_of_ble_eq_true rfl)
  have s1_0:a0.tmps.getD 1 undef=.int .u64 a:=h0 1 (Nat.le_of_ble_eq_true rfl)
  have s2_0:a0.tmps.getD 2 undef=.int .u64 b:=h0 2 (Nat.le_of_ble_eq_true rfl)
  refine wp_seq ?_
  refine go_reg [] [⟨0,6,28,(fC zF),none,#[]⟩] [none,some (.int .i64 0)] mo d0 z0 (Below.refl _ _) (by kernel_rfl) trivial (
   hk (fun cx=>cx.al (wn rfl) 0 rfl (al_f rfl) rfl rfl rfl rfl rfl trivial) <|
   hk (fun cx=>cx.q (ex_as rfl rfl)) <|
   hn) ?_
  intro a1 w1 f1
  obtain ⟨g1,u_g1,q_g1,b_g1⟩:=f1.al.1
  refine wp_seq ?_
  have s0_1:=f1.q 0 s0_0
  have s1_2:=f1.q 1 s1_0
  have s2_3:=f1.q 2 s2_0
  refine go_reg [] [] [some (.int .i8 w),some (.int .u64 a),some (.int .u64 b),some (.tuple #[.int .u64 (doI 0 w a b),.int .i64 (doE 0 w)]),some (.tuple #[.int .u64 (doI 0 w a b),.int .i64 (doE 0 w)]),some (.int .u64 (addV w a b)),some (.int .i64 0),some (.int .u64 (addV w a b)),some (.int .i64 0)] mo f1.d f1.z f1.b (by kernel_rfl) trivial (
   hk (fun cx=>cx.q (ex_mv rfl (cx.rq 0 s0_1))) <|
   hk (fun cx=>cx.q (ex_mv rfl (cx.rq 1 s1_2))) <|
   hk (fun cx=>cx.q (ex_mv rfl (cx.rq 2 s2_3))) <|
   hc (fun _ _ wx cx=>cx.c rfl (args4 rfl (cx.u 0 rfl) (cx.u 1 rfl) (cx.u 2 rfl)) Tryz.func113 (by decide +kernel) (do_any 0 w a b wx ha.1 ha.2 hb.1 hb.2) rfl rfl) <|
   kmu 0 <|
   hk (fun cx=>cx.v (ex_ext (x:=.tmp 12) rfl (cx.u 0 rfl) rfl) rfl (congrArg (Value.int .u64) (doI0 hl a b))) <|
   hk (fun cx=>cx.v (ex_ext (x:=.tmp 12) rfl (cx.u 0 rfl) rfl) rfl (congrArg (Value.int .i64) (doE_t hl (by decide) (by decide)))) <|
   kmu 0 <|
   kmu 0 <|
   hn) ?_
  intro a2 w2 f2
  refine wp_seq ?_
  refine wp_seq ?_
  refine go_reg [] [] [some (.int .i64 0),oF] mo f2.d f2.z f2.b (by kernel_rfl) trivial (
   hk (fun cx=>cx.q (ex_mv rfl (cx.rq 9 (f2.v 8 rfl rfl rfl)))) <|
   hk (fun cx=>cx.v (ex_ne (x:=.tmp 19) rfl (cx.u 0 rfl) rfl) rfl (congrArg Value.bool (by decide))) <|
   hn) ?_
  intro a3 w3 f3
  refine wp_cond_false (f3.v 1 rfl rfl rfl) ?_
  refine wp_skip ?_
  refine wp_seq ?_
  have s8_4:=f3.q 8 (f2.v 7 rfl rfl rfl)
  have s1_5:=f3.q 1 (f2.q 1 s1_2)
  have s0_6:=f3.q 0 (f2.q 0 s0_1)
  refine go_reg [] [] [some (.int .u64 (addV w a b)),some (.int .u64 a),some (.int .i8 w),some (.int .u64 (cutI a w)),some (.bool (decide ((addV w a b) < (cutI a w)))),some (.bool (decide ((addV w a b) < (cutI a w))))] mo f3.d f3.z f3.b (by kernel_rfl) trivial (
   hk (fun cx=>cx.q (ex_mv rfl (cx.rq 8 s8_4))) <|
   hk (fun cx=>cx.q (ex_mv rfl (cx.rq 1 s1_5))) <|
   hk (fun cx=>cx.q (ex_mv rfl (cx.rq 0 s0_6))) <|
   hc (fun _ _ wx cx=>cx.c rfl (args2 (cx.u 0 rfl) (cx.u 1 rfl)) Tryz.func107 (by decide +kernel) (((cut_any a w wx).mono (by rintro e w' ⟨rfl,rfl⟩;exact ⟨rfl,Below.refl _ _⟩))) rfl rfl) <|
   hk (fun cx=>cx.q (ex_lt (x:=.tmp 23) (y:=.tmp 26) rfl (cx.u 0 rfl) (cx.u 1 rfl))) <|
   kmu 0 <|
   hn) ?_
  intro a4 w4 f4
  refine wp_seq ?_
  cases fk1:(negB w a) == (negB w b)
  case false=>
   have Ffk1:=Lib.hid fk1;clear fk1
   have s0_7:=f4.q 0 s0_6
   have s1_8:=f4.q 1 s1_5
   have s2_9:=f4.q 2 (f3.q 2 (f2.q 2 s2_3))
   refine go_reg [] [] [some (.int .i8 w),some (.int .u64 a),some (.bool (negB w a)),some (.int .i8 w),some (.int .u64 b),some (.bool (negB w b)),oF,oF,oU,oU,oU,oU,oU,oU,oU,oF,oF] mo f4.d f4.z f4.b (by kernel_rfl) trivial (
    hk (fun cx=>cx.q (ex_mv rfl (cx.rq 0 s0_7))) <|
    hk (fun cx=>cx.q (ex_mv rfl (cx.rq 1 s1_8))) <|
    hc (fun _ _ wx cx=>cx.c rfl (args2 (cx.u 0 rfl) (cx.u 1 rfl)) Tryz.func143 (by decide +kernel) (((negative_n w a wx hl).mono (by rintro e w' ⟨rfl,rfl⟩;exact ⟨rfl,Below.refl _ _⟩))) rfl rfl) <|
    hk (fun cx=>cx.q (ex_mv rfl (cx.rq 0 s0_7))) <|
    hk (fun cx=>cx.q (ex_mv rfl (cx.rq 2 s2_9))) <|
    hc (fun _ _ wx cx=>cx.c rfl (args2 (cx.u 0 rfl) (cx.u 1 rfl)) Tryz.func143 (by decide +kernel) (((negative_n w b wx hl).mono (by rintro e w' ⟨rfl,rfl⟩;exact ⟨rfl,Below.refl _ _⟩))) rfl rfl) <|
    hk (fun cx=>cx.v (v:=.bool ((negB w a) == (negB w b))) (ex_beq (x:=.tmp 30) (y:=.tmp 33) rfl (cx.u 0 rfl) (cx.u 1 rfl)) rfl (congrArg Value.bool Ffk1.out)) <|
    kmu 0 <|
    kno 0 <|
    kno 0 <|
    kno 2 <|
    kno 0 <|
    kno 0 <|
    kno 3 <|
    kno 2 <|
    hk (fun cx=>cx.q (ex_pf rfl (cx.u 0 rfl) rfl)) <|
    kmu 0 <|
    hn) ?_
   intro a5 w5 f5
   refine wp_seq ?_
   have b_g1_10:=f5.k (f4.k (f3.k (f2.k b_g1)))
   have s0_11:=f5.q 0 s0_7
   have s8_12:=f5.q 8 (f4.q 8 s8_4)
   have s10_13:=f5.q 10 (f4.v 5 rfl rfl rfl)
   have s6_14:=f5.q 6 (f4.q 6 (f3.q 6 (f2.q 6 u_g1)))
   refine go_reg [⟨g1,28,(fC zF),some 5,(fC (aftF w (addV w a b) (decide ((addV w a b) < (cutI a w))) false))⟩] [] [some (.int .i8 w),some (.int .u64 (addV w a b)),some (.bool (decide ((addV w a b) < (cutI a w)))),oF,some (.agg (fC (aftF w (addV w a b) (decide ((addV w a b) < (cutI a w))) false))),none,some (.int .i64 0)] mo f5.d f5.z f5.b (by kernel_rfl) ⟨b_g1_10,trivial⟩ (
    hk (fun cx=>cx.q (ex_mv rfl (cx.rq 0 s0_11))) <|
    hk (fun cx=>cx.q (ex_mv rfl (cx.rq 8 s8_12))) <|
    hk (fun cx=>cx.q (ex_mv rfl (cx.rq 10 s10_13))) <|
    hk (fun cx=>cx.q (ex_mv rfl (cx.rq 11 (f5.v 16 rfl rfl rfl)))) <|
    hc (fun _ _ wx cx=>cx.c rfl (args4 (cx.u 0 rfl) (cx.u 1 rfl) (cx.u 2 rfl) (cx.u 3 rfl)) Tryz.func144 (by decide +kernel) (after_n w (addV w a b) (decide ((addV w a b) < (cutI a w))) false wx hl) rfl rfl) <|
    hk (fun cx=>cx.stR (wn rfl) rfl rfl 0 rfl (cx.rq 6 s6_14) (cx.u 0 rfl) (by kernel_rfl) (Eq.refl 5) (by simp [Value.oneCell']) q_g1 rfl trivial trivial) <|
    hk (fun cx=>cx.q (ex_as rfl rfl)) <|
    hn) ?_
   intro a6 w6 f6
   refine wp_ret ?_
   have s6_15:=f6.q 6 s6_14
   try simp only [Exit.inBlock,Exit.then]
   refine bodyPost_ret (res_ct (fn:=Tryz.f108) rfl s6_15 (load_row 28 f6.rows.1 Tryz.underlying28 rfl (by kernel_rfl)) (f6.v 6 rfl rfl rfl)) f6.d ?_
   have HE:(.tuple #[.agg (fC (aftF w (addV w a b) (decide ((addV w a b) < (cutI a w))) false)),.int .i64 0]:Value)=.tuple #[.agg (fC (aftF w (addV w a b) (decide (addV w a b < cutI a w)) (overA w a b (addV w a b)))),.int .i64 0]:=by unfold overA;simp only [Ffk1.out,Bool.true_and,Bool.and_true,Bool.false_and,Bool.and_false,Bool.or_false,Bool.false_or,Bool.true_or,Bool.or_true,Bool.not_true,Bool.not_false,if_true,if_false,Bool.false_eq_true,Bool.true_eq_false,reduceCtorEq];try rfl
   exact ⟨retV HE,f6.b⟩
  have Ffk1:=Lib.hid fk1;clear fk1
  have s0_16:=f4.q 0 s0_6
  have s1_17:=f4.q 1 s1_5
  have s2_18:=f4.q 2 (f3.q 2 (f2.q 2 s2_3))
  have s8_19:=f4.q 8 s8_4
  refine go_reg [] [] [some (.int .i8 w),some (.int .u64 a),some (.bool (negB w a)),some (.int .i8 w),some (.int .u64 b),some (.bool (negB w b)),oT,oT,some (.int .i8 w),some (.int .u64 (addV w a b)),some (.bool (negB w (addV w a b))),some (.int .i8 w),some (.int .u64 a),some (.bool (negB w a)),some (.bool ((negB w (addV w a b)) != (negB w a))),some (.bool ((negB w (addV w a b)) != (negB w a))),some (.bool ((negB w (addV w a b)) != (negB w a)))] mo f4.d f4.z f4.b (by kernel_rfl) trivial (
   hk (fun cx=>cx.q (ex_mv rfl (cx.rq 0 s0_16))) <|
   hk (fun cx=>cx.q (ex_mv rfl (cx.rq 1 s1_17))) <|
   hc (fun _ _ wx cx=>cx.c rfl (args2 (cx.u 0 rfl) (cx.u 1 rfl)) Tryz.func143 (by decide +kernel) (((negative_n w a wx hl).mono (by rintro e w' ⟨rfl,rfl⟩;exact ⟨rfl,Below.refl _ _⟩))) rfl rfl) <|
   hk (fun cx=>cx.q (ex_mv rfl (cx.rq 0 s0_16))) <|
   hk (fun cx=>cx.q (ex_mv rfl (cx.rq 2 s2_18))) <|
   hc (fun _ _ wx cx=>cx.c rfl (args2 (cx.u 0 rfl) (cx.u 1 rfl)) Tryz.func143 (by decide +kernel) (((negative_n w b wx hl).mono (by rintro e w' ⟨rfl,rfl⟩;exact ⟨rfl,Below.refl _ _⟩))) rfl rfl) <|
   hk (fun cx=>cx.v (v:=.bool ((negB w a) == (negB w b))) (ex_beq (x:=.tmp 30) (y:=.tmp 33) rfl (cx.u 0 rfl) (cx.u 1 rfl)) rfl (congrArg Value.bool Ffk1.out)) <|
   kmu 0 <|
   hk (fun cx=>cx.vy 0 (ex_mv rfl (cx.rq 0 s0_16))) <|
   hk (fun cx=>cx.vy 0 (ex_mv rfl (cx.rq 8 s8_19))) <|
   hc (fun _ _ wx cx=>cx.call (cx.wy rfl rfl rfl rfl (cx.u 2 rfl)) rfl rfl (args2 (cx.u 0 rfl) (cx.u 1 rfl)) Tryz.func143 (by decide +kernel) rfl (((negative_n w (addV w a b) wx hl).mono (by rintro e w' ⟨rfl,rfl⟩;exact ⟨rfl,Below.refl _ _⟩))) rfl rfl rfl rfl) <|
   hk (fun cx=>cx.vy 0 (ex_mv rfl (cx.rq 0 s0_16))) <|
   hk (fun cx=>cx.vy 0 (ex_mv rfl (cx.rq 1 s1_17))) <|
   hc (fun _ _ wx cx=>cx.call (cx.wy rfl rfl rfl rfl (cx.u 3 rfl)) rfl rfl (args2 (cx.u 0 rfl) (cx.u 1 rfl)) Tryz.func143 (by decide +kernel) rfl (((negative_n w a wx hl).mono (by rintro e w' ⟨rfl,rfl⟩;exact ⟨rfl,Below.refl _ _⟩))) rfl rfl rfl rfl) <|
   hk (fun cx=>cx.vy 2 (ex_bne (x:=.tmp 38) (y:=.tmp 41) rfl (cx.u 0 rfl) (cx.u 1 rfl))) <|
   hk (fun cx=>cx.q (ex_pt rfl (cx.u 0 rfl) (cx.u 1 rfl))) <|
   kmu 0 <|
   hn) ?_
  intro a7 w7 f7
  refine wp_seq ?_
  have b_g1_20:=f7.k (f4.k (f3.k (f2.k b_g1)))
  have s0_21:=f7.q 0 s0_16
  have s8_22:=f7.q 8 s8_19
  have s10_23:=f7.q 10 (f4.v 5 rfl rfl rfl)
  have s6_24:=f7.q 6 (f4.q 6 (f3.q 6 (f2.q 6 u_g1)))
  refine go_reg [⟨g1,28,(fC zF),some 5,(fC (aftF w (addV w a b) (decide ((addV w a b) < (cutI a w))) ((negB w (addV w a b)) != (negB w a))))⟩] [] [some (.int .i8 w),some (.int .u64 (addV w a b)),some (.bool (decide ((addV w a b) < (cutI a w)))),some (.bool ((negB w (addV w a b)) != (negB w a))),some (.agg (fC (aftF w (addV w a b) (decide ((addV w a b) < (cutI a w))) ((negB w (addV w a b)) != (negB w a))))),none,some (.int .i64 0)] mo f7.d f7.z f7.b (by kernel_rfl) ⟨b_g1_20,trivial⟩ (
   hk (fun cx=>cx.q (ex_mv rfl (cx.rq 0 s0_21))) <|
   hk (fun cx=>cx.q (ex_mv rfl (cx.rq 8 s8_22))) <|
   hk (fun cx=>cx.q (ex_mv rfl (cx.rq 10 s10_23))) <|
   hk (fun cx=>cx.q (ex_mv rfl (cx.rq 11 (f7.v 16 rfl rfl rfl)))) <|
   hc (fun _ _ wx cx=>cx.c rfl (args4 (cx.u 0 rfl) (cx.u 1 rfl) (cx.u 2 rfl) (cx.u 3 rfl)) Tryz.func144 (by decide +kernel) (after_n w (addV w a b) (decide ((addV w a b) < (cutI a w))) ((negB w (addV w a b)) != (negB w a)) wx hl) rfl rfl) <|
   hk (fun cx=>cx.stR (wn rfl) rfl rfl 0 rfl (cx.rq 6 s6_24) (cx.u 0 rfl) (by kernel_rfl) (Eq.refl 5) (by simp [Value.oneCell']) q_g1 rfl trivial trivial) <|
   hk (fun cx=>cx.q (ex_as rfl rfl)) <|
   hn) ?_
  intro a8 w8 f8
  refine wp_ret ?_
  have s6_25:=f8.q 6 s6_24
  try simp only [Exit.inBlock,Exit.then]
  refine bodyPost_ret (res_ct (fn:=Tryz.f108) rfl s6_25 (load_row 28 f8.rows.1 Tryz.underlying28 rfl (by kernel_rfl)) (f8.v 6 rfl rfl rfl)) f8.d ?_
  have HE:(.tuple #[.agg (fC (aftF w (addV w a b) (decide ((addV w a b) < (cutI a w))) ((negB w (addV w a b)) != (negB w a)))),.int .i64 0]:Value)=.tuple #[.agg (fC (aftF w (addV w a b) (decide (addV w a b < cutI a w)) (overA w a b (addV w a b)))),.int .i64 0]:=by unfold overA;simp only [Ffk1.out,Bool.true_and,Bool.and_true,Bool.false_and,Bool.and_false,Bool.or_false,Bool.false_or,Bool.true_or,Bool.or_true,Bool.not_true,Bool.not_false,if_true,if_false,Bool.false_eq_true,Bool.true_eq_false,reduceCtorEq];try rfl
  exact ⟨retV HE,f8.b⟩
theorem add_f (w a b:Int) (W:World) (ha:0 ≤ a ∧ a < 18446744073709551616) (hb:0 ≤ b ∧ b < 18446744073709551616) (hl:longB w=false):Calls Tryz.prog 108 #[.int .i8 w,.int .u64 a,.int .u64 b] W fun e w'=>e=.returned (.tuple #[.agg (fC zF),.int .i64 2]) ∧ Below W.heap.size W w':=by
  refine calls_abs Tryz.func108 rfl (Nat.le_of_ble_eq_true rfl) ?_
  intro a0 d0 z0 h0
  replace z0:a0.tmps.size=49:=z0
  have s0_0:a0.tmps.getD 0 undef=.int .i8 w:=h0 0 (Nat.le_of_ble_eq_true rfl)
  have s1_0:a0.tmps.getD 1 undef=.int .u64 a:=h0 1 (Nat.le_of_ble_eq_true rfl)
  have s2_0:a0.tmps.getD 2 undef=.int .u64 b:=h0 2 (Nat.le_of_ble_eq_true rfl)
  refine wp_seq ?_
  refine go_reg [] [⟨0,6,28,(fC zF),none,#[]⟩] [none,some (.int .i64 0)] mo d0 z0 (Below.refl _ _) (by kernel_rfl) trivial (
   hk (fun cx=>cx.al (wn rfl) 0 rfl (al_f rfl) rfl rfl rfl rfl rfl trivial) <|
   hk (fun cx=>cx.q (ex_as rfl rfl)) <|
   hn) ?_
  intro a1 w1 f1
  obtain ⟨g1,u_g1,q_g1,b_g1⟩:=f1.al.1
  refine wp_seq ?_
  have s0_1:=f1.q 0 s0_0
  have s1_2:=f1.q 1 s1_0
  have s2_3:=f1.q 2 s2_0
  refine go_reg [] [] [some (.int .i8 w),some (.int .u64 a),some (.int .u64 b),some (.tuple #[.int .u64 (doI 0 w a b),.int .i64 (doE 0 w)]),some (.tuple #[.int .u64 (doI 0 w a b),.int .i64 (doE 0 w)]),some (.int .u64 (doI 0 w a b)),some (.int .i64 2),some (.int .u64 (doI 0 w a b)),some (.int .i64 2)] mo f1.d f1.z f1.b (by kernel_rfl) trivial (
   hk (fun cx=>cx.q (ex_mv rfl (cx.rq 0 s0_1))) <|
   hk (fun cx=>cx.q (ex_mv rfl (cx.rq 1 s1_2))) <|
   hk (fun cx=>cx.q (ex_mv rfl (cx.rq 2 s2_3))) <|
   hc (fun _ _ wx cx=>cx.c rfl (args4 rfl (cx.u 0 rfl) (cx.u 1 rfl) (cx.u 2 rfl)) Tryz.func113 (by decide +kernel) (do_any 0 w a b wx ha.1 ha.2 hb.1 hb.2) rfl rfl) <|
   kmu 0 <|
   hk (fun cx=>cx.q (ex_ext (x:=.tmp 12) rfl (cx.u 0 rfl) rfl)) <|
   hk (fun cx=>cx.v (ex_ext (x:=.tmp 12) rfl (cx.u 0 rfl) rfl) rfl (congrArg (Value.int .i64) (doE_f hl))) <|
   kmu 0 <|
   kmu 0 <|
   hn) ?_
  intro a2 w2 f2
  refine wp_seq ?_
  refine wp_seq ?_
  refine go_reg [] [] [some (.int .i64 2),oT] mo f2.d f2.z f2.b (by kernel_rfl) trivial (
   hk (fun cx=>cx.q (ex_mv rfl (cx.rq 9 (f2.v 8 rfl rfl rfl)))) <|
   hk (fun cx=>cx.v (ex_ne (x:=.tmp 19) rfl (cx.u 0 rfl) rfl) rfl (congrArg Value.bool (by decide))) <|
   hn) ?_
  intro a3 w3 f3
  refine wp_cond_true (f3.v 1 rfl rfl rfl) ?_
  refine wp_seq ?_
  have b_g1_4:=f3.k (f2.k b_g1)
  have s9_5:=f3.q 9 (f2.v 8 rfl rfl rfl)
  have s6_6:=f3.q 6 (f2.q 6 u_g1)
  refine go_reg [⟨g1,28,(fC zF),some 2,(fC zF)⟩] [] [some (.agg (fC zF)),some (.int .i64 2),none,some (.int .i64 2)] mo f3.d f3.z f3.b (by kernel_rfl) ⟨b_g1_4,trivial⟩ (
   hc (fun _ _ wx cx=>cx.c rfl (args0 ) Tryz.func39 (by decide +kernel) (none_n wx) rfl rfl) <|
   hk (fun cx=>cx.q (ex_mv rfl (cx.rq 9 s9_5))) <|
   hk (fun cx=>cx.stR (wn rfl) rfl rfl 0 rfl (cx.rq 6 s6_6) (cx.u 0 rfl) (by kernel_rfl) (Eq.refl 5) (by simp [Value.oneCell']) q_g1 rfl trivial trivial) <|
   kmu 0 <|
   hn) ?_
  intro a4 w4 f4
  refine wp_ret ?_
  have s6_7:=f4.q 6 s6_6
  try simp only [Exit.inBlock,Exit.then]
  refine bodyPost_ret (res_ct (fn:=Tryz.f108) rfl s6_7 (load_row 28 f4.rows.1 Tryz.underlying28 rfl (by kernel_rfl)) (f4.v 3 rfl rfl rfl)) f4.d ?_
  exact ⟨rfl,f4.b⟩
theorem sub_t (w a b:Int) (W:World) (ha:0 ≤ a ∧ a < 18446744073709551616) (hb:0 ≤ b ∧ b < 18446744073709551616) (hl:longB w=true):Calls Tryz.prog 112 #[.int .i8 w,.int .u64 a,.int .u64 b] W fun e w'=>e=.returned (.tuple #[.agg (fC (aftF w (subV w a b) (decide (cutI a w < cutI b w)) (overS w a b (subV w a b)))),.int .i64 0]) ∧ Below W.heap.size W w':=by
  refine calls_abs Tryz.func112 rfl (Nat.le_of_ble_eq_true rfl) ?_
  intro a0 d0 z0 h0
  replace z0:a0.tmps.size=51:=z0
  have s0_0:a0.tmps.getD 0 undef=.int .i8 w:=h0 0 (Nat.le_of_ble_eq_true rfl)
  have s1_0:a0.tmps.getD 1 undef=.int .u64 a:=h0 1 (Nat.le_of_ble_eq_true rfl)
  have s2_0:a0.tmps.getD 2 undef=.int .u64 b:=h0 2 (Nat.le_of_ble_eq_true rfl)
  refine wp_seq ?_
  refine go_reg [] [⟨0,6,28,(fC zF),none,#[]⟩] [none,some (.int .i64 0)] mo d0 z0 (Below.refl _ _) (by kernel_rfl) trivial (
   hk (fun cx=>cx.al (wn rfl) 0 rfl (al_f rfl) rfl rfl rfl rfl rfl trivial) <|
   hk (fun cx=>cx.q (ex_as rfl rfl)) <|
   hn) ?_
  intro a1 w1 f1
  obtain ⟨g1,u_g1,q_g1,b_g1⟩:=f1.al.1
  refine wp_seq ?_
  have s0_1:=f1.q 0 s0_0
  have s1_2:=f1.q 1 s1_0
  have s2_3:=f1.q 2 s2_0
  refine go_reg [] [] [some (.int .i8 w),some (.int .u64 a),some (.int .u64 b),some (.tuple #[.int .u64 (doI 1 w a b),.int .i64 (doE 1 w)]),some (.tuple #[.int .u64 (doI 1 w a b),.int .i64 (doE 1 w)]),some (.int .u64 (subV w a b)),some (.int .i64 0),some (.int .u64 (subV w a b)),some (.int .i64 0)] mo f1.d f1.z f1.b (by kernel_rfl) trivial (
   hk (fun cx=>cx.q (ex_mv rfl (cx.rq 0 s0_1))) <|
   hk (fun cx=>cx.q (ex_mv rfl (cx.rq 1 s1_2))) <|
   hk (fun cx=>cx.q (ex_mv rfl (cx.rq 2 s2_3))) <|
   hc (fun _ _ wx cx=>cx.c rfl (args4 rfl (cx.u 0 rfl) (cx.u 1 rfl) (cx.u 2 rfl)) Tryz.func113 (by decide +kernel) (do_any 1 w a b wx ha.1 ha.2 hb.1 hb.2) rfl rfl) <|
   kmu 0 <|
   hk (fun cx=>cx.v (ex_ext (x:=.tmp 12) rfl (cx.u 0 rfl) rfl) rfl (congrArg (Value.int .u64) (doI1 hl a b))) <|
   hk (fun cx=>cx.v (ex_ext (x:=.tmp 12) rfl (cx.u 0 rfl) rfl) rfl (congrArg (Value.int .i64) (doE_t hl (by decide) (by decide)))) <|
   kmu 0 <|
   kmu 0 <|
   hn) ?_
  intro a2 w2 f2
  refine wp_seq ?_
  refine wp_seq ?_
  refine go_reg [] [] [some (.int .i64 0),oF] mo f2.d f2.z f2.b (by kernel_rfl) trivial (
   hk (fun cx=>cx.q (ex_mv rfl (cx.rq 9 (f2.v 8 rfl rfl rfl)))) <|
   hk (fun cx=>cx.v (ex_ne (x:=.tmp 19) rfl (cx.u 0 rfl) rfl) rfl (congrArg Value.bool (by decide))) <|
   hn) ?_
  intro a3 w3 f3
  refine wp_cond_false (f3.v 1 rfl rfl rfl) ?_
  refine wp_skip ?_
  refine wp_seq ?_
  have s1_4:=f3.q 1 (f2.q 1 s1_2)
  have s0_5:=f3.q 0 (f2.q 0 s0_1)
  have s2_6:=f3.q 2 (f2.q 2 s2_3)
  refine go_reg [] [] [some (.int .u64 a),some (.int .i8 w),some (.int .u64 (cutI a w)),some (.int .u64 b),some (.int .i8 w),some (.int .u64 (cutI b w)),some (.bool (decide ((cutI a w) < (cutI b w)))),some (.bool (decide ((cutI a w) < (cutI b w))))] mo f3.d f3.z f3.b (by kernel_rfl) trivial (
   hk (fun cx=>cx.q (ex_mv rfl (cx.rq 1 s1_4))) <|
   hk (fun cx=>cx.q (ex_mv rfl (cx.rq 0 s0_5))) <|
   hc (fun _ _ wx cx=>cx.c rfl (args2 (cx.u 0 rfl) (cx.u 1 rfl)) Tryz.func107 (by decide +kernel) (((cut_any a w wx).mono (by rintro e w' ⟨rfl,rfl⟩;exact ⟨rfl,Below.refl _ _⟩))) rfl rfl) <|
   hk (fun cx=>cx.q (ex_mv rfl (cx.rq 2 s2_6))) <|
   hk (fun cx=>cx.q (ex_mv rfl (cx.rq 0 s0_5))) <|
   hc (fun _ _ wx cx=>cx.c rfl (args2 (cx.u 0 rfl) (cx.u 1 rfl)) Tryz.func107 (by decide +kernel) (((cut_any b w wx).mono (by rintro e w' ⟨rfl,rfl⟩;exact ⟨rfl,Below.refl _ _⟩))) rfl rfl) <|
   hk (fun cx=>cx.q (ex_lt (x:=.tmp 25) (y:=.tmp 28) rfl (cx.u 0 rfl) (cx.u 1 rfl))) <|
   kmu 0 <|
   hn) ?_
  intro a4 w4 f4
  refine wp_seq ?_
  cases fk1:(negB w a) != (negB w b)
  case false=>
   have Ffk1:=Lib.hid fk1;clear fk1
   have s0_7:=f4.q 0 s0_5
   have s1_8:=f4.q 1 s1_4
   have s2_9:=f4.q 2 s2_6
   refine go_reg [] [] [some (.int .i8 w),some (.int .u64 a),some (.bool (negB w a)),some (.int .i8 w),some (.int .u64 b),some (.bool (negB w b)),oF,oF,oU,oU,oU,oU,oU,oU,oU,oF,oF] mo f4.d f4.z f4.b (by kernel_rfl) trivial (
    hk (fun cx=>cx.q (ex_mv rfl (cx.rq 0 s0_7))) <|
    hk (fun cx=>cx.q (ex_mv rfl (cx.rq 1 s1_8))) <|
    hc (fun _ _ wx cx=>cx.c rfl (args2 (cx.u 0 rfl) (cx.u 1 rfl)) Tryz.func143 (by decide +kernel) (((negative_n w a wx hl).mono (by rintro e w' ⟨rfl,rfl⟩;exact ⟨rfl,Below.refl _ _⟩))) rfl rfl) <|
    hk (fun cx=>cx.q (ex_mv rfl (cx.rq 0 s0_7))) <|
    hk (fun cx=>cx.q (ex_mv rfl (cx.rq 2 s2_9))) <|
    hc (fun _ _ wx cx=>cx.c rfl (args2 (cx.u 0 rfl) (cx.u 1 rfl)) Tryz.func143 (by decide +kernel) (((negative_n w b wx hl).mono (by rintro e w' ⟨rfl,rfl⟩;exact ⟨rfl,Below.refl _ _⟩))) rfl rfl) <|
    hk (fun cx=>cx.v (v:=.bool ((negB w a) != (negB w b))) (ex_bne (x:=.tmp 32) (y:=.tmp 35) rfl (cx.u 0 rfl) (cx.u 1 rfl)) rfl (congrArg Value.bool Ffk1.out)) <|
    kmu 0 <|
    kno 0 <|
    kno 0 <|
    kno 2 <|
    kno 0 <|
    kno 0 <|
    kno 3 <|
    kno 2 <|
    hk (fun cx=>cx.q (ex_pf rfl (cx.u 0 rfl) rfl)) <|
    kmu 0 <|
    hn) ?_
   intro a5 w5 f5
   refine wp_seq ?_
   have b_g1_10:=f5.k (f4.k (f3.k (f2.k b_g1)))
   have s0_11:=f5.q 0 s0_7
   have s8_12:=f5.q 8 (f4.q 8 (f3.q 8 (f2.v 7 rfl rfl rfl)))
   have s10_13:=f5.q 10 (f4.v 7 rfl rfl rfl)
   have s6_14:=f5.q 6 (f4.q 6 (f3.q 6 (f2.q 6 u_g1)))
   refine go_reg [⟨g1,28,(fC zF),some 5,(fC (aftF w (subV w a b) (decide ((cutI a w) < (cutI b w))) false))⟩] [] [some (.int .i8 w),some (.int .u64 (subV w a b)),some (.bool (decide ((cutI a w) < (cutI b w)))),oF,some (.agg (fC (aftF w (subV w a b) (decide ((cutI a w) < (cutI b w))) false))),none,some (.int .i64 0)] mo f5.d f5.z f5.b (by kernel_rfl) ⟨b_g1_10,trivial⟩ (
    hk (fun cx=>cx.q (ex_mv rfl (cx.rq 0 s0_11))) <|
    hk (fun cx=>cx.q (ex_mv rfl (cx.rq 8 s8_12))) <|
    hk (fun cx=>cx.q (ex_mv rfl (cx.rq 10 s10_13))) <|
    hk (fun cx=>cx.q (ex_mv rfl (cx.rq 11 (f5.v 16 rfl rfl rfl)))) <|
    hc (fun _ _ wx cx=>cx.c rfl (args4 (cx.u 0 rfl) (cx.u 1 rfl) (cx.u 2 rfl) (cx.u 3 rfl)) Tryz.func144 (by decide +kernel) (after_n w (subV w a b) (decide ((cutI a w) < (cutI b w))) false wx hl) rfl rfl) <|
    hk (fun cx=>cx.stR (wn rfl) rfl rfl 0 rfl (cx.rq 6 s6_14) (cx.u 0 rfl) (by kernel_rfl) (Eq.refl 5) (by simp [Value.oneCell']) q_g1 rfl trivial trivial) <|
    hk (fun cx=>cx.q (ex_as rfl rfl)) <|
    hn) ?_
   intro a6 w6 f6
   refine wp_ret ?_
   have s6_15:=f6.q 6 s6_14
   try simp only [Exit.inBlock,Exit.then]
   refine bodyPost_ret (res_ct (fn:=Tryz.f112) rfl s6_15 (load_row 28 f6.rows.1 Tryz.underlying28 rfl (by kernel_rfl)) (f6.v 6 rfl rfl rfl)) f6.d ?_
   have HE:(.tuple #[.agg (fC (aftF w (subV w a b) (decide ((cutI a w) < (cutI b w))) false)),.int .i64 0]:Value)=.tuple #[.agg (fC (aftF w (subV w a b) (decide (cutI a w < cutI b w)) (overS w a b (subV w a b)))),.int .i64 0]:=by unfold overS;simp only [Ffk1.out,Bool.true_and,Bool.and_true,Bool.false_and,Bool.and_false,Bool.or_false,Bool.false_or,Bool.true_or,Bool.or_true,Bool.not_true,Bool.not_false,if_true,if_false,Bool.false_eq_true,Bool.true_eq_false,reduceCtorEq];try rfl
   exact ⟨retV HE,f6.b⟩
  have Ffk1:=Lib.hid fk1;clear fk1
  have s0_16:=f4.q 0 s0_5
  have s1_17:=f4.q 1 s1_4
  have s2_18:=f4.q 2 s2_6
  have s8_19:=f4.q 8 (f3.q 8 (f2.v 7 rfl rfl rfl))
  refine go_reg [] [] [some (.int .i8 w),some (.int .u64 a),some (.bool (negB w a)),some (.int .i8 w),some (.int .u64 b),some (.bool (negB w b)),oT,oT,some (.int .i8 w),some (.int .u64 (subV w a b)),some (.bool (negB w (subV w a b))),some (.int .i8 w),some (.int .u64 a),some (.bool (negB w a)),some (.bool ((negB w (subV w a b)) != (negB w a))),some (.bool ((negB w (subV w a b)) != (negB w a))),some (.bool ((negB w (subV w a b)) != (negB w a)))] mo f4.d f4.z f4.b (by kernel_rfl) trivial (
   hk (fun cx=>cx.q (ex_mv rfl (cx.rq 0 s0_16))) <|
   hk (fun cx=>cx.q (ex_mv rfl (cx.rq 1 s1_17))) <|
   hc (fun _ _ wx cx=>cx.c rfl (args2 (cx.u 0 rfl) (cx.u 1 rfl)) Tryz.func143 (by decide +kernel) (((negative_n w a wx hl).mono (by rintro e w' ⟨rfl,rfl⟩;exact ⟨rfl,Below.refl _ _⟩))) rfl rfl) <|
   hk (fun cx=>cx.q (ex_mv rfl (cx.rq 0 s0_16))) <|
   hk (fun cx=>cx.q (ex_mv rfl (cx.rq 2 s2_18))) <|
   hc (fun _ _ wx cx=>cx.c rfl (args2 (cx.u 0 rfl) (cx.u 1 rfl)) Tryz.func143 (by decide +kernel) (((negative_n w b wx hl).mono (by rintro e w' ⟨rfl,rfl⟩;exact ⟨rfl,Below.refl _ _⟩))) rfl rfl) <|
   hk (fun cx=>cx.v (v:=.bool ((negB w a) != (negB w b))) (ex_bne (x:=.tmp 32) (y:=.tmp 35) rfl (cx.u 0 rfl) (cx.u 1 rfl)) rfl (congrArg Value.bool Ffk1.out)) <|
   kmu 0 <|
   hk (fun cx=>cx.vy 0 (ex_mv rfl (cx.rq 0 s0_16))) <|
   hk (fun cx=>cx.vy 0 (ex_mv rfl (cx.rq 8 s8_19))) <|
   hc (fun _ _ wx cx=>cx.call (cx.wy rfl rfl rfl rfl (cx.u 2 rfl)) rfl rfl (args2 (cx.u 0 rfl) (cx.u 1 rfl)) Tryz.func143 (by decide +kernel) rfl (((negative_n w (subV w a b) wx hl).mono (by rintro e w' ⟨rfl,rfl⟩;exact ⟨rfl,Below.refl _ _⟩))) rfl rfl rfl rfl) <|
   hk (fun cx=>cx.vy 0 (ex_mv rfl (cx.rq 0 s0_16))) <|
   hk (fun cx=>cx.vy 0 (ex_mv rfl (cx.rq 1 s1_17))) <|
   hc (fun _ _ wx cx=>cx.call (cx.wy rfl rfl rfl rfl (cx.u 3 rfl)) rfl rfl (args2 (cx.u 0 rfl) (cx.u 1 rfl)) Tryz.func143 (by decide +kernel) rfl (((negative_n w a wx hl).mono (by rintro e w' ⟨rfl,rfl⟩;exact ⟨rfl,Below.refl _ _⟩))) rfl rfl rfl rfl) <|
   hk (fun cx=>cx.vy 2 (ex_bne (x:=.tmp 40) (y:=.tmp 43) rfl (cx.u 0 rfl) (cx.u 1 rfl))) <|
   hk (fun cx=>cx.q (ex_pt rfl (cx.u 0 rfl) (cx.u 1 rfl))) <|
   kmu 0 <|
   hn) ?_
  intro a7 w7 f7
  refine wp_seq ?_
  have b_g1_20:=f7.k (f4.k (f3.k (f2.k b_g1)))
  have s0_21:=f7.q 0 s0_16
  have s8_22:=f7.q 8 s8_19
  have s10_23:=f7.q 10 (f4.v 7 rfl rfl rfl)
  have s6_24:=f7.q 6 (f4.q 6 (f3.q 6 (f2.q 6 u_g1)))
  refine go_reg [⟨g1,28,(fC zF),some 5,(fC (aftF w (subV w a b) (decide ((cutI a w) < (cutI b w))) ((negB w (subV w a b)) != (negB w a))))⟩] [] [some (.int .i8 w),some (.int .u64 (subV w a b)),some (.bool (decide ((cutI a w) < (cutI b w)))),some (.bool ((negB w (subV w a b)) != (negB w a))),some (.agg (fC (aftF w (subV w a b) (decide ((cutI a w) < (cutI b w))) ((negB w (subV w a b)) != (negB w a))))),none,some (.int .i64 0)] mo f7.d f7.z f7.b (by kernel_rfl) ⟨b_g1_20,trivial⟩ (
   hk (fun cx=>cx.q (ex_mv rfl (cx.rq 0 s0_21))) <|
   hk (fun cx=>cx.q (ex_mv rfl (cx.rq 8 s8_22))) <|
   hk (fun cx=>cx.q (ex_mv rfl (cx.rq 10 s10_23))) <|
   hk (fun cx=>cx.q (ex_mv rfl (cx.rq 11 (f7.v 16 rfl rfl rfl)))) <|
   hc (fun _ _ wx cx=>cx.c rfl (args4 (cx.u 0 rfl) (cx.u 1 rfl) (cx.u 2 rfl) (cx.u 3 rfl)) Tryz.func144 (by decide +kernel) (after_n w (subV w a b) (decide ((cutI a w) < (cutI b w))) ((negB w (subV w a b)) != (negB w a)) wx hl) rfl rfl) <|
   hk (fun cx=>cx.stR (wn rfl) rfl rfl 0 rfl (cx.rq 6 s6_24) (cx.u 0 rfl) (by kernel_rfl) (Eq.refl 5) (by simp [Value.oneCell']) q_g1 rfl trivial trivial) <|
   hk (fun cx=>cx.q (ex_as rfl rfl)) <|
   hn) ?_
  intro a8 w8 f8
  refine wp_ret ?_
  have s6_25:=f8.q 6 s6_24
  try simp only [Exit.inBlock,Exit.then]
  refine bodyPost_ret (res_ct (fn:=Tryz.f112) rfl s6_25 (load_row 28 f8.rows.1 Tryz.underlying28 rfl (by kernel_rfl)) (f8.v 6 rfl rfl rfl)) f8.d ?_
  have HE:(.tuple #[.agg (fC (aftF w (subV w a b) (decide ((cutI a w) < (cutI b w))) ((negB w (subV w a b)) != (negB w a)))),.int .i64 0]:Value)=.tuple #[.agg (fC (aftF w (subV w a b) (decide (cutI a w < cutI b w)) (overS w a b (subV w a b)))),.int .i64 0]:=by unfold overS;simp only [Ffk1.out,Bool.true_and,Bool.and_true,Bool.false_and,Bool.and_false,Bool.or_false,Bool.false_or,Bool.true_or,Bool.or_true,Bool.not_true,Bool.not_false,if_true,if_false,Bool.false_eq_true,Bool.true_eq_false,reduceCtorEq];try rfl
  exact ⟨retV HE,f8.b⟩
theorem sub_f (w a b:Int) (W:World) (ha:0 ≤ a ∧ a < 18446744073709551616) (hb:0 ≤ b ∧ b < 18446744073709551616) (hl:longB w=false):Calls Tryz.prog 112 #[.int .i8 w,.int .u64 a,.int .u64 b] W fun e w'=>e=.returned (.tuple #[.agg (fC zF),.int .i64 2]) ∧ Below W.heap.size W w':=by
  refine calls_abs Tryz.func112 rfl (Nat.le_of_ble_eq_true rfl) ?_
  intro a0 d0 z0 h0
  replace z0:a0.tmps.size=51:=z0
  have s0_0:a0.tmps.getD 0 undef=.int .i8 w:=h0 0 (Nat.le_of_ble_eq_true rfl)
  have s1_0:a0.tmps.getD 1 undef=.int .u64 a:=h0 1 (Nat.le_of_ble_eq_true rfl)
  have s2_0:a0.tmps.getD 2 undef=.int .u64 b:=h0 2 (Nat.le_of_ble_eq_true rfl)
  refine wp_seq ?_
  refine go_reg [] [⟨0,6,28,(fC zF),none,#[]⟩] [none,some (.int .i64 0)] mo d0 z0 (Below.refl _ _) (by kernel_rfl) trivial (
   hk (fun cx=>cx.al (wn rfl) 0 rfl (al_f rfl) rfl rfl rfl rfl rfl trivial) <|
   hk (fun cx=>cx.q (ex_as rfl rfl)) <|
   hn) ?_
  intro a1 w1 f1
  obtain ⟨g1,u_g1,q_g1,b_g1⟩:=f1.al.1
  refine wp_seq ?_
  have s0_1:=f1.q 0 s0_0
  have s1_2:=f1.q 1 s1_0
  have s2_3:=f1.q 2 s2_0
  refine go_reg [] [] [some (.int .i8 w),some (.int .u64 a),some (.int .u64 b),some (.tuple #[.int .u64 (doI 1 w a b),.int .i64 (doE 1 w)]),some (.tuple #[.int .u64 (doI 1 w a b),.int .i64 (doE 1 w)]),some (.int .u64 (doI 1 w a b)),some (.int .i64 2),some (.int .u64 (doI 1 w a b)),some (.int .i64 2)] mo f1.d f1.z f1.b (by kernel_rfl) trivial (
   hk (fun cx=>cx.q (ex_mv rfl (cx.rq 0 s0_1))) <|
   hk (fun cx=>cx.q (ex_mv rfl (cx.rq 1 s1_2))) <|
   hk (fun cx=>cx.q (ex_mv rfl (cx.rq 2 s2_3))) <|
   hc (fun _ _ wx cx=>cx.c rfl (args4 rfl (cx.u 0 rfl) (cx.u 1 rfl) (cx.u 2 rfl)) Tryz.func113 (by decide +kernel) (do_any 1 w a b wx ha.1 ha.2 hb.1 hb.2) rfl rfl) <|
   kmu 0 <|
   hk (fun cx=>cx.q (ex_ext (x:=.tmp 12) rfl (cx.u 0 rfl) rfl)) <|
   hk (fun cx=>cx.v (ex_ext (x:=.tmp 12) rfl (cx.u 0 rfl) rfl) rfl (congrArg (Value.int .i64) (doE_f hl))) <|
   kmu 0 <|
   kmu 0 <|
   hn) ?_
  intro a2 w2 f2
  refine wp_seq ?_
  refine wp_seq ?_
  refine go_reg [] [] [some (.int .i64 2),oT] mo f2.d f2.z f2.b (by kernel_rfl) trivial (
   hk (fun cx=>cx.q (ex_mv rfl (cx.rq 9 (f2.v 8 rfl rfl rfl)))) <|
   hk (fun cx=>cx.v (ex_ne (x:=.tmp 19) rfl (cx.u 0 rfl) rfl) rfl (congrArg Value.bool (by decide))) <|
   hn) ?_
  intro a3 w3 f3
  refine wp_cond_true (f3.v 1 rfl rfl rfl) ?_
  refine wp_seq ?_
  have b_g1_4:=f3.k (f2.k b_g1)
  have s9_5:=f3.q 9 (f2.v 8 rfl rfl rfl)
  have s6_6:=f3.q 6 (f2.q 6 u_g1)
  refine go_reg [⟨g1,28,(fC zF),some 2,(fC zF)⟩] [] [some (.agg (fC zF)),some (.int .i64 2),none,some (.int .i64 2)] mo f3.d f3.z f3.b (by kernel_rfl) ⟨b_g1_4,trivial⟩ (
   hc (fun _ _ wx cx=>cx.c rfl (args0 ) Tryz.func39 (by decide +kernel) (none_n wx) rfl rfl) <|
   hk (fun cx=>cx.q (ex_mv rfl (cx.rq 9 s9_5))) <|
   hk (fun cx=>cx.stR (wn rfl) rfl rfl 0 rfl (cx.rq 6 s6_6) (cx.u 0 rfl) (by kernel_rfl) (Eq.refl 5) (by simp [Value.oneCell']) q_g1 rfl trivial trivial) <|
   kmu 0 <|
   hn) ?_
  intro a4 w4 f4
  refine wp_ret ?_
  have s6_7:=f4.q 6 s6_6
  try simp only [Exit.inBlock,Exit.then]
  refine bodyPost_ret (res_ct (fn:=Tryz.f112) rfl s6_7 (load_row 28 f4.rows.1 Tryz.underlying28 rfl (by kernel_rfl)) (f4.v 3 rfl rfl rfl)) f4.d ?_
  exact ⟨rfl,f4.b⟩
theorem of_t (w v:Int) (W:World) (hv:0 ≤ v ∧ v < 18446744073709551616) (hl:longB w=true):Calls Tryz.prog 145 #[.int .i8 w,.int .u64 v] W fun e w'=>e=.returned (.tuple #[.agg (fC (aftF w (cutI v w) false false)),.int .i64 0]) ∧ Below W.heap.size W w':=by
  refine calls_abs Tryz.func145 rfl (Nat.le_of_ble_eq_true rfl) ?_
  intro a0 d0 z0 h0
  replace z0:a0.tmps.size=21:=z0
  have s0_0:a0.tmps.getD 0 undef=.int .i8 w:=h0 0 (Nat.le_of_ble_eq_true rfl)
  have s1_0:a0.tmps.getD 1 undef=.int .u64 v:=h0 1 (Nat.le_of_ble_eq_true rfl)
  refine wp_seq ?_
  refine go_reg [] [⟨0,4,28,(fC zF),none,#[]⟩] [none,some (.int .i64 0)] mo d0 z0 (Below.refl _ _) (by kernel_rfl) trivial (
   hk (fun cx=>cx.al (wn rfl) 0 rfl (al_f rfl) rfl rfl rfl rfl rfl trivial) <|
   hk (fun cx=>cx.q (ex_as rfl rfl)) <|
   hn) ?_
  intro a1 w1 f1
  obtain ⟨g1,u_g1,q_g1,b_g1⟩:=f1.al.1
  refine wp_seq ?_
  have s0_1:=f1.q 0 s0_0
  have s1_2:=f1.q 1 s1_0
  refine go_reg [] [] [some (.int .i8 w),some (.int .u64 v),some (.tuple #[.int .u64 (doI 11 w 0 v),.int .i64 (doE 11 w)]),some (.tuple #[.int .u64 (doI 11 w 0 v),.int .i64 (doE 11 w)]),some (.int .u64 (cutI v w)),some (.int .i64 0),some (.int .u64 (cutI v w)),some (.int .i64 0)] mo f1.d f1.z f1.b (by kernel_rfl) trivial (
   hk (fun cx=>cx.q (ex_mv rfl (cx.rq 0 s0_1))) <|
   hk (fun cx=>cx.q (ex_mv rfl (cx.rq 1 s1_2))) <|
   hc (fun _ _ wx cx=>cx.c rfl (args4 rfl (cx.u 0 rfl) rfl (cx.u 1 rfl)) Tryz.func113 (by decide +kernel) (do_any 11 w 0 v wx (by omega) (by omega) hv.1 hv.2) rfl rfl) <|
   kmu 0 <|
   hk (fun cx=>cx.v (ex_ext (x:=.tmp 8) rfl (cx.u 0 rfl) rfl) rfl (congrArg (Value.int .u64) (doI11 hl v))) <|
   hk (fun cx=>cx.v (ex_ext (x:=.tmp 8) rfl (cx.u 0 rfl) rfl) rfl (congrArg (Value.int .i64) (doE_t hl (by decide) (by decide)))) <|
   kmu 0 <|
   kmu 0 <|
   hn) ?_
  intro a2 w2 f2
  refine wp_seq ?_
  refine wp_seq ?_
  refine go_reg [] [] [some (.int .i64 0),oF] mo f2.d f2.z f2.b (by kernel_rfl) trivial (
   hk (fun cx=>cx.q (ex_mv rfl (cx.rq 7 (f2.v 7 rfl rfl rfl)))) <|
   hk (fun cx=>cx.v (ex_ne (x:=.tmp 14) rfl (cx.u 0 rfl) rfl) rfl (congrArg Value.bool (by decide))) <|
   hn) ?_
  intro a3 w3 f3
  refine wp_cond_false (f3.v 1 rfl rfl rfl) ?_
  refine wp_skip ?_
  refine wp_seq ?_
  have b_g1_3:=f3.k (f2.k b_g1)
  have s0_4:=f3.q 0 (f2.q 0 s0_1)
  have s6_5:=f3.q 6 (f2.v 6 rfl rfl rfl)
  have s4_6:=f3.q 4 (f2.q 4 u_g1)
  refine go_reg [⟨g1,28,(fC zF),some 3,(fC (aftF w (cutI v w) false false))⟩] [] [some (.int .i8 w),some (.int .u64 (cutI v w)),some (.agg (fC (aftF w (cutI v w) false false))),none,some (.int .i64 0)] mo f3.d f3.z f3.b (by kernel_rfl) ⟨b_g1_3,trivial⟩ (
   hk (fun cx=>cx.q (ex_mv rfl (cx.rq 0 s0_4))) <|
   hk (fun cx=>cx.q (ex_mv rfl (cx.rq 6 s6_5))) <|
   hc (fun _ _ wx cx=>cx.c rfl (args4 (cx.u 0 rfl) (cx.u 1 rfl) rfl rfl) Tryz.func144 (by decide +kernel) (after_n w (cutI v w) false false wx hl) rfl rfl) <|
   hk (fun cx=>cx.stR (wn rfl) rfl rfl 0 rfl (cx.rq 4 s4_6) (cx.u 0 rfl) (by kernel_rfl) (Eq.refl 5) (by simp [Value.oneCell']) q_g1 rfl trivial trivial) <|
   hk (fun cx=>cx.q (ex_as rfl rfl)) <|
   hn) ?_
  intro a4 w4 f4
  refine wp_ret ?_
  have s4_7:=f4.q 4 s4_6
  try simp only [Exit.inBlock,Exit.then]
  refine bodyPost_ret (res_ct (fn:=Tryz.f145) rfl s4_7 (load_row 28 f4.rows.1 Tryz.underlying28 rfl (by kernel_rfl)) (f4.v 4 rfl rfl rfl)) f4.d ?_
  exact ⟨rfl,f4.b⟩
theorem of_f (w v:Int) (W:World) (hv:0 ≤ v ∧ v < 18446744073709551616) (hl:longB w=false):Calls Tryz.prog 145 #[.int .i8 w,.int .u64 v] W fun e w'=>e=.returned (.tuple #[.agg (fC zF),.int .i64 2]) ∧ Below W.heap.size W w':=by
  refine calls_abs Tryz.func145 rfl (Nat.le_of_ble_eq_true rfl) ?_
  intro a0 d0 z0 h0
  replace z0:a0.tmps.size=21:=z0
  have s0_0:a0.tmps.getD 0 undef=.int .i8 w:=h0 0 (Nat.le_of_ble_eq_true rfl)
  have s1_0:a0.tmps.getD 1 undef=.int .u64 v:=h0 1 (Nat.le_of_ble_eq_true rfl)
  refine wp_seq ?_
  refine go_reg [] [⟨0,4,28,(fC zF),none,#[]⟩] [none,some (.int .i64 0)] mo d0 z0 (Below.refl _ _) (by kernel_rfl) trivial (
   hk (fun cx=>cx.al (wn rfl) 0 rfl (al_f rfl) rfl rfl rfl rfl rfl trivial) <|
   hk (fun cx=>cx.q (ex_as rfl rfl)) <|
   hn) ?_
  intro a1 w1 f1
  obtain ⟨g1,u_g1,q_g1,b_g1⟩:=f1.al.1
  refine wp_seq ?_
  have s0_1:=f1.q 0 s0_0
  have s1_2:=f1.q 1 s1_0
  refine go_reg [] [] [some (.int .i8 w),some (.int .u64 v),some (.tuple #[.int .u64 (doI 11 w 0 v),.int .i64 (doE 11 w)]),some (.tuple #[.int .u64 (doI 11 w 0 v),.int .i64 (doE 11 w)]),some (.int .u64 (doI 11 w 0 v)),some (.int .i64 2),some (.int .u64 (doI 11 w 0 v)),some (.int .i64 2)] mo f1.d f1.z f1.b (by kernel_rfl) trivial (
   hk (fun cx=>cx.q (ex_mv rfl (cx.rq 0 s0_1))) <|
   hk (fun cx=>cx.q (ex_mv rfl (cx.rq 1 s1_2))) <|
   hc (fun _ _ wx cx=>cx.c rfl (args4 rfl (cx.u 0 rfl) rfl (cx.u 1 rfl)) Tryz.func113 (by decide +kernel) (do_any 11 w 0 v wx (by omega) (by omega) hv.1 hv.2) rfl rfl) <|
   kmu 0 <|
   hk (fun cx=>cx.q (ex_ext (x:=.tmp 8) rfl (cx.u 0 rfl) rfl)) <|
   hk (fun cx=>cx.v (ex_ext (x:=.tmp 8) rfl (cx.u 0 rfl) rfl) rfl (congrArg (Value.int .i64) (doE_f hl))) <|
   kmu 0 <|
   kmu 0 <|
   hn) ?_
  intro a2 w2 f2
  refine wp_seq ?_
  refine wp_seq ?_
  refine go_reg [] [] [some (.int .i64 2),oT] mo f2.d f2.z f2.b (by kernel_rfl) trivial (
   hk (fun cx=>cx.q (ex_mv rfl (cx.rq 7 (f2.v 7 rfl rfl rfl)))) <|
   hk (fun cx=>cx.v (ex_ne (x:=.tmp 14) rfl (cx.u 0 rfl) rfl) rfl (congrArg Value.bool (by decide))) <|
   hn) ?_
  intro a3 w3 f3
  refine wp_cond_true (f3.v 1 rfl rfl rfl) ?_
  refine wp_seq ?_
  have b_g1_3:=f3.k (f2.k b_g1)
  have s7_4:=f3.q 7 (f2.v 7 rfl rfl rfl)
  have s4_5:=f3.q 4 (f2.q 4 u_g1)
  refine go_reg [⟨g1,28,(fC zF),some 2,(fC zF)⟩] [] [some (.agg (fC zF)),some (.int .i64 2),none,some (.int .i64 2)] mo f3.d f3.z f3.b (by kernel_rfl) ⟨b_g1_3,trivial⟩ (
   hc (fun _ _ wx cx=>cx.c rfl (args0 ) Tryz.func39 (by decide +kernel) (none_n wx) rfl rfl) <|
   hk (fun cx=>cx.q (ex_mv rfl (cx.rq 7 s7_4))) <|
   hk (fun cx=>cx.stR (wn rfl) rfl rfl 0 rfl (cx.rq 4 s4_5) (cx.u 0 rfl) (by kernel_rfl) (Eq.refl 5) (by simp [Value.oneCell']) q_g1 rfl trivial trivial) <|
   kmu 0 <|
   hn) ?_
  intro a4 w4 f4
  refine wp_ret ?_
  have s4_6:=f4.q 4 s4_5
  try simp only [Exit.inBlock,Exit.then]
  refine bodyPost_ret (res_ct (fn:=Tryz.f145) rfl s4_6 (load_row 28 f4.rows.1 Tryz.underlying28 rfl (by kernel_rfl)) (f4.v 3 rfl rfl rfl)) f4.d ?_
  exact ⟨rfl,f4.b⟩
theorem add_n (w a b:Int) (W:World) (ha:0 ≤ a ∧ a < 18446744073709551616) (hb:0 ≤ b ∧ b < 18446744073709551616):Calls Tryz.prog 108 #[.int .i8 w,.int .u64 a,.int .u64 b] W fun e w'=>e=.returned (.tuple #[.agg (fC (addF w a b)),.int .i64 (errW w)]) ∧ Below W.heap.size W w':=by
  cases hl:longB w
  · rw [show addF w a b=zF from if_neg (by simp [hl]),show errW w=2 from if_neg (by simp [hl])]
    exact add_f w a b W ha hb hl
  · rw [show addF w a b=_ from if_pos hl,show errW w=0 from if_pos hl]
    exact add_t w a b W ha hb hl
theorem sub_n (w a b:Int) (W:World) (ha:0 ≤ a ∧ a < 18446744073709551616) (hb:0 ≤ b ∧ b < 18446744073709551616):Calls Tryz.prog 112 #[.int .i8 w,.int .u64 a,.int .u64 b] W fun e w'=>e=.returned (.tuple #[.agg (fC (subF w a b)),.int .i64 (errW w)]) ∧ Below W.heap.size W w':=by
  cases hl:longB w
  · rw [show subF w a b=zF from if_neg (by simp [hl]),show errW w=2 from if_neg (by simp [hl])]
    exact sub_f w a b W ha hb hl
  · rw [show subF w a b=_ from if_pos hl,show errW w=0 from if_pos hl]
    exact sub_t w a b W ha hb hl
theorem of_n (w v:Int) (W:World) (hv:0 ≤ v ∧ v < 18446744073709551616):Calls Tryz.prog 145 #[.int .i8 w,.int .u64 v] W fun e w'=>e=.returned (.tuple #[.agg (fC (ofF w v)),.int .i64 (errW w)]) ∧ Below W.heap.size W w':=by
  cases hl:longB w
  · rw [show ofF w v=zF from if_neg (by simp [hl]),show errW w=2 from if_neg (by simp [hl])]
    exact of_f w v W hv hl
  · rw [show ofF w v=_ from if_pos hl,show errW w=0 from if_pos hl]
    exact of_t w v W hv hl
end Go.Proofs.YtbpehbeakhocnaaGreatDoor.Flg
