import Derived.Test.YtcnneeimkcnjfaaStW
import Derived.Test.YtcnneeimkcnjfaaStJ
import Derived.Test.YtcnneeimkcnjfaaStK
import Derived.Test.YtcnneeimkcnjfaaStF
namespace Go.Proofs.Ytcnneeimkcnjfaa.Sta
open Go.RowKit Bnd Knw
set_option linter.unusedVariables false
set_option linter.unusedSimpArgs false
set_option linter.unnecessarySimpa false
set_option maxRecDepth 100000
set_option maxHeartbeats 4000000 in
theorem tells_law0 (a:St) (t:Ty) (x:Snp) (v:B) (lo hi size:Int) (W:World) (ha:OkS a) (ht:t.Ok) (hx:x.Ok):Calls Try.prog 3 #[.agg (stC a),.agg (tyC t),.agg (snC x),.int .u64 (V v),.int .i64 lo,.int .i64 hi,.int .i64 size] W fun e w'=>e=.returned (.bool true) ∧ Below W.heap.size W w':=by
  have HA:=Lib.hid ha
  have HT:=Lib.hid ht
  have HX:=Lib.hid hx
  clear ha ht hx
  refine calls_abs Try.func3 rfl (Nat.le_of_ble_eq_true rfl) ?_
  intro a0 d0 z0 h0
  replace z0:a0.tmps.size=118:=z0
  have s0_0:a0.tmps.getD 0 undef=.agg (stC a):=h0 0 (Nat.le_of_ble_eq_true rfl)
  have s1_0:a0.tmps.getD 1 undef=.agg (tyC t):=h0 1 (Nat.le_of_ble_eq_true rfl)
  have s2_0:a0.tmps.getD 2 undef=.agg (snC x):=h0 2 (Nat.le_of_ble_eq_true rfl)
  have s3_0:a0.tmps.getD 3 undef=.int .u64 (V v):=h0 3 (Nat.le_of_ble_eq_true rfl)
  have s4_0:a0.tmps.getD 4 undef=.int .i64 lo:=h0 4 (Nat.le_of_ble_eq_true rfl)
  have s5_0:a0.tmps.getD 5 undef=.int .i64 hi:=h0 5 (Nat.le_of_ble_eq_true rfl)
  have s6_0:a0.tmps.getD 6 undef=.int .i64 size:=h0 6 (Nat.le_of_ble_eq_true rfl)
  refine wp_seq ?_
  refine go_reg [] [⟨0,7,35,(stC a),none,#[]⟩,⟨1,8,31,(tyC t),none,#[]⟩,⟨2,9,39,(snC x),none,#[]⟩] [none,none,none,oF] mo d0 z0 (Below.refl _ _) (by kernel_rfl) trivial (
   hk (fun cx=>cx.al (wn rfl) 0 rfl (ex_box rfl (cx.rq 0 s0_0) rfl) rfl rfl rfl rfl rfl trivial) <|
   hk (fun cx=>cx.al (wn rfl) 1 rfl (ex_box rfl (cx.rq 1 s1_0) rfl) rfl rfl rfl rfl rfl trivial) <|
   hk (fun cx=>cx.al (wn rfl) 2 rfl (ex_box rfl (cx.rq 2 s2_0) rfl) rfl rfl rfl rfl rfl trivial) <|
   hk (fun cx=>cx.q (ex_as rfl rfl)) <|
   hn) ?_
  intro a1 w1 f1
  obtain ⟨g1,u_g1,q_g1,b_g1⟩:=f1.al.1
  obtain ⟨g2,u_g2,q_g2,b_g2⟩:=f1.al.2.1
  obtain ⟨g3,u_g3,q_g3,b_g3⟩:=f1.al.2.2.1
  refine wp_seq ?_
  have s4_1:=f1.q 4 s4_0
  have s5_2:=f1.q 5 s5_0
  have s6_3:=f1.q 6 s6_0
  refine go_reg [bx g1 35 (stC a)] [⟨8,15,31,(tyC tZ),some 9,(tyC (loadR a lo hi size))⟩] [some (.agg (stC a)),some (.int .i64 lo),some (.int .i64 hi),some (.int .i64 size),some (.tuple #[.agg (tyC (loadR a lo hi size)),.int .i64 (loadE a lo hi size)]),some (.tuple #[.agg (tyC (loadR a lo hi size)),.int .i64 (loadE a lo hi size)]),some (.agg (tyC (loadR a lo hi size))),some (.int .i64 (loadE a lo hi size)),none,none,some (.int .i64 (loadE a lo hi size))] mo f1.d f1.z f1.b (by kernel_rfl) ⟨b_g1,trivial⟩ (
   hk (fun cx=>cx.q (ldSt rfl (cx.rq 7 u_g1) (cx.rn 0 rfl))) <|
   hk (fun cx=>cx.q (ex_mv rfl (cx.rq 4 s4_1))) <|
   hk (fun cx=>cx.q (ex_mv rfl (cx.rq 5 s5_2))) <|
   hk (fun cx=>cx.q (ex_mv rfl (cx.rq 6 s6_3))) <|
   hc (fun _ _ wx cx=>cx.c rfl (args4 (cx.u 0 rfl) (cx.u 1 rfl) (cx.u 2 rfl) (cx.u 3 rfl)) Try.func7 (by decide +kernel) (tload_n a lo hi size wx) rfl rfl) <|
   kmu 0 <|
   hk (fun cx=>cx.q (ex_ext (x:=.tmp 23) rfl (cx.u 0 rfl) rfl)) <|
   hk (fun cx=>cx.q (ex_ext (x:=.tmp 23) rfl (cx.u 0 rfl) rfl)) <|
   hk (fun cx=>cx.al (wn rfl) 0 rfl (al_ty rfl) rfl rfl rfl rfl (by kernel_rfl) trivial) <|
   hk (fun cx=>cx.stA (wn rfl) rfl rfl 0 0 rfl rfl rfl rfl (cx.u 1 rfl) (by kernel_rfl) (Eq.refl 9) (tyC_one _) f1.b.size rfl rfl trivial) <|
   kmu 0 <|
   hn) ?_
  intro a2 w2 f2
  obtain ⟨g4,u_g4,q_g4,b_g4⟩:=f2.al.1
  refine wp_seq ?_
  have b_g1_4:=f2.k b_g1
  have s7_5:=f2.q 7 u_g1
  have s4_6:=f2.q 4 s4_1
  have s5_7:=f2.q 5 s5_2
  have s6_8:=f2.q 6 s6_3
  refine go_reg [bx g1 35 (stC a)] [⟨8,17,31,(tyC tZ),some 9,(tyC (loadR a lo hi size))⟩] [some (.agg (stC a)),some (.int .i64 lo),some (.int .i64 hi),some (.int .i64 size),some (.tuple #[.agg (tyC (loadR a lo hi size)),.int .i64 (loadE a lo hi size)]),some (.tuple #[.agg (tyC (loadR a lo hi size)),.int .i64 (loadE a lo hi size)]),some (.agg (tyC (loadR a lo hi size))),some (.int .i64 (loadE a lo hi size)),none,none,some (.int .i64 (loadE a lo hi size))] mo f2.d f2.z f2.b (by kernel_rfl) ⟨b_g1_4,trivial⟩ (
   hk (fun cx=>cx.q (ldSt rfl (cx.rq 7 s7_5) (cx.rn 0 rfl))) <|
   hk (fun cx=>cx.q (ex_mv rfl (cx.rq 4 s4_6))) <|
   hk (fun cx=>cx.q (ex_mv rfl (cx.rq 5 s5_7))) <|
   hk (fun cx=>cx.q (ex_mv rfl (cx.rq 6 s6_8))) <|
   hc (fun _ _ wx cx=>cx.c rfl (args4 (cx.u 0 rfl) (cx.u 1 rfl) (cx.u 2 rfl) (cx.u 3 rfl)) Try.func8 (by decide +kernel) (qload_n a lo hi size wx) rfl rfl) <|
   kmu 0 <|
   hk (fun cx=>cx.q (ex_ext (x:=.tmp 31) rfl (cx.u 0 rfl) rfl)) <|
   hk (fun cx=>cx.q (ex_ext (x:=.tmp 31) rfl (cx.u 0 rfl) rfl)) <|
   hk (fun cx=>cx.al (wn rfl) 0 rfl (al_ty rfl) rfl rfl rfl rfl (by kernel_rfl) trivial) <|
   hk (fun cx=>cx.stA (wn rfl) rfl rfl 0 0 rfl rfl rfl rfl (cx.u 1 rfl) (by kernel_rfl) (Eq.refl 9) (tyC_one _) f2.b.size rfl rfl trivial) <|
   kmu 0 <|
   hn) ?_
  intro a3 w3 f3
  obtain ⟨g5,u_g5,q_g5,b_g5⟩:=f3.al.1
  refine wp_seq ?_
  have b_g1_9:=f3.k b_g1_4
  have b_g2_10:=f3.k (f2.k b_g2)
  have s7_11:=f3.q 7 s7_5
  have s4_12:=f3.q 4 s4_6
  have s5_13:=f3.q 5 s5_7
  have s6_14:=f3.q 6 s6_8
  have s8_15:=f3.q 8 (f2.q 8 u_g2)
  refine go_reg [bx g1 35 (stC a),bx g2 31 (tyC t)] [⟨9,19,35,(stC zS),some 10,(stC (storeR a lo hi size t))⟩] [some (.agg (stC a)),some (.int .i64 lo),some (.int .i64 hi),some (.int .i64 size),some (.agg (tyC t)),some (.tuple #[.agg (stC (storeR a lo hi size t)),.int .i64 (storeE a lo hi size t)]),some (.tuple #[.agg (stC (storeR a lo hi size t)),.int .i64 (storeE a lo hi size t)]),some (.agg (stC (storeR a lo hi size t))),some (.int .i64 (storeE a lo hi size t)),none,none,some (.int .i64 (storeE a lo hi size t))] mo f3.d f3.z f3.b (by kernel_rfl) ⟨b_g1_9,b_g2_10,trivial⟩ (
   hk (fun cx=>cx.q (ldSt rfl (cx.rq 7 s7_11) (cx.rn 0 rfl))) <|
   hk (fun cx=>cx.q (ex_mv rfl (cx.rq 4 s4_12))) <|
   hk (fun cx=>cx.q (ex_mv rfl (cx.rq 5 s5_13))) <|
   hk (fun cx=>cx.q (ex_mv rfl (cx.rq 6 s6_14))) <|
   hk (fun cx=>cx.q (ldTy rfl (cx.rq 8 s8_15) (cx.rn 1 rfl))) <|
   hc (fun _ _ wx cx=>cx.c rfl (args5 (cx.u 0 rfl) (cx.u 1 rfl) (cx.u 2 rfl) (cx.u 3 rfl) (cx.u 4 rfl)) Try.func9 (by decide +kernel) (tstore_n a lo hi size t wx) rfl rfl) <|
   kmu 0 <|
   hk (fun cx=>cx.q (ex_ext (x:=.tmp 39) rfl (cx.u 0 rfl) rfl)) <|
   hk (fun cx=>cx.q (ex_ext (x:=.tmp 39) rfl (cx.u 0 rfl) rfl)) <|
   hk (fun cx=>cx.al (wn rfl) 0 rfl (al_st rfl) rfl rfl rfl rfl (by kernel_rfl) trivial) <|
   hk (fun cx=>cx.stA (wn rfl) rfl rfl 0 0 rfl rfl rfl rfl (cx.u 1 rfl) (st_info _) ((stC_size _).trans (stC_size _).symm) (stC_one _) f3.b.size rfl rfl trivial) <|
   kmu 0 <|
   hn) ?_
  intro a4 w4 f4
  obtain ⟨g6,u_g6,q_g6,b_g6⟩:=f4.al.1
  refine wp_seq ?_
  have b_g1_16:=f4.k b_g1_9
  have b_g2_17:=f4.k b_g2_10
  have s7_18:=f4.q 7 s7_11
  have s4_19:=f4.q 4 s4_12
  have s5_20:=f4.q 5 s5_13
  have s6_21:=f4.q 6 s6_14
  have s8_22:=f4.q 8 s8_15
  refine go_reg [bx g1 35 (stC a),bx g2 31 (tyC t)] [⟨9,21,35,(stC zS),some 10,(stC (storeR a lo hi size t))⟩] [some (.agg (stC a)),some (.int .i64 lo),some (.int .i64 hi),some (.int .i64 size),some (.agg (tyC t)),some (.tuple #[.agg (stC (storeR a lo hi size t)),.int .i64 (storeE a lo hi size t)]),some (.tuple #[.agg (stC (storeR a lo hi size t)),.int .i64 (storeE a lo hi size t)]),some (.agg (stC (storeR a lo hi size t))),some (.int .i64 (storeE a lo hi size t)),none,none,some (.int .i64 (storeE a lo hi size t))] mo f4.d f4.z f4.b (by kernel_rfl) ⟨b_g1_16,b_g2_17,trivial⟩ (
   hk (fun cx=>cx.q (ldSt rfl (cx.rq 7 s7_18) (cx.rn 0 rfl))) <|
   hk (fun cx=>cx.q (ex_mv rfl (cx.rq 4 s4_19))) <|
   hk (fun cx=>cx.q (ex_mv rfl (cx.rq 5 s5_20))) <|
   hk (fun cx=>cx.q (ex_mv rfl (cx.rq 6 s6_21))) <|
   hk (fun cx=>cx.q (ldTy rfl (cx.rq 8 s8_22) (cx.rn 1 rfl))) <|
   hc (fun _ _ wx cx=>cx.c rfl (args5 (cx.u 0 rfl) (cx.u 1 rfl) (cx.u 2 rfl) (cx.u 3 rfl) (cx.u 4 rfl)) Try.func10 (by decide +kernel) (qstore_n a lo hi size t wx) rfl rfl) <|
   kmu 0 <|
   hk (fun cx=>cx.q (ex_ext (x:=.tmp 48) rfl (cx.u 0 rfl) rfl)) <|
   hk (fun cx=>cx.q (ex_ext (x:=.tmp 48) rfl (cx.u 0 rfl) rfl)) <|
   hk (fun cx=>cx.al (wn rfl) 0 rfl (al_st rfl) rfl rfl rfl rfl (by kernel_rfl) trivial) <|
   hk (fun cx=>cx.stA (wn rfl) rfl rfl 0 0 rfl rfl rfl rfl (cx.u 1 rfl) (st_info _) ((stC_size _).trans (stC_size _).symm) (stC_one _) f4.b.size rfl rfl trivial) <|
   kmu 0 <|
   hn) ?_
  intro a5 w5 f5
  obtain ⟨g7,u_g7,q_g7,b_g7⟩:=f5.al.1
  refine wp_seq ?_
  refine wp_seq ?_
  have b_g4_23:=f5.k (f4.k (f3.k b_g4))
  have b_g5_24:=f5.k (f4.k b_g5)
  have b_g6_25:=f5.k b_g6
  have s15_26:=f5.q 15 (f4.q 15 (f3.q 15 u_g4))
  have s17_27:=f5.q 17 (f4.q 17 u_g5)
  have s16_28:=f5.q 16 (f4.q 16 (f3.q 16 (f2.v 10 rfl rfl rfl)))
  have s18_29:=f5.q 18 (f4.q 18 (f3.v 10 rfl rfl rfl))
  have s19_30:=f5.q 19 u_g6
  have s20_31:=f5.q 20 (f4.v 11 rfl rfl rfl)
  refine go_reg [bx g4 31 (tyC (loadR a lo hi size)),bx g5 31 (tyC (loadR a lo hi size)),bx g6 35 (stC (storeR a lo hi size t)),bx g7 35 (stC (storeR a lo hi size t))] [] (tabs [some (.agg (tyC (loadR a lo hi size))),some (.agg (tyC (loadR a lo hi size))),oF,oF,some (.int .i64 (loadE a lo hi size)),some (.int .i64 (loadE a lo hi size)),oF,oF,oF,some (.agg (stC (storeR a lo hi size t))),some (.agg (stC (storeR a lo hi size t))),oF,oF,oF,some (.int .i64 (storeE a lo hi size t)),some (.int .i64 (storeE a lo hi size t)),oF,oF,oF,some (.agg (stC firstS))] [some (.agg (stC firstS)),oF,oF,oF,some (.agg (tyC allT)),some (.agg (tyC allT)),oF,oF]) mo f5.d f5.z f5.b (by kernel_rfl) ⟨b_g4_23,b_g5_24,b_g6_25,b_g7,trivial⟩ (
   hk (fun cx=>cx.q (ldTy rfl (cx.rq 15 s15_26) (cx.rn 0 rfl))) <|
   hk (fun cx=>cx.q (ldTy rfl (cx.rq 17 s17_27) (cx.rn 1 rfl))) <|
   hk (fun cx=>cx.v (v:=.bool (!(eqT (loadR a lo hi size) (loadR a lo hi size)))) (exec_neq (x:=.tmp 57) (y:=.tmp 58) rfl (cx.u 0 rfl) (cx.u 1 rfl) (by kernel_rfl) (eq_ty (loadR a lo hi size) (loadR a lo hi size) _)) rfl (congrArg Value.bool (by rw [eqT_refl];rfl))) <|
   kmu 0 <|
   hk (fun cx=>cx.vy 0 (ex_mv rfl (cx.rq 16 s16_28))) <|
   hk (fun cx=>cx.vy 0 (ex_mv rfl (cx.rq 18 s18_29))) <|
   hk (fun cx=>cx.vy 2 (ex_ne (x:=.tmp 61) (y:=.tmp 62) rfl (cx.u 0 rfl) (cx.u 1 rfl)) (congrArg Value.bool (by simp))) <|
   hk (fun cx=>cx.q (ex_pf rfl (cx.u 0 rfl) (cx.u 1 rfl))) <|
   kmu 0 <|
   hk (fun cx=>cx.vy 0 (ldSt rfl (cx.rq 19 s19_30) (cx.rn 2 rfl))) <|
   hk (fun cx=>cx.vy 0 (ldSt rfl (cx.rq 21 u_g7) (cx.rn 3 rfl))) <|
   hk (fun cx=>cx.vy 2 (exec_neq (x:=.tmp 66) (y:=.tmp 67) rfl (cx.u 0 rfl) (cx.u 1 rfl) (by kernel_rfl) (eq_st (storeR a lo hi size t) _))) <|
   hk (fun cx=>cx.q (ex_pf rfl (cx.u 0 rfl) (cx.u 1 rfl))) <|
   kmu 0 <|
   hk (fun cx=>cx.vy 0 (ex_mv rfl (cx.rq 20 s20_31))) <|
   hk (fun cx=>cx.vy 0 (ex_mv rfl (cx.rq 22 (f5.v 11 rfl rfl rfl)))) <|
   hk (fun cx=>cx.vy 2 (ex_ne (x:=.tmp 71) (y:=.tmp 72) rfl (cx.u 0 rfl) (cx.u 1 rfl)) (congrArg Value.bool (by simp))) <|
   hk (fun cx=>cx.q (ex_pf rfl (cx.u 0 rfl) (cx.u 1 rfl))) <|
   kmu 0 <|
   hc (fun _ _ wx cx=>cx.call (cx.wy rfl rfl rfl rfl (cx.u 0 rfl)) rfl rfl (args0 ) Try.func11 (by decide +kernel) rfl (tfirst_n wx) rfl rfl rfl rfl) <|
   hc (fun _ _ wx cx=>cx.call (cx.wy rfl rfl rfl rfl (cx.u 1 rfl)) rfl rfl (args0 ) Try.func12 (by decide +kernel) rfl (qfirst_n wx) rfl rfl rfl rfl) <|
   hk (fun cx=>cx.vy 2 (exec_neq (x:=.tmp 76) (y:=.tmp 77) rfl (cx.u 0 rfl) (cx.u 1 rfl) (by kernel_rfl) (eq_st firstS _))) <|
   hk (fun cx=>cx.q (ex_pf rfl (cx.u 0 rfl) (cx.u 1 rfl))) <|
   kmu 0 <|
   hc (fun _ _ wx cx=>cx.call (cx.wy rfl rfl rfl rfl (cx.u 0 rfl)) rfl rfl (args0 ) Try.func13 (by decide +kernel) rfl (tscalar_n wx) rfl rfl rfl rfl) <|
   hc (fun _ _ wx cx=>cx.call (cx.wy rfl rfl rfl rfl (cx.u 1 rfl)) rfl rfl (args0 ) Try.func14 (by decide +kernel) rfl (qscalar_n wx) rfl rfl rfl rfl) <|
   hk (fun cx=>cx.vy (v:=.bool (!(eqT allT allT))) 2 (exec_neq (x:=.tmp 81) (y:=.tmp 82) rfl (cx.u 0 rfl) (cx.u 1 rfl) (by kernel_rfl) (eq_ty allT allT _)) (congrArg Value.bool (by rw [eqT_refl];rfl))) <|
   hk (fun cx=>cx.q (ex_pf rfl (cx.u 0 rfl) (cx.u 1 rfl))) <|
   hn) ?_
  intro a6 w6 f6
  refine wp_cond_false (f6.v 27 rfl rfl rfl) ?_
  refine wp_skip ?_
  refine wp_seq ?_
  have b_g1_32:=f6.k (f5.k b_g1_16)
  have b_g2_33:=f6.k (f5.k b_g2_17)
  have b_g3_34:=f6.k (f5.k (f4.k (f3.k (f2.k b_g3))))
  have s7_35:=f6.q 7 (f5.q 7 s7_18)
  have s8_36:=f6.q 8 (f5.q 8 s8_22)
  have s3_37:=f6.q 3 (f5.q 3 (f4.q 3 (f3.q 3 (f2.q 3 (f1.q 3 s3_0)))))
  have s9_38:=f6.q 9 (f5.q 9 (f4.q 9 (f3.q 9 (f2.q 9 u_g3))))
  refine go_reg [bx g1 35 (stC a),bx g2 31 (tyC t),bx g3 39 (snC x)] [] (tabs [some (.agg (stC a)),some (.bool (okS a)),some (.agg (stC a)),some (.bool (okS a)),oT,oT,some (.agg (tyC t)),some (.bool (Ty.okB t)),some (.agg (tyC t)),some (.bool (Ty.okB t)),oT,oT,oT,some (.agg (tyC t)),some (.int .u64 (V v)),some (.bool (Ty.holdB t v)),some (.agg (tyC t)),some (.int .u64 (V v)),some (.bool (Ty.holdB t v)),oT] [oT,oT,some (.agg (stC a)),some (.agg (snC x)),some (.bool (hasS a x)),some (.agg (stC a)),some (.agg (snC x)),some (.bool (hasS a x)),oT,oT,oT,oT,oT,oT]) mo f6.d f6.z f6.b (by kernel_rfl) ⟨b_g1_32,b_g2_33,b_g3_34,trivial⟩ (
   hk (fun cx=>cx.q (ldSt rfl (cx.rq 7 s7_35) (cx.rn 0 rfl))) <|
   hc (fun _ _ wx cx=>cx.c rfl (args1 (cx.u 0 rfl)) Try.func15 (by decide +kernel) (tmay_n a wx) rfl rfl) <|
   hk (fun cx=>cx.q (ldSt rfl (cx.rq 7 s7_35) (cx.rn 0 rfl))) <|
   hc (fun _ _ wx cx=>cx.c rfl (args1 (cx.u 0 rfl)) Try.func16 (by decide +kernel) (qmay_n a wx) rfl rfl) <|
   hc (fun _ ax _ cx=>cx.v (v:=.bool ((okS a) == (okS a))) (by simp [execOp,Act.eval,(show ax.tmps.getD 86 undef=.bool (okS a) from (cx.u 0 rfl)),(show ax.tmps.getD 88 undef=.bool (okS a) from (cx.u 1 rfl)),go_sem]) rfl (congrArg Value.bool (by simp))) <|
   kmu 0 <|
   hk (fun cx=>cx.vy 0 (ldTy rfl (cx.rq 8 s8_36) (cx.rn 1 rfl))) <|
   hc (fun _ _ wx cx=>cx.call (cx.wy rfl rfl rfl rfl (cx.u 1 rfl)) rfl rfl (args1 (cx.u 0 rfl)) Try.func17 (by decide +kernel) rfl (ttype_n t wx) rfl rfl rfl rfl) <|
   hk (fun cx=>cx.vy 0 (ldTy rfl (cx.rq 8 s8_36) (cx.rn 1 rfl))) <|
   hc (fun _ _ wx cx=>cx.call (cx.wy rfl rfl rfl rfl (cx.u 2 rfl)) rfl rfl (args1 (cx.u 0 rfl)) Try.func18 (by decide +kernel) rfl (qtype_n t wx) rfl rfl rfl rfl) <|
   hc (fun _ ax _ cx=>cx.vy (v:=.bool ((Ty.okB t) == (Ty.okB t))) 2 (by simp [execOp,Act.eval,(show ax.tmps.getD 92 undef=.bool (Ty.okB t) from (cx.u 0 rfl)),(show ax.tmps.getD 94 undef=.bool (Ty.okB t) from (cx.u 1 rfl)),go_sem]) (congrArg Value.bool (by simp))) <|
   hk (fun cx=>cx.q (ex_pt rfl (cx.u 0 rfl) (cx.u 1 rfl))) <|
   kmu 0 <|
   hk (fun cx=>cx.vy 0 (ldTy rfl (cx.rq 8 s8_36) (cx.rn 1 rfl))) <|
   hk (fun cx=>cx.vy 0 (ex_mv rfl (cx.rq 3 s3_37))) <|
   hc (fun _ _ wx cx=>cx.call (cx.wy rfl rfl rfl rfl (cx.u 2 rfl)) rfl rfl (args2 (cx.u 0 rfl) (cx.u 1 rfl)) Try.func19 (by decide +kernel) rfl (tholds_n t v wx HT.out) rfl rfl rfl rfl) <|
   hk (fun cx=>cx.vy 0 (ldTy rfl (cx.rq 8 s8_36) (cx.rn 1 rfl))) <|
   hk (fun cx=>cx.vy 0 (ex_mv rfl (cx.rq 3 s3_37))) <|
   hc (fun _ _ wx cx=>cx.call (cx.wy rfl rfl rfl rfl (cx.u 3 rfl)) rfl rfl (args2 (cx.u 0 rfl) (cx.u 1 rfl)) Try.func20 (by decide +kernel) rfl (qholds_n t v wx HT.out) rfl rfl rfl rfl) <|
   hc (fun _ ax _ cx=>cx.vy (v:=.bool ((Ty.holdB t v) == (Ty.holdB t v))) 2 (by simp [execOp,Act.eval,(show ax.tmps.getD 100 undef=.bool (Ty.holdB t v) from (cx.u 0 rfl)),(show ax.tmps.getD 103 undef=.bool (Ty.holdB t v) from (cx.u 1 rfl)),go_sem]) (congrArg Value.bool (by simp))) <|
   hk (fun cx=>cx.q (ex_pt rfl (cx.u 0 rfl) (cx.u 1 rfl))) <|
   kmu 0 <|
   hk (fun cx=>cx.vy 0 (ldSt rfl (cx.rq 7 s7_35) (cx.rn 0 rfl))) <|
   hk (fun cx=>cx.vy 0 (ldSn rfl (cx.rq 9 s9_38) (cx.rn 2 rfl))) <|
   hc (fun _ _ wx cx=>cx.call (cx.wy rfl rfl rfl rfl (cx.u 2 rfl)) rfl rfl (args2 (cx.u 0 rfl) (cx.u 1 rfl)) Try.func21 (by decide +kernel) rfl (thas_n a x wx HA.out HX.out) rfl rfl rfl rfl) <|
   hk (fun cx=>cx.vy 0 (ldSt rfl (cx.rq 7 s7_35) (cx.rn 0 rfl))) <|
   hk (fun cx=>cx.vy 0 (ldSn rfl (cx.rq 9 s9_38) (cx.rn 2 rfl))) <|
   hc (fun _ _ wx cx=>cx.call (cx.wy rfl rfl rfl rfl (cx.u 3 rfl)) rfl rfl (args2 (cx.u 0 rfl) (cx.u 1 rfl)) Try.func22 (by decide +kernel) rfl (qhas_n a x wx HA.out HX.out) rfl rfl rfl rfl) <|
   hc (fun _ ax _ cx=>cx.vy (v:=.bool ((hasS a x) == (hasS a x))) 2 (by simp [execOp,Act.eval,(show ax.tmps.getD 109 undef=.bool (hasS a x) from (cx.u 0 rfl)),(show ax.tmps.getD 112 undef=.bool (hasS a x) from (cx.u 1 rfl)),go_sem]) (congrArg Value.bool (by simp))) <|
   hk (fun cx=>cx.q (ex_pt rfl (cx.u 0 rfl) (cx.u 1 rfl))) <|
   kmu 0 <|
   hc (fun _ _ wx cx=>cx.call (cx.wy rfl rfl rfl rfl (cx.u 0 rfl)) rfl rfl (args0 ) Try.func23 (by decide +kernel) rfl (wakes_n wx) rfl rfl rfl rfl) <|
   hk (fun cx=>cx.q (ex_pt rfl (cx.u 0 rfl) (cx.u 1 rfl))) <|
   kmu 0 <|
   hn) ?_
  intro a7 w7 f7
  refine wp_ret ?_
  try simp only [Exit.inBlock,Exit.then]
  refine bodyPost_ret (res_t (fn:=Try.f3) rfl (f7.v 33 rfl rfl rfl)) f7.d ?_
  exact ⟨rfl,f7.b⟩
theorem tells_law (a:St) (t:Ty) (x:Snp) (v lo hi size:Int) (W:World) (ha:OkS a) (ht:t.Ok) (hx:x.Ok) (h1:(Lit.int .u64 v).wf=true) (h2:(Lit.int .i64 lo).wf=true) (h3:(Lit.int .i64 hi).wf=true) (h4:(Lit.int .i64 size).wf=true):
    Calls Try.prog 3 #[.agg (stC a),.agg (tyC t),.agg (snC x),.int .u64 v,.int .i64 lo,.int .i64 hi,.int .i64 size] W fun e w'=>e=.returned (.bool true) ∧ Below W.heap.size W w':=by
  have hv:0 ≤ v ∧ v ≤ 18446744073709551615:=by simpa [Lit.wf,IntKind.min,IntKind.max,IntKind.bits,IntKind.signed] using h1
  have e:v=V (Bk v):=(V_Bk hv.1 (by omega)).symm
  rw [e]
  exact tells_law0 a t x (Bk v) lo hi size W ha ht hx
end Go.Proofs.Ytcnneeimkcnjfaa.Sta
