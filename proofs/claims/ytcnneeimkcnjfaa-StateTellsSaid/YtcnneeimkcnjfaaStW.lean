import Derived.Test.YtcnneeimkcnjfaaStE
namespace Go.Proofs.Ytcnneeimkcnjfaa.Sta
open Go.RowKit Bnd Knw
set_option linter.unusedVariables false
set_option linter.unusedSimpArgs false
set_option linter.unnecessarySimpa false
set_option maxRecDepth 100000
theorem faStW35_0_0 (g:Nat) (w:World):(Instr.fieldAt 35 (.pointer (some ⟨g,0,none⟩)) 0).run Try.prog w=.ok (.pointer (some ⟨g,0,none⟩)) w:=by simp [go_sem]
theorem fxStW31_2 (g o:Nat) (w:World):(Instr.fieldAt 31 (.pointer (some ⟨g,o,none⟩)) 2).run Try.prog w=.ok (.pointer (some ⟨g,o + 7,none⟩)) w:=by simp [go_sem]
theorem z_ok:zSc.Ok:=by
  show Rg.Ok ⟨⟨0,0⟩,⟨0,0⟩⟩
  simp only [Rg.Ok,Pr.U,Pr.S];omega
theorem pt_ok {k l h:Int} (h1:-128 ≤ k) (h2:k < 128) (h3:-9223372036854775808 ≤ l) (h4:l < 9223372036854775808) (h5:-9223372036854775808 ≤ h) (h6:h < 9223372036854775808):Ty.Ok ⟨k,tZ.s,l,h⟩:=⟨⟨h1,h2⟩,z_ok,⟨h3,h4⟩,h5,h6⟩
theorem sct_ok {s:Sc} (h:s.Ok):(scT s).Ok:=⟨⟨(by decide:(-128:Int) ≤ 1),(by decide:(1:Int) < 128)⟩,h,⟨(by decide:(-9223372036854775808:Int) ≤ 0),(by decide:(0:Int) < 9223372036854775808)⟩,(by decide:(-9223372036854775808:Int) ≤ 0),(by decide:(0:Int) < 9223372036854775808)⟩
theorem allT_ok:allT.Ok:=sct_ok allR_ok
theorem upS_ok {S:St} {T:Ty} (h:OkS S) (hT:T.Ok) (j:Nat):OkS (upS S j T):=fun i hi=>by
  unfold upS
  split
  · exact hT
  · exact h i hi
theorem first_ok:OkS firstS:=fun i hi=>by
  unfold firstS
  split
  · exact pt_ok (by decide) (by decide) (by decide) (by decide) (by decide) (by decide)
  split
  · exact pt_ok (by decide) (by decide) (by decide) (by decide) (by decide) (by decide)
  split
  · exact sct_ok (oneR_ok 0#64)
  · exact pt_ok (by decide) (by decide) (by decide) (by decide) (by decide) (by decide)
set_option maxHeartbeats 4000000 in
theorem wakes_n  (W:World):Calls Try.prog 23 #[] W fun e w'=>e=.returned (.bool true) ∧ Below W.heap.size W w':=by
  refine calls_abs Try.func23 rfl (Nat.le_of_ble_eq_true rfl) ?_
  intro a0 d0 z0 h0
  replace z0:a0.tmps.size=61:=z0
  refine wp_seq ?_
  refine go_reg [] [] [oF] mo d0 z0 (Below.refl _ _) (by kernel_rfl) trivial (
   hk (fun cx=>cx.q (ex_as rfl rfl)) <|
   hn) ?_
  intro a1 w1 f1
  refine wp_seq ?_
  refine go_reg [] [⟨1,1,35,(stC zS),some 2,(stC firstS)⟩] [some (.agg (stC firstS)),none,none] mo f1.d f1.z f1.b (by kernel_rfl) trivial (
   hc (fun _ _ wx cx=>cx.c rfl (args0 ) Try.func11 (by decide +kernel) (tfirst_n wx) rfl rfl) <|
   hk (fun cx=>cx.al (wn rfl) 0 rfl (al_st rfl) rfl rfl rfl rfl (by kernel_rfl) trivial) <|
   hk (fun cx=>cx.stA (wn rfl) rfl rfl 0 0 rfl rfl rfl rfl (cx.u 1 rfl) (st_info _) ((stC_size _).trans (stC_size _).symm) (stC_one _) f1.b.size rfl rfl trivial) <|
   hn) ?_
  intro a2 w2 f2
  obtain ⟨g1,u_g1,q_g1,b_g1⟩:=f2.al.1
  refine wp_seq ?_
  refine go_reg [bx g1 35 (stC firstS)] [⟨2,2,35,(stC zS),some 4,(stC firstS)⟩,⟨3,3,35,(stC zS),some 5,(stC firstS)⟩] [some (.agg (stC firstS)),some (.agg (stC firstS)),none,none,none,none] mo f2.d f2.z f2.b (by kernel_rfl) ⟨b_g1,trivial⟩ (
   hk (fun cx=>cx.q (ldSt rfl (cx.rq 1 u_g1) (cx.rn 0 rfl))) <|
   hk (fun cx=>cx.q (ldSt rfl (cx.rq 1 u_g1) (cx.rn 0 rfl))) <|
   hk (fun cx=>cx.al (wn rfl) 0 rfl (al_st rfl) rfl rfl rfl rfl (by kernel_rfl) trivial) <|
   hk (fun cx=>cx.al (wn rfl) 1 rfl (al_st rfl) rfl rfl rfl rfl (by kernel_rfl) trivial) <|
   hk (fun cx=>cx.stA (wn rfl) rfl rfl 0 0 rfl rfl rfl rfl (cx.u 1 rfl) (st_info _) ((stC_size _).trans (stC_size _).symm) (stC_one _) f2.b.size rfl rfl trivial) <|
   hk (fun cx=>cx.stA (wn rfl) rfl rfl 1 0 rfl rfl rfl rfl (cx.u 1 rfl) (st_info _) ((stC_size _).trans (stC_size _).symm) (stC_one _) f2.b.size rfl rfl trivial) <|
   hn) ?_
  intro a3 w3 f3
  obtain ⟨g2,u_g2,q_g2,b_g2⟩:=f3.al.1
  obtain ⟨g3,u_g3,q_g3,b_g3⟩:=f3.al.2.1
  refine wp_seq ?_
  refine go_reg [⟨g2,35,(stC firstS),some 3,(stC (upS firstS 3 ⟨3,tZ.s,tZ.lo,tZ.hi⟩))⟩] [] [some (.agg (tyC ⟨3,tZ.s,tZ.lo,tZ.hi⟩)),some (pt g2 0),some (pt g2 (9 * 3)),none] mo f3.d f3.z f3.b (by kernel_rfl) ⟨b_g2,trivial⟩ (
   hk (fun cx=>cx.q (exec_build rfl (parts1 rfl) (by kernel_rfl))) <|
   hk (fun cx=>cx.q (ex_fa rfl (cx.rq 2 u_g2) (faStW35_0_0 _ _))) <|
   hk (fun cx=>cx.v (ex_ia (n:=11) (sz:=9) rfl (cx.u 0 rfl) rfl Try.underlying32 (by kernel_rfl) (by omega) (by omega) (by omega)) rfl rfl) <|
   hk (fun cx=>cx.stP (wn rfl) rfl rfl 0 rfl (cx.u 0 rfl) (cx.u 1 rfl) (tyC_one _) (by kernel_rfl) (by rw [stC_size];show _ + 9 ≤ _;omega) (stC_set _ (by omega) _) (Nat.le_trans f2.b.size q_g2) rfl trivial trivial) <|
   hn) ?_
  intro a4 w4 f4
  refine wp_seq ?_
  have b_g3_1:=f4.kp b_g3 ⟨.inr (ne_ptr (pairAt f3.ps 0 1 (by decide) rfl rfl) u_g2 u_g3).symm,trivial⟩
  have s3_2:=f4.q 3 u_g3
  refine go_reg [⟨g3,35,(stC firstS),some 3,(stC (upS firstS 3 ⟨3,tZ.s,8,8⟩))⟩] [] [some (.agg (tyC ⟨3,tZ.s,8,8⟩)),some (pt g3 0),some (pt g3 (9 * 3)),none] mo f4.d f4.z f4.b (by kernel_rfl) ⟨b_g3_1,trivial⟩ (
   hk (fun cx=>cx.q (exec_build rfl (parts3 rfl rfl rfl) (by kernel_rfl))) <|
   hk (fun cx=>cx.q (ex_fa rfl (cx.rq 3 s3_2) (faStW35_0_0 _ _))) <|
   hk (fun cx=>cx.v (ex_ia (n:=11) (sz:=9) rfl (cx.u 0 rfl) rfl Try.underlying32 (by kernel_rfl) (by omega) (by omega) (by omega)) rfl rfl) <|
   hk (fun cx=>cx.stP (wn rfl) rfl rfl 0 rfl (cx.u 0 rfl) (cx.u 1 rfl) (tyC_one _) (by kernel_rfl) (by rw [stC_size];show _ + 9 ≤ _;omega) (stC_set _ (by omega) _) (Nat.le_trans f2.b.size q_g3) rfl trivial trivial) <|
   hn) ?_
  intro a5 w5 f5
  refine wp_seq ?_
  have b_g2_3:=f5.kp f4.rows.1 ⟨.inr (ne_ptr (pairAt f3.ps 0 1 (by decide) rfl rfl) u_g2 u_g3),trivial⟩
  have s2_4:=f5.q 2 (f4.q 2 u_g2)
  have s3_5:=f5.q 3 s3_2
  refine go_reg [bx g2 35 (stC (upS firstS 3 ⟨3,tZ.s,tZ.lo,tZ.hi⟩)),bx g3 35 (stC (upS firstS 3 ⟨3,tZ.s,8,8⟩))] [⟨6,4,35,(stC zS),some 7,(stC (bothR jT (upS firstS 3 ⟨3,tZ.s,tZ.lo,tZ.hi⟩) (upS firstS 3 ⟨3,tZ.s,8,8⟩)))⟩] [some (.agg (stC (upS firstS 3 ⟨3,tZ.s,tZ.lo,tZ.hi⟩))),some (.agg (stC (upS firstS 3 ⟨3,tZ.s,8,8⟩))),some (.tuple #[.agg (stC (bothR jT (upS firstS 3 ⟨3,tZ.s,tZ.lo,tZ.hi⟩) (upS firstS 3 ⟨3,tZ.s,8,8⟩))),.int .i64 (bothE (upS firstS 3 ⟨3,tZ.s,tZ.lo,tZ.hi⟩) (upS firstS 3 ⟨3,tZ.s,8,8⟩))]),some (.tuple #[.agg (stC (bothR jT (upS firstS 3 ⟨3,tZ.s,tZ.lo,tZ.hi⟩) (upS firstS 3 ⟨3,tZ.s,8,8⟩))),.int .i64 (bothE (upS firstS 3 ⟨3,tZ.s,tZ.lo,tZ.hi⟩) (upS firstS 3 ⟨3,tZ.s,8,8⟩))]),some (.agg (stC (bothR jT (upS firstS 3 ⟨3,tZ.s,tZ.lo,tZ.hi⟩) (upS firstS 3 ⟨3,tZ.s,8,8⟩)))),some (.int .i64 (bothE (upS firstS 3 ⟨3,tZ.s,tZ.lo,tZ.hi⟩) (upS firstS 3 ⟨3,tZ.s,8,8⟩))),none,none,some (.int .i64 (bothE (upS firstS 3 ⟨3,tZ.s,tZ.lo,tZ.hi⟩) (upS firstS 3 ⟨3,tZ.s,8,8⟩)))] mo f5.d f5.z f5.b (by kernel_rfl) ⟨b_g2_3,f5.rows.1,trivial⟩ (
   hk (fun cx=>cx.q (ldSt rfl (cx.rq 2 s2_4) (cx.rn 0 rfl))) <|
   hk (fun cx=>cx.q (ldSt rfl (cx.rq 3 s3_5) (cx.rn 1 rfl))) <|
   hc (fun _ _ wx cx=>cx.c rfl (args2 (cx.u 0 rfl) (cx.u 1 rfl)) Try.func24 (by decide +kernel) (tjoin_n (upS firstS 3 ⟨3,tZ.s,tZ.lo,tZ.hi⟩) (upS firstS 3 ⟨3,tZ.s,8,8⟩) wx (upS_ok first_ok (pt_ok (by decide) (by decide) (by decide) (by decide) (by decide) (by decide)) 3) (upS_ok first_ok (pt_ok (by decide) (by decide) (by decide) (by decide) (by decide) (by decide)) 3)) rfl rfl) <|
   kmu 0 <|
   hk (fun cx=>cx.q (ex_ext (x:=.tmp 18) rfl (cx.u 0 rfl) rfl)) <|
   hk (fun cx=>cx.q (ex_ext (x:=.tmp 18) rfl (cx.u 0 rfl) rfl)) <|
   hk (fun cx=>cx.al (wn rfl) 0 rfl (al_st rfl) rfl rfl rfl rfl (by kernel_rfl) trivial) <|
   hk (fun cx=>cx.stA (wn rfl) rfl rfl 0 0 rfl rfl rfl rfl (cx.u 1 rfl) (st_info _) ((stC_size _).trans (stC_size _).symm) (stC_one _) f5.b.size rfl rfl trivial) <|
   kmu 0 <|
   hn) ?_
  intro a6 w6 f6
  obtain ⟨g4,u_g4,q_g4,b_g4⟩:=f6.al.1
  refine wp_seq ?_
  have b_g1_6:=f6.k (f5.kp (f4.kp (f3.k b_g1) ⟨.inr (ne_row b_g1 q_g2),trivial⟩) ⟨.inr (ne_row b_g1 q_g3),trivial⟩)
  have s1_7:=f6.q 1 (f5.q 1 (f4.q 1 (f3.q 1 u_g1)))
  refine go_reg [bx g1 35 (stC firstS)] [⟨1,6,35,(stC zS),some 2,(stC firstS)⟩] [some (.agg (stC firstS)),none,none] mo f6.d f6.z f6.b (by kernel_rfl) ⟨b_g1_6,trivial⟩ (
   hk (fun cx=>cx.q (ldSt rfl (cx.rq 1 s1_7) (cx.rn 0 rfl))) <|
   hk (fun cx=>cx.al (wn rfl) 0 rfl (al_st rfl) rfl rfl rfl rfl (by kernel_rfl) trivial) <|
   hk (fun cx=>cx.stA (wn rfl) rfl rfl 0 0 rfl rfl rfl rfl (cx.u 1 rfl) (st_info _) ((stC_size _).trans (stC_size _).symm) (stC_one _) f6.b.size rfl rfl trivial) <|
   hn) ?_
  intro a7 w7 f7
  obtain ⟨g5,u_g5,q_g5,b_g5⟩:=f7.al.1
  refine wp_seq ?_
  refine go_reg [⟨g5,35,(stC firstS),some 3,(stC (upS firstS 3 allT))⟩] [] [some (.agg (tyC allT)),some (pt g5 0),some (pt g5 (9 * 3)),none] mo f7.d f7.z f7.b (by kernel_rfl) ⟨b_g5,trivial⟩ (
   hc (fun _ _ wx cx=>cx.c rfl (args0 ) Try.func13 (by decide +kernel) (tscalar_n wx) rfl rfl) <|
   hk (fun cx=>cx.q (ex_fa rfl (cx.rq 6 u_g5) (faStW35_0_0 _ _))) <|
   hk (fun cx=>cx.v (ex_ia (n:=11) (sz:=9) rfl (cx.u 0 rfl) rfl Try.underlying32 (by kernel_rfl) (by omega) (by omega) (by omega)) rfl rfl) <|
   hk (fun cx=>cx.stP (wn rfl) rfl rfl 0 rfl (cx.u 0 rfl) (cx.u 1 rfl) (tyC_one _) (by kernel_rfl) (by rw [stC_size];show _ + 9 ≤ _;omega) (stC_set _ (by omega) _) (Nat.le_trans f6.b.size q_g5) rfl trivial trivial) <|
   hn) ?_
  intro a8 w8 f8
  refine wp_seq ?_
  have b_g2_8:=f8.kp (f7.k (f6.k b_g2_3)) ⟨.inr (ne_row (f6.k b_g2_3) q_g5),trivial⟩
  have s2_9:=f8.q 2 (f7.q 2 (f6.q 2 s2_4))
  have s6_10:=f8.q 6 u_g5
  refine go_reg [bx g2 35 (stC (upS firstS 3 ⟨3,tZ.s,tZ.lo,tZ.hi⟩)),bx g5 35 (stC (upS firstS 3 allT))] [⟨6,7,35,(stC zS),some 7,(stC (bothR jT (upS firstS 3 ⟨3,tZ.s,tZ.lo,tZ.hi⟩) (upS firstS 3 allT)))⟩] [some (.agg (stC (upS firstS 3 ⟨3,tZ.s,tZ.lo,tZ.hi⟩))),some (.agg (stC (upS firstS 3 allT))),some (.tuple #[.agg (stC (bothR jT (upS firstS 3 ⟨3,tZ.s,tZ.lo,tZ.hi⟩) (upS firstS 3 allT))),.int .i64 (bothE (upS firstS 3 ⟨3,tZ.s,tZ.lo,tZ.hi⟩) (upS firstS 3 allT))]),some (.tuple #[.agg (stC (bothR jT (upS firstS 3 ⟨3,tZ.s,tZ.lo,tZ.hi⟩) (upS firstS 3 allT))),.int .i64 (bothE (upS firstS 3 ⟨3,tZ.s,tZ.lo,tZ.hi⟩) (upS firstS 3 allT))]),some (.agg (stC (bothR jT (upS firstS 3 ⟨3,tZ.s,tZ.lo,tZ.hi⟩) (upS firstS 3 allT)))),some (.int .i64 (bothE (upS firstS 3 ⟨3,tZ.s,tZ.lo,tZ.hi⟩) (upS firstS 3 allT))),none,none,some (.int .i64 (bothE (upS firstS 3 ⟨3,tZ.s,tZ.lo,tZ.hi⟩) (upS firstS 3 allT)))] mo f8.d f8.z f8.b (by kernel_rfl) ⟨b_g2_8,f8.rows.1,trivial⟩ (
   hk (fun cx=>cx.q (ldSt rfl (cx.rq 2 s2_9) (cx.rn 0 rfl))) <|
   hk (fun cx=>cx.q (ldSt rfl (cx.rq 6 s6_10) (cx.rn 1 rfl))) <|
   hc (fun _ _ wx cx=>cx.c rfl (args2 (cx.u 0 rfl) (cx.u 1 rfl)) Try.func24 (by decide +kernel) (tjoin_n (upS firstS 3 ⟨3,tZ.s,tZ.lo,tZ.hi⟩) (upS firstS 3 allT) wx (upS_ok first_ok (pt_ok (by decide) (by decide) (by decide) (by decide) (by decide) (by decide)) 3) (upS_ok first_ok allT_ok 3)) rfl rfl) <|
   kmu 0 <|
   hk (fun cx=>cx.q (ex_ext (x:=.tmp 28) rfl (cx.u 0 rfl) rfl)) <|
   hk (fun cx=>cx.q (ex_ext (x:=.tmp 28) rfl (cx.u 0 rfl) rfl)) <|
   hk (fun cx=>cx.al (wn rfl) 0 rfl (al_st rfl) rfl rfl rfl rfl (by kernel_rfl) trivial) <|
   hk (fun cx=>cx.stA (wn rfl) rfl rfl 0 0 rfl rfl rfl rfl (cx.u 1 rfl) (st_info _) ((stC_size _).trans (stC_size _).symm) (stC_one _) f8.b.size rfl rfl trivial) <|
   kmu 0 <|
   hn) ?_
  intro a9 w9 f9
  obtain ⟨g6,u_g6,q_g6,b_g6⟩:=f9.al.1
  refine wp_seq ?_
  have b_g4_11:=f9.k (f8.kp (f7.k b_g4) ⟨.inr (ne_row b_g4 q_g5),trivial⟩)
  have b_g1_12:=f9.k (f8.kp (f7.k b_g1_6) ⟨.inr (ne_row b_g1_6 q_g5),trivial⟩)
  have s5_13:=f9.q 5 (f8.q 5 (f7.q 5 (f6.v 8 rfl rfl rfl)))
  have s4_14:=f9.q 4 (f8.q 4 (f7.q 4 u_g4))
  have s1_15:=f9.q 1 (f8.q 1 (f7.q 1 s1_7))
  refine go_reg [bx g4 35 (stC (bothR jT (upS firstS 3 ⟨3,tZ.s,tZ.lo,tZ.hi⟩) (upS firstS 3 ⟨3,tZ.s,8,8⟩))),bx g6 35 (stC (bothR jT (upS firstS 3 ⟨3,tZ.s,tZ.lo,tZ.hi⟩) (upS firstS 3 allT))),bx g1 35 (stC firstS)] [] (tabs [some (.int .i64 (bothE (upS firstS 3 ⟨3,tZ.s,tZ.lo,tZ.hi⟩) (upS firstS 3 ⟨3,tZ.s,8,8⟩))),oT,oT,some (pt g4 0),some (pt g4 (9 * 3)),some (.agg (tyC (bothR jT (upS firstS 3 ⟨3,tZ.s,tZ.lo,tZ.hi⟩) (upS firstS 3 ⟨3,tZ.s,8,8⟩) 3))),some (.agg (tyC ⟨3,tZ.s,tZ.lo,8⟩)),oT,oT,oT,some (.int .i64 (bothE (upS firstS 3 ⟨3,tZ.s,tZ.lo,tZ.hi⟩) (upS firstS 3 allT))),oT,oT,oT,some (pt g6 0),some (pt g6 (9 * 3)),some (.agg (tyC (bothR jT (upS firstS 3 ⟨3,tZ.s,tZ.lo,tZ.hi⟩) (upS firstS 3 allT) 3))),some (.agg (tyC allT)),oT,oT] [oT,some (pt g1 0),some (pt g1 (9 * 10)),some (pt g1 ((9 * 10) + 7)),some (.int .i64 (firstS 10).lo),oT,oT,oT]) mo f9.d f9.z f9.b (by kernel_rfl) ⟨b_g4_11,b_g6,b_g1_12,trivial⟩ (
   hk (fun cx=>cx.q (ex_mv rfl (cx.rq 5 s5_13))) <|
   hk (fun cx=>cx.v (ex_eq (x:=.tmp 34) rfl (cx.u 0 rfl) rfl) rfl (congrArg Value.bool (by decide +kernel))) <|
   kmu 0 <|
   hk (fun cx=>cx.vy 0 (ex_fa rfl (cx.rq 4 s4_14) (faStW35_0_0 _ _))) <|
   hk (fun cx=>cx.vy 1 (ex_ia (n:=11) (sz:=9) rfl (cx.u 0 rfl) rfl Try.underlying32 (by kernel_rfl) (by omega) (by omega) (by omega)) rfl) <|
   hk (fun cx=>cx.vy 1 (ldEl (by omega) rfl (cx.u 0 rfl) (cx.rn 0 rfl)) rfl) <|
   hk (fun cx=>cx.vy 0 (exec_build rfl (parts2 rfl rfl) (by kernel_rfl))) <|
   hk (fun cx=>cx.vy (v:=.bool (eqT (bothR jT (upS firstS 3 ⟨3,tZ.s,tZ.lo,tZ.hi⟩) (upS firstS 3 ⟨3,tZ.s,8,8⟩) 3) ⟨3,tZ.s,tZ.lo,8⟩)) 2 (exec_eql (x:=.tmp 39) (y:=.tmp 40) rfl (cx.u 0 rfl) (cx.u 1 rfl) (by kernel_rfl) (eq_ty (bothR jT (upS firstS 3 ⟨3,tZ.s,tZ.lo,tZ.hi⟩) (upS firstS 3 ⟨3,tZ.s,8,8⟩) 3) ⟨3,tZ.s,tZ.lo,8⟩ _)) (congrArg Value.bool (by decide +kernel))) <|
   hk (fun cx=>cx.q (ex_pt rfl (cx.u 0 rfl) (cx.u 1 rfl))) <|
   kmu 0 <|
   hk (fun cx=>cx.vy 0 (ex_mv rfl (cx.rq 8 (f9.v 8 rfl rfl rfl)))) <|
   hk (fun cx=>cx.vy 1 (ex_eq (x:=.tmp 44) rfl (cx.u 0 rfl) rfl) (congrArg Value.bool (by decide +kernel))) <|
   hk (fun cx=>cx.q (ex_pt rfl (cx.u 0 rfl) (cx.u 1 rfl))) <|
   kmu 0 <|
   hk (fun cx=>cx.vy 0 (ex_fa rfl (cx.rq 7 u_g6) (faStW35_0_0 _ _))) <|
   hk (fun cx=>cx.vy 1 (ex_ia (n:=11) (sz:=9) rfl (cx.u 0 rfl) rfl Try.underlying32 (by kernel_rfl) (by omega) (by omega) (by omega)) rfl) <|
   hk (fun cx=>cx.vy 1 (ldEl (by omega) rfl (cx.u 0 rfl) (cx.rn 1 rfl)) rfl) <|
   hc (fun _ _ wx cx=>cx.call (cx.wy rfl rfl rfl rfl (cx.u 0 rfl)) rfl rfl (args0 ) Try.func13 (by decide +kernel) rfl (tscalar_n wx) rfl rfl rfl rfl) <|
   hk (fun cx=>cx.vy (v:=.bool (eqT (bothR jT (upS firstS 3 ⟨3,tZ.s,tZ.lo,tZ.hi⟩) (upS firstS 3 allT) 3) allT)) 2 (exec_eql (x:=.tmp 50) (y:=.tmp 51) rfl (cx.u 0 rfl) (cx.u 1 rfl) (by kernel_rfl) (eq_ty (bothR jT (upS firstS 3 ⟨3,tZ.s,tZ.lo,tZ.hi⟩) (upS firstS 3 allT) 3) allT _)) (congrArg Value.bool (by decide +kernel))) <|
   hk (fun cx=>cx.q (ex_pt rfl (cx.u 0 rfl) (cx.u 1 rfl))) <|
   kmu 0 <|
   hk (fun cx=>cx.vy 0 (ex_fa rfl (cx.rq 1 s1_15) (faStW35_0_0 _ _))) <|
   hk (fun cx=>cx.vy 1 (ex_ia (n:=11) (sz:=9) rfl (cx.u 0 rfl) rfl Try.underlying32 (by kernel_rfl) (by omega) (by omega) (by omega)) rfl) <|
   hk (fun cx=>cx.vy 1 (ex_fa rfl (cx.u 0 rfl) (fxStW31_2 _ _ _))) <|
   hk (fun cx=>cx.vy 1 (ldLo (by omega) rfl (cx.u 0 rfl) (cx.rn 2 rfl)) rfl) <|
   hk (fun cx=>cx.vy 1 (ex_eq (x:=.tmp 58) rfl (cx.u 0 rfl) rfl) (congrArg Value.bool (by decide +kernel))) <|
   hk (fun cx=>cx.q (ex_pt rfl (cx.u 0 rfl) (cx.u 1 rfl))) <|
   kmu 0 <|
   hn) ?_
  intro a10 w10 f10
  refine wp_ret ?_
  try simp only [Exit.inBlock,Exit.then]
  refine bodyPost_ret (res_t (fn:=Try.f23) rfl (f10.v 27 rfl rfl rfl)) f10.d ?_
  exact ⟨rfl,f10.b⟩
end Go.Proofs.Ytcnneeimkcnjfaa.Sta
