import Derived.Test.YtjhedldplmhmjaaGreatDoorETe26
set_option maxHeartbeats 2000000
set_option linter.unusedVariables false
set_option linter.unusedSimpArgs false
set_option linter.unnecessarySimpa false
namespace Go.Proofs.YtjhedldplmhmjaaGreatDoor.Exe
open Go Go.RowKit
open Mrm (Xi xC zX mayX bytesX)
open Flg (Fl fC zF addF subF ofF holF holE mayC)
set_option maxRecDepth 100000
theorem faExE75_0_0 (g:Nat)(w:World):(Instr.fieldAt 48 (.pointer (some ⟨g,0,none⟩)) 0).run Tryz.prog w=.ok (.pointer (some ⟨g,0,none⟩)) w:=by simp [go_sem]
theorem faExE36_0_0 (g:Nat)(w:World):(Instr.fieldAt 27 (.pointer (some ⟨g,0,none⟩)) 0).run Tryz.prog w=.ok (.pointer (some ⟨g,0,none⟩)) w:=by simp [go_sem]
theorem faExE75_1_0 (g:Nat)(w:World):(Instr.fieldAt 48 (.pointer (some ⟨g,0,none⟩)) 1).run Tryz.prog w=.ok (.pointer (some ⟨g,22,none⟩)) w:=by simp [go_sem]
theorem faExE26_1_22 (g:Nat)(w:World):(Instr.fieldAt 30 (.pointer (some ⟨g,22,none⟩)) 1).run Tryz.prog w=.ok (.pointer (some ⟨g,23,none⟩)) w:=by simp [go_sem]
theorem faExE36_1_0 (g:Nat)(w:World):(Instr.fieldAt 27 (.pointer (some ⟨g,0,none⟩)) 1).run Tryz.prog w=.ok (.pointer (some ⟨g,16,none⟩)) w:=by simp [go_sem]
theorem divide_ok (s:Ex)(g:Nat)(v:Int)(W:World)(hr:W.heap[g]?=some (.cells (exC s) 48 (0,0)))(hM:MOk s.m)(hd:0≤s.x.dst∧s.x.dst<16)(h1:((cutI (s.m.r 2) s.x.w) != 0)=false)(h2:((cutI (s.m.r s.x.dst.toNat) s.x.w) == 0)=false):Calls Tryz.prog 51 #[.pointer (some ⟨g,0,none⟩),.int .u64 v] W (RetT (.int .i64 0) (exC (((s.upR 0 (doI 3 s.x.w (s.m.r 0) (s.m.r s.x.dst.toNat))).upR 2 (doI 9 s.x.w (s.m.r 0) (s.m.r s.x.dst.toNat))).upF zF)) 48 g W):=by
 refine calls_abs Tryz.func51 rfl (Nat.le_of_ble_eq_true rfl) ?_
 intro a0 d0 z0 h0
 replace z0:a0.tmps.size=75:=z0
 have s0_0:a0.tmps.getD 0 undef=.pointer (some ⟨g,0,none⟩):=h0 0 (Nat.le_of_ble_eq_true rfl)
 have s1_0:a0.tmps.getD 1 undef=.int .u64 v:=h0 1 (Nat.le_of_ble_eq_true rfl)
 have hB0:=cutW_below W g
 have hV:=cutW_size hr
 have bt0:=But.refl g W
 refine wp_seq ?_
 refine go_reg [] [] [some (.int .i64 0)] mo d0 z0 hB0 (by kernel_rfl) trivial (
  kq (fun cx=>ex_as rfl rfl) <|
  hn) ?_
 intro a1 w1 f1
 have bt1:=But.step f1 bt0 hB0 trivial
 refine wp_seq ?_
 have b_g_1:=f1.k hr
 have s0_2:=f1.q 0 s0_0
 refine go_reg [bx g 48 (exC s)] [] [some (pt g 0),some (pt g 0),some (pt g 0),some (pt g 0),some (pt g (0)),some (.int .u64 (s.m.r 0)),some (pt g 0),some (.int .u64 (s.m.r s.x.dst.toNat)),some (.int .u64 (s.m.r 0)),some (.int .u64 (s.m.r s.x.dst.toNat))] mo f1.d f1.z f1.b (by kernel_rfl) ⟨b_g_1,trivial⟩ (
  kq (fun cx=>ex_mv rfl (cx.rq 0 s0_2)) <|
  kq (fun cx=>ex_nc rfl cx.u0) <|
  kq (fun cx=>ex_fa rfl cx.u0 (faExE75_0_0 _ _)) <|
  kq (fun cx=>ex_fa rfl cx.u0 (faExE36_0_0 _ _)) <|
  hk (fun cx=>cx.v (ex_ia (n:=16) (sz:=1) rfl (cx.u 0 rfl) rfl Tryz.underlying23 (by kernel_rfl) (by omega) (by omega) (by omega)) rfl rfl) <|
  hk (fun cx=>cx.v (ldExR (by omega) rfl (cx.u 0 rfl) (cx.rn 0 rfl)) rfl rfl) <|
  kq (fun cx=>ex_mv rfl (cx.rq 0 s0_2)) <|
  hc (fun _ _ wx cx=>cx.c rfl (args1 cx.u0) Tryz.func82 (by decide +kernel) (dst_n s g wx (cx.rn 0 rfl) hd) rfl rfl) <|
  kmu 0 <|
  kmu 0 <|
  hn) ?_
 intro a2 w2 f2
 have bt2:=But.step f2 bt1 f1.b ⟨.inl rfl,trivial⟩
 refine wp_seq ?_
 refine wp_seq ?_
 have b_g_3:=f2.k b_g_1
 have s0_4:=f2.q 0 s0_2
 refine go_reg [bx g 48 (exC s)] [] (tabs [some (pt g 0),some (pt g 0),some (pt g 0),some (pt g 0),some (pt g (2)),some (.int .u64 (s.m.r 2)),some (pt g 0),some (pt g 0),some (pt g 22),some (pt g 23),some (.int .i8 s.x.w),some (.int .u64 (cutI (s.m.r 2) s.x.w)),oF,oF,some (.int .u64 (s.m.r s.x.dst.toNat)),some (pt g 0),some (pt g 0),some (pt g 22),some (pt g 23),some (.int .i8 s.x.w)] [some (.int .u64 (cutI (s.m.r s.x.dst.toNat) s.x.w)),oF,oF]) mo f2.d f2.z f2.b (by kernel_rfl) ⟨b_g_3,trivial⟩ (
  kq (fun cx=>ex_mv rfl (cx.rq 0 s0_4)) <|
  kq (fun cx=>ex_nc rfl cx.u0) <|
  kq (fun cx=>ex_fa rfl cx.u0 (faExE75_0_0 _ _)) <|
  kq (fun cx=>ex_fa rfl cx.u0 (faExE36_0_0 _ _)) <|
  hk (fun cx=>cx.v (ex_ia (n:=16) (sz:=1) rfl (cx.u 0 rfl) rfl Tryz.underlying23 (by kernel_rfl) (by omega) (by omega) (by omega)) rfl rfl) <|
  hk (fun cx=>cx.v (ldExR (by omega) rfl (cx.u 0 rfl) (cx.rn 0 rfl)) rfl rfl) <|
  kq (fun cx=>ex_mv rfl (cx.rq 0 s0_4)) <|
  kq (fun cx=>ex_nc rfl cx.u0) <|
  kq (fun cx=>ex_fa rfl cx.u0 (faExE75_1_0 _ _)) <|
  kq (fun cx=>ex_fa rfl cx.u0 (faExE26_1_22 _ _)) <|
  kq (fun cx=>ex_ld rfl (cx.u 0 rfl) (cx.rn 0 rfl) rfl Tryz.isAgg28) <|
  hc (fun _ _ wx cx=>cx.c rfl (args2 cx.u0 cx.u1) Tryz.func34 (by decide +kernel) (((cut_any (s.m.r 2) s.x.w wx).mono (by rintro e w' ⟨rfl,rfl⟩;exact ⟨rfl,Below.refl _ _⟩))) rfl rfl) <|
  hk (fun cx=>cx.v (ex_ne (x:=.tmp 26) rfl cx.u0 rfl) rfl (congrArg Value.bool h1)) <|
  kmu 0 <|
  hk (fun cx=>cx.vy 0 (ex_mv rfl (cx.rq 6 (f2.vv 9)))) <|
  hk (fun cx=>cx.vy 0 (ex_mv rfl (cx.rq 0 s0_4))) <|
  hk (fun cx=>cx.vy 1 (ex_nc rfl cx.u0)) <|
  hk (fun cx=>cx.vy 1 (ex_fa rfl cx.u0 (faExE75_1_0 _ _))) <|
  hk (fun cx=>cx.vy 1 (ex_fa rfl cx.u0 (faExE26_1_22 _ _))) <|
  hk (fun cx=>cx.vy 1 (ex_ld rfl (cx.u 0 rfl) (cx.rn 0 rfl) rfl Tryz.isAgg28)) <|
  hc (fun _ _ wx cx=>cx.call (cx.wy rfl rfl rfl rfl (cx.u 2 rfl)) rfl rfl (args2 cx.u0 cx.u1) Tryz.func34 (by decide +kernel) rfl (((cut_any (s.m.r s.x.dst.toNat) s.x.w wx).mono (by rintro e w' ⟨rfl,rfl⟩;exact ⟨rfl,Below.refl _ _⟩))) rfl rfl rfl rfl) <|
  hk (fun cx=>cx.vy 1 (ex_eq (x:=.tmp 35) rfl cx.u0 rfl) (congrArg Value.bool h2)) <|
  kq (fun cx=>ex_pf rfl cx.u0 cx.u1) <|
  hn) ?_
 intro a3 w3 f3
 have bt3:=But.step f3 bt2 f2.b ⟨.inl rfl,trivial⟩
 refine wp_cond_false (f3.vv 22) ?_
 refine wp_skip ?_
 refine wp_seq ?_
 have b_g_5:=f3.k b_g_3
 have s0_6:=f3.q 0 s0_4
 have s5_7:=f3.q 5 (f2.vv 8)
 have s6_8:=f3.q 6 (f2.vv 9)
 refine go_reg [⟨g,48,(exC s),some 16,(exC (s.upR 0 (doI 3 s.x.w (s.m.r 0) (s.m.r s.x.dst.toNat))))⟩] [] [some (pt g 0),some (pt g 0),some (pt g 0),some (pt g 22),some (pt g 23),some (.int .i8 s.x.w),some (.int .u64 (s.m.r 0)),some (.int .u64 (s.m.r s.x.dst.toNat)),some (.tuple #[.int .u64 (doI 3 s.x.w (s.m.r 0) (s.m.r s.x.dst.toNat)),.int .i64 (doE 3 s.x.w)]),some (.tuple #[.int .u64 (doI 3 s.x.w (s.m.r 0) (s.m.r s.x.dst.toNat)),.int .i64 (doE 3 s.x.w)]),some (.int .u64 (doI 3 s.x.w (s.m.r 0) (s.m.r s.x.dst.toNat))),some (.int .i64 (doE 3 s.x.w)),some (pt g 0),some (pt g 0),some (pt g 0),some (pt g (0)),none] mo f3.d f3.z f3.b (by kernel_rfl) ⟨b_g_5,trivial⟩ (
  kq (fun cx=>ex_mv rfl (cx.rq 0 s0_6)) <|
  kq (fun cx=>ex_mv rfl (cx.rq 0 s0_6)) <|
  kq (fun cx=>ex_nc rfl cx.u0) <|
  kq (fun cx=>ex_fa rfl cx.u0 (faExE75_1_0 _ _)) <|
  kq (fun cx=>ex_fa rfl cx.u0 (faExE26_1_22 _ _)) <|
  kq (fun cx=>ex_ld rfl (cx.u 0 rfl) (cx.rf 0 rfl (by kernel_rfl)) rfl Tryz.isAgg28) <|
  kq (fun cx=>ex_mv rfl (cx.rq 5 s5_7)) <|
  kq (fun cx=>ex_mv rfl (cx.rq 6 s6_8)) <|
  hc (fun _ _ wx cx=>cx.c rfl (args4 rfl cx.u0 cx.u1 (cx.u 2 rfl)) Tryz.func87 (by decide +kernel) (do_any 3 s.x.w (s.m.r 0) (s.m.r s.x.dst.toNat) wx (hM.r 0).1 (hM.r 0).2 (hM.r s.x.dst.toNat).1 (hM.r s.x.dst.toNat).2) rfl rfl) <|
  kmu 0 <|
  kq (fun cx=>ex_ext (x:=.tmp 38) rfl cx.u0 rfl) <|
  kq (fun cx=>ex_ext (x:=.tmp 38) rfl cx.u0 rfl) <|
  kq (fun cx=>ex_nc rfl cx.u0) <|
  kq (fun cx=>ex_fa rfl cx.u0 (faExE75_0_0 _ _)) <|
  kq (fun cx=>ex_fa rfl cx.u0 (faExE36_0_0 _ _)) <|
  hk (fun cx=>cx.v (ex_ia (n:=16) (sz:=1) rfl (cx.u 0 rfl) rfl Tryz.underlying23 (by kernel_rfl) (by omega) (by omega) (by omega)) rfl rfl) <|
  hk (fun cx=>cx.stC (wn rfl) rfl rfl 0 rfl (cx.u 0 rfl) (cx.u 1 rfl) rfl rfl (by kernel_rfl) (by rw [exC_size];simp only [Nat.blt_eq];omega) (exC_set _ (by omega) _) hV rfl trivial trivial) <|
  hn) ?_
 intro a4 w4 f4
 have bt4:=But.step f4 bt3 f3.b ⟨.inr rfl,trivial⟩
 refine wp_seq ?_
 have s0_9:=f4.q 0 s0_6
 have s5_10:=f4.q 5 s5_7
 have s6_11:=f4.q 6 s6_8
 refine go_reg [⟨g,48,(exC (s.upR 0 (doI 3 s.x.w (s.m.r 0) (s.m.r s.x.dst.toNat)))),some 16,(exC ((s.upR 0 (doI 3 s.x.w (s.m.r 0) (s.m.r s.x.dst.toNat))).upR 2 (doI 9 s.x.w (s.m.r 0) (s.m.r s.x.dst.toNat))))⟩] [] [some (pt g 0),some (pt g 0),some (pt g 0),some (pt g 22),some (pt g 23),some (.int .i8 s.x.w),some (.int .u64 (s.m.r 0)),some (.int .u64 (s.m.r s.x.dst.toNat)),some (.tuple #[.int .u64 (doI 9 s.x.w (s.m.r 0) (s.m.r s.x.dst.toNat)),.int .i64 (doE 9 s.x.w)]),some (.tuple #[.int .u64 (doI 9 s.x.w (s.m.r 0) (s.m.r s.x.dst.toNat)),.int .i64 (doE 9 s.x.w)]),some (.int .u64 (doI 9 s.x.w (s.m.r 0) (s.m.r s.x.dst.toNat))),some (.int .i64 (doE 9 s.x.w)),some (pt g 0),some (pt g 0),some (pt g 0),some (pt g (2)),none] mo f4.d f4.z f4.b (by kernel_rfl) ⟨f4.rows.1,trivial⟩ (
  kq (fun cx=>ex_mv rfl (cx.rq 0 s0_9)) <|
  kq (fun cx=>ex_mv rfl (cx.rq 0 s0_9)) <|
  kq (fun cx=>ex_nc rfl cx.u0) <|
  kq (fun cx=>ex_fa rfl cx.u0 (faExE75_1_0 _ _)) <|
  kq (fun cx=>ex_fa rfl cx.u0 (faExE26_1_22 _ _)) <|
  kq (fun cx=>ex_ld rfl (cx.u 0 rfl) (cx.rf 0 rfl (by kernel_rfl)) rfl Tryz.isAgg28) <|
  kq (fun cx=>ex_mv rfl (cx.rq 5 s5_10)) <|
  kq (fun cx=>ex_mv rfl (cx.rq 6 s6_11)) <|
  hc (fun _ _ wx cx=>cx.c rfl (args4 rfl cx.u0 cx.u1 (cx.u 2 rfl)) Tryz.func87 (by decide +kernel) (do_any 9 s.x.w (s.m.r 0) (s.m.r s.x.dst.toNat) wx (hM.r 0).1 (hM.r 0).2 (hM.r s.x.dst.toNat).1 (hM.r s.x.dst.toNat).2) rfl rfl) <|
  kmu 0 <|
  kq (fun cx=>ex_ext (x:=.tmp 54) rfl cx.u0 rfl) <|
  kq (fun cx=>ex_ext (x:=.tmp 54) rfl cx.u0 rfl) <|
  kq (fun cx=>ex_nc rfl cx.u0) <|
  kq (fun cx=>ex_fa rfl cx.u0 (faExE75_0_0 _ _)) <|
  kq (fun cx=>ex_fa rfl cx.u0 (faExE36_0_0 _ _)) <|
  hk (fun cx=>cx.v (ex_ia (n:=16) (sz:=1) rfl (cx.u 0 rfl) rfl Tryz.underlying23 (by kernel_rfl) (by omega) (by omega) (by omega)) rfl rfl) <|
  hk (fun cx=>cx.stC (wn rfl) rfl rfl 0 rfl (cx.u 0 rfl) (cx.u 1 rfl) rfl rfl (by kernel_rfl) (by rw [exC_size];simp only [Nat.blt_eq];omega) (exC_set _ (by omega) _) hV rfl trivial trivial) <|
  hn) ?_
 intro a5 w5 f5
 have bt5:=But.step f5 bt4 f4.b ⟨.inr rfl,trivial⟩
 refine wp_seq ?_
 have s0_12:=f5.q 0 s0_9
 refine go_reg [⟨g,48,(exC ((s.upR 0 (doI 3 s.x.w (s.m.r 0) (s.m.r s.x.dst.toNat))).upR 2 (doI 9 s.x.w (s.m.r 0) (s.m.r s.x.dst.toNat)))),some 5,(exC (((s.upR 0 (doI 3 s.x.w (s.m.r 0) (s.m.r s.x.dst.toNat))).upR 2 (doI 9 s.x.w (s.m.r 0) (s.m.r s.x.dst.toNat))).upF zF))⟩] [] [some (pt g 0),some (.agg (fC zF)),some (pt g 0),some (pt g 0),some (pt g 16),none] mo f5.d f5.z f5.b (by kernel_rfl) ⟨f5.rows.1,trivial⟩ (
  kq (fun cx=>ex_mv rfl (cx.rq 0 s0_12)) <|
  hc (fun _ _ wx cx=>cx.c rfl (args0 ) Tryz.func86 (by decide +kernel) (Flg.none_n wx) rfl rfl) <|
  kq (fun cx=>ex_nc rfl cx.u0) <|
  kq (fun cx=>ex_fa rfl cx.u0 (faExE75_0_0 _ _)) <|
  kq (fun cx=>ex_fa rfl cx.u0 (faExE36_1_0 _ _)) <|
  hk (fun cx=>cx.stP (wn rfl) rfl rfl 0 rfl (cx.u 0 rfl) (cx.u 1 rfl) (Flg.fC_one _) (by kernel_rfl) (Nat.le_of_ble_eq_true rfl) rfl hV rfl trivial trivial) <|
  hn) ?_
 intro a6 w6 f6
 have bt6:=But.step f6 bt5 f5.b ⟨.inr rfl,trivial⟩
 refine wp_seq ?_
 refine go_reg [] [] [some (.int .i64 0)] mo f6.d f6.z f6.b (by kernel_rfl) trivial (
  kq (fun cx=>ex_as rfl rfl) <|
  hn) ?_
 intro a7 w7 f7
 have bt7:=But.step f7 bt6 f6.b trivial
 refine wp_ret ?_
 try simp only [Exit.inBlock,Exit.then]
 refine bodyPost_ret (res_t (fn:=Tryz.f51) rfl (f7.vv 0)) f7.d ?_
 exact ⟨rfl,bt7,(f7.k f6.rows.1)⟩
theorem divide_high (s:Ex)(g:Nat)(v:Int)(W:World)(hr:W.heap[g]?=some (.cells (exC s) 48 (0,0)))(hM:MOk s.m)(hd:0≤s.x.dst∧s.x.dst<16)(h1:((cutI (s.m.r 2) s.x.w) != 0)=true):Calls Tryz.prog 51 #[.pointer (some ⟨g,0,none⟩),.int .u64 v] W (RetT (.int .i64 20) (exC (s)) 48 g W):=by
 refine calls_abs Tryz.func51 rfl (Nat.le_of_ble_eq_true rfl) ?_
 intro a0 d0 z0 h0
 replace z0:a0.tmps.size=75:=z0
 have s0_0:a0.tmps.getD 0 undef=.pointer (some ⟨g,0,none⟩):=h0 0 (Nat.le_of_ble_eq_true rfl)
 have s1_0:a0.tmps.getD 1 undef=.int .u64 v:=h0 1 (Nat.le_of_ble_eq_true rfl)
 have hB0:=cutW_below W g
 have hV:=cutW_size hr
 have bt0:=But.refl g W
 refine wp_seq ?_
 refine go_reg [] [] [some (.int .i64 0)] mo d0 z0 hB0 (by kernel_rfl) trivial (
  kq (fun cx=>ex_as rfl rfl) <|
  hn) ?_
 intro a1 w1 f1
 have bt1:=But.step f1 bt0 hB0 trivial
 refine wp_seq ?_
 have b_g_1:=f1.k hr
 have s0_2:=f1.q 0 s0_0
 refine go_reg [bx g 48 (exC s)] [] [some (pt g 0),some (pt g 0),some (pt g 0),some (pt g 0),some (pt g (0)),some (.int .u64 (s.m.r 0)),some (pt g 0),some (.int .u64 (s.m.r s.x.dst.toNat)),some (.int .u64 (s.m.r 0)),some (.int .u64 (s.m.r s.x.dst.toNat))] mo f1.d f1.z f1.b (by kernel_rfl) ⟨b_g_1,trivial⟩ (
  kq (fun cx=>ex_mv rfl (cx.rq 0 s0_2)) <|
  kq (fun cx=>ex_nc rfl cx.u0) <|
  kq (fun cx=>ex_fa rfl cx.u0 (faExE75_0_0 _ _)) <|
  kq (fun cx=>ex_fa rfl cx.u0 (faExE36_0_0 _ _)) <|
  hk (fun cx=>cx.v (ex_ia (n:=16) (sz:=1) rfl (cx.u 0 rfl) rfl Tryz.underlying23 (by kernel_rfl) (by omega) (by omega) (by omega)) rfl rfl) <|
  hk (fun cx=>cx.v (ldExR (by omega) rfl (cx.u 0 rfl) (cx.rn 0 rfl)) rfl rfl) <|
  kq (fun cx=>ex_mv rfl (cx.rq 0 s0_2)) <|
  hc (fun _ _ wx cx=>cx.c rfl (args1 cx.u0) Tryz.func82 (by decide +kernel) (dst_n s g wx (cx.rn 0 rfl) hd) rfl rfl) <|
  kmu 0 <|
  kmu 0 <|
  hn) ?_
 intro a2 w2 f2
 have bt2:=But.step f2 bt1 f1.b ⟨.inl rfl,trivial⟩
 refine wp_seq ?_
 refine wp_seq ?_
 have b_g_3:=f2.k b_g_1
 have s0_4:=f2.q 0 s0_2
 refine go_reg [bx g 48 (exC s)] [] (tabs [some (pt g 0),some (pt g 0),some (pt g 0),some (pt g 0),some (pt g (2)),some (.int .u64 (s.m.r 2)),some (pt g 0),some (pt g 0),some (pt g 22),some (pt g 23),some (.int .i8 s.x.w),some (.int .u64 (cutI (s.m.r 2) s.x.w)),oT,oT,oU,oU,oU,oU,oU,oU] [oU,oU,oT]) mo f2.d f2.z f2.b (by kernel_rfl) ⟨b_g_3,trivial⟩ (
  kq (fun cx=>ex_mv rfl (cx.rq 0 s0_4)) <|
  kq (fun cx=>ex_nc rfl cx.u0) <|
  kq (fun cx=>ex_fa rfl cx.u0 (faExE75_0_0 _ _)) <|
  kq (fun cx=>ex_fa rfl cx.u0 (faExE36_0_0 _ _)) <|
  hk (fun cx=>cx.v (ex_ia (n:=16) (sz:=1) rfl (cx.u 0 rfl) rfl Tryz.underlying23 (by kernel_rfl) (by omega) (by omega) (by omega)) rfl rfl) <|
  hk (fun cx=>cx.v (ldExR (by omega) rfl (cx.u 0 rfl) (cx.rn 0 rfl)) rfl rfl) <|
  kq (fun cx=>ex_mv rfl (cx.rq 0 s0_4)) <|
  kq (fun cx=>ex_nc rfl cx.u0) <|
  kq (fun cx=>ex_fa rfl cx.u0 (faExE75_1_0 _ _)) <|
  kq (fun cx=>ex_fa rfl cx.u0 (faExE26_1_22 _ _)) <|
  kq (fun cx=>ex_ld rfl (cx.u 0 rfl) (cx.rn 0 rfl) rfl Tryz.isAgg28) <|
  hc (fun _ _ wx cx=>cx.c rfl (args2 cx.u0 cx.u1) Tryz.func34 (by decide +kernel) (((cut_any (s.m.r 2) s.x.w wx).mono (by rintro e w' ⟨rfl,rfl⟩;exact ⟨rfl,Below.refl _ _⟩))) rfl rfl) <|
  hk (fun cx=>cx.v (ex_ne (x:=.tmp 26) rfl cx.u0 rfl) rfl (congrArg Value.bool h1)) <|
  kmu 0 <|
  kno 0 <|
  kno 0 <|
  kno 1 <|
  kno 1 <|
  kno 1 <|
  kno 1 <|
  kno 2 <|
  kno 1 <|
  kq (fun cx=>ex_pt rfl cx.u0 rfl) <|
  hn) ?_
 intro a3 w3 f3
 have bt3:=But.step f3 bt2 f2.b ⟨.inl rfl,trivial⟩
 refine wp_cond_true (f3.vv 22) ?_
 refine wp_seq ?_
 refine go_reg [] [] [some (.int .i64 20)] mo f3.d f3.z f3.b (by kernel_rfl) trivial (
  kq (fun cx=>ex_as rfl rfl) <|
  hn) ?_
 intro a4 w4 f4
 have bt4:=But.step f4 bt3 f3.b trivial
 refine wp_ret ?_
 try simp only [Exit.inBlock,Exit.then]
 refine bodyPost_ret (res_t (fn:=Tryz.f51) rfl (f4.vv 0)) f4.d ?_
 exact ⟨rfl,bt4,(f4.k (f3.k b_g_3))⟩
theorem divide_zero (s:Ex)(g:Nat)(v:Int)(W:World)(hr:W.heap[g]?=some (.cells (exC s) 48 (0,0)))(hM:MOk s.m)(hd:0≤s.x.dst∧s.x.dst<16)(h1:((cutI (s.m.r 2) s.x.w) != 0)=false)(h2:((cutI (s.m.r s.x.dst.toNat) s.x.w) == 0)=true):Calls Tryz.prog 51 #[.pointer (some ⟨g,0,none⟩),.int .u64 v] W (RetT (.int .i64 20) (exC (s)) 48 g W):=by
 refine calls_abs Tryz.func51 rfl (Nat.le_of_ble_eq_true rfl) ?_
 intro a0 d0 z0 h0
 replace z0:a0.tmps.size=75:=z0
 have s0_0:a0.tmps.getD 0 undef=.pointer (some ⟨g,0,none⟩):=h0 0 (Nat.le_of_ble_eq_true rfl)
 have s1_0:a0.tmps.getD 1 undef=.int .u64 v:=h0 1 (Nat.le_of_ble_eq_true rfl)
 have hB0:=cutW_below W g
 have hV:=cutW_size hr
 have bt0:=But.refl g W
 refine wp_seq ?_
 refine go_reg [] [] [some (.int .i64 0)] mo d0 z0 hB0 (by kernel_rfl) trivial (
  kq (fun cx=>ex_as rfl rfl) <|
  hn) ?_
 intro a1 w1 f1
 have bt1:=But.step f1 bt0 hB0 trivial
 refine wp_seq ?_
 have b_g_1:=f1.k hr
 have s0_2:=f1.q 0 s0_0
 refine go_reg [bx g 48 (exC s)] [] [some (pt g 0),some (pt g 0),some (pt g 0),some (pt g 0),some (pt g (0)),some (.int .u64 (s.m.r 0)),some (pt g 0),some (.int .u64 (s.m.r s.x.dst.toNat)),some (.int .u64 (s.m.r 0)),some (.int .u64 (s.m.r s.x.dst.toNat))] mo f1.d f1.z f1.b (by kernel_rfl) ⟨b_g_1,trivial⟩ (
  kq (fun cx=>ex_mv rfl (cx.rq 0 s0_2)) <|
  kq (fun cx=>ex_nc rfl cx.u0) <|
  kq (fun cx=>ex_fa rfl cx.u0 (faExE75_0_0 _ _)) <|
  kq (fun cx=>ex_fa rfl cx.u0 (faExE36_0_0 _ _)) <|
  hk (fun cx=>cx.v (ex_ia (n:=16) (sz:=1) rfl (cx.u 0 rfl) rfl Tryz.underlying23 (by kernel_rfl) (by omega) (by omega) (by omega)) rfl rfl) <|
  hk (fun cx=>cx.v (ldExR (by omega) rfl (cx.u 0 rfl) (cx.rn 0 rfl)) rfl rfl) <|
  kq (fun cx=>ex_mv rfl (cx.rq 0 s0_2)) <|
  hc (fun _ _ wx cx=>cx.c rfl (args1 cx.u0) Tryz.func82 (by decide +kernel) (dst_n s g wx (cx.rn 0 rfl) hd) rfl rfl) <|
  kmu 0 <|
  kmu 0 <|
  hn) ?_
 intro a2 w2 f2
 have bt2:=But.step f2 bt1 f1.b ⟨.inl rfl,trivial⟩
 refine wp_seq ?_
 refine wp_seq ?_
 have b_g_3:=f2.k b_g_1
 have s0_4:=f2.q 0 s0_2
 refine go_reg [bx g 48 (exC s)] [] (tabs [some (pt g 0),some (pt g 0),some (pt g 0),some (pt g 0),some (pt g (2)),some (.int .u64 (s.m.r 2)),some (pt g 0),some (pt g 0),some (pt g 22),some (pt g 23),some (.int .i8 s.x.w),some (.int .u64 (cutI (s.m.r 2) s.x.w)),oF,oF,some (.int .u64 (s.m.r s.x.dst.toNat)),some (pt g 0),some (pt g 0),some (pt g 22),some (pt g 23),some (.int .i8 s.x.w)] [some (.int .u64 (cutI (s.m.r s.x.dst.toNat) s.x.w)),oT,oT]) mo f2.d f2.z f2.b (by kernel_rfl) ⟨b_g_3,trivial⟩ (
  kq (fun cx=>ex_mv rfl (cx.rq 0 s0_4)) <|
  kq (fun cx=>ex_nc rfl cx.u0) <|
  kq (fun cx=>ex_fa rfl cx.u0 (faExE75_0_0 _ _)) <|
  kq (fun cx=>ex_fa rfl cx.u0 (faExE36_0_0 _ _)) <|
  hk (fun cx=>cx.v (ex_ia (n:=16) (sz:=1) rfl (cx.u 0 rfl) rfl Tryz.underlying23 (by kernel_rfl) (by omega) (by omega) (by omega)) rfl rfl) <|
  hk (fun cx=>cx.v (ldExR (by omega) rfl (cx.u 0 rfl) (cx.rn 0 rfl)) rfl rfl) <|
  kq (fun cx=>ex_mv rfl (cx.rq 0 s0_4)) <|
  kq (fun cx=>ex_nc rfl cx.u0) <|
  kq (fun cx=>ex_fa rfl cx.u0 (faExE75_1_0 _ _)) <|
  kq (fun cx=>ex_fa rfl cx.u0 (faExE26_1_22 _ _)) <|
  kq (fun cx=>ex_ld rfl (cx.u 0 rfl) (cx.rn 0 rfl) rfl Tryz.isAgg28) <|
  hc (fun _ _ wx cx=>cx.c rfl (args2 cx.u0 cx.u1) Tryz.func34 (by decide +kernel) (((cut_any (s.m.r 2) s.x.w wx).mono (by rintro e w' ⟨rfl,rfl⟩;exact ⟨rfl,Below.refl _ _⟩))) rfl rfl) <|
  hk (fun cx=>cx.v (ex_ne (x:=.tmp 26) rfl cx.u0 rfl) rfl (congrArg Value.bool h1)) <|
  kmu 0 <|
  hk (fun cx=>cx.vy 0 (ex_mv rfl (cx.rq 6 (f2.vv 9)))) <|
  hk (fun cx=>cx.vy 0 (ex_mv rfl (cx.rq 0 s0_4))) <|
  hk (fun cx=>cx.vy 1 (ex_nc rfl cx.u0)) <|
  hk (fun cx=>cx.vy 1 (ex_fa rfl cx.u0 (faExE75_1_0 _ _))) <|
  hk (fun cx=>cx.vy 1 (ex_fa rfl cx.u0 (faExE26_1_22 _ _))) <|
  hk (fun cx=>cx.vy 1 (ex_ld rfl (cx.u 0 rfl) (cx.rn 0 rfl) rfl Tryz.isAgg28)) <|
  hc (fun _ _ wx cx=>cx.call (cx.wy rfl rfl rfl rfl (cx.u 2 rfl)) rfl rfl (args2 cx.u0 cx.u1) Tryz.func34 (by decide +kernel) rfl (((cut_any (s.m.r s.x.dst.toNat) s.x.w wx).mono (by rintro e w' ⟨rfl,rfl⟩;exact ⟨rfl,Below.refl _ _⟩))) rfl rfl rfl rfl) <|
  hk (fun cx=>cx.vy 1 (ex_eq (x:=.tmp 35) rfl cx.u0 rfl) (congrArg Value.bool h2)) <|
  kq (fun cx=>ex_pf rfl cx.u0 cx.u1) <|
  hn) ?_
 intro a3 w3 f3
 have bt3:=But.step f3 bt2 f2.b ⟨.inl rfl,trivial⟩
 refine wp_cond_true (f3.vv 22) ?_
 refine wp_seq ?_
 refine go_reg [] [] [some (.int .i64 20)] mo f3.d f3.z f3.b (by kernel_rfl) trivial (
  kq (fun cx=>ex_as rfl rfl) <|
  hn) ?_
 intro a4 w4 f4
 have bt4:=But.step f4 bt3 f3.b trivial
 refine wp_ret ?_
 try simp only [Exit.inBlock,Exit.then]
 refine bodyPost_ret (res_t (fn:=Tryz.f51) rfl (f4.vv 0)) f4.d ?_
 exact ⟨rfl,bt4,(f4.k (f3.k b_g_3))⟩
end Go.Proofs.YtjhedldplmhmjaaGreatDoor.Exe
