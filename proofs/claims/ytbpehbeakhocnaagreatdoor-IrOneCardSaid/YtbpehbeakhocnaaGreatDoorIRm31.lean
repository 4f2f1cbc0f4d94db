import Derived.Test.YtbpehbeakhocnaaGreatDoorIRm30
import Derived.BigRegion
set_option maxHeartbeats 2000000
set_option linter.unusedVariables false
set_option linter.unusedSimpArgs false
set_option linter.unnecessarySimpa false
namespace Go.Proofs.YtbpehbeakhocnaaGreatDoor.Exe
open Go Go.RowKit
open Mrm (Xi xC zX mayX bytesX)
open Flg (Fl fC zF addF subF ofF holF holE mayC)
set_option maxRecDepth 100000
theorem faExE75_0_0 (g:Nat) (w:World):(Instr.fieldAt 65 (.pointer (some ⟨g,0,none⟩)) 0).run Tryz.prog w=.ok (.pointer (some ⟨g,0,none⟩)) w:=by simp [go_sem]
theorem faExE36_0_0 (g:Nat) (w:World):(Instr.fieldAt 30 (.pointer (some ⟨g,0,none⟩)) 0).run Tryz.prog w=.ok (.pointer (some ⟨g,0,none⟩)) w:=by simp [go_sem]
theorem faExE75_1_0 (g:Nat) (w:World):(Instr.fieldAt 65 (.pointer (some ⟨g,0,none⟩)) 1).run Tryz.prog w=.ok (.pointer (some ⟨g,22,none⟩)) w:=by simp [go_sem]
theorem faExE26_1_22 (g:Nat) (w:World):(Instr.fieldAt 38 (.pointer (some ⟨g,22,none⟩)) 1).run Tryz.prog w=.ok (.pointer (some ⟨g,23,none⟩)) w:=by simp [go_sem]
theorem faExE36_1_0 (g:Nat) (w:World):(Instr.fieldAt 30 (.pointer (some ⟨g,0,none⟩)) 1).run Tryz.prog w=.ok (.pointer (some ⟨g,16,none⟩)) w:=by simp [go_sem]
theorem divide_ok (s:Ex) (g:Nat) (v:Int) (W:World) (hr:W.heap[g]?=some (.cells (exC s) 65 (0,0))) (hM:MOk s.m) (hd:0 ≤ s.x.dst ∧ s.x.dst < 16) (h1:((cutI (s.m.r 2) s.x.w) != 0)=false) (h2:((cutI (s.m.r s.x.dst.toNat) s.x.w) == 0)=false):Calls Tryz.prog 86 #[.pointer (some ⟨g,0,none⟩),.int .u64 v] W (RetT (.int .i64 0) (exC (((s.upR 0 (doI 3 s.x.w (s.m.r 0) (s.m.r s.x.dst.toNat))).upR 2 (doI 9 s.x.w (s.m.r 0) (s.m.r s.x.dst.toNat))).upF zF)) 65 g W):=by
  refine calls_abs Tryz.func86 rfl (Nat.le_of_ble_eq_true rfl) ?_
  intro a0 d0 z0 h0
  replace z0:a0.tmps.size=75:=z0
  have s0_0:a0.tmps.getD 0 undef=.pointer (some ⟨g,0,none⟩):=h0 0 (Nat.le_of_ble_eq_true rfl)
  have s1_0:a0.tmps.getD 1 undef=.int .u64 v:=h0 1 (Nat.le_of_ble_eq_true rfl)
  have hB0:=cutW_below W g
  have hV:=cutW_size hr
  have bt0:=But.refl g W
  refine wp_seq ?_
  refine go_reg [] [] [some (.int .i64 0)] mo d0 z0 hB0 (by kernel_rfl) trivial (
   hk (fun cx=>cx.q (ex_as rfl rfl)) <|
   hn) ?_
  intro a1 w1 f1
  have bt1:=But.step f1 bt0 hB0 trivial
  refine wp_seq ?_
  have b_g_1:=f1.k hr
  have s0_2:=f1.q 0 s0_0
  refine go_reg [bx g 65 (exC s)] [] [some (pt g 0),some (pt g 0),some (pt g 0),some (pt g 0),some (pt g (0)),some (.int .u64 (s.m.r 0)),some (pt g 0),some (.int .u64 (s.m.r s.x.dst.toNat)),some (.int .u64 (s.m.r 0)),some (.int .u64 (s.m.r s.x.dst.toNat))] mo f1.d f1.z f1.b (by kernel_rfl) ⟨b_g_1,trivial⟩ (
   hk (fun cx=>cx.q (ex_mv rfl (cx.rq 0 s0_2))) <|
   hk (fun cx=>cx.q (ex_nc rfl (cx.u 0 rfl))) <|
   hk (fun cx=>cx.q (ex_fa rfl (cx.u 0 rfl) (faExE75_0_0 _ _))) <|
   hk (fun cx=>cx.q (ex_fa rfl (cx.u 0 rfl) (faExE36_0_0 _ _))) <|
   hk (fun cx=>cx.v (ex_ia (n:=16) (sz:=1) rfl (cx.u 0 rfl) rfl Tryz.underlying26 (by kernel_rfl) (by omega) (by omega) (by omega)) rfl rfl) <|
   hk (fun cx=>cx.v (ldExR (by omega) rfl (cx.u 0 rfl) (cx.rn 0 rfl)) rfl rfl) <|
   hk (fun cx=>cx.q (ex_mv rfl (cx.rq 0 s0_2))) <|
   hc (fun _ _ wx cx=>cx.c rfl (args1 (cx.u 0 rfl)) Tryz.func109 (by decide +kernel) (dst_n s g wx (cx.rn 0 rfl) hd) rfl rfl) <|
   kmu 0 <|
   kmu 0 <|
   hn) ?_
  intro a2 w2 f2
  have bt2:=But.step f2 bt1 f1.b ⟨.inl rfl,trivial⟩
  refine wp_seq ?_
  refine wp_seq ?_
  have b_g_3:=f2.k b_g_1
  have s0_4:=f2.q 0 s0_2
  refine go_reg [bx g 65 (exC s)] [] (tabs [some (pt g 0),some (pt g 0),some (pt g 0),some (pt g 0),some (pt g (2)),some (.int .u64 (s.m.r 2)),some (pt g 0),some (pt g 0),some (pt g 22),some (pt g 23),some (.int .i8 s.x.w),some (.int .u64 (cutI (s.m.r 2) s.x.w)),oF,oF,some (.int .u64 (s.m.r s.x.dst.toNat)),some (pt g 0),some (pt g 0),some (pt g 22),some (pt g 23),some (.int .i8 s.x.w)] [some (.int .u64 (cutI (s.m.r s.x.dst.toNat) s.x.w)),oF,oF]) mo f2.d f2.z f2.b (by kernel_rfl) ⟨b_g_3,trivial⟩ (
   hk (fun cx=>cx.q (ex_mv rfl (cx.rq 0 s0_4))) <|
   hk (fun cx=>cx.q (ex_nc rfl (cx.u 0 rfl))) <|
   hk (fun cx=>cx.q (ex_fa rfl (cx.u 0 rfl) (faExE75_0_0 _ _))) <|
   hk (fun cx=>cx.q (ex_fa rfl (cx.u 0 rfl) (faExE36_0_0 _ _))) <|
   hk (fun cx=>cx.v (ex_ia (n:=16) (sz:=1) rfl (cx.u 0 rfl) rfl Tryz.underlying26 (by kernel_rfl) (by omega) (by omega) (by omega)) rfl rfl) <|
   hk (fun cx=>cx.v (ldExR (by omega) rfl (cx.u 0 rfl) (cx.rn 0 rfl)) rfl rfl) <|
   hk (fun cx=>cx.q (ex_mv rfl (cx.rq 0 s0_4))) <|
   hk (fun cx=>cx.q (ex_nc rfl (cx.u 0 rfl))) <|
   hk (fun cx=>cx.q (ex_fa rfl (cx.u 0 rfl) (faExE75_1_0 _ _))) <|
   hk (fun cx=>cx.q (ex_fa rfl (cx.u 0 rfl) (faExE26_1_22 _ _))) <|
   hk (fun cx=>cx.q (ex_ld rfl (cx.u 0 rfl) (cx.rn 0 rfl) rfl Tryz.isAgg36)) <|
   hc (fun _ _ wx cx=>cx.c rfl (args2 (cx.u 0 rfl) (cx.u 1 rfl)) Tryz.func107 (by decide +kernel) (((cut_any (s.m.r 2) s.x.w wx).mono (by rintro e w' ⟨rfl,rfl⟩;exact ⟨rfl,Below.refl _ _⟩))) rfl rfl) <|
   hk (fun cx=>cx.v (ex_ne (x:=.tmp 26) rfl (cx.u 0 rfl) rfl) rfl (congrArg Value.bool h1)) <|
   kmu 0 <|
   hk (fun cx=>cx.vy 0 (ex_mv rfl (cx.rq 6 (f2.v 9 rfl rfl rfl)))) <|
   hk (fun cx=>cx.vy 0 (ex_mv rfl (cx.rq 0 s0_4))) <|
   hk (fun cx=>cx.vy 1 (ex_nc rfl (cx.u 0 rfl))) <|
   hk (fun cx=>cx.vy 1 (ex_fa rfl (cx.u 0 rfl) (faExE75_1_0 _ _))) <|
   hk (fun cx=>cx.vy 1 (ex_fa rfl (cx.u 0 rfl) (faExE26_1_22 _ _))) <|
   hk (fun cx=>cx.vy 1 (ex_ld rfl (cx.u 0 rfl) (cx.rn 0 rfl) rfl Tryz.isAgg36)) <|
   hc (fun _ _ wx cx=>cx.call (cx.wy rfl rfl rfl rfl (cx.u 2 rfl)) rfl rfl (args2 (cx.u 0 rfl) (cx.u 1 rfl)) Tryz.func107 (by decide +kernel) rfl (((cut_any (s.m.r s.x.dst.toNat) s.x.w wx).mono (by rintro e w' ⟨rfl,rfl⟩;exact ⟨rfl,Below.refl _ _⟩))) rfl rfl rfl rfl) <|
   hk (fun cx=>cx.vy 1 (ex_eq (x:=.tmp 35) rfl (cx.u 0 rfl) rfl) (congrArg Value.bool h2)) <|
   hk (fun cx=>cx.q (ex_pf rfl (cx.u 0 rfl) (cx.u 1 rfl))) <|
   hn) ?_
  intro a3 w3 f3
  have bt3:=But.step f3 bt2 f2.b ⟨.inl rfl,trivial⟩
  refine wp_cond_false (f3.v 22 rfl rfl rfl) ?_
  refine wp_skip ?_
  refine wp_seq ?_
  have b_g_5:=f3.k b_g_3
  have s0_6:=f3.q 0 s0_4
  have s5_7:=f3.q 5 (f2.v 8 rfl rfl rfl)
  have s6_8:=f3.q 6 (f2.v 9 rfl rfl rfl)
  refine go_reg [⟨g,65,(exC s),some 16,(exC (s.upR 0 (doI 3 s.x.w (s.m.r 0) (s.m.r s.x.dst.toNat))))⟩] [] [some (pt g 0),some (pt g 0),some (pt g 0),some (pt g 22),some (pt g 23),some (.int .i8 s.x.w),some (.int .u64 (s.m.r 0)),some (.int .u64 (s.m.r s.x.dst.toNat)),some (.tuple #[.int .u64 (doI 3 s.x.w (s.m.r 0) (s.m.r s.x.dst.toNat)),.int .i64 (doE 3 s.x.w)]),some (.tuple #[.int .u64 (doI 3 s.x.w (s.m.r 0) (s.m.r s.x.dst.toNat)),.int .i64 (doE 3 s.x.w)]),some (.int .u64 (doI 3 s.x.w (s.m.r 0) (s.m.r s.x.dst.toNat))),some (.int .i64 (doE 3 s.x.w)),some (pt g 0),some (pt g 0),some (pt g 0),some (pt g (0)),none] mo f3.d f3.z f3.b (by kernel_rfl) ⟨b_g_5,trivial⟩ (
   hk (fun cx=>cx.q (ex_mv rfl (cx.rq 0 s0_6))) <|
   hk (fun cx=>cx.q (ex_mv rfl (cx.rq 0 s0_6))) <|
   hk (fun cx=>cx.q (ex_nc rfl (cx.u 0 rfl))) <|
   hk (fun cx=>cx.q (ex_fa rfl (cx.u 0 rfl) (faExE75_1_0 _ _))) <|
   hk (fun cx=>cx.q (ex_fa rfl (cx.u 0 rfl) (faExE26_1_22 _ _))) <|
   hk (fun cx=>cx.q (ex_ld rfl (cx.u 0 rfl) (cx.rf 0 rfl (by kernel_rfl)) rfl Tryz.isAgg36)) <|
   hk (fun cx=>cx.q (ex_mv rfl (cx.rq 5 s5_7))) <|
   hk (fun cx=>cx.q (ex_mv rfl (cx.rq 6 s6_8))) <|
   hc (fun _ _ wx cx=>cx.c rfl (args4 rfl (cx.u 0 rfl) (cx.u 1 rfl) (cx.u 2 rfl)) Tryz.func113 (by decide +kernel) (do_any 3 s.x.w (s.m.r 0) (s.m.r s.x.dst.toNat) wx (hM.r 0).1 (hM.r 0).2 (hM.r s.x.dst.toNat).1 (hM.r s.x.dst.toNat).2) rfl rfl) <|
   kmu 0 <|
   hk (fun cx=>cx.q (ex_ext (x:=.tmp 38) rfl (cx.u 0 rfl) rfl)) <|
   hk (fun cx=>cx.q (ex_ext (x:=.tmp 38) rfl (cx.u 0 rfl) rfl)) <|
   hk (fun cx=>cx.q (ex_nc rfl (cx.u 0 rfl))) <|
   hk (fun cx=>cx.q (ex_fa rfl (cx.u 0 rfl) (faExE75_0_0 _ _))) <|
   hk (fun cx=>cx.q (ex_fa rfl (cx.u 0 rfl) (faExE36_0_0 _ _))) <|
   hk (fun cx=>cx.v (ex_ia (n:=16) (sz:=1) rfl (cx.u 0 rfl) rfl Tryz.underlying26 (by kernel_rfl) (by omega) (by omega) (by omega)) rfl rfl) <|
   hk (fun cx=>cx.stC (wn rfl) rfl rfl 0 rfl (cx.u 0 rfl) (cx.u 1 rfl) rfl rfl (by kernel_rfl) (by rw [exC_size];simp only [Nat.blt_eq];omega) (exC_set _ (by omega) _) hV rfl trivial trivial) <|
   hn) ?_
  intro a4 w4 f4
  have bt4:=But.step f4 bt3 f3.b ⟨.inr rfl,trivial⟩
  refine wp_seq ?_
  have s0_9:=f4.q 0 s0_6
  have s5_10:=f4.q 5 s5_7
  have s6_11:=f4.q 6 s6_8
  refine go_reg [⟨g,65,(exC (s.upR 0 (doI 3 s.x.w (s.m.r 0) (s.m.r s.x.dst.toNat)))),some 16,(exC ((s.upR 0 (doI 3 s.x.w (s.m.r 0) (s.m.r s.x.dst.toNat))).upR 2 (doI 9 s.x.w (s.m.r 0) (s.m.r s.x.dst.toNat))))⟩] [] [some (pt g 0),some (pt g 0),some (pt g 0),some (pt g 22),some (pt g 23),some (.int .i8 s.x.w),some (.int .u64 (s.m.r 0)),some (.int .u64 (s.m.r s.x.dst.toNat)),some (.tuple #[.int .u64 (doI 9 s.x.w (s.m.r 0) (s.m.r s.x.dst.toNat)),.int .i64 (doE 9 s.x.w)]),some (.tuple #[.int .u64 (doI 9 s.x.w (s.m.r 0) (s.m.r s.x.dst.toNat)),.int .i64 (doE 9 s.x.w)]),some (.int .u64 (doI 9 s.x.w (s.m.r 0) (s.m.r s.x.dst.toNat))),some (.int .i64 (doE 9 s.x.w)),some (pt g 0),some (pt g 0),some (pt g 0),some (pt g (2)),none] mo f4.d f4.z f4.b (by kernel_rfl) ⟨f4.rows.1,trivial⟩ (
   hk (fun cx=>cx.q (ex_mv rfl (cx.rq 0 s0_9))) <|
   hk (fun cx=>cx.q (ex_mv rfl (cx.rq 0 s0_9))) <|
   hk (fun cx=>cx.q (ex_nc rfl (cx.u 0 rfl))) <|
   hk (fun cx=>cx.q (ex_fa rfl (cx.u 0 rfl) (faExE75_1_0 _ _))) <|
   hk (fun cx=>cx.q (ex_fa rfl (cx.u 0 rfl) (faExE26_1_22 _ _))) <|
   hk (fun cx=>cx.q (ex_ld rfl (cx.u 0 rfl) (cx.rf 0 rfl (by kernel_rfl)) rfl Tryz.isAgg36)) <|
   hk (fun cx=>cx.q (ex_mv rfl (cx.rq 5 s5_10))) <|
   hk (fun cx=>cx.q (ex_mv rfl (cx.rq 6 s6_11))) <|
   hc (fun _ _ wx cx=>cx.c rfl (args4 rfl (cx.u 0 rfl) (cx.u 1 rfl) (cx.u 2 rfl)) Tryz.func113 (by decide +kernel) (do_any 9 s.x.w (s.m.r 0) (s.m.r s.x.dst.toNat) wx (hM.r 0).1 (hM.r 0).2 (hM.r s.x.dst.toNat).1 (hM.r s.x.dst.toNat).2) rfl rfl) <|
   kmu 0 <|
   hk (fun cx=>cx.q (ex_ext (x:=.tmp 54) rfl (cx.u 0 rfl) rfl)) <|
   hk (fun cx=>cx.q (ex_ext (x:=.tmp 54) rfl (cx.u 0 rfl) rfl)) <|
   hk (fun cx=>cx.q (ex_nc rfl (cx.u 0 rfl))) <|
   hk (fun cx=>cx.q (ex_fa rfl (cx.u 0 rfl) (faExE75_0_0 _ _))) <|
   hk (fun cx=>cx.q (ex_fa rfl (cx.u 0 rfl) (faExE36_0_0 _ _))) <|
   hk (fun cx=>cx.v (ex_ia (n:=16) (sz:=1) rfl (cx.u 0 rfl) rfl Tryz.underlying26 (by kernel_rfl) (by omega) (by omega) (by omega)) rfl rfl) <|
   hk (fun cx=>cx.stC (wn rfl) rfl rfl 0 rfl (cx.u 0 rfl) (cx.u 1 rfl) rfl rfl (by kernel_rfl) (by rw [exC_size];simp only [Nat.blt_eq];omega) (exC_set _ (by omega) _) hV rfl trivial trivial) <|
   hn) ?_
  intro a5 w5 f5
  have bt5:=But.step f5 bt4 f4.b ⟨.inr rfl,trivial⟩
  refine wp_seq ?_
  have s0_12:=f5.q 0 s0_9
  refine go_reg [⟨g,65,(exC ((s.upR 0 (doI 3 s.x.w (s.m.r 0) (s.m.r s.x.dst.toNat))).upR 2 (doI 9 s.x.w (s.m.r 0) (s.m.r s.x.dst.toNat)))),some 5,(exC (((s.upR 0 (doI 3 s.x.w (s.m.r 0) (s.m.r s.x.dst.toNat))).upR 2 (doI 9 s.x.w (s.m.r 0) (s.m.r s.x.dst.toNat))).upF zF))⟩] [] [some (pt g 0),some (.agg (fC zF)),some (pt g 0),some (pt g 0),some (pt g 16),none] mo f5.d f5.z f5.b (by kernel_rfl) ⟨f5.rows.1,trivial⟩ (
   hk (fun cx=>cx.q (ex_mv rfl (cx.rq 0 s0_12))) <|
   hc (fun _ _ wx cx=>cx.c rfl (args0 ) Tryz.func39 (by decide +kernel) (Flg.none_n wx) rfl rfl) <|
   hk (fun cx=>cx.q (ex_nc rfl (cx.u 0 rfl))) <|
   hk (fun cx=>cx.q (ex_fa rfl (cx.u 0 rfl) (faExE75_0_0 _ _))) <|
   hk (fun cx=>cx.q (ex_fa rfl (cx.u 0 rfl) (faExE36_1_0 _ _))) <|
   hk (fun cx=>cx.stP (wn rfl) rfl rfl 0 rfl (cx.u 0 rfl) (cx.u 1 rfl) (Flg.fC_one _) (by kernel_rfl) (Nat.le_of_ble_eq_true rfl) rfl hV rfl trivial trivial) <|
   hn) ?_
  intro a6 w6 f6
  have bt6:=But.step f6 bt5 f5.b ⟨.inr rfl,trivial⟩
  refine wp_seq ?_
  refine go_reg [] [] [some (.int .i64 0)] mo f6.d f6.z f6.b (by kernel_rfl) trivial (
   hk (fun cx=>cx.q (ex_as rfl rfl)) <|
   hn) ?_
  intro a7 w7 f7
  have bt7:=But.step f7 bt6 f6.b trivial
  refine wp_ret ?_
  try simp only [Exit.inBlock,Exit.then]
  refine bodyPost_ret (res_t (fn:=Tryz.f86) rfl (f7.v 0 rfl rfl rfl)) f7.d ?_
  exact ⟨rfl,bt7,(f7.k f6.rows.1)⟩
theorem divide_high (s:Ex) (g:Nat) (v:Int) (W:World) (hr:W.heap[g]?=some (.cells (exC s) 65 (0,0))) (hM:MOk s.m) (hd:0 ≤ s.x.dst ∧ s.x.dst < 16) (h1:((cutI (s.m.r 2) s.x.w) != 0)=true):Calls Tryz.prog 86 #[.pointer (some ⟨g,0,none⟩),.int .u64 v] W (RetT (.int .i64 20) (exC (s)) 65 g W):=by
  refine calls_abs Tryz.func86 rfl (Nat.le_of_ble_eq_true rfl) ?_
  intro a0 d0 z0 h0
  replace z0:a0.tmps.size=75:=z0
  have s0_0:a0.tmps.getD 0 undef=.pointer (some ⟨g,0,none⟩):=h0 0 (Nat.le_of_ble_eq_true rfl)
  have s1_0:a0.tmps.getD 1 undef=.int .u64 v:=h0 1 (Nat.le_of_ble_eq_true rfl)
  have hB0:=cutW_below W g
  have hV:=cutW_size hr
  have bt0:=But.refl g W
  refine wp_seq ?_
  refine go_reg [] [] [some (.int .i64 0)] mo d0 z0 hB0 (by kernel_rfl) trivial (
   hk (fun cx=>cx.q (ex_as rfl rfl)) <|
   hn) ?_
  intro a1 w1 f1
  have bt1:=But.step f1 bt0 hB0 trivial
  refine wp_seq ?_
  have b_g_1:=f1.k hr
  have s0_2:=f1.q 0 s0_0
  refine go_reg [bx g 65 (exC s)] [] [some (pt g 0),some (pt g 0),some (pt g 0),some (pt g 0),some (pt g (0)),some (.int .u64 (s.m.r 0)),some (pt g 0),some (.int .u64 (s.m.r s.x.dst.toNat)),some (.int .u64 (s.m.r 0)),some (.int .u64 (s.m.r s.x.dst.toNat))] mo f1.d f1.z f1.b (by kernel_rfl) ⟨b_g_1,trivial⟩ (
   hk (fun cx=>cx.q (ex_mv rfl (cx.rq 0 s0_2))) <|
   hk (fun cx=>cx.q (ex_nc rfl (cx.u 0 rfl))) <|
   hk (fun cx=>cx.q (ex_fa rfl (cx.u 0 rfl) (faExE75_0_0 _ _))) <|
   hk (fun cx=>cx.q (ex_fa rfl (cx.u 0 rfl) (faExE36_0_0 _ _))) <|
   hk (fun cx=>cx.v (ex_ia (n:=16) (sz:=1) rfl (cx.u 0 rfl) rfl Tryz.underlying26 (by kernel_rfl) (by omega) (by omega) (by omega)) rfl rfl) <|
   hk (fun cx=>cx.v (ldExR (by omega) rfl (cx.u 0 rfl) (cx.rn 0 rfl)) rfl rfl) <|
   hk (fun cx=>cx.q (ex_mv rfl (cx.rq 0 s0_2))) <|
   hc (fun _ _ wx cx=>cx.c rfl (args1 (cx.u 0 rfl)) Tryz.func109 (by decide +kernel) (dst_n s g wx (cx.rn 0 rfl) hd) rfl rfl) <|
   kmu 0 <|
   kmu 0 <|
   hn) ?_
  intro a2 w2 f2
  have bt2:=But.step f2 bt1 f1.b ⟨.inl rfl,trivial⟩
  refine wp_seq ?_
  refine wp_seq ?_
  have b_g_3:=f2.k b_g_1
  have s0_4:=f2.q 0 s0_2
  refine go_reg [bx g 65 (exC s)] [] (tabs [some (pt g 0),some (pt g 0),some (pt g 0),some (pt g 0),some (pt g (2)),some (.int .u64 (s.m.r 2)),some (pt g 0),some (pt g 0),some (pt g 22),some (pt g 23),some (.int .i8 s.x.w),some (.int .u64 (cutI (s.m.r 2) s.x.w)),oT,oT,oU,oU,oU,oU,oU,oU] [oU,oU,oT]) mo f2.d f2.z f2.b (by kernel_rfl) ⟨b_g_3,trivial⟩ (
   hk (fun cx=>cx.q (ex_mv rfl (cx.rq 0 s0_4))) <|
   hk (fun cx=>cx.q (ex_nc rfl (cx.u 0 rfl))) <|
   hk (fun cx=>cx.q (ex_fa rfl (cx.u 0 rfl) (faExE75_0_0 _ _))) <|
   hk (fun cx=>cx.q (ex_fa rfl (cx.u 0 rfl) (faExE36_0_0 _ _))) <|
   hk (fun cx=>cx.v (ex_ia (n:=16) (sz:=1) rfl (cx.u 0 rfl) rfl Tryz.underlying26 (by kernel_rfl) (by omega) (by omega) (by omega)) rfl rfl) <|
   hk (fun cx=>cx.v (ldExR (by omega) rfl (cx.u 0 rfl) (cx.rn 0 rfl)) rfl rfl) <|
   hk (fun cx=>cx.q (ex_mv rfl (cx.rq 0 s0_4))) <|
   hk (fun cx=>cx.q (ex_nc rfl (cx.u 0 rfl))) <|
   hk (fun cx=>cx.q (ex_fa rfl (cx.u 0 rfl) (faExE75_1_0 _ _))) <|
   hk (fun cx=>cx.q (ex_fa rfl (cx.u 0 rfl) (faExE26_1_22 _ _))) <|
   hk (fun cx=>cx.q (ex_ld rfl (cx.u 0 rfl) (cx.rn 0 rfl) rfl Tryz.isAgg36)) <|
   hc (fun _ _ wx cx=>cx.c rfl (args2 (cx.u 0 rfl) (cx.u 1 rfl)) Tryz.func107 (by decide +kernel) (((cut_any (s.m.r 2) s.x.w wx).mono (by rintro e w' ⟨rfl,rfl⟩;exact ⟨rfl,Below.refl _ _⟩))) rfl rfl) <|
   hk (fun cx=>cx.v (ex_ne (x:=.tmp 26) rfl (cx.u 0 rfl) rfl) rfl (congrArg Value.bool h1)) <|
   kmu 0 <|
   kno 0 <|
   kno 0 <|
   kno 1 <|
   kno 1 <|
   kno 1 <|
   kno 1 <|
   kno 2 <|
   kno 1 <|
   hk (fun cx=>cx.q (ex_pt rfl (cx.u 0 rfl) rfl)) <|
   hn) ?_
  intro a3 w3 f3
  have bt3:=But.step f3 bt2 f2.b ⟨.inl rfl,trivial⟩
  refine wp_cond_true (f3.v 22 rfl rfl rfl) ?_
  refine wp_seq ?_
  refine go_reg [] [] [some (.int .i64 20)] mo f3.d f3.z f3.b (by kernel_rfl) trivial (
   hk (fun cx=>cx.q (ex_as rfl rfl)) <|
   hn) ?_
  intro a4 w4 f4
  have bt4:=But.step f4 bt3 f3.b trivial
  refine wp_ret ?_
  try simp only [Exit.inBlock,Exit.then]
  refine bodyPost_ret (res_t (fn:=Tryz.f86) rfl (f4.v 0 rfl rfl rfl)) f4.d ?_
  exact ⟨rfl,bt4,(f4.k (f3.k b_g_3))⟩
theorem divide_zero (s:Ex) (g:Nat) (v:Int) (W:World) (hr:W.heap[g]?=some (.cells (exC s) 65 (0,0))) (hM:MOk s.m) (hd:0 ≤ s.x.dst ∧ s.x.dst < 16) (h1:((cutI (s.m.r 2) s.x.w) != 0)=false) (h2:((cutI (s.m.r s.x.dst.toNat) s.x.w) == 0)=true):Calls Tryz.prog 86 #[.pointer (some ⟨g,0,none⟩),.int .u64 v] W (RetT (.int .i64 20) (exC (s)) 65 g W):=by
  refine calls_abs Tryz.func86 rfl (Nat.le_of_ble_eq_true rfl) ?_
  intro a0 d0 z0 h0
  replace z0:a0.tmps.size=75:=z0
  have s0_0:a0.tmps.getD 0 undef=.pointer (some ⟨g,0,none⟩):=h0 0 (Nat.le_of_ble_eq_true rfl)
  have s1_0:a0.tmps.getD 1 undef=.int .u64 v:=h0 1 (Nat.le_of_ble_eq_true rfl)
  have hB0:=cutW_below W g
  have hV:=cutW_size hr
  have bt0:=But.refl g W
  refine wp_seq ?_
  refine go_reg [] [] [some (.int .i64 0)] mo d0 z0 hB0 (by kernel_rfl) trivial (
   hk (fun cx=>cx.q (ex_as rfl rfl)) <|
   hn) ?_
  intro a1 w1 f1
  have bt1:=But.step f1 bt0 hB0 trivial
  refine wp_seq ?_
  have b_g_1:=f1.k hr
  have s0_2:=f1.q 0 s0_0
  refine go_reg [bx g 65 (exC s)] [] [some (pt g 0),some (pt g 0),some (pt g 0),some (pt g 0),some (pt g (0)),some (.int .u64 (s.m.r 0)),some (pt g 0),some (.int .u64 (s.m.r s.x.dst.toNat)),some (.int .u64 (s.m.r 0)),some (.int .u64 (s.m.r s.x.dst.toNat))] mo f1.d f1.z f1.b (by kernel_rfl) ⟨b_g_1,trivial⟩ (
   hk (fun cx=>cx.q (ex_mv rfl (cx.rq 0 s0_2))) <|
   hk (fun cx=>cx.q (ex_nc rfl (cx.u 0 rfl))) <|
   hk (fun cx=>cx.q (ex_fa rfl (cx.u 0 rfl) (faExE75_0_0 _ _))) <|
   hk (fun cx=>cx.q (ex_fa rfl (cx.u 0 rfl) (faExE36_0_0 _ _))) <|
   hk (fun cx=>cx.v (ex_ia (n:=16) (sz:=1) rfl (cx.u 0 rfl) rfl Tryz.underlying26 (by kernel_rfl) (by omega) (by omega) (by omega)) rfl rfl) <|
   hk (fun cx=>cx.v (ldExR (by omega) rfl (cx.u 0 rfl) (cx.rn 0 rfl)) rfl rfl) <|
   hk (fun cx=>cx.q (ex_mv rfl (cx.rq 0 s0_2))) <|
   hc (fun _ _ wx cx=>cx.c rfl (args1 (cx.u 0 rfl)) Tryz.func109 (by decide +kernel) (dst_n s g wx (cx.rn 0 rfl) hd) rfl rfl) <|
   kmu 0 <|
   kmu 0 <|
   hn) ?_
  intro a2 w2 f2
  have bt2:=But.step f2 bt1 f1.b ⟨.inl rfl,trivial⟩
  refine wp_seq ?_
  refine wp_seq ?_
  have b_g_3:=f2.k b_g_1
  have s0_4:=f2.q 0 s0_2
  refine go_reg [bx g 65 (exC s)] [] (tabs [some (pt g 0),some (pt g 0),some (pt g 0),some (pt g 0),some (pt g (2)),some (.int .u64 (s.m.r 2)),some (pt g 0),some (pt g 0),some (pt g 22),some (pt g 23),some (.int .i8 s.x.w),some (.int .u64 (cutI (s.m.r 2) s.x.w)),oF,oF,some (.int .u64 (s.m.r s.x.dst.toNat)),some (pt g 0),some (pt g 0),some (pt g 22),some (pt g 23),some (.int .i8 s.x.w)] [some (.int .u64 (cutI (s.m.r s.x.dst.toNat) s.x.w)),oT,oT]) mo f2.d f2.z f2.b (by kernel_rfl) ⟨b_g_3,trivial⟩ (
   hk (fun cx=>cx.q (ex_mv rfl (cx.rq 0 s0_4))) <|
   hk (fun cx=>cx.q (ex_nc rfl (cx.u 0 rfl))) <|
   hk (fun cx=>cx.q (ex_fa rfl (cx.u 0 rfl) (faExE75_0_0 _ _))) <|
   hk (fun cx=>cx.q (ex_fa rfl (cx.u 0 rfl) (faExE36_0_0 _ _))) <|
   hk (fun cx=>cx.v (ex_ia (n:=16) (sz:=1) rfl (cx.u 0 rfl) rfl Tryz.underlying26 (by kernel_rfl) (by omega) (by omega) (by omega)) rfl rfl) <|
   hk (fun cx=>cx.v (ldExR (by omega) rfl (cx.u 0 rfl) (cx.rn 0 rfl)) rfl rfl) <|
   hk (fun cx=>cx.q (ex_mv rfl (cx.rq 0 s0_4))) <|
   hk (fun cx=>cx.q (ex_nc rfl (cx.u 0 rfl))) <|
   hk (fun cx=>cx.q (ex_fa rfl (cx.u 0 rfl) (faExE75_1_0 _ _))) <|
   hk (fun cx=>cx.q (ex_fa rfl (cx.u 0 rfl) (faExE26_1_22 _ _))) <|
   hk (fun cx=>cx.q (ex_ld rfl (cx.u 0 rfl) (cx.rn 0 rfl) rfl Tryz.isAgg36)) <|
   hc (fun _ _ wx cx=>cx.c rfl (args2 (cx.u 0 rfl) (cx.u 1 rfl)) Tryz.func107 (by decide +kernel) (((cut_any (s.m.r 2) s.x.w wx).mono (by rintro e w' ⟨rfl,rfl⟩;exact ⟨rfl,Below.refl _ _⟩))) rfl rfl) <|
   hk (fun cx=>cx.v (ex_ne (x:=.tmp 26) rfl (cx.u 0 rfl) rfl) rfl (congrArg Value.bool h1)) <|
   kmu 0 <|
   hk (fun cx=>cx.vy 0 (ex_mv rfl (cx.rq 6 (f2.v 9 rfl rfl rfl)))) <|
   hk (fun cx=>cx.vy 0 (ex_mv rfl (cx.rq 0 s0_4))) <|
   hk (fun cx=>cx.vy 1 (ex_nc rfl (cx.u 0 rfl))) <|
   hk (fun cx=>cx.vy 1 (ex_fa rfl (cx.u 0 rfl) (faExE75_1_0 _ _))) <|
   hk (fun cx=>cx.vy 1 (ex_fa rfl (cx.u 0 rfl) (faExE26_1_22 _ _))) <|
   hk (fun cx=>cx.vy 1 (ex_ld rfl (cx.u 0 rfl) (cx.rn 0 rfl) rfl Tryz.isAgg36)) <|
   hc (fun _ _ wx cx=>cx.call (cx.wy rfl rfl rfl rfl (cx.u 2 rfl)) rfl rfl (args2 (cx.u 0 rfl) (cx.u 1 rfl)) Tryz.func107 (by decide +kernel) rfl (((cut_any (s.m.r s.x.dst.toNat) s.x.w wx).mono (by rintro e w' ⟨rfl,rfl⟩;exact ⟨rfl,Below.refl _ _⟩))) rfl rfl rfl rfl) <|
   hk (fun cx=>cx.vy 1 (ex_eq (x:=.tmp 35) rfl (cx.u 0 rfl) rfl) (congrArg Value.bool h2)) <|
   hk (fun cx=>cx.q (ex_pf rfl (cx.u 0 rfl) (cx.u 1 rfl))) <|
   hn) ?_
  intro a3 w3 f3
  have bt3:=But.step f3 bt2 f2.b ⟨.inl rfl,trivial⟩
  refine wp_cond_true (f3.v 22 rfl rfl rfl) ?_
  refine wp_seq ?_
  refine go_reg [] [] [some (.int .i64 20)] mo f3.d f3.z f3.b (by kernel_rfl) trivial (
   hk (fun cx=>cx.q (ex_as rfl rfl)) <|
   hn) ?_
  intro a4 w4 f4
  have bt4:=But.step f4 bt3 f3.b trivial
  refine wp_ret ?_
  try simp only [Exit.inBlock,Exit.then]
  refine bodyPost_ret (res_t (fn:=Tryz.f86) rfl (f4.v 0 rfl rfl rfl)) f4.d ?_
  exact ⟨rfl,bt4,(f4.k (f3.k b_g_3))⟩
theorem ex_cell {s:Ex} {W:World} {g:Nat} (h:W.heap[g]?=some (.cells (exC s) 65 (0,0))) (i:Nat) {v:Value} (hv:(exC s)[i]?=some v):W.cell? ⟨g,i,none⟩=some v:=by
  simp only [World.cell?,h];exact hv
theorem ex_row {s t:Ex} {W:World} {g i:Nat} {v:Value} (h:W.heap[g]?=some (.cells (exC s) 65 (0,0))) (hv:(exC s).setIfInBounds i v=exC t):(W.setCell ⟨g,i,none⟩ v).heap[g]?=some (.cells (exC t) 65 (0,0)):=by
  rw [setCell_row h i v,hv]
theorem ex_frozen {s:Ex} {W:World} {g:Nat} (h:W.heap[g]?=some (.cells (exC s) 65 (0,0))) (i:Nat):W.frozen? ⟨g,i,none⟩=false:=by simp [World.frozen?,h]
theorem But.set (w:World) (g i:Nat) (v:Value):But g w (w.setCell ⟨g,i,none⟩ v):=⟨rfl,rfl,rfl,by rw [Deep.nblk_setCell];exact Nat.le_refl _,fun k _ hne=>setCell_past _ _ _ _ hne⟩
theorem But.drew {g:Nat} {W w:World} (h:But g W w):But g W w.drew:=⟨h.os,h.tape,h.output,h.size,h.block⟩
theorem answer_m (s:Ex) (g:Nat) (v:Int) (W:World) (hr:W.heap[g]?=some (.cells (exC s) 65 (0,0))):Calls Tryz.prog 92 #[.pointer (some ⟨g,0,none⟩),.int .u64 v] W (RetT (.int .i64 0) (exC (((s.upR 0 v).upR 1 0).upR 11 0)) 65 g W):=by
  have c0:=ex_cell hr 0 (exC_reg s (j:=0) (by decide))
  have c1:=ex_cell hr 1 (exC_reg s (j:=1) (by decide))
  have c11:=ex_cell hr 11 (exC_reg s (j:=11) (by decide))
  have f0:=ex_frozen hr 0
  have f1:=ex_frozen hr 1
  have f11:=ex_frozen hr 11
  have R:=Lib.hid (ex_row (ex_row (ex_row hr (exC_set s (j:=0) (by decide) v)) (exC_set _ (j:=1) (by decide) 0)) (exC_set _ (j:=11) (by decide) 0))
  have B:=Lib.hid (((But.set W g 0 (.int .u64 v)).trans (But.set _ g 1 (.int .u64 0))).trans (But.set _ g 11 (.int .u64 0)))
  clear hr
  go_enter Tryz.func92,Tryz.ntmps92
  go_wp2_with fail
  go_region
  go_wp2_with fail
  go_ret
  exact ⟨rfl,B.out.drew,R.out⟩
theorem operand_0 (s:Ex) (g:Nat) (W:World) (hr:W.heap[g]?=some (.cells (exC s) 65 (0,0))) (hs:0 ≤ s.x.src ∧ s.x.src < 16) (hO:s.x.op=0):Calls Tryz.prog 93 #[.pointer (some ⟨g,0,none⟩)] W fun e w'=>e=.returned (.int .u64 (s.m.r s.x.src.toNat)) ∧ Below W.heap.size W w':=by
  have co:W.cell? ⟨g,22,none⟩=some (.int .i8 s.x.op):=ex_cell hr 22 rfl
  rw [hO] at co
  have c3:W.cell? ⟨g,25,none⟩=some (.int .i8 s.x.src):=ex_cell hr 25 rfl
  have c:=ex_cell hr s.x.src.toNat (exC_reg s (by omega))
  generalize s.m.r s.x.src.toNat=v at *
  generalize s.x.src=n at *
  obtain ⟨n,rfl⟩:=Int.eq_ofNat_of_zero_le hs.1
  rw [Int.toNat_natCast] at c
  have hs2:(n:Int) < 16:=hs.2
  have hs3:n < 16:=by omega
  clear hs
  clear hr hO
  go_enter Tryz.func93,Tryz.ntmps93
  go_wp2_with fail
  go_quiet (fail)
  go_wp2_with fail
  go_ret
  exact ⟨rfl,below_drewN (Below.refl _ W) _⟩
theorem operand_1 (s:Ex) (g:Nat) (W:World) (hr:W.heap[g]?=some (.cells (exC s) 65 (0,0))) (hs:0 ≤ s.x.src ∧ s.x.src < 16) (hO:s.x.op=1):Calls Tryz.prog 93 #[.pointer (some ⟨g,0,none⟩)] W fun e w'=>e=.returned (.int .u64 (IntKind.u64.wrap s.x.imm)) ∧ Below W.heap.size W w':=by
  have co:W.cell? ⟨g,22,none⟩=some (.int .i8 s.x.op):=ex_cell hr 22 rfl
  rw [hO] at co
  have c:W.cell? ⟨g,28,none⟩=some (.int .i64 s.x.imm):=ex_cell hr 28 rfl
  generalize s.x.imm=v at *
  rw [IntKind.wrap_u64]
  clear hr hO hs
  go_enter Tryz.func93,Tryz.ntmps93
  go_wp2
  go_ret
  exact ⟨rfl,Below.refl _ _⟩
theorem operand_2 (s:Ex) (g:Nat) (W:World) (hr:W.heap[g]?=some (.cells (exC s) 65 (0,0))) (hs:0 ≤ s.x.src ∧ s.x.src < 16) (hO:s.x.op=2):Calls Tryz.prog 93 #[.pointer (some ⟨g,0,none⟩)] W fun e w'=>e=.returned (.int .u64 (s.m.r s.x.src.toNat)) ∧ Below W.heap.size W w':=by
  have co:W.cell? ⟨g,22,none⟩=some (.int .i8 s.x.op):=ex_cell hr 22 rfl
  rw [hO] at co
  have c3:W.cell? ⟨g,25,none⟩=some (.int .i8 s.x.src):=ex_cell hr 25 rfl
  have c:=ex_cell hr s.x.src.toNat (exC_reg s (by omega))
  generalize s.m.r s.x.src.toNat=v at *
  generalize s.x.src=n at *
  obtain ⟨n,rfl⟩:=Int.eq_ofNat_of_zero_le hs.1
  rw [Int.toNat_natCast] at c
  have hs2:(n:Int) < 16:=hs.2
  have hs3:n < 16:=by omega
  clear hs
  clear hr hO
  go_enter Tryz.func93,Tryz.ntmps93
  go_wp2_with fail
  go_quiet (fail)
  go_wp2_with fail
  go_ret
  exact ⟨rfl,below_drewN (Below.refl _ W) _⟩
theorem operand_3 (s:Ex) (g:Nat) (W:World) (hr:W.heap[g]?=some (.cells (exC s) 65 (0,0))) (hs:0 ≤ s.x.src ∧ s.x.src < 16) (hO:s.x.op=3):Calls Tryz.prog 93 #[.pointer (some ⟨g,0,none⟩)] W fun e w'=>e=.returned (.int .u64 (s.m.r s.x.src.toNat)) ∧ Below W.heap.size W w':=by
  have co:W.cell? ⟨g,22,none⟩=some (.int .i8 s.x.op):=ex_cell hr 22 rfl
  rw [hO] at co
  have c3:W.cell? ⟨g,25,none⟩=some (.int .i8 s.x.src):=ex_cell hr 25 rfl
  have c:=ex_cell hr s.x.src.toNat (exC_reg s (by omega))
  generalize s.m.r s.x.src.toNat=v at *
  generalize s.x.src=n at *
  obtain ⟨n,rfl⟩:=Int.eq_ofNat_of_zero_le hs.1
  rw [Int.toNat_natCast] at c
  have hs2:(n:Int) < 16:=hs.2
  have hs3:n < 16:=by omega
  clear hs
  clear hr hO
  go_enter Tryz.func93,Tryz.ntmps93
  go_wp2_with fail
  go_quiet (fail)
  go_wp2_with fail
  go_ret
  exact ⟨rfl,below_drewN (Below.refl _ W) _⟩
theorem operand_4 (s:Ex) (g:Nat) (W:World) (hr:W.heap[g]?=some (.cells (exC s) 65 (0,0))) (hs:0 ≤ s.x.src ∧ s.x.src < 16) (hO:s.x.op=4):Calls Tryz.prog 93 #[.pointer (some ⟨g,0,none⟩)] W fun e w'=>e=.returned (.int .u64 (s.m.r s.x.src.toNat)) ∧ Below W.heap.size W w':=by
  have co:W.cell? ⟨g,22,none⟩=some (.int .i8 s.x.op):=ex_cell hr 22 rfl
  rw [hO] at co
  have c3:W.cell? ⟨g,25,none⟩=some (.int .i8 s.x.src):=ex_cell hr 25 rfl
  have c:=ex_cell hr s.x.src.toNat (exC_reg s (by omega))
  generalize s.m.r s.x.src.toNat=v at *
  generalize s.x.src=n at *
  obtain ⟨n,rfl⟩:=Int.eq_ofNat_of_zero_le hs.1
  rw [Int.toNat_natCast] at c
  have hs2:(n:Int) < 16:=hs.2
  have hs3:n < 16:=by omega
  clear hs
  clear hr hO
  go_enter Tryz.func93,Tryz.ntmps93
  go_wp2_with fail
  go_quiet (fail)
  go_wp2_with fail
  go_ret
  exact ⟨rfl,below_drewN (Below.refl _ W) _⟩
theorem operand_5 (s:Ex) (g:Nat) (W:World) (hr:W.heap[g]?=some (.cells (exC s) 65 (0,0))) (hs:0 ≤ s.x.src ∧ s.x.src < 16) (hO:s.x.op=5):Calls Tryz.prog 93 #[.pointer (some ⟨g,0,none⟩)] W fun e w'=>e=.returned (.int .u64 (s.m.r s.x.src.toNat)) ∧ Below W.heap.size W w':=by
  have co:W.cell? ⟨g,22,none⟩=some (.int .i8 s.x.op):=ex_cell hr 22 rfl
  rw [hO] at co
  have c3:W.cell? ⟨g,25,none⟩=some (.int .i8 s.x.src):=ex_cell hr 25 rfl
  have c:=ex_cell hr s.x.src.toNat (exC_reg s (by omega))
  generalize s.m.r s.x.src.toNat=v at *
  generalize s.x.src=n at *
  obtain ⟨n,rfl⟩:=Int.eq_ofNat_of_zero_le hs.1
  rw [Int.toNat_natCast] at c
  have hs2:(n:Int) < 16:=hs.2
  have hs3:n < 16:=by omega
  clear hs
  clear hr hO
  go_enter Tryz.func93,Tryz.ntmps93
  go_wp2_with fail
  go_quiet (fail)
  go_wp2_with fail
  go_ret
  exact ⟨rfl,below_drewN (Below.refl _ W) _⟩
theorem operand_6 (s:Ex) (g:Nat) (W:World) (hr:W.heap[g]?=some (.cells (exC s) 65 (0,0))) (hs:0 ≤ s.x.src ∧ s.x.src < 16) (hO:s.x.op=6):Calls Tryz.prog 93 #[.pointer (some ⟨g,0,none⟩)] W fun e w'=>e=.returned (.int .u64 (s.m.r s.x.src.toNat)) ∧ Below W.heap.size W w':=by
  have co:W.cell? ⟨g,22,none⟩=some (.int .i8 s.x.op):=ex_cell hr 22 rfl
  rw [hO] at co
  have c3:W.cell? ⟨g,25,none⟩=some (.int .i8 s.x.src):=ex_cell hr 25 rfl
  have c:=ex_cell hr s.x.src.toNat (exC_reg s (by omega))
  generalize s.m.r s.x.src.toNat=v at *
  generalize s.x.src=n at *
  obtain ⟨n,rfl⟩:=Int.eq_ofNat_of_zero_le hs.1
  rw [Int.toNat_natCast] at c
  have hs2:(n:Int) < 16:=hs.2
  have hs3:n < 16:=by omega
  clear hs
  clear hr hO
  go_enter Tryz.func93,Tryz.ntmps93
  go_wp2_with fail
  go_quiet (fail)
  go_wp2_with fail
  go_ret
  exact ⟨rfl,below_drewN (Below.refl _ W) _⟩
theorem operand_7 (s:Ex) (g:Nat) (W:World) (hr:W.heap[g]?=some (.cells (exC s) 65 (0,0))) (hs:0 ≤ s.x.src ∧ s.x.src < 16) (hO:s.x.op=7):Calls Tryz.prog 93 #[.pointer (some ⟨g,0,none⟩)] W fun e w'=>e=.returned (.int .u64 (s.m.r s.x.src.toNat)) ∧ Below W.heap.size W w':=by
  have co:W.cell? ⟨g,22,none⟩=some (.int .i8 s.x.op):=ex_cell hr 22 rfl
  rw [hO] at co
  have c3:W.cell? ⟨g,25,none⟩=some (.int .i8 s.x.src):=ex_cell hr 25 rfl
  have c:=ex_cell hr s.x.src.toNat (exC_reg s (by omega))
  generalize s.m.r s.x.src.toNat=v at *
  generalize s.x.src=n at *
  obtain ⟨n,rfl⟩:=Int.eq_ofNat_of_zero_le hs.1
  rw [Int.toNat_natCast] at c
  have hs2:(n:Int) < 16:=hs.2
  have hs3:n < 16:=by omega
  clear hs
  clear hr hO
  go_enter Tryz.func93,Tryz.ntmps93
  go_wp2_with fail
  go_quiet (fail)
  go_wp2_with fail
  go_ret
  exact ⟨rfl,below_drewN (Below.refl _ W) _⟩
theorem operand_8 (s:Ex) (g:Nat) (W:World) (hr:W.heap[g]?=some (.cells (exC s) 65 (0,0))) (hs:0 ≤ s.x.src ∧ s.x.src < 16) (hO:s.x.op=8):Calls Tryz.prog 93 #[.pointer (some ⟨g,0,none⟩)] W fun e w'=>e=.returned (.int .u64 (s.m.r s.x.src.toNat)) ∧ Below W.heap.size W w':=by
  have co:W.cell? ⟨g,22,none⟩=some (.int .i8 s.x.op):=ex_cell hr 22 rfl
  rw [hO] at co
  have c3:W.cell? ⟨g,25,none⟩=some (.int .i8 s.x.src):=ex_cell hr 25 rfl
  have c:=ex_cell hr s.x.src.toNat (exC_reg s (by omega))
  generalize s.m.r s.x.src.toNat=v at *
  generalize s.x.src=n at *
  obtain ⟨n,rfl⟩:=Int.eq_ofNat_of_zero_le hs.1
  rw [Int.toNat_natCast] at c
  have hs2:(n:Int) < 16:=hs.2
  have hs3:n < 16:=by omega
  clear hs
  clear hr hO
  go_enter Tryz.func93,Tryz.ntmps93
  go_wp2_with fail
  go_quiet (fail)
  go_wp2_with fail
  go_ret
  exact ⟨rfl,below_drewN (Below.refl _ W) _⟩
theorem operand_9 (s:Ex) (g:Nat) (W:World) (hr:W.heap[g]?=some (.cells (exC s) 65 (0,0))) (hs:0 ≤ s.x.src ∧ s.x.src < 16) (hO:s.x.op=9):Calls Tryz.prog 93 #[.pointer (some ⟨g,0,none⟩)] W fun e w'=>e=.returned (.int .u64 (IntKind.u64.wrap s.x.imm)) ∧ Below W.heap.size W w':=by
  have co:W.cell? ⟨g,22,none⟩=some (.int .i8 s.x.op):=ex_cell hr 22 rfl
  rw [hO] at co
  have c:W.cell? ⟨g,28,none⟩=some (.int .i64 s.x.imm):=ex_cell hr 28 rfl
  generalize s.x.imm=v at *
  rw [IntKind.wrap_u64]
  clear hr hO hs
  go_enter Tryz.func93,Tryz.ntmps93
  go_wp2
  go_ret
  exact ⟨rfl,Below.refl _ _⟩
theorem operand_10 (s:Ex) (g:Nat) (W:World) (hr:W.heap[g]?=some (.cells (exC s) 65 (0,0))) (hs:0 ≤ s.x.src ∧ s.x.src < 16) (hO:s.x.op=10):Calls Tryz.prog 93 #[.pointer (some ⟨g,0,none⟩)] W fun e w'=>e=.returned (.int .u64 (IntKind.u64.wrap s.x.imm)) ∧ Below W.heap.size W w':=by
  have co:W.cell? ⟨g,22,none⟩=some (.int .i8 s.x.op):=ex_cell hr 22 rfl
  rw [hO] at co
  have c:W.cell? ⟨g,28,none⟩=some (.int .i64 s.x.imm):=ex_cell hr 28 rfl
  generalize s.x.imm=v at *
  rw [IntKind.wrap_u64]
  clear hr hO hs
  go_enter Tryz.func93,Tryz.ntmps93
  go_wp2
  go_ret
  exact ⟨rfl,Below.refl _ _⟩
theorem operand_11 (s:Ex) (g:Nat) (W:World) (hr:W.heap[g]?=some (.cells (exC s) 65 (0,0))) (hs:0 ≤ s.x.src ∧ s.x.src < 16) (hO:s.x.op=11):Calls Tryz.prog 93 #[.pointer (some ⟨g,0,none⟩)] W fun e w'=>e=.returned (.int .u64 (IntKind.u64.wrap s.x.imm)) ∧ Below W.heap.size W w':=by
  have co:W.cell? ⟨g,22,none⟩=some (.int .i8 s.x.op):=ex_cell hr 22 rfl
  rw [hO] at co
  have c:W.cell? ⟨g,28,none⟩=some (.int .i64 s.x.imm):=ex_cell hr 28 rfl
  generalize s.x.imm=v at *
  rw [IntKind.wrap_u64]
  clear hr hO hs
  go_enter Tryz.func93,Tryz.ntmps93
  go_wp2
  go_ret
  exact ⟨rfl,Below.refl _ _⟩
theorem operand_12 (s:Ex) (g:Nat) (W:World) (hr:W.heap[g]?=some (.cells (exC s) 65 (0,0))) (hs:0 ≤ s.x.src ∧ s.x.src < 16) (hO:s.x.op=12):Calls Tryz.prog 93 #[.pointer (some ⟨g,0,none⟩)] W fun e w'=>e=.returned (.int .u64 (IntKind.u64.wrap s.x.imm)) ∧ Below W.heap.size W w':=by
  have co:W.cell? ⟨g,22,none⟩=some (.int .i8 s.x.op):=ex_cell hr 22 rfl
  rw [hO] at co
  have c:W.cell? ⟨g,28,none⟩=some (.int .i64 s.x.imm):=ex_cell hr 28 rfl
  generalize s.x.imm=v at *
  rw [IntKind.wrap_u64]
  clear hr hO hs
  go_enter Tryz.func93,Tryz.ntmps93
  go_wp2
  go_ret
  exact ⟨rfl,Below.refl _ _⟩
theorem operand_13 (s:Ex) (g:Nat) (W:World) (hr:W.heap[g]?=some (.cells (exC s) 65 (0,0))) (hs:0 ≤ s.x.src ∧ s.x.src < 16) (hO:s.x.op=13):Calls Tryz.prog 93 #[.pointer (some ⟨g,0,none⟩)] W fun e w'=>e=.returned (.int .u64 (IntKind.u64.wrap s.x.imm)) ∧ Below W.heap.size W w':=by
  have co:W.cell? ⟨g,22,none⟩=some (.int .i8 s.x.op):=ex_cell hr 22 rfl
  rw [hO] at co
  have c:W.cell? ⟨g,28,none⟩=some (.int .i64 s.x.imm):=ex_cell hr 28 rfl
  generalize s.x.imm=v at *
  rw [IntKind.wrap_u64]
  clear hr hO hs
  go_enter Tryz.func93,Tryz.ntmps93
  go_wp2
  go_ret
  exact ⟨rfl,Below.refl _ _⟩
theorem operand_14 (s:Ex) (g:Nat) (W:World) (hr:W.heap[g]?=some (.cells (exC s) 65 (0,0))) (hs:0 ≤ s.x.src ∧ s.x.src < 16) (hO:s.x.op=14):Calls Tryz.prog 93 #[.pointer (some ⟨g,0,none⟩)] W fun e w'=>e=.returned (.int .u64 (IntKind.u64.wrap s.x.imm)) ∧ Below W.heap.size W w':=by
  have co:W.cell? ⟨g,22,none⟩=some (.int .i8 s.x.op):=ex_cell hr 22 rfl
  rw [hO] at co
  have c:W.cell? ⟨g,28,none⟩=some (.int .i64 s.x.imm):=ex_cell hr 28 rfl
  generalize s.x.imm=v at *
  rw [IntKind.wrap_u64]
  clear hr hO hs
  go_enter Tryz.func93,Tryz.ntmps93
  go_wp2
  go_ret
  exact ⟨rfl,Below.refl _ _⟩
theorem operand_15 (s:Ex) (g:Nat) (W:World) (hr:W.heap[g]?=some (.cells (exC s) 65 (0,0))) (hs:0 ≤ s.x.src ∧ s.x.src < 16) (hO:s.x.op=15):Calls Tryz.prog 93 #[.pointer (some ⟨g,0,none⟩)] W fun e w'=>e=.returned (.int .u64 (IntKind.u64.wrap s.x.imm)) ∧ Below W.heap.size W w':=by
  have co:W.cell? ⟨g,22,none⟩=some (.int .i8 s.x.op):=ex_cell hr 22 rfl
  rw [hO] at co
  have c:W.cell? ⟨g,28,none⟩=some (.int .i64 s.x.imm):=ex_cell hr 28 rfl
  generalize s.x.imm=v at *
  rw [IntKind.wrap_u64]
  clear hr hO hs
  go_enter Tryz.func93,Tryz.ntmps93
  go_wp2
  go_ret
  exact ⟨rfl,Below.refl _ _⟩
theorem operand_16 (s:Ex) (g:Nat) (W:World) (hr:W.heap[g]?=some (.cells (exC s) 65 (0,0))) (hs:0 ≤ s.x.src ∧ s.x.src < 16) (hO:s.x.op=16):Calls Tryz.prog 93 #[.pointer (some ⟨g,0,none⟩)] W fun e w'=>e=.returned (.int .u64 (s.m.r s.x.src.toNat)) ∧ Below W.heap.size W w':=by
  have co:W.cell? ⟨g,22,none⟩=some (.int .i8 s.x.op):=ex_cell hr 22 rfl
  rw [hO] at co
  have c3:W.cell? ⟨g,25,none⟩=some (.int .i8 s.x.src):=ex_cell hr 25 rfl
  have c:=ex_cell hr s.x.src.toNat (exC_reg s (by omega))
  generalize s.m.r s.x.src.toNat=v at *
  generalize s.x.src=n at *
  obtain ⟨n,rfl⟩:=Int.eq_ofNat_of_zero_le hs.1
  rw [Int.toNat_natCast] at c
  have hs2:(n:Int) < 16:=hs.2
  have hs3:n < 16:=by omega
  clear hs
  clear hr hO
  go_enter Tryz.func93,Tryz.ntmps93
  go_wp2_with fail
  go_quiet (fail)
  go_wp2_with fail
  go_ret
  exact ⟨rfl,below_drewN (Below.refl _ W) _⟩
theorem operand_17 (s:Ex) (g:Nat) (W:World) (hr:W.heap[g]?=some (.cells (exC s) 65 (0,0))) (hs:0 ≤ s.x.src ∧ s.x.src < 16) (hO:s.x.op=17):Calls Tryz.prog 93 #[.pointer (some ⟨g,0,none⟩)] W fun e w'=>e=.returned (.int .u64 (IntKind.u64.wrap s.x.imm)) ∧ Below W.heap.size W w':=by
  have co:W.cell? ⟨g,22,none⟩=some (.int .i8 s.x.op):=ex_cell hr 22 rfl
  rw [hO] at co
  have c:W.cell? ⟨g,28,none⟩=some (.int .i64 s.x.imm):=ex_cell hr 28 rfl
  generalize s.x.imm=v at *
  rw [IntKind.wrap_u64]
  clear hr hO hs
  go_enter Tryz.func93,Tryz.ntmps93
  go_wp2
  go_ret
  exact ⟨rfl,Below.refl _ _⟩
theorem operand_18 (s:Ex) (g:Nat) (W:World) (hr:W.heap[g]?=some (.cells (exC s) 65 (0,0))) (hs:0 ≤ s.x.src ∧ s.x.src < 16) (hO:s.x.op=18):Calls Tryz.prog 93 #[.pointer (some ⟨g,0,none⟩)] W fun e w'=>e=.returned (.int .u64 (IntKind.u64.wrap s.x.imm)) ∧ Below W.heap.size W w':=by
  have co:W.cell? ⟨g,22,none⟩=some (.int .i8 s.x.op):=ex_cell hr 22 rfl
  rw [hO] at co
  have c:W.cell? ⟨g,28,none⟩=some (.int .i64 s.x.imm):=ex_cell hr 28 rfl
  generalize s.x.imm=v at *
  rw [IntKind.wrap_u64]
  clear hr hO hs
  go_enter Tryz.func93,Tryz.ntmps93
  go_wp2
  go_ret
  exact ⟨rfl,Below.refl _ _⟩
theorem operand_19 (s:Ex) (g:Nat) (W:World) (hr:W.heap[g]?=some (.cells (exC s) 65 (0,0))) (hs:0 ≤ s.x.src ∧ s.x.src < 16) (hO:s.x.op=19):Calls Tryz.prog 93 #[.pointer (some ⟨g,0,none⟩)] W fun e w'=>e=.returned (.int .u64 (IntKind.u64.wrap s.x.imm)) ∧ Below W.heap.size W w':=by
  have co:W.cell? ⟨g,22,none⟩=some (.int .i8 s.x.op):=ex_cell hr 22 rfl
  rw [hO] at co
  have c:W.cell? ⟨g,28,none⟩=some (.int .i64 s.x.imm):=ex_cell hr 28 rfl
  generalize s.x.imm=v at *
  rw [IntKind.wrap_u64]
  clear hr hO hs
  go_enter Tryz.func93,Tryz.ntmps93
  go_wp2
  go_ret
  exact ⟨rfl,Below.refl _ _⟩
theorem operand_20 (s:Ex) (g:Nat) (W:World) (hr:W.heap[g]?=some (.cells (exC s) 65 (0,0))) (hs:0 ≤ s.x.src ∧ s.x.src < 16) (hO:s.x.op=20):Calls Tryz.prog 93 #[.pointer (some ⟨g,0,none⟩)] W fun e w'=>e=.returned (.int .u64 (s.m.r 1)) ∧ Below W.heap.size W w':=by
  have co:W.cell? ⟨g,22,none⟩=some (.int .i8 s.x.op):=ex_cell hr 22 rfl
  rw [hO] at co
  have c:=ex_cell hr 1 (exC_reg s (j:=1) (by decide))
  generalize s.m.r 1=v at *
  clear hr hO hs
  go_enter Tryz.func93,Tryz.ntmps93
  go_wp2
  go_ret
  exact ⟨rfl,Below.refl _ _⟩
theorem operand_21 (s:Ex) (g:Nat) (W:World) (hr:W.heap[g]?=some (.cells (exC s) 65 (0,0))) (hs:0 ≤ s.x.src ∧ s.x.src < 16) (hO:s.x.op=21):Calls Tryz.prog 93 #[.pointer (some ⟨g,0,none⟩)] W fun e w'=>e=.returned (.int .u64 (s.m.r 1)) ∧ Below W.heap.size W w':=by
  have co:W.cell? ⟨g,22,none⟩=some (.int .i8 s.x.op):=ex_cell hr 22 rfl
  rw [hO] at co
  have c:=ex_cell hr 1 (exC_reg s (j:=1) (by decide))
  generalize s.m.r 1=v at *
  clear hr hO hs
  go_enter Tryz.func93,Tryz.ntmps93
  go_wp2
  go_ret
  exact ⟨rfl,Below.refl _ _⟩
theorem operand_22 (s:Ex) (g:Nat) (W:World) (hr:W.heap[g]?=some (.cells (exC s) 65 (0,0))) (hs:0 ≤ s.x.src ∧ s.x.src < 16) (hO:s.x.op=22):Calls Tryz.prog 93 #[.pointer (some ⟨g,0,none⟩)] W fun e w'=>e=.returned (.int .u64 (s.m.r 1)) ∧ Below W.heap.size W w':=by
  have co:W.cell? ⟨g,22,none⟩=some (.int .i8 s.x.op):=ex_cell hr 22 rfl
  rw [hO] at co
  have c:=ex_cell hr 1 (exC_reg s (j:=1) (by decide))
  generalize s.m.r 1=v at *
  clear hr hO hs
  go_enter Tryz.func93,Tryz.ntmps93
  go_wp2
  go_ret
  exact ⟨rfl,Below.refl _ _⟩
theorem operand_23 (s:Ex) (g:Nat) (W:World) (hr:W.heap[g]?=some (.cells (exC s) 65 (0,0))) (hs:0 ≤ s.x.src ∧ s.x.src < 16) (hO:s.x.op=23):Calls Tryz.prog 93 #[.pointer (some ⟨g,0,none⟩)] W fun e w'=>e=.returned (.int .u64 (IntKind.u64.wrap s.x.imm)) ∧ Below W.heap.size W w':=by
  have co:W.cell? ⟨g,22,none⟩=some (.int .i8 s.x.op):=ex_cell hr 22 rfl
  rw [hO] at co
  have c:W.cell? ⟨g,28,none⟩=some (.int .i64 s.x.imm):=ex_cell hr 28 rfl
  generalize s.x.imm=v at *
  rw [IntKind.wrap_u64]
  clear hr hO hs
  go_enter Tryz.func93,Tryz.ntmps93
  go_wp2
  go_ret
  exact ⟨rfl,Below.refl _ _⟩
theorem operand_24 (s:Ex) (g:Nat) (W:World) (hr:W.heap[g]?=some (.cells (exC s) 65 (0,0))) (hs:0 ≤ s.x.src ∧ s.x.src < 16) (hO:s.x.op=24):Calls Tryz.prog 93 #[.pointer (some ⟨g,0,none⟩)] W fun e w'=>e=.returned (.int .u64 (IntKind.u64.wrap s.x.imm)) ∧ Below W.heap.size W w':=by
  have co:W.cell? ⟨g,22,none⟩=some (.int .i8 s.x.op):=ex_cell hr 22 rfl
  rw [hO] at co
  have c:W.cell? ⟨g,28,none⟩=some (.int .i64 s.x.imm):=ex_cell hr 28 rfl
  generalize s.x.imm=v at *
  rw [IntKind.wrap_u64]
  clear hr hO hs
  go_enter Tryz.func93,Tryz.ntmps93
  go_wp2
  go_ret
  exact ⟨rfl,Below.refl _ _⟩
theorem operand_25 (s:Ex) (g:Nat) (W:World) (hr:W.heap[g]?=some (.cells (exC s) 65 (0,0))) (hs:0 ≤ s.x.src ∧ s.x.src < 16) (hO:s.x.op=25):Calls Tryz.prog 93 #[.pointer (some ⟨g,0,none⟩)] W fun e w'=>e=.returned (.int .u64 (s.m.r s.x.src.toNat)) ∧ Below W.heap.size W w':=by
  have co:W.cell? ⟨g,22,none⟩=some (.int .i8 s.x.op):=ex_cell hr 22 rfl
  rw [hO] at co
  have c3:W.cell? ⟨g,25,none⟩=some (.int .i8 s.x.src):=ex_cell hr 25 rfl
  have c:=ex_cell hr s.x.src.toNat (exC_reg s (by omega))
  generalize s.m.r s.x.src.toNat=v at *
  generalize s.x.src=n at *
  obtain ⟨n,rfl⟩:=Int.eq_ofNat_of_zero_le hs.1
  rw [Int.toNat_natCast] at c
  have hs2:(n:Int) < 16:=hs.2
  have hs3:n < 16:=by omega
  clear hs
  clear hr hO
  go_enter Tryz.func93,Tryz.ntmps93
  go_wp2_with fail
  go_quiet (fail)
  go_wp2_with fail
  go_ret
  exact ⟨rfl,below_drewN (Below.refl _ W) _⟩
theorem operand_26 (s:Ex) (g:Nat) (W:World) (hr:W.heap[g]?=some (.cells (exC s) 65 (0,0))) (hs:0 ≤ s.x.src ∧ s.x.src < 16) (hO:s.x.op=26):Calls Tryz.prog 93 #[.pointer (some ⟨g,0,none⟩)] W fun e w'=>e=.returned (.int .u64 (s.l)) ∧ Below W.heap.size W w':=by
  have co:W.cell? ⟨g,22,none⟩=some (.int .i8 s.x.op):=ex_cell hr 22 rfl
  rw [hO] at co
  have c:W.cell? ⟨g,30,none⟩=some (.int .u64 s.l):=ex_cell hr 30 rfl
  generalize s.l=v at *
  clear hr hO hs
  go_enter Tryz.func93,Tryz.ntmps93
  go_wp2
  go_ret
  exact ⟨rfl,Below.refl _ _⟩
theorem operand_27 (s:Ex) (g:Nat) (W:World) (hr:W.heap[g]?=some (.cells (exC s) 65 (0,0))) (hs:0 ≤ s.x.src ∧ s.x.src < 16) (hO:s.x.op=27):Calls Tryz.prog 93 #[.pointer (some ⟨g,0,none⟩)] W fun e w'=>e=.returned (.int .u64 (IntKind.u64.wrap s.x.imm)) ∧ Below W.heap.size W w':=by
  have co:W.cell? ⟨g,22,none⟩=some (.int .i8 s.x.op):=ex_cell hr 22 rfl
  rw [hO] at co
  have c:W.cell? ⟨g,28,none⟩=some (.int .i64 s.x.imm):=ex_cell hr 28 rfl
  generalize s.x.imm=v at *
  rw [IntKind.wrap_u64]
  clear hr hO hs
  go_enter Tryz.func93,Tryz.ntmps93
  go_wp2
  go_ret
  exact ⟨rfl,Below.refl _ _⟩
theorem operand_28 (s:Ex) (g:Nat) (W:World) (hr:W.heap[g]?=some (.cells (exC s) 65 (0,0))) (hs:0 ≤ s.x.src ∧ s.x.src < 16) (hO:s.x.op=28):Calls Tryz.prog 93 #[.pointer (some ⟨g,0,none⟩)] W fun e w'=>e=.returned (.int .u64 (IntKind.u64.wrap s.x.imm)) ∧ Below W.heap.size W w':=by
  have co:W.cell? ⟨g,22,none⟩=some (.int .i8 s.x.op):=ex_cell hr 22 rfl
  rw [hO] at co
  have c:W.cell? ⟨g,28,none⟩=some (.int .i64 s.x.imm):=ex_cell hr 28 rfl
  generalize s.x.imm=v at *
  rw [IntKind.wrap_u64]
  clear hr hO hs
  go_enter Tryz.func93,Tryz.ntmps93
  go_wp2
  go_ret
  exact ⟨rfl,Below.refl _ _⟩
theorem operand_29 (s:Ex) (g:Nat) (W:World) (hr:W.heap[g]?=some (.cells (exC s) 65 (0,0))) (hs:0 ≤ s.x.src ∧ s.x.src < 16) (hO:s.x.op=29):Calls Tryz.prog 93 #[.pointer (some ⟨g,0,none⟩)] W fun e w'=>e=.returned (.int .u64 (IntKind.u64.wrap s.x.imm)) ∧ Below W.heap.size W w':=by
  have co:W.cell? ⟨g,22,none⟩=some (.int .i8 s.x.op):=ex_cell hr 22 rfl
  rw [hO] at co
  have c:W.cell? ⟨g,28,none⟩=some (.int .i64 s.x.imm):=ex_cell hr 28 rfl
  generalize s.x.imm=v at *
  rw [IntKind.wrap_u64]
  clear hr hO hs
  go_enter Tryz.func93,Tryz.ntmps93
  go_wp2
  go_ret
  exact ⟨rfl,Below.refl _ _⟩
theorem operand_30 (s:Ex) (g:Nat) (W:World) (hr:W.heap[g]?=some (.cells (exC s) 65 (0,0))) (hs:0 ≤ s.x.src ∧ s.x.src < 16) (hO:s.x.op=30):Calls Tryz.prog 93 #[.pointer (some ⟨g,0,none⟩)] W fun e w'=>e=.returned (.int .u64 (s.l)) ∧ Below W.heap.size W w':=by
  have co:W.cell? ⟨g,22,none⟩=some (.int .i8 s.x.op):=ex_cell hr 22 rfl
  rw [hO] at co
  have c:W.cell? ⟨g,30,none⟩=some (.int .u64 s.l):=ex_cell hr 30 rfl
  generalize s.l=v at *
  clear hr hO hs
  go_enter Tryz.func93,Tryz.ntmps93
  go_wp2
  go_ret
  exact ⟨rfl,Below.refl _ _⟩
theorem operand_31 (s:Ex) (g:Nat) (W:World) (hr:W.heap[g]?=some (.cells (exC s) 65 (0,0))) (hs:0 ≤ s.x.src ∧ s.x.src < 16) (hO:s.x.op=31):Calls Tryz.prog 93 #[.pointer (some ⟨g,0,none⟩)] W fun e w'=>e=.returned (.int .u64 (s.l)) ∧ Below W.heap.size W w':=by
  have co:W.cell? ⟨g,22,none⟩=some (.int .i8 s.x.op):=ex_cell hr 22 rfl
  rw [hO] at co
  have c:W.cell? ⟨g,30,none⟩=some (.int .u64 s.l):=ex_cell hr 30 rfl
  generalize s.l=v at *
  clear hr hO hs
  go_enter Tryz.func93,Tryz.ntmps93
  go_wp2
  go_ret
  exact ⟨rfl,Below.refl _ _⟩
end Go.Proofs.YtbpehbeakhocnaaGreatDoor.Exe
