import Derived.Test.YtbpehbeakhocnaaGreatDoorIRm28
set_option maxHeartbeats 2000000
set_option linter.unusedVariables false
set_option linter.unusedSimpArgs false
set_option linter.unnecessarySimpa false
namespace Go.Proofs.YtbpehbeakhocnaaGreatDoor.Exe
open Go Go.RowKit
open Mrm (Xi xC zX mayX bytesX)
open Flg (Fl fC zF addF subF ofF holF holE mayC)
set_option maxRecDepth 100000
theorem faExC75_1_0 (g:Nat) (w:World):(Instr.fieldAt 65 (.pointer (some ⟨g,0,none⟩)) 1).run Tryz.prog w=.ok (.pointer (some ⟨g,22,none⟩)) w:=by simp [go_sem]
theorem faExC26_1_22 (g:Nat) (w:World):(Instr.fieldAt 38 (.pointer (some ⟨g,22,none⟩)) 1).run Tryz.prog w=.ok (.pointer (some ⟨g,23,none⟩)) w:=by simp [go_sem]
theorem faExC75_0_0 (g:Nat) (w:World):(Instr.fieldAt 65 (.pointer (some ⟨g,0,none⟩)) 0).run Tryz.prog w=.ok (.pointer (some ⟨g,0,none⟩)) w:=by simp [go_sem]
theorem faExC36_1_0 (g:Nat) (w:World):(Instr.fieldAt 30 (.pointer (some ⟨g,0,none⟩)) 1).run Tryz.prog w=.ok (.pointer (some ⟨g,16,none⟩)) w:=by simp [go_sem]
theorem test_m (s:Ex) (g:Nat) (v:Int) (W:World) (hr:W.heap[g]?=some (.cells (exC s) 65 (0,0))) (hM:MOk s.m) (hd:0 ≤ s.x.dst ∧ s.x.dst < 16) (hv:U64 v):Calls Tryz.prog 80 #[.pointer (some ⟨g,0,none⟩),.int .u64 v] W (RetT (.int .i64 0) (exC (s.upF (ofF s.x.w (doI 5 s.x.w (s.m.r s.x.dst.toNat) v)))) 65 g W):=by
  refine calls_abs Tryz.func80 rfl (Nat.le_of_ble_eq_true rfl) ?_
  intro a0 d0 z0 h0
  replace z0:a0.tmps.size=11:=z0
  have s0_0:a0.tmps.getD 0 undef=.pointer (some ⟨g,0,none⟩):=h0 0 (Nat.le_of_ble_eq_true rfl)
  have s1_0:a0.tmps.getD 1 undef=.int .u64 v:=h0 1 (Nat.le_of_ble_eq_true rfl)
  have hB0:=cutW_below W g
  have hV:=cutW_size hr
  have bt0:=But.refl g W
  refine wp_seq ?_
  refine go_reg [] [] [some (.int .i64 0)] mo d0 z0 hB0 (by kernel_rfl) trivial (
   hk (fun cx=>cx.q (ex_as rfl rfl)) <|
   hn) ?_
  intro a1 w1 f1
  have bt1:=But.step f1 bt0 hB0 trivial
  refine wp_seq ?_
  have b_g_1:=f1.k hr
  have s0_2:=f1.q 0 s0_0
  have s1_3:=f1.q 1 s1_0
  refine go_reg [⟨g,65,(exC s),some 5,(exC (s.upF (ofF s.x.w (((s.m.r s.x.dst.toNat).toNat &&& v.toNat:Nat):Int))))⟩] [] [some (pt g 0),some (pt g 0),some (.int .u64 (s.m.r s.x.dst.toNat)),some (.int .u64 v),some (.int .u64 (((s.m.r s.x.dst.toNat).toNat &&& v.toNat:Nat):Int)),some (.int .i64 0),some (.int .i64 0)] mo f1.d f1.z f1.b (by kernel_rfl) ⟨b_g_1,trivial⟩ (
   hk (fun cx=>cx.q (ex_mv rfl (cx.rq 0 s0_2))) <|
   hk (fun cx=>cx.q (ex_mv rfl (cx.rq 0 s0_2))) <|
   hc (fun _ _ wx cx=>cx.c rfl (args1 (cx.u 0 rfl)) Tryz.func109 (by decide +kernel) (dst_n s g wx (cx.rf 0 rfl (by kernel_rfl)) hd) rfl rfl) <|
   hk (fun cx=>cx.q (ex_mv rfl (cx.rq 1 s1_3))) <|
   hk (fun cx=>cx.v (ex_and (x:=.tmp 7) (y:=.tmp 8) rfl (cx.u 0 rfl) (cx.u 1 rfl)) rfl (congrArg (Value.int .u64) (u64_and (s.m.r s.x.dst.toNat) v (hM.r s.x.dst.toNat).1 (hM.r s.x.dst.toNat).2 hv.1 hv.2))) <|
   hc (fun _ _ wx cx=>callT cx (wn rfl) rfl (args2 (cx.u 0 rfl) (cx.u 1 rfl)) Tryz.func111 (by decide +kernel) (flagsOf_m s g (((s.m.r s.x.dst.toNat).toNat &&& v.toNat:Nat):Int) wx (cx.ri 0 rfl) (U64.and (hM.r s.x.dst.toNat) hv)) rfl rfl 0 rfl hV rfl trivial rfl) <|
   kmu 0 <|
   hn) ?_
  intro a2 w2 f2
  have bt2:=But.step f2 bt1 f1.b ⟨.inr rfl,trivial⟩
  refine wp_ret ?_
  try simp only [Exit.inBlock,Exit.then]
  refine bodyPost_ret (res_t (fn:=Tryz.f80) rfl (f2.v 6 rfl rfl rfl)) f2.d ?_
  exact ⟨rfl,bt2,(row_eq f2.rows.1 (congrArg (fun f=>exC (s.upF f)) (ofF_and s.x.w (hM.r s.x.dst.toNat) hv)))⟩
theorem add_m (s:Ex) (g:Nat) (v:Int) (W:World) (hr:W.heap[g]?=some (.cells (exC s) 65 (0,0))) (hM:MOk s.m) (hd:0 ≤ s.x.dst ∧ s.x.dst < 16) (hv:U64 v):Calls Tryz.prog 74 #[.pointer (some ⟨g,0,none⟩),.int .u64 v] W (RetT (.int .i64 0) (exC ((s.upF (addF s.x.w (s.m.r s.x.dst.toNat) v)).upR s.x.dst.toNat (doI 0 s.x.w (s.m.r s.x.dst.toNat) v))) 65 g W):=by
  refine calls_abs Tryz.func74 rfl (Nat.le_of_ble_eq_true rfl) ?_
  intro a0 d0 z0 h0
  replace z0:a0.tmps.size=24:=z0
  have s0_0:a0.tmps.getD 0 undef=.pointer (some ⟨g,0,none⟩):=h0 0 (Nat.le_of_ble_eq_true rfl)
  have s1_0:a0.tmps.getD 1 undef=.int .u64 v:=h0 1 (Nat.le_of_ble_eq_true rfl)
  have hB0:=cutW_below W g
  have hV:=cutW_size hr
  have bt0:=But.refl g W
  refine wp_seq ?_
  refine go_reg [] [] [some (.int .i64 0)] mo d0 z0 hB0 (by kernel_rfl) trivial (
   hk (fun cx=>cx.q (ex_as rfl rfl)) <|
   hn) ?_
  intro a1 w1 f1
  have bt1:=But.step f1 bt0 hB0 trivial
  refine wp_seq ?_
  have b_g_1:=f1.k hr
  have s0_2:=f1.q 0 s0_0
  have s1_3:=f1.q 1 s1_0
  refine go_reg [⟨g,65,(exC s),some 16,(exC (s.upF (addF s.x.w (s.m.r s.x.dst.toNat) v)))⟩] [] [some (pt g 0),some (pt g 0),some (pt g 0),some (pt g 22),some (pt g 23),some (.int .i8 s.x.w),some (pt g 0),some (.int .u64 (s.m.r s.x.dst.toNat)),some (.int .u64 v),some (.tuple #[.agg (fC (addF s.x.w (s.m.r s.x.dst.toNat) v)),.int .i64 (Flg.errW s.x.w)]),some (.tuple #[.agg (fC (addF s.x.w (s.m.r s.x.dst.toNat) v)),.int .i64 (Flg.errW s.x.w)]),some (.agg (fC (addF s.x.w (s.m.r s.x.dst.toNat) v))),some (.int .i64 (Flg.errW s.x.w)),some (pt g 0),some (pt g 0),some (pt g 16),none] mo f1.d f1.z f1.b (by kernel_rfl) ⟨b_g_1,trivial⟩ (
   hk (fun cx=>cx.q (ex_mv rfl (cx.rq 0 s0_2))) <|
   hk (fun cx=>cx.q (ex_mv rfl (cx.rq 0 s0_2))) <|
   hk (fun cx=>cx.q (ex_nc rfl (cx.u 0 rfl))) <|
   hk (fun cx=>cx.q (ex_fa rfl (cx.u 0 rfl) (faExC75_1_0 _ _))) <|
   hk (fun cx=>cx.q (ex_fa rfl (cx.u 0 rfl) (faExC26_1_22 _ _))) <|
   hk (fun cx=>cx.q (ex_ld rfl (cx.u 0 rfl) (cx.rf 0 rfl (by kernel_rfl)) rfl Tryz.isAgg36)) <|
   hk (fun cx=>cx.q (ex_mv rfl (cx.rq 0 s0_2))) <|
   hc (fun _ _ wx cx=>cx.c rfl (args1 (cx.u 0 rfl)) Tryz.func109 (by decide +kernel) (dst_n s g wx (cx.rf 0 rfl (by kernel_rfl)) hd) rfl rfl) <|
   hk (fun cx=>cx.q (ex_mv rfl (cx.rq 1 s1_3))) <|
   hc (fun _ _ wx cx=>cx.c rfl (args3 (cx.u 0 rfl) (cx.u 1 rfl) (cx.u 2 rfl)) Tryz.func108 (by decide +kernel) (Flg.add_n s.x.w (s.m.r s.x.dst.toNat) v wx (hM.r s.x.dst.toNat) hv) rfl rfl) <|
   kmu 0 <|
   hk (fun cx=>cx.q (ex_ext (x:=.tmp 5) rfl (cx.u 0 rfl) rfl)) <|
   hk (fun cx=>cx.q (ex_ext (x:=.tmp 5) rfl (cx.u 0 rfl) rfl)) <|
   hk (fun cx=>cx.q (ex_nc rfl (cx.u 0 rfl))) <|
   hk (fun cx=>cx.q (ex_fa rfl (cx.u 0 rfl) (faExC75_0_0 _ _))) <|
   hk (fun cx=>cx.q (ex_fa rfl (cx.u 0 rfl) (faExC36_1_0 _ _))) <|
   hk (fun cx=>cx.stP (wn rfl) rfl rfl 0 rfl (cx.u 0 rfl) (cx.u 1 rfl) (Flg.fC_one _) (by kernel_rfl) (Nat.le_of_ble_eq_true rfl) rfl hV rfl trivial trivial) <|
   hn) ?_
  intro a2 w2 f2
  have bt2:=But.step f2 bt1 f1.b ⟨.inr rfl,trivial⟩
  refine wp_seq ?_
  have s0_4:=f2.q 0 s0_2
  have s1_5:=f2.q 1 s1_3
  refine go_reg [⟨g,65,(exC (s.upF (addF s.x.w (s.m.r s.x.dst.toNat) v))),some 2,(exC ((s.upF (addF s.x.w (s.m.r s.x.dst.toNat) v)).upR s.x.dst.toNat (doI 0 s.x.w (s.m.r s.x.dst.toNat) v)))⟩] [] [some (pt g 0),some (.int .u64 v),some (.int .i64 0),some (.int .i64 0)] mo f2.d f2.z f2.b (by kernel_rfl) ⟨f2.rows.1,trivial⟩ (
   hk (fun cx=>cx.q (ex_mv rfl (cx.rq 0 s0_4))) <|
   hk (fun cx=>cx.q (ex_mv rfl (cx.rq 1 s1_5))) <|
   hc (fun _ _ wx cx=>callT cx (wn rfl) rfl (args3 (cx.u 0 rfl) rfl (cx.u 1 rfl)) Tryz.func110 (by decide +kernel) (compute_m (s.upF (addF s.x.w (s.m.r s.x.dst.toNat) v)) g 0 v wx (cx.ri 0 rfl) (MOk.upF hM _) hd hv) rfl rfl 0 rfl hV rfl trivial rfl) <|
   kmu 0 <|
   hn) ?_
  intro a3 w3 f3
  have bt3:=But.step f3 bt2 f2.b ⟨.inr rfl,trivial⟩
  refine wp_ret ?_
  try simp only [Exit.inBlock,Exit.then]
  refine bodyPost_ret (res_t (fn:=Tryz.f74) rfl (f3.v 3 rfl rfl rfl)) f3.d ?_
  exact ⟨rfl,bt3,f3.rows.1⟩
theorem subtract_m (s:Ex) (g:Nat) (v:Int) (W:World) (hr:W.heap[g]?=some (.cells (exC s) 65 (0,0))) (hM:MOk s.m) (hd:0 ≤ s.x.dst ∧ s.x.dst < 16) (hv:U64 v):Calls Tryz.prog 77 #[.pointer (some ⟨g,0,none⟩),.int .u64 v] W (RetT (.int .i64 0) (exC ((s.upF (subF s.x.w (s.m.r s.x.dst.toNat) v)).upR s.x.dst.toNat (doI 1 s.x.w (s.m.r s.x.dst.toNat) v))) 65 g W):=by
  refine calls_abs Tryz.func77 rfl (Nat.le_of_ble_eq_true rfl) ?_
  intro a0 d0 z0 h0
  replace z0:a0.tmps.size=11:=z0
  have s0_0:a0.tmps.getD 0 undef=.pointer (some ⟨g,0,none⟩):=h0 0 (Nat.le_of_ble_eq_true rfl)
  have s1_0:a0.tmps.getD 1 undef=.int .u64 v:=h0 1 (Nat.le_of_ble_eq_true rfl)
  have hB0:=cutW_below W g
  have hV:=cutW_size hr
  have bt0:=But.refl g W
  refine wp_seq ?_
  refine go_reg [] [] [some (.int .i64 0)] mo d0 z0 hB0 (by kernel_rfl) trivial (
   hk (fun cx=>cx.q (ex_as rfl rfl)) <|
   hn) ?_
  intro a1 w1 f1
  have bt1:=But.step f1 bt0 hB0 trivial
  refine wp_seq ?_
  have b_g_1:=f1.k hr
  have s0_2:=f1.q 0 s0_0
  have s1_3:=f1.q 1 s1_0
  refine go_reg [⟨g,65,(exC s),some 2,(exC (s.upF (subF s.x.w (s.m.r s.x.dst.toNat) v)))⟩] [] [some (pt g 0),some (.int .u64 v),some (.int .i64 0)] mo f1.d f1.z f1.b (by kernel_rfl) ⟨b_g_1,trivial⟩ (
   hk (fun cx=>cx.q (ex_mv rfl (cx.rq 0 s0_2))) <|
   hk (fun cx=>cx.q (ex_mv rfl (cx.rq 1 s1_3))) <|
   hc (fun _ _ wx cx=>callT cx (wn rfl) rfl (args2 (cx.u 0 rfl) (cx.u 1 rfl)) Tryz.func79 (by decide +kernel) (compare_m s g v wx (cx.ri 0 rfl) hM hd hv) rfl rfl 0 rfl hV rfl trivial rfl) <|
   hn) ?_
  intro a2 w2 f2
  have bt2:=But.step f2 bt1 f1.b ⟨.inr rfl,trivial⟩
  refine wp_seq ?_
  have s0_4:=f2.q 0 s0_2
  have s1_5:=f2.q 1 s1_3
  refine go_reg [⟨g,65,(exC (s.upF (subF s.x.w (s.m.r s.x.dst.toNat) v))),some 2,(exC ((s.upF (subF s.x.w (s.m.r s.x.dst.toNat) v)).upR s.x.dst.toNat (doI 1 s.x.w (s.m.r s.x.dst.toNat) v)))⟩] [] [some (pt g 0),some (.int .u64 v),some (.int .i64 0),some (.int .i64 0)] mo f2.d f2.z f2.b (by kernel_rfl) ⟨f2.rows.1,trivial⟩ (
   hk (fun cx=>cx.q (ex_mv rfl (cx.rq 0 s0_4))) <|
   hk (fun cx=>cx.q (ex_mv rfl (cx.rq 1 s1_5))) <|
   hc (fun _ _ wx cx=>callT cx (wn rfl) rfl (args3 (cx.u 0 rfl) rfl (cx.u 1 rfl)) Tryz.func110 (by decide +kernel) (compute_m (s.upF (subF s.x.w (s.m.r s.x.dst.toNat) v)) g 1 v wx (cx.ri 0 rfl) (MOk.upF hM _) hd hv) rfl rfl 0 rfl hV rfl trivial rfl) <|
   kmu 0 <|
   hn) ?_
  intro a3 w3 f3
  have bt3:=But.step f3 bt2 f2.b ⟨.inr rfl,trivial⟩
  refine wp_ret ?_
  try simp only [Exit.inBlock,Exit.then]
  refine bodyPost_ret (res_t (fn:=Tryz.f77) rfl (f3.v 3 rfl rfl rfl)) f3.d ?_
  exact ⟨rfl,bt3,f3.rows.1⟩
theorem and_m (s:Ex) (g:Nat) (v:Int) (W:World) (hr:W.heap[g]?=some (.cells (exC s) 65 (0,0))) (hM:MOk s.m) (hd:0 ≤ s.x.dst ∧ s.x.dst < 16) (hv:U64 v):Calls Tryz.prog 76 #[.pointer (some ⟨g,0,none⟩),.int .u64 v] W (RetT (.int .i64 0) (exC ((s.upF (ofF s.x.w (doI 5 s.x.w (s.m.r s.x.dst.toNat) v))).upR s.x.dst.toNat (doI 5 s.x.w (s.m.r s.x.dst.toNat) v))) 65 g W):=by
  refine calls_abs Tryz.func76 rfl (Nat.le_of_ble_eq_true rfl) ?_
  intro a0 d0 z0 h0
  replace z0:a0.tmps.size=11:=z0
  have s0_0:a0.tmps.getD 0 undef=.pointer (some ⟨g,0,none⟩):=h0 0 (Nat.le_of_ble_eq_true rfl)
  have s1_0:a0.tmps.getD 1 undef=.int .u64 v:=h0 1 (Nat.le_of_ble_eq_true rfl)
  have hB0:=cutW_below W g
  have hV:=cutW_size hr
  have bt0:=But.refl g W
  refine wp_seq ?_
  refine go_reg [] [] [some (.int .i64 0)] mo d0 z0 hB0 (by kernel_rfl) trivial (
   hk (fun cx=>cx.q (ex_as rfl rfl)) <|
   hn) ?_
  intro a1 w1 f1
  have bt1:=But.step f1 bt0 hB0 trivial
  refine wp_seq ?_
  have b_g_1:=f1.k hr
  have s0_2:=f1.q 0 s0_0
  have s1_3:=f1.q 1 s1_0
  refine go_reg [⟨g,65,(exC s),some 2,(exC (s.upF (ofF s.x.w (doI 5 s.x.w (s.m.r s.x.dst.toNat) v))))⟩] [] [some (pt g 0),some (.int .u64 v),some (.int .i64 0)] mo f1.d f1.z f1.b (by kernel_rfl) ⟨b_g_1,trivial⟩ (
   hk (fun cx=>cx.q (ex_mv rfl (cx.rq 0 s0_2))) <|
   hk (fun cx=>cx.q (ex_mv rfl (cx.rq 1 s1_3))) <|
   hc (fun _ _ wx cx=>callT cx (wn rfl) rfl (args2 (cx.u 0 rfl) (cx.u 1 rfl)) Tryz.func80 (by decide +kernel) (test_m s g v wx (cx.ri 0 rfl) hM hd hv) rfl rfl 0 rfl hV rfl trivial rfl) <|
   hn) ?_
  intro a2 w2 f2
  have bt2:=But.step f2 bt1 f1.b ⟨.inr rfl,trivial⟩
  refine wp_seq ?_
  have s0_4:=f2.q 0 s0_2
  have s1_5:=f2.q 1 s1_3
  refine go_reg [⟨g,65,(exC (s.upF (ofF s.x.w (doI 5 s.x.w (s.m.r s.x.dst.toNat) v)))),some 2,(exC ((s.upF (ofF s.x.w (doI 5 s.x.w (s.m.r s.x.dst.toNat) v))).upR s.x.dst.toNat (doI 5 s.x.w (s.m.r s.x.dst.toNat) v)))⟩] [] [some (pt g 0),some (.int .u64 v),some (.int .i64 0),some (.int .i64 0)] mo f2.d f2.z f2.b (by kernel_rfl) ⟨f2.rows.1,trivial⟩ (
   hk (fun cx=>cx.q (ex_mv rfl (cx.rq 0 s0_4))) <|
   hk (fun cx=>cx.q (ex_mv rfl (cx.rq 1 s1_5))) <|
   hc (fun _ _ wx cx=>callT cx (wn rfl) rfl (args3 (cx.u 0 rfl) rfl (cx.u 1 rfl)) Tryz.func110 (by decide +kernel) (compute_m (s.upF (ofF s.x.w (doI 5 s.x.w (s.m.r s.x.dst.toNat) v))) g 5 v wx (cx.ri 0 rfl) (MOk.upF hM _) hd hv) rfl rfl 0 rfl hV rfl trivial rfl) <|
   kmu 0 <|
   hn) ?_
  intro a3 w3 f3
  have bt3:=But.step f3 bt2 f2.b ⟨.inr rfl,trivial⟩
  refine wp_ret ?_
  try simp only [Exit.inBlock,Exit.then]
  refine bodyPost_ret (res_t (fn:=Tryz.f76) rfl (f3.v 3 rfl rfl rfl)) f3.d ?_
  exact ⟨rfl,bt3,f3.rows.1⟩
theorem or_m (s:Ex) (g:Nat) (v:Int) (W:World) (hr:W.heap[g]?=some (.cells (exC s) 65 (0,0))) (hM:MOk s.m) (hd:0 ≤ s.x.dst ∧ s.x.dst < 16) (hv:U64 v):Calls Tryz.prog 75 #[.pointer (some ⟨g,0,none⟩),.int .u64 v] W (RetT (.int .i64 0) (exC ((s.upF (ofF s.x.w (doI 4 s.x.w (s.m.r s.x.dst.toNat) v))).upR s.x.dst.toNat (doI 4 s.x.w (s.m.r s.x.dst.toNat) v))) 65 g W):=by
  refine calls_abs Tryz.func75 rfl (Nat.le_of_ble_eq_true rfl) ?_
  intro a0 d0 z0 h0
  replace z0:a0.tmps.size=12:=z0
  have s0_0:a0.tmps.getD 0 undef=.pointer (some ⟨g,0,none⟩):=h0 0 (Nat.le_of_ble_eq_true rfl)
  have s1_0:a0.tmps.getD 1 undef=.int .u64 v:=h0 1 (Nat.le_of_ble_eq_true rfl)
  have hB0:=cutW_below W g
  have hV:=cutW_size hr
  have bt0:=But.refl g W
  refine wp_seq ?_
  refine go_reg [] [] [some (.int .i64 0)] mo d0 z0 hB0 (by kernel_rfl) trivial (
   hk (fun cx=>cx.q (ex_as rfl rfl)) <|
   hn) ?_
  intro a1 w1 f1
  have bt1:=But.step f1 bt0 hB0 trivial
  refine wp_seq ?_
  have b_g_1:=f1.k hr
  have s0_2:=f1.q 0 s0_0
  have s1_3:=f1.q 1 s1_0
  refine go_reg [⟨g,65,(exC s),some 2,(exC (s.upR s.x.dst.toNat (doI 4 s.x.w (s.m.r s.x.dst.toNat) v)))⟩] [] [some (pt g 0),some (.int .u64 v),some (.int .i64 0)] mo f1.d f1.z f1.b (by kernel_rfl) ⟨b_g_1,trivial⟩ (
   hk (fun cx=>cx.q (ex_mv rfl (cx.rq 0 s0_2))) <|
   hk (fun cx=>cx.q (ex_mv rfl (cx.rq 1 s1_3))) <|
   hc (fun _ _ wx cx=>callT cx (wn rfl) rfl (args3 (cx.u 0 rfl) rfl (cx.u 1 rfl)) Tryz.func110 (by decide +kernel) (compute_m s g 4 v wx (cx.ri 0 rfl) hM hd hv) rfl rfl 0 rfl hV rfl trivial rfl) <|
   hn) ?_
  intro a2 w2 f2
  have bt2:=But.step f2 bt1 f1.b ⟨.inr rfl,trivial⟩
  refine wp_seq ?_
  have s0_4:=f2.q 0 s0_2
  refine go_reg [⟨g,65,(exC (s.upR s.x.dst.toNat (doI 4 s.x.w (s.m.r s.x.dst.toNat) v))),some 3,(exC ((s.upR s.x.dst.toNat (doI 4 s.x.w (s.m.r s.x.dst.toNat) v)).upF (ofF s.x.w (doI 4 s.x.w (s.m.r s.x.dst.toNat) v))))⟩] [] [some (pt g 0),some (pt g 0),some (.int .u64 (doI 4 s.x.w (s.m.r s.x.dst.toNat) v)),some (.int .i64 0),some (.int .i64 0)] mo f2.d f2.z f2.b (by kernel_rfl) ⟨f2.rows.1,trivial⟩ (
   hk (fun cx=>cx.q (ex_mv rfl (cx.rq 0 s0_4))) <|
   hk (fun cx=>cx.q (ex_mv rfl (cx.rq 0 s0_4))) <|
   hc (fun _ _ wx cx=>cx.c rfl (args1 (cx.u 0 rfl)) Tryz.func109 (by decide +kernel) (dst_n (s.upR s.x.dst.toNat (doI 4 s.x.w (s.m.r s.x.dst.toNat) v)) g wx (cx.rf 0 rfl (by kernel_rfl)) hd) rfl (congrArg (Value.int .u64) (upR_self s s.x.dst.toNat (doI 4 s.x.w (s.m.r s.x.dst.toNat) v)))) <|
   hc (fun _ _ wx cx=>callT cx (wn rfl) rfl (args2 (cx.u 0 rfl) (cx.u 1 rfl)) Tryz.func111 (by decide +kernel) (flagsOf_m (s.upR s.x.dst.toNat (doI 4 s.x.w (s.m.r s.x.dst.toNat) v)) g (doI 4 s.x.w (s.m.r s.x.dst.toNat) v) wx (cx.ri 0 rfl) (U64.do_ 4 s.x.w (hM.r s.x.dst.toNat) hv)) rfl rfl 0 rfl hV rfl trivial rfl) <|
   kmu 0 <|
   hn) ?_
  intro a3 w3 f3
  have bt3:=But.step f3 bt2 f2.b ⟨.inr rfl,trivial⟩
  refine wp_ret ?_
  try simp only [Exit.inBlock,Exit.then]
  refine bodyPost_ret (res_t (fn:=Tryz.f75) rfl (f3.v 4 rfl rfl rfl)) f3.d ?_
  exact ⟨rfl,bt3,f3.rows.1⟩
theorem xor_m (s:Ex) (g:Nat) (v:Int) (W:World) (hr:W.heap[g]?=some (.cells (exC s) 65 (0,0))) (hM:MOk s.m) (hd:0 ≤ s.x.dst ∧ s.x.dst < 16) (hv:U64 v):Calls Tryz.prog 78 #[.pointer (some ⟨g,0,none⟩),.int .u64 v] W (RetT (.int .i64 0) (exC ((s.upF (ofF s.x.w (doI 10 s.x.w (s.m.r s.x.dst.toNat) v))).upR s.x.dst.toNat (doI 10 s.x.w (s.m.r s.x.dst.toNat) v))) 65 g W):=by
  refine calls_abs Tryz.func78 rfl (Nat.le_of_ble_eq_true rfl) ?_
  intro a0 d0 z0 h0
  replace z0:a0.tmps.size=12:=z0
  have s0_0:a0.tmps.getD 0 undef=.pointer (some ⟨g,0,none⟩):=h0 0 (Nat.le_of_ble_eq_true rfl)
  have s1_0:a0.tmps.getD 1 undef=.int .u64 v:=h0 1 (Nat.le_of_ble_eq_true rfl)
  have hB0:=cutW_below W g
  have hV:=cutW_size hr
  have bt0:=But.refl g W
  refine wp_seq ?_
  refine go_reg [] [] [some (.int .i64 0)] mo d0 z0 hB0 (by kernel_rfl) trivial (
   hk (fun cx=>cx.q (ex_as rfl rfl)) <|
   hn) ?_
  intro a1 w1 f1
  have bt1:=But.step f1 bt0 hB0 trivial
  refine wp_seq ?_
  have b_g_1:=f1.k hr
  have s0_2:=f1.q 0 s0_0
  have s1_3:=f1.q 1 s1_0
  refine go_reg [⟨g,65,(exC s),some 2,(exC (s.upR s.x.dst.toNat (doI 10 s.x.w (s.m.r s.x.dst.toNat) v)))⟩] [] [some (pt g 0),some (.int .u64 v),some (.int .i64 0)] mo f1.d f1.z f1.b (by kernel_rfl) ⟨b_g_1,trivial⟩ (
   hk (fun cx=>cx.q (ex_mv rfl (cx.rq 0 s0_2))) <|
   hk (fun cx=>cx.q (ex_mv rfl (cx.rq 1 s1_3))) <|
   hc (fun _ _ wx cx=>callT cx (wn rfl) rfl (args3 (cx.u 0 rfl) rfl (cx.u 1 rfl)) Tryz.func110 (by decide +kernel) (compute_m s g 10 v wx (cx.ri 0 rfl) hM hd hv) rfl rfl 0 rfl hV rfl trivial rfl) <|
   hn) ?_
  intro a2 w2 f2
  have bt2:=But.step f2 bt1 f1.b ⟨.inr rfl,trivial⟩
  refine wp_seq ?_
  have s0_4:=f2.q 0 s0_2
  refine go_reg [⟨g,65,(exC (s.upR s.x.dst.toNat (doI 10 s.x.w (s.m.r s.x.dst.toNat) v))),some 3,(exC ((s.upR s.x.dst.toNat (doI 10 s.x.w (s.m.r s.x.dst.toNat) v)).upF (ofF s.x.w (doI 10 s.x.w (s.m.r s.x.dst.toNat) v))))⟩] [] [some (pt g 0),some (pt g 0),some (.int .u64 (doI 10 s.x.w (s.m.r s.x.dst.toNat) v)),some (.int .i64 0),some (.int .i64 0)] mo f2.d f2.z f2.b (by kernel_rfl) ⟨f2.rows.1,trivial⟩ (
   hk (fun cx=>cx.q (ex_mv rfl (cx.rq 0 s0_4))) <|
   hk (fun cx=>cx.q (ex_mv rfl (cx.rq 0 s0_4))) <|
   hc (fun _ _ wx cx=>cx.c rfl (args1 (cx.u 0 rfl)) Tryz.func109 (by decide +kernel) (dst_n (s.upR s.x.dst.toNat (doI 10 s.x.w (s.m.r s.x.dst.toNat) v)) g wx (cx.rf 0 rfl (by kernel_rfl)) hd) rfl (congrArg (Value.int .u64) (upR_self s s.x.dst.toNat (doI 10 s.x.w (s.m.r s.x.dst.toNat) v)))) <|
   hc (fun _ _ wx cx=>callT cx (wn rfl) rfl (args2 (cx.u 0 rfl) (cx.u 1 rfl)) Tryz.func111 (by decide +kernel) (flagsOf_m (s.upR s.x.dst.toNat (doI 10 s.x.w (s.m.r s.x.dst.toNat) v)) g (doI 10 s.x.w (s.m.r s.x.dst.toNat) v) wx (cx.ri 0 rfl) (U64.do_ 10 s.x.w (hM.r s.x.dst.toNat) hv)) rfl rfl 0 rfl hV rfl trivial rfl) <|
   kmu 0 <|
   hn) ?_
  intro a3 w3 f3
  have bt3:=But.step f3 bt2 f2.b ⟨.inr rfl,trivial⟩
  refine wp_ret ?_
  try simp only [Exit.inBlock,Exit.then]
  refine bodyPost_ret (res_t (fn:=Tryz.f78) rfl (f3.v 4 rfl rfl rfl)) f3.d ?_
  exact ⟨rfl,bt3,f3.rows.1⟩
theorem negate_m (s:Ex) (g:Nat) (v:Int) (W:World) (hr:W.heap[g]?=some (.cells (exC s) 65 (0,0))) (hM:MOk s.m) (hd:0 ≤ s.x.dst ∧ s.x.dst < 16) (hv:U64 v):Calls Tryz.prog 85 #[.pointer (some ⟨g,0,none⟩),.int .u64 v] W (RetT (.int .i64 0) (exC ((s.upF (subF s.x.w 0 (s.m.r s.x.dst.toNat))).upR s.x.dst.toNat (doI 8 s.x.w (s.m.r s.x.dst.toNat) 0))) 65 g W):=by
  refine calls_abs Tryz.func85 rfl (Nat.le_of_ble_eq_true rfl) ?_
  intro a0 d0 z0 h0
  replace z0:a0.tmps.size=22:=z0
  have s0_0:a0.tmps.getD 0 undef=.pointer (some ⟨g,0,none⟩):=h0 0 (Nat.le_of_ble_eq_true rfl)
  have s1_0:a0.tmps.getD 1 undef=.int .u64 v:=h0 1 (Nat.le_of_ble_eq_true rfl)
  have hB0:=cutW_below W g
  have hV:=cutW_size hr
  have bt0:=But.refl g W
  refine wp_seq ?_
  refine go_reg [] [] [some (.int .i64 0)] mo d0 z0 hB0 (by kernel_rfl) trivial (
   hk (fun cx=>cx.q (ex_as rfl rfl)) <|
   hn) ?_
  intro a1 w1 f1
  have bt1:=But.step f1 bt0 hB0 trivial
  refine wp_seq ?_
  have b_g_1:=f1.k hr
  have s0_2:=f1.q 0 s0_0
  refine go_reg [⟨g,65,(exC s),some 15,(exC (s.upF (subF s.x.w 0 (s.m.r s.x.dst.toNat))))⟩] [] [some (pt g 0),some (pt g 0),some (pt g 0),some (pt g 22),some (pt g 23),some (.int .i8 s.x.w),some (pt g 0),some (.int .u64 (s.m.r s.x.dst.toNat)),some (.tuple #[.agg (fC (subF s.x.w 0 (s.m.r s.x.dst.toNat))),.int .i64 (Flg.errW s.x.w)]),some (.tuple #[.agg (fC (subF s.x.w 0 (s.m.r s.x.dst.toNat))),.int .i64 (Flg.errW s.x.w)]),some (.agg (fC (subF s.x.w 0 (s.m.r s.x.dst.toNat)))),some (.int .i64 (Flg.errW s.x.w)),some (pt g 0),some (pt g 0),some (pt g 16),none] mo f1.d f1.z f1.b (by kernel_rfl) ⟨b_g_1,trivial⟩ (
   hk (fun cx=>cx.q (ex_mv rfl (cx.rq 0 s0_2))) <|
   hk (fun cx=>cx.q (ex_mv rfl (cx.rq 0 s0_2))) <|
   hk (fun cx=>cx.q (ex_nc rfl (cx.u 0 rfl))) <|
   hk (fun cx=>cx.q (ex_fa rfl (cx.u 0 rfl) (faExC75_1_0 _ _))) <|
   hk (fun cx=>cx.q (ex_fa rfl (cx.u 0 rfl) (faExC26_1_22 _ _))) <|
   hk (fun cx=>cx.q (ex_ld rfl (cx.u 0 rfl) (cx.rf 0 rfl (by kernel_rfl)) rfl Tryz.isAgg36)) <|
   hk (fun cx=>cx.q (ex_mv rfl (cx.rq 0 s0_2))) <|
   hc (fun _ _ wx cx=>cx.c rfl (args1 (cx.u 0 rfl)) Tryz.func109 (by decide +kernel) (dst_n s g wx (cx.rf 0 rfl (by kernel_rfl)) hd) rfl rfl) <|
   hc (fun _ _ wx cx=>cx.c rfl (args3 (cx.u 0 rfl) rfl (cx.u 1 rfl)) Tryz.func112 (by decide +kernel) (Flg.sub_n s.x.w 0 (s.m.r s.x.dst.toNat) wx (⟨by omega,by omega⟩:U64 0) (hM.r s.x.dst.toNat)) rfl rfl) <|
   kmu 0 <|
   hk (fun cx=>cx.q (ex_ext (x:=.tmp 5) rfl (cx.u 0 rfl) rfl)) <|
   hk (fun cx=>cx.q (ex_ext (x:=.tmp 5) rfl (cx.u 0 rfl) rfl)) <|
   hk (fun cx=>cx.q (ex_nc rfl (cx.u 0 rfl))) <|
   hk (fun cx=>cx.q (ex_fa rfl (cx.u 0 rfl) (faExC75_0_0 _ _))) <|
   hk (fun cx=>cx.q (ex_fa rfl (cx.u 0 rfl) (faExC36_1_0 _ _))) <|
   hk (fun cx=>cx.stP (wn rfl) rfl rfl 0 rfl (cx.u 0 rfl) (cx.u 1 rfl) (Flg.fC_one _) (by kernel_rfl) (Nat.le_of_ble_eq_true rfl) rfl hV rfl trivial trivial) <|
   hn) ?_
  intro a2 w2 f2
  have bt2:=But.step f2 bt1 f1.b ⟨.inr rfl,trivial⟩
  refine wp_seq ?_
  have s0_3:=f2.q 0 s0_2
  refine go_reg [⟨g,65,(exC (s.upF (subF s.x.w 0 (s.m.r s.x.dst.toNat)))),some 1,(exC ((s.upF (subF s.x.w 0 (s.m.r s.x.dst.toNat))).upR s.x.dst.toNat (doI 8 s.x.w (s.m.r s.x.dst.toNat) 0)))⟩] [] [some (pt g 0),some (.int .i64 0),some (.int .i64 0)] mo f2.d f2.z f2.b (by kernel_rfl) ⟨f2.rows.1,trivial⟩ (
   hk (fun cx=>cx.q (ex_mv rfl (cx.rq 0 s0_3))) <|
   hc (fun _ _ wx cx=>callT cx (wn rfl) rfl (args3 (cx.u 0 rfl) rfl rfl) Tryz.func110 (by decide +kernel) (compute_m (s.upF (subF s.x.w 0 (s.m.r s.x.dst.toNat))) g 8 0 wx (cx.ri 0 rfl) (MOk.upF hM _) hd (⟨by omega,by omega⟩:U64 0)) rfl rfl 0 rfl hV rfl trivial rfl) <|
   kmu 0 <|
   hn) ?_
  intro a3 w3 f3
  have bt3:=But.step f3 bt2 f2.b ⟨.inr rfl,trivial⟩
  refine wp_ret ?_
  try simp only [Exit.inBlock,Exit.then]
  refine bodyPost_ret (res_t (fn:=Tryz.f85) rfl (f3.v 2 rfl rfl rfl)) f3.d ?_
  exact ⟨rfl,bt3,f3.rows.1⟩
theorem multiply_m (s:Ex) (g:Nat) (v:Int) (W:World) (hr:W.heap[g]?=some (.cells (exC s) 65 (0,0))) (hM:MOk s.m) (hd:0 ≤ s.x.dst ∧ s.x.dst < 16) (hv:U64 v):Calls Tryz.prog 81 #[.pointer (some ⟨g,0,none⟩),.int .u64 v] W (RetT (.int .i64 0) (exC ((s.upF zF).upR s.x.dst.toNat (doI 2 s.x.w (s.m.r s.x.dst.toNat) v))) 65 g W):=by
  refine calls_abs Tryz.func81 rfl (Nat.le_of_ble_eq_true rfl) ?_
  intro a0 d0 z0 h0
  replace z0:a0.tmps.size=13:=z0
  have s0_0:a0.tmps.getD 0 undef=.pointer (some ⟨g,0,none⟩):=h0 0 (Nat.le_of_ble_eq_true rfl)
  have s1_0:a0.tmps.getD 1 undef=.int .u64 v:=h0 1 (Nat.le_of_ble_eq_true rfl)
  have hB0:=cutW_below W g
  have hV:=cutW_size hr
  have bt0:=But.refl g W
  refine wp_seq ?_
  refine go_reg [] [] [some (.int .i64 0)] mo d0 z0 hB0 (by kernel_rfl) trivial (
   hk (fun cx=>cx.q (ex_as rfl rfl)) <|
   hn) ?_
  intro a1 w1 f1
  have bt1:=But.step f1 bt0 hB0 trivial
  refine wp_seq ?_
  have b_g_1:=f1.k hr
  have s0_2:=f1.q 0 s0_0
  refine go_reg [⟨g,65,(exC s),some 5,(exC (s.upF zF))⟩] [] [some (pt g 0),some (.agg (fC zF)),some (pt g 0),some (pt g 0),some (pt g 16),none] mo f1.d f1.z f1.b (by kernel_rfl) ⟨b_g_1,trivial⟩ (
   hk (fun cx=>cx.q (ex_mv rfl (cx.rq 0 s0_2))) <|
   hc (fun _ _ wx cx=>cx.c rfl (args0 ) Tryz.func39 (by decide +kernel) (Flg.none_n wx) rfl rfl) <|
   hk (fun cx=>cx.q (ex_nc rfl (cx.u 0 rfl))) <|
   hk (fun cx=>cx.q (ex_fa rfl (cx.u 0 rfl) (faExC75_0_0 _ _))) <|
   hk (fun cx=>cx.q (ex_fa rfl (cx.u 0 rfl) (faExC36_1_0 _ _))) <|
   hk (fun cx=>cx.stP (wn rfl) rfl rfl 0 rfl (cx.u 0 rfl) (cx.u 1 rfl) (Flg.fC_one _) (by kernel_rfl) (Nat.le_of_ble_eq_true rfl) rfl hV rfl trivial trivial) <|
   hn) ?_
  intro a2 w2 f2
  have bt2:=But.step f2 bt1 f1.b ⟨.inr rfl,trivial⟩
  refine wp_seq ?_
  have s0_3:=f2.q 0 s0_2
  have s1_4:=f2.q 1 (f1.q 1 s1_0)
  refine go_reg [⟨g,65,(exC (s.upF zF)),some 2,(exC ((s.upF zF).upR s.x.dst.toNat (doI 2 s.x.w (s.m.r s.x.dst.toNat) v)))⟩] [] [some (pt g 0),some (.int .u64 v),some (.int .i64 0),some (.int .i64 0)] mo f2.d f2.z f2.b (by kernel_rfl) ⟨f2.rows.1,trivial⟩ (
   hk (fun cx=>cx.q (ex_mv rfl (cx.rq 0 s0_3))) <|
   hk (fun cx=>cx.q (ex_mv rfl (cx.rq 1 s1_4))) <|
   hc (fun _ _ wx cx=>callT cx (wn rfl) rfl (args3 (cx.u 0 rfl) rfl (cx.u 1 rfl)) Tryz.func110 (by decide +kernel) (compute_m (s.upF zF) g 2 v wx (cx.ri 0 rfl) (MOk.upF hM _) hd hv) rfl rfl 0 rfl hV rfl trivial rfl) <|
   kmu 0 <|
   hn) ?_
  intro a3 w3 f3
  have bt3:=But.step f3 bt2 f2.b ⟨.inr rfl,trivial⟩
  refine wp_ret ?_
  try simp only [Exit.inBlock,Exit.then]
  refine bodyPost_ret (res_t (fn:=Tryz.f81) rfl (f3.v 3 rfl rfl rfl)) f3.d ?_
  exact ⟨rfl,bt3,f3.rows.1⟩
theorem shiftLeft_m (s:Ex) (g:Nat) (v:Int) (W:World) (hr:W.heap[g]?=some (.cells (exC s) 65 (0,0))) (hM:MOk s.m) (hd:0 ≤ s.x.dst ∧ s.x.dst < 16) (hv:U64 v):Calls Tryz.prog 82 #[.pointer (some ⟨g,0,none⟩),.int .u64 v] W (RetT (.int .i64 0) (exC ((s.upF zF).upR s.x.dst.toNat (doI 6 s.x.w (s.m.r s.x.dst.toNat) v))) 65 g W):=by
  refine calls_abs Tryz.func82 rfl (Nat.le_of_ble_eq_true rfl) ?_
  intro a0 d0 z0 h0
  replace z0:a0.tmps.size=13:=z0
  have s0_0:a0.tmps.getD 0 undef=.pointer (some ⟨g,0,none⟩):=h0 0 (Nat.le_of_ble_eq_true rfl)
  have s1_0:a0.tmps.getD 1 undef=.int .u64 v:=h0 1 (Nat.le_of_ble_eq_true rfl)
  have hB0:=cutW_below W g
  have hV:=cutW_size hr
  have bt0:=But.refl g W
  refine wp_seq ?_
  refine go_reg [] [] [some (.int .i64 0)] mo d0 z0 hB0 (by kernel_rfl) trivial (
   hk (fun cx=>cx.q (ex_as rfl rfl)) <|
   hn) ?_
  intro a1 w1 f1
  have bt1:=But.step f1 bt0 hB0 trivial
  refine wp_seq ?_
  have b_g_1:=f1.k hr
  have s0_2:=f1.q 0 s0_0
  refine go_reg [⟨g,65,(exC s),some 5,(exC (s.upF zF))⟩] [] [some (pt g 0),some (.agg (fC zF)),some (pt g 0),some (pt g 0),some (pt g 16),none] mo f1.d f1.z f1.b (by kernel_rfl) ⟨b_g_1,trivial⟩ (
   hk (fun cx=>cx.q (ex_mv rfl (cx.rq 0 s0_2))) <|
   hc (fun _ _ wx cx=>cx.c rfl (args0 ) Tryz.func39 (by decide +kernel) (Flg.none_n wx) rfl rfl) <|
   hk (fun cx=>cx.q (ex_nc rfl (cx.u 0 rfl))) <|
   hk (fun cx=>cx.q (ex_fa rfl (cx.u 0 rfl) (faExC75_0_0 _ _))) <|
   hk (fun cx=>cx.q (ex_fa rfl (cx.u 0 rfl) (faExC36_1_0 _ _))) <|
   hk (fun cx=>cx.stP (wn rfl) rfl rfl 0 rfl (cx.u 0 rfl) (cx.u 1 rfl) (Flg.fC_one _) (by kernel_rfl) (Nat.le_of_ble_eq_true rfl) rfl hV rfl trivial trivial) <|
   hn) ?_
  intro a2 w2 f2
  have bt2:=But.step f2 bt1 f1.b ⟨.inr rfl,trivial⟩
  refine wp_seq ?_
  have s0_3:=f2.q 0 s0_2
  have s1_4:=f2.q 1 (f1.q 1 s1_0)
  refine go_reg [⟨g,65,(exC (s.upF zF)),some 2,(exC ((s.upF zF).upR s.x.dst.toNat (doI 6 s.x.w (s.m.r s.x.dst.toNat) v)))⟩] [] [some (pt g 0),some (.int .u64 v),some (.int .i64 0),some (.int .i64 0)] mo f2.d f2.z f2.b (by kernel_rfl) ⟨f2.rows.1,trivial⟩ (
   hk (fun cx=>cx.q (ex_mv rfl (cx.rq 0 s0_3))) <|
   hk (fun cx=>cx.q (ex_mv rfl (cx.rq 1 s1_4))) <|
   hc (fun _ _ wx cx=>callT cx (wn rfl) rfl (args3 (cx.u 0 rfl) rfl (cx.u 1 rfl)) Tryz.func110 (by decide +kernel) (compute_m (s.upF zF) g 6 v wx (cx.ri 0 rfl) (MOk.upF hM _) hd hv) rfl rfl 0 rfl hV rfl trivial rfl) <|
   kmu 0 <|
   hn) ?_
  intro a3 w3 f3
  have bt3:=But.step f3 bt2 f2.b ⟨.inr rfl,trivial⟩
  refine wp_ret ?_
  try simp only [Exit.inBlock,Exit.then]
  refine bodyPost_ret (res_t (fn:=Tryz.f82) rfl (f3.v 3 rfl rfl rfl)) f3.d ?_
  exact ⟨rfl,bt3,f3.rows.1⟩
theorem shiftRight_m (s:Ex) (g:Nat) (v:Int) (W:World) (hr:W.heap[g]?=some (.cells (exC s) 65 (0,0))) (hM:MOk s.m) (hd:0 ≤ s.x.dst ∧ s.x.dst < 16) (hv:U64 v):Calls Tryz.prog 83 #[.pointer (some ⟨g,0,none⟩),.int .u64 v] W (RetT (.int .i64 0) (exC ((s.upF zF).upR s.x.dst.toNat (doI 7 s.x.w (s.m.r s.x.dst.toNat) v))) 65 g W):=by
  refine calls_abs Tryz.func83 rfl (Nat.le_of_ble_eq_true rfl) ?_
  intro a0 d0 z0 h0
  replace z0:a0.tmps.size=13:=z0
  have s0_0:a0.tmps.getD 0 undef=.pointer (some ⟨g,0,none⟩):=h0 0 (Nat.le_of_ble_eq_true rfl)
  have s1_0:a0.tmps.getD 1 undef=.int .u64 v:=h0 1 (Nat.le_of_ble_eq_true rfl)
  have hB0:=cutW_below W g
  have hV:=cutW_size hr
  have bt0:=But.refl g W
  refine wp_seq ?_
  refine go_reg [] [] [some (.int .i64 0)] mo d0 z0 hB0 (by kernel_rfl) trivial (
   hk (fun cx=>cx.q (ex_as rfl rfl)) <|
   hn) ?_
  intro a1 w1 f1
  have bt1:=But.step f1 bt0 hB0 trivial
  refine wp_seq ?_
  have b_g_1:=f1.k hr
  have s0_2:=f1.q 0 s0_0
  refine go_reg [⟨g,65,(exC s),some 5,(exC (s.upF zF))⟩] [] [some (pt g 0),some (.agg (fC zF)),some (pt g 0),some (pt g 0),some (pt g 16),none] mo f1.d f1.z f1.b (by kernel_rfl) ⟨b_g_1,trivial⟩ (
   hk (fun cx=>cx.q (ex_mv rfl (cx.rq 0 s0_2))) <|
   hc (fun _ _ wx cx=>cx.c rfl (args0 ) Tryz.func39 (by decide +kernel) (Flg.none_n wx) rfl rfl) <|
   hk (fun cx=>cx.q (ex_nc rfl (cx.u 0 rfl))) <|
   hk (fun cx=>cx.q (ex_fa rfl (cx.u 0 rfl) (faExC75_0_0 _ _))) <|
   hk (fun cx=>cx.q (ex_fa rfl (cx.u 0 rfl) (faExC36_1_0 _ _))) <|
   hk (fun cx=>cx.stP (wn rfl) rfl rfl 0 rfl (cx.u 0 rfl) (cx.u 1 rfl) (Flg.fC_one _) (by kernel_rfl) (Nat.le_of_ble_eq_true rfl) rfl hV rfl trivial trivial) <|
   hn) ?_
  intro a2 w2 f2
  have bt2:=But.step f2 bt1 f1.b ⟨.inr rfl,trivial⟩
  refine wp_seq ?_
  have s0_3:=f2.q 0 s0_2
  have s1_4:=f2.q 1 (f1.q 1 s1_0)
  refine go_reg [⟨g,65,(exC (s.upF zF)),some 2,(exC ((s.upF zF).upR s.x.dst.toNat (doI 7 s.x.w (s.m.r s.x.dst.toNat) v)))⟩] [] [some (pt g 0),some (.int .u64 v),some (.int .i64 0),some (.int .i64 0)] mo f2.d f2.z f2.b (by kernel_rfl) ⟨f2.rows.1,trivial⟩ (
   hk (fun cx=>cx.q (ex_mv rfl (cx.rq 0 s0_3))) <|
   hk (fun cx=>cx.q (ex_mv rfl (cx.rq 1 s1_4))) <|
   hc (fun _ _ wx cx=>callT cx (wn rfl) rfl (args3 (cx.u 0 rfl) rfl (cx.u 1 rfl)) Tryz.func110 (by decide +kernel) (compute_m (s.upF zF) g 7 v wx (cx.ri 0 rfl) (MOk.upF hM _) hd hv) rfl rfl 0 rfl hV rfl trivial rfl) <|
   kmu 0 <|
   hn) ?_
  intro a3 w3 f3
  have bt3:=But.step f3 bt2 f2.b ⟨.inr rfl,trivial⟩
  refine wp_ret ?_
  try simp only [Exit.inBlock,Exit.then]
  refine bodyPost_ret (res_t (fn:=Tryz.f83) rfl (f3.v 3 rfl rfl rfl)) f3.d ?_
  exact ⟨rfl,bt3,f3.rows.1⟩
theorem shiftSigned_m (s:Ex) (g:Nat) (v:Int) (W:World) (hr:W.heap[g]?=some (.cells (exC s) 65 (0,0))) (hM:MOk s.m) (hd:0 ≤ s.x.dst ∧ s.x.dst < 16) (hv:U64 v):Calls Tryz.prog 84 #[.pointer (some ⟨g,0,none⟩),.int .u64 v] W (RetT (.int .i64 0) (exC ((s.upF zF).upR s.x.dst.toNat (doI 12 s.x.w (s.m.r s.x.dst.toNat) v))) 65 g W):=by
  refine calls_abs Tryz.func84 rfl (Nat.le_of_ble_eq_true rfl) ?_
  intro a0 d0 z0 h0
  replace z0:a0.tmps.size=13:=z0
  have s0_0:a0.tmps.getD 0 undef=.pointer (some ⟨g,0,none⟩):=h0 0 (Nat.le_of_ble_eq_true rfl)
  have s1_0:a0.tmps.getD 1 undef=.int .u64 v:=h0 1 (Nat.le_of_ble_eq_true rfl)
  have hB0:=cutW_below W g
  have hV:=cutW_size hr
  have bt0:=But.refl g W
  refine wp_seq ?_
  refine go_reg [] [] [some (.int .i64 0)] mo d0 z0 hB0 (by kernel_rfl) trivial (
   hk (fun cx=>cx.q (ex_as rfl rfl)) <|
   hn) ?_
  intro a1 w1 f1
  have bt1:=But.step f1 bt0 hB0 trivial
  refine wp_seq ?_
  have b_g_1:=f1.k hr
  have s0_2:=f1.q 0 s0_0
  refine go_reg [⟨g,65,(exC s),some 5,(exC (s.upF zF))⟩] [] [some (pt g 0),some (.agg (fC zF)),some (pt g 0),some (pt g 0),some (pt g 16),none] mo f1.d f1.z f1.b (by kernel_rfl) ⟨b_g_1,trivial⟩ (
   hk (fun cx=>cx.q (ex_mv rfl (cx.rq 0 s0_2))) <|
   hc (fun _ _ wx cx=>cx.c rfl (args0 ) Tryz.func39 (by decide +kernel) (Flg.none_n wx) rfl rfl) <|
   hk (fun cx=>cx.q (ex_nc rfl (cx.u 0 rfl))) <|
   hk (fun cx=>cx.q (ex_fa rfl (cx.u 0 rfl) (faExC75_0_0 _ _))) <|
   hk (fun cx=>cx.q (ex_fa rfl (cx.u 0 rfl) (faExC36_1_0 _ _))) <|
   hk (fun cx=>cx.stP (wn rfl) rfl rfl 0 rfl (cx.u 0 rfl) (cx.u 1 rfl) (Flg.fC_one _) (by kernel_rfl) (Nat.le_of_ble_eq_true rfl) rfl hV rfl trivial trivial) <|
   hn) ?_
  intro a2 w2 f2
  have bt2:=But.step f2 bt1 f1.b ⟨.inr rfl,trivial⟩
  refine wp_seq ?_
  have s0_3:=f2.q 0 s0_2
  have s1_4:=f2.q 1 (f1.q 1 s1_0)
  refine go_reg [⟨g,65,(exC (s.upF zF)),some 2,(exC ((s.upF zF).upR s.x.dst.toNat (doI 12 s.x.w (s.m.r s.x.dst.toNat) v)))⟩] [] [some (pt g 0),some (.int .u64 v),some (.int .i64 0),some (.int .i64 0)] mo f2.d f2.z f2.b (by kernel_rfl) ⟨f2.rows.1,trivial⟩ (
   hk (fun cx=>cx.q (ex_mv rfl (cx.rq 0 s0_3))) <|
   hk (fun cx=>cx.q (ex_mv rfl (cx.rq 1 s1_4))) <|
   hc (fun _ _ wx cx=>callT cx (wn rfl) rfl (args3 (cx.u 0 rfl) rfl (cx.u 1 rfl)) Tryz.func110 (by decide +kernel) (compute_m (s.upF zF) g 12 v wx (cx.ri 0 rfl) (MOk.upF hM _) hd hv) rfl rfl 0 rfl hV rfl trivial rfl) <|
   kmu 0 <|
   hn) ?_
  intro a3 w3 f3
  have bt3:=But.step f3 bt2 f2.b ⟨.inr rfl,trivial⟩
  refine wp_ret ?_
  try simp only [Exit.inBlock,Exit.then]
  refine bodyPost_ret (res_t (fn:=Tryz.f84) rfl (f3.v 3 rfl rfl rfl)) f3.d ?_
  exact ⟨rfl,bt3,f3.rows.1⟩
end Go.Proofs.YtbpehbeakhocnaaGreatDoor.Exe
