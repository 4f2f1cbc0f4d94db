import Derived.Test.YtjhedldplmhmjaaGreatDoorETe25
set_option maxHeartbeats 2000000
set_option linter.unusedVariables false
set_option linter.unusedSimpArgs false
set_option linter.unnecessarySimpa false
namespace Go.Proofs.YtjhedldplmhmjaaGreatDoor.Exe
open Go Go.RowKit
open Mrm (Xi xC zX mayX bytesX)
open Flg (Fl fC zF addF subF ofF holF holE mayC)
set_option maxRecDepth 100000
theorem faExC75_1_0 (g:Nat)(w:World):(Instr.fieldAt 48 (.pointer (some ⟨g,0,none⟩)) 1).run Tryz.prog w=.ok (.pointer (some ⟨g,22,none⟩)) w:=by simp [go_sem]
theorem faExC26_1_22 (g:Nat)(w:World):(Instr.fieldAt 30 (.pointer (some ⟨g,22,none⟩)) 1).run Tryz.prog w=.ok (.pointer (some ⟨g,23,none⟩)) w:=by simp [go_sem]
theorem faExC75_0_0 (g:Nat)(w:World):(Instr.fieldAt 48 (.pointer (some ⟨g,0,none⟩)) 0).run Tryz.prog w=.ok (.pointer (some ⟨g,0,none⟩)) w:=by simp [go_sem]
theorem faExC36_1_0 (g:Nat)(w:World):(Instr.fieldAt 27 (.pointer (some ⟨g,0,none⟩)) 1).run Tryz.prog w=.ok (.pointer (some ⟨g,16,none⟩)) w:=by simp [go_sem]
theorem test_m (s:Ex)(g:Nat)(v:Int)(W:World)(hr:W.heap[g]?=some (.cells (exC s) 48 (0,0)))(hM:MOk s.m)(hd:0≤s.x.dst∧s.x.dst<16)(hv:U64 v):Calls Tryz.prog 45 #[.pointer (some ⟨g,0,none⟩),.int .u64 v] W (RetT (.int .i64 0) (exC (s.upF (ofF s.x.w (doI 5 s.x.w (s.m.r s.x.dst.toNat) v)))) 48 g W):=by
 refine calls_abs Tryz.func45 rfl (Nat.le_of_ble_eq_true rfl) ?_
 intro a0 d0 z0 h0
 replace z0:a0.tmps.size=11:=z0
 have s0_0:a0.tmps.getD 0 undef=.pointer (some ⟨g,0,none⟩):=h0 0 (Nat.le_of_ble_eq_true rfl)
 have s1_0:a0.tmps.getD 1 undef=.int .u64 v:=h0 1 (Nat.le_of_ble_eq_true rfl)
 have hB0:=cutW_below W g
 have hV:=cutW_size hr
 have bt0:=But.refl g W
 refine wp_seq ?_
 refine go_reg [] [] [some (.int .i64 0)] mo d0 z0 hB0 (by kernel_rfl) trivial (
  kq (fun cx=>ex_as rfl rfl) <|
  hn) ?_
 intro a1 w1 f1
 have bt1:=But.step f1 bt0 hB0 trivial
 refine wp_seq ?_
 have b_g_1:=f1.k hr
 have s0_2:=f1.q 0 s0_0
 have s1_3:=f1.q 1 s1_0
 refine go_reg [⟨g,48,(exC s),some 5,(exC (s.upF (ofF s.x.w (((s.m.r s.x.dst.toNat).toNat &&& v.toNat:Nat):Int))))⟩] [] [some (pt g 0),some (pt g 0),some (.int .u64 (s.m.r s.x.dst.toNat)),some (.int .u64 v),some (.int .u64 (((s.m.r s.x.dst.toNat).toNat &&& v.toNat:Nat):Int)),some (.int .i64 0),some (.int .i64 0)] mo f1.d f1.z f1.b (by kernel_rfl) ⟨b_g_1,trivial⟩ (
  kq (fun cx=>ex_mv rfl (cx.rq 0 s0_2)) <|
  kq (fun cx=>ex_mv rfl (cx.rq 0 s0_2)) <|
  hc (fun _ _ wx cx=>cx.c rfl (args1 cx.u0) Tryz.func82 (by decide +kernel) (dst_n s g wx (cx.rf 0 rfl (by kernel_rfl)) hd) rfl rfl) <|
  kq (fun cx=>ex_mv rfl (cx.rq 1 s1_3)) <|
  hk (fun cx=>cx.v (ex_and (x:=.tmp 7) (y:=.tmp 8) rfl cx.u0 cx.u1) rfl (congrArg (Value.int .u64) (u64_and (s.m.r s.x.dst.toNat) v (hM.r s.x.dst.toNat).1 (hM.r s.x.dst.toNat).2 hv.1 hv.2))) <|
  hc (fun _ _ wx cx=>callT cx (wn rfl) rfl (args2 (cx.u 0 rfl) (cx.u 1 rfl)) Tryz.func84 (by decide +kernel) (flagsOf_m s g (((s.m.r s.x.dst.toNat).toNat &&& v.toNat:Nat):Int) wx (cx.ri 0 rfl) (U64.and (hM.r s.x.dst.toNat) hv)) rfl rfl 0 rfl hV rfl trivial rfl) <|
  kmu 0 <|
  hn) ?_
 intro a2 w2 f2
 have bt2:=But.step f2 bt1 f1.b ⟨.inr rfl,trivial⟩
 refine wp_ret ?_
 try simp only [Exit.inBlock,Exit.then]
 refine bodyPost_ret (res_t (fn:=Tryz.f45) rfl (f2.vv 6)) f2.d ?_
 exact ⟨rfl,bt2,(row_eq f2.rows.1 (congrArg (fun f=>exC (s.upF f)) (ofF_and s.x.w (hM.r s.x.dst.toNat) hv)))⟩
theorem add_m (s:Ex)(g:Nat)(v:Int)(W:World)(hr:W.heap[g]?=some (.cells (exC s) 48 (0,0)))(hM:MOk s.m)(hd:0≤s.x.dst∧s.x.dst<16)(hv:U64 v):Calls Tryz.prog 39 #[.pointer (some ⟨g,0,none⟩),.int .u64 v] W (RetT (.int .i64 0) (exC ((s.upF (addF s.x.w (s.m.r s.x.dst.toNat) v)).upR s.x.dst.toNat (doI 0 s.x.w (s.m.r s.x.dst.toNat) v))) 48 g W):=by
 refine calls_abs Tryz.func39 rfl (Nat.le_of_ble_eq_true rfl) ?_
 intro a0 d0 z0 h0
 replace z0:a0.tmps.size=24:=z0
 have s0_0:a0.tmps.getD 0 undef=.pointer (some ⟨g,0,none⟩):=h0 0 (Nat.le_of_ble_eq_true rfl)
 have s1_0:a0.tmps.getD 1 undef=.int .u64 v:=h0 1 (Nat.le_of_ble_eq_true rfl)
 have hB0:=cutW_below W g
 have hV:=cutW_size hr
 have bt0:=But.refl g W
 refine wp_seq ?_
 refine go_reg [] [] [some (.int .i64 0)] mo d0 z0 hB0 (by kernel_rfl) trivial (
  kq (fun cx=>ex_as rfl rfl) <|
  hn) ?_
 intro a1 w1 f1
 have bt1:=But.step f1 bt0 hB0 trivial
 refine wp_seq ?_
 have b_g_1:=f1.k hr
 have s0_2:=f1.q 0 s0_0
 have s1_3:=f1.q 1 s1_0
 refine go_reg [⟨g,48,(exC s),some 16,(exC (s.upF (addF s.x.w (s.m.r s.x.dst.toNat) v)))⟩] [] [some (pt g 0),some (pt g 0),some (pt g 0),some (pt g 22),some (pt g 23),some (.int .i8 s.x.w),some (pt g 0),some (.int .u64 (s.m.r s.x.dst.toNat)),some (.int .u64 v),some (.tuple #[.agg (fC (addF s.x.w (s.m.r s.x.dst.toNat) v)),.int .i64 (Flg.errW s.x.w)]),some (.tuple #[.agg (fC (addF s.x.w (s.m.r s.x.dst.toNat) v)),.int .i64 (Flg.errW s.x.w)]),some (.agg (fC (addF s.x.w (s.m.r s.x.dst.toNat) v))),some (.int .i64 (Flg.errW s.x.w)),some (pt g 0),some (pt g 0),some (pt g 16),none] mo f1.d f1.z f1.b (by kernel_rfl) ⟨b_g_1,trivial⟩ (
  kq (fun cx=>ex_mv rfl (cx.rq 0 s0_2)) <|
  kq (fun cx=>ex_mv rfl (cx.rq 0 s0_2)) <|
  kq (fun cx=>ex_nc rfl cx.u0) <|
  kq (fun cx=>ex_fa rfl cx.u0 (faExC75_1_0 _ _)) <|
  kq (fun cx=>ex_fa rfl cx.u0 (faExC26_1_22 _ _)) <|
  kq (fun cx=>ex_ld rfl (cx.u 0 rfl) (cx.rf 0 rfl (by kernel_rfl)) rfl Tryz.isAgg28) <|
  kq (fun cx=>ex_mv rfl (cx.rq 0 s0_2)) <|
  hc (fun _ _ wx cx=>cx.c rfl (args1 cx.u0) Tryz.func82 (by decide +kernel) (dst_n s g wx (cx.rf 0 rfl (by kernel_rfl)) hd) rfl rfl) <|
  kq (fun cx=>ex_mv rfl (cx.rq 1 s1_3)) <|
  hc (fun _ _ wx cx=>cx.c rfl (args3 cx.u0 cx.u1 (cx.u 2 rfl)) Tryz.func81 (by decide +kernel) (Flg.add_n s.x.w (s.m.r s.x.dst.toNat) v wx (hM.r s.x.dst.toNat) hv) rfl rfl) <|
  kmu 0 <|
  kq (fun cx=>ex_ext (x:=.tmp 5) rfl cx.u0 rfl) <|
  kq (fun cx=>ex_ext (x:=.tmp 5) rfl cx.u0 rfl) <|
  kq (fun cx=>ex_nc rfl cx.u0) <|
  kq (fun cx=>ex_fa rfl cx.u0 (faExC75_0_0 _ _)) <|
  kq (fun cx=>ex_fa rfl cx.u0 (faExC36_1_0 _ _)) <|
  hk (fun cx=>cx.stP (wn rfl) rfl rfl 0 rfl (cx.u 0 rfl) (cx.u 1 rfl) (Flg.fC_one _) (by kernel_rfl) (Nat.le_of_ble_eq_true rfl) rfl hV rfl trivial trivial) <|
  hn) ?_
 intro a2 w2 f2
 have bt2:=But.step f2 bt1 f1.b ⟨.inr rfl,trivial⟩
 refine wp_seq ?_
 have s0_4:=f2.q 0 s0_2
 have s1_5:=f2.q 1 s1_3
 refine go_reg [⟨g,48,(exC (s.upF (addF s.x.w (s.m.r s.x.dst.toNat) v))),some 2,(exC ((s.upF (addF s.x.w (s.m.r s.x.dst.toNat) v)).upR s.x.dst.toNat (doI 0 s.x.w (s.m.r s.x.dst.toNat) v)))⟩] [] [some (pt g 0),some (.int .u64 v),some (.int .i64 0),some (.int .i64 0)] mo f2.d f2.z f2.b (by kernel_rfl) ⟨f2.rows.1,trivial⟩ (
  kq (fun cx=>ex_mv rfl (cx.rq 0 s0_4)) <|
  kq (fun cx=>ex_mv rfl (cx.rq 1 s1_5)) <|
  hc (fun _ _ wx cx=>callT cx (wn rfl) rfl (args3 (cx.u 0 rfl) rfl (cx.u 1 rfl)) Tryz.func83 (by decide +kernel) (compute_m (s.upF (addF s.x.w (s.m.r s.x.dst.toNat) v)) g 0 v wx (cx.ri 0 rfl) (MOk.upF hM _) hd hv) rfl rfl 0 rfl hV rfl trivial rfl) <|
  kmu 0 <|
  hn) ?_
 intro a3 w3 f3
 have bt3:=But.step f3 bt2 f2.b ⟨.inr rfl,trivial⟩
 refine wp_ret ?_
 try simp only [Exit.inBlock,Exit.then]
 refine bodyPost_ret (res_t (fn:=Tryz.f39) rfl (f3.vv 3)) f3.d ?_
 exact ⟨rfl,bt3,f3.rows.1⟩
theorem subtract_m (s:Ex)(g:Nat)(v:Int)(W:World)(hr:W.heap[g]?=some (.cells (exC s) 48 (0,0)))(hM:MOk s.m)(hd:0≤s.x.dst∧s.x.dst<16)(hv:U64 v):Calls Tryz.prog 42 #[.pointer (some ⟨g,0,none⟩),.int .u64 v] W (RetT (.int .i64 0) (exC ((s.upF (subF s.x.w (s.m.r s.x.dst.toNat) v)).upR s.x.dst.toNat (doI 1 s.x.w (s.m.r s.x.dst.toNat) v))) 48 g W):=by
 refine calls_abs Tryz.func42 rfl (Nat.le_of_ble_eq_true rfl) ?_
 intro a0 d0 z0 h0
 replace z0:a0.tmps.size=11:=z0
 have s0_0:a0.tmps.getD 0 undef=.pointer (some ⟨g,0,none⟩):=h0 0 (Nat.le_of_ble_eq_true rfl)
 have s1_0:a0.tmps.getD 1 undef=.int .u64 v:=h0 1 (Nat.le_of_ble_eq_true rfl)
 have hB0:=cutW_below W g
 have hV:=cutW_size hr
 have bt0:=But.refl g W
 refine wp_seq ?_
 refine go_reg [] [] [some (.int .i64 0)] mo d0 z0 hB0 (by kernel_rfl) trivial (
  kq (fun cx=>ex_as rfl rfl) <|
  hn) ?_
 intro a1 w1 f1
 have bt1:=But.step f1 bt0 hB0 trivial
 refine wp_seq ?_
 have b_g_1:=f1.k hr
 have s0_2:=f1.q 0 s0_0
 have s1_3:=f1.q 1 s1_0
 refine go_reg [⟨g,48,(exC s),some 2,(exC (s.upF (subF s.x.w (s.m.r s.x.dst.toNat) v)))⟩] [] [some (pt g 0),some (.int .u64 v),some (.int .i64 0)] mo f1.d f1.z f1.b (by kernel_rfl) ⟨b_g_1,trivial⟩ (
  kq (fun cx=>ex_mv rfl (cx.rq 0 s0_2)) <|
  kq (fun cx=>ex_mv rfl (cx.rq 1 s1_3)) <|
  hc (fun _ _ wx cx=>callT cx (wn rfl) rfl (args2 (cx.u 0 rfl) (cx.u 1 rfl)) Tryz.func44 (by decide +kernel) (compare_m s g v wx (cx.ri 0 rfl) hM hd hv) rfl rfl 0 rfl hV rfl trivial rfl) <|
  hn) ?_
 intro a2 w2 f2
 have bt2:=But.step f2 bt1 f1.b ⟨.inr rfl,trivial⟩
 refine wp_seq ?_
 have s0_4:=f2.q 0 s0_2
 have s1_5:=f2.q 1 s1_3
 refine go_reg [⟨g,48,(exC (s.upF (subF s.x.w (s.m.r s.x.dst.toNat) v))),some 2,(exC ((s.upF (subF s.x.w (s.m.r s.x.dst.toNat) v)).upR s.x.dst.toNat (doI 1 s.x.w (s.m.r s.x.dst.toNat) v)))⟩] [] [some (pt g 0),some (.int .u64 v),some (.int .i64 0),some (.int .i64 0)] mo f2.d f2.z f2.b (by kernel_rfl) ⟨f2.rows.1,trivial⟩ (
  kq (fun cx=>ex_mv rfl (cx.rq 0 s0_4)) <|
  kq (fun cx=>ex_mv rfl (cx.rq 1 s1_5)) <|
  hc (fun _ _ wx cx=>callT cx (wn rfl) rfl (args3 (cx.u 0 rfl) rfl (cx.u 1 rfl)) Tryz.func83 (by decide +kernel) (compute_m (s.upF (subF s.x.w (s.m.r s.x.dst.toNat) v)) g 1 v wx (cx.ri 0 rfl) (MOk.upF hM _) hd hv) rfl rfl 0 rfl hV rfl trivial rfl) <|
  kmu 0 <|
  hn) ?_
 intro a3 w3 f3
 have bt3:=But.step f3 bt2 f2.b ⟨.inr rfl,trivial⟩
 refine wp_ret ?_
 try simp only [Exit.inBlock,Exit.then]
 refine bodyPost_ret (res_t (fn:=Tryz.f42) rfl (f3.vv 3)) f3.d ?_
 exact ⟨rfl,bt3,f3.rows.1⟩
theorem and_m (s:Ex)(g:Nat)(v:Int)(W:World)(hr:W.heap[g]?=some (.cells (exC s) 48 (0,0)))(hM:MOk s.m)(hd:0≤s.x.dst∧s.x.dst<16)(hv:U64 v):Calls Tryz.prog 41 #[.pointer (some ⟨g,0,none⟩),.int .u64 v] W (RetT (.int .i64 0) (exC ((s.upF (ofF s.x.w (doI 5 s.x.w (s.m.r s.x.dst.toNat) v))).upR s.x.dst.toNat (doI 5 s.x.w (s.m.r s.x.dst.toNat) v))) 48 g W):=by
 refine calls_abs Tryz.func41 rfl (Nat.le_of_ble_eq_true rfl) ?_
 intro a0 d0 z0 h0
 replace z0:a0.tmps.size=11:=z0
 have s0_0:a0.tmps.getD 0 undef=.pointer (some ⟨g,0,none⟩):=h0 0 (Nat.le_of_ble_eq_true rfl)
 have s1_0:a0.tmps.getD 1 undef=.int .u64 v:=h0 1 (Nat.le_of_ble_eq_true rfl)
 have hB0:=cutW_below W g
 have hV:=cutW_size hr
 have bt0:=But.refl g W
 refine wp_seq ?_
 refine go_reg [] [] [some (.int .i64 0)] mo d0 z0 hB0 (by kernel_rfl) trivial (
  kq (fun cx=>ex_as rfl rfl) <|
  hn) ?_
 intro a1 w1 f1
 have bt1:=But.step f1 bt0 hB0 trivial
 refine wp_seq ?_
 have b_g_1:=f1.k hr
 have s0_2:=f1.q 0 s0_0
 have s1_3:=f1.q 1 s1_0
 refine go_reg [⟨g,48,(exC s),some 2,(exC (s.upF (ofF s.x.w (doI 5 s.x.w (s.m.r s.x.dst.toNat) v))))⟩] [] [some (pt g 0),some (.int .u64 v),some (.int .i64 0)] mo f1.d f1.z f1.b (by kernel_rfl) ⟨b_g_1,trivial⟩ (
  kq (fun cx=>ex_mv rfl (cx.rq 0 s0_2)) <|
  kq (fun cx=>ex_mv rfl (cx.rq 1 s1_3)) <|
  hc (fun _ _ wx cx=>callT cx (wn rfl) rfl (args2 (cx.u 0 rfl) (cx.u 1 rfl)) Tryz.func45 (by decide +kernel) (test_m s g v wx (cx.ri 0 rfl) hM hd hv) rfl rfl 0 rfl hV rfl trivial rfl) <|
  hn) ?_
 intro a2 w2 f2
 have bt2:=But.step f2 bt1 f1.b ⟨.inr rfl,trivial⟩
 refine wp_seq ?_
 have s0_4:=f2.q 0 s0_2
 have s1_5:=f2.q 1 s1_3
 refine go_reg [⟨g,48,(exC (s.upF (ofF s.x.w (doI 5 s.x.w (s.m.r s.x.dst.toNat) v)))),some 2,(exC ((s.upF (ofF s.x.w (doI 5 s.x.w (s.m.r s.x.dst.toNat) v))).upR s.x.dst.toNat (doI 5 s.x.w (s.m.r s.x.dst.toNat) v)))⟩] [] [some (pt g 0),some (.int .u64 v),some (.int .i64 0),some (.int .i64 0)] mo f2.d f2.z f2.b (by kernel_rfl) ⟨f2.rows.1,trivial⟩ (
  kq (fun cx=>ex_mv rfl (cx.rq 0 s0_4)) <|
  kq (fun cx=>ex_mv rfl (cx.rq 1 s1_5)) <|
  hc (fun _ _ wx cx=>callT cx (wn rfl) rfl (args3 (cx.u 0 rfl) rfl (cx.u 1 rfl)) Tryz.func83 (by decide +kernel) (compute_m (s.upF (ofF s.x.w (doI 5 s.x.w (s.m.r s.x.dst.toNat) v))) g 5 v wx (cx.ri 0 rfl) (MOk.upF hM _) hd hv) rfl rfl 0 rfl hV rfl trivial rfl) <|
  kmu 0 <|
  hn) ?_
 intro a3 w3 f3
 have bt3:=But.step f3 bt2 f2.b ⟨.inr rfl,trivial⟩
 refine wp_ret ?_
 try simp only [Exit.inBlock,Exit.then]
 refine bodyPost_ret (res_t (fn:=Tryz.f41) rfl (f3.vv 3)) f3.d ?_
 exact ⟨rfl,bt3,f3.rows.1⟩
theorem or_m (s:Ex)(g:Nat)(v:Int)(W:World)(hr:W.heap[g]?=some (.cells (exC s) 48 (0,0)))(hM:MOk s.m)(hd:0≤s.x.dst∧s.x.dst<16)(hv:U64 v):Calls Tryz.prog 40 #[.pointer (some ⟨g,0,none⟩),.int .u64 v] W (RetT (.int .i64 0) (exC ((s.upF (ofF s.x.w (doI 4 s.x.w (s.m.r s.x.dst.toNat) v))).upR s.x.dst.toNat (doI 4 s.x.w (s.m.r s.x.dst.toNat) v))) 48 g W):=by
 refine calls_abs Tryz.func40 rfl (Nat.le_of_ble_eq_true rfl) ?_
 intro a0 d0 z0 h0
 replace z0:a0.tmps.size=12:=z0
 have s0_0:a0.tmps.getD 0 undef=.pointer (some ⟨g,0,none⟩):=h0 0 (Nat.le_of_ble_eq_true rfl)
 have s1_0:a0.tmps.getD 1 undef=.int .u64 v:=h0 1 (Nat.le_of_ble_eq_true rfl)
 have hB0:=cutW_below W g
 have hV:=cutW_size hr
 have bt0:=But.refl g W
 refine wp_seq ?_
 refine go_reg [] [] [some (.int .i64 0)] mo d0 z0 hB0 (by kernel_rfl) trivial (
  kq (fun cx=>ex_as rfl rfl) <|
  hn) ?_
 intro a1 w1 f1
 have bt1:=But.step f1 bt0 hB0 trivial
 refine wp_seq ?_
 have b_g_1:=f1.k hr
 have s0_2:=f1.q 0 s0_0
 have s1_3:=f1.q 1 s1_0
 refine go_reg [⟨g,48,(exC s),some 2,(exC (s.upR s.x.dst.toNat (doI 4 s.x.w (s.m.r s.x.dst.toNat) v)))⟩] [] [some (pt g 0),some (.int .u64 v),some (.int .i64 0)] mo f1.d f1.z f1.b (by kernel_rfl) ⟨b_g_1,trivial⟩ (
  kq (fun cx=>ex_mv rfl (cx.rq 0 s0_2)) <|
  kq (fun cx=>ex_mv rfl (cx.rq 1 s1_3)) <|
  hc (fun _ _ wx cx=>callT cx (wn rfl) rfl (args3 (cx.u 0 rfl) rfl (cx.u 1 rfl)) Tryz.func83 (by decide +kernel) (compute_m s g 4 v wx (cx.ri 0 rfl) hM hd hv) rfl rfl 0 rfl hV rfl trivial rfl) <|
  hn) ?_
 intro a2 w2 f2
 have bt2:=But.step f2 bt1 f1.b ⟨.inr rfl,trivial⟩
 refine wp_seq ?_
 have s0_4:=f2.q 0 s0_2
 refine go_reg [⟨g,48,(exC (s.upR s.x.dst.toNat (doI 4 s.x.w (s.m.r s.x.dst.toNat) v))),some 3,(exC ((s.upR s.x.dst.toNat (doI 4 s.x.w (s.m.r s.x.dst.toNat) v)).upF (ofF s.x.w (doI 4 s.x.w (s.m.r s.x.dst.toNat) v))))⟩] [] [some (pt g 0),some (pt g 0),some (.int .u64 (doI 4 s.x.w (s.m.r s.x.dst.toNat) v)),some (.int .i64 0),some (.int .i64 0)] mo f2.d f2.z f2.b (by kernel_rfl) ⟨f2.rows.1,trivial⟩ (
  kq (fun cx=>ex_mv rfl (cx.rq 0 s0_4)) <|
  kq (fun cx=>ex_mv rfl (cx.rq 0 s0_4)) <|
  hc (fun _ _ wx cx=>cx.c rfl (args1 cx.u0) Tryz.func82 (by decide +kernel) (dst_n (s.upR s.x.dst.toNat (doI 4 s.x.w (s.m.r s.x.dst.toNat) v)) g wx (cx.rf 0 rfl (by kernel_rfl)) hd) rfl (congrArg (Value.int .u64) (upR_self s s.x.dst.toNat (doI 4 s.x.w (s.m.r s.x.dst.toNat) v)))) <|
  hc (fun _ _ wx cx=>callT cx (wn rfl) rfl (args2 (cx.u 0 rfl) (cx.u 1 rfl)) Tryz.func84 (by decide +kernel) (flagsOf_m (s.upR s.x.dst.toNat (doI 4 s.x.w (s.m.r s.x.dst.toNat) v)) g (doI 4 s.x.w (s.m.r s.x.dst.toNat) v) wx (cx.ri 0 rfl) (U64.do_ 4 s.x.w (hM.r s.x.dst.toNat) hv)) rfl rfl 0 rfl hV rfl trivial rfl) <|
  kmu 0 <|
  hn) ?_
 intro a3 w3 f3
 have bt3:=But.step f3 bt2 f2.b ⟨.inr rfl,trivial⟩
 refine wp_ret ?_
 try simp only [Exit.inBlock,Exit.then]
 refine bodyPost_ret (res_t (fn:=Tryz.f40) rfl (f3.vv 4)) f3.d ?_
 exact ⟨rfl,bt3,f3.rows.1⟩
theorem xor_m (s:Ex)(g:Nat)(v:Int)(W:World)(hr:W.heap[g]?=some (.cells (exC s) 48 (0,0)))(hM:MOk s.m)(hd:0≤s.x.dst∧s.x.dst<16)(hv:U64 v):Calls Tryz.prog 43 #[.pointer (some ⟨g,0,none⟩),.int .u64 v] W (RetT (.int .i64 0) (exC ((s.upF (ofF s.x.w (doI 10 s.x.w (s.m.r s.x.dst.toNat) v))).upR s.x.dst.toNat (doI 10 s.x.w (s.m.r s.x.dst.toNat) v))) 48 g W):=by
 refine calls_abs Tryz.func43 rfl (Nat.le_of_ble_eq_true rfl) ?_
 intro a0 d0 z0 h0
 replace z0:a0.tmps.size=12:=z0
 have s0_0:a0.tmps.getD 0 undef=.pointer (some ⟨g,0,none⟩):=h0 0 (Nat.le_of_ble_eq_true rfl)
 have s1_0:a0.tmps.getD 1 undef=.int .u64 v:=h0 1 (Nat.le_of_ble_eq_true rfl)
 have hB0:=cutW_below W g
 have hV:=cutW_size hr
 have bt0:=But.refl g W
 refine wp_seq ?_
 refine go_reg [] [] [some (.int .i64 0)] mo d0 z0 hB0 (by kernel_rfl) trivial (
  kq (fun cx=>ex_as rfl rfl) <|
  hn) ?_
 intro a1 w1 f1
 have bt1:=But.step f1 bt0 hB0 trivial
 refine wp_seq ?_
 have b_g_1:=f1.k hr
 have s0_2:=f1.q 0 s0_0
 have s1_3:=f1.q 1 s1_0
 refine go_reg [⟨g,48,(exC s),some 2,(exC (s.upR s.x.dst.toNat (doI 10 s.x.w (s.m.r s.x.dst.toNat) v)))⟩] [] [some (pt g 0),some (.int .u64 v),some (.int .i64 0)] mo f1.d f1.z f1.b (by kernel_rfl) ⟨b_g_1,trivial⟩ (
  kq (fun cx=>ex_mv rfl (cx.rq 0 s0_2)) <|
  kq (fun cx=>ex_mv rfl (cx.rq 1 s1_3)) <|
  hc (fun _ _ wx cx=>callT cx (wn rfl) rfl (args3 (cx.u 0 rfl) rfl (cx.u 1 rfl)) Tryz.func83 (by decide +kernel) (compute_m s g 10 v wx (cx.ri 0 rfl) hM hd hv) rfl rfl 0 rfl hV rfl trivial rfl) <|
  hn) ?_
 intro a2 w2 f2
 have bt2:=But.step f2 bt1 f1.b ⟨.inr rfl,trivial⟩
 refine wp_seq ?_
 have s0_4:=f2.q 0 s0_2
 refine go_reg [⟨g,48,(exC (s.upR s.x.dst.toNat (doI 10 s.x.w (s.m.r s.x.dst.toNat) v))),some 3,(exC ((s.upR s.x.dst.toNat (doI 10 s.x.w (s.m.r s.x.dst.toNat) v)).upF (ofF s.x.w (doI 10 s.x.w (s.m.r s.x.dst.toNat) v))))⟩] [] [some (pt g 0),some (pt g 0),some (.int .u64 (doI 10 s.x.w (s.m.r s.x.dst.toNat) v)),some (.int .i64 0),some (.int .i64 0)] mo f2.d f2.z f2.b (by kernel_rfl) ⟨f2.rows.1,trivial⟩ (
  kq (fun cx=>ex_mv rfl (cx.rq 0 s0_4)) <|
  kq (fun cx=>ex_mv rfl (cx.rq 0 s0_4)) <|
  hc (fun _ _ wx cx=>cx.c rfl (args1 cx.u0) Tryz.func82 (by decide +kernel) (dst_n (s.upR s.x.dst.toNat (doI 10 s.x.w (s.m.r s.x.dst.toNat) v)) g wx (cx.rf 0 rfl (by kernel_rfl)) hd) rfl (congrArg (Value.int .u64) (upR_self s s.x.dst.toNat (doI 10 s.x.w (s.m.r s.x.dst.toNat) v)))) <|
  hc (fun _ _ wx cx=>callT cx (wn rfl) rfl (args2 (cx.u 0 rfl) (cx.u 1 rfl)) Tryz.func84 (by decide +kernel) (flagsOf_m (s.upR s.x.dst.toNat (doI 10 s.x.w (s.m.r s.x.dst.toNat) v)) g (doI 10 s.x.w (s.m.r s.x.dst.toNat) v) wx (cx.ri 0 rfl) (U64.do_ 10 s.x.w (hM.r s.x.dst.toNat) hv)) rfl rfl 0 rfl hV rfl trivial rfl) <|
  kmu 0 <|
  hn) ?_
 intro a3 w3 f3
 have bt3:=But.step f3 bt2 f2.b ⟨.inr rfl,trivial⟩
 refine wp_ret ?_
 try simp only [Exit.inBlock,Exit.then]
 refine bodyPost_ret (res_t (fn:=Tryz.f43) rfl (f3.vv 4)) f3.d ?_
 exact ⟨rfl,bt3,f3.rows.1⟩
theorem negate_m (s:Ex)(g:Nat)(v:Int)(W:World)(hr:W.heap[g]?=some (.cells (exC s) 48 (0,0)))(hM:MOk s.m)(hd:0≤s.x.dst∧s.x.dst<16)(hv:U64 v):Calls Tryz.prog 50 #[.pointer (some ⟨g,0,none⟩),.int .u64 v] W (RetT (.int .i64 0) (exC ((s.upF (subF s.x.w 0 (s.m.r s.x.dst.toNat))).upR s.x.dst.toNat (doI 8 s.x.w (s.m.r s.x.dst.toNat) 0))) 48 g W):=by
 refine calls_abs Tryz.func50 rfl (Nat.le_of_ble_eq_true rfl) ?_
 intro a0 d0 z0 h0
 replace z0:a0.tmps.size=22:=z0
 have s0_0:a0.tmps.getD 0 undef=.pointer (some ⟨g,0,none⟩):=h0 0 (Nat.le_of_ble_eq_true rfl)
 have s1_0:a0.tmps.getD 1 undef=.int .u64 v:=h0 1 (Nat.le_of_ble_eq_true rfl)
 have hB0:=cutW_below W g
 have hV:=cutW_size hr
 have bt0:=But.refl g W
 refine wp_seq ?_
 refine go_reg [] [] [some (.int .i64 0)] mo d0 z0 hB0 (by kernel_rfl) trivial (
  kq (fun cx=>ex_as rfl rfl) <|
  hn) ?_
 intro a1 w1 f1
 have bt1:=But.step f1 bt0 hB0 trivial
 refine wp_seq ?_
 have b_g_1:=f1.k hr
 have s0_2:=f1.q 0 s0_0
 refine go_reg [⟨g,48,(exC s),some 15,(exC (s.upF (subF s.x.w 0 (s.m.r s.x.dst.toNat))))⟩] [] [some (pt g 0),some (pt g 0),some (pt g 0),some (pt g 22),some (pt g 23),some (.int .i8 s.x.w),some (pt g 0),some (.int .u64 (s.m.r s.x.dst.toNat)),some (.tuple #[.agg (fC (subF s.x.w 0 (s.m.r s.x.dst.toNat))),.int .i64 (Flg.errW s.x.w)]),some (.tuple #[.agg (fC (subF s.x.w 0 (s.m.r s.x.dst.toNat))),.int .i64 (Flg.errW s.x.w)]),some (.agg (fC (subF s.x.w 0 (s.m.r s.x.dst.toNat)))),some (.int .i64 (Flg.errW s.x.w)),some (pt g 0),some (pt g 0),some (pt g 16),none] mo f1.d f1.z f1.b (by kernel_rfl) ⟨b_g_1,trivial⟩ (
  kq (fun cx=>ex_mv rfl (cx.rq 0 s0_2)) <|
  kq (fun cx=>ex_mv rfl (cx.rq 0 s0_2)) <|
  kq (fun cx=>ex_nc rfl cx.u0) <|
  kq (fun cx=>ex_fa rfl cx.u0 (faExC75_1_0 _ _)) <|
  kq (fun cx=>ex_fa rfl cx.u0 (faExC26_1_22 _ _)) <|
  kq (fun cx=>ex_ld rfl (cx.u 0 rfl) (cx.rf 0 rfl (by kernel_rfl)) rfl Tryz.isAgg28) <|
  kq (fun cx=>ex_mv rfl (cx.rq 0 s0_2)) <|
  hc (fun _ _ wx cx=>cx.c rfl (args1 cx.u0) Tryz.func82 (by decide +kernel) (dst_n s g wx (cx.rf 0 rfl (by kernel_rfl)) hd) rfl rfl) <|
  hc (fun _ _ wx cx=>cx.c rfl (args3 cx.u0 rfl cx.u1) Tryz.func85 (by decide +kernel) (Flg.sub_n s.x.w 0 (s.m.r s.x.dst.toNat) wx (⟨by omega,by omega⟩:U64 0) (hM.r s.x.dst.toNat)) rfl rfl) <|
  kmu 0 <|
  kq (fun cx=>ex_ext (x:=.tmp 5) rfl cx.u0 rfl) <|
  kq (fun cx=>ex_ext (x:=.tmp 5) rfl cx.u0 rfl) <|
  kq (fun cx=>ex_nc rfl cx.u0) <|
  kq (fun cx=>ex_fa rfl cx.u0 (faExC75_0_0 _ _)) <|
  kq (fun cx=>ex_fa rfl cx.u0 (faExC36_1_0 _ _)) <|
  hk (fun cx=>cx.stP (wn rfl) rfl rfl 0 rfl (cx.u 0 rfl) (cx.u 1 rfl) (Flg.fC_one _) (by kernel_rfl) (Nat.le_of_ble_eq_true rfl) rfl hV rfl trivial trivial) <|
  hn) ?_
 intro a2 w2 f2
 have bt2:=But.step f2 bt1 f1.b ⟨.inr rfl,trivial⟩
 refine wp_seq ?_
 have s0_3:=f2.q 0 s0_2
 refine go_reg [⟨g,48,(exC (s.upF (subF s.x.w 0 (s.m.r s.x.dst.toNat)))),some 1,(exC ((s.upF (subF s.x.w 0 (s.m.r s.x.dst.toNat))).upR s.x.dst.toNat (doI 8 s.x.w (s.m.r s.x.dst.toNat) 0)))⟩] [] [some (pt g 0),some (.int .i64 0),some (.int .i64 0)] mo f2.d f2.z f2.b (by kernel_rfl) ⟨f2.rows.1,trivial⟩ (
  kq (fun cx=>ex_mv rfl (cx.rq 0 s0_3)) <|
  hc (fun _ _ wx cx=>callT cx (wn rfl) rfl (args3 (cx.u 0 rfl) rfl rfl) Tryz.func83 (by decide +kernel) (compute_m (s.upF (subF s.x.w 0 (s.m.r s.x.dst.toNat))) g 8 0 wx (cx.ri 0 rfl) (MOk.upF hM _) hd (⟨by omega,by omega⟩:U64 0)) rfl rfl 0 rfl hV rfl trivial rfl) <|
  kmu 0 <|
  hn) ?_
 intro a3 w3 f3
 have bt3:=But.step f3 bt2 f2.b ⟨.inr rfl,trivial⟩
 refine wp_ret ?_
 try simp only [Exit.inBlock,Exit.then]
 refine bodyPost_ret (res_t (fn:=Tryz.f50) rfl (f3.vv 2)) f3.d ?_
 exact ⟨rfl,bt3,f3.rows.1⟩
theorem multiply_m (s:Ex)(g:Nat)(v:Int)(W:World)(hr:W.heap[g]?=some (.cells (exC s) 48 (0,0)))(hM:MOk s.m)(hd:0≤s.x.dst∧s.x.dst<16)(hv:U64 v):Calls Tryz.prog 46 #[.pointer (some ⟨g,0,none⟩),.int .u64 v] W (RetT (.int .i64 0) (exC ((s.upF zF).upR s.x.dst.toNat (doI 2 s.x.w (s.m.r s.x.dst.toNat) v))) 48 g W):=by
 refine calls_abs Tryz.func46 rfl (Nat.le_of_ble_eq_true rfl) ?_
 intro a0 d0 z0 h0
 replace z0:a0.tmps.size=13:=z0
 have s0_0:a0.tmps.getD 0 undef=.pointer (some ⟨g,0,none⟩):=h0 0 (Nat.le_of_ble_eq_true rfl)
 have s1_0:a0.tmps.getD 1 undef=.int .u64 v:=h0 1 (Nat.le_of_ble_eq_true rfl)
 have hB0:=cutW_below W g
 have hV:=cutW_size hr
 have bt0:=But.refl g W
 refine wp_seq ?_
 refine go_reg [] [] [some (.int .i64 0)] mo d0 z0 hB0 (by kernel_rfl) trivial (
  kq (fun cx=>ex_as rfl rfl) <|
  hn) ?_
 intro a1 w1 f1
 have bt1:=But.step f1 bt0 hB0 trivial
 refine wp_seq ?_
 have b_g_1:=f1.k hr
 have s0_2:=f1.q 0 s0_0
 refine go_reg [⟨g,48,(exC s),some 5,(exC (s.upF zF))⟩] [] [some (pt g 0),some (.agg (fC zF)),some (pt g 0),some (pt g 0),some (pt g 16),none] mo f1.d f1.z f1.b (by kernel_rfl) ⟨b_g_1,trivial⟩ (
  kq (fun cx=>ex_mv rfl (cx.rq 0 s0_2)) <|
  hc (fun _ _ wx cx=>cx.c rfl (args0 ) Tryz.func86 (by decide +kernel) (Flg.none_n wx) rfl rfl) <|
  kq (fun cx=>ex_nc rfl cx.u0) <|
  kq (fun cx=>ex_fa rfl cx.u0 (faExC75_0_0 _ _)) <|
  kq (fun cx=>ex_fa rfl cx.u0 (faExC36_1_0 _ _)) <|
  hk (fun cx=>cx.stP (wn rfl) rfl rfl 0 rfl (cx.u 0 rfl) (cx.u 1 rfl) (Flg.fC_one _) (by kernel_rfl) (Nat.le_of_ble_eq_true rfl) rfl hV rfl trivial trivial) <|
  hn) ?_
 intro a2 w2 f2
 have bt2:=But.step f2 bt1 f1.b ⟨.inr rfl,trivial⟩
 refine wp_seq ?_
 have s0_3:=f2.q 0 s0_2
 have s1_4:=f2.q 1 (f1.q 1 s1_0)
 refine go_reg [⟨g,48,(exC (s.upF zF)),some 2,(exC ((s.upF zF).upR s.x.dst.toNat (doI 2 s.x.w (s.m.r s.x.dst.toNat) v)))⟩] [] [some (pt g 0),some (.int .u64 v),some (.int .i64 0),some (.int .i64 0)] mo f2.d f2.z f2.b (by kernel_rfl) ⟨f2.rows.1,trivial⟩ (
  kq (fun cx=>ex_mv rfl (cx.rq 0 s0_3)) <|
  kq (fun cx=>ex_mv rfl (cx.rq 1 s1_4)) <|
  hc (fun _ _ wx cx=>callT cx (wn rfl) rfl (args3 (cx.u 0 rfl) rfl (cx.u 1 rfl)) Tryz.func83 (by decide +kernel) (compute_m (s.upF zF) g 2 v wx (cx.ri 0 rfl) (MOk.upF hM _) hd hv) rfl rfl 0 rfl hV rfl trivial rfl) <|
  kmu 0 <|
  hn) ?_
 intro a3 w3 f3
 have bt3:=But.step f3 bt2 f2.b ⟨.inr rfl,trivial⟩
 refine wp_ret ?_
 try simp only [Exit.inBlock,Exit.then]
 refine bodyPost_ret (res_t (fn:=Tryz.f46) rfl (f3.vv 3)) f3.d ?_
 exact ⟨rfl,bt3,f3.rows.1⟩
theorem shiftLeft_m (s:Ex)(g:Nat)(v:Int)(W:World)(hr:W.heap[g]?=some (.cells (exC s) 48 (0,0)))(hM:MOk s.m)(hd:0≤s.x.dst∧s.x.dst<16)(hv:U64 v):Calls Tryz.prog 47 #[.pointer (some ⟨g,0,none⟩),.int .u64 v] W (RetT (.int .i64 0) (exC ((s.upF zF).upR s.x.dst.toNat (doI 6 s.x.w (s.m.r s.x.dst.toNat) v))) 48 g W):=by
 refine calls_abs Tryz.func47 rfl (Nat.le_of_ble_eq_true rfl) ?_
 intro a0 d0 z0 h0
 replace z0:a0.tmps.size=13:=z0
 have s0_0:a0.tmps.getD 0 undef=.pointer (some ⟨g,0,none⟩):=h0 0 (Nat.le_of_ble_eq_true rfl)
 have s1_0:a0.tmps.getD 1 undef=.int .u64 v:=h0 1 (Nat.le_of_ble_eq_true rfl)
 have hB0:=cutW_below W g
 have hV:=cutW_size hr
 have bt0:=But.refl g W
 refine wp_seq ?_
 refine go_reg [] [] [some (.int .i64 0)] mo d0 z0 hB0 (by kernel_rfl) trivial (
  kq (fun cx=>ex_as rfl rfl) <|
  hn) ?_
 intro a1 w1 f1
 have bt1:=But.step f1 bt0 hB0 trivial
 refine wp_seq ?_
 have b_g_1:=f1.k hr
 have s0_2:=f1.q 0 s0_0
 refine go_reg [⟨g,48,(exC s),some 5,(exC (s.upF zF))⟩] [] [some (pt g 0),some (.agg (fC zF)),some (pt g 0),some (pt g 0),some (pt g 16),none] mo f1.d f1.z f1.b (by kernel_rfl) ⟨b_g_1,trivial⟩ (
  kq (fun cx=>ex_mv rfl (cx.rq 0 s0_2)) <|
  hc (fun _ _ wx cx=>cx.c rfl (args0 ) Tryz.func86 (by decide +kernel) (Flg.none_n wx) rfl rfl) <|
  kq (fun cx=>ex_nc rfl cx.u0) <|
  kq (fun cx=>ex_fa rfl cx.u0 (faExC75_0_0 _ _)) <|
  kq (fun cx=>ex_fa rfl cx.u0 (faExC36_1_0 _ _)) <|
  hk (fun cx=>cx.stP (wn rfl) rfl rfl 0 rfl (cx.u 0 rfl) (cx.u 1 rfl) (Flg.fC_one _) (by kernel_rfl) (Nat.le_of_ble_eq_true rfl) rfl hV rfl trivial trivial) <|
  hn) ?_
 intro a2 w2 f2
 have bt2:=But.step f2 bt1 f1.b ⟨.inr rfl,trivial⟩
 refine wp_seq ?_
 have s0_3:=f2.q 0 s0_2
 have s1_4:=f2.q 1 (f1.q 1 s1_0)
 refine go_reg [⟨g,48,(exC (s.upF zF)),some 2,(exC ((s.upF zF).upR s.x.dst.toNat (doI 6 s.x.w (s.m.r s.x.dst.toNat) v)))⟩] [] [some (pt g 0),some (.int .u64 v),some (.int .i64 0),some (.int .i64 0)] mo f2.d f2.z f2.b (by kernel_rfl) ⟨f2.rows.1,trivial⟩ (
  kq (fun cx=>ex_mv rfl (cx.rq 0 s0_3)) <|
  kq (fun cx=>ex_mv rfl (cx.rq 1 s1_4)) <|
  hc (fun _ _ wx cx=>callT cx (wn rfl) rfl (args3 (cx.u 0 rfl) rfl (cx.u 1 rfl)) Tryz.func83 (by decide +kernel) (compute_m (s.upF zF) g 6 v wx (cx.ri 0 rfl) (MOk.upF hM _) hd hv) rfl rfl 0 rfl hV rfl trivial rfl) <|
  kmu 0 <|
  hn) ?_
 intro a3 w3 f3
 have bt3:=But.step f3 bt2 f2.b ⟨.inr rfl,trivial⟩
 refine wp_ret ?_
 try simp only [Exit.inBlock,Exit.then]
 refine bodyPost_ret (res_t (fn:=Tryz.f47) rfl (f3.vv 3)) f3.d ?_
 exact ⟨rfl,bt3,f3.rows.1⟩
theorem shiftRight_m (s:Ex)(g:Nat)(v:Int)(W:World)(hr:W.heap[g]?=some (.cells (exC s) 48 (0,0)))(hM:MOk s.m)(hd:0≤s.x.dst∧s.x.dst<16)(hv:U64 v):Calls Tryz.prog 48 #[.pointer (some ⟨g,0,none⟩),.int .u64 v] W (RetT (.int .i64 0) (exC ((s.upF zF).upR s.x.dst.toNat (doI 7 s.x.w (s.m.r s.x.dst.toNat) v))) 48 g W):=by
 refine calls_abs Tryz.func48 rfl (Nat.le_of_ble_eq_true rfl) ?_
 intro a0 d0 z0 h0
 replace z0:a0.tmps.size=13:=z0
 have s0_0:a0.tmps.getD 0 undef=.pointer (some ⟨g,0,none⟩):=h0 0 (Nat.le_of_ble_eq_true rfl)
 have s1_0:a0.tmps.getD 1 undef=.int .u64 v:=h0 1 (Nat.le_of_ble_eq_true rfl)
 have hB0:=cutW_below W g
 have hV:=cutW_size hr
 have bt0:=But.refl g W
 refine wp_seq ?_
 refine go_reg [] [] [some (.int .i64 0)] mo d0 z0 hB0 (by kernel_rfl) trivial (
  kq (fun cx=>ex_as rfl rfl) <|
  hn) ?_
 intro a1 w1 f1
 have bt1:=But.step f1 bt0 hB0 trivial
 refine wp_seq ?_
 have b_g_1:=f1.k hr
 have s0_2:=f1.q 0 s0_0
 refine go_reg [⟨g,48,(exC s),some 5,(exC (s.upF zF))⟩] [] [some (pt g 0),some (.agg (fC zF)),some (pt g 0),some (pt g 0),some (pt g 16),none] mo f1.d f1.z f1.b (by kernel_rfl) ⟨b_g_1,trivial⟩ (
  kq (fun cx=>ex_mv rfl (cx.rq 0 s0_2)) <|
  hc (fun _ _ wx cx=>cx.c rfl (args0 ) Tryz.func86 (by decide +kernel) (Flg.none_n wx) rfl rfl) <|
  kq (fun cx=>ex_nc rfl cx.u0) <|
  kq (fun cx=>ex_fa rfl cx.u0 (faExC75_0_0 _ _)) <|
  kq (fun cx=>ex_fa rfl cx.u0 (faExC36_1_0 _ _)) <|
  hk (fun cx=>cx.stP (wn rfl) rfl rfl 0 rfl (cx.u 0 rfl) (cx.u 1 rfl) (Flg.fC_one _) (by kernel_rfl) (Nat.le_of_ble_eq_true rfl) rfl hV rfl trivial trivial) <|
  hn) ?_
 intro a2 w2 f2
 have bt2:=But.step f2 bt1 f1.b ⟨.inr rfl,trivial⟩
 refine wp_seq ?_
 have s0_3:=f2.q 0 s0_2
 have s1_4:=f2.q 1 (f1.q 1 s1_0)
 refine go_reg [⟨g,48,(exC (s.upF zF)),some 2,(exC ((s.upF zF).upR s.x.dst.toNat (doI 7 s.x.w (s.m.r s.x.dst.toNat) v)))⟩] [] [some (pt g 0),some (.int .u64 v),some (.int .i64 0),some (.int .i64 0)] mo f2.d f2.z f2.b (by kernel_rfl) ⟨f2.rows.1,trivial⟩ (
  kq (fun cx=>ex_mv rfl (cx.rq 0 s0_3)) <|
  kq (fun cx=>ex_mv rfl (cx.rq 1 s1_4)) <|
  hc (fun _ _ wx cx=>callT cx (wn rfl) rfl (args3 (cx.u 0 rfl) rfl (cx.u 1 rfl)) Tryz.func83 (by decide +kernel) (compute_m (s.upF zF) g 7 v wx (cx.ri 0 rfl) (MOk.upF hM _) hd hv) rfl rfl 0 rfl hV rfl trivial rfl) <|
  kmu 0 <|
  hn) ?_
 intro a3 w3 f3
 have bt3:=But.step f3 bt2 f2.b ⟨.inr rfl,trivial⟩
 refine wp_ret ?_
 try simp only [Exit.inBlock,Exit.then]
 refine bodyPost_ret (res_t (fn:=Tryz.f48) rfl (f3.vv 3)) f3.d ?_
 exact ⟨rfl,bt3,f3.rows.1⟩
theorem shiftSigned_m (s:Ex)(g:Nat)(v:Int)(W:World)(hr:W.heap[g]?=some (.cells (exC s) 48 (0,0)))(hM:MOk s.m)(hd:0≤s.x.dst∧s.x.dst<16)(hv:U64 v):Calls Tryz.prog 49 #[.pointer (some ⟨g,0,none⟩),.int .u64 v] W (RetT (.int .i64 0) (exC ((s.upF zF).upR s.x.dst.toNat (doI 12 s.x.w (s.m.r s.x.dst.toNat) v))) 48 g W):=by
 refine calls_abs Tryz.func49 rfl (Nat.le_of_ble_eq_true rfl) ?_
 intro a0 d0 z0 h0
 replace z0:a0.tmps.size=13:=z0
 have s0_0:a0.tmps.getD 0 undef=.pointer (some ⟨g,0,none⟩):=h0 0 (Nat.le_of_ble_eq_true rfl)
 have s1_0:a0.tmps.getD 1 undef=.int .u64 v:=h0 1 (Nat.le_of_ble_eq_true rfl)
 have hB0:=cutW_below W g
 have hV:=cutW_size hr
 have bt0:=But.refl g W
 refine wp_seq ?_
 refine go_reg [] [] [some (.int .i64 0)] mo d0 z0 hB0 (by kernel_rfl) trivial (
  kq (fun cx=>ex_as rfl rfl) <|
  hn) ?_
 intro a1 w1 f1
 have bt1:=But.step f1 bt0 hB0 trivial
 refine wp_seq ?_
 have b_g_1:=f1.k hr
 have s0_2:=f1.q 0 s0_0
 refine go_reg [⟨g,48,(exC s),some 5,(exC (s.upF zF))⟩] [] [some (pt g 0),some (.agg (fC zF)),some (pt g 0),some (pt g 0),some (pt g 16),none] mo f1.d f1.z f1.b (by kernel_rfl) ⟨b_g_1,trivial⟩ (
  kq (fun cx=>ex_mv rfl (cx.rq 0 s0_2)) <|
  hc (fun _ _ wx cx=>cx.c rfl (args0 ) Tryz.func86 (by decide +kernel) (Flg.none_n wx) rfl rfl) <|
  kq (fun cx=>ex_nc rfl cx.u0) <|
  kq (fun cx=>ex_fa rfl cx.u0 (faExC75_0_0 _ _)) <|
  kq (fun cx=>ex_fa rfl cx.u0 (faExC36_1_0 _ _)) <|
  hk (fun cx=>cx.stP (wn rfl) rfl rfl 0 rfl (cx.u 0 rfl) (cx.u 1 rfl) (Flg.fC_one _) (by kernel_rfl) (Nat.le_of_ble_eq_true rfl) rfl hV rfl trivial trivial) <|
  hn) ?_
 intro a2 w2 f2
 have bt2:=But.step f2 bt1 f1.b ⟨.inr rfl,trivial⟩
 refine wp_seq ?_
 have s0_3:=f2.q 0 s0_2
 have s1_4:=f2.q 1 (f1.q 1 s1_0)
 refine go_reg [⟨g,48,(exC (s.upF zF)),some 2,(exC ((s.upF zF).upR s.x.dst.toNat (doI 12 s.x.w (s.m.r s.x.dst.toNat) v)))⟩] [] [some (pt g 0),some (.int .u64 v),some (.int .i64 0),some (.int .i64 0)] mo f2.d f2.z f2.b (by kernel_rfl) ⟨f2.rows.1,trivial⟩ (
  kq (fun cx=>ex_mv rfl (cx.rq 0 s0_3)) <|
  kq (fun cx=>ex_mv rfl (cx.rq 1 s1_4)) <|
  hc (fun _ _ wx cx=>callT cx (wn rfl) rfl (args3 (cx.u 0 rfl) rfl (cx.u 1 rfl)) Tryz.func83 (by decide +kernel) (compute_m (s.upF zF) g 12 v wx (cx.ri 0 rfl) (MOk.upF hM _) hd hv) rfl rfl 0 rfl hV rfl trivial rfl) <|
  kmu 0 <|
  hn) ?_
 intro a3 w3 f3
 have bt3:=But.step f3 bt2 f2.b ⟨.inr rfl,trivial⟩
 refine wp_ret ?_
 try simp only [Exit.inBlock,Exit.then]
 refine bodyPost_ret (res_t (fn:=Tryz.f49) rfl (f3.vv 3)) f3.d ?_
 exact ⟨rfl,bt3,f3.rows.1⟩
theorem faExD75_0_0 (g:Nat)(w:World):(Instr.fieldAt 48 (.pointer (some ⟨g,0,none⟩)) 0).run Tryz.prog w=.ok (.pointer (some ⟨g,0,none⟩)) w:=by simp [go_sem]
theorem faExD36_2_0 (g:Nat)(w:World):(Instr.fieldAt 27 (.pointer (some ⟨g,0,none⟩)) 2).run Tryz.prog w=.ok (.pointer (some ⟨g,21,none⟩)) w:=by simp [go_sem]
theorem faExD36_0_0 (g:Nat)(w:World):(Instr.fieldAt 27 (.pointer (some ⟨g,0,none⟩)) 0).run Tryz.prog w=.ok (.pointer (some ⟨g,0,none⟩)) w:=by simp [go_sem]
theorem faExD75_1_0 (g:Nat)(w:World):(Instr.fieldAt 48 (.pointer (some ⟨g,0,none⟩)) 1).run Tryz.prog w=.ok (.pointer (some ⟨g,22,none⟩)) w:=by simp [go_sem]
theorem faExD26_7_22 (g:Nat)(w:World):(Instr.fieldAt 30 (.pointer (some ⟨g,22,none⟩)) 7).run Tryz.prog w=.ok (.pointer (some ⟨g,29,none⟩)) w:=by simp [go_sem]
theorem faExD36_1_0 (g:Nat)(w:World):(Instr.fieldAt 27 (.pointer (some ⟨g,0,none⟩)) 1).run Tryz.prog w=.ok (.pointer (some ⟨g,16,none⟩)) w:=by simp [go_sem]
theorem may127 {c:Int}(h:mayC c=true):c≤127:=by rcases Flg.may_cases h with h | h | h | h | h | h | h | h | h | h <;> omega
theorem leave_m (s:Ex)(g:Nat)(v:Int)(W:World)(hr:W.heap[g]?=some (.cells (exC s) 48 (0,0))):Calls Tryz.prog 53 #[.pointer (some ⟨g,0,none⟩),.int .u64 v] W (RetT (.int .i64 0) (exC (s)) 48 g W):=by
 refine calls_abs Tryz.func53 rfl (Nat.le_of_ble_eq_true rfl) ?_
 intro a0 d0 z0 h0
 replace z0:a0.tmps.size=5:=z0
 have s0_0:a0.tmps.getD 0 undef=.pointer (some ⟨g,0,none⟩):=h0 0 (Nat.le_of_ble_eq_true rfl)
 have s1_0:a0.tmps.getD 1 undef=.int .u64 v:=h0 1 (Nat.le_of_ble_eq_true rfl)
 have hB0:=cutW_below W g
 have hV:=cutW_size hr
 have bt0:=But.refl g W
 refine wp_seq ?_
 refine go_reg [] [] [some (.int .i64 0)] mo d0 z0 hB0 (by kernel_rfl) trivial (
  kq (fun cx=>ex_as rfl rfl) <|
  hn) ?_
 intro a1 w1 f1
 have bt1:=But.step f1 bt0 hB0 trivial
 refine wp_seq ?_
 refine go_reg [] [] [some (.int .i64 0)] mo f1.d f1.z f1.b (by kernel_rfl) trivial (
  kq (fun cx=>ex_as rfl rfl) <|
  hn) ?_
 intro a2 w2 f2
 have bt2:=But.step f2 bt1 f1.b trivial
 refine wp_ret ?_
 try simp only [Exit.inBlock,Exit.then]
 refine bodyPost_ret (res_t (fn:=Tryz.f53) rfl (f2.vv 0)) f2.d ?_
 exact ⟨rfl,bt2,(f2.k (f1.k hr))⟩
theorem comeBack_m (s:Ex)(g:Nat)(v:Int)(W:World)(hr:W.heap[g]?=some (.cells (exC s) 48 (0,0))):Calls Tryz.prog 56 #[.pointer (some ⟨g,0,none⟩),.int .u64 v] W (RetT (.int .i64 0) (exC ((s.upA v).upR 4 (IntKind.u64.wrap (s.m.r 4+8)))) 48 g W):=by
 refine calls_abs Tryz.func56 rfl (Nat.le_of_ble_eq_true rfl) ?_
 intro a0 d0 z0 h0
 replace z0:a0.tmps.size=21:=z0
 have s0_0:a0.tmps.getD 0 undef=.pointer (some ⟨g,0,none⟩):=h0 0 (Nat.le_of_ble_eq_true rfl)
 have s1_0:a0.tmps.getD 1 undef=.int .u64 v:=h0 1 (Nat.le_of_ble_eq_true rfl)
 have hB0:=cutW_below W g
 have hV:=cutW_size hr
 have bt0:=But.refl g W
 refine wp_seq ?_
 refine go_reg [] [] [some (.int .i64 0)] mo d0 z0 hB0 (by kernel_rfl) trivial (
  kq (fun cx=>ex_as rfl rfl) <|
  hn) ?_
 intro a1 w1 f1
 have bt1:=But.step f1 bt0 hB0 trivial
 refine wp_seq ?_
 have b_g_1:=f1.k hr
 have s0_2:=f1.q 0 s0_0
 have s1_3:=f1.q 1 s1_0
 refine go_reg [⟨g,48,(exC s),some 5,(exC (s.upA v))⟩] [] [some (pt g 0),some (.int .u64 v),some (pt g 0),some (pt g 0),some (pt g 21),none] mo f1.d f1.z f1.b (by kernel_rfl) ⟨b_g_1,trivial⟩ (
  kq (fun cx=>ex_mv rfl (cx.rq 0 s0_2)) <|
  kq (fun cx=>ex_mv rfl (cx.rq 1 s1_3)) <|
  kq (fun cx=>ex_nc rfl cx.u0) <|
  kq (fun cx=>ex_fa rfl cx.u0 (faExD75_0_0 _ _)) <|
  kq (fun cx=>ex_fa rfl cx.u0 (faExD36_2_0 _ _)) <|
  hk (fun cx=>cx.stC (wn rfl) rfl rfl 0 rfl (cx.u 0 rfl) (cx.u 1 rfl) rfl rfl (by kernel_rfl) rfl rfl hV rfl trivial trivial) <|
  hn) ?_
 intro a2 w2 f2
 have bt2:=But.step f2 bt1 f1.b ⟨.inr rfl,trivial⟩
 refine wp_seq ?_
 have s0_4:=f2.q 0 s0_2
 refine go_reg [⟨g,48,(exC (s.upA v)),some 11,(exC ((s.upA v).upR 4 (IntKind.u64.wrap ((s.m.r 4)+8))))⟩] [] [some (pt g 0),some (pt g 0),some (pt g 0),some (pt g 0),some (pt g (4)),some (.int .u64 (s.m.r 4)),some (.int .u64 (IntKind.u64.wrap ((s.m.r 4)+8))),some (pt g 0),some (pt g 0),some (pt g 0),some (pt g (4)),none] mo f2.d f2.z f2.b (by kernel_rfl) ⟨f2.rows.1,trivial⟩ (
  kq (fun cx=>ex_mv rfl (cx.rq 0 s0_4)) <|
  kq (fun cx=>ex_nc rfl cx.u0) <|
  kq (fun cx=>ex_fa rfl cx.u0 (faExD75_0_0 _ _)) <|
  kq (fun cx=>ex_fa rfl cx.u0 (faExD36_0_0 _ _)) <|
  hk (fun cx=>cx.v (ex_ia (n:=16) (sz:=1) rfl (cx.u 0 rfl) rfl Tryz.underlying23 (by kernel_rfl) (by omega) (by omega) (by omega)) rfl rfl) <|
  hk (fun cx=>cx.v (ldExR (by omega) rfl (cx.u 0 rfl) (cx.rf 0 rfl (by kernel_rfl))) rfl rfl) <|
  kq (fun cx=>ex_add (x:=.tmp 15) rfl cx.u0 rfl) <|
  kq (fun cx=>ex_nc rfl cx.u0) <|
  kq (fun cx=>ex_fa rfl cx.u0 (faExD75_0_0 _ _)) <|
  kq (fun cx=>ex_fa rfl cx.u0 (faExD36_0_0 _ _)) <|
  hk (fun cx=>cx.v (ex_ia (n:=16) (sz:=1) rfl (cx.u 0 rfl) rfl Tryz.underlying23 (by kernel_rfl) (by omega) (by omega) (by omega)) rfl rfl) <|
  hk (fun cx=>cx.stC (wn rfl) rfl rfl 0 rfl (cx.u 0 rfl) (cx.u 1 rfl) rfl rfl (by kernel_rfl) (by rw [exC_size];simp only [Nat.blt_eq];omega) (exC_set _ (by omega) _) hV rfl trivial trivial) <|
  hn) ?_
 intro a3 w3 f3
 have bt3:=But.step f3 bt2 f2.b ⟨.inr rfl,trivial⟩
 refine wp_seq ?_
 refine go_reg [] [] [some (.int .i64 0)] mo f3.d f3.z f3.b (by kernel_rfl) trivial (
  kq (fun cx=>ex_as rfl rfl) <|
  hn) ?_
 intro a4 w4 f4
 have bt4:=But.step f4 bt3 f3.b trivial
 refine wp_ret ?_
 try simp only [Exit.inBlock,Exit.then]
 refine bodyPost_ret (res_t (fn:=Tryz.f56) rfl (f4.vv 0)) f4.d ?_
 exact ⟨rfl,bt4,(f4.k f3.rows.1)⟩
theorem moveIf_yes (s:Ex)(g:Nat)(v:Int)(W:World)(hr:W.heap[g]?=some (.cells (exC s) 48 (0,0)))(hd:0≤s.x.dst∧s.x.dst<16)(eK:s.m.f.k=true)(hcy:mayC s.x.cc=true)(hh:holF s.x.cc s.m.f=true):Calls Tryz.prog 52 #[.pointer (some ⟨g,0,none⟩),.int .u64 v] W (RetT (.int .i64 0) (exC ((s.upR s.x.dst.toNat (cutI v s.x.w)))) 48 g W):=by
 have hE:holE s.x.cc s.m.f=0:=(if_pos hcy).trans (if_pos eK)
 have hcc:s.x.cc≤127:=may127 hcy
 refine calls_abs Tryz.func52 rfl (Nat.le_of_ble_eq_true rfl) ?_
 intro a0 d0 z0 h0
 replace z0:a0.tmps.size=32:=z0
 have s0_0:a0.tmps.getD 0 undef=.pointer (some ⟨g,0,none⟩):=h0 0 (Nat.le_of_ble_eq_true rfl)
 have s1_0:a0.tmps.getD 1 undef=.int .u64 v:=h0 1 (Nat.le_of_ble_eq_true rfl)
 have hB0:=cutW_below W g
 have hV:=cutW_size hr
 have bt0:=But.refl g W
 refine wp_seq ?_
 refine go_reg [] [] [some (.int .i64 0)] mo d0 z0 hB0 (by kernel_rfl) trivial (
  kq (fun cx=>ex_as rfl rfl) <|
  hn) ?_
 intro a1 w1 f1
 have bt1:=But.step f1 bt0 hB0 trivial
 refine wp_seq ?_
 have b_g_1:=f1.k hr
 have s0_2:=f1.q 0 s0_0
 refine go_reg [bx g 48 (exC s)] [] [some (pt g 0),some (pt g 0),some (pt g 22),some (pt g 29),some (.int .i8 s.x.cc),some (pt g 0),some (pt g 0),some (pt g 0),some (pt g 16),some (.agg (fC s.m.f)),some (.tuple #[.bool (holF s.x.cc s.m.f),.int .i64 (holE s.x.cc s.m.f)]),some (.tuple #[.bool (holF s.x.cc s.m.f),.int .i64 (holE s.x.cc s.m.f)]),oT,some (.int .i64 0),oT,some (.int .i64 0)] mo f1.d f1.z f1.b (by kernel_rfl) ⟨b_g_1,trivial⟩ (
  kq (fun cx=>ex_mv rfl (cx.rq 0 s0_2)) <|
  kq (fun cx=>ex_nc rfl cx.u0) <|
  kq (fun cx=>ex_fa rfl cx.u0 (faExD75_1_0 _ _)) <|
  kq (fun cx=>ex_fa rfl cx.u0 (faExD26_7_22 _ _)) <|
  kq (fun cx=>ex_ld rfl (cx.u 0 rfl) (cx.rn 0 rfl) rfl Tryz.isAgg28) <|
  kq (fun cx=>ex_mv rfl (cx.rq 0 s0_2)) <|
  kq (fun cx=>ex_nc rfl cx.u0) <|
  kq (fun cx=>ex_fa rfl cx.u0 (faExD75_0_0 _ _)) <|
  kq (fun cx=>ex_fa rfl cx.u0 (faExD36_1_0 _ _)) <|
  kq (fun cx=>ldExF rfl (cx.u 0 rfl) (cx.rn 0 rfl)) <|
  hc (fun _ _ wx cx=>cx.c rfl (args2 cx.u0 cx.u1) Tryz.func88 (by decide +kernel) (Flg.holds_n s.x.cc s.m.f wx hcc) rfl rfl) <|
  kmu 0 <|
  hk (fun cx=>cx.v (ex_ext (x:=.tmp 7) rfl cx.u0 rfl) rfl (congrArg Value.bool hh)) <|
  hk (fun cx=>cx.v (ex_ext (x:=.tmp 7) rfl cx.u0 rfl) rfl (congrArg (Value.int .i64) hE)) <|
  kmu 0 <|
  kmu 0 <|
  hn) ?_
 intro a2 w2 f2
 have bt2:=But.step f2 bt1 f1.b ⟨.inl rfl,trivial⟩
 refine wp_seq ?_
 refine wp_seq ?_
 refine go_reg [] [] [some (.int .i64 0),oF] mo f2.d f2.z f2.b (by kernel_rfl) trivial (
  kq (fun cx=>ex_mv rfl (cx.rq 6 (f2.vv 15))) <|
  hk (fun cx=>cx.v (ex_ne (x:=.tmp 21) rfl cx.u0 rfl) rfl (congrArg Value.bool (by decide))) <|
  hn) ?_
 intro a3 w3 f3
 have bt3:=But.step f3 bt2 f2.b trivial
 refine wp_cond_false (f3.vv 1) ?_
 refine wp_skip ?_
 refine wp_seq ?_
 refine wp_seq ?_
 have s5_3:=f3.q 5 (f2.vv 14)
 refine go_reg [] [] [oT] mo f3.d f3.z f3.b (by kernel_rfl) trivial (
  kq (fun cx=>ex_mv rfl (cx.rq 5 s5_3)) <|
  hn) ?_
 intro a4 w4 f4
 have bt4:=But.step f4 bt3 f3.b trivial
 refine wp_cond_true (f4.vv 0) ?_
 refine wp_seq ?_
 have b_g_4:=f4.k (f3.k (f2.k b_g_1))
 have s0_5:=f4.q 0 (f3.q 0 (f2.q 0 s0_2))
 have s1_6:=f4.q 1 (f3.q 1 (f2.q 1 (f1.q 1 s1_0)))
 refine go_reg [⟨g,48,(exC s),some 2,(exC (s.upR s.x.dst.toNat (cutI v s.x.w)))⟩] [] [some (pt g 0),some (.int .u64 v),some (.int .i64 0),some (.int .i64 0)] mo f4.d f4.z f4.b (by kernel_rfl) ⟨b_g_4,trivial⟩ (
  kq (fun cx=>ex_mv rfl (cx.rq 0 s0_5)) <|
  kq (fun cx=>ex_mv rfl (cx.rq 1 s1_6)) <|
  hc (fun _ _ wx cx=>callT cx (wn rfl) rfl (args2 (cx.u 0 rfl) (cx.u 1 rfl)) Tryz.func38 (by decide +kernel) (move_m s g v wx (cx.ri 0 rfl) hd) rfl rfl 0 rfl hV rfl trivial rfl) <|
  kmu 0 <|
  hn) ?_
 intro a5 w5 f5
 have bt5:=But.step f5 bt4 f4.b ⟨.inr rfl,trivial⟩
 refine wp_ret ?_
 try simp only [Exit.inBlock,Exit.then]
 refine bodyPost_ret (res_t (fn:=Tryz.f52) rfl (f5.vv 3)) f5.d ?_
 exact ⟨rfl,bt5,f5.rows.1⟩
theorem moveIf_no (s:Ex)(g:Nat)(v:Int)(W:World)(hr:W.heap[g]?=some (.cells (exC s) 48 (0,0)))(hd:0≤s.x.dst∧s.x.dst<16)(eK:s.m.f.k=true)(hcy:mayC s.x.cc=true)(hh:holF s.x.cc s.m.f=false):Calls Tryz.prog 52 #[.pointer (some ⟨g,0,none⟩),.int .u64 v] W (RetT (.int .i64 0) (exC ((s.upR s.x.dst.toNat (cutI (s.m.r s.x.dst.toNat) s.x.w)))) 48 g W):=by
 have hE:holE s.x.cc s.m.f=0:=(if_pos hcy).trans (if_pos eK)
 have hcc:s.x.cc≤127:=may127 hcy
 refine calls_abs Tryz.func52 rfl (Nat.le_of_ble_eq_true rfl) ?_
 intro a0 d0 z0 h0
 replace z0:a0.tmps.size=32:=z0
 have s0_0:a0.tmps.getD 0 undef=.pointer (some ⟨g,0,none⟩):=h0 0 (Nat.le_of_ble_eq_true rfl)
 have s1_0:a0.tmps.getD 1 undef=.int .u64 v:=h0 1 (Nat.le_of_ble_eq_true rfl)
 have hB0:=cutW_below W g
 have hV:=cutW_size hr
 have bt0:=But.refl g W
 refine wp_seq ?_
 refine go_reg [] [] [some (.int .i64 0)] mo d0 z0 hB0 (by kernel_rfl) trivial (
  kq (fun cx=>ex_as rfl rfl) <|
  hn) ?_
 intro a1 w1 f1
 have bt1:=But.step f1 bt0 hB0 trivial
 refine wp_seq ?_
 have b_g_1:=f1.k hr
 have s0_2:=f1.q 0 s0_0
 refine go_reg [bx g 48 (exC s)] [] [some (pt g 0),some (pt g 0),some (pt g 22),some (pt g 29),some (.int .i8 s.x.cc),some (pt g 0),some (pt g 0),some (pt g 0),some (pt g 16),some (.agg (fC s.m.f)),some (.tuple #[.bool (holF s.x.cc s.m.f),.int .i64 (holE s.x.cc s.m.f)]),some (.tuple #[.bool (holF s.x.cc s.m.f),.int .i64 (holE s.x.cc s.m.f)]),oF,some (.int .i64 0),oF,some (.int .i64 0)] mo f1.d f1.z f1.b (by kernel_rfl) ⟨b_g_1,trivial⟩ (
  kq (fun cx=>ex_mv rfl (cx.rq 0 s0_2)) <|
  kq (fun cx=>ex_nc rfl cx.u0) <|
  kq (fun cx=>ex_fa rfl cx.u0 (faExD75_1_0 _ _)) <|
  kq (fun cx=>ex_fa rfl cx.u0 (faExD26_7_22 _ _)) <|
  kq (fun cx=>ex_ld rfl (cx.u 0 rfl) (cx.rn 0 rfl) rfl Tryz.isAgg28) <|
  kq (fun cx=>ex_mv rfl (cx.rq 0 s0_2)) <|
  kq (fun cx=>ex_nc rfl cx.u0) <|
  kq (fun cx=>ex_fa rfl cx.u0 (faExD75_0_0 _ _)) <|
  kq (fun cx=>ex_fa rfl cx.u0 (faExD36_1_0 _ _)) <|
  kq (fun cx=>ldExF rfl (cx.u 0 rfl) (cx.rn 0 rfl)) <|
  hc (fun _ _ wx cx=>cx.c rfl (args2 cx.u0 cx.u1) Tryz.func88 (by decide +kernel) (Flg.holds_n s.x.cc s.m.f wx hcc) rfl rfl) <|
  kmu 0 <|
  hk (fun cx=>cx.v (ex_ext (x:=.tmp 7) rfl cx.u0 rfl) rfl (congrArg Value.bool hh)) <|
  hk (fun cx=>cx.v (ex_ext (x:=.tmp 7) rfl cx.u0 rfl) rfl (congrArg (Value.int .i64) hE)) <|
  kmu 0 <|
  kmu 0 <|
  hn) ?_
 intro a2 w2 f2
 have bt2:=But.step f2 bt1 f1.b ⟨.inl rfl,trivial⟩
 refine wp_seq ?_
 refine wp_seq ?_
 refine go_reg [] [] [some (.int .i64 0),oF] mo f2.d f2.z f2.b (by kernel_rfl) trivial (
  kq (fun cx=>ex_mv rfl (cx.rq 6 (f2.vv 15))) <|
  hk (fun cx=>cx.v (ex_ne (x:=.tmp 21) rfl cx.u0 rfl) rfl (congrArg Value.bool (by decide))) <|
  hn) ?_
 intro a3 w3 f3
 have bt3:=But.step f3 bt2 f2.b trivial
 refine wp_cond_false (f3.vv 1) ?_
 refine wp_skip ?_
 refine wp_seq ?_
 refine wp_seq ?_
 have s5_3:=f3.q 5 (f2.vv 14)
 refine go_reg [] [] [oF] mo f3.d f3.z f3.b (by kernel_rfl) trivial (
  kq (fun cx=>ex_mv rfl (cx.rq 5 s5_3)) <|
  hn) ?_
 intro a4 w4 f4
 have bt4:=But.step f4 bt3 f3.b trivial
 refine wp_cond_false (f4.vv 0) ?_
 refine wp_skip ?_
 refine wp_seq ?_
 have b_g_4:=f4.k (f3.k (f2.k b_g_1))
 have s0_5:=f4.q 0 (f3.q 0 (f2.q 0 s0_2))
 refine go_reg [⟨g,48,(exC s),some 3,(exC (s.upR s.x.dst.toNat (cutI (s.m.r s.x.dst.toNat) s.x.w)))⟩] [] [some (pt g 0),some (pt g 0),some (.int .u64 (s.m.r s.x.dst.toNat)),some (.int .i64 0),some (.int .i64 0)] mo f4.d f4.z f4.b (by kernel_rfl) ⟨b_g_4,trivial⟩ (
  kq (fun cx=>ex_mv rfl (cx.rq 0 s0_5)) <|
  kq (fun cx=>ex_mv rfl (cx.rq 0 s0_5)) <|
  hc (fun _ _ wx cx=>cx.c rfl (args1 cx.u0) Tryz.func82 (by decide +kernel) (dst_n s g wx (cx.rf 0 rfl (by kernel_rfl)) hd) rfl rfl) <|
  hc (fun _ _ wx cx=>callT cx (wn rfl) rfl (args2 (cx.u 0 rfl) (cx.u 1 rfl)) Tryz.func38 (by decide +kernel) (move_m s g (s.m.r s.x.dst.toNat) wx (cx.ri 0 rfl) hd) rfl rfl 0 rfl hV rfl trivial rfl) <|
  kmu 0 <|
  hn) ?_
 intro a5 w5 f5
 have bt5:=But.step f5 bt4 f4.b ⟨.inr rfl,trivial⟩
 refine wp_ret ?_
 try simp only [Exit.inBlock,Exit.then]
 refine bodyPost_ret (res_t (fn:=Tryz.f52) rfl (f5.vv 4)) f5.d ?_
 exact ⟨rfl,bt5,f5.rows.1⟩
theorem moveIf_bad (s:Ex)(g:Nat)(v:Int)(W:World)(hr:W.heap[g]?=some (.cells (exC s) 48 (0,0)))(hd:0≤s.x.dst∧s.x.dst<16)(eK:s.m.f.k=false)(hcy:mayC s.x.cc=true):Calls Tryz.prog 52 #[.pointer (some ⟨g,0,none⟩),.int .u64 v] W (RetT (.int .i64 20) (exC (s)) 48 g W):=by
 have hE:holE s.x.cc s.m.f=20:=(if_pos hcy).trans (if_neg (by rw [eK];exact Bool.false_ne_true))
 have hcc:s.x.cc≤127:=may127 hcy
 refine calls_abs Tryz.func52 rfl (Nat.le_of_ble_eq_true rfl) ?_
 intro a0 d0 z0 h0
 replace z0:a0.tmps.size=32:=z0
 have s0_0:a0.tmps.getD 0 undef=.pointer (some ⟨g,0,none⟩):=h0 0 (Nat.le_of_ble_eq_true rfl)
 have s1_0:a0.tmps.getD 1 undef=.int .u64 v:=h0 1 (Nat.le_of_ble_eq_true rfl)
 have hB0:=cutW_below W g
 have hV:=cutW_size hr
 have bt0:=But.refl g W
 refine wp_seq ?_
 refine go_reg [] [] [some (.int .i64 0)] mo d0 z0 hB0 (by kernel_rfl) trivial (
  kq (fun cx=>ex_as rfl rfl) <|
  hn) ?_
 intro a1 w1 f1
 have bt1:=But.step f1 bt0 hB0 trivial
 refine wp_seq ?_
 have b_g_1:=f1.k hr
 have s0_2:=f1.q 0 s0_0
 refine go_reg [bx g 48 (exC s)] [] [some (pt g 0),some (pt g 0),some (pt g 22),some (pt g 29),some (.int .i8 s.x.cc),some (pt g 0),some (pt g 0),some (pt g 0),some (pt g 16),some (.agg (fC s.m.f)),some (.tuple #[.bool (holF s.x.cc s.m.f),.int .i64 (holE s.x.cc s.m.f)]),some (.tuple #[.bool (holF s.x.cc s.m.f),.int .i64 (holE s.x.cc s.m.f)]),some (.bool (holF s.x.cc s.m.f)),some (.int .i64 20),some (.bool (holF s.x.cc s.m.f)),some (.int .i64 20)] mo f1.d f1.z f1.b (by kernel_rfl) ⟨b_g_1,trivial⟩ (
  kq (fun cx=>ex_mv rfl (cx.rq 0 s0_2)) <|
  kq (fun cx=>ex_nc rfl cx.u0) <|
  kq (fun cx=>ex_fa rfl cx.u0 (faExD75_1_0 _ _)) <|
  kq (fun cx=>ex_fa rfl cx.u0 (faExD26_7_22 _ _)) <|
  kq (fun cx=>ex_ld rfl (cx.u 0 rfl) (cx.rn 0 rfl) rfl Tryz.isAgg28) <|
  kq (fun cx=>ex_mv rfl (cx.rq 0 s0_2)) <|
  kq (fun cx=>ex_nc rfl cx.u0) <|
  kq (fun cx=>ex_fa rfl cx.u0 (faExD75_0_0 _ _)) <|
  kq (fun cx=>ex_fa rfl cx.u0 (faExD36_1_0 _ _)) <|
  kq (fun cx=>ldExF rfl (cx.u 0 rfl) (cx.rn 0 rfl)) <|
  hc (fun _ _ wx cx=>cx.c rfl (args2 cx.u0 cx.u1) Tryz.func88 (by decide +kernel) (Flg.holds_n s.x.cc s.m.f wx hcc) rfl rfl) <|
  kmu 0 <|
  kq (fun cx=>ex_ext (x:=.tmp 7) rfl cx.u0 rfl) <|
  hk (fun cx=>cx.v (ex_ext (x:=.tmp 7) rfl cx.u0 rfl) rfl (congrArg (Value.int .i64) hE)) <|
  kmu 0 <|
  kmu 0 <|
  hn) ?_
 intro a2 w2 f2
 have bt2:=But.step f2 bt1 f1.b ⟨.inl rfl,trivial⟩
 refine wp_seq ?_
 refine wp_seq ?_
 refine go_reg [] [] [some (.int .i64 20),oT] mo f2.d f2.z f2.b (by kernel_rfl) trivial (
  kq (fun cx=>ex_mv rfl (cx.rq 6 (f2.vv 15))) <|
  hk (fun cx=>cx.v (ex_ne (x:=.tmp 21) rfl cx.u0 rfl) rfl (congrArg Value.bool (by decide))) <|
  hn) ?_
 intro a3 w3 f3
 have bt3:=But.step f3 bt2 f2.b trivial
 refine wp_cond_true (f3.vv 1) ?_
 refine wp_seq ?_
 have s6_3:=f3.q 6 (f2.vv 15)
 refine go_reg [] [] [some (.int .i64 20),some (.int .i64 20)] mo f3.d f3.z f3.b (by kernel_rfl) trivial (
  kq (fun cx=>ex_mv rfl (cx.rq 6 s6_3)) <|
  kmu 0 <|
  hn) ?_
 intro a4 w4 f4
 have bt4:=But.step f4 bt3 f3.b trivial
 refine wp_ret ?_
 try simp only [Exit.inBlock,Exit.then]
 refine bodyPost_ret (res_t (fn:=Tryz.f52) rfl (f4.vv 1)) f4.d ?_
 exact ⟨rfl,bt4,(f4.k (f3.k (f2.k b_g_1)))⟩
theorem jumpIf_yes (s:Ex)(g:Nat)(v:Int)(W:World)(hr:W.heap[g]?=some (.cells (exC s) 48 (0,0)))(eK:s.m.f.k=true)(hcy:mayC s.x.cc=true)(hh:holF s.x.cc s.m.f=true):Calls Tryz.prog 55 #[.pointer (some ⟨g,0,none⟩),.int .u64 v] W (RetT (.int .i64 0) (exC ((s.upA (IntKind.u64.wrap (s.m.a+v))))) 48 g W):=by
 have hE:holE s.x.cc s.m.f=0:=(if_pos hcy).trans (if_pos eK)
 have hcc:s.x.cc≤127:=may127 hcy
 refine calls_abs Tryz.func55 rfl (Nat.le_of_ble_eq_true rfl) ?_
 intro a0 d0 z0 h0
 replace z0:a0.tmps.size=26:=z0
 have s0_0:a0.tmps.getD 0 undef=.pointer (some ⟨g,0,none⟩):=h0 0 (Nat.le_of_ble_eq_true rfl)
 have s1_0:a0.tmps.getD 1 undef=.int .u64 v:=h0 1 (Nat.le_of_ble_eq_true rfl)
 have hB0:=cutW_below W g
 have hV:=cutW_size hr
 have bt0:=But.refl g W
 refine wp_seq ?_
 refine go_reg [] [] [some (.int .i64 0)] mo d0 z0 hB0 (by kernel_rfl) trivial (
  kq (fun cx=>ex_as rfl rfl) <|
  hn) ?_
 intro a1 w1 f1
 have bt1:=But.step f1 bt0 hB0 trivial
 refine wp_seq ?_
 have b_g_1:=f1.k hr
 have s0_2:=f1.q 0 s0_0
 refine go_reg [bx g 48 (exC s)] [] [some (pt g 0),some (pt g 0),some (pt g 22),some (pt g 29),some (.int .i8 s.x.cc),some (pt g 0),some (pt g 0),some (pt g 0),some (pt g 16),some (.agg (fC s.m.f)),some (.tuple #[.bool (holF s.x.cc s.m.f),.int .i64 (holE s.x.cc s.m.f)]),some (.tuple #[.bool (holF s.x.cc s.m.f),.int .i64 (holE s.x.cc s.m.f)]),oT,some (.int .i64 0),oT,some (.int .i64 0)] mo f1.d f1.z f1.b (by kernel_rfl) ⟨b_g_1,trivial⟩ (
  kq (fun cx=>ex_mv rfl (cx.rq 0 s0_2)) <|
  kq (fun cx=>ex_nc rfl cx.u0) <|
  kq (fun cx=>ex_fa rfl cx.u0 (faExD75_1_0 _ _)) <|
  kq (fun cx=>ex_fa rfl cx.u0 (faExD26_7_22 _ _)) <|
  kq (fun cx=>ex_ld rfl (cx.u 0 rfl) (cx.rn 0 rfl) rfl Tryz.isAgg28) <|
  kq (fun cx=>ex_mv rfl (cx.rq 0 s0_2)) <|
  kq (fun cx=>ex_nc rfl cx.u0) <|
  kq (fun cx=>ex_fa rfl cx.u0 (faExD75_0_0 _ _)) <|
  kq (fun cx=>ex_fa rfl cx.u0 (faExD36_1_0 _ _)) <|
  kq (fun cx=>ldExF rfl (cx.u 0 rfl) (cx.rn 0 rfl)) <|
  hc (fun _ _ wx cx=>cx.c rfl (args2 cx.u0 cx.u1) Tryz.func88 (by decide +kernel) (Flg.holds_n s.x.cc s.m.f wx hcc) rfl rfl) <|
  kmu 0 <|
  hk (fun cx=>cx.v (ex_ext (x:=.tmp 7) rfl cx.u0 rfl) rfl (congrArg Value.bool hh)) <|
  hk (fun cx=>cx.v (ex_ext (x:=.tmp 7) rfl cx.u0 rfl) rfl (congrArg (Value.int .i64) hE)) <|
  kmu 0 <|
  kmu 0 <|
  hn) ?_
 intro a2 w2 f2
 have bt2:=But.step f2 bt1 f1.b ⟨.inl rfl,trivial⟩
 refine wp_seq ?_
 refine wp_seq ?_
 refine go_reg [] [] [oT] mo f2.d f2.z f2.b (by kernel_rfl) trivial (
  kq (fun cx=>ex_mv rfl (cx.rq 5 (f2.vv 14))) <|
  hn) ?_
 intro a3 w3 f3
 have bt3:=But.step f3 bt2 f2.b trivial
 refine wp_cond_true (f3.vv 0) ?_
 refine wp_seq ?_
 have b_g_3:=f3.k (f2.k b_g_1)
 have s0_4:=f3.q 0 (f2.q 0 s0_2)
 have s1_5:=f3.q 1 (f2.q 1 (f1.q 1 s1_0))
 refine go_reg [⟨g,48,(exC s),some 2,(exC (s.upA (IntKind.u64.wrap (s.m.a+v))))⟩] [] [some (pt g 0),some (.int .u64 v),some (.int .i64 0),some (.int .i64 0)] mo f3.d f3.z f3.b (by kernel_rfl) ⟨b_g_3,trivial⟩ (
  kq (fun cx=>ex_mv rfl (cx.rq 0 s0_4)) <|
  kq (fun cx=>ex_mv rfl (cx.rq 1 s1_5)) <|
  hc (fun _ _ wx cx=>callT cx (wn rfl) rfl (args2 (cx.u 0 rfl) (cx.u 1 rfl)) Tryz.func54 (by decide +kernel) (jump_m s g v wx (cx.ri 0 rfl) ) rfl rfl 0 rfl hV rfl trivial rfl) <|
  kmu 0 <|
  hn) ?_
 intro a4 w4 f4
 have bt4:=But.step f4 bt3 f3.b ⟨.inr rfl,trivial⟩
 refine wp_ret ?_
 try simp only [Exit.inBlock,Exit.then]
 refine bodyPost_ret (res_t (fn:=Tryz.f55) rfl (f4.vv 3)) f4.d ?_
 exact ⟨rfl,bt4,f4.rows.1⟩
theorem jumpIf_no (s:Ex)(g:Nat)(v:Int)(W:World)(hr:W.heap[g]?=some (.cells (exC s) 48 (0,0)))(eK:s.m.f.k=true)(hcy:mayC s.x.cc=true)(hh:holF s.x.cc s.m.f=false):Calls Tryz.prog 55 #[.pointer (some ⟨g,0,none⟩),.int .u64 v] W (RetT (.int .i64 0) (exC (s)) 48 g W):=by
 have hE:holE s.x.cc s.m.f=0:=(if_pos hcy).trans (if_pos eK)
 have hcc:s.x.cc≤127:=may127 hcy
 refine calls_abs Tryz.func55 rfl (Nat.le_of_ble_eq_true rfl) ?_
 intro a0 d0 z0 h0
 replace z0:a0.tmps.size=26:=z0
 have s0_0:a0.tmps.getD 0 undef=.pointer (some ⟨g,0,none⟩):=h0 0 (Nat.le_of_ble_eq_true rfl)
 have s1_0:a0.tmps.getD 1 undef=.int .u64 v:=h0 1 (Nat.le_of_ble_eq_true rfl)
 have hB0:=cutW_below W g
 have hV:=cutW_size hr
 have bt0:=But.refl g W
 refine wp_seq ?_
 refine go_reg [] [] [some (.int .i64 0)] mo d0 z0 hB0 (by kernel_rfl) trivial (
  kq (fun cx=>ex_as rfl rfl) <|
  hn) ?_
 intro a1 w1 f1
 have bt1:=But.step f1 bt0 hB0 trivial
 refine wp_seq ?_
 have b_g_1:=f1.k hr
 have s0_2:=f1.q 0 s0_0
 refine go_reg [bx g 48 (exC s)] [] [some (pt g 0),some (pt g 0),some (pt g 22),some (pt g 29),some (.int .i8 s.x.cc),some (pt g 0),some (pt g 0),some (pt g 0),some (pt g 16),some (.agg (fC s.m.f)),some (.tuple #[.bool (holF s.x.cc s.m.f),.int .i64 (holE s.x.cc s.m.f)]),some (.tuple #[.bool (holF s.x.cc s.m.f),.int .i64 (holE s.x.cc s.m.f)]),oF,some (.int .i64 0),oF,some (.int .i64 0)] mo f1.d f1.z f1.b (by kernel_rfl) ⟨b_g_1,trivial⟩ (
  kq (fun cx=>ex_mv rfl (cx.rq 0 s0_2)) <|
  kq (fun cx=>ex_nc rfl cx.u0) <|
  kq (fun cx=>ex_fa rfl cx.u0 (faExD75_1_0 _ _)) <|
  kq (fun cx=>ex_fa rfl cx.u0 (faExD26_7_22 _ _)) <|
  kq (fun cx=>ex_ld rfl (cx.u 0 rfl) (cx.rn 0 rfl) rfl Tryz.isAgg28) <|
  kq (fun cx=>ex_mv rfl (cx.rq 0 s0_2)) <|
  kq (fun cx=>ex_nc rfl cx.u0) <|
  kq (fun cx=>ex_fa rfl cx.u0 (faExD75_0_0 _ _)) <|
  kq (fun cx=>ex_fa rfl cx.u0 (faExD36_1_0 _ _)) <|
  kq (fun cx=>ldExF rfl (cx.u 0 rfl) (cx.rn 0 rfl)) <|
  hc (fun _ _ wx cx=>cx.c rfl (args2 cx.u0 cx.u1) Tryz.func88 (by decide +kernel) (Flg.holds_n s.x.cc s.m.f wx hcc) rfl rfl) <|
  kmu 0 <|
  hk (fun cx=>cx.v (ex_ext (x:=.tmp 7) rfl cx.u0 rfl) rfl (congrArg Value.bool hh)) <|
  hk (fun cx=>cx.v (ex_ext (x:=.tmp 7) rfl cx.u0 rfl) rfl (congrArg (Value.int .i64) hE)) <|
  kmu 0 <|
  kmu 0 <|
  hn) ?_
 intro a2 w2 f2
 have bt2:=But.step f2 bt1 f1.b ⟨.inl rfl,trivial⟩
 refine wp_seq ?_
 refine wp_seq ?_
 refine go_reg [] [] [oF] mo f2.d f2.z f2.b (by kernel_rfl) trivial (
  kq (fun cx=>ex_mv rfl (cx.rq 5 (f2.vv 14))) <|
  hn) ?_
 intro a3 w3 f3
 have bt3:=But.step f3 bt2 f2.b trivial
 refine wp_cond_false (f3.vv 0) ?_
 refine wp_skip ?_
 refine wp_seq ?_
 have s6_3:=f3.q 6 (f2.vv 15)
 refine go_reg [] [] [some (.int .i64 0),some (.int .i64 0)] mo f3.d f3.z f3.b (by kernel_rfl) trivial (
  kq (fun cx=>ex_mv rfl (cx.rq 6 s6_3)) <|
  kmu 0 <|
  hn) ?_
 intro a4 w4 f4
 have bt4:=But.step f4 bt3 f3.b trivial
 refine wp_ret ?_
 try simp only [Exit.inBlock,Exit.then]
 refine bodyPost_ret (res_t (fn:=Tryz.f55) rfl (f4.vv 1)) f4.d ?_
 exact ⟨rfl,bt4,(f4.k (f3.k (f2.k b_g_1)))⟩
theorem jumpIf_bad (s:Ex)(g:Nat)(v:Int)(W:World)(hr:W.heap[g]?=some (.cells (exC s) 48 (0,0)))(eK:s.m.f.k=false)(hcy:mayC s.x.cc=true):Calls Tryz.prog 55 #[.pointer (some ⟨g,0,none⟩),.int .u64 v] W (RetT (.int .i64 20) (exC (s)) 48 g W):=by
 have hE:holE s.x.cc s.m.f=20:=(if_pos hcy).trans (if_neg (by rw [eK];exact Bool.false_ne_true))
 have hcc:s.x.cc≤127:=may127 hcy
 have hh:holF s.x.cc s.m.f=false:=if_neg (by rw [eK];simp)
 refine calls_abs Tryz.func55 rfl (Nat.le_of_ble_eq_true rfl) ?_
 intro a0 d0 z0 h0
 replace z0:a0.tmps.size=26:=z0
 have s0_0:a0.tmps.getD 0 undef=.pointer (some ⟨g,0,none⟩):=h0 0 (Nat.le_of_ble_eq_true rfl)
 have s1_0:a0.tmps.getD 1 undef=.int .u64 v:=h0 1 (Nat.le_of_ble_eq_true rfl)
 have hB0:=cutW_below W g
 have hV:=cutW_size hr
 have bt0:=But.refl g W
 refine wp_seq ?_
 refine go_reg [] [] [some (.int .i64 0)] mo d0 z0 hB0 (by kernel_rfl) trivial (
  kq (fun cx=>ex_as rfl rfl) <|
  hn) ?_
 intro a1 w1 f1
 have bt1:=But.step f1 bt0 hB0 trivial
 refine wp_seq ?_
 have b_g_1:=f1.k hr
 have s0_2:=f1.q 0 s0_0
 refine go_reg [bx g 48 (exC s)] [] [some (pt g 0),some (pt g 0),some (pt g 22),some (pt g 29),some (.int .i8 s.x.cc),some (pt g 0),some (pt g 0),some (pt g 0),some (pt g 16),some (.agg (fC s.m.f)),some (.tuple #[.bool (holF s.x.cc s.m.f),.int .i64 (holE s.x.cc s.m.f)]),some (.tuple #[.bool (holF s.x.cc s.m.f),.int .i64 (holE s.x.cc s.m.f)]),oF,some (.int .i64 20),oF,some (.int .i64 20)] mo f1.d f1.z f1.b (by kernel_rfl) ⟨b_g_1,trivial⟩ (
  kq (fun cx=>ex_mv rfl (cx.rq 0 s0_2)) <|
  kq (fun cx=>ex_nc rfl cx.u0) <|
  kq (fun cx=>ex_fa rfl cx.u0 (faExD75_1_0 _ _)) <|
  kq (fun cx=>ex_fa rfl cx.u0 (faExD26_7_22 _ _)) <|
  kq (fun cx=>ex_ld rfl (cx.u 0 rfl) (cx.rn 0 rfl) rfl Tryz.isAgg28) <|
  kq (fun cx=>ex_mv rfl (cx.rq 0 s0_2)) <|
  kq (fun cx=>ex_nc rfl cx.u0) <|
  kq (fun cx=>ex_fa rfl cx.u0 (faExD75_0_0 _ _)) <|
  kq (fun cx=>ex_fa rfl cx.u0 (faExD36_1_0 _ _)) <|
  kq (fun cx=>ldExF rfl (cx.u 0 rfl) (cx.rn 0 rfl)) <|
  hc (fun _ _ wx cx=>cx.c rfl (args2 cx.u0 cx.u1) Tryz.func88 (by decide +kernel) (Flg.holds_n s.x.cc s.m.f wx hcc) rfl rfl) <|
  kmu 0 <|
  hk (fun cx=>cx.v (ex_ext (x:=.tmp 7) rfl cx.u0 rfl) rfl (congrArg Value.bool hh)) <|
  hk (fun cx=>cx.v (ex_ext (x:=.tmp 7) rfl cx.u0 rfl) rfl (congrArg (Value.int .i64) hE)) <|
  kmu 0 <|
  kmu 0 <|
  hn) ?_
 intro a2 w2 f2
 have bt2:=But.step f2 bt1 f1.b ⟨.inl rfl,trivial⟩
 refine wp_seq ?_
 refine wp_seq ?_
 refine go_reg [] [] [oF] mo f2.d f2.z f2.b (by kernel_rfl) trivial (
  kq (fun cx=>ex_mv rfl (cx.rq 5 (f2.vv 14))) <|
  hn) ?_
 intro a3 w3 f3
 have bt3:=But.step f3 bt2 f2.b trivial
 refine wp_cond_false (f3.vv 0) ?_
 refine wp_skip ?_
 refine wp_seq ?_
 have s6_3:=f3.q 6 (f2.vv 15)
 refine go_reg [] [] [some (.int .i64 20),some (.int .i64 20)] mo f3.d f3.z f3.b (by kernel_rfl) trivial (
  kq (fun cx=>ex_mv rfl (cx.rq 6 s6_3)) <|
  kmu 0 <|
  hn) ?_
 intro a4 w4 f4
 have bt4:=But.step f4 bt3 f3.b trivial
 refine wp_ret ?_
 try simp only [Exit.inBlock,Exit.then]
 refine bodyPost_ret (res_t (fn:=Tryz.f55) rfl (f4.vv 1)) f4.d ?_
 exact ⟨rfl,bt4,(f4.k (f3.k (f2.k b_g_1)))⟩
end Go.Proofs.YtjhedldplmhmjaaGreatDoor.Exe
