import Derived.Test.YtjhedldplmhmjaaGreatDoorETe24
import Derived.Test.YtjhedldplmhmjaaGreatDoorETe22
set_option maxHeartbeats 4000000
set_option linter.unusedVariables false
set_option linter.unusedSimpArgs false
set_option linter.unnecessarySimpa false
namespace Go.Proofs.YtjhedldplmhmjaaGreatDoor.Flg
open Go Go.RowKit
set_option maxRecDepth 100000
theorem hol_no (cc:Int)(f:Fl)(W:World)(h:mayC cc=false)(h1:cc≤127):Calls Tryz.prog 88 #[.int .i8 cc,.agg (fC f)] W fun e w'=>e=.returned (.tuple #[.bool false,.int .i64 2])∧Below W.heap.size W w':=by
 refine calls_abs Tryz.func88 rfl (Nat.le_of_ble_eq_true rfl) ?_
 intro a0 d0 z0 h0
 replace z0:a0.tmps.size=25:=z0
 have s0_0:a0.tmps.getD 0 undef=.int .i8 cc:=h0 0 (Nat.le_of_ble_eq_true rfl)
 have s1_0:a0.tmps.getD 1 undef=.agg (fC f):=h0 1 (Nat.le_of_ble_eq_true rfl)
 refine wp_seq ?_
 refine go_reg [] [⟨0,3,25,(fC f),none,#[]⟩] [none,oF,some (.int .i64 0)] mo d0 z0 (Below.refl _ _) (by kernel_rfl) trivial (
  hk (fun cx=>cx.al (wn rfl) 0 rfl (ex_box rfl (cx.rq 1 s1_0) rfl) rfl rfl rfl rfl rfl trivial) <|
  kq (fun cx=>ex_as rfl rfl) <|
  kq (fun cx=>ex_as rfl rfl) <|
  hn) ?_
 intro a1 w1 f1
 obtain ⟨g1,u_g1,q_g1,b_g1⟩:=f1.al.1
 refine wp_seq ?_
 have s0_1:=f1.q 0 s0_0
 refine go_reg [] [] [some (.int .i8 cc),some (.nilFunc),some (.nilFunc)] mo f1.d f1.z f1.b (by kernel_rfl) trivial (
  kq (fun cx=>ex_mv rfl (cx.rq 0 s0_1)) <|
  hc (fun _ _ wx cx=>cx.c rfl (args1 cx.u0) Tryz.func110 (by decide +kernel) (cond_none cc h h1 wx) rfl rfl) <|
  kmu 0 <|
  hn) ?_
 intro a2 w2 f2
 refine wp_seq ?_
 refine wp_seq ?_
 refine go_reg [] [] [some (.nilFunc),oT] mo f2.d f2.z f2.b (by kernel_rfl) trivial (
  kq (fun cx=>ex_mv rfl (cx.rq 6 (f2.vv 2))) <|
  kq (fun cx=>ex_fz (x:=.tmp 9) rfl cx.u0 rfl) <|
  hn) ?_
 intro a3 w3 f3
 refine wp_cond_true (f3.vv 1) ?_
 refine wp_seq ?_
 refine go_reg [] [] [oF,some (.int .i64 2)] mo f3.d f3.z f3.b (by kernel_rfl) trivial (
  kq (fun cx=>ex_as rfl rfl) <|
  kq (fun cx=>ex_as rfl rfl) <|
  hn) ?_
 intro a4 w4 f4
 refine wp_ret ?_
 try simp only [Exit.inBlock,Exit.then]
 refine bodyPost_ret (res_tt (fn:=Tryz.f88) rfl (f4.vv 0) (f4.vv 1)) f4.d ?_
 exact ⟨rfl,f4.b⟩
theorem holds_n (cc:Int)(f:Fl)(W:World)(h1:cc≤127):Calls Tryz.prog 88 #[.int .i8 cc,.agg (fC f)] W fun e w'=>e=.returned (.tuple #[.bool (holF cc f),.int .i64 (holE cc f)])∧Below W.heap.size W w':=by
 cases h:mayC cc
 ·rw [show holF cc f=false from if_neg (by simp [h]),show holE cc f=2 from if_neg (by simp [h])]
  exact hol_no cc f W h h1
 ·rcases may_cases h with rfl | rfl | rfl | rfl | rfl | rfl | rfl | rfl | rfl | rfl
  ·exact hol_2 f W
  ·exact hol_3 f W
  ·exact hol_4 f W
  ·exact hol_5 f W
  ·exact hol_6 f W
  ·exact hol_7 f W
  ·exact hol_12 f W
  ·exact hol_13 f W
  ·exact hol_14 f W
  ·exact hol_15 f W
end Go.Proofs.YtjhedldplmhmjaaGreatDoor.Flg
namespace Go.Proofs.YtjhedldplmhmjaaGreatDoor.Exe
open Go Go.RowKit
open Mrm (Xi xC zX mayX bytesX)
open Flg (Fl fC zF addF subF ofF holF holE mayC)
set_option maxRecDepth 100000
theorem faExB75_1_0 (g:Nat)(w:World):(Instr.fieldAt 48 (.pointer (some ⟨g,0,none⟩)) 1).run Tryz.prog w=.ok (.pointer (some ⟨g,22,none⟩)) w:=by simp [go_sem]
theorem faExB26_2_22 (g:Nat)(w:World):(Instr.fieldAt 30 (.pointer (some ⟨g,22,none⟩)) 2).run Tryz.prog w=.ok (.pointer (some ⟨g,24,none⟩)) w:=by simp [go_sem]
theorem faExB75_0_0 (g:Nat)(w:World):(Instr.fieldAt 48 (.pointer (some ⟨g,0,none⟩)) 0).run Tryz.prog w=.ok (.pointer (some ⟨g,0,none⟩)) w:=by simp [go_sem]
theorem faExB36_0_0 (g:Nat)(w:World):(Instr.fieldAt 27 (.pointer (some ⟨g,0,none⟩)) 0).run Tryz.prog w=.ok (.pointer (some ⟨g,0,none⟩)) w:=by simp [go_sem]
theorem faExB26_1_22 (g:Nat)(w:World):(Instr.fieldAt 30 (.pointer (some ⟨g,22,none⟩)) 1).run Tryz.prog w=.ok (.pointer (some ⟨g,23,none⟩)) w:=by simp [go_sem]
theorem faExB36_1_0 (g:Nat)(w:World):(Instr.fieldAt 27 (.pointer (some ⟨g,0,none⟩)) 1).run Tryz.prog w=.ok (.pointer (some ⟨g,16,none⟩)) w:=by simp [go_sem]
theorem faExB36_2_0 (g:Nat)(w:World):(Instr.fieldAt 27 (.pointer (some ⟨g,0,none⟩)) 2).run Tryz.prog w=.ok (.pointer (some ⟨g,21,none⟩)) w:=by simp [go_sem]
theorem dst_n (s:Ex)(g:Nat)  (W:World) (hr:W.heap[g]?=some (.cells (exC s) 48 (0,0))) (hd:0≤s.x.dst∧s.x.dst<16):Calls Tryz.prog 82 #[.pointer (some ⟨g,0,none⟩)] W fun e w'=>e=.returned (.int .u64 (s.m.r s.x.dst.toNat))∧Below W.heap.size W w':=by
 refine calls_abs Tryz.func82 rfl (Nat.le_of_ble_eq_true rfl) ?_
 intro a0 d0 z0 h0
 replace z0:a0.tmps.size=14:=z0
 have s0_0:a0.tmps.getD 0 undef=.pointer (some ⟨g,0,none⟩):=h0 0 (Nat.le_of_ble_eq_true rfl)
 refine wp_seq ?_
 refine go_reg [] [] [some (.int .u64 0)] mo d0 z0 (Below.refl _ _) (by kernel_rfl) trivial (
  kq (fun cx=>ex_as rfl rfl) <|
  hn) ?_
 intro a1 w1 f1
 refine wp_seq ?_
 have b_g_1:=f1.k hr
 have s0_2:=f1.q 0 s0_0
 refine go_reg [bx g 48 (exC s)] [] [some (pt g 0),some (pt g 0),some (pt g 0),some (pt g 22),some (pt g 24),some (.int .i8 s.x.dst),some (pt g 0),some (pt g 0),some (pt g 0),some (pt g (s.x.dst.toNat)),some (.int .u64 (s.m.r s.x.dst.toNat)),some (.int .u64 (s.m.r s.x.dst.toNat))] mo f1.d f1.z f1.b (by kernel_rfl) ⟨b_g_1,trivial⟩ (
  kq (fun cx=>ex_mv rfl (cx.rq 0 s0_2)) <|
  kq (fun cx=>ex_mv rfl (cx.rq 0 s0_2)) <|
  kq (fun cx=>ex_nc rfl cx.u0) <|
  kq (fun cx=>ex_fa rfl cx.u0 (faExB75_1_0 _ _)) <|
  kq (fun cx=>ex_fa rfl cx.u0 (faExB26_2_22 _ _)) <|
  kq (fun cx=>ex_ld rfl (cx.u 0 rfl) (cx.rn 0 rfl) rfl Tryz.isAgg28) <|
  kq (fun cx=>ex_nc rfl cx.u0) <|
  kq (fun cx=>ex_fa rfl cx.u0 (faExB75_0_0 _ _)) <|
  kq (fun cx=>ex_fa rfl cx.u0 (faExB36_0_0 _ _)) <|
  hk (fun cx=>cx.v (ex_ia (n:=16) (sz:=1) rfl (cx.u 0 rfl) (cx.u 1 rfl) Tryz.underlying23 (by kernel_rfl) (by omega) (by omega) (by omega)) rfl rfl) <|
  hk (fun cx=>cx.v (ldExR (by omega) rfl (cx.u 0 rfl) (cx.rn 0 rfl)) rfl rfl) <|
  kmu 0 <|
  hn) ?_
 intro a2 w2 f2
 refine wp_ret ?_
 try simp only [Exit.inBlock,Exit.then]
 refine bodyPost_ret (res_t (fn:=Tryz.f82) rfl (f2.vv 11)) f2.d ?_
 exact ⟨rfl,f2.b⟩
theorem move_m (s:Ex)(g:Nat)(v:Int)(W:World)(hr:W.heap[g]?=some (.cells (exC s) 48 (0,0)))(hd:0≤s.x.dst∧s.x.dst<16):Calls Tryz.prog 38 #[.pointer (some ⟨g,0,none⟩),.int .u64 v] W (RetT (.int .i64 0) (exC (s.upR s.x.dst.toNat (cutI v s.x.w))) 48 g W):=by
 refine calls_abs Tryz.func38 rfl (Nat.le_of_ble_eq_true rfl) ?_
 intro a0 d0 z0 h0
 replace z0:a0.tmps.size=22:=z0
 have s0_0:a0.tmps.getD 0 undef=.pointer (some ⟨g,0,none⟩):=h0 0 (Nat.le_of_ble_eq_true rfl)
 have s1_0:a0.tmps.getD 1 undef=.int .u64 v:=h0 1 (Nat.le_of_ble_eq_true rfl)
 have hB0:=cutW_below W g
 have hV:=cutW_size hr
 have bt0:=But.refl g W
 refine wp_seq ?_
 refine go_reg [] [] [some (.int .i64 0)] mo d0 z0 hB0 (by kernel_rfl) trivial (
  kq (fun cx=>ex_as rfl rfl) <|
  hn) ?_
 intro a1 w1 f1
 have bt1:=But.step f1 bt0 hB0 trivial
 refine wp_seq ?_
 have b_g_1:=f1.k hr
 have s0_2:=f1.q 0 s0_0
 have s1_3:=f1.q 1 s1_0
 refine go_reg [⟨g,48,(exC s),some 17,(exC (s.upR s.x.dst.toNat (cutI v s.x.w)))⟩] [] [some (pt g 0),some (pt g 0),some (pt g 0),some (pt g 22),some (pt g 24),some (.int .i8 s.x.dst),some (.int .u64 v),some (pt g 0),some (pt g 0),some (pt g 22),some (pt g 23),some (.int .i8 s.x.w),some (.int .u64 (cutI v s.x.w)),some (pt g 0),some (pt g 0),some (pt g 0),some (pt g (s.x.dst.toNat)),none] mo f1.d f1.z f1.b (by kernel_rfl) ⟨b_g_1,trivial⟩ (
  kq (fun cx=>ex_mv rfl (cx.rq 0 s0_2)) <|
  kq (fun cx=>ex_mv rfl (cx.rq 0 s0_2)) <|
  kq (fun cx=>ex_nc rfl cx.u0) <|
  kq (fun cx=>ex_fa rfl cx.u0 (faExB75_1_0 _ _)) <|
  kq (fun cx=>ex_fa rfl cx.u0 (faExB26_2_22 _ _)) <|
  kq (fun cx=>ex_ld rfl (cx.u 0 rfl) (cx.rf 0 rfl (by kernel_rfl)) rfl Tryz.isAgg28) <|
  kq (fun cx=>ex_mv rfl (cx.rq 1 s1_3)) <|
  kq (fun cx=>ex_mv rfl (cx.rq 0 s0_2)) <|
  kq (fun cx=>ex_nc rfl cx.u0) <|
  kq (fun cx=>ex_fa rfl cx.u0 (faExB75_1_0 _ _)) <|
  kq (fun cx=>ex_fa rfl cx.u0 (faExB26_1_22 _ _)) <|
  kq (fun cx=>ex_ld rfl (cx.u 0 rfl) (cx.rf 0 rfl (by kernel_rfl)) rfl Tryz.isAgg28) <|
  hc (fun _ _ wx cx=>cx.c rfl (args2 cx.u0 cx.u1) Tryz.func34 (by decide +kernel) (((cut_any v s.x.w wx).mono (by rintro e w' ⟨rfl,rfl⟩;exact ⟨rfl,Below.refl _ _⟩))) rfl rfl) <|
  kq (fun cx=>ex_nc rfl cx.u0) <|
  kq (fun cx=>ex_fa rfl cx.u0 (faExB75_0_0 _ _)) <|
  kq (fun cx=>ex_fa rfl cx.u0 (faExB36_0_0 _ _)) <|
  hk (fun cx=>cx.v (ex_ia (n:=16) (sz:=1) rfl (cx.u 0 rfl) (cx.u 1 rfl) Tryz.underlying23 (by kernel_rfl) (by omega) (by omega) (by omega)) rfl rfl) <|
  hk (fun cx=>cx.stC (wn rfl) rfl rfl 0 rfl (cx.u 0 rfl) (cx.u 1 rfl) rfl rfl (by kernel_rfl) (by rw [exC_size];simp only [Nat.blt_eq];omega) (exC_set _ (by omega) _) hV rfl trivial trivial) <|
  hn) ?_
 intro a2 w2 f2
 have bt2:=But.step f2 bt1 f1.b ⟨.inr rfl,trivial⟩
 refine wp_seq ?_
 refine go_reg [] [] [some (.int .i64 0)] mo f2.d f2.z f2.b (by kernel_rfl) trivial (
  kq (fun cx=>ex_as rfl rfl) <|
  hn) ?_
 intro a3 w3 f3
 have bt3:=But.step f3 bt2 f2.b trivial
 refine wp_ret ?_
 try simp only [Exit.inBlock,Exit.then]
 refine bodyPost_ret (res_t (fn:=Tryz.f38) rfl (f3.vv 0)) f3.d ?_
 exact ⟨rfl,bt3,(f3.k f2.rows.1)⟩
theorem compute_m (s:Ex)(g:Nat)(op v:Int)(W:World)(hr:W.heap[g]?=some (.cells (exC s) 48 (0,0)))(hM:MOk s.m)(hd:0≤s.x.dst∧s.x.dst<16)(hv:U64 v):Calls Tryz.prog 83 #[.pointer (some ⟨g,0,none⟩),.int .i8 op,.int .u64 v] W (RetT (.int .i64 0) (exC (s.upR s.x.dst.toNat (doI op s.x.w (s.m.r s.x.dst.toNat) v))) 48 g W):=by
 refine calls_abs Tryz.func83 rfl (Nat.le_of_ble_eq_true rfl) ?_
 intro a0 d0 z0 h0
 replace z0:a0.tmps.size=30:=z0
 have s0_0:a0.tmps.getD 0 undef=.pointer (some ⟨g,0,none⟩):=h0 0 (Nat.le_of_ble_eq_true rfl)
 have s1_0:a0.tmps.getD 1 undef=.int .i8 op:=h0 1 (Nat.le_of_ble_eq_true rfl)
 have s2_0:a0.tmps.getD 2 undef=.int .u64 v:=h0 2 (Nat.le_of_ble_eq_true rfl)
 have hB0:=cutW_below W g
 have hV:=cutW_size hr
 have bt0:=But.refl g W
 refine wp_seq ?_
 refine go_reg [] [] [some (.int .i64 0)] mo d0 z0 hB0 (by kernel_rfl) trivial (
  kq (fun cx=>ex_as rfl rfl) <|
  hn) ?_
 intro a1 w1 f1
 have bt1:=But.step f1 bt0 hB0 trivial
 refine wp_seq ?_
 have b_g_1:=f1.k hr
 have s0_2:=f1.q 0 s0_0
 have s1_3:=f1.q 1 s1_0
 have s2_4:=f1.q 2 s2_0
 refine go_reg [⟨g,48,(exC s),some 23,(exC (s.upR s.x.dst.toNat (doI op s.x.w (s.m.r s.x.dst.toNat) v)))⟩] [] (tabs [some (pt g 0),some (pt g 0),some (pt g 0),some (pt g 22),some (pt g 24),some (.int .i8 s.x.dst),some (.int .i8 op),some (pt g 0),some (pt g 0),some (pt g 22),some (pt g 23),some (.int .i8 s.x.w),some (pt g 0),some (.int .u64 (s.m.r s.x.dst.toNat)),some (.int .u64 v),some (.tuple #[.int .u64 (doI op s.x.w (s.m.r s.x.dst.toNat) v),.int .i64 (doE op s.x.w)]),some (.tuple #[.int .u64 (doI op s.x.w (s.m.r s.x.dst.toNat) v),.int .i64 (doE op s.x.w)]),some (.int .u64 (doI op s.x.w (s.m.r s.x.dst.toNat) v)),some (.int .i64 (doE op s.x.w)),some (pt g 0)] [some (pt g 0),some (pt g 0),some (pt g (s.x.dst.toNat)),none]) mo f1.d f1.z f1.b (by kernel_rfl) ⟨b_g_1,trivial⟩ (
  kq (fun cx=>ex_mv rfl (cx.rq 0 s0_2)) <|
  kq (fun cx=>ex_mv rfl (cx.rq 0 s0_2)) <|
  kq (fun cx=>ex_nc rfl cx.u0) <|
  kq (fun cx=>ex_fa rfl cx.u0 (faExB75_1_0 _ _)) <|
  kq (fun cx=>ex_fa rfl cx.u0 (faExB26_2_22 _ _)) <|
  kq (fun cx=>ex_ld rfl (cx.u 0 rfl) (cx.rf 0 rfl (by kernel_rfl)) rfl Tryz.isAgg28) <|
  kq (fun cx=>ex_mv rfl (cx.rq 1 s1_3)) <|
  kq (fun cx=>ex_mv rfl (cx.rq 0 s0_2)) <|
  kq (fun cx=>ex_nc rfl cx.u0) <|
  kq (fun cx=>ex_fa rfl cx.u0 (faExB75_1_0 _ _)) <|
  kq (fun cx=>ex_fa rfl cx.u0 (faExB26_1_22 _ _)) <|
  kq (fun cx=>ex_ld rfl (cx.u 0 rfl) (cx.rf 0 rfl (by kernel_rfl)) rfl Tryz.isAgg28) <|
  kq (fun cx=>ex_mv rfl (cx.rq 0 s0_2)) <|
  hc (fun _ _ wx cx=>cx.c rfl (args1 cx.u0) Tryz.func82 (by decide +kernel) (dst_n s g wx (cx.rf 0 rfl (by kernel_rfl)) hd) rfl rfl) <|
  kq (fun cx=>ex_mv rfl (cx.rq 2 s2_4)) <|
  hc (fun _ _ wx cx=>cx.c rfl (args4 cx.u0 cx.u1 (cx.u 2 rfl) (cx.u 3 rfl)) Tryz.func87 (by decide +kernel) (do_any op s.x.w (s.m.r s.x.dst.toNat) v wx (hM.r s.x.dst.toNat).1 (hM.r s.x.dst.toNat).2 hv.1 hv.2) rfl rfl) <|
  kmu 0 <|
  kq (fun cx=>ex_ext (x:=.tmp 7) rfl cx.u0 rfl) <|
  kq (fun cx=>ex_ext (x:=.tmp 7) rfl cx.u0 rfl) <|
  kq (fun cx=>ex_nc rfl cx.u0) <|
  kq (fun cx=>ex_fa rfl cx.u0 (faExB75_0_0 _ _)) <|
  kq (fun cx=>ex_fa rfl cx.u0 (faExB36_0_0 _ _)) <|
  hk (fun cx=>cx.v (ex_ia (n:=16) (sz:=1) rfl (cx.u 0 rfl) (cx.u 1 rfl) Tryz.underlying23 (by kernel_rfl) (by omega) (by omega) (by omega)) rfl rfl) <|
  hk (fun cx=>cx.stC (wn rfl) rfl rfl 0 rfl (cx.u 0 rfl) (cx.u 1 rfl) rfl rfl (by kernel_rfl) (by rw [exC_size];simp only [Nat.blt_eq];omega) (exC_set _ (by omega) _) hV rfl trivial trivial) <|
  hn) ?_
 intro a2 w2 f2
 have bt2:=But.step f2 bt1 f1.b ⟨.inr rfl,trivial⟩
 refine wp_seq ?_
 refine go_reg [] [] [some (.int .i64 0)] mo f2.d f2.z f2.b (by kernel_rfl) trivial (
  kq (fun cx=>ex_as rfl rfl) <|
  hn) ?_
 intro a3 w3 f3
 have bt3:=But.step f3 bt2 f2.b trivial
 refine wp_ret ?_
 try simp only [Exit.inBlock,Exit.then]
 refine bodyPost_ret (res_t (fn:=Tryz.f83) rfl (f3.vv 0)) f3.d ?_
 exact ⟨rfl,bt3,(f3.k f2.rows.1)⟩
theorem flagsOf_m (s:Ex)(g:Nat)(v:Int)(W:World)(hr:W.heap[g]?=some (.cells (exC s) 48 (0,0)))(hv:U64 v):Calls Tryz.prog 84 #[.pointer (some ⟨g,0,none⟩),.int .u64 v] W (RetT (.int .i64 0) (exC (s.upF (ofF s.x.w v))) 48 g W):=by
 refine calls_abs Tryz.func84 rfl (Nat.le_of_ble_eq_true rfl) ?_
 intro a0 d0 z0 h0
 replace z0:a0.tmps.size=19:=z0
 have s0_0:a0.tmps.getD 0 undef=.pointer (some ⟨g,0,none⟩):=h0 0 (Nat.le_of_ble_eq_true rfl)
 have s1_0:a0.tmps.getD 1 undef=.int .u64 v:=h0 1 (Nat.le_of_ble_eq_true rfl)
 have hB0:=cutW_below W g
 have hV:=cutW_size hr
 have bt0:=But.refl g W
 refine wp_seq ?_
 refine go_reg [] [] [some (.int .i64 0)] mo d0 z0 hB0 (by kernel_rfl) trivial (
  kq (fun cx=>ex_as rfl rfl) <|
  hn) ?_
 intro a1 w1 f1
 have bt1:=But.step f1 bt0 hB0 trivial
 refine wp_seq ?_
 have b_g_1:=f1.k hr
 have s0_2:=f1.q 0 s0_0
 have s1_3:=f1.q 1 s1_0
 refine go_reg [⟨g,48,(exC s),some 14,(exC (s.upF (ofF s.x.w v)))⟩] [] [some (pt g 0),some (pt g 0),some (pt g 0),some (pt g 22),some (pt g 23),some (.int .i8 s.x.w),some (.int .u64 v),some (.tuple #[.agg (fC (ofF s.x.w v)),.int .i64 (Flg.errW s.x.w)]),some (.tuple #[.agg (fC (ofF s.x.w v)),.int .i64 (Flg.errW s.x.w)]),some (.agg (fC (ofF s.x.w v))),some (.int .i64 (Flg.errW s.x.w)),some (pt g 0),some (pt g 0),some (pt g 16),none] mo f1.d f1.z f1.b (by kernel_rfl) ⟨b_g_1,trivial⟩ (
  kq (fun cx=>ex_mv rfl (cx.rq 0 s0_2)) <|
  kq (fun cx=>ex_mv rfl (cx.rq 0 s0_2)) <|
  kq (fun cx=>ex_nc rfl cx.u0) <|
  kq (fun cx=>ex_fa rfl cx.u0 (faExB75_1_0 _ _)) <|
  kq (fun cx=>ex_fa rfl cx.u0 (faExB26_1_22 _ _)) <|
  kq (fun cx=>ex_ld rfl (cx.u 0 rfl) (cx.rf 0 rfl (by kernel_rfl)) rfl Tryz.isAgg28) <|
  kq (fun cx=>ex_mv rfl (cx.rq 1 s1_3)) <|
  hc (fun _ _ wx cx=>cx.c rfl (args2 cx.u0 cx.u1) Tryz.func107 (by decide +kernel) (Flg.of_n s.x.w v wx hv) rfl rfl) <|
  kmu 0 <|
  kq (fun cx=>ex_ext (x:=.tmp 5) rfl cx.u0 rfl) <|
  kq (fun cx=>ex_ext (x:=.tmp 5) rfl cx.u0 rfl) <|
  kq (fun cx=>ex_nc rfl cx.u0) <|
  kq (fun cx=>ex_fa rfl cx.u0 (faExB75_0_0 _ _)) <|
  kq (fun cx=>ex_fa rfl cx.u0 (faExB36_1_0 _ _)) <|
  hk (fun cx=>cx.stP (wn rfl) rfl rfl 0 rfl (cx.u 0 rfl) (cx.u 1 rfl) (Flg.fC_one _) (by kernel_rfl) (Nat.le_of_ble_eq_true rfl) rfl hV rfl trivial trivial) <|
  hn) ?_
 intro a2 w2 f2
 have bt2:=But.step f2 bt1 f1.b ⟨.inr rfl,trivial⟩
 refine wp_seq ?_
 refine go_reg [] [] [some (.int .i64 0)] mo f2.d f2.z f2.b (by kernel_rfl) trivial (
  kq (fun cx=>ex_as rfl rfl) <|
  hn) ?_
 intro a3 w3 f3
 have bt3:=But.step f3 bt2 f2.b trivial
 refine wp_ret ?_
 try simp only [Exit.inBlock,Exit.then]
 refine bodyPost_ret (res_t (fn:=Tryz.f84) rfl (f3.vv 0)) f3.d ?_
 exact ⟨rfl,bt3,(f3.k f2.rows.1)⟩
theorem compare_m (s:Ex)(g:Nat)(v:Int)(W:World)(hr:W.heap[g]?=some (.cells (exC s) 48 (0,0)))(hM:MOk s.m)(hd:0≤s.x.dst∧s.x.dst<16)(hv:U64 v):Calls Tryz.prog 44 #[.pointer (some ⟨g,0,none⟩),.int .u64 v] W (RetT (.int .i64 0) (exC (s.upF (subF s.x.w (s.m.r s.x.dst.toNat) v))) 48 g W):=by
 refine calls_abs Tryz.func44 rfl (Nat.le_of_ble_eq_true rfl) ?_
 intro a0 d0 z0 h0
 replace z0:a0.tmps.size=21:=z0
 have s0_0:a0.tmps.getD 0 undef=.pointer (some ⟨g,0,none⟩):=h0 0 (Nat.le_of_ble_eq_true rfl)
 have s1_0:a0.tmps.getD 1 undef=.int .u64 v:=h0 1 (Nat.le_of_ble_eq_true rfl)
 have hB0:=cutW_below W g
 have hV:=cutW_size hr
 have bt0:=But.refl g W
 refine wp_seq ?_
 refine go_reg [] [] [some (.int .i64 0)] mo d0 z0 hB0 (by kernel_rfl) trivial (
  kq (fun cx=>ex_as rfl rfl) <|
  hn) ?_
 intro a1 w1 f1
 have bt1:=But.step f1 bt0 hB0 trivial
 refine wp_seq ?_
 have b_g_1:=f1.k hr
 have s0_2:=f1.q 0 s0_0
 have s1_3:=f1.q 1 s1_0
 refine go_reg [⟨g,48,(exC s),some 16,(exC (s.upF (subF s.x.w (s.m.r s.x.dst.toNat) v)))⟩] [] [some (pt g 0),some (pt g 0),some (pt g 0),some (pt g 22),some (pt g 23),some (.int .i8 s.x.w),some (pt g 0),some (.int .u64 (s.m.r s.x.dst.toNat)),some (.int .u64 v),some (.tuple #[.agg (fC (subF s.x.w (s.m.r s.x.dst.toNat) v)),.int .i64 (Flg.errW s.x.w)]),some (.tuple #[.agg (fC (subF s.x.w (s.m.r s.x.dst.toNat) v)),.int .i64 (Flg.errW s.x.w)]),some (.agg (fC (subF s.x.w (s.m.r s.x.dst.toNat) v))),some (.int .i64 (Flg.errW s.x.w)),some (pt g 0),some (pt g 0),some (pt g 16),none] mo f1.d f1.z f1.b (by kernel_rfl) ⟨b_g_1,trivial⟩ (
  kq (fun cx=>ex_mv rfl (cx.rq 0 s0_2)) <|
  kq (fun cx=>ex_mv rfl (cx.rq 0 s0_2)) <|
  kq (fun cx=>ex_nc rfl cx.u0) <|
  kq (fun cx=>ex_fa rfl cx.u0 (faExB75_1_0 _ _)) <|
  kq (fun cx=>ex_fa rfl cx.u0 (faExB26_1_22 _ _)) <|
  kq (fun cx=>ex_ld rfl (cx.u 0 rfl) (cx.rf 0 rfl (by kernel_rfl)) rfl Tryz.isAgg28) <|
  kq (fun cx=>ex_mv rfl (cx.rq 0 s0_2)) <|
  hc (fun _ _ wx cx=>cx.c rfl (args1 cx.u0) Tryz.func82 (by decide +kernel) (dst_n s g wx (cx.rf 0 rfl (by kernel_rfl)) hd) rfl rfl) <|
  kq (fun cx=>ex_mv rfl (cx.rq 1 s1_3)) <|
  hc (fun _ _ wx cx=>cx.c rfl (args3 cx.u0 cx.u1 (cx.u 2 rfl)) Tryz.func85 (by decide +kernel) (Flg.sub_n s.x.w (s.m.r s.x.dst.toNat) v wx (hM.r s.x.dst.toNat) hv) rfl rfl) <|
  kmu 0 <|
  kq (fun cx=>ex_ext (x:=.tmp 5) rfl cx.u0 rfl) <|
  kq (fun cx=>ex_ext (x:=.tmp 5) rfl cx.u0 rfl) <|
  kq (fun cx=>ex_nc rfl cx.u0) <|
  kq (fun cx=>ex_fa rfl cx.u0 (faExB75_0_0 _ _)) <|
  kq (fun cx=>ex_fa rfl cx.u0 (faExB36_1_0 _ _)) <|
  hk (fun cx=>cx.stP (wn rfl) rfl rfl 0 rfl (cx.u 0 rfl) (cx.u 1 rfl) (Flg.fC_one _) (by kernel_rfl) (Nat.le_of_ble_eq_true rfl) rfl hV rfl trivial trivial) <|
  hn) ?_
 intro a2 w2 f2
 have bt2:=But.step f2 bt1 f1.b ⟨.inr rfl,trivial⟩
 refine wp_seq ?_
 refine go_reg [] [] [some (.int .i64 0)] mo f2.d f2.z f2.b (by kernel_rfl) trivial (
  kq (fun cx=>ex_as rfl rfl) <|
  hn) ?_
 intro a3 w3 f3
 have bt3:=But.step f3 bt2 f2.b trivial
 refine wp_ret ?_
 try simp only [Exit.inBlock,Exit.then]
 refine bodyPost_ret (res_t (fn:=Tryz.f44) rfl (f3.vv 0)) f3.d ?_
 exact ⟨rfl,bt3,(f3.k f2.rows.1)⟩
theorem jump_m (s:Ex)(g:Nat)(v:Int)(W:World)(hr:W.heap[g]?=some (.cells (exC s) 48 (0,0))):Calls Tryz.prog 54 #[.pointer (some ⟨g,0,none⟩),.int .u64 v] W (RetT (.int .i64 0) (exC (s.upA (IntKind.u64.wrap (s.m.a+v)))) 48 g W):=by
 refine calls_abs Tryz.func54 rfl (Nat.le_of_ble_eq_true rfl) ?_
 intro a0 d0 z0 h0
 replace z0:a0.tmps.size=15:=z0
 have s0_0:a0.tmps.getD 0 undef=.pointer (some ⟨g,0,none⟩):=h0 0 (Nat.le_of_ble_eq_true rfl)
 have s1_0:a0.tmps.getD 1 undef=.int .u64 v:=h0 1 (Nat.le_of_ble_eq_true rfl)
 have hB0:=cutW_below W g
 have hV:=cutW_size hr
 have bt0:=But.refl g W
 refine wp_seq ?_
 refine go_reg [] [] [some (.int .i64 0)] mo d0 z0 hB0 (by kernel_rfl) trivial (
  kq (fun cx=>ex_as rfl rfl) <|
  hn) ?_
 intro a1 w1 f1
 have bt1:=But.step f1 bt0 hB0 trivial
 refine wp_seq ?_
 have b_g_1:=f1.k hr
 have s0_2:=f1.q 0 s0_0
 have s1_3:=f1.q 1 s1_0
 refine go_reg [⟨g,48,(exC s),some 10,(exC (s.upA (IntKind.u64.wrap (s.m.a+v))))⟩] [] [some (pt g 0),some (pt g 0),some (pt g 0),some (pt g 21),some (.int .u64 s.m.a),some (.int .u64 v),some (.int .u64 (IntKind.u64.wrap (s.m.a+v))),some (pt g 0),some (pt g 0),some (pt g 21),none] mo f1.d f1.z f1.b (by kernel_rfl) ⟨b_g_1,trivial⟩ (
  kq (fun cx=>ex_mv rfl (cx.rq 0 s0_2)) <|
  kq (fun cx=>ex_nc rfl cx.u0) <|
  kq (fun cx=>ex_fa rfl cx.u0 (faExB75_0_0 _ _)) <|
  kq (fun cx=>ex_fa rfl cx.u0 (faExB36_2_0 _ _)) <|
  kq (fun cx=>ex_ld rfl (cx.u 0 rfl) (cx.rf 0 rfl (by kernel_rfl)) rfl Tryz.isAgg22) <|
  kq (fun cx=>ex_mv rfl (cx.rq 1 s1_3)) <|
  kq (fun cx=>ex_add (x:=.tmp 9) (y:=.tmp 10) rfl cx.u0 cx.u1) <|
  kq (fun cx=>ex_nc rfl cx.u0) <|
  kq (fun cx=>ex_fa rfl cx.u0 (faExB75_0_0 _ _)) <|
  kq (fun cx=>ex_fa rfl cx.u0 (faExB36_2_0 _ _)) <|
  hk (fun cx=>cx.stC (wn rfl) rfl rfl 0 rfl (cx.u 0 rfl) (cx.u 1 rfl) rfl rfl (by kernel_rfl) rfl rfl hV rfl trivial trivial) <|
  hn) ?_
 intro a2 w2 f2
 have bt2:=But.step f2 bt1 f1.b ⟨.inr rfl,trivial⟩
 refine wp_seq ?_
 refine go_reg [] [] [some (.int .i64 0)] mo f2.d f2.z f2.b (by kernel_rfl) trivial (
  kq (fun cx=>ex_as rfl rfl) <|
  hn) ?_
 intro a3 w3 f3
 have bt3:=But.step f3 bt2 f2.b trivial
 refine wp_ret ?_
 try simp only [Exit.inBlock,Exit.then]
 refine bodyPost_ret (res_t (fn:=Tryz.f54) rfl (f3.vv 0)) f3.d ?_
 exact ⟨rfl,bt3,(f3.k f2.rows.1)⟩
end Go.Proofs.YtjhedldplmhmjaaGreatDoor.Exe
