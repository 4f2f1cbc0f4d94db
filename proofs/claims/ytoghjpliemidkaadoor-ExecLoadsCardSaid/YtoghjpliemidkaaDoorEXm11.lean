import Derived.Test.YtoghjpliemidkaaDoorEXm06
import Derived.Test.YtoghjpliemidkaaDoorEXm10
set_option linter.unusedVariables false
set_option linter.unusedSimpArgs false
set_option linter.unnecessarySimpa false
namespace Go.Proofs.YtoghjpliemidkaaDoor.Exe
open Go Go.RowKit
open Mrm (Xi xC zX mayX bytesX)
open Flg (Fl fC zF addF subF ofF holF holE mayC)
set_option linter.unusedVariables false
set_option linter.unusedSimpArgs false
set_option linter.unnecessarySimpa false
set_option maxRecDepth 100000
theorem faExB75_1_0 (g:Nat) (w:World):(Instr.fieldAt 75 (.pointer (some ⟨g,0,none⟩)) 1).run Tryd.prog w=.ok (.pointer (some ⟨g,22,none⟩)) w:=by simp [go_sem]
theorem faExB26_2_22 (g:Nat) (w:World):(Instr.fieldAt 26 (.pointer (some ⟨g,22,none⟩)) 2).run Tryd.prog w=.ok (.pointer (some ⟨g,24,none⟩)) w:=by simp [go_sem]
theorem faExB75_0_0 (g:Nat) (w:World):(Instr.fieldAt 75 (.pointer (some ⟨g,0,none⟩)) 0).run Tryd.prog w=.ok (.pointer (some ⟨g,0,none⟩)) w:=by simp [go_sem]
theorem faExB36_0_0 (g:Nat) (w:World):(Instr.fieldAt 36 (.pointer (some ⟨g,0,none⟩)) 0).run Tryd.prog w=.ok (.pointer (some ⟨g,0,none⟩)) w:=by simp [go_sem]
theorem faExB26_1_22 (g:Nat) (w:World):(Instr.fieldAt 26 (.pointer (some ⟨g,22,none⟩)) 1).run Tryd.prog w=.ok (.pointer (some ⟨g,23,none⟩)) w:=by simp [go_sem]
theorem faExB36_1_0 (g:Nat) (w:World):(Instr.fieldAt 36 (.pointer (some ⟨g,0,none⟩)) 1).run Tryd.prog w=.ok (.pointer (some ⟨g,16,none⟩)) w:=by simp [go_sem]
theorem faExB36_2_0 (g:Nat) (w:World):(Instr.fieldAt 36 (.pointer (some ⟨g,0,none⟩)) 2).run Tryd.prog w=.ok (.pointer (some ⟨g,21,none⟩)) w:=by simp [go_sem]
set_option maxHeartbeats 2000000 in
theorem dst_n (s:Ex) (g:Nat)  (W:World) (hr:W.heap[g]?=some (.cells (exC s) 75 (0,0))) (hd:0 ≤ s.x.dst ∧ s.x.dst < 16):Calls Tryd.prog 117 #[.pointer (some ⟨g,0,none⟩)] W fun e w'=>e=.returned (.int .u64 (s.m.r s.x.dst.toNat)) ∧ Below W.heap.size W w':=by
  refine calls_abs Tryd.func117 rfl (Nat.le_of_ble_eq_true rfl) ?_
  intro a0 d0 z0 h0
  replace z0:a0.tmps.size=14:=z0
  have s0_0:a0.tmps.getD 0 undef=.pointer (some ⟨g,0,none⟩):=h0 0 (Nat.le_of_ble_eq_true rfl)
  refine wp_seq ?_
  refine go_reg [] [] [some (.int .u64 0)] mo d0 z0 (Below.refl _ _) (by kernel_rfl) trivial (
   hk (fun cx=>cx.q (ex_as rfl rfl)) <|
   hn) ?_
  intro a1 w1 f1
  refine wp_seq ?_
  have b_g_1:=f1.k hr
  have s0_2:=f1.q 0 s0_0
  refine go_reg [bx g 75 (exC s)] [] [some (pt g 0),some (pt g 0),some (pt g 0),some (pt g 22),some (pt g 24),some (.int .i8 s.x.dst),some (pt g 0),some (pt g 0),some (pt g 0),some (pt g (s.x.dst.toNat)),some (.int .u64 (s.m.r s.x.dst.toNat)),some (.int .u64 (s.m.r s.x.dst.toNat))] mo f1.d f1.z f1.b (by kernel_rfl) ⟨b_g_1,trivial⟩ (
   hk (fun cx=>cx.q (ex_mv rfl (cx.rq 0 s0_2))) <|
   hk (fun cx=>cx.q (ex_mv rfl (cx.rq 0 s0_2))) <|
   hk (fun cx=>cx.q (ex_nc rfl (cx.u 0 rfl))) <|
   hk (fun cx=>cx.q (ex_fa rfl (cx.u 0 rfl) (faExB75_1_0 _ _))) <|
   hk (fun cx=>cx.q (ex_fa rfl (cx.u 0 rfl) (faExB26_2_22 _ _))) <|
   hk (fun cx=>cx.q (ex_ld rfl (cx.u 0 rfl) (cx.rn 0 rfl) rfl Tryd.isAgg24)) <|
   hk (fun cx=>cx.q (ex_nc rfl (cx.u 0 rfl))) <|
   hk (fun cx=>cx.q (ex_fa rfl (cx.u 0 rfl) (faExB75_0_0 _ _))) <|
   hk (fun cx=>cx.q (ex_fa rfl (cx.u 0 rfl) (faExB36_0_0 _ _))) <|
   hk (fun cx=>cx.v (ex_ia (n:=16) (sz:=1) rfl (cx.u 0 rfl) (cx.u 1 rfl) Tryd.underlying32 (by kernel_rfl) (by omega) (by omega) (by omega)) rfl rfl) <|
   hk (fun cx=>cx.v (ldExR (by omega) rfl (cx.u 0 rfl) (cx.rn 0 rfl)) rfl rfl) <|
   kmu 0 <|
   hn) ?_
  intro a2 w2 f2
  refine wp_ret ?_
  try simp only [Exit.inBlock,Exit.then]
  refine bodyPost_ret (res_t (fn:=Tryd.f117) rfl (f2.v 11 rfl rfl rfl)) f2.d ?_
  exact ⟨rfl,f2.b⟩
set_option maxHeartbeats 2000000 in
theorem move_m (s:Ex) (g:Nat) (v:Int) (W:World) (hr:W.heap[g]?=some (.cells (exC s) 75 (0,0))) (hd:0 ≤ s.x.dst ∧ s.x.dst < 16):Calls Tryd.prog 65 #[.pointer (some ⟨g,0,none⟩),.int .u64 v] W (RetT (.int .i64 0) (exC (s.upR s.x.dst.toNat (cutI v s.x.w))) 75 g W):=by
  refine calls_abs Tryd.func65 rfl (Nat.le_of_ble_eq_true rfl) ?_
  intro a0 d0 z0 h0
  replace z0:a0.tmps.size=22:=z0
  have s0_0:a0.tmps.getD 0 undef=.pointer (some ⟨g,0,none⟩):=h0 0 (Nat.le_of_ble_eq_true rfl)
  have s1_0:a0.tmps.getD 1 undef=.int .u64 v:=h0 1 (Nat.le_of_ble_eq_true rfl)
  have hB0:=cutW_below W g
  have hV:=cutW_size hr
  have bt0:=But.refl g W
  refine wp_seq ?_
  refine go_reg [] [] [some (.int .i64 0)] mo d0 z0 hB0 (by kernel_rfl) trivial (
   hk (fun cx=>cx.q (ex_as rfl rfl)) <|
   hn) ?_
  intro a1 w1 f1
  have bt1:=But.step f1 bt0 hB0 trivial
  refine wp_seq ?_
  have b_g_1:=f1.k hr
  have s0_2:=f1.q 0 s0_0
  have s1_3:=f1.q 1 s1_0
  refine go_reg [⟨g,75,(exC s),some 17,(exC (s.upR s.x.dst.toNat (cutI v s.x.w)))⟩] [] [some (pt g 0),some (pt g 0),some (pt g 0),some (pt g 22),some (pt g 24),some (.int .i8 s.x.dst),some (.int .u64 v),some (pt g 0),some (pt g 0),some (pt g 22),some (pt g 23),some (.int .i8 s.x.w),some (.int .u64 (cutI v s.x.w)),some (pt g 0),some (pt g 0),some (pt g 0),some (pt g (s.x.dst.toNat)),none] mo f1.d f1.z f1.b (by kernel_rfl) ⟨b_g_1,trivial⟩ (
   hk (fun cx=>cx.q (ex_mv rfl (cx.rq 0 s0_2))) <|
   hk (fun cx=>cx.q (ex_mv rfl (cx.rq 0 s0_2))) <|
   hk (fun cx=>cx.q (ex_nc rfl (cx.u 0 rfl))) <|
   hk (fun cx=>cx.q (ex_fa rfl (cx.u 0 rfl) (faExB75_1_0 _ _))) <|
   hk (fun cx=>cx.q (ex_fa rfl (cx.u 0 rfl) (faExB26_2_22 _ _))) <|
   hk (fun cx=>cx.q (ex_ld rfl (cx.u 0 rfl) (cx.rf 0 rfl (by kernel_rfl)) rfl Tryd.isAgg24)) <|
   hk (fun cx=>cx.q (ex_mv rfl (cx.rq 1 s1_3))) <|
   hk (fun cx=>cx.q (ex_mv rfl (cx.rq 0 s0_2))) <|
   hk (fun cx=>cx.q (ex_nc rfl (cx.u 0 rfl))) <|
   hk (fun cx=>cx.q (ex_fa rfl (cx.u 0 rfl) (faExB75_1_0 _ _))) <|
   hk (fun cx=>cx.q (ex_fa rfl (cx.u 0 rfl) (faExB26_1_22 _ _))) <|
   hk (fun cx=>cx.q (ex_ld rfl (cx.u 0 rfl) (cx.rf 0 rfl (by kernel_rfl)) rfl Tryd.isAgg24)) <|
   hc (fun _ _ wx cx=>cx.c rfl (args2 (cx.u 0 rfl) (cx.u 1 rfl)) Tryd.func17 (by decide +kernel) (((cut_any v s.x.w wx).mono (by rintro e w' ⟨rfl,rfl⟩;exact ⟨rfl,Below.refl _ _⟩))) rfl rfl) <|
   hk (fun cx=>cx.q (ex_nc rfl (cx.u 0 rfl))) <|
   hk (fun cx=>cx.q (ex_fa rfl (cx.u 0 rfl) (faExB75_0_0 _ _))) <|
   hk (fun cx=>cx.q (ex_fa rfl (cx.u 0 rfl) (faExB36_0_0 _ _))) <|
   hk (fun cx=>cx.v (ex_ia (n:=16) (sz:=1) rfl (cx.u 0 rfl) (cx.u 1 rfl) Tryd.underlying32 (by kernel_rfl) (by omega) (by omega) (by omega)) rfl rfl) <|
   hk (fun cx=>cx.stC (wn rfl) rfl rfl 0 rfl (cx.u 0 rfl) (cx.u 1 rfl) rfl rfl (by kernel_rfl) (by rw [exC_size];simp only [Nat.blt_eq];omega) (exC_set _ (by omega) _) hV rfl trivial trivial) <|
   hn) ?_
  intro a2 w2 f2
  have bt2:=But.step f2 bt1 f1.b ⟨.inr rfl,trivial⟩
  refine wp_seq ?_
  refine go_reg [] [] [some (.int .i64 0)] mo f2.d f2.z f2.b (by kernel_rfl) trivial (
   hk (fun cx=>cx.q (ex_as rfl rfl)) <|
   hn) ?_
  intro a3 w3 f3
  have bt3:=But.step f3 bt2 f2.b trivial
  refine wp_ret ?_
  try simp only [Exit.inBlock,Exit.then]
  refine bodyPost_ret (res_t (fn:=Tryd.f65) rfl (f3.v 0 rfl rfl rfl)) f3.d ?_
  exact ⟨rfl,bt3,(f3.k f2.rows.1)⟩
set_option maxHeartbeats 2000000 in
theorem compute_m (s:Ex) (g:Nat) (op v:Int) (W:World) (hr:W.heap[g]?=some (.cells (exC s) 75 (0,0))) (hM:MOk s.m) (hd:0 ≤ s.x.dst ∧ s.x.dst < 16) (hv:U64 v):Calls Tryd.prog 118 #[.pointer (some ⟨g,0,none⟩),.int .i8 op,.int .u64 v] W (RetT (.int .i64 0) (exC (s.upR s.x.dst.toNat (doI op s.x.w (s.m.r s.x.dst.toNat) v))) 75 g W):=by
  refine calls_abs Tryd.func118 rfl (Nat.le_of_ble_eq_true rfl) ?_
  intro a0 d0 z0 h0
  replace z0:a0.tmps.size=30:=z0
  have s0_0:a0.tmps.getD 0 undef=.pointer (some ⟨g,0,none⟩):=h0 0 (Nat.le_of_ble_eq_true rfl)
  have s1_0:a0.tmps.getD 1 undef=.int .i8 op:=h0 1 (Nat.le_of_ble_eq_true rfl)
  have s2_0:a0.tmps.getD 2 undef=.int .u64 v:=h0 2 (Nat.le_of_ble_eq_true rfl)
  have hB0:=cutW_below W g
  have hV:=cutW_size hr
  have bt0:=But.refl g W
  refine wp_seq ?_
  refine go_reg [] [] [some (.int .i64 0)] mo d0 z0 hB0 (by kernel_rfl) trivial (
   hk (fun cx=>cx.q (ex_as rfl rfl)) <|
   hn) ?_
  intro a1 w1 f1
  have bt1:=But.step f1 bt0 hB0 trivial
  refine wp_seq ?_
  have b_g_1:=f1.k hr
  have s0_2:=f1.q 0 s0_0
  have s1_3:=f1.q 1 s1_0
  have s2_4:=f1.q 2 s2_0
  refine go_reg [⟨g,75,(exC s),some 23,(exC (s.upR s.x.dst.toNat (doI op s.x.w (s.m.r s.x.dst.toNat) v)))⟩] [] (tabs [some (pt g 0),some (pt g 0),some (pt g 0),some (pt g 22),some (pt g 24),some (.int .i8 s.x.dst),some (.int .i8 op),some (pt g 0),some (pt g 0),some (pt g 22),some (pt g 23),some (.int .i8 s.x.w),some (pt g 0),some (.int .u64 (s.m.r s.x.dst.toNat)),some (.int .u64 v),some (.tuple #[.int .u64 (doI op s.x.w (s.m.r s.x.dst.toNat) v),.int .i64 (doE op s.x.w)]),some (.tuple #[.int .u64 (doI op s.x.w (s.m.r s.x.dst.toNat) v),.int .i64 (doE op s.x.w)]),some (.int .u64 (doI op s.x.w (s.m.r s.x.dst.toNat) v)),some (.int .i64 (doE op s.x.w)),some (pt g 0)] [some (pt g 0),some (pt g 0),some (pt g (s.x.dst.toNat)),none]) mo f1.d f1.z f1.b (by kernel_rfl) ⟨b_g_1,trivial⟩ (
   hk (fun cx=>cx.q (ex_mv rfl (cx.rq 0 s0_2))) <|
   hk (fun cx=>cx.q (ex_mv rfl (cx.rq 0 s0_2))) <|
   hk (fun cx=>cx.q (ex_nc rfl (cx.u 0 rfl))) <|
   hk (fun cx=>cx.q (ex_fa rfl (cx.u 0 rfl) (faExB75_1_0 _ _))) <|
   hk (fun cx=>cx.q (ex_fa rfl (cx.u 0 rfl) (faExB26_2_22 _ _))) <|
   hk (fun cx=>cx.q (ex_ld rfl (cx.u 0 rfl) (cx.rf 0 rfl (by kernel_rfl)) rfl Tryd.isAgg24)) <|
   hk (fun cx=>cx.q (ex_mv rfl (cx.rq 1 s1_3))) <|
   hk (fun cx=>cx.q (ex_mv rfl (cx.rq 0 s0_2))) <|
   hk (fun cx=>cx.q (ex_nc rfl (cx.u 0 rfl))) <|
   hk (fun cx=>cx.q (ex_fa rfl (cx.u 0 rfl) (faExB75_1_0 _ _))) <|
   hk (fun cx=>cx.q (ex_fa rfl (cx.u 0 rfl) (faExB26_1_22 _ _))) <|
   hk (fun cx=>cx.q (ex_ld rfl (cx.u 0 rfl) (cx.rf 0 rfl (by kernel_rfl)) rfl Tryd.isAgg24)) <|
   hk (fun cx=>cx.q (ex_mv rfl (cx.rq 0 s0_2))) <|
   hc (fun _ _ wx cx=>cx.c rfl (args1 (cx.u 0 rfl)) Tryd.func117 (by decide +kernel) (dst_n s g wx (cx.rf 0 rfl (by kernel_rfl)) hd) rfl rfl) <|
   hk (fun cx=>cx.q (ex_mv rfl (cx.rq 2 s2_4))) <|
   hc (fun _ _ wx cx=>cx.c rfl (args4 (cx.u 0 rfl) (cx.u 1 rfl) (cx.u 2 rfl) (cx.u 3 rfl)) Tryd.func18 (by decide +kernel) (do_any op s.x.w (s.m.r s.x.dst.toNat) v wx (hM.r s.x.dst.toNat).1 (hM.r s.x.dst.toNat).2 hv.1 hv.2) rfl rfl) <|
   kmu 0 <|
   hk (fun cx=>cx.q (ex_ext (x:=.tmp 7) rfl (cx.u 0 rfl) rfl)) <|
   hk (fun cx=>cx.q (ex_ext (x:=.tmp 7) rfl (cx.u 0 rfl) rfl)) <|
   hk (fun cx=>cx.q (ex_nc rfl (cx.u 0 rfl))) <|
   hk (fun cx=>cx.q (ex_fa rfl (cx.u 0 rfl) (faExB75_0_0 _ _))) <|
   hk (fun cx=>cx.q (ex_fa rfl (cx.u 0 rfl) (faExB36_0_0 _ _))) <|
   hk (fun cx=>cx.v (ex_ia (n:=16) (sz:=1) rfl (cx.u 0 rfl) (cx.u 1 rfl) Tryd.underlying32 (by kernel_rfl) (by omega) (by omega) (by omega)) rfl rfl) <|
   hk (fun cx=>cx.stC (wn rfl) rfl rfl 0 rfl (cx.u 0 rfl) (cx.u 1 rfl) rfl rfl (by kernel_rfl) (by rw [exC_size];simp only [Nat.blt_eq];omega) (exC_set _ (by omega) _) hV rfl trivial trivial) <|
   hn) ?_
  intro a2 w2 f2
  have bt2:=But.step f2 bt1 f1.b ⟨.inr rfl,trivial⟩
  refine wp_seq ?_
  refine go_reg [] [] [some (.int .i64 0)] mo f2.d f2.z f2.b (by kernel_rfl) trivial (
   hk (fun cx=>cx.q (ex_as rfl rfl)) <|
   hn) ?_
  intro a3 w3 f3
  have bt3:=But.step f3 bt2 f2.b trivial
  refine wp_ret ?_
  try simp only [Exit.inBlock,Exit.then]
  refine bodyPost_ret (res_t (fn:=Tryd.f118) rfl (f3.v 0 rfl rfl rfl)) f3.d ?_
  exact ⟨rfl,bt3,(f3.k f2.rows.1)⟩
set_option maxHeartbeats 2000000 in
theorem flagsOf_m (s:Ex) (g:Nat) (v:Int) (W:World) (hr:W.heap[g]?=some (.cells (exC s) 75 (0,0))) (hv:U64 v):Calls Tryd.prog 119 #[.pointer (some ⟨g,0,none⟩),.int .u64 v] W (RetT (.int .i64 0) (exC (s.upF (ofF s.x.w v))) 75 g W):=by
  refine calls_abs Tryd.func119 rfl (Nat.le_of_ble_eq_true rfl) ?_
  intro a0 d0 z0 h0
  replace z0:a0.tmps.size=19:=z0
  have s0_0:a0.tmps.getD 0 undef=.pointer (some ⟨g,0,none⟩):=h0 0 (Nat.le_of_ble_eq_true rfl)
  have s1_0:a0.tmps.getD 1 undef=.int .u64 v:=h0 1 (Nat.le_of_ble_eq_true rfl)
  have hB0:=cutW_below W g
  have hV:=cutW_size hr
  have bt0:=But.refl g W
  refine wp_seq ?_
  refine go_reg [] [] [some (.int .i64 0)] mo d0 z0 hB0 (by kernel_rfl) trivial (
   hk (fun cx=>cx.q (ex_as rfl rfl)) <|
   hn) ?_
  intro a1 w1 f1
  have bt1:=But.step f1 bt0 hB0 trivial
  refine wp_seq ?_
  have b_g_1:=f1.k hr
  have s0_2:=f1.q 0 s0_0
  have s1_3:=f1.q 1 s1_0
  refine go_reg [⟨g,75,(exC s),some 14,(exC (s.upF (ofF s.x.w v)))⟩] [] [some (pt g 0),some (pt g 0),some (pt g 0),some (pt g 22),some (pt g 23),some (.int .i8 s.x.w),some (.int .u64 v),some (.tuple #[.agg (fC (ofF s.x.w v)),.int .i64 (Flg.errW s.x.w)]),some (.tuple #[.agg (fC (ofF s.x.w v)),.int .i64 (Flg.errW s.x.w)]),some (.agg (fC (ofF s.x.w v))),some (.int .i64 (Flg.errW s.x.w)),some (pt g 0),some (pt g 0),some (pt g 16),none] mo f1.d f1.z f1.b (by kernel_rfl) ⟨b_g_1,trivial⟩ (
   hk (fun cx=>cx.q (ex_mv rfl (cx.rq 0 s0_2))) <|
   hk (fun cx=>cx.q (ex_mv rfl (cx.rq 0 s0_2))) <|
   hk (fun cx=>cx.q (ex_nc rfl (cx.u 0 rfl))) <|
   hk (fun cx=>cx.q (ex_fa rfl (cx.u 0 rfl) (faExB75_1_0 _ _))) <|
   hk (fun cx=>cx.q (ex_fa rfl (cx.u 0 rfl) (faExB26_1_22 _ _))) <|
   hk (fun cx=>cx.q (ex_ld rfl (cx.u 0 rfl) (cx.rf 0 rfl (by kernel_rfl)) rfl Tryd.isAgg24)) <|
   hk (fun cx=>cx.q (ex_mv rfl (cx.rq 1 s1_3))) <|
   hc (fun _ _ wx cx=>cx.c rfl (args2 (cx.u 0 rfl) (cx.u 1 rfl)) Tryd.func133 (by decide +kernel) (Flg.of_n s.x.w v wx hv) rfl rfl) <|
   kmu 0 <|
   hk (fun cx=>cx.q (ex_ext (x:=.tmp 5) rfl (cx.u 0 rfl) rfl)) <|
   hk (fun cx=>cx.q (ex_ext (x:=.tmp 5) rfl (cx.u 0 rfl) rfl)) <|
   hk (fun cx=>cx.q (ex_nc rfl (cx.u 0 rfl))) <|
   hk (fun cx=>cx.q (ex_fa rfl (cx.u 0 rfl) (faExB75_0_0 _ _))) <|
   hk (fun cx=>cx.q (ex_fa rfl (cx.u 0 rfl) (faExB36_1_0 _ _))) <|
   hk (fun cx=>cx.stP (wn rfl) rfl rfl 0 rfl (cx.u 0 rfl) (cx.u 1 rfl) (Flg.fC_one _) (by kernel_rfl) (Nat.le_of_ble_eq_true rfl) rfl hV rfl trivial trivial) <|
   hn) ?_
  intro a2 w2 f2
  have bt2:=But.step f2 bt1 f1.b ⟨.inr rfl,trivial⟩
  refine wp_seq ?_
  refine go_reg [] [] [some (.int .i64 0)] mo f2.d f2.z f2.b (by kernel_rfl) trivial (
   hk (fun cx=>cx.q (ex_as rfl rfl)) <|
   hn) ?_
  intro a3 w3 f3
  have bt3:=But.step f3 bt2 f2.b trivial
  refine wp_ret ?_
  try simp only [Exit.inBlock,Exit.then]
  refine bodyPost_ret (res_t (fn:=Tryd.f119) rfl (f3.v 0 rfl rfl rfl)) f3.d ?_
  exact ⟨rfl,bt3,(f3.k f2.rows.1)⟩
set_option maxHeartbeats 2000000 in
theorem compare_m (s:Ex) (g:Nat) (v:Int) (W:World) (hr:W.heap[g]?=some (.cells (exC s) 75 (0,0))) (hM:MOk s.m) (hd:0 ≤ s.x.dst ∧ s.x.dst < 16) (hv:U64 v):Calls Tryd.prog 71 #[.pointer (some ⟨g,0,none⟩),.int .u64 v] W (RetT (.int .i64 0) (exC (s.upF (subF s.x.w (s.m.r s.x.dst.toNat) v))) 75 g W):=by
  refine calls_abs Tryd.func71 rfl (Nat.le_of_ble_eq_true rfl) ?_
  intro a0 d0 z0 h0
  replace z0:a0.tmps.size=21:=z0
  have s0_0:a0.tmps.getD 0 undef=.pointer (some ⟨g,0,none⟩):=h0 0 (Nat.le_of_ble_eq_true rfl)
  have s1_0:a0.tmps.getD 1 undef=.int .u64 v:=h0 1 (Nat.le_of_ble_eq_true rfl)
  have hB0:=cutW_below W g
  have hV:=cutW_size hr
  have bt0:=But.refl g W
  refine wp_seq ?_
  refine go_reg [] [] [some (.int .i64 0)] mo d0 z0 hB0 (by kernel_rfl) trivial (
   hk (fun cx=>cx.q (ex_as rfl rfl)) <|
   hn) ?_
  intro a1 w1 f1
  have bt1:=But.step f1 bt0 hB0 trivial
  refine wp_seq ?_
  have b_g_1:=f1.k hr
  have s0_2:=f1.q 0 s0_0
  have s1_3:=f1.q 1 s1_0
  refine go_reg [⟨g,75,(exC s),some 16,(exC (s.upF (subF s.x.w (s.m.r s.x.dst.toNat) v)))⟩] [] [some (pt g 0),some (pt g 0),some (pt g 0),some (pt g 22),some (pt g 23),some (.int .i8 s.x.w),some (pt g 0),some (.int .u64 (s.m.r s.x.dst.toNat)),some (.int .u64 v),some (.tuple #[.agg (fC (subF s.x.w (s.m.r s.x.dst.toNat) v)),.int .i64 (Flg.errW s.x.w)]),some (.tuple #[.agg (fC (subF s.x.w (s.m.r s.x.dst.toNat) v)),.int .i64 (Flg.errW s.x.w)]),some (.agg (fC (subF s.x.w (s.m.r s.x.dst.toNat) v))),some (.int .i64 (Flg.errW s.x.w)),some (pt g 0),some (pt g 0),some (pt g 16),none] mo f1.d f1.z f1.b (by kernel_rfl) ⟨b_g_1,trivial⟩ (
   hk (fun cx=>cx.q (ex_mv rfl (cx.rq 0 s0_2))) <|
   hk (fun cx=>cx.q (ex_mv rfl (cx.rq 0 s0_2))) <|
   hk (fun cx=>cx.q (ex_nc rfl (cx.u 0 rfl))) <|
   hk (fun cx=>cx.q (ex_fa rfl (cx.u 0 rfl) (faExB75_1_0 _ _))) <|
   hk (fun cx=>cx.q (ex_fa rfl (cx.u 0 rfl) (faExB26_1_22 _ _))) <|
   hk (fun cx=>cx.q (ex_ld rfl (cx.u 0 rfl) (cx.rf 0 rfl (by kernel_rfl)) rfl Tryd.isAgg24)) <|
   hk (fun cx=>cx.q (ex_mv rfl (cx.rq 0 s0_2))) <|
   hc (fun _ _ wx cx=>cx.c rfl (args1 (cx.u 0 rfl)) Tryd.func117 (by decide +kernel) (dst_n s g wx (cx.rf 0 rfl (by kernel_rfl)) hd) rfl rfl) <|
   hk (fun cx=>cx.q (ex_mv rfl (cx.rq 1 s1_3))) <|
   hc (fun _ _ wx cx=>cx.c rfl (args3 (cx.u 0 rfl) (cx.u 1 rfl) (cx.u 2 rfl)) Tryd.func120 (by decide +kernel) (Flg.sub_n s.x.w (s.m.r s.x.dst.toNat) v wx (hM.r s.x.dst.toNat) hv) rfl rfl) <|
   kmu 0 <|
   hk (fun cx=>cx.q (ex_ext (x:=.tmp 5) rfl (cx.u 0 rfl) rfl)) <|
   hk (fun cx=>cx.q (ex_ext (x:=.tmp 5) rfl (cx.u 0 rfl) rfl)) <|
   hk (fun cx=>cx.q (ex_nc rfl (cx.u 0 rfl))) <|
   hk (fun cx=>cx.q (ex_fa rfl (cx.u 0 rfl) (faExB75_0_0 _ _))) <|
   hk (fun cx=>cx.q (ex_fa rfl (cx.u 0 rfl) (faExB36_1_0 _ _))) <|
   hk (fun cx=>cx.stP (wn rfl) rfl rfl 0 rfl (cx.u 0 rfl) (cx.u 1 rfl) (Flg.fC_one _) (by kernel_rfl) (Nat.le_of_ble_eq_true rfl) rfl hV rfl trivial trivial) <|
   hn) ?_
  intro a2 w2 f2
  have bt2:=But.step f2 bt1 f1.b ⟨.inr rfl,trivial⟩
  refine wp_seq ?_
  refine go_reg [] [] [some (.int .i64 0)] mo f2.d f2.z f2.b (by kernel_rfl) trivial (
   hk (fun cx=>cx.q (ex_as rfl rfl)) <|
   hn) ?_
  intro a3 w3 f3
  have bt3:=But.step f3 bt2 f2.b trivial
  refine wp_ret ?_
  try simp only [Exit.inBlock,Exit.then]
  refine bodyPost_ret (res_t (fn:=Tryd.f71) rfl (f3.v 0 rfl rfl rfl)) f3.d ?_
  exact ⟨rfl,bt3,(f3.k f2.rows.1)⟩
set_option maxHeartbeats 2000000 in
theorem jump_m (s:Ex) (g:Nat) (v:Int) (W:World) (hr:W.heap[g]?=some (.cells (exC s) 75 (0,0))):Calls Tryd.prog 81 #[.pointer (some ⟨g,0,none⟩),.int .u64 v] W (RetT (.int .i64 0) (exC (s.upA (IntKind.u64.wrap (s.m.a + v)))) 75 g W):=by
  refine calls_abs Tryd.func81 rfl (Nat.le_of_ble_eq_true rfl) ?_
  intro a0 d0 z0 h0
  replace z0:a0.tmps.size=15:=z0
  have s0_0:a0.tmps.getD 0 undef=.pointer (some ⟨g,0,none⟩):=h0 0 (Nat.le_of_ble_eq_true rfl)
  have s1_0:a0.tmps.getD 1 undef=.int .u64 v:=h0 1 (Nat.le_of_ble_eq_true rfl)
  have hB0:=cutW_below W g
  have hV:=cutW_size hr
  have bt0:=But.refl g W
  refine wp_seq ?_
  refine go_reg [] [] [some (.int .i64 0)] mo d0 z0 hB0 (by kernel_rfl) trivial (
   hk (fun cx=>cx.q (ex_as rfl rfl)) <|
   hn) ?_
  intro a1 w1 f1
  have bt1:=But.step f1 bt0 hB0 trivial
  refine wp_seq ?_
  have b_g_1:=f1.k hr
  have s0_2:=f1.q 0 s0_0
  have s1_3:=f1.q 1 s1_0
  refine go_reg [⟨g,75,(exC s),some 10,(exC (s.upA (IntKind.u64.wrap (s.m.a + v))))⟩] [] [some (pt g 0),some (pt g 0),some (pt g 0),some (pt g 21),some (.int .u64 s.m.a),some (.int .u64 v),some (.int .u64 (IntKind.u64.wrap (s.m.a + v))),some (pt g 0),some (pt g 0),some (pt g 21),none] mo f1.d f1.z f1.b (by kernel_rfl) ⟨b_g_1,trivial⟩ (
   hk (fun cx=>cx.q (ex_mv rfl (cx.rq 0 s0_2))) <|
   hk (fun cx=>cx.q (ex_nc rfl (cx.u 0 rfl))) <|
   hk (fun cx=>cx.q (ex_fa rfl (cx.u 0 rfl) (faExB75_0_0 _ _))) <|
   hk (fun cx=>cx.q (ex_fa rfl (cx.u 0 rfl) (faExB36_2_0 _ _))) <|
   hk (fun cx=>cx.q (ex_ld rfl (cx.u 0 rfl) (cx.rf 0 rfl (by kernel_rfl)) rfl Tryd.isAgg31)) <|
   hk (fun cx=>cx.q (ex_mv rfl (cx.rq 1 s1_3))) <|
   hk (fun cx=>cx.q (ex_add (x:=.tmp 9) (y:=.tmp 10) rfl (cx.u 0 rfl) (cx.u 1 rfl))) <|
   hk (fun cx=>cx.q (ex_nc rfl (cx.u 0 rfl))) <|
   hk (fun cx=>cx.q (ex_fa rfl (cx.u 0 rfl) (faExB75_0_0 _ _))) <|
   hk (fun cx=>cx.q (ex_fa rfl (cx.u 0 rfl) (faExB36_2_0 _ _))) <|
   hk (fun cx=>cx.stC (wn rfl) rfl rfl 0 rfl (cx.u 0 rfl) (cx.u 1 rfl) rfl rfl (by kernel_rfl) rfl rfl hV rfl trivial trivial) <|
   hn) ?_
  intro a2 w2 f2
  have bt2:=But.step f2 bt1 f1.b ⟨.inr rfl,trivial⟩
  refine wp_seq ?_
  refine go_reg [] [] [some (.int .i64 0)] mo f2.d f2.z f2.b (by kernel_rfl) trivial (
   hk (fun cx=>cx.q (ex_as rfl rfl)) <|
   hn) ?_
  intro a3 w3 f3
  have bt3:=But.step f3 bt2 f2.b trivial
  refine wp_ret ?_
  try simp only [Exit.inBlock,Exit.then]
  refine bodyPost_ret (res_t (fn:=Tryd.f81) rfl (f3.v 0 rfl rfl rfl)) f3.d ?_
  exact ⟨rfl,bt3,(f3.k f2.rows.1)⟩
end Go.Proofs.YtoghjpliemidkaaDoor.Exe
namespace Go.Proofs.YtoghjpliemidkaaDoor.Exe
open Go Go.RowKit
open Mrm (Xi xC zX mayX bytesX)
open Flg (Fl fC zF addF subF ofF holF holE mayC)
set_option linter.unusedVariables false
set_option linter.unusedSimpArgs false
set_option linter.unnecessarySimpa false
set_option maxRecDepth 100000
theorem faExC75_1_0 (g:Nat) (w:World):(Instr.fieldAt 75 (.pointer (some ⟨g,0,none⟩)) 1).run Tryd.prog w=.ok (.pointer (some ⟨g,22,none⟩)) w:=by simp [go_sem]
theorem faExC26_1_22 (g:Nat) (w:World):(Instr.fieldAt 26 (.pointer (some ⟨g,22,none⟩)) 1).run Tryd.prog w=.ok (.pointer (some ⟨g,23,none⟩)) w:=by simp [go_sem]
theorem faExC75_0_0 (g:Nat) (w:World):(Instr.fieldAt 75 (.pointer (some ⟨g,0,none⟩)) 0).run Tryd.prog w=.ok (.pointer (some ⟨g,0,none⟩)) w:=by simp [go_sem]
theorem faExC36_1_0 (g:Nat) (w:World):(Instr.fieldAt 36 (.pointer (some ⟨g,0,none⟩)) 1).run Tryd.prog w=.ok (.pointer (some ⟨g,16,none⟩)) w:=by simp [go_sem]
set_option maxHeartbeats 2000000 in
theorem test_m (s:Ex) (g:Nat) (v:Int) (W:World) (hr:W.heap[g]?=some (.cells (exC s) 75 (0,0))) (hM:MOk s.m) (hd:0 ≤ s.x.dst ∧ s.x.dst < 16) (hv:U64 v):Calls Tryd.prog 72 #[.pointer (some ⟨g,0,none⟩),.int .u64 v] W (RetT (.int .i64 0) (exC (s.upF (ofF s.x.w (doI 5 s.x.w (s.m.r s.x.dst.toNat) v)))) 75 g W):=by
  refine calls_abs Tryd.func72 rfl (Nat.le_of_ble_eq_true rfl) ?_
  intro a0 d0 z0 h0
  replace z0:a0.tmps.size=11:=z0
  have s0_0:a0.tmps.getD 0 undef=.pointer (some ⟨g,0,none⟩):=h0 0 (Nat.le_of_ble_eq_true rfl)
  have s1_0:a0.tmps.getD 1 undef=.int .u64 v:=h0 1 (Nat.le_of_ble_eq_true rfl)
  have hB0:=cutW_below W g
  have hV:=cutW_size hr
  have bt0:=But.refl g W
  refine wp_seq ?_
  refine go_reg [] [] [some (.int .i64 0)] mo d0 z0 hB0 (by kernel_rfl) trivial (
   hk (fun cx=>cx.q (ex_as rfl rfl)) <|
   hn) ?_
  intro a1 w1 f1
  have bt1:=But.step f1 bt0 hB0 trivial
  refine wp_seq ?_
  have b_g_1:=f1.k hr
  have s0_2:=f1.q 0 s0_0
  have s1_3:=f1.q 1 s1_0
  refine go_reg [⟨g,75,(exC s),some 5,(exC (s.upF (ofF s.x.w (((s.m.r s.x.dst.toNat).toNat &&& v.toNat:Nat):Int))))⟩] [] [some (pt g 0),some (pt g 0),some (.int .u64 (s.m.r s.x.dst.toNat)),some (.int .u64 v),some (.int .u64 (((s.m.r s.x.dst.toNat).toNat &&& v.toNat:Nat):Int)),some (.int .i64 0),some (.int .i64 0)] mo f1.d f1.z f1.b (by kernel_rfl) ⟨b_g_1,trivial⟩ (
   hk (fun cx=>cx.q (ex_mv rfl (cx.rq 0 s0_2))) <|
   hk (fun cx=>cx.q (ex_mv rfl (cx.rq 0 s0_2))) <|
   hc (fun _ _ wx cx=>cx.c rfl (args1 (cx.u 0 rfl)) Tryd.func117 (by decide +kernel) (dst_n s g wx (cx.rf 0 rfl (by kernel_rfl)) hd) rfl rfl) <|
   hk (fun cx=>cx.q (ex_mv rfl (cx.rq 1 s1_3))) <|
   hk (fun cx=>cx.v (ex_and (x:=.tmp 7) (y:=.tmp 8) rfl (cx.u 0 rfl) (cx.u 1 rfl)) rfl (congrArg (Value.int .u64) (u64_and (s.m.r s.x.dst.toNat) v (hM.r s.x.dst.toNat).1 (hM.r s.x.dst.toNat).2 hv.1 hv.2))) <|
   hc (fun _ _ wx cx=>callT cx (wn rfl) rfl (args2 (cx.u 0 rfl) (cx.u 1 rfl)) Tryd.func119 (by decide +kernel) (flagsOf_m s g (((s.m.r s.x.dst.toNat).toNat &&& v.toNat:Nat):Int) wx (cx.ri 0 rfl) (U64.and (hM.r s.x.dst.toNat) hv)) rfl rfl 0 rfl hV rfl trivial rfl) <|
   kmu 0 <|
   hn) ?_
  intro a2 w2 f2
  have bt2:=But.step f2 bt1 f1.b ⟨.inr rfl,trivial⟩
  refine wp_ret ?_
  try simp only [Exit.inBlock,Exit.then]
  refine bodyPost_ret (res_t (fn:=Tryd.f72) rfl (f2.v 6 rfl rfl rfl)) f2.d ?_
  exact ⟨rfl,bt2,(row_eq f2.rows.1 (congrArg (fun f=>exC (s.upF f)) (ofF_and s.x.w (hM.r s.x.dst.toNat) hv)))⟩
set_option maxHeartbeats 2000000 in
theorem add_m (s:Ex) (g:Nat) (v:Int) (W:World) (hr:W.heap[g]?=some (.cells (exC s) 75 (0,0))) (hM:MOk s.m) (hd:0 ≤ s.x.dst ∧ s.x.dst < 16) (hv:U64 v):Calls Tryd.prog 66 #[.pointer (some ⟨g,0,none⟩),.int .u64 v] W (RetT (.int .i64 0) (exC ((s.upF (addF s.x.w (s.m.r s.x.dst.toNat) v)).upR s.x.dst.toNat (doI 0 s.x.w (s.m.r s.x.dst.toNat) v))) 75 g W):=by
  refine calls_abs Tryd.func66 rfl (Nat.le_of_ble_eq_true rfl) ?_
  intro a0 d0 z0 h0
  replace z0:a0.tmps.size=24:=z0
  have s0_0:a0.tmps.getD 0 undef=.pointer (some ⟨g,0,none⟩):=h0 0 (Nat.le_of_ble_eq_true rfl)
  have s1_0:a0.tmps.getD 1 undef=.int .u64 v:=h0 1 (Nat.le_of_ble_eq_true rfl)
  have hB0:=cutW_below W g
  have hV:=cutW_size hr
  have bt0:=But.refl g W
  refine wp_seq ?_
  refine go_reg [] [] [some (.int .i64 0)] mo d0 z0 hB0 (by kernel_rfl) trivial (
   hk (fun cx=>cx.q (ex_as rfl rfl)) <|
   hn) ?_
  intro a1 w1 f1
  have bt1:=But.step f1 bt0 hB0 trivial
  refine wp_seq ?_
  have b_g_1:=f1.k hr
  have s0_2:=f1.q 0 s0_0
  have s1_3:=f1.q 1 s1_0
  refine go_reg [⟨g,75,(exC s),some 16,(exC (s.upF (addF s.x.w (s.m.r s.x.dst.toNat) v)))⟩] [] [some (pt g 0),some (pt g 0),some (pt g 0),some (pt g 22),some (pt g 23),some (.int .i8 s.x.w),some (pt g 0),some (.int .u64 (s.m.r s.x.dst.toNat)),some (.int .u64 v),some (.tuple #[.agg (fC (addF s.x.w (s.m.r s.x.dst.toNat) v)),.int .i64 (Flg.errW s.x.w)]),some (.tuple #[.agg (fC (addF s.x.w (s.m.r s.x.dst.toNat) v)),.int .i64 (Flg.errW s.x.w)]),some (.agg (fC (addF s.x.w (s.m.r s.x.dst.toNat) v))),some (.int .i64 (Flg.errW s.x.w)),some (pt g 0),some (pt g 0),some (pt g 16),none] mo f1.d f1.z f1.b (by kernel_rfl) ⟨b_g_1,trivial⟩ (
   hk (fun cx=>cx.q (ex_mv rfl (cx.rq 0 s0_2))) <|
   hk (fun cx=>cx.q (ex_mv rfl (cx.rq 0 s0_2))) <|
   hk (fun cx=>cx.q (ex_nc rfl (cx.u 0 rfl))) <|
   hk (fun cx=>cx.q (ex_fa rfl (cx.u 0 rfl) (faExC75_1_0 _ _))) <|
   hk (fun cx=>cx.q (ex_fa rfl (cx.u 0 rfl) (faExC26_1_22 _ _))) <|
   hk (fun cx=>cx.q (ex_ld rfl (cx.u 0 rfl) (cx.rf 0 rfl (by kernel_rfl)) rfl Tryd.isAgg24)) <|
   hk (fun cx=>cx.q (ex_mv rfl (cx.rq 0 s0_2))) <|
   hc (fun _ _ wx cx=>cx.c rfl (args1 (cx.u 0 rfl)) Tryd.func117 (by decide +kernel) (dst_n s g wx (cx.rf 0 rfl (by kernel_rfl)) hd) rfl rfl) <|
   hk (fun cx=>cx.q (ex_mv rfl (cx.rq 1 s1_3))) <|
   hc (fun _ _ wx cx=>cx.c rfl (args3 (cx.u 0 rfl) (cx.u 1 rfl) (cx.u 2 rfl)) Tryd.func116 (by decide +kernel) (Flg.add_n s.x.w (s.m.r s.x.dst.toNat) v wx (hM.r s.x.dst.toNat) hv) rfl rfl) <|
   kmu 0 <|
   hk (fun cx=>cx.q (ex_ext (x:=.tmp 5) rfl (cx.u 0 rfl) rfl)) <|
   hk (fun cx=>cx.q (ex_ext (x:=.tmp 5) rfl (cx.u 0 rfl) rfl)) <|
   hk (fun cx=>cx.q (ex_nc rfl (cx.u 0 rfl))) <|
   hk (fun cx=>cx.q (ex_fa rfl (cx.u 0 rfl) (faExC75_0_0 _ _))) <|
   hk (fun cx=>cx.q (ex_fa rfl (cx.u 0 rfl) (faExC36_1_0 _ _))) <|
   hk (fun cx=>cx.stP (wn rfl) rfl rfl 0 rfl (cx.u 0 rfl) (cx.u 1 rfl) (Flg.fC_one _) (by kernel_rfl) (Nat.le_of_ble_eq_true rfl) rfl hV rfl trivial trivial) <|
   hn) ?_
  intro a2 w2 f2
  have bt2:=But.step f2 bt1 f1.b ⟨.inr rfl,trivial⟩
  refine wp_seq ?_
  have s0_4:=f2.q 0 s0_2
  have s1_5:=f2.q 1 s1_3
  refine go_reg [⟨g,75,(exC (s.upF (addF s.x.w (s.m.r s.x.dst.toNat) v))),some 2,(exC ((s.upF (addF s.x.w (s.m.r s.x.dst.toNat) v)).upR s.x.dst.toNat (doI 0 s.x.w (s.m.r s.x.dst.toNat) v)))⟩] [] [some (pt g 0),some (.int .u64 v),some (.int .i64 0),some (.int .i64 0)] mo f2.d f2.z f2.b (by kernel_rfl) ⟨f2.rows.1,trivial⟩ (
   hk (fun cx=>cx.q (ex_mv rfl (cx.rq 0 s0_4))) <|
   hk (fun cx=>cx.q (ex_mv rfl (cx.rq 1 s1_5))) <|
   hc (fun _ _ wx cx=>callT cx (wn rfl) rfl (args3 (cx.u 0 rfl) rfl (cx.u 1 rfl)) Tryd.func118 (by decide +kernel) (compute_m (s.upF (addF s.x.w (s.m.r s.x.dst.toNat) v)) g 0 v wx (cx.ri 0 rfl) (MOk.upF hM _) hd hv) rfl rfl 0 rfl hV rfl trivial rfl) <|
   kmu 0 <|
   hn) ?_
  intro a3 w3 f3
  have bt3:=But.step f3 bt2 f2.b ⟨.inr rfl,trivial⟩
  refine wp_ret ?_
  try simp only [Exit.inBlock,Exit.then]
  refine bodyPost_ret (res_t (fn:=Tryd.f66) rfl (f3.v 3 rfl rfl rfl)) f3.d ?_
  exact ⟨rfl,bt3,f3.rows.1⟩
set_option maxHeartbeats 2000000 in
theorem subtract_m (s:Ex) (g:Nat) (v:Int) (W:World) (hr:W.heap[g]?=some (.cells (exC s) 75 (0,0))) (hM:MOk s.m) (hd:0 ≤ s.x.dst ∧ s.x.dst < 16) (hv:U64 v):Calls Tryd.prog 69 #[.pointer (some ⟨g,0,none⟩),.int .u64 v] W (RetT (.int .i64 0) (exC ((s.upF (subF s.x.w (s.m.r s.x.dst.toNat) v)).upR s.x.dst.toNat (doI 1 s.x.w (s.m.r s.x.dst.toNat) v))) 75 g W):=by
  refine calls_abs Tryd.func69 rfl (Nat.le_of_ble_eq_true rfl) ?_
  intro a0 d0 z0 h0
  replace z0:a0.tmps.size=11:=z0
  have s0_0:a0.tmps.getD 0 undef=.pointer (some ⟨g,0,none⟩):=h0 0 (Nat.le_of_ble_eq_true rfl)
  have s1_0:a0.tmps.getD 1 undef=.int .u64 v:=h0 1 (Nat.le_of_ble_eq_true rfl)
  have hB0:=cutW_below W g
  have hV:=cutW_size hr
  have bt0:=But.refl g W
  refine wp_seq ?_
  refine go_reg [] [] [some (.int .i64 0)] mo d0 z0 hB0 (by kernel_rfl) trivial (
   hk (fun cx=>cx.q (ex_as rfl rfl)) <|
   hn) ?_
  intro a1 w1 f1
  have bt1:=But.step f1 bt0 hB0 trivial
  refine wp_seq ?_
  have b_g_1:=f1.k hr
  have s0_2:=f1.q 0 s0_0
  have s1_3:=f1.q 1 s1_0
  refine go_reg [⟨g,75,(exC s),some 2,(exC (s.upF (subF s.x.w (s.m.r s.x.dst.toNat) v)))⟩] [] [some (pt g 0),some (.int .u64 v),some (.int .i64 0)] mo f1.d f1.z f1.b (by kernel_rfl) ⟨b_g_1,trivial⟩ (
   hk (fun cx=>cx.q (ex_mv rfl (cx.rq 0 s0_2))) <|
   hk (fun cx=>cx.q (ex_mv rfl (cx.rq 1 s1_3))) <|
   hc (fun _ _ wx cx=>callT cx (wn rfl) rfl (args2 (cx.u 0 rfl) (cx.u 1 rfl)) Tryd.func71 (by decide +kernel) (compare_m s g v wx (cx.ri 0 rfl) hM hd hv) rfl rfl 0 rfl hV rfl trivial rfl) <|
   hn) ?_
  intro a2 w2 f2
  have bt2:=But.step f2 bt1 f1.b ⟨.inr rfl,trivial⟩
  refine wp_seq ?_
  have s0_4:=f2.q 0 s0_2
  have s1_5:=f2.q 1 s1_3
  refine go_reg [⟨g,75,(exC (s.upF (subF s.x.w (s.m.r s.x.dst.toNat) v))),some 2,(exC ((s.upF (subF s.x.w (s.m.r s.x.dst.toNat) v)).upR s.x.dst.toNat (doI 1 s.x.w (s.m.r s.x.dst.toNat) v)))⟩] [] [some (pt g 0),some (.int .u64 v),some (.int .i64 0),some (.int .i64 0)] mo f2.d f2.z f2.b (by kernel_rfl) ⟨f2.rows.1,trivial⟩ (
   hk (fun cx=>cx.q (ex_mv rfl (cx.rq 0 s0_4))) <|
   hk (fun cx=>cx.q (ex_mv rfl (cx.rq 1 s1_5))) <|
   hc (fun _ _ wx cx=>callT cx (wn rfl) rfl (args3 (cx.u 0 rfl) rfl (cx.u 1 rfl)) Tryd.func118 (by decide +kernel) (compute_m (s.upF (subF s.x.w (s.m.r s.x.dst.toNat) v)) g 1 v wx (cx.ri 0 rfl) (MOk.upF hM _) hd hv) rfl rfl 0 rfl hV rfl trivial rfl) <|
   kmu 0 <|
   hn) ?_
  intro a3 w3 f3
  have bt3:=But.step f3 bt2 f2.b ⟨.inr rfl,trivial⟩
  refine wp_ret ?_
  try simp only [Exit.inBlock,Exit.then]
  refine bodyPost_ret (res_t (fn:=Tryd.f69) rfl (f3.v 3 rfl rfl rfl)) f3.d ?_
  exact ⟨rfl,bt3,f3.rows.1⟩
set_option maxHeartbeats 2000000 in
theorem and_m (s:Ex) (g:Nat) (v:Int) (W:World) (hr:W.heap[g]?=some (.cells (exC s) 75 (0,0))) (hM:MOk s.m) (hd:0 ≤ s.x.dst ∧ s.x.dst < 16) (hv:U64 v):Calls Tryd.prog 68 #[.pointer (some ⟨g,0,none⟩),.int .u64 v] W (RetT (.int .i64 0) (exC ((s.upF (ofF s.x.w (doI 5 s.x.w (s.m.r s.x.dst.toNat) v))).upR s.x.dst.toNat (doI 5 s.x.w (s.m.r s.x.dst.toNat) v))) 75 g W):=by
  refine calls_abs Tryd.func68 rfl (Nat.le_of_ble_eq_true rfl) ?_
  intro a0 d0 z0 h0
  replace z0:a0.tmps.size=11:=z0
  have s0_0:a0.tmps.getD 0 undef=.pointer (some ⟨g,0,none⟩):=h0 0 (Nat.le_of_ble_eq_true rfl)
  have s1_0:a0.tmps.getD 1 undef=.int .u64 v:=h0 1 (Nat.le_of_ble_eq_true rfl)
  have hB0:=cutW_below W g
  have hV:=cutW_size hr
  have bt0:=But.refl g W
  refine wp_seq ?_
  refine go_reg [] [] [some (.int .i64 0)] mo d0 z0 hB0 (by kernel_rfl) trivial (
   hk (fun cx=>cx.q (ex_as rfl rfl)) <|
   hn) ?_
  intro a1 w1 f1
  have bt1:=But.step f1 bt0 hB0 trivial
  refine wp_seq ?_
  have b_g_1:=f1.k hr
  have s0_2:=f1.q 0 s0_0
  have s1_3:=f1.q 1 s1_0
  refine go_reg [⟨g,75,(exC s),some 2,(exC (s.upF (ofF s.x.w (doI 5 s.x.w (s.m.r s.x.dst.toNat) v))))⟩] [] [some (pt g 0),some (.int .u64 v),some (.int .i64 0)] mo f1.d f1.z f1.b (by kernel_rfl) ⟨b_g_1,trivial⟩ (
   hk (fun cx=>cx.q (ex_mv rfl (cx.rq 0 s0_2))) <|
   hk (fun cx=>cx.q (ex_mv rfl (cx.rq 1 s1_3))) <|
   hc (fun _ _ wx cx=>callT cx (wn rfl) rfl (args2 (cx.u 0 rfl) (cx.u 1 rfl)) Tryd.func72 (by decide +kernel) (test_m s g v wx (cx.ri 0 rfl) hM hd hv) rfl rfl 0 rfl hV rfl trivial rfl) <|
   hn) ?_
  intro a2 w2 f2
  have bt2:=But.step f2 bt1 f1.b ⟨.inr rfl,trivial⟩
  refine wp_seq ?_
  have s0_4:=f2.q 0 s0_2
  have s1_5:=f2.q 1 s1_3
  refine go_reg [⟨g,75,(exC (s.upF (ofF s.x.w (doI 5 s.x.w (s.m.r s.x.dst.toNat) v)))),some 2,(exC ((s.upF (ofF s.x.w (doI 5 s.x.w (s.m.r s.x.dst.toNat) v))).upR s.x.dst.toNat (doI 5 s.x.w (s.m.r s.x.dst.toNat) v)))⟩] [] [some (pt g 0),some (.int .u64 v),some (.int .i64 0),some (.int .i64 0)] mo f2.d f2.z f2.b (by kernel_rfl) ⟨f2.rows.1,trivial⟩ (
   hk (fun cx=>cx.q (ex_mv rfl (cx.rq 0 s0_4))) <|
   hk (fun cx=>cx.q (ex_mv rfl (cx.rq 1 s1_5))) <|
   hc (fun _ _ wx cx=>callT cx (wn rfl) rfl (args3 (cx.u 0 rfl) rfl (cx.u 1 rfl)) Tryd.func118 (by decide +kernel) (compute_m (s.upF (ofF s.x.w (doI 5 s.x.w (s.m.r s.x.dst.toNat) v))) g 5 v wx (cx.ri 0 rfl) (MOk.upF hM _) hd hv) rfl rfl 0 rfl hV rfl trivial rfl) <|
   kmu 0 <|
   hn) ?_
  intro a3 w3 f3
  have bt3:=But.step f3 bt2 f2.b ⟨.inr rfl,trivial⟩
  refine wp_ret ?_
  try simp only [Exit.inBlock,Exit.then]
  refine bodyPost_ret (res_t (fn:=Tryd.f68) rfl (f3.v 3 rfl rfl rfl)) f3.d ?_
  exact ⟨rfl,bt3,f3.rows.1⟩
set_option maxHeartbeats 2000000 in
theorem or_m (s:Ex) (g:Nat) (v:Int) (W:World) (hr:W.heap[g]?=some (.cells (exC s) 75 (0,0))) (hM:MOk s.m) (hd:0 ≤ s.x.dst ∧ s.x.dst < 16) (hv:U64 v):Calls Tryd.prog 67 #[.pointer (some ⟨g,0,none⟩),.int .u64 v] W (RetT (.int .i64 0) (exC ((s.upF (ofF s.x.w (doI 4 s.x.w (s.m.r s.x.dst.toNat) v))).upR s.x.dst.toNat (doI 4 s.x.w (s.m.r s.x.dst.toNat) v))) 75 g W):=by
  refine calls_abs Tryd.func67 rfl (Nat.le_of_ble_eq_true rfl) ?_
  intro a0 d0 z0 h0
  replace z0:a0.tmps.size=12:=z0
  have s0_0:a0.tmps.getD 0 undef=.pointer (some ⟨g,0,none⟩):=h0 0 (Nat.le_of_ble_eq_true rfl)
  have s1_0:a0.tmps.getD 1 undef=.int .u64 v:=h0 1 (Nat.le_of_ble_eq_true rfl)
  have hB0:=cutW_below W g
  have hV:=cutW_size hr
  have bt0:=But.refl g W
  refine wp_seq ?_
  refine go_reg [] [] [some (.int .i64 0)] mo d0 z0 hB0 (by kernel_rfl) trivial (
   hk (fun cx=>cx.q (ex_as rfl rfl)) <|
   hn) ?_
  intro a1 w1 f1
  have bt1:=But.step f1 bt0 hB0 trivial
  refine wp_seq ?_
  have b_g_1:=f1.k hr
  have s0_2:=f1.q 0 s0_0
  have s1_3:=f1.q 1 s1_0
  refine go_reg [⟨g,75,(exC s),some 2,(exC (s.upR s.x.dst.toNat (doI 4 s.x.w (s.m.r s.x.dst.toNat) v)))⟩] [] [some (pt g 0),some (.int .u64 v),some (.int .i64 0)] mo f1.d f1.z f1.b (by kernel_rfl) ⟨b_g_1,trivial⟩ (
   hk (fun cx=>cx.q (ex_mv rfl (cx.rq 0 s0_2))) <|
   hk (fun cx=>cx.q (ex_mv rfl (cx.rq 1 s1_3))) <|
   hc (fun _ _ wx cx=>callT cx (wn rfl) rfl (args3 (cx.u 0 rfl) rfl (cx.u 1 rfl)) Tryd.func118 (by decide +kernel) (compute_m s g 4 v wx (cx.ri 0 rfl) hM hd hv) rfl rfl 0 rfl hV rfl trivial rfl) <|
   hn) ?_
  intro a2 w2 f2
  have bt2:=But.step f2 bt1 f1.b ⟨.inr rfl,trivial⟩
  refine wp_seq ?_
  have s0_4:=f2.q 0 s0_2
  refine go_reg [⟨g,75,(exC (s.upR s.x.dst.toNat (doI 4 s.x.w (s.m.r s.x.dst.toNat) v))),some 3,(exC ((s.upR s.x.dst.toNat (doI 4 s.x.w (s.m.r s.x.dst.toNat) v)).upF (ofF s.x.w (doI 4 s.x.w (s.m.r s.x.dst.toNat) v))))⟩] [] [some (pt g 0),some (pt g 0),some (.int .u64 (doI 4 s.x.w (s.m.r s.x.dst.toNat) v)),some (.int .i64 0),some (.int .i64 0)] mo f2.d f2.z f2.b (by kernel_rfl) ⟨f2.rows.1,trivial⟩ (
   hk (fun cx=>cx.q (ex_mv rfl (cx.rq 0 s0_4))) <|
   hk (fun cx=>cx.q (ex_mv rfl (cx.rq 0 s0_4))) <|
   hc (fun _ _ wx cx=>cx.c rfl (args1 (cx.u 0 rfl)) Tryd.func117 (by decide +kernel) (dst_n (s.upR s.x.dst.toNat (doI 4 s.x.w (s.m.r s.x.dst.toNat) v)) g wx (cx.rf 0 rfl (by kernel_rfl)) hd) rfl (congrArg (Value.int .u64) (upR_self s s.x.dst.toNat (doI 4 s.x.w (s.m.r s.x.dst.toNat) v)))) <|
   hc (fun _ _ wx cx=>callT cx (wn rfl) rfl (args2 (cx.u 0 rfl) (cx.u 1 rfl)) Tryd.func119 (by decide +kernel) (flagsOf_m (s.upR s.x.dst.toNat (doI 4 s.x.w (s.m.r s.x.dst.toNat) v)) g (doI 4 s.x.w (s.m.r s.x.dst.toNat) v) wx (cx.ri 0 rfl) (U64.do_ 4 s.x.w (hM.r s.x.dst.toNat) hv)) rfl rfl 0 rfl hV rfl trivial rfl) <|
   kmu 0 <|
   hn) ?_
  intro a3 w3 f3
  have bt3:=But.step f3 bt2 f2.b ⟨.inr rfl,trivial⟩
  refine wp_ret ?_
  try simp only [Exit.inBlock,Exit.then]
  refine bodyPost_ret (res_t (fn:=Tryd.f67) rfl (f3.v 4 rfl rfl rfl)) f3.d ?_
  exact ⟨rfl,bt3,f3.rows.1⟩
set_option maxHeartbeats 2000000 in
theorem xor_m (s:Ex) (g:Nat) (v:Int) (W:World) (hr:W.heap[g]?=some (.cells (exC s) 75 (0,0))) (hM:MOk s.m) (hd:0 ≤ s.x.dst ∧ s.x.dst < 16) (hv:U64 v):Calls Tryd.prog 70 #[.pointer (some ⟨g,0,none⟩),.int .u64 v] W (RetT (.int .i64 0) (exC ((s.upF (ofF s.x.w (doI 10 s.x.w (s.m.r s.x.dst.toNat) v))).upR s.x.dst.toNat (doI 10 s.x.w (s.m.r s.x.dst.toNat) v))) 75 g W):=by
  refine calls_abs Tryd.func70 rfl (Nat.le_of_ble_eq_true rfl) ?_
  intro a0 d0 z0 h0
  replace z0:a0.tmps.size=12:=z0
  have s0_0:a0.tmps.getD 0 undef=.pointer (some ⟨g,0,none⟩):=h0 0 (Nat.le_of_ble_eq_true rfl)
  have s1_0:a0.tmps.getD 1 undef=.int .u64 v:=h0 1 (Nat.le_of_ble_eq_true rfl)
  have hB0:=cutW_below W g
  have hV:=cutW_size hr
  have bt0:=But.refl g W
  refine wp_seq ?_
  refine go_reg [] [] [some (.int .i64 0)] mo d0 z0 hB0 (by kernel_rfl) trivial (
   hk (fun cx=>cx.q (ex_as rfl rfl)) <|
   hn) ?_
  intro a1 w1 f1
  have bt1:=But.step f1 bt0 hB0 trivial
  refine wp_seq ?_
  have b_g_1:=f1.k hr
  have s0_2:=f1.q 0 s0_0
  have s1_3:=f1.q 1 s1_0
  refine go_reg [⟨g,75,(exC s),some 2,(exC (s.upR s.x.dst.toNat (doI 10 s.x.w (s.m.r s.x.dst.toNat) v)))⟩] [] [some (pt g 0),some (.int .u64 v),some (.int .i64 0)] mo f1.d f1.z f1.b (by kernel_rfl) ⟨b_g_1,trivial⟩ (
   hk (fun cx=>cx.q (ex_mv rfl (cx.rq 0 s0_2))) <|
   hk (fun cx=>cx.q (ex_mv rfl (cx.rq 1 s1_3))) <|
   hc (fun _ _ wx cx=>callT cx (wn rfl) rfl (args3 (cx.u 0 rfl) rfl (cx.u 1 rfl)) Tryd.func118 (by decide +kernel) (compute_m s g 10 v wx (cx.ri 0 rfl) hM hd hv) rfl rfl 0 rfl hV rfl trivial rfl) <|
   hn) ?_
  intro a2 w2 f2
  have bt2:=But.step f2 bt1 f1.b ⟨.inr rfl,trivial⟩
  refine wp_seq ?_
  have s0_4:=f2.q 0 s0_2
  refine go_reg [⟨g,75,(exC (s.upR s.x.dst.toNat (doI 10 s.x.w (s.m.r s.x.dst.toNat) v))),some 3,(exC ((s.upR s.x.dst.toNat (doI 10 s.x.w (s.m.r s.x.dst.toNat) v)).upF (ofF s.x.w (doI 10 s.x.w (s.m.r s.x.dst.toNat) v))))⟩] [] [some (pt g 0),some (pt g 0),some (.int .u64 (doI 10 s.x.w (s.m.r s.x.dst.toNat) v)),some (.int .i64 0),some (.int .i64 0)] mo f2.d f2.z f2.b (by kernel_rfl) ⟨f2.rows.1,trivial⟩ (
   hk (fun cx=>cx.q (ex_mv rfl (cx.rq 0 s0_4))) <|
   hk (fun cx=>cx.q (ex_mv rfl (cx.rq 0 s0_4))) <|
   hc (fun _ _ wx cx=>cx.c rfl (args1 (cx.u 0 rfl)) Tryd.func117 (by decide +kernel) (dst_n (s.upR s.x.dst.toNat (doI 10 s.x.w (s.m.r s.x.dst.toNat) v)) g wx (cx.rf 0 rfl (by kernel_rfl)) hd) rfl (congrArg (Value.int .u64) (upR_self s s.x.dst.toNat (doI 10 s.x.w (s.m.r s.x.dst.toNat) v)))) <|
   hc (fun _ _ wx cx=>callT cx (wn rfl) rfl (args2 (cx.u 0 rfl) (cx.u 1 rfl)) Tryd.func119 (by decide +kernel) (flagsOf_m (s.upR s.x.dst.toNat (doI 10 s.x.w (s.m.r s.x.dst.toNat) v)) g (doI 10 s.x.w (s.m.r s.x.dst.toNat) v) wx (cx.ri 0 rfl) (U64.do_ 10 s.x.w (hM.r s.x.dst.toNat) hv)) rfl rfl 0 rfl hV rfl trivial rfl) <|
   kmu 0 <|
   hn) ?_
  intro a3 w3 f3
  have bt3:=But.step f3 bt2 f2.b ⟨.inr rfl,trivial⟩
  refine wp_ret ?_
  try simp only [Exit.inBlock,Exit.then]
  refine bodyPost_ret (res_t (fn:=Tryd.f70) rfl (f3.v 4 rfl rfl rfl)) f3.d ?_
  exact ⟨rfl,bt3,f3.rows.1⟩
set_option maxHeartbeats 2000000 in
theorem negate_m (s:Ex) (g:Nat) (v:Int) (W:World) (hr:W.heap[g]?=some (.cells (exC s) 75 (0,0))) (hM:MOk s.m) (hd:0 ≤ s.x.dst ∧ s.x.dst < 16) (hv:U64 v):Calls Tryd.prog 77 #[.pointer (some ⟨g,0,none⟩),.int .u64 v] W (RetT (.int .i64 0) (exC ((s.upF (subF s.x.w 0 (s.m.r s.x.dst.toNat))).upR s.x.dst.toNat (doI 8 s.x.w (s.m.r s.x.dst.toNat) 0))) 75 g W):=by
  refine calls_abs Tryd.func77 rfl (Nat.le_of_ble_eq_true rfl) ?_
  intro a0 d0 z0 h0
  replace z0:a0.tmps.size=22:=z0
  have s0_0:a0.tmps.getD 0 undef=.pointer (some ⟨g,0,none⟩):=h0 0 (Nat.le_of_ble_eq_true rfl)
  have s1_0:a0.tmps.getD 1 undef=.int .u64 v:=h0 1 (Nat.le_of_ble_eq_true rfl)
  have hB0:=cutW_below W g
  have hV:=cutW_size hr
  have bt0:=But.refl g W
  refine wp_seq ?_
  refine go_reg [] [] [some (.int .i64 0)] mo d0 z0 hB0 (by kernel_rfl) trivial (
   hk (fun cx=>cx.q (ex_as rfl rfl)) <|
   hn) ?_
  intro a1 w1 f1
  have bt1:=But.step f1 bt0 hB0 trivial
  refine wp_seq ?_
  have b_g_1:=f1.k hr
  have s0_2:=f1.q 0 s0_0
  refine go_reg [⟨g,75,(exC s),some 15,(exC (s.upF (subF s.x.w 0 (s.m.r s.x.dst.toNat))))⟩] [] [some (pt g 0),some (pt g 0),some (pt g 0),some (pt g 22),some (pt g 23),some (.int .i8 s.x.w),some (pt g 0),some (.int .u64 (s.m.r s.x.dst.toNat)),some (.tuple #[.agg (fC (subF s.x.w 0 (s.m.r s.x.dst.toNat))),.int .i64 (Flg.errW s.x.w)]),some (.tuple #[.agg (fC (subF s.x.w 0 (s.m.r s.x.dst.toNat))),.int .i64 (Flg.errW s.x.w)]),some (.agg (fC (subF s.x.w 0 (s.m.r s.x.dst.toNat)))),some (.int .i64 (Flg.errW s.x.w)),some (pt g 0),some (pt g 0),some (pt g 16),none] mo f1.d f1.z f1.b (by kernel_rfl) ⟨b_g_1,trivial⟩ (
   hk (fun cx=>cx.q (ex_mv rfl (cx.rq 0 s0_2))) <|
   hk (fun cx=>cx.q (ex_mv rfl (cx.rq 0 s0_2))) <|
   hk (fun cx=>cx.q (ex_nc rfl (cx.u 0 rfl))) <|
   hk (fun cx=>cx.q (ex_fa rfl (cx.u 0 rfl) (faExC75_1_0 _ _))) <|
   hk (fun cx=>cx.q (ex_fa rfl (cx.u 0 rfl) (faExC26_1_22 _ _))) <|
   hk (fun cx=>cx.q (ex_ld rfl (cx.u 0 rfl) (cx.rf 0 rfl (by kernel_rfl)) rfl Tryd.isAgg24)) <|
   hk (fun cx=>cx.q (ex_mv rfl (cx.rq 0 s0_2))) <|
   hc (fun _ _ wx cx=>cx.c rfl (args1 (cx.u 0 rfl)) Tryd.func117 (by decide +kernel) (dst_n s g wx (cx.rf 0 rfl (by kernel_rfl)) hd) rfl rfl) <|
   hc (fun _ _ wx cx=>cx.c rfl (args3 (cx.u 0 rfl) rfl (cx.u 1 rfl)) Tryd.func120 (by decide +kernel) (Flg.sub_n s.x.w 0 (s.m.r s.x.dst.toNat) wx (⟨by omega,by omega⟩:U64 0) (hM.r s.x.dst.toNat)) rfl rfl) <|
   kmu 0 <|
   hk (fun cx=>cx.q (ex_ext (x:=.tmp 5) rfl (cx.u 0 rfl) rfl)) <|
   hk (fun cx=>cx.q (ex_ext (x:=.tmp 5) rfl (cx.u 0 rfl) rfl)) <|
   hk (fun cx=>cx.q (ex_nc rfl (cx.u 0 rfl))) <|
   hk (fun cx=>cx.q (ex_fa rfl (cx.u 0 rfl) (faExC75_0_0 _ _))) <|
   hk (fun cx=>cx.q (ex_fa rfl (cx.u 0 rfl) (faExC36_1_0 _ _))) <|
   hk (fun cx=>cx.stP (wn rfl) rfl rfl 0 rfl (cx.u 0 rfl) (cx.u 1 rfl) (Flg.fC_one _) (by kernel_rfl) (Nat.le_of_ble_eq_true rfl) rfl hV rfl trivial trivial) <|
   hn) ?_
  intro a2 w2 f2
  have bt2:=But.step f2 bt1 f1.b ⟨.inr rfl,trivial⟩
  refine wp_seq ?_
  have s0_3:=f2.q 0 s0_2
  refine go_reg [⟨g,75,(exC (s.upF (subF s.x.w 0 (s.m.r s.x.dst.toNat)))),some 1,(exC ((s.upF (subF s.x.w 0 (s.m.r s.x.dst.toNat))).upR s.x.dst.toNat (doI 8 s.x.w (s.m.r s.x.dst.toNat) 0)))⟩] [] [some (pt g 0),some (.int .i64 0),some (.int .i64 0)] mo f2.d f2.z f2.b (by kernel_rfl) ⟨f2.rows.1,trivial⟩ (
   hk (fun cx=>cx.q (ex_mv rfl (cx.rq 0 s0_3))) <|
   hc (fun _ _ wx cx=>callT cx (wn rfl) rfl (args3 (cx.u 0 rfl) rfl rfl) Tryd.func118 (by decide +kernel) (compute_m (s.upF (subF s.x.w 0 (s.m.r s.x.dst.toNat))) g 8 0 wx (cx.ri 0 rfl) (MOk.upF hM _) hd (⟨by omega,by omega⟩:U64 0)) rfl rfl 0 rfl hV rfl trivial rfl) <|
   kmu 0 <|
   hn) ?_
  intro a3 w3 f3
  have bt3:=But.step f3 bt2 f2.b ⟨.inr rfl,trivial⟩
  refine wp_ret ?_
  try simp only [Exit.inBlock,Exit.then]
  refine bodyPost_ret (res_t (fn:=Tryd.f77) rfl (f3.v 2 rfl rfl rfl)) f3.d ?_
  exact ⟨rfl,bt3,f3.rows.1⟩
set_option maxHeartbeats 2000000 in
theorem multiply_m (s:Ex) (g:Nat) (v:Int) (W:World) (hr:W.heap[g]?=some (.cells (exC s) 75 (0,0))) (hM:MOk s.m) (hd:0 ≤ s.x.dst ∧ s.x.dst < 16) (hv:U64 v):Calls Tryd.prog 73 #[.pointer (some ⟨g,0,none⟩),.int .u64 v] W (RetT (.int .i64 0) (exC ((s.upF zF).upR s.x.dst.toNat (doI 2 s.x.w (s.m.r s.x.dst.toNat) v))) 75 g W):=by
  refine calls_abs Tryd.func73 rfl (Nat.le_of_ble_eq_true rfl) ?_
  intro a0 d0 z0 h0
  replace z0:a0.tmps.size=13:=z0
  have s0_0:a0.tmps.getD 0 undef=.pointer (some ⟨g,0,none⟩):=h0 0 (Nat.le_of_ble_eq_true rfl)
  have s1_0:a0.tmps.getD 1 undef=.int .u64 v:=h0 1 (Nat.le_of_ble_eq_true rfl)
  have hB0:=cutW_below W g
  have hV:=cutW_size hr
  have bt0:=But.refl g W
  refine wp_seq ?_
  refine go_reg [] [] [some (.int .i64 0)] mo d0 z0 hB0 (by kernel_rfl) trivial (
   hk (fun cx=>cx.q (ex_as rfl rfl)) <|
   hn) ?_
  intro a1 w1 f1
  have bt1:=But.step f1 bt0 hB0 trivial
  refine wp_seq ?_
  have b_g_1:=f1.k hr
  have s0_2:=f1.q 0 s0_0
  refine go_reg [⟨g,75,(exC s),some 5,(exC (s.upF zF))⟩] [] [some (pt g 0),some (.agg (fC zF)),some (pt g 0),some (pt g 0),some (pt g 16),none] mo f1.d f1.z f1.b (by kernel_rfl) ⟨b_g_1,trivial⟩ (
   hk (fun cx=>cx.q (ex_mv rfl (cx.rq 0 s0_2))) <|
   hc (fun _ _ wx cx=>cx.c rfl (args0 ) Tryd.func121 (by decide +kernel) (Flg.none_n wx) rfl rfl) <|
   hk (fun cx=>cx.q (ex_nc rfl (cx.u 0 rfl))) <|
   hk (fun cx=>cx.q (ex_fa rfl (cx.u 0 rfl) (faExC75_0_0 _ _))) <|
   hk (fun cx=>cx.q (ex_fa rfl (cx.u 0 rfl) (faExC36_1_0 _ _))) <|
   hk (fun cx=>cx.stP (wn rfl) rfl rfl 0 rfl (cx.u 0 rfl) (cx.u 1 rfl) (Flg.fC_one _) (by kernel_rfl) (Nat.le_of_ble_eq_true rfl) rfl hV rfl trivial trivial) <|
   hn) ?_
  intro a2 w2 f2
  have bt2:=But.step f2 bt1 f1.b ⟨.inr rfl,trivial⟩
  refine wp_seq ?_
  have s0_3:=f2.q 0 s0_2
  have s1_4:=f2.q 1 (f1.q 1 s1_0)
  refine go_reg [⟨g,75,(exC (s.upF zF)),some 2,(exC ((s.upF zF).upR s.x.dst.toNat (doI 2 s.x.w (s.m.r s.x.dst.toNat) v)))⟩] [] [some (pt g 0),some (.int .u64 v),some (.int .i64 0),some (.int .i64 0)] mo f2.d f2.z f2.b (by kernel_rfl) ⟨f2.rows.1,trivial⟩ (
   hk (fun cx=>cx.q (ex_mv rfl (cx.rq 0 s0_3))) <|
   hk (fun cx=>cx.q (ex_mv rfl (cx.rq 1 s1_4))) <|
   hc (fun _ _ wx cx=>callT cx (wn rfl) rfl (args3 (cx.u 0 rfl) rfl (cx.u 1 rfl)) Tryd.func118 (by decide +kernel) (compute_m (s.upF zF) g 2 v wx (cx.ri 0 rfl) (MOk.upF hM _) hd hv) rfl rfl 0 rfl hV rfl trivial rfl) <|
   kmu 0 <|
   hn) ?_
  intro a3 w3 f3
  have bt3:=But.step f3 bt2 f2.b ⟨.inr rfl,trivial⟩
  refine wp_ret ?_
  try simp only [Exit.inBlock,Exit.then]
  refine bodyPost_ret (res_t (fn:=Tryd.f73) rfl (f3.v 3 rfl rfl rfl)) f3.d ?_
  exact ⟨rfl,bt3,f3.rows.1⟩
set_option maxHeartbeats 2000000 in
theorem shiftLeft_m (s:Ex) (g:Nat) (v:Int) (W:World) (hr:W.heap[g]?=some (.cells (exC s) 75 (0,0))) (hM:MOk s.m) (hd:0 ≤ s.x.dst ∧ s.x.dst < 16) (hv:U64 v):Calls Tryd.prog 74 #[.pointer (some ⟨g,0,none⟩),.int .u64 v] W (RetT (.int .i64 0) (exC ((s.upF zF).upR s.x.dst.toNat (doI 6 s.x.w (s.m.r s.x.dst.toNat) v))) 75 g W):=by
  refine calls_abs Tryd.func74 rfl (Nat.le_of_ble_eq_true rfl) ?_
  intro a0 d0 z0 h0
  replace z0:a0.tmps.size=13:=z0
  have s0_0:a0.tmps.getD 0 undef=.pointer (some ⟨g,0,none⟩):=h0 0 (Nat.le_of_ble_eq_true rfl)
  have s1_0:a0.tmps.getD 1 undef=.int .u64 v:=h0 1 (Nat.le_of_ble_eq_true rfl)
  have hB0:=cutW_below W g
  have hV:=cutW_size hr
  have bt0:=But.refl g W
  refine wp_seq ?_
  refine go_reg [] [] [some (.int .i64 0)] mo d0 z0 hB0 (by kernel_rfl) trivial (
   hk (fun cx=>cx.q (ex_as rfl rfl)) <|
   hn) ?_
  intro a1 w1 f1
  have bt1:=But.step f1 bt0 hB0 trivial
  refine wp_seq ?_
  have b_g_1:=f1.k hr
  have s0_2:=f1.q 0 s0_0
  refine go_reg [⟨g,75,(exC s),some 5,(exC (s.upF zF))⟩] [] [some (pt g 0),some (.agg (fC zF)),some (pt g 0),some (pt g 0),some (pt g 16),none] mo f1.d f1.z f1.b (by kernel_rfl) ⟨b_g_1,trivial⟩ (
   hk (fun cx=>cx.q (ex_mv rfl (cx.rq 0 s0_2))) <|
   hc (fun _ _ wx cx=>cx.c rfl (args0 ) Tryd.func121 (by decide +kernel) (Flg.none_n wx) rfl rfl) <|
   hk (fun cx=>cx.q (ex_nc rfl (cx.u 0 rfl))) <|
   hk (fun cx=>cx.q (ex_fa rfl (cx.u 0 rfl) (faExC75_0_0 _ _))) <|
   hk (fun cx=>cx.q (ex_fa rfl (cx.u 0 rfl) (faExC36_1_0 _ _))) <|
   hk (fun cx=>cx.stP (wn rfl) rfl rfl 0 rfl (cx.u 0 rfl) (cx.u 1 rfl) (Flg.fC_one _) (by kernel_rfl) (Nat.le_of_ble_eq_true rfl) rfl hV rfl trivial trivial) <|
   hn) ?_
  intro a2 w2 f2
  have bt2:=But.step f2 bt1 f1.b ⟨.inr rfl,trivial⟩
  refine wp_seq ?_
  have s0_3:=f2.q 0 s0_2
  have s1_4:=f2.q 1 (f1.q 1 s1_0)
  refine go_reg [⟨g,75,(exC (s.upF zF)),some 2,(exC ((s.upF zF).upR s.x.dst.toNat (doI 6 s.x.w (s.m.r s.x.dst.toNat) v)))⟩] [] [some (pt g 0),some (.int .u64 v),some (.int .i64 0),some (.int .i64 0)] mo f2.d f2.z f2.b (by kernel_rfl) ⟨f2.rows.1,trivial⟩ (
   hk (fun cx=>cx.q (ex_mv rfl (cx.rq 0 s0_3))) <|
   hk (fun cx=>cx.q (ex_mv rfl (cx.rq 1 s1_4))) <|
   hc (fun _ _ wx cx=>callT cx (wn rfl) rfl (args3 (cx.u 0 rfl) rfl (cx.u 1 rfl)) Tryd.func118 (by decide +kernel) (compute_m (s.upF zF) g 6 v wx (cx.ri 0 rfl) (MOk.upF hM _) hd hv) rfl rfl 0 rfl hV rfl trivial rfl) <|
   kmu 0 <|
   hn) ?_
  intro a3 w3 f3
  have bt3:=But.step f3 bt2 f2.b ⟨.inr rfl,trivial⟩
  refine wp_ret ?_
  try simp only [Exit.inBlock,Exit.then]
  refine bodyPost_ret (res_t (fn:=Tryd.f74) rfl (f3.v 3 rfl rfl rfl)) f3.d ?_
  exact ⟨rfl,bt3,f3.rows.1⟩
set_option maxHeartbeats 2000000 in
theorem shiftRight_m (s:Ex) (g:Nat) (v:Int) (W:World) (hr:W.heap[g]?=some (.cells (exC s) 75 (0,0))) (hM:MOk s.m) (hd:0 ≤ s.x.dst ∧ s.x.dst < 16) (hv:U64 v):Calls Tryd.prog 75 #[.pointer (some ⟨g,0,none⟩),.int .u64 v] W (RetT (.int .i64 0) (exC ((s.upF zF).upR s.x.dst.toNat (doI 7 s.x.w (s.m.r s.x.dst.toNat) v))) 75 g W):=by
  refine calls_abs Tryd.func75 rfl (Nat.le_of_ble_eq_true rfl) ?_
  intro a0 d0 z0 h0
  replace z0:a0.tmps.size=13:=z0
  have s0_0:a0.tmps.getD 0 undef=.pointer (some ⟨g,0,none⟩):=h0 0 (Nat.le_of_ble_eq_true rfl)
  have s1_0:a0.tmps.getD 1 undef=.int .u64 v:=h0 1 (Nat.le_of_ble_eq_true rfl)
  have hB0:=cutW_below W g
  have hV:=cutW_size hr
  have bt0:=But.refl g W
  refine wp_seq ?_
  refine go_reg [] [] [some (.int .i64 0)] mo d0 z0 hB0 (by kernel_rfl) trivial (
   hk (fun cx=>cx.q (ex_as rfl rfl)) <|
   hn) ?_
  intro a1 w1 f1
  have bt1:=But.step f1 bt0 hB0 trivial
  refine wp_seq ?_
  have b_g_1:=f1.k hr
  have s0_2:=f1.q 0 s0_0
  refine go_reg [⟨g,75,(exC s),some 5,(exC (s.upF zF))⟩] [] [some (pt g 0),some (.agg (fC zF)),some (pt g 0),some (pt g 0),some (pt g 16),none] mo f1.d f1.z f1.b (by kernel_rfl) ⟨b_g_1,trivial⟩ (
   hk (fun cx=>cx.q (ex_mv rfl (cx.rq 0 s0_2))) <|
   hc (fun _ _ wx cx=>cx.c rfl (args0 ) Tryd.func121 (by decide +kernel) (Flg.none_n wx) rfl rfl) <|
   hk (fun cx=>cx.q (ex_nc rfl (cx.u 0 rfl))) <|
   hk (fun cx=>cx.q (ex_fa rfl (cx.u 0 rfl) (faExC75_0_0 _ _))) <|
   hk (fun cx=>cx.q (ex_fa rfl (cx.u 0 rfl) (faExC36_1_0 _ _))) <|
   hk (fun cx=>cx.stP (wn rfl) rfl rfl 0 rfl (cx.u 0 rfl) (cx.u 1 rfl) (Flg.fC_one _) (by kernel_rfl) (Nat.le_of_ble_eq_true rfl) rfl hV rfl trivial trivial) <|
   hn) ?_
  intro a2 w2 f2
  have bt2:=But.step f2 bt1 f1.b ⟨.inr rfl,trivial⟩
  refine wp_seq ?_
  have s0_3:=f2.q 0 s0_2
  have s1_4:=f2.q 1 (f1.q 1 s1_0)
  refine go_reg [⟨g,75,(exC (s.upF zF)),some 2,(exC ((s.upF zF).upR s.x.dst.toNat (doI 7 s.x.w (s.m.r s.x.dst.toNat) v)))⟩] [] [some (pt g 0),some (.int .u64 v),some (.int .i64 0),some (.int .i64 0)] mo f2.d f2.z f2.b (by kernel_rfl) ⟨f2.rows.1,trivial⟩ (
   hk (fun cx=>cx.q (ex_mv rfl (cx.rq 0 s0_3))) <|
   hk (fun cx=>cx.q (ex_mv rfl (cx.rq 1 s1_4))) <|
   hc (fun _ _ wx cx=>callT cx (wn rfl) rfl (args3 (cx.u 0 rfl) rfl (cx.u 1 rfl)) Tryd.func118 (by decide +kernel) (compute_m (s.upF zF) g 7 v wx (cx.ri 0 rfl) (MOk.upF hM _) hd hv) rfl rfl 0 rfl hV rfl trivial rfl) <|
   kmu 0 <|
   hn) ?_
  intro a3 w3 f3
  have bt3:=But.step f3 bt2 f2.b ⟨.inr rfl,trivial⟩
  refine wp_ret ?_
  try simp only [Exit.inBlock,Exit.then]
  refine bodyPost_ret (res_t (fn:=Tryd.f75) rfl (f3.v 3 rfl rfl rfl)) f3.d ?_
  exact ⟨rfl,bt3,f3.rows.1⟩
set_option maxHeartbeats 2000000 in
theorem shiftSigned_m (s:Ex) (g:Nat) (v:Int) (W:World) (hr:W.heap[g]?=some (.cells (exC s) 75 (0,0))) (hM:MOk s.m) (hd:0 ≤ s.x.dst ∧ s.x.dst < 16) (hv:U64 v):Calls Tryd.prog 76 #[.pointer (some ⟨g,0,none⟩),.int .u64 v] W (RetT (.int .i64 0) (exC ((s.upF zF).upR s.x.dst.toNat (doI 12 s.x.w (s.m.r s.x.dst.toNat) v))) 75 g W):=by
  refine calls_abs Tryd.func76 rfl (Nat.le_of_ble_eq_true rfl) ?_
  intro a0 d0 z0 h0
  replace z0:a0.tmps.size=13:=z0
  have s0_0:a0.tmps.getD 0 undef=.pointer (some ⟨g,0,none⟩):=h0 0 (Nat.le_of_ble_eq_true rfl)
  have s1_0:a0.tmps.getD 1 undef=.int .u64 v:=h0 1 (Nat.le_of_ble_eq_true rfl)
  have hB0:=cutW_below W g
  have hV:=cutW_size hr
  have bt0:=But.refl g W
  refine wp_seq ?_
  refine go_reg [] [] [some (.int .i64 0)] mo d0 z0 hB0 (by kernel_rfl) trivial (
   hk (fun cx=>cx.q (ex_as rfl rfl)) <|
   hn) ?_
  intro a1 w1 f1
  have bt1:=But.step f1 bt0 hB0 trivial
  refine wp_seq ?_
  have b_g_1:=f1.k hr
  have s0_2:=f1.q 0 s0_0
  refine go_reg [⟨g,75,(exC s),some 5,(exC (s.upF zF))⟩] [] [some (pt g 0),some (.agg (fC zF)),some (pt g 0),some (pt g 0),some (pt g 16),none] mo f1.d f1.z f1.b (by kernel_rfl) ⟨b_g_1,trivial⟩ (
   hk (fun cx=>cx.q (ex_mv rfl (cx.rq 0 s0_2))) <|
   hc (fun _ _ wx cx=>cx.c rfl (args0 ) Tryd.func121 (by decide +kernel) (Flg.none_n wx) rfl rfl) <|
   hk (fun cx=>cx.q (ex_nc rfl (cx.u 0 rfl))) <|
   hk (fun cx=>cx.q (ex_fa rfl (cx.u 0 rfl) (faExC75_0_0 _ _))) <|
   hk (fun cx=>cx.q (ex_fa rfl (cx.u 0 rfl) (faExC36_1_0 _ _))) <|
   hk (fun cx=>cx.stP (wn rfl) rfl rfl 0 rfl (cx.u 0 rfl) (cx.u 1 rfl) (Flg.fC_one _) (by kernel_rfl) (Nat.le_of_ble_eq_true rfl) rfl hV rfl trivial trivial) <|
   hn) ?_
  intro a2 w2 f2
  have bt2:=But.step f2 bt1 f1.b ⟨.inr rfl,trivial⟩
  refine wp_seq ?_
  have s0_3:=f2.q 0 s0_2
  have s1_4:=f2.q 1 (f1.q 1 s1_0)
  refine go_reg [⟨g,75,(exC (s.upF zF)),some 2,(exC ((s.upF zF).upR s.x.dst.toNat (doI 12 s.x.w (s.m.r s.x.dst.toNat) v)))⟩] [] [some (pt g 0),some (.int .u64 v),some (.int .i64 0),some (.int .i64 0)] mo f2.d f2.z f2.b (by kernel_rfl) ⟨f2.rows.1,trivial⟩ (
   hk (fun cx=>cx.q (ex_mv rfl (cx.rq 0 s0_3))) <|
   hk (fun cx=>cx.q (ex_mv rfl (cx.rq 1 s1_4))) <|
   hc (fun _ _ wx cx=>callT cx (wn rfl) rfl (args3 (cx.u 0 rfl) rfl (cx.u 1 rfl)) Tryd.func118 (by decide +kernel) (compute_m (s.upF zF) g 12 v wx (cx.ri 0 rfl) (MOk.upF hM _) hd hv) rfl rfl 0 rfl hV rfl trivial rfl) <|
   kmu 0 <|
   hn) ?_
  intro a3 w3 f3
  have bt3:=But.step f3 bt2 f2.b ⟨.inr rfl,trivial⟩
  refine wp_ret ?_
  try simp only [Exit.inBlock,Exit.then]
  refine bodyPost_ret (res_t (fn:=Tryd.f76) rfl (f3.v 3 rfl rfl rfl)) f3.d ?_
  exact ⟨rfl,bt3,f3.rows.1⟩
end Go.Proofs.YtoghjpliemidkaaDoor.Exe
