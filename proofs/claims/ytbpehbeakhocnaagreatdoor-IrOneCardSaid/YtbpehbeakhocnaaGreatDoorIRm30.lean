import Derived.Test.YtbpehbeakhocnaaGreatDoorIRm29
set_option maxHeartbeats 2000000
set_option linter.unusedVariables false
set_option linter.unusedSimpArgs false
set_option linter.unnecessarySimpa false
namespace Go.Proofs.YtbpehbeakhocnaaGreatDoor.Exe
open Go Go.RowKit
open Mrm (Xi xC zX mayX bytesX)
open Flg (Fl fC zF addF subF ofF holF holE mayC)
set_option maxRecDepth 100000
theorem faExD75_0_0 (g:Nat) (w:World):(Instr.fieldAt 65 (.pointer (some ⟨g,0,none⟩)) 0).run Tryz.prog w=.ok (.pointer (some ⟨g,0,none⟩)) w:=by simp [go_sem]
theorem faExD36_2_0 (g:Nat) (w:World):(Instr.fieldAt 30 (.pointer (some ⟨g,0,none⟩)) 2).run Tryz.prog w=.ok (.pointer (some ⟨g,21,none⟩)) w:=by simp [go_sem]
theorem faExD36_0_0 (g:Nat) (w:World):(Instr.fieldAt 30 (.pointer (some ⟨g,0,none⟩)) 0).run Tryz.prog w=.ok (.pointer (some ⟨g,0,none⟩)) w:=by simp [go_sem]
theorem faExD75_1_0 (g:Nat) (w:World):(Instr.fieldAt 65 (.pointer (some ⟨g,0,none⟩)) 1).run Tryz.prog w=.ok (.pointer (some ⟨g,22,none⟩)) w:=by simp [go_sem]
theorem faExD26_7_22 (g:Nat) (w:World):(Instr.fieldAt 38 (.pointer (some ⟨g,22,none⟩)) 7).run Tryz.prog w=.ok (.pointer (some ⟨g,29,none⟩)) w:=by simp [go_sem]
theorem faExD36_1_0 (g:Nat) (w:World):(Instr.fieldAt 30 (.pointer (some ⟨g,0,none⟩)) 1).run Tryz.prog w=.ok (.pointer (some ⟨g,16,none⟩)) w:=by simp [go_sem]
theorem may127 {c:Int} (h:mayC c=true):c ≤ 127:=by rcases Flg.may_cases h with h | h | h | h | h | h | h | h | h | h <;> omega
theorem leave_m (s:Ex) (g:Nat) (v:Int) (W:World) (hr:W.heap[g]?=some (.cells (exC s) 65 (0,0))):Calls Tryz.prog 88 #[.pointer (some ⟨g,0,none⟩),.int .u64 v] W (RetT (.int .i64 0) (exC (s)) 65 g W):=by
  refine calls_abs Tryz.func88 rfl (Nat.le_of_ble_eq_true rfl) ?_
  intro a0 d0 z0 h0
  replace z0:a0.tmps.size=5:=z0
  have s0_0:a0.tmps.getD 0 undef=.pointer (some ⟨g,0,none⟩):=h0 0 (Nat.le_of_ble_eq_true rfl)
  have s1_0:a0.tmps.getD 1 undef=.int .u64 v:=h0 1 (Nat.le_of_ble_eq_true rfl)
  have hB0:=cutW_below W g
  have hV:=cutW_size hr
  have bt0:=But.refl g W
  refine wp_seq ?_
  refine go_reg [] [] [some (.int .i64 0)] mo d0 z0 hB0 (by kernel_rfl) trivial (
   hk (fun cx=>cx.q (ex_as rfl rfl)) <|
   hn) ?_
  intro a1 w1 f1
  have bt1:=But.step f1 bt0 hB0 trivial
  refine wp_seq ?_
  refine go_reg [] [] [some (.int .i64 0)] mo f1.d f1.z f1.b (by kernel_rfl) trivial (
   hk (fun cx=>cx.q (ex_as rfl rfl)) <|
   hn) ?_
  intro a2 w2 f2
  have bt2:=But.step f2 bt1 f1.b trivial
  refine wp_ret ?_
  try simp only [Exit.inBlock,Exit.then]
  refine bodyPost_ret (res_t (fn:=Tryz.f88) rfl (f2.v 0 rfl rfl rfl)) f2.d ?_
  exact ⟨rfl,bt2,(f2.k (f1.k hr))⟩
theorem comeBack_m (s:Ex) (g:Nat) (v:Int) (W:World) (hr:W.heap[g]?=some (.cells (exC s) 65 (0,0))):Calls Tryz.prog 91 #[.pointer (some ⟨g,0,none⟩),.int .u64 v] W (RetT (.int .i64 0) (exC ((s.upA v).upR 4 (IntKind.u64.wrap (s.m.r 4 + 8)))) 65 g W):=by
  refine calls_abs Tryz.func91 rfl (Nat.le_of_ble_eq_true rfl) ?_
  intro a0 d0 z0 h0
  replace z0:a0.tmps.size=21:=z0
  have s0_0:a0.tmps.getD 0 undef=.pointer (some ⟨g,0,none⟩):=h0 0 (Nat.le_of_ble_eq_true rfl)
  have s1_0:a0.tmps.getD 1 undef=.int .u64 v:=h0 1 (Nat.le_of_ble_eq_true rfl)
  have hB0:=cutW_below W g
  have hV:=cutW_size hr
  have bt0:=But.refl g W
  refine wp_seq ?_
  refine go_reg [] [] [some (.int .i64 0)] mo d0 z0 hB0 (by kernel_rfl) trivial (
   hk (fun cx=>cx.q (ex_as rfl rfl)) <|
   hn) ?_
  intro a1 w1 f1
  have bt1:=But.step f1 bt0 hB0 trivial
  refine wp_seq ?_
  have b_g_1:=f1.k hr
  have s0_2:=f1.q 0 s0_0
  have s1_3:=f1.q 1 s1_0
  refine go_reg [⟨g,65,(exC s),some 5,(exC (s.upA v))⟩] [] [some (pt g 0),some (.int .u64 v),some (pt g 0),some (pt g 0),some (pt g 21),none] mo f1.d f1.z f1.b (by kernel_rfl) ⟨b_g_1,trivial⟩ (
   hk (fun cx=>cx.q (ex_mv rfl (cx.rq 0 s0_2))) <|
   hk (fun cx=>cx.q (ex_mv rfl (cx.rq 1 s1_3))) <|
   hk (fun cx=>cx.q (ex_nc rfl (cx.u 0 rfl))) <|
   hk (fun cx=>cx.q (ex_fa rfl (cx.u 0 rfl) (faExD75_0_0 _ _))) <|
   hk (fun cx=>cx.q (ex_fa rfl (cx.u 0 rfl) (faExD36_2_0 _ _))) <|
   hk (fun cx=>cx.stC (wn rfl) rfl rfl 0 rfl (cx.u 0 rfl) (cx.u 1 rfl) rfl rfl (by kernel_rfl) rfl rfl hV rfl trivial trivial) <|
   hn) ?_
  intro a2 w2 f2
  have bt2:=But.step f2 bt1 f1.b ⟨.inr rfl,trivial⟩
  refine wp_seq ?_
  have s0_4:=f2.q 0 s0_2
  refine go_reg [⟨g,65,(exC (s.upA v)),some 11,(exC ((s.upA v).upR 4 (IntKind.u64.wrap ((s.m.r 4) + 8))))⟩] [] [some (pt g 0),some (pt g 0),some (pt g 0),some (pt g 0),some (pt g (4)),some (.int .u64 (s.m.r 4)),some (.int .u64 (IntKind.u64.wrap ((s.m.r 4) + 8))),some (pt g 0),some (pt g 0),some (pt g 0),some (pt g (4)),none] mo f2.d f2.z f2.b (by kernel_rfl) ⟨f2.rows.1,trivial⟩ (
   hk (fun cx=>cx.q (ex_mv rfl (cx.rq 0 s0_4))) <|
   hk (fun cx=>cx.q (ex_nc rfl (cx.u 0 rfl))) <|
   hk (fun cx=>cx.q (ex_fa rfl (cx.u 0 rfl) (faExD75_0_0 _ _))) <|
   hk (fun cx=>cx.q (ex_fa rfl (cx.u 0 rfl) (faExD36_0_0 _ _))) <|
   hk (fun cx=>cx.v (ex_ia (n:=16) (sz:=1) rfl (cx.u 0 rfl) rfl Tryz.underlying26 (by kernel_rfl) (by omega) (by omega) (by omega)) rfl rfl) <|
   hk (fun cx=>cx.v (ldExR (by omega) rfl (cx.u 0 rfl) (cx.rf 0 rfl (by kernel_rfl))) rfl rfl) <|
   hk (fun cx=>cx.q (ex_add (x:=.tmp 15) rfl (cx.u 0 rfl) rfl)) <|
   hk (fun cx=>cx.q (ex_nc rfl (cx.u 0 rfl))) <|
   hk (fun cx=>cx.q (ex_fa rfl (cx.u 0 rfl) (faExD75_0_0 _ _))) <|
   hk (fun cx=>cx.q (ex_fa rfl (cx.u 0 rfl) (faExD36_0_0 _ _))) <|
   hk (fun cx=>cx.v (ex_ia (n:=16) (sz:=1) rfl (cx.u 0 rfl) rfl Tryz.underlying26 (by kernel_rfl) (by omega) (by omega) (by omega)) rfl rfl) <|
   hk (fun cx=>cx.stC (wn rfl) rfl rfl 0 rfl (cx.u 0 rfl) (cx.u 1 rfl) rfl rfl (by kernel_rfl) (by rw [exC_size];simp only [Nat.blt_eq];omega) (exC_set _ (by omega) _) hV rfl trivial trivial) <|
   hn) ?_
  intro a3 w3 f3
  have bt3:=But.step f3 bt2 f2.b ⟨.inr rfl,trivial⟩
  refine wp_seq ?_
  refine go_reg [] [] [some (.int .i64 0)] mo f3.d f3.z f3.b (by kernel_rfl) trivial (
   hk (fun cx=>cx.q (ex_as rfl rfl)) <|
   hn) ?_
  intro a4 w4 f4
  have bt4:=But.step f4 bt3 f3.b trivial
  refine wp_ret ?_
  try simp only [Exit.inBlock,Exit.then]
  refine bodyPost_ret (res_t (fn:=Tryz.f91) rfl (f4.v 0 rfl rfl rfl)) f4.d ?_
  exact ⟨rfl,bt4,(f4.k f3.rows.1)⟩
theorem moveIf_yes (s:Ex) (g:Nat) (v:Int) (W:World) (hr:W.heap[g]?=some (.cells (exC s) 65 (0,0))) (hd:0 ≤ s.x.dst ∧ s.x.dst < 16) (eK:s.m.f.k=true) (hcy:mayC s.x.cc=true) (hh:holF s.x.cc s.m.f=true):Calls Tryz.prog 87 #[.pointer (some ⟨g,0,none⟩),.int .u64 v] W (RetT (.int .i64 0) (exC ((s.upR s.x.dst.toNat (cutI v s.x.w)))) 65 g W):=by
  have hE:holE s.x.cc s.m.f=0:=(if_pos hcy).trans (if_pos eK)
  have hcc:s.x.cc ≤ 127:=may127 hcy
  refine calls_abs Tryz.func87 rfl (Nat.le_of_ble_eq_true rfl) ?_
  intro a0 d0 z0 h0
  replace z0:a0.tmps.size=32:=z0
  have s0_0:a0.tmps.getD 0 undef=.pointer (some ⟨g,0,none⟩):=h0 0 (Nat.le_of_ble_eq_true rfl)
  have s1_0:a0.tmps.getD 1 undef=.int .u64 v:=h0 1 (Nat.le_of_ble_eq_true rfl)
  have hB0:=cutW_below W g
  have hV:=cutW_size hr
  have bt0:=But.refl g W
  refine wp_seq ?_
  refine go_reg [] [] [some (.int .i64 0)] mo d0 z0 hB0 (by kernel_rfl) trivial (
   hk (fun cx=>cx.q (ex_as rfl rfl)) <|
   hn) ?_
  intro a1 w1 f1
  have bt1:=But.step f1 bt0 hB0 trivial
  refine wp_seq ?_
  have b_g_1:=f1.k hr
  have s0_2:=f1.q 0 s0_0
  refine go_reg [bx g 65 (exC s)] [] [some (pt g 0),some (pt g 0),some (pt g 22),some (pt g 29),some (.int .i8 s.x.cc),some (pt g 0),some (pt g 0),some (pt g 0),some (pt g 16),some (.agg (fC s.m.f)),some (.tuple #[.bool (holF s.x.cc s.m.f),.int .i64 (holE s.x.cc s.m.f)]),some (.tuple #[.bool (holF s.x.cc s.m.f),.int .i64 (holE s.x.cc s.m.f)]),oT,some (.int .i64 0),oT,some (.int .i64 0)] mo f1.d f1.z f1.b (by kernel_rfl) ⟨b_g_1,trivial⟩ (
   hk (fun cx=>cx.q (ex_mv rfl (cx.rq 0 s0_2))) <|
   hk (fun cx=>cx.q (ex_nc rfl (cx.u 0 rfl))) <|
   hk (fun cx=>cx.q (ex_fa rfl (cx.u 0 rfl) (faExD75_1_0 _ _))) <|
   hk (fun cx=>cx.q (ex_fa rfl (cx.u 0 rfl) (faExD26_7_22 _ _))) <|
   hk (fun cx=>cx.q (ex_ld rfl (cx.u 0 rfl) (cx.rn 0 rfl) rfl Tryz.isAgg36)) <|
   hk (fun cx=>cx.q (ex_mv rfl (cx.rq 0 s0_2))) <|
   hk (fun cx=>cx.q (ex_nc rfl (cx.u 0 rfl))) <|
   hk (fun cx=>cx.q (ex_fa rfl (cx.u 0 rfl) (faExD75_0_0 _ _))) <|
   hk (fun cx=>cx.q (ex_fa rfl (cx.u 0 rfl) (faExD36_1_0 _ _))) <|
   hk (fun cx=>cx.q (ldExF rfl (cx.u 0 rfl) (cx.rn 0 rfl))) <|
   hc (fun _ _ wx cx=>cx.c rfl (args2 (cx.u 0 rfl) (cx.u 1 rfl)) Tryz.func114 (by decide +kernel) (Flg.holds_n s.x.cc s.m.f wx hcc) rfl rfl) <|
   kmu 0 <|
   hk (fun cx=>cx.v (ex_ext (x:=.tmp 7) rfl (cx.u 0 rfl) rfl) rfl (congrArg Value.bool hh)) <|
   hk (fun cx=>cx.v (ex_ext (x:=.tmp 7) rfl (cx.u 0 rfl) rfl) rfl (congrArg (Value.int .i64) hE)) <|
   kmu 0 <|
   kmu 0 <|
   hn) ?_
  intro a2 w2 f2
  have bt2:=But.step f2 bt1 f1.b ⟨.inl rfl,trivial⟩
  refine wp_seq ?_
  refine wp_seq ?_
  refine go_reg [] [] [some (.int .i64 0),oF] mo f2.d f2.z f2.b (by kernel_rfl) trivial (
   hk (fun cx=>cx.q (ex_mv rfl (cx.rq 6 (f2.v 15 rfl rfl rfl)))) <|
   hk (fun cx=>cx.v (ex_ne (x:=.tmp 21) rfl (cx.u 0 rfl) rfl) rfl (congrArg Value.bool (by decide))) <|
   hn) ?_
  intro a3 w3 f3
  have bt3:=But.step f3 bt2 f2.b trivial
  refine wp_cond_false (f3.v 1 rfl rfl rfl) ?_
  refine wp_skip ?_
  refine wp_seq ?_
  refine wp_seq ?_
  have s5_3:=f3.q 5 (f2.v 14 rfl rfl rfl)
  refine go_reg [] [] [oT] mo f3.d f3.z f3.b (by kernel_rfl) trivial (
   hk (fun cx=>cx.q (ex_mv rfl (cx.rq 5 s5_3))) <|
   hn) ?_
  intro a4 w4 f4
  have bt4:=But.step f4 bt3 f3.b trivial
  refine wp_cond_true (f4.v 0 rfl rfl rfl) ?_
  refine wp_seq ?_
  have b_g_4:=f4.k (f3.k (f2.k b_g_1))
  have s0_5:=f4.q 0 (f3.q 0 (f2.q 0 s0_2))
  have s1_6:=f4.q 1 (f3.q 1 (f2.q 1 (f1.q 1 s1_0)))
  refine go_reg [⟨g,65,(exC s),some 2,(exC (s.upR s.x.dst.toNat (cutI v s.x.w)))⟩] [] [some (pt g 0),some (.int .u64 v),some (.int .i64 0),some (.int .i64 0)] mo f4.d f4.z f4.b (by kernel_rfl) ⟨b_g_4,trivial⟩ (
   hk (fun cx=>cx.q (ex_mv rfl (cx.rq 0 s0_5))) <|
   hk (fun cx=>cx.q (ex_mv rfl (cx.rq 1 s1_6))) <|
   hc (fun _ _ wx cx=>callT cx (wn rfl) rfl (args2 (cx.u 0 rfl) (cx.u 1 rfl)) Tryz.func73 (by decide +kernel) (move_m s g v wx (cx.ri 0 rfl) hd) rfl rfl 0 rfl hV rfl trivial rfl) <|
   kmu 0 <|
   hn) ?_
  intro a5 w5 f5
  have bt5:=But.step f5 bt4 f4.b ⟨.inr rfl,trivial⟩
  refine wp_ret ?_
  try simp only [Exit.inBlock,Exit.then]
  refine bodyPost_ret (res_t (fn:=Tryz.f87) rfl (f5.v 3 rfl rfl rfl)) f5.d ?_
  exact ⟨rfl,bt5,f5.rows.1⟩
theorem moveIf_no (s:Ex) (g:Nat) (v:Int) (W:World) (hr:W.heap[g]?=some (.cells (exC s) 65 (0,0))) (hd:0 ≤ s.x.dst ∧ s.x.dst < 16) (eK:s.m.f.k=true) (hcy:mayC s.x.cc=true) (hh:holF s.x.cc s.m.f=false):Calls Tryz.prog 87 #[.pointer (some ⟨g,0,none⟩),.int .u64 v] W (RetT (.int .i64 0) (exC ((s.upR s.x.dst.toNat (cutI (s.m.r s.x.dst.toNat) s.x.w)))) 65 g W):=by
  have hE:holE s.x.cc s.m.f=0:=(if_pos hcy).trans (if_pos eK)
  have hcc:s.x.cc ≤ 127:=may127 hcy
  refine calls_abs Tryz.func87 rfl (Nat.le_of_ble_eq_true rfl) ?_
  intro a0 d0 z0 h0
  replace z0:a0.tmps.size=32:=z0
  have s0_0:a0.tmps.getD 0 undef=.pointer (some ⟨g,0,none⟩):=h0 0 (Nat.le_of_ble_eq_true rfl)
  have s1_0:a0.tmps.getD 1 undef=.int .u64 v:=h0 1 (Nat.le_of_ble_eq_true rfl)
  have hB0:=cutW_below W g
  have hV:=cutW_size hr
  have bt0:=But.refl g W
  refine wp_seq ?_
  refine go_reg [] [] [some (.int .i64 0)] mo d0 z0 hB0 (by kernel_rfl) trivial (
   hk (fun cx=>cx.q (ex_as rfl rfl)) <|
   hn) ?_
  intro a1 w1 f1
  have bt1:=But.step f1 bt0 hB0 trivial
  refine wp_seq ?_
  have b_g_1:=f1.k hr
  have s0_2:=f1.q 0 s0_0
  refine go_reg [bx g 65 (exC s)] [] [some (pt g 0),some (pt g 0),some (pt g 22),some (pt g 29),some (.int .i8 s.x.cc),some (pt g 0),some (pt g 0),some (pt g 0),some (pt g 16),some (.agg (fC s.m.f)),some (.tuple #[.bool (holF s.x.cc s.m.f),.int .i64 (holE s.x.cc s.m.f)]),some (.tuple #[.bool (holF s.x.cc s.m.f),.int .i64 (holE s.x.cc s.m.f)]),oF,some (.int .i64 0),oF,some (.int .i64 0)] mo f1.d f1.z f1.b (by kernel_rfl) ⟨b_g_1,trivial⟩ (
   hk (fun cx=>cx.q (ex_mv rfl (cx.rq 0 s0_2))) <|
   hk (fun cx=>cx.q (ex_nc rfl (cx.u 0 rfl))) <|
   hk (fun cx=>cx.q (ex_fa rfl (cx.u 0 rfl) (faExD75_1_0 _ _))) <|
   hk (fun cx=>cx.q (ex_fa rfl (cx.u 0 rfl) (faExD26_7_22 _ _))) <|
   hk (fun cx=>cx.q (ex_ld rfl (cx.u 0 rfl) (cx.rn 0 rfl) rfl Tryz.isAgg36)) <|
   hk (fun cx=>cx.q (ex_mv rfl (cx.rq 0 s0_2))) <|
   hk (fun cx=>cx.q (ex_nc rfl (cx.u 0 rfl))) <|
   hk (fun cx=>cx.q (ex_fa rfl (cx.u 0 rfl) (faExD75_0_0 _ _))) <|
   hk (fun cx=>cx.q (ex_fa rfl (cx.u 0 rfl) (faExD36_1_0 _ _))) <|
   hk (fun cx=>cx.q (ldExF rfl (cx.u 0 rfl) (cx.rn 0 rfl))) <|
   hc (fun _ _ wx cx=>cx.c rfl (args2 (cx.u 0 rfl) (cx.u 1 rfl)) Tryz.func114 (by decide +kernel) (Flg.holds_n s.x.cc s.m.f wx hcc) rfl rfl) <|
   kmu 0 <|
   hk (fun cx=>cx.v (ex_ext (x:=.tmp 7) rfl (cx.u 0 rfl) rfl) rfl (congrArg Value.bool hh)) <|
   hk (fun cx=>cx.v (ex_ext (x:=.tmp 7) rfl (cx.u 0 rfl) rfl) rfl (congrArg (Value.int .i64) hE)) <|
   kmu 0 <|
   kmu 0 <|
   hn) ?_
  intro a2 w2 f2
  have bt2:=But.step f2 bt1 f1.b ⟨.inl rfl,trivial⟩
  refine wp_seq ?_
  refine wp_seq ?_
  refine go_reg [] [] [some (.int .i64 0),oF] mo f2.d f2.z f2.b (by kernel_rfl) trivial (
   hk (fun cx=>cx.q (ex_mv rfl (cx.rq 6 (f2.v 15 rfl rfl rfl)))) <|
   hk (fun cx=>cx.v (ex_ne (x:=.tmp 21) rfl (cx.u 0 rfl) rfl) rfl (congrArg Value.bool (by decide))) <|
   hn) ?_
  intro a3 w3 f3
  have bt3:=But.step f3 bt2 f2.b trivial
  refine wp_cond_false (f3.v 1 rfl rfl rfl) ?_
  refine wp_skip ?_
  refine wp_seq ?_
  refine wp_seq ?_
  have s5_3:=f3.q 5 (f2.v 14 rfl rfl rfl)
  refine go_reg [] [] [oF] mo f3.d f3.z f3.b (by kernel_rfl) trivial (
   hk (fun cx=>cx.q (ex_mv rfl (cx.rq 5 s5_3))) <|
   hn) ?_
  intro a4 w4 f4
  have bt4:=But.step f4 bt3 f3.b trivial
  refine wp_cond_false (f4.v 0 rfl rfl rfl) ?_
  refine wp_skip ?_
  refine wp_seq ?_
  have b_g_4:=f4.k (f3.k (f2.k b_g_1))
  have s0_5:=f4.q 0 (f3.q 0 (f2.q 0 s0_2))
  refine go_reg [⟨g,65,(exC s),some 3,(exC (s.upR s.x.dst.toNat (cutI (s.m.r s.x.dst.toNat) s.x.w)))⟩] [] [some (pt g 0),some (pt g 0),some (.int .u64 (s.m.r s.x.dst.toNat)),some (.int .i64 0),some (.int .i64 0)] mo f4.d f4.z f4.b (by kernel_rfl) ⟨b_g_4,trivial⟩ (
   hk (fun cx=>cx.q (ex_mv rfl (cx.rq 0 s0_5))) <|
   hk (fun cx=>cx.q (ex_mv rfl (cx.rq 0 s0_5))) <|
   hc (fun _ _ wx cx=>cx.c rfl (args1 (cx.u 0 rfl)) Tryz.func109 (by decide +kernel) (dst_n s g wx (cx.rf 0 rfl (by kernel_rfl)) hd) rfl rfl) <|
   hc (fun _ _ wx cx=>callT cx (wn rfl) rfl (args2 (cx.u 0 rfl) (cx.u 1 rfl)) Tryz.func73 (by decide +kernel) (move_m s g (s.m.r s.x.dst.toNat) wx (cx.ri 0 rfl) hd) rfl rfl 0 rfl hV rfl trivial rfl) <|
   kmu 0 <|
   hn) ?_
  intro a5 w5 f5
  have bt5:=But.step f5 bt4 f4.b ⟨.inr rfl,trivial⟩
  refine wp_ret ?_
  try simp only [Exit.inBlock,Exit.then]
  refine bodyPost_ret (res_t (fn:=Tryz.f87) rfl (f5.v 4 rfl rfl rfl)) f5.d ?_
  exact ⟨rfl,bt5,f5.rows.1⟩
theorem moveIf_bad (s:Ex) (g:Nat) (v:Int) (W:World) (hr:W.heap[g]?=some (.cells (exC s) 65 (0,0))) (hd:0 ≤ s.x.dst ∧ s.x.dst < 16) (eK:s.m.f.k=false) (hcy:mayC s.x.cc=true):Calls Tryz.prog 87 #[.pointer (some ⟨g,0,none⟩),.int .u64 v] W (RetT (.int .i64 20) (exC (s)) 65 g W):=by
  have hE:holE s.x.cc s.m.f=20:=(if_pos hcy).trans (if_neg (by rw [eK];exact Bool.false_ne_true))
  have hcc:s.x.cc ≤ 127:=may127 hcy
  refine calls_abs Tryz.func87 rfl (Nat.le_of_ble_eq_true rfl) ?_
  intro a0 d0 z0 h0
  replace z0:a0.tmps.size=32:=z0
  have s0_0:a0.tmps.getD 0 undef=.pointer (some ⟨g,0,none⟩):=h0 0 (Nat.le_of_ble_eq_true rfl)
  have s1_0:a0.tmps.getD 1 undef=.int .u64 v:=h0 1 (Nat.le_of_ble_eq_true rfl)
  have hB0:=cutW_below W g
  have hV:=cutW_size hr
  have bt0:=But.refl g W
  refine wp_seq ?_
  refine go_reg [] [] [some (.int .i64 0)] mo d0 z0 hB0 (by kernel_rfl) trivial (
   hk (fun cx=>cx.q (ex_as rfl rfl)) <|
   hn) ?_
  intro a1 w1 f1
  have bt1:=But.step f1 bt0 hB0 trivial
  refine wp_seq ?_
  have b_g_1:=f1.k hr
  have s0_2:=f1.q 0 s0_0
  refine go_reg [bx g 65 (exC s)] [] [some (pt g 0),some (pt g 0),some (pt g 22),some (pt g 29),some (.int .i8 s.x.cc),some (pt g 0),some (pt g 0),some (pt g 0),some (pt g 16),some (.agg (fC s.m.f)),some (.tuple #[.bool (holF s.x.cc s.m.f),.int .i64 (holE s.x.cc s.m.f)]),some (.tuple #[.bool (holF s.x.cc s.m.f),.int .i64 (holE s.x.cc s.m.f)]),some (.bool (holF s.x.cc s.m.f)),some (.int .i64 20),some (.bool (holF s.x.cc s.m.f)),some (.int .i64 20)] mo f1.d f1.z f1.b (by kernel_rfl) ⟨b_g_1,trivial⟩ (
   hk (fun cx=>cx.q (ex_mv rfl (cx.rq 0 s0_2))) <|
   hk (fun cx=>cx.q (ex_nc rfl (cx.u 0 rfl))) <|
   hk (fun cx=>cx.q (ex_fa rfl (cx.u 0 rfl) (faExD75_1_0 _ _))) <|
   hk (fun cx=>cx.q (ex_fa rfl (cx.u 0 rfl) (faExD26_7_22 _ _))) <|
   hk (fun cx=>cx.q (ex_ld rfl (cx.u 0 rfl) (cx.rn 0 rfl) rfl Tryz.isAgg36)) <|
   hk (fun cx=>cx.q (ex_mv rfl (cx.rq 0 s0_2))) <|
   hk (fun cx=>cx.q (ex_nc rfl (cx.u 0 rfl))) <|
   hk (fun cx=>cx.q (ex_fa rfl (cx.u 0 rfl) (faExD75_0_0 _ _))) <|
   hk (fun cx=>cx.q (ex_fa rfl (cx.u 0 rfl) (faExD36_1_0 _ _))) <|
   hk (fun cx=>cx.q (ldExF rfl (cx.u 0 rfl) (cx.rn 0 rfl))) <|
   hc (fun _ _ wx cx=>cx.c rfl (args2 (cx.u 0 rfl) (cx.u 1 rfl)) Tryz.func114 (by decide +kernel) (Flg.holds_n s.x.cc s.m.f wx hcc) rfl rfl) <|
   kmu 0 <|
   hk (fun cx=>cx.q (ex_ext (x:=.tmp 7) rfl (cx.u 0 rfl) rfl)) <|
   hk (fun cx=>cx.v (ex_ext (x:=.tmp 7) rfl (cx.u 0 rfl) rfl) rfl (congrArg (Value.int .i64) hE)) <|
   kmu 0 <|
   kmu 0 <|
   hn) ?_
  intro a2 w2 f2
  have bt2:=But.step f2 bt1 f1.b ⟨.inl rfl,trivial⟩
  refine wp_seq ?_
  refine wp_seq ?_
  refine go_reg [] [] [some (.int .i64 20),oT] mo f2.d f2.z f2.b (by kernel_rfl) trivial (
   hk (fun cx=>cx.q (ex_mv rfl (cx.rq 6 (f2.v 15 rfl rfl rfl)))) <|
   hk (fun cx=>cx.v (ex_ne (x:=.tmp 21) rfl (cx.u 0 rfl) rfl) rfl (congrArg Value.bool (by decide))) <|
   hn) ?_
  intro a3 w3 f3
  have bt3:=But.step f3 bt2 f2.b trivial
  refine wp_cond_true (f3.v 1 rfl rfl rfl) ?_
  refine wp_seq ?_
  have s6_3:=f3.q 6 (f2.v 15 rfl rfl rfl)
  refine go_reg [] [] [some (.int .i64 20),some (.int .i64 20)] mo f3.d f3.z f3.b (by kernel_rfl) trivial (
   hk (fun cx=>cx.q (ex_mv rfl (cx.rq 6 s6_3))) <|
   kmu 0 <|
   hn) ?_
  intro a4 w4 f4
  have bt4:=But.step f4 bt3 f3.b trivial
  refine wp_ret ?_
  try simp only [Exit.inBlock,Exit.then]
  refine bodyPost_ret (res_t (fn:=Tryz.f87) rfl (f4.v 1 rfl rfl rfl)) f4.d ?_
  exact ⟨rfl,bt4,(f4.k (f3.k (f2.k b_g_1)))⟩
theorem jumpIf_yes (s:Ex) (g:Nat) (v:Int) (W:World) (hr:W.heap[g]?=some (.cells (exC s) 65 (0,0))) (eK:s.m.f.k=true) (hcy:mayC s.x.cc=true) (hh:holF s.x.cc s.m.f=true):Calls Tryz.prog 90 #[.pointer (some ⟨g,0,none⟩),.int .u64 v] W (RetT (.int .i64 0) (exC ((s.upA (IntKind.u64.wrap (s.m.a + v))))) 65 g W):=by
  have hE:holE s.x.cc s.m.f=0:=(if_pos hcy).trans (if_pos eK)
  have hcc:s.x.cc ≤ 127:=may127 hcy
  refine calls_abs Tryz.func90 rfl (Nat.le_of_ble_eq_true rfl) ?_
  intro a0 d0 z0 h0
  replace z0:a0.tmps.size=26:=z0
  have s0_0:a0.tmps.getD 0 undef=.pointer (some ⟨g,0,none⟩):=h0 0 (Nat.le_of_ble_eq_true rfl)
  have s1_0:a0.tmps.getD 1 undef=.int .u64 v:=h0 1 (Nat.le_of_ble_eq_true rfl)
  have hB0:=cutW_below W g
  have hV:=cutW_size hr
  have bt0:=But.refl g W
  refine wp_seq ?_
  refine go_reg [] [] [some (.int .i64 0)] mo d0 z0 hB0 (by kernel_rfl) trivial (
   hk (fun cx=>cx.q (ex_as rfl rfl)) <|
   hn) ?_
  intro a1 w1 f1
  have bt1:=But.step f1 bt0 hB0 trivial
  refine wp_seq ?_
  have b_g_1:=f1.k hr
  have s0_2:=f1.q 0 s0_0
  refine go_reg [bx g 65 (exC s)] [] [some (pt g 0),some (pt g 0),some (pt g 22),some (pt g 29),some (.int .i8 s.x.cc),some (pt g 0),some (pt g 0),some (pt g 0),some (pt g 16),some (.agg (fC s.m.f)),some (.tuple #[.bool (holF s.x.cc s.m.f),.int .i64 (holE s.x.cc s.m.f)]),some (.tuple #[.bool (holF s.x.cc s.m.f),.int .i64 (holE s.x.cc s.m.f)]),oT,some (.int .i64 0),oT,some (.int .i64 0)] mo f1.d f1.z f1.b (by kernel_rfl) ⟨b_g_1,trivial⟩ (
   hk (fun cx=>cx.q (ex_mv rfl (cx.rq 0 s0_2))) <|
   hk (fun cx=>cx.q (ex_nc rfl (cx.u 0 rfl))) <|
   hk (fun cx=>cx.q (ex_fa rfl (cx.u 0 rfl) (faExD75_1_0 _ _))) <|
   hk (fun cx=>cx.q (ex_fa rfl (cx.u 0 rfl) (faExD26_7_22 _ _))) <|
   hk (fun cx=>cx.q (ex_ld rfl (cx.u 0 rfl) (cx.rn 0 rfl) rfl Tryz.isAgg36)) <|
   hk (fun cx=>cx.q (ex_mv rfl (cx.rq 0 s0_2))) <|
   hk (fun cx=>cx.q (ex_nc rfl (cx.u 0 rfl))) <|
   hk (fun cx=>cx.q (ex_fa rfl (cx.u 0 rfl) (faExD75_0_0 _ _))) <|
   hk (fun cx=>cx.q (ex_fa rfl (cx.u 0 rfl) (faExD36_1_0 _ _))) <|
   hk (fun cx=>cx.q (ldExF rfl (cx.u 0 rfl) (cx.rn 0 rfl))) <|
   hc (fun _ _ wx cx=>cx.c rfl (args2 (cx.u 0 rfl) (cx.u 1 rfl)) Tryz.func114 (by decide +kernel) (Flg.holds_n s.x.cc s.m.f wx hcc) rfl rfl) <|
   kmu 0 <|
   hk (fun cx=>cx.v (ex_ext (x:=.tmp 7) rfl (cx.u 0 rfl) rfl) rfl (congrArg Value.bool hh)) <|
   hk (fun cx=>cx.v (ex_ext (x:=.tmp 7) rfl (cx.u 0 rfl) rfl) rfl (congrArg (Value.int .i64) hE)) <|
   kmu 0 <|
   kmu 0 <|
   hn) ?_
  intro a2 w2 f2
  have bt2:=But.step f2 bt1 f1.b ⟨.inl rfl,trivial⟩
  refine wp_seq ?_
  refine wp_seq ?_
  refine go_reg [] [] [oT] mo f2.d f2.z f2.b (by kernel_rfl) trivial (
   hk (fun cx=>cx.q (ex_mv rfl (cx.rq 5 (f2.v 14 rfl rfl rfl)))) <|
   hn) ?_
  intro a3 w3 f3
  have bt3:=But.step f3 bt2 f2.b trivial
  refine wp_cond_true (f3.v 0 rfl rfl rfl) ?_
  refine wp_seq ?_
  have b_g_3:=f3.k (f2.k b_g_1)
  have s0_4:=f3.q 0 (f2.q 0 s0_2)
  have s1_5:=f3.q 1 (f2.q 1 (f1.q 1 s1_0))
  refine go_reg [⟨g,65,(exC s),some 2,(exC (s.upA (IntKind.u64.wrap (s.m.a + v))))⟩] [] [some (pt g 0),some (.int .u64 v),some (.int .i64 0),some (.int .i64 0)] mo f3.d f3.z f3.b (by kernel_rfl) ⟨b_g_3,trivial⟩ (
   hk (fun cx=>cx.q (ex_mv rfl (cx.rq 0 s0_4))) <|
   hk (fun cx=>cx.q (ex_mv rfl (cx.rq 1 s1_5))) <|
   hc (fun _ _ wx cx=>callT cx (wn rfl) rfl (args2 (cx.u 0 rfl) (cx.u 1 rfl)) Tryz.func89 (by decide +kernel) (jump_m s g v wx (cx.ri 0 rfl) ) rfl rfl 0 rfl hV rfl trivial rfl) <|
   kmu 0 <|
   hn) ?_
  intro a4 w4 f4
  have bt4:=But.step f4 bt3 f3.b ⟨.inr rfl,trivial⟩
  refine wp_ret ?_
  try simp only [Exit.inBlock,Exit.then]
  refine bodyPost_ret (res_t (fn:=Tryz.f90) rfl (f4.v 3 rfl rfl rfl)) f4.d ?_
  exact ⟨rfl,bt4,f4.rows.1⟩
theorem jumpIf_no (s:Ex) (g:Nat) (v:Int) (W:World) (hr:W.heap[g]?=some (.cells (exC s) 65 (0,0))) (eK:s.m.f.k=true) (hcy:mayC s.x.cc=true) (hh:holF s.x.cc s.m.f=false):Calls Tryz.prog 90 #[.pointer (some ⟨g,0,none⟩),.int .u64 v] W (RetT (.int .i64 0) (exC (s)) 65 g W):=by
  have hE:holE s.x.cc s.m.f=0:=(if_pos hcy).trans (if_pos eK)
  have hcc:s.x.cc ≤ 127:=may127 hcy
  refine calls_abs Tryz.func90 rfl (Nat.le_of_ble_eq_true rfl) ?_
  intro a0 d0 z0 h0
  replace z0:a0.tmps.size=26:=z0
  have s0_0:a0.tmps.getD 0 undef=.pointer (some ⟨g,0,none⟩):=h0 0 (Nat.le_of_ble_eq_true rfl)
  have s1_0:a0.tmps.getD 1 undef=.int .u64 v:=h0 1 (Nat.le_of_ble_eq_true rfl)
  have hB0:=cutW_below W g
  have hV:=cutW_size hr
  have bt0:=But.refl g W
  refine wp_seq ?_
  refine go_reg [] [] [some (.int .i64 0)] mo d0 z0 hB0 (by kernel_rfl) trivial (
   hk (fun cx=>cx.q (ex_as rfl rfl)) <|
   hn) ?_
  intro a1 w1 f1
  have bt1:=But.step f1 bt0 hB0 trivial
  refine wp_seq ?_
  have b_g_1:=f1.k hr
  have s0_2:=f1.q 0 s0_0
  refine go_reg [bx g 65 (exC s)] [] [some (pt g 0),some (pt g 0),some (pt g 22),some (pt g 29),some (.int .i8 s.x.cc),some (pt g 0),some (pt g 0),some (pt g 0),some (pt g 16),some (.agg (fC s.m.f)),some (.tuple #[.bool (holF s.x.cc s.m.f),.int .i64 (holE s.x.cc s.m.f)]),some (.tuple #[.bool (holF s.x.cc s.m.f),.int .i64 (holE s.x.cc s.m.f)]),oF,some (.int .i64 0),oF,some (.int .i64 0)] mo f1.d f1.z f1.b (by kernel_rfl) ⟨b_g_1,trivial⟩ (
   hk (fun cx=>cx.q (ex_mv rfl (cx.rq 0 s0_2))) <|
   hk (fun cx=>cx.q (ex_nc rfl (cx.u 0 rfl))) <|
   hk (fun cx=>cx.q (ex_fa rfl (cx.u 0 rfl) (faExD75_1_0 _ _))) <|
   hk (fun cx=>cx.q (ex_fa rfl (cx.u 0 rfl) (faExD26_7_22 _ _))) <|
   hk (fun cx=>cx.q (ex_ld rfl (cx.u 0 rfl) (cx.rn 0 rfl) rfl Tryz.isAgg36)) <|
   hk (fun cx=>cx.q (ex_mv rfl (cx.rq 0 s0_2))) <|
   hk (fun cx=>cx.q (ex_nc rfl (cx.u 0 rfl))) <|
   hk (fun cx=>cx.q (ex_fa rfl (cx.u 0 rfl) (faExD75_0_0 _ _))) <|
   hk (fun cx=>cx.q (ex_fa rfl (cx.u 0 rfl) (faExD36_1_0 _ _))) <|
   hk (fun cx=>cx.q (ldExF rfl (cx.u 0 rfl) (cx.rn 0 rfl))) <|
   hc (fun _ _ wx cx=>cx.c rfl (args2 (cx.u 0 rfl) (cx.u 1 rfl)) Tryz.func114 (by decide +kernel) (Flg.holds_n s.x.cc s.m.f wx hcc) rfl rfl) <|
   kmu 0 <|
   hk (fun cx=>cx.v (ex_ext (x:=.tmp 7) rfl (cx.u 0 rfl) rfl) rfl (congrArg Value.bool hh)) <|
   hk (fun cx=>cx.v (ex_ext (x:=.tmp 7) rfl (cx.u 0 rfl) rfl) rfl (congrArg (Value.int .i64) hE)) <|
   kmu 0 <|
   kmu 0 <|
   hn) ?_
  intro a2 w2 f2
  have bt2:=But.step f2 bt1 f1.b ⟨.inl rfl,trivial⟩
  refine wp_seq ?_
  refine wp_seq ?_
  refine go_reg [] [] [oF] mo f2.d f2.z f2.b (by kernel_rfl) trivial (
   hk (fun cx=>cx.q (ex_mv rfl (cx.rq 5 (f2.v 14 rfl rfl rfl)))) <|
   hn) ?_
  intro a3 w3 f3
  have bt3:=But.step f3 bt2 f2.b trivial
  refine wp_cond_false (f3.v 0 rfl rfl rfl) ?_
  refine wp_skip ?_
  refine wp_seq ?_
  have s6_3:=f3.q 6 (f2.v 15 rfl rfl rfl)
  refine go_reg [] [] [some (.int .i64 0),some (.int .i64 0)] mo f3.d f3.z f3.b (by kernel_rfl) trivial (
   hk (fun cx=>cx.q (ex_mv rfl (cx.rq 6 s6_3))) <|
   kmu 0 <|
   hn) ?_
  intro a4 w4 f4
  have bt4:=But.step f4 bt3 f3.b trivial
  refine wp_ret ?_
  try simp only [Exit.inBlock,Exit.then]
  refine bodyPost_ret (res_t (fn:=Tryz.f90) rfl (f4.v 1 rfl rfl rfl)) f4.d ?_
  exact ⟨rfl,bt4,(f4.k (f3.k (f2.k b_g_1)))⟩
theorem jumpIf_bad (s:Ex) (g:Nat) (v:Int) (W:World) (hr:W.heap[g]?=some (.cells (exC s) 65 (0,0))) (eK:s.m.f.k=false) (hcy:mayC s.x.cc=true):Calls Tryz.prog 90 #[.pointer (some ⟨g,0,none⟩),.int .u64 v] W (RetT (.int .i64 20) (exC (s)) 65 g W):=by
  have hE:holE s.x.cc s.m.f=20:=(if_pos hcy).trans (if_neg (by rw [eK];exact Bool.false_ne_true))
  have hcc:s.x.cc ≤ 127:=may127 hcy
  have hh:holF s.x.cc s.m.f=false:=if_neg (by rw [eK];simp)
  refine calls_abs Tryz.func90 rfl (Nat.le_of_ble_eq_true rfl) ?_
  intro a0 d0 z0 h0
  replace z0:a0.tmps.size=26:=z0
  have s0_0:a0.tmps.getD 0 undef=.pointer (some ⟨g,0,none⟩):=h0 0 (Nat.le_of_ble_eq_true rfl)
  have s1_0:a0.tmps.getD 1 undef=.int .u64 v:=h0 1 (Nat.le_of_ble_eq_true rfl)
  have hB0:=cutW_below W g
  have hV:=cutW_size hr
  have bt0:=But.refl g W
  refine wp_seq ?_
  refine go_reg [] [] [some (.int .i64 0)] mo d0 z0 hB0 (by kernel_rfl) trivial (
   hk (fun cx=>cx.q (ex_as rfl rfl)) <|
   hn) ?_
  intro a1 w1 f1
  have bt1:=But.step f1 bt0 hB0 trivial
  refine wp_seq ?_
  have b_g_1:=f1.k hr
  have s0_2:=f1.q 0 s0_0
  refine go_reg [bx g 65 (exC s)] [] [some (pt g 0),some (pt g 0),some (pt g 22),some (pt g 29),some (.int .i8 s.x.cc),some (pt g 0),some (pt g 0),some (pt g 0),some (pt g 16),some (.agg (fC s.m.f)),some (.tuple #[.bool (holF s.x.cc s.m.f),.int .i64 (holE s.x.cc s.m.f)]),some (.tuple #[.bool (holF s.x.cc s.m.f),.int .i64 (holE s.x.cc s.m.f)]),oF,some (.int .i64 20),oF,some (.int .i64 20)] mo f1.d f1.z f1.b (by kernel_rfl) ⟨b_g_1,trivial⟩ (
   hk (fun cx=>cx.q (ex_mv rfl (cx.rq 0 s0_2))) <|
   hk (fun cx=>cx.q (ex_nc rfl (cx.u 0 rfl))) <|
   hk (fun cx=>cx.q (ex_fa rfl (cx.u 0 rfl) (faExD75_1_0 _ _))) <|
   hk (fun cx=>cx.q (ex_fa rfl (cx.u 0 rfl) (faExD26_7_22 _ _))) <|
   hk (fun cx=>cx.q (ex_ld rfl (cx.u 0 rfl) (cx.rn 0 rfl) rfl Tryz.isAgg36)) <|
   hk (fun cx=>cx.q (ex_mv rfl (cx.rq 0 s0_2))) <|
   hk (fun cx=>cx.q (ex_nc rfl (cx.u 0 rfl))) <|
   hk (fun cx=>cx.q (ex_fa rfl (cx.u 0 rfl) (faExD75_0_0 _ _))) <|
   hk (fun cx=>cx.q (ex_fa rfl (cx.u 0 rfl) (faExD36_1_0 _ _))) <|
   hk (fun cx=>cx.q (ldExF rfl (cx.u 0 rfl) (cx.rn 0 rfl))) <|
   hc (fun _ _ wx cx=>cx.c rfl (args2 (cx.u 0 rfl) (cx.u 1 rfl)) Tryz.func114 (by decide +kernel) (Flg.holds_n s.x.cc s.m.f wx hcc) rfl rfl) <|
   kmu 0 <|
   hk (fun cx=>cx.v (ex_ext (x:=.tmp 7) rfl (cx.u 0 rfl) rfl) rfl (congrArg Value.bool hh)) <|
   hk (fun cx=>cx.v (ex_ext (x:=.tmp 7) rfl (cx.u 0 rfl) rfl) rfl (congrArg (Value.int .i64) hE)) <|
   kmu 0 <|
   kmu 0 <|
   hn) ?_
  intro a2 w2 f2
  have bt2:=But.step f2 bt1 f1.b ⟨.inl rfl,trivial⟩
  refine wp_seq ?_
  refine wp_seq ?_
  refine go_reg [] [] [oF] mo f2.d f2.z f2.b (by kernel_rfl) trivial (
   hk (fun cx=>cx.q (ex_mv rfl (cx.rq 5 (f2.v 14 rfl rfl rfl)))) <|
   hn) ?_
  intro a3 w3 f3
  have bt3:=But.step f3 bt2 f2.b trivial
  refine wp_cond_false (f3.v 0 rfl rfl rfl) ?_
  refine wp_skip ?_
  refine wp_seq ?_
  have s6_3:=f3.q 6 (f2.v 15 rfl rfl rfl)
  refine go_reg [] [] [some (.int .i64 20),some (.int .i64 20)] mo f3.d f3.z f3.b (by kernel_rfl) trivial (
   hk (fun cx=>cx.q (ex_mv rfl (cx.rq 6 s6_3))) <|
   kmu 0 <|
   hn) ?_
  intro a4 w4 f4
  have bt4:=But.step f4 bt3 f3.b trivial
  refine wp_ret ?_
  try simp only [Exit.inBlock,Exit.then]
  refine bodyPost_ret (res_t (fn:=Tryz.f90) rfl (f4.v 1 rfl rfl rfl)) f4.d ?_
  exact ⟨rfl,bt4,(f4.k (f3.k (f2.k b_g_1)))⟩
end Go.Proofs.YtbpehbeakhocnaaGreatDoor.Exe
