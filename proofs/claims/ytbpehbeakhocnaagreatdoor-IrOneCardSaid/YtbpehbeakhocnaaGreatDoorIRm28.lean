import Derived.Test.YtbpehbeakhocnaaGreatDoorIRm27
import Derived.Test.YtbpehbeakhocnaaGreatDoorIRm25
set_option maxHeartbeats 4000000
set_option linter.unusedVariables false
set_option linter.unusedSimpArgs false
set_option linter.unnecessarySimpa false
namespace Go.Proofs.YtbpehbeakhocnaaGreatDoor.Flg
open Go Go.RowKit
set_option maxRecDepth 100000
theorem cc_no {cc:Int} (h:mayC cc=false):cc < 0 ∨ cc=0 ∨ cc=1 ∨ cc=8 ∨ cc=9 ∨ cc=10 ∨ cc=11 ∨ 16 ≤ cc:=by
  have:=may_not h
  omega
theorem cond_none (cc:Int) (h:mayC cc=false) (h1:cc ≤ 127) (W:World):Calls Tryz.prog 105 #[.int .i8 cc] W fun e w'=>e=.returned (.nilFunc) ∧ Below W.heap.size W w':=by
  rcases cc_no h with h0 | rfl | rfl | rfl | rfl | rfl | rfl | h0
  · exact cond_neg cc h0 W
  · exact cond_no0 W
  · exact cond_no1 W
  · exact cond_no8 W
  · exact cond_no9 W
  · exact cond_no10 W
  · exact cond_no11 W
  · exact cond_big cc h0 h1 W
theorem ex_fnn {ρ:Operand → Value} {o:Oper} {w:World} {x y:Operand} {u:TypeId} {n:FuncId} (ho:o.op=.binOp .neq 95 x y u) (hx:ρ x=.func (.func n) #[] #[]) (hy:ρ y=.nilFunc):(execOp ρ o).run Tryz.prog w=.ok (.value (.bool true)) w:=by
  simp [execOp,ho,hx,hy,go_sem]
  rfl
theorem ex_fzz {ρ:Operand → Value} {o:Oper} {w:World} {x y:Operand} {u:TypeId} (ho:o.op=.binOp .neq 95 x y u) (hx:ρ x=.nilFunc) (hy:ρ y=.nilFunc):(execOp ρ o).run Tryz.prog w=.ok (.value (.bool false)) w:=by
  simp [execOp,ho,hx,hy,go_sem]
  rfl
theorem hol_no (cc:Int) (f:Fl) (W:World) (h:mayC cc=false) (h1:cc ≤ 127):Calls Tryz.prog 114 #[.int .i8 cc,.agg (fC f)] W fun e w'=>e=.returned (.tuple #[.bool false,.int .i64 2]) ∧ Below W.heap.size W w':=by
  refine calls_abs Tryz.func114 rfl (Nat.le_of_ble_eq_true rfl) ?_
  intro a0 d0 z0 h0
  replace z0:a0.tmps.size=25:=z0
  have s0_0:a0.tmps.getD 0 undef=.int .i8 cc:=h0 0 (Nat.le_of_ble_eq_true rfl)
  have s1_0:a0.tmps.getD 1 undef=.agg (fC f):=h0 1 (Nat.le_of_ble_eq_true rfl)
  refine wp_seq ?_
  refine go_reg [] [⟨0,3,28,(fC f),none,#[]⟩] [none,oF,some (.int .i64 0)] mo d0 z0 (Below.refl _ _) (by kernel_rfl) trivial (
   hk (fun cx=>cx.al (wn rfl) 0 rfl (ex_box rfl (cx.rq 1 s1_0) rfl) rfl rfl rfl rfl rfl trivial) <|
   hk (fun cx=>cx.q (ex_as rfl rfl)) <|
   hk (fun cx=>cx.q (ex_as rfl rfl)) <|
   hn) ?_
  intro a1 w1 f1
  obtain ⟨g1,u_g1,q_g1,b_g1⟩:=f1.al.1
  refine wp_seq ?_
  have s0_1:=f1.q 0 s0_0
  refine go_reg [] [] [some (.int .i8 cc),some (.nilFunc),some (.nilFunc)] mo f1.d f1.z f1.b (by kernel_rfl) trivial (
   hk (fun cx=>cx.q (ex_mv rfl (cx.rq 0 s0_1))) <|
   hc (fun _ _ wx cx=>cx.c rfl (args1 (cx.u 0 rfl)) Tryz.func105 (by decide +kernel) (cond_none cc h h1 wx) rfl rfl) <|
   kmu 0 <|
   hn) ?_
  intro a2 w2 f2
  refine wp_seq ?_
  refine wp_seq ?_
  refine go_reg [] [] [some (.nilFunc),oT] mo f2.d f2.z f2.b (by kernel_rfl) trivial (
   hk (fun cx=>cx.q (ex_mv rfl (cx.rq 6 (f2.v 2 rfl rfl rfl)))) <|
   hk (fun cx=>cx.q (ex_fz (x:=.tmp 9) rfl (cx.u 0 rfl) rfl)) <|
   hn) ?_
  intro a3 w3 f3
  refine wp_cond_true (f3.v 1 rfl rfl rfl) ?_
  refine wp_seq ?_
  refine go_reg [] [] [oF,some (.int .i64 2)] mo f3.d f3.z f3.b (by kernel_rfl) trivial (
   hk (fun cx=>cx.q (ex_as rfl rfl)) <|
   hk (fun cx=>cx.q (ex_as rfl rfl)) <|
   hn) ?_
  intro a4 w4 f4
  refine wp_ret ?_
  try simp only [Exit.inBlock,Exit.then]
  refine bodyPost_ret (res_tt (fn:=Tryz.f114) rfl (f4.v 0 rfl rfl rfl) (f4.v 1 rfl rfl rfl)) f4.d ?_
  exact ⟨rfl,f4.b⟩
theorem holds_n (cc:Int) (f:Fl) (W:World) (h1:cc ≤ 127):Calls Tryz.prog 114 #[.int .i8 cc,.agg (fC f)] W fun e w'=>e=.returned (.tuple #[.bool (holF cc f),.int .i64 (holE cc f)]) ∧ Below W.heap.size W w':=by
  cases h:mayC cc
  · rw [show holF cc f=false from if_neg (by simp [h]),show holE cc f=2 from if_neg (by simp [h])]
    exact hol_no cc f W h h1
  · rcases may_cases h with rfl | rfl | rfl | rfl | rfl | rfl | rfl | rfl | rfl | rfl
    · exact hol_2 f W
    · exact hol_3 f W
    · exact hol_4 f W
    · exact hol_5 f W
    · exact hol_6 f W
    · exact hol_7 f W
    · exact hol_12 f W
    · exact hol_13 f W
    · exact hol_14 f W
    · exact hol_15 f W
end Go.Proofs.YtbpehbeakhocnaaGreatDoor.Flg
namespace Go.Proofs.YtbpehbeakhocnaaGreatDoor.Exe
open Go Go.RowKit
open Mrm (Xi xC zX mayX bytesX)
open Flg (Fl fC zF addF subF ofF holF holE mayC)
set_option maxRecDepth 100000
theorem faExB75_1_0 (g:Nat) (w:World):(Instr.fieldAt 65 (.pointer (some ⟨g,0,none⟩)) 1).run Tryz.prog w=.ok (.pointer (some ⟨g,22,none⟩)) w:=by simp [go_sem]
theorem faExB26_2_22 (g:Nat) (w:World):(Instr.fieldAt 38 (.pointer (some ⟨g,22,none⟩)) 2).run Tryz.prog w=.ok (.pointer (some ⟨g,24,none⟩)) w:=by simp [go_sem]
theorem faExB75_0_0 (g:Nat) (w:World):(Instr.fieldAt 65 (.pointer (some ⟨g,0,none⟩)) 0).run Tryz.prog w=.ok (.pointer (some ⟨g,0,none⟩)) w:=by simp [go_sem]
theorem faExB36_0_0 (g:Nat) (w:World):(Instr.fieldAt 30 (.pointer (some ⟨g,0,none⟩)) 0).run Tryz.prog w=.ok (.pointer (some ⟨g,0,none⟩)) w:=by simp [go_sem]
theorem faExB26_1_22 (g:Nat) (w:World):(Instr.fieldAt 38 (.pointer (some ⟨g,22,none⟩)) 1).run Tryz.prog w=.ok (.pointer (some ⟨g,23,none⟩)) w:=by simp [go_sem]
theorem faExB36_1_0 (g:Nat) (w:World):(Instr.fieldAt 30 (.pointer (some ⟨g,0,none⟩)) 1).run Tryz.prog w=.ok (.pointer (some ⟨g,16,none⟩)) w:=by simp [go_sem]
theorem faExB36_2_0 (g:Nat) (w:World):(Instr.fieldAt 30 (.pointer (some ⟨g,0,none⟩)) 2).run Tryz.prog w=.ok (.pointer (some ⟨g,21,none⟩)) w:=by simp [go_sem]
theorem dst_n (s:Ex) (g:Nat)  (W:World) (hr:W.heap[g]?=some (.cells (exC s) 65 (0,0))) (hd:0 ≤ s.x.dst ∧ s.x.dst < 16):Calls Tryz.prog 109 #[.pointer (some ⟨g,0,none⟩)] W fun e w'=>e=.returned (.int .u64 (s.m.r s.x.dst.toNat)) ∧ Below W.heap.size W w':=by
  refine calls_abs Tryz.func109 rfl (Nat.le_of_ble_eq_true rfl) ?_
  intro a0 d0 z0 h0
  replace z0:a0.tmps.size=14:=z0
  have s0_0:a0.tmps.getD 0 undef=.pointer (some ⟨g,0,none⟩):=h0 0 (Nat.le_of_ble_eq_true rfl)
  refine wp_seq ?_
  refine go_reg [] [] [some (.int .u64 0)] mo d0 z0 (Below.refl _ _) (by kernel_rfl) trivial (
   hk (fun cx=>cx.q (ex_as rfl rfl)) <|
   hn) ?_
  intro a1 w1 f1
  refine wp_seq ?_
  have b_g_1:=f1.k hr
  have s0_2:=f1.q 0 s0_0
  refine go_reg [bx g 65 (exC s)] [] [some (pt g 0),some (pt g 0),some (pt g 0),some (pt g 22),some (pt g 24),some (.int .i8 s.x.dst),some (pt g 0),some (pt g 0),some (pt g 0),some (pt g (s.x.dst.toNat)),some (.int .u64 (s.m.r s.x.dst.toNat)),some (.int .u64 (s.m.r s.x.dst.toNat))] mo f1.d f1.z f1.b (by kernel_rfl) ⟨b_g_1,trivial⟩ (
   hk (fun cx=>cx.q (ex_mv rfl (cx.rq 0 s0_2))) <|
   hk (fun cx=>cx.q (ex_mv rfl (cx.rq 0 s0_2))) <|
   hk (fun cx=>cx.q (ex_nc rfl (cx.u 0 rfl))) <|
   hk (fun cx=>cx.q (ex_fa rfl (cx.u 0 rfl) (faExB75_1_0 _ _))) <|
   hk (fun cx=>cx.q (ex_fa rfl (cx.u 0 rfl) (faExB26_2_22 _ _))) <|
   hk (fun cx=>cx.q (ex_ld rfl (cx.u 0 rfl) (cx.rn 0 rfl) rfl Tryz.isAgg36)) <|
   hk (fun cx=>cx.q (ex_nc rfl (cx.u 0 rfl))) <|
   hk (fun cx=>cx.q (ex_fa rfl (cx.u 0 rfl) (faExB75_0_0 _ _))) <|
   hk (fun cx=>cx.q (ex_fa rfl (cx.u 0 rfl) (faExB36_0_0 _ _))) <|
   hk (fun cx=>cx.v (ex_ia (n:=16) (sz:=1) rfl (cx.u 0 rfl) (cx.u 1 rfl) Tryz.underlying26 (by kernel_rfl) (by omega) (by omega) (by omega)) rfl rfl) <|
   hk (fun cx=>cx.v (ldExR (by omega) rfl (cx.u 0 rfl) (cx.rn 0 rfl)) rfl rfl) <|
   kmu 0 <|
   hn) ?_
  intro a2 w2 f2
  refine wp_ret ?_
  try simp only [Exit.inBlock,Exit.then]
  refine bodyPost_ret (res_t (fn:=Tryz.f109) rfl (f2.v 11 rfl rfl rfl)) f2.d ?_
  exact ⟨rfl,f2.b⟩
theorem move_m (s:Ex) (g:Nat) (v:Int) (W:World) (hr:W.heap[g]?=some (.cells (exC s) 65 (0,0))) (hd:0 ≤ s.x.dst ∧ s.x.dst < 16):Calls Tryz.prog 73 #[.pointer (some ⟨g,0,none⟩),.int .u64 v] W (RetT (.int .i64 0) (exC (s.upR s.x.dst.toNat (cutI v s.x.w))) 65 g W):=by
  refine calls_abs Tryz.func73 rfl (Nat.le_of_ble_eq_true rfl) ?_
  intro a0 d0 z0 h0
  replace z0:a0.tmps.size=22:=z0
  have s0_0:a0.tmps.getD 0 undef=.pointer (some ⟨g,0,none⟩):=h0 0 (Nat.le_of_ble_eq_true rfl)
  have s1_0:a0.tmps.getD 1 undef=.int .u64 v:=h0 1 (Nat.le_of_ble_eq_true rfl)
  have hB0:=cutW_below W g
  have hV:=cutW_size hr
  have bt0:=But.refl g W
  refine wp_seq ?_
  refine go_reg [] [] [some (.int .i64 0)] mo d0 z0 hB0 (by kernel_rfl) trivial (
   hk (fun cx=>cx.q (ex_as rfl rfl)) <|
   hn) ?_
  intro a1 w1 f1
  have bt1:=But.step f1 bt0 hB0 trivial
  refine wp_seq ?_
  have b_g_1:=f1.k hr
  have s0_2:=f1.q 0 s0_0
  have s1_3:=f1.q 1 s1_0
  refine go_reg [⟨g,65,(exC s),some 17,(exC (s.upR s.x.dst.toNat (cutI v s.x.w)))⟩] [] [some (pt g 0),some (pt g 0),some (pt g 0),some (pt g 22),some (pt g 24),some (.int .i8 s.x.dst),some (.int .u64 v),some (pt g 0),some (pt g 0),some (pt g 22),some (pt g 23),some (.int .i8 s.x.w),some (.int .u64 (cutI v s.x.w)),some (pt g 0),some (pt g 0),some (pt g 0),some (pt g (s.x.dst.toNat)),none] mo f1.d f1.z f1.b (by kernel_rfl) ⟨b_g_1,trivial⟩ (
   hk (fun cx=>cx.q (ex_mv rfl (cx.rq 0 s0_2))) <|
   hk (fun cx=>cx.q (ex_mv rfl (cx.rq 0 s0_2))) <|
   hk (fun cx=>cx.q (ex_nc rfl (cx.u 0 rfl))) <|
   hk (fun cx=>cx.q (ex_fa rfl (cx.u 0 rfl) (faExB75_1_0 _ _))) <|
   hk (fun cx=>cx.q (ex_fa rfl (cx.u 0 rfl) (faExB26_2_22 _ _))) <|
   hk (fun cx=>cx.q (ex_ld rfl (cx.u 0 rfl) (cx.rf 0 rfl (by kernel_rfl)) rfl Tryz.isAgg36)) <|
   hk (fun cx=>cx.q (ex_mv rfl (cx.rq 1 s1_3))) <|
   hk (fun cx=>cx.q (ex_mv rfl (cx.rq 0 s0_2))) <|
   hk (fun cx=>cx.q (ex_nc rfl (cx.u 0 rfl))) <|
   hk (fun cx=>cx.q (ex_fa rfl (cx.u 0 rfl) (faExB75_1_0 _ _))) <|
   hk (fun cx=>cx.q (ex_fa rfl (cx.u 0 rfl) (faExB26_1_22 _ _))) <|
   hk (fun cx=>cx.q (ex_ld rfl (cx.u 0 rfl) (cx.rf 0 rfl (by kernel_rfl)) rfl Tryz.isAgg36)) <|
   hc (fun _ _ wx cx=>cx.c rfl (args2 (cx.u 0 rfl) (cx.u 1 rfl)) Tryz.func107 (by decide +kernel) (((cut_any v s.x.w wx).mono (by rintro e w' ⟨rfl,rfl⟩;exact ⟨rfl,Below.refl _ _⟩))) rfl rfl) <|
   hk (fun cx=>cx.q (ex_nc rfl (cx.u 0 rfl))) <|
   hk (fun cx=>cx.q (ex_fa rfl (cx.u 0 rfl) (faExB75_0_0 _ _))) <|
   hk (fun cx=>cx.q (ex_fa rfl (cx.u 0 rfl) (faExB36_0_0 _ _))) <|
   hk (fun cx=>cx.v (ex_ia (n:=16) (sz:=1) rfl (cx.u 0 rfl) (cx.u 1 rfl) Tryz.underlying26 (by kernel_rfl) (by omega) (by omega) (by omega)) rfl rfl) <|
   hk (fun cx=>cx.stC (wn rfl) rfl rfl 0 rfl (cx.u 0 rfl) (cx.u 1 rfl) rfl rfl (by kernel_rfl) (by rw [exC_size];simp only [Nat.blt_eq];omega) (exC_set _ (by omega) _) hV rfl trivial trivial) <|
   hn) ?_
  intro a2 w2 f2
  have bt2:=But.step f2 bt1 f1.b ⟨.inr rfl,trivial⟩
  refine wp_seq ?_
  refine go_reg [] [] [some (.int .i64 0)] mo f2.d f2.z f2.b (by kernel_rfl) trivial (
   hk (fun cx=>cx.q (ex_as rfl rfl)) <|
   hn) ?_
  intro a3 w3 f3
  have bt3:=But.step f3 bt2 f2.b trivial
  refine wp_ret ?_
  try simp only [Exit.inBlock,Exit.then]
  refine bodyPost_ret (res_t (fn:=Tryz.f73) rfl (f3.v 0 rfl rfl rfl)) f3.d ?_
  exact ⟨rfl,bt3,(f3.k f2.rows.1)⟩
theorem compute_m (s:Ex) (g:Nat) (op v:Int) (W:World) (hr:W.heap[g]?=some (.cells (exC s) 65 (0,0))) (hM:MOk s.m) (hd:0 ≤ s.x.dst ∧ s.x.dst < 16) (hv:U64 v):Calls Tryz.prog 110 #[.pointer (some ⟨g,0,none⟩),.int .i8 op,.int .u64 v] W (RetT (.int .i64 0) (exC (s.upR s.x.dst.toNat (doI op s.x.w (s.m.r s.x.dst.toNat) v))) 65 g W):=by
  refine calls_abs Tryz.func110 rfl (Nat.le_of_ble_eq_true rfl) ?_
  intro a0 d0 z0 h0
  replace z0:a0.tmps.size=30:=z0
  have s0_0:a0.tmps.getD 0 undef=.pointer (some ⟨g,0,none⟩):=h0 0 (Nat.le_of_ble_eq_true rfl)
  have s1_0:a0.tmps.getD 1 undef=.int .i8 op:=h0 1 (Nat.le_of_ble_eq_true rfl)
  have s2_0:a0.tmps.getD 2 undef=.int .u64 v:=h0 2 (Nat.le_of_ble_eq_true rfl)
  have hB0:=cutW_below W g
  have hV:=cutW_size hr
  have bt0:=But.refl g W
  refine wp_seq ?_
  refine go_reg [] [] [some (.int .i64 0)] mo d0 z0 hB0 (by kernel_rfl) trivial (
   hk (fun cx=>cx.q (ex_as rfl rfl)) <|
   hn) ?_
  intro a1 w1 f1
  have bt1:=But.step f1 bt0 hB0 trivial
  refine wp_seq ?_
  have b_g_1:=f1.k hr
  have s0_2:=f1.q 0 s0_0
  have s1_3:=f1.q 1 s1_0
  have s2_4:=f1.q 2 s2_0
  refine go_reg [⟨g,65,(exC s),some 23,(exC (s.upR s.x.dst.toNat (doI op s.x.w (s.m.r s.x.dst.toNat) v)))⟩] [] (tabs [some (pt g 0),some (pt g 0),some (pt g 0),some (pt g 22),some (pt g 24),some (.int .i8 s.x.dst),some (.int .i8 op),some (pt g 0),some (pt g 0),some (pt g 22),some (pt g 23),some (.int .i8 s.x.w),some (pt g 0),some (.int .u64 (s.m.r s.x.dst.toNat)),some (.int .u64 v),some (.tuple #[.int .u64 (doI op s.x.w (s.m.r s.x.dst.toNat) v),.int .i64 (doE op s.x.w)]),some (.tuple #[.int .u64 (doI op s.x.w (s.m.r s.x.dst.toNat) v),.int .i64 (doE op s.x.w)]),some (.int .u64 (doI op s.x.w (s.m.r s.x.dst.toNat) v)),some (.int .i64 (doE op s.x.w)),some (pt g 0)] [some (pt g 0),some (pt g 0),some (pt g (s.x.dst.toNat)),none]) mo f1.d f1.z f1.b (by kernel_rfl) ⟨b_g_1,trivial⟩ (
   hk (fun cx=>cx.q (ex_mv rfl (cx.rq 0 s0_2))) <|
   hk (fun cx=>cx.q (ex_mv rfl (cx.rq 0 s0_2))) <|
   hk (fun cx=>cx.q (ex_nc rfl (cx.u 0 rfl))) <|
   hk (fun cx=>cx.q (ex_fa rfl (cx.u 0 rfl) (faExB75_1_0 _ _))) <|
   hk (fun cx=>cx.q (ex_fa rfl (cx.u 0 rfl) (faExB26_2_22 _ _))) <|
   hk (fun cx=>cx.q (ex_ld rfl (cx.u 0 rfl) (cx.rf 0 rfl (by kernel_rfl)) rfl Tryz.isAgg36)) <|
   hk (fun cx=>cx.q (ex_mv rfl (cx.rq 1 s1_3))) <|
   hk (fun cx=>cx.q (ex_mv rfl (cx.rq 0 s0_2))) <|
   hk (fun cx=>cx.q (ex_nc rfl (cx.u 0 rfl))) <|
   hk (fun cx=>cx.q (ex_fa rfl (cx.u 0 rfl) (faExB75_1_0 _ _))) <|
   hk (fun cx=>cx.q (ex_fa rfl (cx.u 0 rfl) (faExB26_1_22 _ _))) <|
   hk (fun cx=>cx.q (ex_ld rfl (cx.u 0 rfl) (cx.rf 0 rfl (by kernel_rfl)) rfl Tryz.isAgg36)) <|
   hk (fun cx=>cx.q (ex_mv rfl (cx.rq 0 s0_2))) <|
   hc (fun _ _ wx cx=>cx.c rfl (args1 (cx.u 0 rfl)) Tryz.func109 (by decide +kernel) (dst_n s g wx (cx.rf 0 rfl (by kernel_rfl)) hd) rfl rfl) <|
   hk (fun cx=>cx.q (ex_mv rfl (cx.rq 2 s2_4))) <|
   hc (fun _ _ wx cx=>cx.c rfl (args4 (cx.u 0 rfl) (cx.u 1 rfl) (cx.u 2 rfl) (cx.u 3 rfl)) Tryz.func113 (by decide +kernel) (do_any op s.x.w (s.m.r s.x.dst.toNat) v wx (hM.r s.x.dst.toNat).1 (hM.r s.x.dst.toNat).2 hv.1 hv.2) rfl rfl) <|
   kmu 0 <|
   hk (fun cx=>cx.q (ex_ext (x:=.tmp 7) rfl (cx.u 0 rfl) rfl)) <|
   hk (fun cx=>cx.q (ex_ext (x:=.tmp 7) rfl (cx.u 0 rfl) rfl)) <|
   hk (fun cx=>cx.q (ex_nc rfl (cx.u 0 rfl))) <|
   hk (fun cx=>cx.q (ex_fa rfl (cx.u 0 rfl) (faExB75_0_0 _ _))) <|
   hk (fun cx=>cx.q (ex_fa rfl (cx.u 0 rfl) (faExB36_0_0 _ _))) <|
   hk (fun cx=>cx.v (ex_ia (n:=16) (sz:=1) rfl (cx.u 0 rfl) (cx.u 1 rfl) Tryz.underlying26 (by kernel_rfl) (by omega) (by omega) (by omega)) rfl rfl) <|
   hk (fun cx=>cx.stC (wn rfl) rfl rfl 0 rfl (cx.u 0 rfl) (cx.u 1 rfl) rfl rfl (by kernel_rfl) (by rw [exC_size];simp only [Nat.blt_eq];omega) (exC_set _ (by omega) _) hV rfl trivial trivial) <|
   hn) ?_
  intro a2 w2 f2
  have bt2:=But.step f2 bt1 f1.b ⟨.inr rfl,trivial⟩
  refine wp_seq ?_
  refine go_reg [] [] [some (.int .i64 0)] mo f2.d f2.z f2.b (by kernel_rfl) trivial (
   hk (fun cx=>cx.q (ex_as rfl rfl)) <|
   hn) ?_
  intro a3 w3 f3
  have bt3:=But.step f3 bt2 f2.b trivial
  refine wp_ret ?_
  try simp only [Exit.inBlock,Exit.then]
  refine bodyPost_ret (res_t (fn:=Tryz.f110) rfl (f3.v 0 rfl rfl rfl)) f3.d ?_
  exact ⟨rfl,bt3,(f3.k f2.rows.1)⟩
theorem flagsOf_m (s:Ex) (g:Nat) (v:Int) (W:World) (hr:W.heap[g]?=some (.cells (exC s) 65 (0,0))) (hv:U64 v):Calls Tryz.prog 111 #[.pointer (some ⟨g,0,none⟩),.int .u64 v] W (RetT (.int .i64 0) (exC (s.upF (ofF s.x.w v))) 65 g W):=by
  refine calls_abs Tryz.func111 rfl (Nat.le_of_ble_eq_true rfl) ?_
  intro a0 d0 z0 h0
  replace z0:a0.tmps.size=19:=z0
  have s0_0:a0.tmps.getD 0 undef=.pointer (some ⟨g,0,none⟩):=h0 0 (Nat.le_of_ble_eq_true rfl)
  have s1_0:a0.tmps.getD 1 undef=.int .u64 v:=h0 1 (Nat.le_of_ble_eq_true rfl)
  have hB0:=cutW_below W g
  have hV:=cutW_size hr
  have bt0:=But.refl g W
  refine wp_seq ?_
  refine go_reg [] [] [some (.int .i64 0)] mo d0 z0 hB0 (by kernel_rfl) trivial (
   hk (fun cx=>cx.q (ex_as rfl rfl)) <|
   hn) ?_
  intro a1 w1 f1
  have bt1:=But.step f1 bt0 hB0 trivial
  refine wp_seq ?_
  have b_g_1:=f1.k hr
  have s0_2:=f1.q 0 s0_0
  have s1_3:=f1.q 1 s1_0
  refine go_reg [⟨g,65,(exC s),some 14,(exC (s.upF (ofF s.x.w v)))⟩] [] [some (pt g 0),some (pt g 0),some (pt g 0),some (pt g 22),some (pt g 23),some (.int .i8 s.x.w),some (.int .u64 v),some (.tuple #[.agg (fC (ofF s.x.w v)),.int .i64 (Flg.errW s.x.w)]),some (.tuple #[.agg (fC (ofF s.x.w v)),.int .i64 (Flg.errW s.x.w)]),some (.agg (fC (ofF s.x.w v))),some (.int .i64 (Flg.errW s.x.w)),some (pt g 0),some (pt g 0),some (pt g 16),none] mo f1.d f1.z f1.b (by kernel_rfl) ⟨b_g_1,trivial⟩ (
   hk (fun cx=>cx.q (ex_mv rfl (cx.rq 0 s0_2))) <|
   hk (fun cx=>cx.q (ex_mv rfl (cx.rq 0 s0_2))) <|
   hk (fun cx=>cx.q (ex_nc rfl (cx.u 0 rfl))) <|
   hk (fun cx=>cx.q (ex_fa rfl (cx.u 0 rfl) (faExB75_1_0 _ _))) <|
   hk (fun cx=>cx.q (ex_fa rfl (cx.u 0 rfl) (faExB26_1_22 _ _))) <|
   hk (fun cx=>cx.q (ex_ld rfl (cx.u 0 rfl) (cx.rf 0 rfl (by kernel_rfl)) rfl Tryz.isAgg36)) <|
   hk (fun cx=>cx.q (ex_mv rfl (cx.rq 1 s1_3))) <|
   hc (fun _ _ wx cx=>cx.c rfl (args2 (cx.u 0 rfl) (cx.u 1 rfl)) Tryz.func145 (by decide +kernel) (Flg.of_n s.x.w v wx hv) rfl rfl) <|
   kmu 0 <|
   hk (fun cx=>cx.q (ex_ext (x:=.tmp 5) rfl (cx.u 0 rfl) rfl)) <|
   hk (fun cx=>cx.q (ex_ext (x:=.tmp 5) rfl (cx.u 0 rfl) rfl)) <|
   hk (fun cx=>cx.q (ex_nc rfl (cx.u 0 rfl))) <|
   hk (fun cx=>cx.q (ex_fa rfl (cx.u 0 rfl) (faExB75_0_0 _ _))) <|
   hk (fun cx=>cx.q (ex_fa rfl (cx.u 0 rfl) (faExB36_1_0 _ _))) <|
   hk (fun cx=>cx.stP (wn rfl) rfl rfl 0 rfl (cx.u 0 rfl) (cx.u 1 rfl) (Flg.fC_one _) (by kernel_rfl) (Nat.le_of_ble_eq_true rfl) rfl hV rfl trivial trivial) <|
   hn) ?_
  intro a2 w2 f2
  have bt2:=But.step f2 bt1 f1.b ⟨.inr rfl,trivial⟩
  refine wp_seq ?_
  refine go_reg [] [] [some (.int .i64 0)] mo f2.d f2.z f2.b (by kernel_rfl) trivial (
   hk (fun cx=>cx.q (ex_as rfl rfl)) <|
   hn) ?_
  intro a3 w3 f3
  have bt3:=But.step f3 bt2 f2.b trivial
  refine wp_ret ?_
  try simp only [Exit.inBlock,Exit.then]
  refine bodyPost_ret (res_t (fn:=Tryz.f111) rfl (f3.v 0 rfl rfl rfl)) f3.d ?_
  exact ⟨rfl,bt3,(f3.k f2.rows.1)⟩
theorem compare_m (s:Ex) (g:Nat) (v:Int) (W:World) (hr:W.heap[g]?=some (.cells (exC s) 65 (0,0))) (hM:MOk s.m) (hd:0 ≤ s.x.dst ∧ s.x.dst < 16) (hv:U64 v):Calls Tryz.prog 79 #[.pointer (some ⟨g,0,none⟩),.int .u64 v] W (RetT (.int .i64 0) (exC (s.upF (subF s.x.w (s.m.r s.x.dst.toNat) v))) 65 g W):=by
  refine calls_abs Tryz.func79 rfl (Nat.le_of_ble_eq_true rfl) ?_
  intro a0 d0 z0 h0
  replace z0:a0.tmps.size=21:=z0
  have s0_0:a0.tmps.getD 0 undef=.pointer (some ⟨g,0,none⟩):=h0 0 (Nat.le_of_ble_eq_true rfl)
  have s1_0:a0.tmps.getD 1 undef=.int .u64 v:=h0 1 (Nat.le_of_ble_eq_true rfl)
  have hB0:=cutW_below W g
  have hV:=cutW_size hr
  have bt0:=But.refl g W
  refine wp_seq ?_
  refine go_reg [] [] [some (.int .i64 0)] mo d0 z0 hB0 (by kernel_rfl) trivial (
   hk (fun cx=>cx.q (ex_as rfl rfl)) <|
   hn) ?_
  intro a1 w1 f1
  have bt1:=But.step f1 bt0 hB0 trivial
  refine wp_seq ?_
  have b_g_1:=f1.k hr
  have s0_2:=f1.q 0 s0_0
  have s1_3:=f1.q 1 s1_0
  refine go_reg [⟨g,65,(exC s),some 16,(exC (s.upF (subF s.x.w (s.m.r s.x.dst.toNat) v)))⟩] [] [some (pt g 0),some (pt g 0),some (pt g 0),some (pt g 22),some (pt g 23),some (.int .i8 s.x.w),some (pt g 0),some (.int .u64 (s.m.r s.x.dst.toNat)),some (.int .u64 v),some (.tuple #[.agg (fC (subF s.x.w (s.m.r s.x.dst.toNat) v)),.int .i64 (Flg.errW s.x.w)]),some (.tuple #[.agg (fC (subF s.x.w (s.m.r s.x.dst.toNat) v)),.int .i64 (Flg.errW s.x.w)]),some (.agg (fC (subF s.x.w (s.m.r s.x.dst.toNat) v))),some (.int .i64 (Flg.errW s.x.w)),some (pt g 0),some (pt g 0),some (pt g 16),none] mo f1.d f1.z f1.b (by kernel_rfl) ⟨b_g_1,trivial⟩ (
   hk (fun cx=>cx.q (ex_mv rfl (cx.rq 0 s0_2))) <|
   hk (fun cx=>cx.q (ex_mv rfl (cx.rq 0 s0_2))) <|
   hk (fun cx=>cx.q (ex_nc rfl (cx.u 0 rfl))) <|
   hk (fun cx=>cx.q (ex_fa rfl (cx.u 0 rfl) (faExB75_1_0 _ _))) <|
   hk (fun cx=>cx.q (ex_fa rfl (cx.u 0 rfl) (faExB26_1_22 _ _))) <|
   hk (fun cx=>cx.q (ex_ld rfl (cx.u 0 rfl) (cx.rf 0 rfl (by kernel_rfl)) rfl Tryz.isAgg36)) <|
   hk (fun cx=>cx.q (ex_mv rfl (cx.rq 0 s0_2))) <|
   hc (fun _ _ wx cx=>cx.c rfl (args1 (cx.u 0 rfl)) Tryz.func109 (by decide +kernel) (dst_n s g wx (cx.rf 0 rfl (by kernel_rfl)) hd) rfl rfl) <|
   hk (fun cx=>cx.q (ex_mv rfl (cx.rq 1 s1_3))) <|
   hc (fun _ _ wx cx=>cx.c rfl (args3 (cx.u 0 rfl) (cx.u 1 rfl) (cx.u 2 rfl)) Tryz.func112 (by decide +kernel) (Flg.sub_n s.x.w (s.m.r s.x.dst.toNat) v wx (hM.r s.x.dst.toNat) hv) rfl rfl) <|
   kmu 0 <|
   hk (fun cx=>cx.q (ex_ext (x:=.tmp 5) rfl (cx.u 0 rfl) rfl)) <|
   hk (fun cx=>cx.q (ex_ext (x:=.tmp 5) rfl (cx.u 0 rfl) rfl)) <|
   hk (fun cx=>cx.q (ex_nc rfl (cx.u 0 rfl))) <|
   hk (fun cx=>cx.q (ex_fa rfl (cx.u 0 rfl) (faExB75_0_0 _ _))) <|
   hk (fun cx=>cx.q (ex_fa rfl (cx.u 0 rfl) (faExB36_1_0 _ _))) <|
   hk (fun cx=>cx.stP (wn rfl) rfl rfl 0 rfl (cx.u 0 rfl) (cx.u 1 rfl) (Flg.fC_one _) (by kernel_rfl) (Nat.le_of_ble_eq_true rfl) rfl hV rfl trivial trivial) <|
   hn) ?_
  intro a2 w2 f2
  have bt2:=But.step f2 bt1 f1.b ⟨.inr rfl,trivial⟩
  refine wp_seq ?_
  refine go_reg [] [] [some (.int .i64 0)] mo f2.d f2.z f2.b (by kernel_rfl) trivial (
   hk (fun cx=>cx.q (ex_as rfl rfl)) <|
   hn) ?_
  intro a3 w3 f3
  have bt3:=But.step f3 bt2 f2.b trivial
  refine wp_ret ?_
  try simp only [Exit.inBlock,Exit.then]
  refine bodyPost_ret (res_t (fn:=Tryz.f79) rfl (f3.v 0 rfl rfl rfl)) f3.d ?_
  exact ⟨rfl,bt3,(f3.k f2.rows.1)⟩
theorem jump_m (s:Ex) (g:Nat) (v:Int) (W:World) (hr:W.heap[g]?=some (.cells (exC s) 65 (0,0))):Calls Tryz.prog 89 #[.pointer (some ⟨g,0,none⟩),.int .u64 v] W (RetT (.int .i64 0) (exC (s.upA (IntKind.u64.wrap (s.m.a + v)))) 65 g W):=by
  refine calls_abs Tryz.func89 rfl (Nat.le_of_ble_eq_true rfl) ?_
  intro a0 d0 z0 h0
  replace z0:a0.tmps.size=15:=z0
  have s0_0:a0.tmps.getD 0 undef=.pointer (some ⟨g,0,none⟩):=h0 0 (Nat.le_of_ble_eq_true rfl)
  have s1_0:a0.tmps.getD 1 undef=.int .u64 v:=h0 1 (Nat.le_of_ble_eq_true rfl)
  have hB0:=cutW_below W g
  have hV:=cutW_size hr
  have bt0:=But.refl g W
  refine wp_seq ?_
  refine go_reg [] [] [some (.int .i64 0)] mo d0 z0 hB0 (by kernel_rfl) trivial (
   hk (fun cx=>cx.q (ex_as rfl rfl)) <|
   hn) ?_
  intro a1 w1 f1
  have bt1:=But.step f1 bt0 hB0 trivial
  refine wp_seq ?_
  have b_g_1:=f1.k hr
  have s0_2:=f1.q 0 s0_0
  have s1_3:=f1.q 1 s1_0
  refine go_reg [⟨g,65,(exC s),some 10,(exC (s.upA (IntKind.u64.wrap (s.m.a + v))))⟩] [] [some (pt g 0),some (pt g 0),some (pt g 0),some (pt g 21),some (.int .u64 s.m.a),some (.int .u64 v),some (.int .u64 (IntKind.u64.wrap (s.m.a + v))),some (pt g 0),some (pt g 0),some (pt g 21),none] mo f1.d f1.z f1.b (by kernel_rfl) ⟨b_g_1,trivial⟩ (
   hk (fun cx=>cx.q (ex_mv rfl (cx.rq 0 s0_2))) <|
   hk (fun cx=>cx.q (ex_nc rfl (cx.u 0 rfl))) <|
   hk (fun cx=>cx.q (ex_fa rfl (cx.u 0 rfl) (faExB75_0_0 _ _))) <|
   hk (fun cx=>cx.q (ex_fa rfl (cx.u 0 rfl) (faExB36_2_0 _ _))) <|
   hk (fun cx=>cx.q (ex_ld rfl (cx.u 0 rfl) (cx.rf 0 rfl (by kernel_rfl)) rfl Tryz.isAgg23)) <|
   hk (fun cx=>cx.q (ex_mv rfl (cx.rq 1 s1_3))) <|
   hk (fun cx=>cx.q (ex_add (x:=.tmp 9) (y:=.tmp 10) rfl (cx.u 0 rfl) (cx.u 1 rfl))) <|
   hk (fun cx=>cx.q (ex_nc rfl (cx.u 0 rfl))) <|
   hk (fun cx=>cx.q (ex_fa rfl (cx.u 0 rfl) (faExB75_0_0 _ _))) <|
   hk (fun cx=>cx.q (ex_fa rfl (cx.u 0 rfl) (faExB36_2_0 _ _))) <|
   hk (fun cx=>cx.stC (wn rfl) rfl rfl 0 rfl (cx.u 0 rfl) (cx.u 1 rfl) rfl rfl (by kernel_rfl) rfl rfl hV rfl trivial trivial) <|
   hn) ?_
  intro a2 w2 f2
  have bt2:=But.step f2 bt1 f1.b ⟨.inr rfl,trivial⟩
  refine wp_seq ?_
  refine go_reg [] [] [some (.int .i64 0)] mo f2.d f2.z f2.b (by kernel_rfl) trivial (
   hk (fun cx=>cx.q (ex_as rfl rfl)) <|
   hn) ?_
  intro a3 w3 f3
  have bt3:=But.step f3 bt2 f2.b trivial
  refine wp_ret ?_
  try simp only [Exit.inBlock,Exit.then]
  refine bodyPost_ret (res_t (fn:=Tryz.f89) rfl (f3.v 0 rfl rfl rfl)) f3.d ?_
  exact ⟨rfl,bt3,(f3.k f2.rows.1)⟩
end Go.Proofs.YtbpehbeakhocnaaGreatDoor.Exe
