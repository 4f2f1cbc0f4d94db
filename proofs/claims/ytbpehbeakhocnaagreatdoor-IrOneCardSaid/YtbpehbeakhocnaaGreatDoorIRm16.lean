import Derived.Test.YtbpehbeakhocnaaGreatDoorIRm12
import Derived.Test.YtbpehbeakhocnaaGreatDoorIRm14
import Derived.Test.YtbpehbeakhocnaaGreatDoorIRm15
import Derived.Test.YtbpehbeakhocnaaGreatDoorIRm02
import Derived.BigRegion
import Derived.Deep.QuietTactic
import Derived.BigQuiet
set_option maxHeartbeats 4000000
set_option linter.unusedVariables false
set_option linter.unusedSimpArgs false
set_option linter.unnecessarySimpa false
namespace Go.Proofs.YtbpehbeakhocnaaGreatDoor.Mrm
open Go Go.RowKit
set_option maxRecDepth 100000
theorem faEcE24_0_0 (g:Nat) (w:World):(Instr.fieldAt 38 (.pointer (some ⟨g,0,none⟩)) 0).run Tryz.prog w=.ok (.pointer (some ⟨g,0,none⟩)) w:=by simp [go_sem]
theorem faEcE24_1_0 (g:Nat) (w:World):(Instr.fieldAt 38 (.pointer (some ⟨g,0,none⟩)) 1).run Tryz.prog w=.ok (.pointer (some ⟨g,1,none⟩)) w:=by simp [go_sem]
theorem codesL_mem:∀ k:Fin 32,codeA (k.1:Int) ∈ codesL:=by decide +kernel
theorem codeOf_mem (op w:Int):(codeOfP op w).1 ∈ allC:=by
  unfold codeOfP
  split
  · exact List.mem_append_right _ (List.mem_append_right _ (List.mem_singleton.2 rfl))
  · rename_i h
    split
    · have:=codesL_mem ⟨op.toNat,by omega⟩
      rw [show ((⟨op.toNat,by omega⟩:Fin 32).1:Int)=op from Int.toNat_of_nonneg (by omega)] at this
      exact List.mem_append_left _ this
    · cases hf:othersL.find? (fun o=>o.1 == op && hasB o.2 w) with
      | none=>exact List.mem_append_right _ (List.mem_append_right _ (List.mem_singleton.2 rfl))
      | some q=>exact List.mem_append_right _ (List.mem_append_left _ (List.mem_map.2 ⟨q,List.mem_of_find?_eq_some hf,rfl⟩))
structure XOk (x:Xi):Prop where
  op:-128 ≤ x.op ∧ x.op < 128
  w:-128 ≤ x.w ∧ x.w < 128
  dst:-128 ≤ x.dst ∧ x.dst < 128
  src:-128 ≤ x.src ∧ x.src < 128
  base:-128 ≤ x.base ∧ x.base < 128
  disp:-9223372036854775808 ≤ x.disp ∧ x.disp ≤ 9223372036854775807
  imm:-9223372036854775808 ≤ x.imm ∧ x.imm ≤ 9223372036854775807
  cc:-128 ≤ x.cc ∧ x.cc < 128
theorem cmay_n (x:Xi) (W:World) (hX:XOk x) (hT:Tabs W):Calls Tryz.prog 102 #[.agg (xC x)] W fun e w'=>e=.returned (.bool (mayP x)) ∧ Below W.heap.size W w':=by
  have hx:=Lib.hid hX
  have HT:=Lib.hid hT
  have mc:=Lib.hid (codeOf_mem x.op x.w)
  have CO:=Lib.hid (fun W (hT:Tabs W)=>codeOf_n x.op x.w hX.op W hT)
  clear hX hT
  have em:Hid (mayP x=((codeOfP x.op x.w).2 && (eqX x (filledP x.op x.w (codeOfP x.op x.w).1 (partsP x (codeOfP x.op x.w).1)) && fitsP x (codeOfP x.op x.w).1))):=Lib.hid rfl
  generalize codeOfP x.op x.w=r at *
  obtain ⟨c,ok⟩:=r
  simp only at mc em CO
  refine calls_abs Tryz.func102 rfl (Nat.le_of_ble_eq_true rfl) ?_
  intro a0 d0 z0 h0
  replace z0:a0.tmps.size=32:=z0
  have s0_0:a0.tmps.getD 0 undef=.agg (xC x):=h0 0 (Nat.le_of_ble_eq_true rfl)
  refine wp_seq ?_
  refine go_reg [] [⟨0,1,38,(xC x),none,#[]⟩] [none,oF] mo d0 z0 (Below.refl _ _) (by kernel_rfl) trivial (
   hk (fun cx=>cx.al (wn rfl) 0 rfl (ex_box rfl (cx.rq 0 s0_0) rfl) rfl rfl rfl rfl rfl trivial) <|
   hk (fun cx=>cx.q (ex_as rfl rfl)) <|
   hn) ?_
  intro a1 w1 f1
  obtain ⟨g1,u_g1,q_g1,b_g1⟩:=f1.al.1
  refine wp_seq ?_
  cases fk1:ok
  case false=>
   have Ffk1:=Lib.hid fk1;clear fk1
   refine go_reg [bx g1 38 (xC x)] [⟨8,3,106,#[.int .i8 0,.int .i8 0,.int .u16 0,.int .i8 0,.int .u16 0],some 9,#[.int .i8 c.sh,.int .i8 c.wd,.int .u16 c.va,.int .i8 c.dg,.int .u16 c.lo]⟩] [some (pt g1 0),some (.int .i8 x.op),some (pt g1 1),some (.int .i8 x.w),some (.tuple #[.agg #[.int .i8 c.sh,.int .i8 c.wd,.int .u16 c.va,.int .i8 c.dg,.int .u16 c.lo],.bool ok]),some (.tuple #[.agg #[.int .i8 c.sh,.int .i8 c.wd,.int .u16 c.va,.int .i8 c.dg,.int .u16 c.lo],.bool ok]),some (.agg #[.int .i8 c.sh,.int .i8 c.wd,.int .u16 c.va,.int .i8 c.dg,.int .u16 c.lo]),oF,none,none,oF] mo f1.d f1.z f1.b (by kernel_rfl) ⟨b_g1,trivial⟩ (
    hk (fun cx=>cx.q (ex_fa rfl (cx.rq 1 u_g1) (faEcE24_0_0 _ _))) <|
    hk (fun cx=>cx.q (ex_ld rfl (cx.u 0 rfl) (cx.rn 0 rfl) rfl Tryz.isAgg36)) <|
    hk (fun cx=>cx.q (ex_fa rfl (cx.rq 1 u_g1) (faEcE24_1_0 _ _))) <|
    hk (fun cx=>cx.q (ex_ld rfl (cx.u 0 rfl) (cx.rn 0 rfl) rfl Tryz.isAgg36)) <|
    hc (fun _ _ wx cx=>cx.c rfl (args2 (cx.u 0 rfl) (cx.u 1 rfl)) Tryz.func121 (by decide +kernel) (CO.out wx (HT.out.below cx.S.1.1 (Nat.le_refl _))) rfl rfl) <|
    kmu 0 <|
    hk (fun cx=>cx.q (ex_ext (x:=.tmp 5) rfl (cx.u 0 rfl) rfl)) <|
    hk (fun cx=>cx.v (ex_ext (x:=.tmp 5) rfl (cx.u 0 rfl) rfl) rfl (congrArg Value.bool Ffk1.out)) <|
    hk (fun cx=>cx.al (wn rfl) 0 rfl (by simp [execOp,Act.eval,go_sem]) rfl rfl rfl rfl (by kernel_rfl) trivial) <|
    hk (fun cx=>cx.stA (wn rfl) rfl rfl 0 0 rfl rfl rfl rfl (cx.u 1 rfl) (by kernel_rfl) (Eq.refl 5) (by simp [Value.oneCell']) f1.b.size rfl rfl trivial) <|
    kmu 0 <|
    hn) ?_
   intro a2 w2 f2
   obtain ⟨g2,u_g2,q_g2,b_g2⟩:=f2.al.1
   refine wp_seq ?_
   refine go_reg [] [] [oF,oF,oU,oU,oU,oU,oU,oU,oU,oU,oU,oU,oU,oF,oF,oU,oU,oU,oF,oF] mo f2.d f2.z f2.b (by kernel_rfl) trivial (
    hk (fun cx=>cx.q (ex_mv rfl (cx.rq 4 (f2.v 10 rfl rfl rfl)))) <|
    kmu 0 <|
    kno 0 <|
    kno 0 <|
    kno 1 <|
    kno 0 <|
    kno 1 <|
    kno 0 <|
    kno 0 <|
    kno 0 <|
    kno 2 <|
    kno 5 <|
    kno 2 <|
    hk (fun cx=>cx.q (ex_pf rfl (cx.u 0 rfl) rfl)) <|
    kmu 0 <|
    kno 0 <|
    kno 0 <|
    kno 2 <|
    hk (fun cx=>cx.q (ex_pf rfl (cx.u 0 rfl) rfl)) <|
    kmu 0 <|
    hn) ?_
   intro a3 w3 f3
   refine wp_ret ?_
   try simp only [Exit.inBlock,Exit.then]
   refine bodyPost_ret (res_t (fn:=Tryz.f102) rfl (f3.v 19 rfl rfl rfl)) f3.d ?_
   have HE:(.bool false:Value)=.bool (mayP x):=by rw [em.out];simp only [Ffk1.out,Bool.true_and,Bool.false_and]
   exact ⟨retV HE,f3.b⟩
  have Ffk1:=Lib.hid fk1;clear fk1
  refine go_reg [bx g1 38 (xC x)] [⟨8,3,106,#[.int .i8 0,.int .i8 0,.int .u16 0,.int .i8 0,.int .u16 0],some 9,#[.int .i8 c.sh,.int .i8 c.wd,.int .u16 c.va,.int .i8 c.dg,.int .u16 c.lo]⟩] [some (pt g1 0),some (.int .i8 x.op),some (pt g1 1),some (.int .i8 x.w),some (.tuple #[.agg #[.int .i8 c.sh,.int .i8 c.wd,.int .u16 c.va,.int .i8 c.dg,.int .u16 c.lo],.bool ok]),some (.tuple #[.agg #[.int .i8 c.sh,.int .i8 c.wd,.int .u16 c.va,.int .i8 c.dg,.int .u16 c.lo],.bool ok]),some (.agg #[.int .i8 c.sh,.int .i8 c.wd,.int .u16 c.va,.int .i8 c.dg,.int .u16 c.lo]),oT,none,none,oT] mo f1.d f1.z f1.b (by kernel_rfl) ⟨b_g1,trivial⟩ (
   hk (fun cx=>cx.q (ex_fa rfl (cx.rq 1 u_g1) (faEcE24_0_0 _ _))) <|
   hk (fun cx=>cx.q (ex_ld rfl (cx.u 0 rfl) (cx.rn 0 rfl) rfl Tryz.isAgg36)) <|
   hk (fun cx=>cx.q (ex_fa rfl (cx.rq 1 u_g1) (faEcE24_1_0 _ _))) <|
   hk (fun cx=>cx.q (ex_ld rfl (cx.u 0 rfl) (cx.rn 0 rfl) rfl Tryz.isAgg36)) <|
   hc (fun _ _ wx cx=>cx.c rfl (args2 (cx.u 0 rfl) (cx.u 1 rfl)) Tryz.func121 (by decide +kernel) (CO.out wx (HT.out.below cx.S.1.1 (Nat.le_refl _))) rfl rfl) <|
   kmu 0 <|
   hk (fun cx=>cx.q (ex_ext (x:=.tmp 5) rfl (cx.u 0 rfl) rfl)) <|
   hk (fun cx=>cx.v (ex_ext (x:=.tmp 5) rfl (cx.u 0 rfl) rfl) rfl (congrArg Value.bool Ffk1.out)) <|
   hk (fun cx=>cx.al (wn rfl) 0 rfl (by simp [execOp,Act.eval,go_sem]) rfl rfl rfl rfl (by kernel_rfl) trivial) <|
   hk (fun cx=>cx.stA (wn rfl) rfl rfl 0 0 rfl rfl rfl rfl (cx.u 1 rfl) (by kernel_rfl) (Eq.refl 5) (by simp [Value.oneCell']) f1.b.size rfl rfl trivial) <|
   kmu 0 <|
   hn) ?_
  intro a4 w4 f4
  obtain ⟨g2,u_g2,q_g2,b_g2⟩:=f4.al.1
  refine wp_seq ?_
  cases fk2:eqX x (filledP x.op x.w c (partsP x c))
  case false=>
   have Ffk2:=Lib.hid fk2;clear fk2
   have b_g1_1:=f4.k b_g1
   have s1_2:=f4.q 1 u_g1
   refine go_reg [bx g1 38 (xC x),bx g2 106 #[.int .i8 c.sh,.int .i8 c.wd,.int .u16 c.va,.int .i8 c.dg,.int .u16 c.lo]] [] [oT,oT,some (.agg (xC x)),some (pt g1 0),some (.int .i8 x.op),some (pt g1 1),some (.int .i8 x.w),some (.agg #[.int .i8 c.sh,.int .i8 c.wd,.int .u16 c.va,.int .i8 c.dg,.int .u16 c.lo]),some (.agg (xC x)),some (.agg #[.int .i8 c.sh,.int .i8 c.wd,.int .u16 c.va,.int .i8 c.dg,.int .u16 c.lo]),some (.agg #[.int .i8 (partsP x c).reg,.int .i8 (partsP x c).rm,.int .i64 (partsP x c).disp,.int .i64 (partsP x c).imm,.int .i8 (partsP x c).cc]),some (.agg (xC (filledP x.op x.w c (partsP x c)))),oF,oF,oF,oU,oU,oU,oF,oF] mo f4.d f4.z f4.b (by kernel_rfl) ⟨b_g1_1,b_g2,trivial⟩ (
    hk (fun cx=>cx.q (ex_mv rfl (cx.rq 4 (f4.v 10 rfl rfl rfl)))) <|
    kmu 0 <|
    hk (fun cx=>cx.vy 0 (ldX rfl (cx.rq 1 s1_2) (cx.rn 0 rfl))) <|
    hk (fun cx=>cx.vy 0 (ex_fa rfl (cx.rq 1 s1_2) (faEcE24_0_0 _ _))) <|
    hk (fun cx=>cx.vy 1 (ex_ld rfl (cx.u 0 rfl) (cx.rn 0 rfl) rfl Tryz.isAgg36)) <|
    hk (fun cx=>cx.vy 0 (ex_fa rfl (cx.rq 1 s1_2) (faEcE24_1_0 _ _))) <|
    hk (fun cx=>cx.vy 1 (ex_ld rfl (cx.u 0 rfl) (cx.rn 0 rfl) rfl Tryz.isAgg36)) <|
    hk (fun cx=>cx.vy 0 (exec_loadR 106 _ rfl g2 0 (cx.rq 3 u_g2) (cx.rn 1 rfl) [.int .i8 c.sh,.int .i8 c.wd,.int .u16 c.va,.int .i8 c.dg,.int .u16 c.lo] rfl _ Tryz.underlying106 rfl (by kernel_rfl))) <|
    hk (fun cx=>cx.vy 0 (ldX rfl (cx.rq 1 s1_2) (cx.rn 0 rfl))) <|
    hk (fun cx=>cx.vy 0 (exec_loadR 106 _ rfl g2 0 (cx.rq 3 u_g2) (cx.rn 1 rfl) [.int .i8 c.sh,.int .i8 c.wd,.int .u16 c.va,.int .i8 c.dg,.int .u16 c.lo] rfl _ Tryz.underlying106 rfl (by kernel_rfl))) <|
    hc (fun _ _ wx cx=>cx.call (cx.wy rfl rfl rfl rfl (cx.u 2 rfl)) rfl rfl (args2 (cx.u 0 rfl) (cx.u 1 rfl)) Tryz.func123 (by decide +kernel) rfl (cparts_n x c mc.out wx) rfl rfl rfl rfl) <|
    hc (fun _ _ wx cx=>cx.call (cx.wy rfl rfl rfl rfl (cx.u 5 rfl)) rfl rfl (args4 (cx.u 0 rfl) (cx.u 1 rfl) (cx.u 2 rfl) (cx.u 3 rfl)) Tryz.func122 (by decide +kernel) rfl (cfilled_n x.op x.w c (partsP x c) mc.out wx) rfl rfl rfl rfl) <|
    hk (fun cx=>cx.vy (v:=.bool (eqX x (filledP x.op x.w c (partsP x c)))) 2 (exec_eql (x:=.tmp 15) (y:=.tmp 24) rfl (cx.u 0 rfl) (cx.u 1 rfl) (by kernel_rfl) (eq_x x (filledP x.op x.w c (partsP x c)) _)) (congrArg Value.bool Ffk2.out)) <|
    hk (fun cx=>cx.q (ex_pt rfl (cx.u 0 rfl) (cx.u 1 rfl))) <|
    kmu 0 <|
    kno 0 <|
    kno 0 <|
    kno 2 <|
    hk (fun cx=>cx.q (ex_pf rfl (cx.u 0 rfl) rfl)) <|
    kmu 0 <|
    hn) ?_
   intro a5 w5 f5
   refine wp_ret ?_
   try simp only [Exit.inBlock,Exit.then]
   refine bodyPost_ret (res_t (fn:=Tryz.f102) rfl (f5.v 19 rfl rfl rfl)) f5.d ?_
   have HE:(.bool false:Value)=.bool (mayP x):=by rw [em.out];simp only [Ffk1.out,Ffk2.out,Bool.true_and,Bool.false_and]
   exact ⟨retV HE,f5.b⟩
  have Ffk2:=Lib.hid fk2;clear fk2
  have b_g1_3:=f4.k b_g1
  have s1_4:=f4.q 1 u_g1
  refine go_reg [bx g1 38 (xC x),bx g2 106 #[.int .i8 c.sh,.int .i8 c.wd,.int .u16 c.va,.int .i8 c.dg,.int .u16 c.lo]] [] [oT,oT,some (.agg (xC x)),some (pt g1 0),some (.int .i8 x.op),some (pt g1 1),some (.int .i8 x.w),some (.agg #[.int .i8 c.sh,.int .i8 c.wd,.int .u16 c.va,.int .i8 c.dg,.int .u16 c.lo]),some (.agg (xC x)),some (.agg #[.int .i8 c.sh,.int .i8 c.wd,.int .u16 c.va,.int .i8 c.dg,.int .u16 c.lo]),some (.agg #[.int .i8 (partsP x c).reg,.int .i8 (partsP x c).rm,.int .i64 (partsP x c).disp,.int .i64 (partsP x c).imm,.int .i8 (partsP x c).cc]),some (.agg (xC (filledP x.op x.w c (partsP x c)))),oT,oT,oT,some (.agg (xC x)),some (.agg #[.int .i8 c.sh,.int .i8 c.wd,.int .u16 c.va,.int .i8 c.dg,.int .u16 c.lo]),some (.bool (fitsP x c)),some (.bool (fitsP x c)),some (.bool (fitsP x c))] mo f4.d f4.z f4.b (by kernel_rfl) ⟨b_g1_3,b_g2,trivial⟩ (
   hk (fun cx=>cx.q (ex_mv rfl (cx.rq 4 (f4.v 10 rfl rfl rfl)))) <|
   kmu 0 <|
   hk (fun cx=>cx.vy 0 (ldX rfl (cx.rq 1 s1_4) (cx.rn 0 rfl))) <|
   hk (fun cx=>cx.vy 0 (ex_fa rfl (cx.rq 1 s1_4) (faEcE24_0_0 _ _))) <|
   hk (fun cx=>cx.vy 1 (ex_ld rfl (cx.u 0 rfl) (cx.rn 0 rfl) rfl Tryz.isAgg36)) <|
   hk (fun cx=>cx.vy 0 (ex_fa rfl (cx.rq 1 s1_4) (faEcE24_1_0 _ _))) <|
   hk (fun cx=>cx.vy 1 (ex_ld rfl (cx.u 0 rfl) (cx.rn 0 rfl) rfl Tryz.isAgg36)) <|
   hk (fun cx=>cx.vy 0 (exec_loadR 106 _ rfl g2 0 (cx.rq 3 u_g2) (cx.rn 1 rfl) [.int .i8 c.sh,.int .i8 c.wd,.int .u16 c.va,.int .i8 c.dg,.int .u16 c.lo] rfl _ Tryz.underlying106 rfl (by kernel_rfl))) <|
   hk (fun cx=>cx.vy 0 (ldX rfl (cx.rq 1 s1_4) (cx.rn 0 rfl))) <|
   hk (fun cx=>cx.vy 0 (exec_loadR 106 _ rfl g2 0 (cx.rq 3 u_g2) (cx.rn 1 rfl) [.int .i8 c.sh,.int .i8 c.wd,.int .u16 c.va,.int .i8 c.dg,.int .u16 c.lo] rfl _ Tryz.underlying106 rfl (by kernel_rfl))) <|
   hc (fun _ _ wx cx=>cx.call (cx.wy rfl rfl rfl rfl (cx.u 2 rfl)) rfl rfl (args2 (cx.u 0 rfl) (cx.u 1 rfl)) Tryz.func123 (by decide +kernel) rfl (cparts_n x c mc.out wx) rfl rfl rfl rfl) <|
   hc (fun _ _ wx cx=>cx.call (cx.wy rfl rfl rfl rfl (cx.u 5 rfl)) rfl rfl (args4 (cx.u 0 rfl) (cx.u 1 rfl) (cx.u 2 rfl) (cx.u 3 rfl)) Tryz.func122 (by decide +kernel) rfl (cfilled_n x.op x.w c (partsP x c) mc.out wx) rfl rfl rfl rfl) <|
   hk (fun cx=>cx.vy (v:=.bool (eqX x (filledP x.op x.w c (partsP x c)))) 2 (exec_eql (x:=.tmp 15) (y:=.tmp 24) rfl (cx.u 0 rfl) (cx.u 1 rfl) (by kernel_rfl) (eq_x x (filledP x.op x.w c (partsP x c)) _)) (congrArg Value.bool Ffk2.out)) <|
   hk (fun cx=>cx.q (ex_pt rfl (cx.u 0 rfl) (cx.u 1 rfl))) <|
   kmu 0 <|
   hk (fun cx=>cx.vy 0 (ldX rfl (cx.rq 1 s1_4) (cx.rn 0 rfl))) <|
   hk (fun cx=>cx.vy 0 (exec_loadR 106 _ rfl g2 0 (cx.rq 3 u_g2) (cx.rn 1 rfl) [.int .i8 c.sh,.int .i8 c.wd,.int .u16 c.va,.int .i8 c.dg,.int .u16 c.lo] rfl _ Tryz.underlying106 rfl (by kernel_rfl))) <|
   hc (fun _ _ wx cx=>cx.call (cx.wy rfl rfl rfl rfl (cx.u 2 rfl)) rfl rfl (args2 (cx.u 0 rfl) (cx.u 1 rfl)) Tryz.func124 (by decide +kernel) rfl (cfits_n x c wx hx.out.w hx.out.imm hx.out.disp) rfl rfl rfl rfl) <|
   hk (fun cx=>cx.q (ex_pt rfl (cx.u 0 rfl) (cx.u 1 rfl))) <|
   kmu 0 <|
   hn) ?_
  intro a6 w6 f6
  refine wp_ret ?_
  try simp only [Exit.inBlock,Exit.then]
  refine bodyPost_ret (res_t (fn:=Tryz.f102) rfl (f6.v 19 rfl rfl rfl)) f6.d ?_
  have HE:(.bool (fitsP x c):Value)=.bool (mayP x):=by rw [em.out];simp only [Ffk1.out,Ffk2.out,Bool.true_and,Bool.false_and]
  exact ⟨retV HE,f6.b⟩
theorem cells3 {W w:World} {A B D:Array Value} {T U V:TypeId} {n:Nat} (b:Below n (((W.alloc (.cells A T)).alloc (.cells B U)).alloc (.cells D V)) w) (hn:W.heap.size + 3 ≤ n):
    w.heap[W.heap.size]?=some (.cells A T (0,0)) ∧ w.heap[W.heap.size + 1]?=some (.cells B U (0,0)) ∧ w.heap[W.heap.size + 2]?=some (.cells D V (0,0)):=
  ⟨(b.block _ (by omega)).trans ((heap_past _ _ _ (by simp only [size_alloc];omega)).trans ((heap_past _ _ _ (by simp only [size_alloc];omega)).trans (heap_last _ _ _ rfl))),
   (b.block _ (by omega)).trans ((heap_past _ _ _ (by simp only [size_alloc];omega)).trans (heap_last _ _ _ (by simp only [size_alloc]))),
   (b.block _ (by omega)).trans (heap_last _ _ _ (by simp only [size_alloc]))⟩
theorem acells {W w:World} {op wd dst src base disp imm cc sh at_ va dg lo reg rm pdisp pimm pcc:Int} (b:Below (W.heap.size + 3) (((W.alloc (.cells #[.int .i8 op,.int .i8 wd,.int .i8 dst,.int .i8 src,.int .i8 base,.int .i64 disp,.int .i64 imm,.int .i8 cc] 38)).alloc (.cells #[.int .i8 sh,.int .i8 at_,.int .u16 va,.int .i8 dg,.int .u16 lo] 106)).alloc (.cells #[.int .i8 reg,.int .i8 rm,.int .i64 pdisp,.int .i64 pimm,.int .i8 pcc] 111)) w):
    w.cell? ⟨W.heap.size,1,none⟩=some (.int .i8 wd) ∧ w.cell? ⟨W.heap.size + 1,0,none⟩=some (.int .i8 sh) ∧ w.cell? ⟨W.heap.size + 1,2,none⟩=some (.int .u16 va) ∧ w.cell? ⟨W.heap.size + 1,4,none⟩=some (.int .u16 lo) ∧
    w.cell? ⟨W.heap.size + 2,0,none⟩=some (.int .i8 reg) ∧ w.cell? ⟨W.heap.size + 2,1,none⟩=some (.int .i8 rm) ∧ w.cell? ⟨W.heap.size + 2,4,none⟩=some (.int .i8 pcc):=by
  obtain ⟨h1,h2,h3⟩:=cells3 b (Nat.le_refl _)
  simp only [World.cell?,h1,h2,h3]
  exact ⟨rfl,rfl,rfl,rfl,rfl,rfl,rfl⟩
theorem below3 {W w:World} {A B D:Obj} (b:Below (W.heap.size + 3) (((W.alloc A).alloc B).alloc D) w):Below W.heap.size W w:=
  (below_new (below_new (below_new (Below.refl _ _) _) _) _).trans (b.mono (by omega))
theorem size3 {W w:World} {A B D:Obj} (b:Below (W.heap.size + 3) (((W.alloc A).alloc B).alloc D) w):W.heap.size + 3 ≤ w.heap.size:=by have:=b.size;simpa only [size_alloc] using this
theorem below_grownN {W w w':World} {row:Option Nat} {n:Nat} (h:Below n W w) (hn:n ≤ w.heap.size) (g:w.grownBy w' row) (hr:∀ k,row=some k → n ≤ k):Below n W w':=h.grown g hn hr
theorem below_new3 {W w:World} {A B D:Obj} (b:Below (W.heap.size + 3) (((W.alloc A).alloc B).alloc D) w) (o:Obj):Below (W.heap.size + 3) (((W.alloc A).alloc B).alloc D) (w.alloc o):=b.alloc (size3 b) o
theorem rexI_bd (w:Bool) (r m:Int):0 ≤ rexI w r m ∧ rexI w r m < 256:=by
  unfold rexI
  cases w <;> cases decide (8 ≤ r) <;> cases decide (8 ≤ m) <;> decide
theorem ah_1_8_x_p0 (op wd dst src base disp imm cc sh at_ va dg lo reg rm pdisp pimm pcc q r:Int) (W:World) (es:(sh == 8)=true) (e8:(wd == 8)=true) (e16:(wd == 16)=false) (e64:(wd == 64)=false) (hb:bothB reg rm=true) (el:(lo == 15)=false) (e6:(sh == 6)=false) (eq:IntKind.u8.wrap (va / 256)=q) (er:IntKind.u8.wrap va=r) (ef:(q != 0)=false) (hq:0 ≤ q ∧ q < 256) (hr:0 ≤ r ∧ r < 256):
    Calls Tryz.prog 136 #[.agg #[.int .i8 op,.int .i8 wd,.int .i8 dst,.int .i8 src,.int .i8 base,.int .i64 disp,.int .i64 imm,.int .i8 cc],.agg #[.int .i8 sh,.int .i8 at_,.int .u16 va,.int .i8 dg,.int .u16 lo],.agg #[.int .i8 reg,.int .i8 rm,.int .i64 pdisp,.int .i64 pimm,.int .i8 pcc]] W (RetV ([rexI false reg rm] ++ [r]) W):=by
  have RX:=Lib.hid (fun W=>rex_n false reg rm W)
  rw [hb] at RX
  simp only [cond_true] at RX
  have hk:=Lib.hid (rexI_bd false reg rm)
  generalize rexI false reg rm=k at *
  clear hb
  have hq1:=Lib.hid hq
  have hr1:=Lib.hid hr
  clear hq hr
  unfold RetV
  go_enter Tryz.func136,Tryz.ntmps136
  go_wp2_with fail
  go_region
  have B0:=Lib.hid (show Below (W.heap.size + 3) (((W.alloc (.cells #[.int .i8 op,.int .i8 wd,.int .i8 dst,.int .i8 src,.int .i8 base,.int .i64 disp,.int .i64 imm,.int .i8 cc] 38)).alloc (.cells #[.int .i8 sh,.int .i8 at_,.int .u16 va,.int .i8 dg,.int .u16 lo] 106)).alloc (.cells #[.int .i8 reg,.int .i8 rm,.int .i64 pdisp,.int .i64 pimm,.int .i8 pcc] 111)) ((((W.alloc (.cells #[.int .i8 op,.int .i8 wd,.int .i8 dst,.int .i8 src,.int .i8 base,.int .i64 disp,.int .i64 imm,.int .i8 cc] 38)).alloc (.cells #[.int .i8 sh,.int .i8 at_,.int .u16 va,.int .i8 dg,.int .u16 lo] 106)).alloc (.cells #[.int .i8 reg,.int .i8 rm,.int .i64 pdisp,.int .i64 pimm,.int .i8 pcc] 111)).drew) from (Below.refl _ _).drew)
  have O0:=Lib.hid (show Bts (W.heap.size + 3) ((((W.alloc (.cells #[.int .i8 op,.int .i8 wd,.int .i8 dst,.int .i8 src,.int .i8 base,.int .i64 disp,.int .i64 imm,.int .i8 cc] 38)).alloc (.cells #[.int .i8 sh,.int .i8 at_,.int .u16 va,.int .i8 dg,.int .u16 lo] 106)).alloc (.cells #[.int .i8 reg,.int .i8 rm,.int .i64 pdisp,.int .i64 pimm,.int .i8 pcc] 111)).drew) (.slice none 0 0) [] from Bts.nil _ _)
  obtain ⟨c0_0,c1_0,c2_0,c3_0,c4_0,c5_0,c6_0⟩:=acells B0.out
  generalize (((W.alloc (.cells #[.int .i8 op,.int .i8 wd,.int .i8 dst,.int .i8 src,.int .i8 base,.int .i64 disp,.int .i64 imm,.int .i8 cc] 38)).alloc (.cells #[.int .i8 sh,.int .i8 at_,.int .u16 va,.int .i8 dg,.int .u16 lo] 106)).alloc (.cells #[.int .i8 reg,.int .i8 rm,.int .i64 pdisp,.int .i64 pimm,.int .i8 pcc] 111)).drew=w0 at *
  generalize Value.slice none 0 0=v0 at *
  go_wp2_with fail
  refine (RX.out _).mono ?_
  rintro e y ⟨rfl,rfl⟩
  go_wp2_with (at_builtin;refine wpList_append_b rfl _ _ rfl (W.heap.size + 3) _ [] rfl (O0.out.below (below_new (Below.refl _ _) _)) _ 1 1 [k] rfl (one_at _ k hk.out) (by simp) (Nat.le_trans (size3 B0.out) (by rw [size_alloc];omega)) ?_)
  intro v1 w1 o1 g1
  have O1:=Lib.hid (show Bts (W.heap.size + 3) w1 v1 [k] from o1)
  have B1:=Lib.hid (below_grownN (below_new3 B0.out _) (size3 (below_new3 B0.out _)) g1 (fun j hj=>O0.out.lt j hj))
  clear o1 g1
  obtain ⟨c0_1,c1_1,c2_1,c3_1,c4_1,c5_1,c6_1⟩:=acells B1.out
  clear c0_0 c1_0 c2_0 c3_0 c4_0 c5_0 c6_0
  go_wp2_with (at_builtin;refine wpList_append_b rfl _ _ rfl (W.heap.size + 3) _ [k] rfl (O1.out.below (below_new (Below.refl _ _) _)) _ 1 1 [r] rfl (one_at _ r hr1.out) (by simp) (Nat.le_trans (size3 B1.out) (by rw [size_alloc];omega)) ?_)
  intro v2 w2 o2 g2
  have O2:=Lib.hid (show Bts (W.heap.size + 3) w2 v2 ([k] ++ [r]) from o2)
  have B2:=Lib.hid (below_grownN (below_new3 B1.out _) (size3 (below_new3 B1.out _)) g2 (fun j hj=>O1.out.lt j hj))
  clear o2 g2
  obtain ⟨c0_2,c1_2,c2_2,c3_2,c4_2,c5_2,c6_2⟩:=acells B2.out
  clear c0_1 c1_1 c2_1 c3_1 c4_1 c5_1 c6_1
  go_wp2_with fail
  go_ret
  exact ⟨_,rfl,O2.out.mono (Nat.le_add_right _ _),below3 B2.out⟩
theorem ah_1_16_r_p0 (op wd dst src base disp imm cc sh at_ va dg lo reg rm pdisp pimm pcc q r:Int) (W:World) (es:(sh == 8)=true) (e8:(wd == 8)=false) (e16:(wd == 16)=true) (e64:(wd == 64)=false) (nd:needB reg rm=true) (hb:bothB reg rm=true) (el:(lo == 15)=false) (e6:(sh == 6)=false) (eq:IntKind.u8.wrap (va / 256)=q) (er:IntKind.u8.wrap va=r) (ef:(q != 0)=false) (hq:0 ≤ q ∧ q < 256) (hr:0 ≤ r ∧ r < 256):
    Calls Tryz.prog 136 #[.agg #[.int .i8 op,.int .i8 wd,.int .i8 dst,.int .i8 src,.int .i8 base,.int .i64 disp,.int .i64 imm,.int .i8 cc],.agg #[.int .i8 sh,.int .i8 at_,.int .u16 va,.int .i8 dg,.int .u16 lo],.agg #[.int .i8 reg,.int .i8 rm,.int .i64 pdisp,.int .i64 pimm,.int .i8 pcc]] W (RetV (([102] ++ [rexI false reg rm]) ++ [r]) W):=by
  have ND:=Lib.hid (fun W=>needs_n reg rm W)
  rw [nd] at ND
  have RX:=Lib.hid (fun W=>rex_n false reg rm W)
  rw [hb] at RX
  simp only [cond_true] at RX
  have hk:=Lib.hid (rexI_bd false reg rm)
  generalize rexI false reg rm=k at *
  clear hb nd
  have hq1:=Lib.hid hq
  have hr1:=Lib.hid hr
  clear hq hr
  unfold RetV
  go_enter Tryz.func136,Tryz.ntmps136
  go_wp2_with fail
  go_region
  have B0:=Lib.hid (show Below (W.heap.size + 3) (((W.alloc (.cells #[.int .i8 op,.int .i8 wd,.int .i8 dst,.int .i8 src,.int .i8 base,.int .i64 disp,.int .i64 imm,.int .i8 cc] 38)).alloc (.cells #[.int .i8 sh,.int .i8 at_,.int .u16 va,.int .i8 dg,.int .u16 lo] 106)).alloc (.cells #[.int .i8 reg,.int .i8 rm,.int .i64 pdisp,.int .i64 pimm,.int .i8 pcc] 111)) ((((W.alloc (.cells #[.int .i8 op,.int .i8 wd,.int .i8 dst,.int .i8 src,.int .i8 base,.int .i64 disp,.int .i64 imm,.int .i8 cc] 38)).alloc (.cells #[.int .i8 sh,.int .i8 at_,.int .u16 va,.int .i8 dg,.int .u16 lo] 106)).alloc (.cells #[.int .i8 reg,.int .i8 rm,.int .i64 pdisp,.int .i64 pimm,.int .i8 pcc] 111)).drew) from (Below.refl _ _).drew)
  have O0:=Lib.hid (show Bts (W.heap.size + 3) ((((W.alloc (.cells #[.int .i8 op,.int .i8 wd,.int .i8 dst,.int .i8 src,.int .i8 base,.int .i64 disp,.int .i64 imm,.int .i8 cc] 38)).alloc (.cells #[.int .i8 sh,.int .i8 at_,.int .u16 va,.int .i8 dg,.int .u16 lo] 106)).alloc (.cells #[.int .i8 reg,.int .i8 rm,.int .i64 pdisp,.int .i64 pimm,.int .i8 pcc] 111)).drew) (.slice none 0 0) [] from Bts.nil _ _)
  obtain ⟨c0_0,c1_0,c2_0,c3_0,c4_0,c5_0,c6_0⟩:=acells B0.out
  generalize (((W.alloc (.cells #[.int .i8 op,.int .i8 wd,.int .i8 dst,.int .i8 src,.int .i8 base,.int .i64 disp,.int .i64 imm,.int .i8 cc] 38)).alloc (.cells #[.int .i8 sh,.int .i8 at_,.int .u16 va,.int .i8 dg,.int .u16 lo] 106)).alloc (.cells #[.int .i8 reg,.int .i8 rm,.int .i64 pdisp,.int .i64 pimm,.int .i8 pcc] 111)).drew=w0 at *
  generalize Value.slice none 0 0=v0 at *
  go_wp2_with (at_builtin;refine wpList_append_b rfl _ _ rfl (W.heap.size + 3) _ [] rfl (O0.out.below (below_new (Below.refl _ _) _)) _ 1 1 [102] rfl (one_at _ 102 (by omega)) (by simp) (Nat.le_trans (size3 B0.out) (by rw [size_alloc];omega)) ?_)
  intro v1 w1 o1 g1
  have O1:=Lib.hid (show Bts (W.heap.size + 3) w1 v1 [102] from o1)
  have B1:=Lib.hid (below_grownN (below_new3 B0.out _) (size3 (below_new3 B0.out _)) g1 (fun j hj=>O0.out.lt j hj))
  clear o1 g1
  obtain ⟨c0_1,c1_1,c2_1,c3_1,c4_1,c5_1,c6_1⟩:=acells B1.out
  clear c0_0 c1_0 c2_0 c3_0 c4_0 c5_0 c6_0
  go_wp2_with fail
  refine (ND.out _).mono ?_
  rintro e y ⟨rfl,rfl⟩
  go_wp2_with fail
  refine (RX.out _).mono ?_
  rintro e y ⟨rfl,rfl⟩
  go_wp2_with (at_builtin;refine wpList_append_b rfl _ _ rfl (W.heap.size + 3) _ [102] rfl (O1.out.below (below_new (Below.refl _ _) _)) _ 1 1 [k] rfl (one_at _ k hk.out) (by simp) (Nat.le_trans (size3 B1.out) (by rw [size_alloc];omega)) ?_)
  intro v2 w2 o2 g2
  have O2:=Lib.hid (show Bts (W.heap.size + 3) w2 v2 ([102] ++ [k]) from o2)
  have B2:=Lib.hid (below_grownN (below_new3 B1.out _) (size3 (below_new3 B1.out _)) g2 (fun j hj=>O1.out.lt j hj))
  clear o2 g2
  obtain ⟨c0_2,c1_2,c2_2,c3_2,c4_2,c5_2,c6_2⟩:=acells B2.out
  clear c0_1 c1_1 c2_1 c3_1 c4_1 c5_1 c6_1
  go_wp2_with (at_builtin;refine wpList_append_b rfl _ _ rfl (W.heap.size + 3) _ ([102] ++ [k]) rfl (O2.out.below (below_new (Below.refl _ _) _)) _ 1 1 [r] rfl (one_at _ r hr1.out) (by simp) (Nat.le_trans (size3 B2.out) (by rw [size_alloc];omega)) ?_)
  intro v3 w3 o3 g3
  have O3:=Lib.hid (show Bts (W.heap.size + 3) w3 v3 (([102] ++ [k]) ++ [r]) from o3)
  have B3:=Lib.hid (below_grownN (below_new3 B2.out _) (size3 (below_new3 B2.out _)) g3 (fun j hj=>O2.out.lt j hj))
  clear o3 g3
  obtain ⟨c0_3,c1_3,c2_3,c3_3,c4_3,c5_3,c6_3⟩:=acells B3.out
  clear c0_2 c1_2 c2_2 c3_2 c4_2 c5_2 c6_2
  go_wp2_with fail
  go_ret
  exact ⟨_,rfl,O3.out.mono (Nat.le_add_right _ _),below3 B3.out⟩
theorem ah_1_16_n_p0 (op wd dst src base disp imm cc sh at_ va dg lo reg rm pdisp pimm pcc q r:Int) (W:World) (es:(sh == 8)=true) (e8:(wd == 8)=false) (e16:(wd == 16)=true) (e64:(wd == 64)=false) (nd:needB reg rm=false) (hb:bothB reg rm=true) (el:(lo == 15)=false) (e6:(sh == 6)=false) (eq:IntKind.u8.wrap (va / 256)=q) (er:IntKind.u8.wrap va=r) (ef:(q != 0)=false) (hq:0 ≤ q ∧ q < 256) (hr:0 ≤ r ∧ r < 256):
    Calls Tryz.prog 136 #[.agg #[.int .i8 op,.int .i8 wd,.int .i8 dst,.int .i8 src,.int .i8 base,.int .i64 disp,.int .i64 imm,.int .i8 cc],.agg #[.int .i8 sh,.int .i8 at_,.int .u16 va,.int .i8 dg,.int .u16 lo],.agg #[.int .i8 reg,.int .i8 rm,.int .i64 pdisp,.int .i64 pimm,.int .i8 pcc]] W (RetV ([102] ++ [r]) W):=by
  have ND:=Lib.hid (fun W=>needs_n reg rm W)
  rw [nd] at ND
  clear hb nd
  have hq1:=Lib.hid hq
  have hr1:=Lib.hid hr
  clear hq hr
  unfold RetV
  go_enter Tryz.func136,Tryz.ntmps136
  go_wp2_with fail
  go_region
  have B0:=Lib.hid (show Below (W.heap.size + 3) (((W.alloc (.cells #[.int .i8 op,.int .i8 wd,.int .i8 dst,.int .i8 src,.int .i8 base,.int .i64 disp,.int .i64 imm,.int .i8 cc] 38)).alloc (.cells #[.int .i8 sh,.int .i8 at_,.int .u16 va,.int .i8 dg,.int .u16 lo] 106)).alloc (.cells #[.int .i8 reg,.int .i8 rm,.int .i64 pdisp,.int .i64 pimm,.int .i8 pcc] 111)) ((((W.alloc (.cells #[.int .i8 op,.int .i8 wd,.int .i8 dst,.int .i8 src,.int .i8 base,.int .i64 disp,.int .i64 imm,.int .i8 cc] 38)).alloc (.cells #[.int .i8 sh,.int .i8 at_,.int .u16 va,.int .i8 dg,.int .u16 lo] 106)).alloc (.cells #[.int .i8 reg,.int .i8 rm,.int .i64 pdisp,.int .i64 pimm,.int .i8 pcc] 111)).drew) from (Below.refl _ _).drew)
  have O0:=Lib.hid (show Bts (W.heap.size + 3) ((((W.alloc (.cells #[.int .i8 op,.int .i8 wd,.int .i8 dst,.int .i8 src,.int .i8 base,.int .i64 disp,.int .i64 imm,.int .i8 cc] 38)).alloc (.cells #[.int .i8 sh,.int .i8 at_,.int .u16 va,.int .i8 dg,.int .u16 lo] 106)).alloc (.cells #[.int .i8 reg,.int .i8 rm,.int .i64 pdisp,.int .i64 pimm,.int .i8 pcc] 111)).drew) (.slice none 0 0) [] from Bts.nil _ _)
  obtain ⟨c0_0,c1_0,c2_0,c3_0,c4_0,c5_0,c6_0⟩:=acells B0.out
  generalize (((W.alloc (.cells #[.int .i8 op,.int .i8 wd,.int .i8 dst,.int .i8 src,.int .i8 base,.int .i64 disp,.int .i64 imm,.int .i8 cc] 38)).alloc (.cells #[.int .i8 sh,.int .i8 at_,.int .u16 va,.int .i8 dg,.int .u16 lo] 106)).alloc (.cells #[.int .i8 reg,.int .i8 rm,.int .i64 pdisp,.int .i64 pimm,.int .i8 pcc] 111)).drew=w0 at *
  generalize Value.slice none 0 0=v0 at *
  go_wp2_with (at_builtin;refine wpList_append_b rfl _ _ rfl (W.heap.size + 3) _ [] rfl (O0.out.below (below_new (Below.refl _ _) _)) _ 1 1 [102] rfl (one_at _ 102 (by omega)) (by simp) (Nat.le_trans (size3 B0.out) (by rw [size_alloc];omega)) ?_)
  intro v1 w1 o1 g1
  have O1:=Lib.hid (show Bts (W.heap.size + 3) w1 v1 [102] from o1)
  have B1:=Lib.hid (below_grownN (below_new3 B0.out _) (size3 (below_new3 B0.out _)) g1 (fun j hj=>O0.out.lt j hj))
  clear o1 g1
  obtain ⟨c0_1,c1_1,c2_1,c3_1,c4_1,c5_1,c6_1⟩:=acells B1.out
  clear c0_0 c1_0 c2_0 c3_0 c4_0 c5_0 c6_0
  go_wp2_with fail
  refine (ND.out _).mono ?_
  rintro e y ⟨rfl,rfl⟩
  go_wp2_with (at_builtin;refine wpList_append_b rfl _ _ rfl (W.heap.size + 3) _ [102] rfl (O1.out.below (below_new (Below.refl _ _) _)) _ 1 1 [r] rfl (one_at _ r hr1.out) (by simp) (Nat.le_trans (size3 B1.out) (by rw [size_alloc];omega)) ?_)
  intro v2 w2 o2 g2
  have O2:=Lib.hid (show Bts (W.heap.size + 3) w2 v2 ([102] ++ [r]) from o2)
  have B2:=Lib.hid (below_grownN (below_new3 B1.out _) (size3 (below_new3 B1.out _)) g2 (fun j hj=>O1.out.lt j hj))
  clear o2 g2
  obtain ⟨c0_2,c1_2,c2_2,c3_2,c4_2,c5_2,c6_2⟩:=acells B2.out
  clear c0_1 c1_1 c2_1 c3_1 c4_1 c5_1 c6_1
  go_wp2_with fail
  go_ret
  exact ⟨_,rfl,O2.out.mono (Nat.le_add_right _ _),below3 B2.out⟩
theorem ah_1_64_x_p0 (op wd dst src base disp imm cc sh at_ va dg lo reg rm pdisp pimm pcc q r:Int) (W:World) (es:(sh == 8)=true) (e8:(wd == 8)=false) (e16:(wd == 16)=false) (e64:(wd == 64)=true) (hb:bothB reg rm=true) (el:(lo == 15)=false) (e6:(sh == 6)=false) (eq:IntKind.u8.wrap (va / 256)=q) (er:IntKind.u8.wrap va=r) (ef:(q != 0)=false) (hq:0 ≤ q ∧ q < 256) (hr:0 ≤ r ∧ r < 256):
    Calls Tryz.prog 136 #[.agg #[.int .i8 op,.int .i8 wd,.int .i8 dst,.int .i8 src,.int .i8 base,.int .i64 disp,.int .i64 imm,.int .i8 cc],.agg #[.int .i8 sh,.int .i8 at_,.int .u16 va,.int .i8 dg,.int .u16 lo],.agg #[.int .i8 reg,.int .i8 rm,.int .i64 pdisp,.int .i64 pimm,.int .i8 pcc]] W (RetV ([rexI true reg rm] ++ [r]) W):=by
  have RX:=Lib.hid (fun W=>rex_n true reg rm W)
  rw [hb] at RX
  simp only [cond_true] at RX
  have hk:=Lib.hid (rexI_bd true reg rm)
  generalize rexI true reg rm=k at *
  clear hb
  have hq1:=Lib.hid hq
  have hr1:=Lib.hid hr
  clear hq hr
  unfold RetV
  go_enter Tryz.func136,Tryz.ntmps136
  go_wp2_with fail
  go_region
  have B0:=Lib.hid (show Below (W.heap.size + 3) (((W.alloc (.cells #[.int .i8 op,.int .i8 wd,.int .i8 dst,.int .i8 src,.int .i8 base,.int .i64 disp,.int .i64 imm,.int .i8 cc] 38)).alloc (.cells #[.int .i8 sh,.int .i8 at_,.int .u16 va,.int .i8 dg,.int .u16 lo] 106)).alloc (.cells #[.int .i8 reg,.int .i8 rm,.int .i64 pdisp,.int .i64 pimm,.int .i8 pcc] 111)) ((((W.alloc (.cells #[.int .i8 op,.int .i8 wd,.int .i8 dst,.int .i8 src,.int .i8 base,.int .i64 disp,.int .i64 imm,.int .i8 cc] 38)).alloc (.cells #[.int .i8 sh,.int .i8 at_,.int .u16 va,.int .i8 dg,.int .u16 lo] 106)).alloc (.cells #[.int .i8 reg,.int .i8 rm,.int .i64 pdisp,.int .i64 pimm,.int .i8 pcc] 111)).drew) from (Below.refl _ _).drew)
  have O0:=Lib.hid (show Bts (W.heap.size + 3) ((((W.alloc (.cells #[.int .i8 op,.int .i8 wd,.int .i8 dst,.int .i8 src,.int .i8 base,.int .i64 disp,.int .i64 imm,.int .i8 cc] 38)).alloc (.cells #[.int .i8 sh,.int .i8 at_,.int .u16 va,.int .i8 dg,.int .u16 lo] 106)).alloc (.cells #[.int .i8 reg,.int .i8 rm,.int .i64 pdisp,.int .i64 pimm,.int .i8 pcc] 111)).drew) (.slice none 0 0) [] from Bts.nil _ _)
  obtain ⟨c0_0,c1_0,c2_0,c3_0,c4_0,c5_0,c6_0⟩:=acells B0.out
  generalize (((W.alloc (.cells #[.int .i8 op,.int .i8 wd,.int .i8 dst,.int .i8 src,.int .i8 base,.int .i64 disp,.int .i64 imm,.int .i8 cc] 38)).alloc (.cells #[.int .i8 sh,.int .i8 at_,.int .u16 va,.int .i8 dg,.int .u16 lo] 106)).alloc (.cells #[.int .i8 reg,.int .i8 rm,.int .i64 pdisp,.int .i64 pimm,.int .i8 pcc] 111)).drew=w0 at *
  generalize Value.slice none 0 0=v0 at *
  go_wp2_with fail
  refine (RX.out _).mono ?_
  rintro e y ⟨rfl,rfl⟩
  go_wp2_with (at_builtin;refine wpList_append_b rfl _ _ rfl (W.heap.size + 3) _ [] rfl (O0.out.below (below_new (Below.refl _ _) _)) _ 1 1 [k] rfl (one_at _ k hk.out) (by simp) (Nat.le_trans (size3 B0.out) (by rw [size_alloc];omega)) ?_)
  intro v1 w1 o1 g1
  have O1:=Lib.hid (show Bts (W.heap.size + 3) w1 v1 [k] from o1)
  have B1:=Lib.hid (below_grownN (below_new3 B0.out _) (size3 (below_new3 B0.out _)) g1 (fun j hj=>O0.out.lt j hj))
  clear o1 g1
  obtain ⟨c0_1,c1_1,c2_1,c3_1,c4_1,c5_1,c6_1⟩:=acells B1.out
  clear c0_0 c1_0 c2_0 c3_0 c4_0 c5_0 c6_0
  go_wp2_with (at_builtin;refine wpList_append_b rfl _ _ rfl (W.heap.size + 3) _ [k] rfl (O1.out.below (below_new (Below.refl _ _) _)) _ 1 1 [r] rfl (one_at _ r hr1.out) (by simp) (Nat.le_trans (size3 B1.out) (by rw [size_alloc];omega)) ?_)
  intro v2 w2 o2 g2
  have O2:=Lib.hid (show Bts (W.heap.size + 3) w2 v2 ([k] ++ [r]) from o2)
  have B2:=Lib.hid (below_grownN (below_new3 B1.out _) (size3 (below_new3 B1.out _)) g2 (fun j hj=>O1.out.lt j hj))
  clear o2 g2
  obtain ⟨c0_2,c1_2,c2_2,c3_2,c4_2,c5_2,c6_2⟩:=acells B2.out
  clear c0_1 c1_1 c2_1 c3_1 c4_1 c5_1 c6_1
  go_wp2_with fail
  go_ret
  exact ⟨_,rfl,O2.out.mono (Nat.le_add_right _ _),below3 B2.out⟩
theorem ah_1_0_r_p0 (op wd dst src base disp imm cc sh at_ va dg lo reg rm pdisp pimm pcc q r:Int) (W:World) (es:(sh == 8)=true) (e8:(wd == 8)=false) (e16:(wd == 16)=false) (e64:(wd == 64)=false) (nd:needB reg rm=true) (hb:bothB reg rm=true) (el:(lo == 15)=false) (e6:(sh == 6)=false) (eq:IntKind.u8.wrap (va / 256)=q) (er:IntKind.u8.wrap va=r) (ef:(q != 0)=false) (hq:0 ≤ q ∧ q < 256) (hr:0 ≤ r ∧ r < 256):
    Calls Tryz.prog 136 #[.agg #[.int .i8 op,.int .i8 wd,.int .i8 dst,.int .i8 src,.int .i8 base,.int .i64 disp,.int .i64 imm,.int .i8 cc],.agg #[.int .i8 sh,.int .i8 at_,.int .u16 va,.int .i8 dg,.int .u16 lo],.agg #[.int .i8 reg,.int .i8 rm,.int .i64 pdisp,.int .i64 pimm,.int .i8 pcc]] W (RetV ([rexI false reg rm] ++ [r]) W):=by
  have ND:=Lib.hid (fun W=>needs_n reg rm W)
  rw [nd] at ND
  have RX:=Lib.hid (fun W=>rex_n false reg rm W)
  rw [hb] at RX
  simp only [cond_true] at RX
  have hk:=Lib.hid (rexI_bd false reg rm)
  generalize rexI false reg rm=k at *
  clear hb nd
  have hq1:=Lib.hid hq
  have hr1:=Lib.hid hr
  clear hq hr
  unfold RetV
  go_enter Tryz.func136,Tryz.ntmps136
  go_wp2_with fail
  go_region
  have B0:=Lib.hid (show Below (W.heap.size + 3) (((W.alloc (.cells #[.int .i8 op,.int .i8 wd,.int .i8 dst,.int .i8 src,.int .i8 base,.int .i64 disp,.int .i64 imm,.int .i8 cc] 38)).alloc (.cells #[.int .i8 sh,.int .i8 at_,.int .u16 va,.int .i8 dg,.int .u16 lo] 106)).alloc (.cells #[.int .i8 reg,.int .i8 rm,.int .i64 pdisp,.int .i64 pimm,.int .i8 pcc] 111)) ((((W.alloc (.cells #[.int .i8 op,.int .i8 wd,.int .i8 dst,.int .i8 src,.int .i8 base,.int .i64 disp,.int .i64 imm,.int .i8 cc] 38)).alloc (.cells #[.int .i8 sh,.int .i8 at_,.int .u16 va,.int .i8 dg,.int .u16 lo] 106)).alloc (.cells #[.int .i8 reg,.int .i8 rm,.int .i64 pdisp,.int .i64 pimm,.int .i8 pcc] 111)).drew) from (Below.refl _ _).drew)
  have O0:=Lib.hid (show Bts (W.heap.size + 3) ((((W.alloc (.cells #[.int .i8 op,.int .i8 wd,.int .i8 dst,.int .i8 src,.int .i8 base,.int .i64 disp,.int .i64 imm,.int .i8 cc] 38)).alloc (.cells #[.int .i8 sh,.int .i8 at_,.int .u16 va,.int .i8 dg,.int .u16 lo] 106)).alloc (.cells #[.int .i8 reg,.int .i8 rm,.int .i64 pdisp,.int .i64 pimm,.int .i8 pcc] 111)).drew) (.slice none 0 0) [] from Bts.nil _ _)
  obtain ⟨c0_0,c1_0,c2_0,c3_0,c4_0,c5_0,c6_0⟩:=acells B0.out
  generalize (((W.alloc (.cells #[.int .i8 op,.int .i8 wd,.int .i8 dst,.int .i8 src,.int .i8 base,.int .i64 disp,.int .i64 imm,.int .i8 cc] 38)).alloc (.cells #[.int .i8 sh,.int .i8 at_,.int .u16 va,.int .i8 dg,.int .u16 lo] 106)).alloc (.cells #[.int .i8 reg,.int .i8 rm,.int .i64 pdisp,.int .i64 pimm,.int .i8 pcc] 111)).drew=w0 at *
  generalize Value.slice none 0 0=v0 at *
  go_wp2_with fail
  refine (ND.out _).mono ?_
  rintro e y ⟨rfl,rfl⟩
  go_wp2_with fail
  refine (RX.out _).mono ?_
  rintro e y ⟨rfl,rfl⟩
  go_wp2_with (at_builtin;refine wpList_append_b rfl _ _ rfl (W.heap.size + 3) _ [] rfl (O0.out.below (below_new (Below.refl _ _) _)) _ 1 1 [k] rfl (one_at _ k hk.out) (by simp) (Nat.le_trans (size3 B0.out) (by rw [size_alloc];omega)) ?_)
  intro v1 w1 o1 g1
  have O1:=Lib.hid (show Bts (W.heap.size + 3) w1 v1 [k] from o1)
  have B1:=Lib.hid (below_grownN (below_new3 B0.out _) (size3 (below_new3 B0.out _)) g1 (fun j hj=>O0.out.lt j hj))
  clear o1 g1
  obtain ⟨c0_1,c1_1,c2_1,c3_1,c4_1,c5_1,c6_1⟩:=acells B1.out
  clear c0_0 c1_0 c2_0 c3_0 c4_0 c5_0 c6_0
  go_wp2_with (at_builtin;refine wpList_append_b rfl _ _ rfl (W.heap.size + 3) _ [k] rfl (O1.out.below (below_new (Below.refl _ _) _)) _ 1 1 [r] rfl (one_at _ r hr1.out) (by simp) (Nat.le_trans (size3 B1.out) (by rw [size_alloc];omega)) ?_)
  intro v2 w2 o2 g2
  have O2:=Lib.hid (show Bts (W.heap.size + 3) w2 v2 ([k] ++ [r]) from o2)
  have B2:=Lib.hid (below_grownN (below_new3 B1.out _) (size3 (below_new3 B1.out _)) g2 (fun j hj=>O1.out.lt j hj))
  clear o2 g2
  obtain ⟨c0_2,c1_2,c2_2,c3_2,c4_2,c5_2,c6_2⟩:=acells B2.out
  clear c0_1 c1_1 c2_1 c3_1 c4_1 c5_1 c6_1
  go_wp2_with fail
  go_ret
  exact ⟨_,rfl,O2.out.mono (Nat.le_add_right _ _),below3 B2.out⟩
theorem ah_1_0_n_p0 (op wd dst src base disp imm cc sh at_ va dg lo reg rm pdisp pimm pcc q r:Int) (W:World) (es:(sh == 8)=true) (e8:(wd == 8)=false) (e16:(wd == 16)=false) (e64:(wd == 64)=false) (nd:needB reg rm=false) (hb:bothB reg rm=true) (el:(lo == 15)=false) (e6:(sh == 6)=false) (eq:IntKind.u8.wrap (va / 256)=q) (er:IntKind.u8.wrap va=r) (ef:(q != 0)=false) (hq:0 ≤ q ∧ q < 256) (hr:0 ≤ r ∧ r < 256):
    Calls Tryz.prog 136 #[.agg #[.int .i8 op,.int .i8 wd,.int .i8 dst,.int .i8 src,.int .i8 base,.int .i64 disp,.int .i64 imm,.int .i8 cc],.agg #[.int .i8 sh,.int .i8 at_,.int .u16 va,.int .i8 dg,.int .u16 lo],.agg #[.int .i8 reg,.int .i8 rm,.int .i64 pdisp,.int .i64 pimm,.int .i8 pcc]] W (RetV [r] W):=by
  have ND:=Lib.hid (fun W=>needs_n reg rm W)
  rw [nd] at ND
  clear hb nd
  have hq1:=Lib.hid hq
  have hr1:=Lib.hid hr
  clear hq hr
  unfold RetV
  go_enter Tryz.func136,Tryz.ntmps136
  go_wp2_with fail
  go_region
  have B0:=Lib.hid (show Below (W.heap.size + 3) (((W.alloc (.cells #[.int .i8 op,.int .i8 wd,.int .i8 dst,.int .i8 src,.int .i8 base,.int .i64 disp,.int .i64 imm,.int .i8 cc] 38)).alloc (.cells #[.int .i8 sh,.int .i8 at_,.int .u16 va,.int .i8 dg,.int .u16 lo] 106)).alloc (.cells #[.int .i8 reg,.int .i8 rm,.int .i64 pdisp,.int .i64 pimm,.int .i8 pcc] 111)) ((((W.alloc (.cells #[.int .i8 op,.int .i8 wd,.int .i8 dst,.int .i8 src,.int .i8 base,.int .i64 disp,.int .i64 imm,.int .i8 cc] 38)).alloc (.cells #[.int .i8 sh,.int .i8 at_,.int .u16 va,.int .i8 dg,.int .u16 lo] 106)).alloc (.cells #[.int .i8 reg,.int .i8 rm,.int .i64 pdisp,.int .i64 pimm,.int .i8 pcc] 111)).drew) from (Below.refl _ _).drew)
  have O0:=Lib.hid (show Bts (W.heap.size + 3) ((((W.alloc (.cells #[.int .i8 op,.int .i8 wd,.int .i8 dst,.int .i8 src,.int .i8 base,.int .i64 disp,.int .i64 imm,.int .i8 cc] 38)).alloc (.cells #[.int .i8 sh,.int .i8 at_,.int .u16 va,.int .i8 dg,.int .u16 lo] 106)).alloc (.cells #[.int .i8 reg,.int .i8 rm,.int .i64 pdisp,.int .i64 pimm,.int .i8 pcc] 111)).drew) (.slice none 0 0) [] from Bts.nil _ _)
  obtain ⟨c0_0,c1_0,c2_0,c3_0,c4_0,c5_0,c6_0⟩:=acells B0.out
  generalize (((W.alloc (.cells #[.int .i8 op,.int .i8 wd,.int .i8 dst,.int .i8 src,.int .i8 base,.int .i64 disp,.int .i64 imm,.int .i8 cc] 38)).alloc (.cells #[.int .i8 sh,.int .i8 at_,.int .u16 va,.int .i8 dg,.int .u16 lo] 106)).alloc (.cells #[.int .i8 reg,.int .i8 rm,.int .i64 pdisp,.int .i64 pimm,.int .i8 pcc] 111)).drew=w0 at *
  generalize Value.slice none 0 0=v0 at *
  go_wp2_with fail
  refine (ND.out _).mono ?_
  rintro e y ⟨rfl,rfl⟩
  go_wp2_with (at_builtin;refine wpList_append_b rfl _ _ rfl (W.heap.size + 3) _ [] rfl (O0.out.below (below_new (Below.refl _ _) _)) _ 1 1 [r] rfl (one_at _ r hr1.out) (by simp) (Nat.le_trans (size3 B0.out) (by rw [size_alloc];omega)) ?_)
  intro v1 w1 o1 g1
  have O1:=Lib.hid (show Bts (W.heap.size + 3) w1 v1 [r] from o1)
  have B1:=Lib.hid (below_grownN (below_new3 B0.out _) (size3 (below_new3 B0.out _)) g1 (fun j hj=>O0.out.lt j hj))
  clear o1 g1
  obtain ⟨c0_1,c1_1,c2_1,c3_1,c4_1,c5_1,c6_1⟩:=acells B1.out
  clear c0_0 c1_0 c2_0 c3_0 c4_0 c5_0 c6_0
  go_wp2_with fail
  go_ret
  exact ⟨_,rfl,O1.out.mono (Nat.le_add_right _ _),below3 B1.out⟩
end Go.Proofs.YtbpehbeakhocnaaGreatDoor.Mrm
