import Derived.Test.YtoghjpliemidkaaDoorEXm19
import Derived.Test.YtoghjpliemidkaaDoorEXm21
import Derived.Test.YtoghjpliemidkaaDoorEXm22
set_option linter.unusedVariables false
set_option linter.unusedSimpArgs false
set_option linter.unnecessarySimpa false
namespace Go.Proofs.YtoghjpliemidkaaDoor.Mrm
open Go Go.RowKit
set_option linter.unusedVariables false
set_option linter.unusedSimpArgs false
set_option linter.unnecessarySimpa false
set_option maxRecDepth 100000
theorem faEcE24_0_0 (g:Nat) (w:World):(Instr.fieldAt 26 (.pointer (some ⟨g,0,none⟩)) 0).run Tryd.prog w=.ok (.pointer (some ⟨g,0,none⟩)) w:=by simp [go_sem]
theorem faEcE24_1_0 (g:Nat) (w:World):(Instr.fieldAt 26 (.pointer (some ⟨g,0,none⟩)) 1).run Tryd.prog w=.ok (.pointer (some ⟨g,1,none⟩)) w:=by simp [go_sem]
theorem codesL_mem:∀ k:Fin 32,codeA (k.1:Int) ∈ codesL:=by decide +kernel
theorem codeOf_mem (op w:Int):(codeOfP op w).1 ∈ allC:=by
  unfold codeOfP
  split
  · exact List.mem_append_right _ (List.mem_append_right _ (List.mem_singleton.2 rfl))
  · rename_i h
    split
    · have:=codesL_mem ⟨op.toNat,by omega⟩
      rw [show ((⟨op.toNat,by omega⟩:Fin 32).1:Int)=op from Int.toNat_of_nonneg (by omega)] at this
      exact List.mem_append_left _ this
    · cases hf:othersL.find? (fun o=>o.1 == op && hasB o.2 w) with
      | none=>exact List.mem_append_right _ (List.mem_append_right _ (List.mem_singleton.2 rfl))
      | some q=>exact List.mem_append_right _ (List.mem_append_left _ (List.mem_map.2 ⟨q,List.mem_of_find?_eq_some hf,rfl⟩))
structure XOk (x:Xi):Prop where
  op:-128 ≤ x.op ∧ x.op < 128
  w:-128 ≤ x.w ∧ x.w < 128
  dst:-128 ≤ x.dst ∧ x.dst < 128
  src:-128 ≤ x.src ∧ x.src < 128
  base:-128 ≤ x.base ∧ x.base < 128
  disp:-9223372036854775808 ≤ x.disp ∧ x.disp ≤ 9223372036854775807
  imm:-9223372036854775808 ≤ x.imm ∧ x.imm ≤ 9223372036854775807
  cc:-128 ≤ x.cc ∧ x.cc < 128
set_option maxHeartbeats 4000000 in
theorem cmay_n (x:Xi) (W:World) (hX:XOk x) (hT:Tabs W):Calls Tryd.prog 16 #[.agg (xC x)] W fun e w'=>e=.returned (.bool (mayP x)) ∧ Below W.heap.size W w':=by
  have hx:=Lib.hid hX
  have HT:=Lib.hid hT
  have mc:=Lib.hid (codeOf_mem x.op x.w)
  have CO:=Lib.hid (fun W (hT:Tabs W)=>codeOf_n x.op x.w hX.op W hT)
  clear hX hT
  have em:Hid (mayP x=((codeOfP x.op x.w).2 && (eqX x (filledP x.op x.w (codeOfP x.op x.w).1 (partsP x (codeOfP x.op x.w).1)) && fitsP x (codeOfP x.op x.w).1))):=Lib.hid rfl
  generalize codeOfP x.op x.w=r at *
  obtain ⟨c,ok⟩:=r
  simp only at mc em CO
  refine calls_abs Tryd.func16 rfl (Nat.le_of_ble_eq_true rfl) ?_
  intro a0 d0 z0 h0
  replace z0:a0.tmps.size=32:=z0
  have s0_0:a0.tmps.getD 0 undef=.agg (xC x):=h0 0 (Nat.le_of_ble_eq_true rfl)
  refine wp_seq ?_
  refine go_reg [] [⟨0,1,26,(xC x),none,#[]⟩] [none,oF] mo d0 z0 (Below.refl _ _) (by kernel_rfl) trivial (
   hk (fun cx=>cx.al (wn rfl) 0 rfl (ex_box rfl (cx.rq 0 s0_0) rfl) rfl rfl rfl rfl rfl trivial) <|
   hk (fun cx=>cx.q (ex_as rfl rfl)) <|
   hn) ?_
  intro a1 w1 f1
  obtain ⟨g1,u_g1,q_g1,b_g1⟩:=f1.al.1
  refine wp_seq ?_
  cases fk1:ok
  case false=>
   have Ffk1:=Lib.hid fk1;clear fk1
   refine go_reg [bx g1 26 (xC x)] [⟨8,3,80,#[.int .i8 0,.int .i8 0,.int .u16 0,.int .i8 0,.int .u16 0],some 9,#[.int .i8 c.sh,.int .i8 c.wd,.int .u16 c.va,.int .i8 c.dg,.int .u16 c.lo]⟩] [some (pt g1 0),some (.int .i8 x.op),some (pt g1 1),some (.int .i8 x.w),some (.tuple #[.agg #[.int .i8 c.sh,.int .i8 c.wd,.int .u16 c.va,.int .i8 c.dg,.int .u16 c.lo],.bool ok]),some (.tuple #[.agg #[.int .i8 c.sh,.int .i8 c.wd,.int .u16 c.va,.int .i8 c.dg,.int .u16 c.lo],.bool ok]),some (.agg #[.int .i8 c.sh,.int .i8 c.wd,.int .u16 c.va,.int .i8 c.dg,.int .u16 c.lo]),oF,none,none,oF] mo f1.d f1.z f1.b (by kernel_rfl) ⟨b_g1,trivial⟩ (
    hk (fun cx=>cx.q (ex_fa rfl (cx.rq 1 u_g1) (faEcE24_0_0 _ _))) <|
    hk (fun cx=>cx.q (ex_ld rfl (cx.u 0 rfl) (cx.rn 0 rfl) rfl Tryd.isAgg24)) <|
    hk (fun cx=>cx.q (ex_fa rfl (cx.rq 1 u_g1) (faEcE24_1_0 _ _))) <|
    hk (fun cx=>cx.q (ex_ld rfl (cx.u 0 rfl) (cx.rn 0 rfl) rfl Tryd.isAgg24)) <|
    hc (fun _ _ wx cx=>cx.c rfl (args2 (cx.u 0 rfl) (cx.u 1 rfl)) Tryd.func37 (by decide +kernel) (CO.out wx (HT.out.below cx.S.1.1 (Nat.le_refl _))) rfl rfl) <|
    kmu 0 <|
    hk (fun cx=>cx.q (ex_ext (x:=.tmp 5) rfl (cx.u 0 rfl) rfl)) <|
    hk (fun cx=>cx.v (ex_ext (x:=.tmp 5) rfl (cx.u 0 rfl) rfl) rfl (congrArg Value.bool Ffk1.out)) <|
    hk (fun cx=>cx.al (wn rfl) 0 rfl (by simp [execOp,Act.eval,go_sem]) rfl rfl rfl rfl (by kernel_rfl) trivial) <|
    hk (fun cx=>cx.stA (wn rfl) rfl rfl 0 0 rfl rfl rfl rfl (cx.u 1 rfl) (by kernel_rfl) (Eq.refl 5) (by simp [Value.oneCell']) f1.b.size rfl rfl trivial) <|
    kmu 0 <|
    hn) ?_
   intro a2 w2 f2
   obtain ⟨g2,u_g2,q_g2,b_g2⟩:=f2.al.1
   refine wp_seq ?_
   refine go_reg [] [] [oF,oF,oU,oU,oU,oU,oU,oU,oU,oU,oU,oU,oU,oF,oF,oU,oU,oU,oF,oF] mo f2.d f2.z f2.b (by kernel_rfl) trivial (
    hk (fun cx=>cx.q (ex_mv rfl (cx.rq 4 (f2.v 10 rfl rfl rfl)))) <|
    kmu 0 <|
    kno 0 <|
    kno 0 <|
    kno 1 <|
    kno 0 <|
    kno 1 <|
    kno 0 <|
    kno 0 <|
    kno 0 <|
    kno 2 <|
    kno 5 <|
    kno 2 <|
    hk (fun cx=>cx.q (ex_pf rfl (cx.u 0 rfl) rfl)) <|
    kmu 0 <|
    kno 0 <|
    kno 0 <|
    kno 2 <|
    hk (fun cx=>cx.q (ex_pf rfl (cx.u 0 rfl) rfl)) <|
    kmu 0 <|
    hn) ?_
   intro a3 w3 f3
   refine wp_ret ?_
   try simp only [Exit.inBlock,Exit.then]
   refine bodyPost_ret (res_t (fn:=Tryd.f16) rfl (f3.v 19 rfl rfl rfl)) f3.d ?_
   have HE:(.bool false:Value)=.bool (mayP x):=by rw [em.out];simp only [Ffk1.out,Bool.true_and,Bool.false_and]
   exact ⟨retV HE,f3.b⟩
  have Ffk1:=Lib.hid fk1;clear fk1
  refine go_reg [bx g1 26 (xC x)] [⟨8,3,80,#[.int .i8 0,.int .i8 0,.int .u16 0,.int .i8 0,.int .u16 0],some 9,#[.int .i8 c.sh,.int .i8 c.wd,.int .u16 c.va,.int .i8 c.dg,.int .u16 c.lo]⟩] [some (pt g1 0),some (.int .i8 x.op),some (pt g1 1),some (.int .i8 x.w),some (.tuple #[.agg #[.int .i8 c.sh,.int .i8 c.wd,.int .u16 c.va,.int .i8 c.dg,.int .u16 c.lo],.bool ok]),some (.tuple #[.agg #[.int .i8 c.sh,.int .i8 c.wd,.int .u16 c.va,.int .i8 c.dg,.int .u16 c.lo],.bool ok]),some (.agg #[.int .i8 c.sh,.int .i8 c.wd,.int .u16 c.va,.int .i8 c.dg,.int .u16 c.lo]),oT,none,none,oT] mo f1.d f1.z f1.b (by kernel_rfl) ⟨b_g1,trivial⟩ (
   hk (fun cx=>cx.q (ex_fa rfl (cx.rq 1 u_g1) (faEcE24_0_0 _ _))) <|
   hk (fun cx=>cx.q (ex_ld rfl (cx.u 0 rfl) (cx.rn 0 rfl) rfl Tryd.isAgg24)) <|
   hk (fun cx=>cx.q (ex_fa rfl (cx.rq 1 u_g1) (faEcE24_1_0 _ _))) <|
   hk (fun cx=>cx.q (ex_ld rfl (cx.u 0 rfl) (cx.rn 0 rfl) rfl Tryd.isAgg24)) <|
   hc (fun _ _ wx cx=>cx.c rfl (args2 (cx.u 0 rfl) (cx.u 1 rfl)) Tryd.func37 (by decide +kernel) (CO.out wx (HT.out.below cx.S.1.1 (Nat.le_refl _))) rfl rfl) <|
   kmu 0 <|
   hk (fun cx=>cx.q (ex_ext (x:=.tmp 5) rfl (cx.u 0 rfl) rfl)) <|
   hk (fun cx=>cx.v (ex_ext (x:=.tmp 5) rfl (cx.u 0 rfl) rfl) rfl (congrArg Value.bool Ffk1.out)) <|
   hk (fun cx=>cx.al (wn rfl) 0 rfl (by simp [execOp,Act.eval,go_sem]) rfl rfl rfl rfl (by kernel_rfl) trivial) <|
   hk (fun cx=>cx.stA (wn rfl) rfl rfl 0 0 rfl rfl rfl rfl (cx.u 1 rfl) (by kernel_rfl) (Eq.refl 5) (by simp [Value.oneCell']) f1.b.size rfl rfl trivial) <|
   kmu 0 <|
   hn) ?_
  intro a4 w4 f4
  obtain ⟨g2,u_g2,q_g2,b_g2⟩:=f4.al.1
  refine wp_seq ?_
  cases fk2:eqX x (filledP x.op x.w c (partsP x c))
  case false=>
   have Ffk2:=Lib.hid fk2;clear fk2
   have b_g1_1:=f4.k b_g1
   have s1_2:=f4.q 1 u_g1
   refine go_reg [bx g1 26 (xC x),bx g2 80 #[.int .i8 c.sh,.int .i8 c.wd,.int .u16 c.va,.int .i8 c.dg,.int .u16 c.lo]] [] [oT,oT,some (.agg (xC x)),some (pt g1 0),some (.int .i8 x.op),some (pt g1 1),some (.int .i8 x.w),some (.agg #[.int .i8 c.sh,.int .i8 c.wd,.int .u16 c.va,.int .i8 c.dg,.int .u16 c.lo]),some (.agg (xC x)),some (.agg #[.int .i8 c.sh,.int .i8 c.wd,.int .u16 c.va,.int .i8 c.dg,.int .u16 c.lo]),some (.agg #[.int .i8 (partsP x c).reg,.int .i8 (partsP x c).rm,.int .i64 (partsP x c).disp,.int .i64 (partsP x c).imm,.int .i8 (partsP x c).cc]),some (.agg (xC (filledP x.op x.w c (partsP x c)))),oF,oF,oF,oU,oU,oU,oF,oF] mo f4.d f4.z f4.b (by kernel_rfl) ⟨b_g1_1,b_g2,trivial⟩ (
    hk (fun cx=>cx.q (ex_mv rfl (cx.rq 4 (f4.v 10 rfl rfl rfl)))) <|
    kmu 0 <|
    hk (fun cx=>cx.vy 0 (ldX rfl (cx.rq 1 s1_2) (cx.rn 0 rfl))) <|
    hk (fun cx=>cx.vy 0 (ex_fa rfl (cx.rq 1 s1_2) (faEcE24_0_0 _ _))) <|
    hk (fun cx=>cx.vy 1 (ex_ld rfl (cx.u 0 rfl) (cx.rn 0 rfl) rfl Tryd.isAgg24)) <|
    hk (fun cx=>cx.vy 0 (ex_fa rfl (cx.rq 1 s1_2) (faEcE24_1_0 _ _))) <|
    hk (fun cx=>cx.vy 1 (ex_ld rfl (cx.u 0 rfl) (cx.rn 0 rfl) rfl Tryd.isAgg24)) <|
    hk (fun cx=>cx.vy 0 (exec_loadR 80 _ rfl g2 0 (cx.rq 3 u_g2) (cx.rn 1 rfl) [.int .i8 c.sh,.int .i8 c.wd,.int .u16 c.va,.int .i8 c.dg,.int .u16 c.lo] rfl _ Tryd.underlying80 rfl (by kernel_rfl))) <|
    hk (fun cx=>cx.vy 0 (ldX rfl (cx.rq 1 s1_2) (cx.rn 0 rfl))) <|
    hk (fun cx=>cx.vy 0 (exec_loadR 80 _ rfl g2 0 (cx.rq 3 u_g2) (cx.rn 1 rfl) [.int .i8 c.sh,.int .i8 c.wd,.int .u16 c.va,.int .i8 c.dg,.int .u16 c.lo] rfl _ Tryd.underlying80 rfl (by kernel_rfl))) <|
    hc (fun _ _ wx cx=>cx.call (cx.wy rfl rfl rfl rfl (cx.u 2 rfl)) rfl rfl (args2 (cx.u 0 rfl) (cx.u 1 rfl)) Tryd.func39 (by decide +kernel) rfl (cparts_n x c mc.out wx) rfl rfl rfl rfl) <|
    hc (fun _ _ wx cx=>cx.call (cx.wy rfl rfl rfl rfl (cx.u 5 rfl)) rfl rfl (args4 (cx.u 0 rfl) (cx.u 1 rfl) (cx.u 2 rfl) (cx.u 3 rfl)) Tryd.func38 (by decide +kernel) rfl (cfilled_n x.op x.w c (partsP x c) mc.out wx) rfl rfl rfl rfl) <|
    hk (fun cx=>cx.vy (v:=.bool (eqX x (filledP x.op x.w c (partsP x c)))) 2 (exec_eql (x:=.tmp 15) (y:=.tmp 24) rfl (cx.u 0 rfl) (cx.u 1 rfl) (by kernel_rfl) (eq_x x (filledP x.op x.w c (partsP x c)) _)) (congrArg Value.bool Ffk2.out)) <|
    hk (fun cx=>cx.q (ex_pt rfl (cx.u 0 rfl) (cx.u 1 rfl))) <|
    kmu 0 <|
    kno 0 <|
    kno 0 <|
    kno 2 <|
    hk (fun cx=>cx.q (ex_pf rfl (cx.u 0 rfl) rfl)) <|
    kmu 0 <|
    hn) ?_
   intro a5 w5 f5
   refine wp_ret ?_
   try simp only [Exit.inBlock,Exit.then]
   refine bodyPost_ret (res_t (fn:=Tryd.f16) rfl (f5.v 19 rfl rfl rfl)) f5.d ?_
   have HE:(.bool false:Value)=.bool (mayP x):=by rw [em.out];simp only [Ffk1.out,Ffk2.out,Bool.true_and,Bool.false_and]
   exact ⟨retV HE,f5.b⟩
  have Ffk2:=Lib.hid fk2;clear fk2
  have b_g1_3:=f4.k b_g1
  have s1_4:=f4.q 1 u_g1
  refine go_reg [bx g1 26 (xC x),bx g2 80 #[.int .i8 c.sh,.int .i8 c.wd,.int .u16 c.va,.int .i8 c.dg,.int .u16 c.lo]] [] [oT,oT,some (.agg (xC x)),some (pt g1 0),some (.int .i8 x.op),some (pt g1 1),some (.int .i8 x.w),some (.agg #[.int .i8 c.sh,.int .i8 c.wd,.int .u16 c.va,.int .i8 c.dg,.int .u16 c.lo]),some (.agg (xC x)),some (.agg #[.int .i8 c.sh,.int .i8 c.wd,.int .u16 c.va,.int .i8 c.dg,.int .u16 c.lo]),some (.agg #[.int .i8 (partsP x c).reg,.int .i8 (partsP x c).rm,.int .i64 (partsP x c).disp,.int .i64 (partsP x c).imm,.int .i8 (partsP x c).cc]),some (.agg (xC (filledP x.op x.w c (partsP x c)))),oT,oT,oT,some (.agg (xC x)),some (.agg #[.int .i8 c.sh,.int .i8 c.wd,.int .u16 c.va,.int .i8 c.dg,.int .u16 c.lo]),some (.bool (fitsP x c)),some (.bool (fitsP x c)),some (.bool (fitsP x c))] mo f4.d f4.z f4.b (by kernel_rfl) ⟨b_g1_3,b_g2,trivial⟩ (
   hk (fun cx=>cx.q (ex_mv rfl (cx.rq 4 (f4.v 10 rfl rfl rfl)))) <|
   kmu 0 <|
   hk (fun cx=>cx.vy 0 (ldX rfl (cx.rq 1 s1_4) (cx.rn 0 rfl))) <|
   hk (fun cx=>cx.vy 0 (ex_fa rfl (cx.rq 1 s1_4) (faEcE24_0_0 _ _))) <|
   hk (fun cx=>cx.vy 1 (ex_ld rfl (cx.u 0 rfl) (cx.rn 0 rfl) rfl Tryd.isAgg24)) <|
   hk (fun cx=>cx.vy 0 (ex_fa rfl (cx.rq 1 s1_4) (faEcE24_1_0 _ _))) <|
   hk (fun cx=>cx.vy 1 (ex_ld rfl (cx.u 0 rfl) (cx.rn 0 rfl) rfl Tryd.isAgg24)) <|
   hk (fun cx=>cx.vy 0 (exec_loadR 80 _ rfl g2 0 (cx.rq 3 u_g2) (cx.rn 1 rfl) [.int .i8 c.sh,.int .i8 c.wd,.int .u16 c.va,.int .i8 c.dg,.int .u16 c.lo] rfl _ Tryd.underlying80 rfl (by kernel_rfl))) <|
   hk (fun cx=>cx.vy 0 (ldX rfl (cx.rq 1 s1_4) (cx.rn 0 rfl))) <|
   hk (fun cx=>cx.vy 0 (exec_loadR 80 _ rfl g2 0 (cx.rq 3 u_g2) (cx.rn 1 rfl) [.int .i8 c.sh,.int .i8 c.wd,.int .u16 c.va,.int .i8 c.dg,.int .u16 c.lo] rfl _ Tryd.underlying80 rfl (by kernel_rfl))) <|
   hc (fun _ _ wx cx=>cx.call (cx.wy rfl rfl rfl rfl (cx.u 2 rfl)) rfl rfl (args2 (cx.u 0 rfl) (cx.u 1 rfl)) Tryd.func39 (by decide +kernel) rfl (cparts_n x c mc.out wx) rfl rfl rfl rfl) <|
   hc (fun _ _ wx cx=>cx.call (cx.wy rfl rfl rfl rfl (cx.u 5 rfl)) rfl rfl (args4 (cx.u 0 rfl) (cx.u 1 rfl) (cx.u 2 rfl) (cx.u 3 rfl)) Tryd.func38 (by decide +kernel) rfl (cfilled_n x.op x.w c (partsP x c) mc.out wx) rfl rfl rfl rfl) <|
   hk (fun cx=>cx.vy (v:=.bool (eqX x (filledP x.op x.w c (partsP x c)))) 2 (exec_eql (x:=.tmp 15) (y:=.tmp 24) rfl (cx.u 0 rfl) (cx.u 1 rfl) (by kernel_rfl) (eq_x x (filledP x.op x.w c (partsP x c)) _)) (congrArg Value.bool Ffk2.out)) <|
   hk (fun cx=>cx.q (ex_pt rfl (cx.u 0 rfl) (cx.u 1 rfl))) <|
   kmu 0 <|
   hk (fun cx=>cx.vy 0 (ldX rfl (cx.rq 1 s1_4) (cx.rn 0 rfl))) <|
   hk (fun cx=>cx.vy 0 (exec_loadR 80 _ rfl g2 0 (cx.rq 3 u_g2) (cx.rn 1 rfl) [.int .i8 c.sh,.int .i8 c.wd,.int .u16 c.va,.int .i8 c.dg,.int .u16 c.lo] rfl _ Tryd.underlying80 rfl (by kernel_rfl))) <|
   hc (fun _ _ wx cx=>cx.call (cx.wy rfl rfl rfl rfl (cx.u 2 rfl)) rfl rfl (args2 (cx.u 0 rfl) (cx.u 1 rfl)) Tryd.func40 (by decide +kernel) rfl (cfits_n x c wx hx.out.w hx.out.imm hx.out.disp) rfl rfl rfl rfl) <|
   hk (fun cx=>cx.q (ex_pt rfl (cx.u 0 rfl) (cx.u 1 rfl))) <|
   kmu 0 <|
   hn) ?_
  intro a6 w6 f6
  refine wp_ret ?_
  try simp only [Exit.inBlock,Exit.then]
  refine bodyPost_ret (res_t (fn:=Tryd.f16) rfl (f6.v 19 rfl rfl rfl)) f6.d ?_
  have HE:(.bool (fitsP x c):Value)=.bool (mayP x):=by rw [em.out];simp only [Ffk1.out,Ffk2.out,Bool.true_and,Bool.false_and]
  exact ⟨retV HE,f6.b⟩
end Go.Proofs.YtoghjpliemidkaaDoor.Mrm
