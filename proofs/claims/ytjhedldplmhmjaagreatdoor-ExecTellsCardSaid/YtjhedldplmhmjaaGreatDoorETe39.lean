import Derived.Test.YtjhedldplmhmjaaGreatDoorETe37
import Derived.Test.YtjhedldplmhmjaaGreatDoorETe38
set_option maxHeartbeats 16000000
set_option linter.unusedVariables false
set_option linter.unusedSimpArgs false
set_option linter.unnecessarySimpa false
namespace Go.Proofs.YtjhedldplmhmjaaGreatDoor.Exe
open Go Go.RowKit
open Mrm (Xi xC zX mayX bytesX)
open Flg (Fl fC zF addF subF ofF holF holE mayC parts5 ex_beq ex_bne)
set_option maxRecDepth 100000
theorem faExV27_2_0 (g:Nat)(w:World):(Instr.fieldAt 27 (.pointer (some ⟨g,0,none⟩)) 2).run Tryz.prog w=.ok (.pointer (some ⟨g,21,none⟩)) w:=by simp [go_sem]
theorem faExV30_1_0 (g:Nat)(w:World):(Instr.fieldAt 30 (.pointer (some ⟨g,0,none⟩)) 1).run Tryz.prog w=.ok (.pointer (some ⟨g,1,none⟩)) w:=by simp [go_sem]
theorem faExV30_0_0 (g:Nat)(w:World):(Instr.fieldAt 30 (.pointer (some ⟨g,0,none⟩)) 0).run Tryz.prog w=.ok (.pointer (some ⟨g,0,none⟩)) w:=by simp [go_sem]
theorem faExV30_2_0 (g:Nat)(w:World):(Instr.fieldAt 30 (.pointer (some ⟨g,0,none⟩)) 2).run Tryz.prog w=.ok (.pointer (some ⟨g,2,none⟩)) w:=by simp [go_sem]
theorem faExV30_3_0 (g:Nat)(w:World):(Instr.fieldAt 30 (.pointer (some ⟨g,0,none⟩)) 3).run Tryz.prog w=.ok (.pointer (some ⟨g,3,none⟩)) w:=by simp [go_sem]
theorem faExV27_0_0 (g:Nat)(w:World):(Instr.fieldAt 27 (.pointer (some ⟨g,0,none⟩)) 0).run Tryz.prog w=.ok (.pointer (some ⟨g,0,none⟩)) w:=by simp [go_sem]
theorem faExV30_6_0 (g:Nat)(w:World):(Instr.fieldAt 30 (.pointer (some ⟨g,0,none⟩)) 6).run Tryz.prog w=.ok (.pointer (some ⟨g,6,none⟩)) w:=by simp [go_sem]
theorem faExV27_1_0 (g:Nat)(w:World):(Instr.fieldAt 27 (.pointer (some ⟨g,0,none⟩)) 1).run Tryz.prog w=.ok (.pointer (some ⟨g,16,none⟩)) w:=by simp [go_sem]
theorem faExV30_7_0 (g:Nat)(w:World):(Instr.fieldAt 30 (.pointer (some ⟨g,0,none⟩)) 7).run Tryz.prog w=.ok (.pointer (some ⟨g,7,none⟩)) w:=by simp [go_sem]
abbrev mA (m:Mc) (x:Xi):Mc:=m.upA (IntKind.u64.wrap (m.a+(IntKind.u64.wrap (lenX x))))
theorem doQ_some {m M:Mc}{x:Xi}{l:Int}(hm:mayX x=true)(E:effX (mA m x) x l=some M):(.tuple #[.agg (mcC M),.int .i64 0]:Value)=.tuple #[.agg (mcC (doX m x l)),.int .i64 (doXe m x l)]:=by
 have e1:doX m x l=M:=(if_pos hm).trans (by show (goX m x l).getD zM=M;unfold goX;rw [E];rfl)
 have e2:doXe m x l=0:=(if_pos hm).trans (by show (if (goX m x l).isSome=true then (0:Int) else 20)=0;unfold goX;rw [E];rfl)
 rw [e1,e2]
theorem doQ_none {m:Mc}{x:Xi}{l:Int}(hm:mayX x=true)(E:effX (mA m x) x l=none):(.tuple #[.agg (mcC zM),.int .i64 20]:Value)=.tuple #[.agg (mcC (doX m x l)),.int .i64 (doXe m x l)]:=by
 have e1:doX m x l=zM:=(if_pos hm).trans (by show (goX m x l).getD zM=zM;unfold goX;rw [E];rfl)
 have e2:doXe m x l=20:=(if_pos hm).trans (by show (if (goX m x l).isSome=true then (0:Int) else 20)=20;unfold goX;rw [E];rfl)
 rw [e1,e2]
theorem doQ_no {m:Mc}{x:Xi}{l:Int}(hm:mayX x=false):(.tuple #[.agg (mcC zM),.int .i64 2]:Value)=.tuple #[.agg (mcC (doX m x l)),.int .i64 (doXe m x l)]:=by
 rw [show doX m x l=zM from if_neg (by rw [hm];exact Bool.false_ne_true),show doXe m x l=2 from if_neg (by rw [hm];exact Bool.false_ne_true)]
theorem hole_bad {c:Int}{f:Fl}(hc:mayC c=true)(h:(holE c f != 0)=true):f.k=false:=by
 cases e:f.k
 ·rfl
 ·rw [show holE c f=0 from (if_pos hc).trans (if_pos e)] at h;exact absurd h (by decide)
theorem hole_ok {c:Int}{f:Fl}(hc:mayC c=true)(h:(holE c f != 0)=false):f.k=true:=by
 cases e:f.k
 ·rw [show holE c f=20 from (if_pos hc).trans (if_neg (by rw [e];exact Bool.false_ne_true))] at h;exact absurd h (by decide)
 ·rfl
theorem dpos {d:Int}{w:Int}(h:U64 d)(h0:(cutI d w == 0)=false):0<cutI d w:=by
 have:=(h.cut w).1
 have q:=beq_eq_false_iff_ne.1 h0
 omega
theorem long24 {x:Xi}(h:mayX x=true)(e:x.op=24):longB x.w=true:=by
 have c:Mrm.clsB (Mrm.clsI x.op) x=true:=by
  unfold mayX at h
  simp only [Bool.and_eq_true] at h
  exact h.2.2.2.2.2.2.2
 rw [show Mrm.clsI x.op=4 by rw [e];rfl] at c
 exact c
theorem cut_div {a d w:Int}(ha:U64 a)(hd:U64 d)(hw:longB w=true)(h0:(cutI d w == 0)=false):doI 3 w a d=cutI a w / cutI d w∧doI 9 w a d=cutI a w % cutI d w:=by
 have p:=dpos hd h0
 have q:¬ cutI d w=0:=by omega
 have e1:doI 3 w a d=cutI (opI 3 w (cutI a w) (cutI d w)) w:=if_pos ⟨by omega,by omega,hw⟩
 have e2:doI 9 w a d=cutI (opI 9 w (cutI a w) (cutI d w)) w:=if_pos ⟨by omega,by omega,hw⟩
 rw [e1,e2,opI_3,opI_9,if_neg q,if_neg q]
 have c:=ha.cut w
 rcases longB_cases hw with rfl | rfl
 ·simp only [cutI_32] at *
  have l1:(a % 4294967296) / (d % 4294967296)≤a % 4294967296:=Int.ediv_le_self _ (by omega)
  have l0:0≤(a % 4294967296) / (d % 4294967296):=Int.ediv_nonneg (by omega) (by omega)
  have m0:=Int.emod_nonneg (a % 4294967296) q
  have m1:=Int.emod_lt_of_pos (a % 4294967296) p
  constructor <;> omega
 ·simp only [cutI_64] at *
  exact ⟨trivial,trivial⟩
theorem doQ_div {m:Mc}{x:Xi}{l:Int}(h2:(cutI (m.r 2) x.w != 0)=false)(hd:(cutI (m.r x.dst.toNat) x.w == 0)=false)(hM:MOk m)(hm:mayX x=true)(e:x.op=24):
  (.tuple #[.agg (mcC ((((mA m x).setR 0 (cutI (m.r 0) x.w / cutI (m.r x.dst.toNat) x.w)).setR 2 (cutI (m.r 0) x.w % cutI (m.r x.dst.toNat) x.w)).upF zF)),.int .i64 0]:Value)=.tuple #[.agg (mcC (doX m x l)),.int .i64 (doXe m x l)]:=by
 refine doQ_some hm ((eff_24 (mA m x) l e).trans ?_)
 rw [divB_is]
 show (bif (!(cutI (m.r 2) x.w != 0) && !(cutI (m.r x.dst.toNat) x.w == 0)) then _ else _)=_
 rw [h2,hd]
 obtain ⟨c1,c2⟩:=cut_div (hM.r 0) (hM.r x.dst.toNat) (long24 hm e) hd
 rw [← c1,← c2]
 rfl
theorem qdo_n (m:Mc)(x:Xi)(l:Int)(W:World)(hX:Mrm.XOk x)(hM:MOk m)(hl:U64 l):Calls Tryz.prog 5 #[.agg (mcC m),.agg (xC x),.int .u64 l] W fun e w'=>e=.returned (.tuple #[.agg (mcC (doX m x l)),.int .i64 (doXe m x l)])∧Below W.heap.size W w':=by
 refine calls_abs Tryz.func5 rfl (Nat.le_of_ble_eq_true rfl) ?_
 intro a0 d0 z0 h0
 replace z0:a0.tmps.size=285:=z0
 have s0_0:a0.tmps.getD 0 undef=.agg (mcC m):=h0 0 (Nat.le_of_ble_eq_true rfl)
 have s1_0:a0.tmps.getD 1 undef=.agg (xC x):=h0 1 (Nat.le_of_ble_eq_true rfl)
 have s2_0:a0.tmps.getD 2 undef=.int .u64 l:=h0 2 (Nat.le_of_ble_eq_true rfl)
 refine wp_seq ?_
 refine go_reg [] [⟨0,3,27,(mcC m),none,#[]⟩,⟨1,4,30,(xC x),none,#[]⟩,⟨2,6,27,(mcC zM),none,#[]⟩] [none,none,none,some (.int .i64 0)] mo d0 z0 (Below.refl _ _) (by kernel_rfl) trivial (
  hk (fun cx=>cx.al (wn rfl) 0 rfl (ex_box rfl (cx.rq 0 s0_0) rfl) rfl rfl rfl rfl rfl trivial) <|
  hk (fun cx=>cx.al (wn rfl) 1 rfl (ex_box rfl (cx.rq 1 s1_0) rfl) rfl rfl rfl rfl rfl trivial) <|
  hk (fun cx=>cx.al (wn rfl) 2 rfl (al_mc rfl) rfl rfl rfl rfl rfl trivial) <|
  kq (fun cx=>ex_as rfl rfl) <|
  hn) ?_
 intro a1 w1 f1
 obtain ⟨g1,u_g1,q_g1,b_g1⟩:=f1.al.1
 obtain ⟨g2,u_g2,q_g2,b_g2⟩:=f1.al.2.1
 obtain ⟨g3,u_g3,q_g3,b_g3⟩:=f1.al.2.2.1
 refine wp_seq ?_
 refine wp_seq ?_
 cases fk1:mayX x
 case false=>
  have Ffk1:=Lib.hid fk1;clear fk1
  refine go_reg [bx g2 30 (xC x)] [] [some (.agg (xC x)),oF,oT] mo f1.d f1.z f1.b (by kernel_rfl) ⟨b_g2,trivial⟩ (
   kq (fun cx=>Mrm.ldX rfl (cx.rq 4 u_g2) (cx.rn 0 rfl)) <|
   hc (fun _ _ wx cx=>cx.c rfl (args1 cx.u0) Tryz.func22 (by decide +kernel) (Mrm.emay_n x wx hX.w) rfl (congrArg Value.bool Ffk1.out)) <|
   kq (fun cx=>ex_not (x:=.tmp 26) rfl cx.u0) <|
   hn) ?_
  intro a2 w2 f2
  refine wp_cond_true (f2.vv 2) ?_
  refine wp_seq ?_
  have b_g3_1:=f2.k b_g3
  have s6_2:=f2.q 6 u_g3
  refine go_reg [⟨g3,27,(mcC zM),some 1,(mcC zM)⟩] [] [some (.agg (mcC zM)),none,some (.int .i64 2)] mo f2.d f2.z f2.b (by kernel_rfl) ⟨b_g3_1,trivial⟩ (
   kq (fun cx=>ex_zmc rfl) <|
   hk (fun cx=>cx.stR (wn rfl) rfl rfl 0 rfl (cx.rq 6 s6_2) (cx.u 0 rfl) (by kernel_rfl) (Eq.refl 22) (mcC_one _) q_g3 rfl trivial trivial) <|
   kq (fun cx=>ex_as rfl rfl) <|
   hn) ?_
  intro a3 w3 f3
  refine wp_ret ?_
  have s6_3:=f3.q 6 s6_2
  try simp only [Exit.inBlock,Exit.then]
  refine bodyPost_ret (res_ct (fn:=Tryz.f5) rfl s6_3 (load_row 27 f3.rows.1 Tryz.underlying27 rfl (by kernel_rfl)) (f3.vv 2)) f3.d ?_
  exact ⟨retV (doQ_no Ffk1.out),f3.b⟩
 have Ffk1:=Lib.hid fk1;clear fk1
 have hm:mayX x=true:=Ffk1.out
 obtain ⟨hop,hd,hs,-⟩:=Mrm.may_parts' hm
 have hcc:x.cc≤127:=by have:=hX.cc;omega
 have hcy:=may_cc hm
 refine go_reg [bx g2 30 (xC x)] [] [some (.agg (xC x)),oT,oF] mo f1.d f1.z f1.b (by kernel_rfl) ⟨b_g2,trivial⟩ (
  kq (fun cx=>Mrm.ldX rfl (cx.rq 4 u_g2) (cx.rn 0 rfl)) <|
  hc (fun _ _ wx cx=>cx.c rfl (args1 cx.u0) Tryz.func22 (by decide +kernel) (Mrm.emay_n x wx hX.w) rfl (congrArg Value.bool Ffk1.out)) <|
  kq (fun cx=>ex_not (x:=.tmp 26) rfl cx.u0) <|
  hn) ?_
 intro a4 w4 f4
 refine wp_cond_false (f4.vv 2) ?_
 refine wp_skip ?_
 refine wp_seq ?_
 have b_g1_4:=f4.k b_g1
 have b_g2_5:=f4.k b_g2
 have s3_6:=f4.q 3 u_g1
 have s4_7:=f4.q 4 u_g2
 refine go_reg [⟨g1,27,(mcC m),some 7,(mcC (mA m x))⟩,bx g2 30 (xC x)] [] [some (pt g1 21),some (.int .u64 m.a),some (.agg (xC x)),some (.int .i64 (lenX x)),some (.int .u64 (IntKind.u64.wrap (lenX x))),some (.int .u64 (IntKind.u64.wrap (m.a+(IntKind.u64.wrap (lenX x))))),some (pt g1 21),none] mo f4.d f4.z f4.b (by kernel_rfl) ⟨b_g1_4,b_g2_5,trivial⟩ (
  kq (fun cx=>ex_fa rfl (cx.rq 3 s3_6) (faExV27_2_0 _ _)) <|
  kq (fun cx=>ex_ld rfl (cx.u 0 rfl) (cx.rf 0 rfl (by kernel_rfl)) rfl Tryz.isAgg22) <|
  kq (fun cx=>Mrm.ldX rfl (cx.rq 4 s4_7) (cx.rn 1 rfl)) <|
  hc (fun _ _ wx cx=>cx.c rfl (args1 cx.u0) Tryz.func23 (by decide +kernel) (qlen_n x hX wx hm) rfl rfl) <|
  kq (fun cx=>ex_conv (x:=.tmp 32) rfl cx.u0 Tryz.underlying3 Tryz.underlying22) <|
  kq (fun cx=>ex_add (x:=.tmp 30) (y:=.tmp 33) rfl cx.u0 cx.u1) <|
  kq (fun cx=>ex_fa rfl (cx.rq 3 s3_6) (faExV27_2_0 _ _)) <|
  hk (fun cx=>cx.stC (wn rfl) rfl rfl 0 rfl (cx.u 0 rfl) (cx.u 1 rfl) rfl rfl (by kernel_rfl) rfl rfl q_g1 rfl ⟨(ne_ptr (pairAt f1.ps 0 1 (by decide) rfl rfl) u_g1 u_g2).symm,trivial⟩ trivial) <|
  hn) ?_
 intro a5 w5 f5
 refine wp_seq ?_
 have b_g2_8:=f5.kp b_g2_5 ⟨.inr (ne_ptr (pairAt f1.ps 0 1 (by decide) rfl rfl) u_g1 u_g2).symm,.inl rfl,trivial⟩
 have s4_9:=f5.q 4 s4_7
 refine go_reg [bx g2 30 (xC x)] [] [some (pt g2 1),some (.int .i8 x.w),some (.int .i8 x.w)] mo f5.d f5.z f5.b (by kernel_rfl) ⟨b_g2_8,trivial⟩ (
  kq (fun cx=>ex_fa rfl (cx.rq 4 s4_9) (faExV30_1_0 _ _)) <|
  kq (fun cx=>ex_ld rfl (cx.u 0 rfl) (cx.rn 0 rfl) rfl Tryz.isAgg28) <|
  kmu 0 <|
  hn) ?_
 intro a6 w6 f6
 refine wp_seq ?_
 cases fk2:isQ x.op
 case false=>
  have Ffk2:=Lib.hid fk2;clear fk2
  have b_g2_10:=f6.k b_g2_8
  have s4_11:=f6.q 4 s4_9
  refine go_reg [bx g2 30 (xC x)] [] [some (pt g2 0),some (.int .i8 x.op),some (.tuple #[.int .i8 (opQ x.op),.bool (isQ x.op)]),some (.tuple #[.int .i8 (opQ x.op),.bool (isQ x.op)]),some (.int .i8 (opQ x.op)),oF,some (.int .i8 (opQ x.op)),oF] mo f6.d f6.z f6.b (by kernel_rfl) ⟨b_g2_10,trivial⟩ (
   kq (fun cx=>ex_fa rfl (cx.rq 4 s4_11) (faExV30_0_0 _ _)) <|
   kq (fun cx=>ex_ld rfl (cx.u 0 rfl) (cx.rn 0 rfl) rfl Tryz.isAgg28) <|
   hc (fun _ _ wx cx=>cx.c rfl (args1 cx.u0) Tryz.func24 (by decide +kernel) (((qop_n x.op hop wx).mono (by rintro e w' ⟨rfl,rfl⟩;exact ⟨rfl,Below.refl _ _⟩))) rfl rfl) <|
   kmu 0 <|
   kq (fun cx=>ex_ext (x:=.tmp 38) rfl cx.u0 rfl) <|
   hk (fun cx=>cx.v (ex_ext (x:=.tmp 38) rfl cx.u0 rfl) rfl (congrArg Value.bool Ffk2.out)) <|
   kmu 0 <|
   kmu 0 <|
   hn) ?_
  intro a7 w7 f7
  refine wp_seq ?_
  refine wp_block ?_
  refine wp_seq ?_
  refine go_reg [] [] [oF,oF] mo f7.d f7.z f7.b (by kernel_rfl) trivial (
   kq (fun cx=>ex_mv rfl (cx.rq 10 (f7.vv 7))) <|
   kmu 0 <|
   hn) ?_
  intro a8 w8 f8
  refine wp_cond_false (f8.vv 1) ?_
  refine wp_seq ?_
  cases fk3:x.op == 0
  case true=>
   have Ffk3:=Lib.hid fk3;clear fk3
   have hO0:x.op=0:=by simpa using Ffk3.out
   have b_g2_12:=f8.k (f7.k b_g2_10)
   have s4_13:=f8.q 4 (f7.q 4 s4_11)
   refine go_reg [bx g2 30 (xC x)] [] [some (pt g2 0),some (.int .i8 0),oT,oT] mo f8.d f8.z f8.b (by kernel_rfl) ⟨b_g2_12,trivial⟩ (
    kq (fun cx=>ex_fa rfl (cx.rq 4 s4_13) (faExV30_0_0 _ _)) <|
    hk (fun cx=>cx.v (ex_ld rfl (cx.u 0 rfl) (cx.rn 0 rfl) rfl Tryz.isAgg28) rfl (congrArg (Value.int .i8) hO0)) <|
    hk (fun cx=>cx.v (ex_eq (x:=.tmp 94) rfl cx.u0 rfl) rfl (congrArg Value.bool (by decide))) <|
    kmu 0 <|
    hn) ?_
   intro a9 w9 f9
   refine wp_cond_true (f9.vv 3) ?_
   have b_g2_14:=f9.k b_g2_12
   have b_g1_15:=f9.k (f8.k (f7.k (f6.k f5.rows.1)))
   have s4_16:=f9.q 4 s4_13
   have s3_17:=f9.q 3 (f8.q 3 (f7.q 3 (f6.q 3 (f5.q 3 s3_6))))
   have s8_18:=f9.q 8 (f8.q 8 (f7.q 8 (f6.vv 2)))
   refine go_reg [bx g2 30 (xC x),⟨g1,27,(mcC (mA m x)),some 11,(mcC ((mA m x).setR x.dst.toNat (cutI (m.r x.src.toNat) x.w)))⟩] [] [some (pt g2 2),some (.int .i8 x.dst),some (pt g2 3),some (.int .i8 x.src),some (pt g1 0),some (pt g1 (x.src.toNat)),some (.int .u64 (m.r x.src.toNat)),some (.int .i8 x.w),some (.int .u64 (cutI (m.r x.src.toNat) x.w)),some (pt g1 0),some (pt g1 (x.dst.toNat)),none] mo f9.d f9.z f9.b (by kernel_rfl) ⟨b_g2_14,b_g1_15,trivial⟩ (
    kq (fun cx=>ex_fa rfl (cx.rq 4 s4_16) (faExV30_2_0 _ _)) <|
    kq (fun cx=>ex_ld rfl (cx.u 0 rfl) (cx.rn 0 rfl) rfl Tryz.isAgg28) <|
    kq (fun cx=>ex_fa rfl (cx.rq 4 s4_16) (faExV30_3_0 _ _)) <|
    kq (fun cx=>ex_ld rfl (cx.u 0 rfl) (cx.rn 0 rfl) rfl Tryz.isAgg28) <|
    kq (fun cx=>ex_fa rfl (cx.rq 3 s3_17) (faExV27_0_0 _ _)) <|
    hk (fun cx=>cx.v (ex_ia (n:=16) (sz:=1) rfl (cx.u 0 rfl) (cx.u 1 rfl) Tryz.underlying23 (by kernel_rfl) (by omega) (by omega) (by omega)) rfl rfl) <|
    hk (fun cx=>cx.v (ldMcR (by omega) rfl (cx.u 0 rfl) (cx.rf 1 rfl (by kernel_rfl))) rfl rfl) <|
    kq (fun cx=>ex_mv rfl (cx.rq 8 s8_18)) <|
    hc (fun _ _ wx cx=>cx.c rfl (args2 cx.u0 cx.u1) Tryz.func28 (by decide +kernel) (((refcut_any (m.r x.src.toNat) x.w wx).mono (by rintro e w' ⟨rfl,rfl⟩;exact ⟨rfl,Below.refl _ _⟩))) rfl rfl) <|
    kq (fun cx=>ex_fa rfl (cx.rq 3 s3_17) (faExV27_0_0 _ _)) <|
    hk (fun cx=>cx.v (ex_ia (n:=16) (sz:=1) rfl (cx.u 0 rfl) (cx.u 1 rfl) Tryz.underlying23 (by kernel_rfl) (by omega) (by omega) (by omega)) rfl rfl) <|
    hk (fun cx=>cx.stC (wn rfl) rfl rfl 1 rfl (cx.u 0 rfl) (cx.u 1 rfl) rfl rfl (by kernel_rfl) (by rw [mcC_size];simp only [Nat.blt_eq];omega) (mcC_set _ (by omega) _) q_g1 rfl ⟨(ne_ptr (pairAt f1.ps 0 1 (by decide) rfl rfl) u_g1 u_g2).symm,trivial⟩ trivial) <|
    hn) ?_
   intro a10 w10 f10
   refine wp_seq ?_
   have b_g3_19:=f10.kp (f9.k (f8.k (f7.k (f6.k (f5.kp (f4.k b_g3) ⟨.inr (ne_ptr (pairAt f1.ps 0 2 (by decide) rfl rfl) u_g1 u_g3).symm,.inl rfl,trivial⟩))))) ⟨.inl rfl,.inr (ne_ptr (pairAt f1.ps 0 2 (by decide) rfl rfl) u_g1 u_g3).symm,trivial⟩
   have s3_20:=f10.q 3 s3_17
   have s6_21:=f10.q 6 (f9.q 6 (f8.q 6 (f7.q 6 (f6.q 6 (f5.q 6 (f4.q 6 u_g3))))))
   refine go_reg [bx g1 27 (mcC ((mA m x).setR x.dst.toNat (cutI (m.r x.src.toNat) x.w))),⟨g3,27,(mcC zM),some 1,(mcC ((mA m x).setR x.dst.toNat (cutI (m.r x.src.toNat) x.w)))⟩] [] [some (.agg (mcC ((mA m x).setR x.dst.toNat (cutI (m.r x.src.toNat) x.w)))),none,some (.int .i64 0)] mo f10.d f10.z f10.b (by kernel_rfl) ⟨f10.rows.2.1,b_g3_19,trivial⟩ (
    kq (fun cx=>ldMc rfl (cx.rq 3 s3_20) (cx.rn 0 rfl)) <|
    hk (fun cx=>cx.stR (wn rfl) rfl rfl 1 rfl (cx.rq 6 s6_21) (cx.u 0 rfl) (by kernel_rfl) (Eq.refl 22) (mcC_one _) q_g3 rfl ⟨(ne_ptr (pairAt f1.ps 0 2 (by decide) rfl rfl) u_g1 u_g3),trivial⟩ trivial) <|
    kq (fun cx=>ex_as rfl rfl) <|
    hn) ?_
   intro a11 w11 f11
   refine wp_ret ?_
   have s6_22:=f11.q 6 s6_21
   try simp only [Exit.inBlock,Exit.then]
   refine bodyPost_ret (res_ct (fn:=Tryz.f5) rfl s6_22 (load_row 27 f11.rows.2.1 Tryz.underlying27 rfl (by kernel_rfl)) (f11.vv 2)) f11.d ?_
   exact ⟨retV (doQ_some hm (eff_0 (mA m x) l hO0)),f11.b⟩
  have Ffk3:=Lib.hid fk3;clear fk3
  have b_g2_23:=f8.k (f7.k b_g2_10)
  have s4_24:=f8.q 4 (f7.q 4 s4_11)
  refine go_reg [bx g2 30 (xC x)] [] [some (pt g2 0),some (.int .i8 x.op),oF,oF] mo f8.d f8.z f8.b (by kernel_rfl) ⟨b_g2_23,trivial⟩ (
   kq (fun cx=>ex_fa rfl (cx.rq 4 s4_24) (faExV30_0_0 _ _)) <|
   kq (fun cx=>ex_ld rfl (cx.u 0 rfl) (cx.rn 0 rfl) rfl Tryz.isAgg28) <|
   hk (fun cx=>cx.v (ex_eq (x:=.tmp 94) rfl cx.u0 rfl) rfl (congrArg Value.bool Ffk3.out)) <|
   kmu 0 <|
   hn) ?_
  intro a12 w12 f12
  refine wp_cond_false (f12.vv 3) ?_
  refine wp_seq ?_
  cases fk4:x.op == 1
  case true=>
   have Ffk4:=Lib.hid fk4;clear fk4
   have hO1:x.op=1:=by simpa using Ffk4.out
   have b_g2_25:=f12.k b_g2_23
   have s4_26:=f12.q 4 s4_24
   refine go_reg [bx g2 30 (xC x)] [] [some (pt g2 0),some (.int .i8 1),oT,oT] mo f12.d f12.z f12.b (by kernel_rfl) ⟨b_g2_25,trivial⟩ (
    kq (fun cx=>ex_fa rfl (cx.rq 4 s4_26) (faExV30_0_0 _ _)) <|
    hk (fun cx=>cx.v (ex_ld rfl (cx.u 0 rfl) (cx.rn 0 rfl) rfl Tryz.isAgg28) rfl (congrArg (Value.int .i8) hO1)) <|
    hk (fun cx=>cx.v (ex_eq (x:=.tmp 109) rfl cx.u0 rfl) rfl (congrArg Value.bool (by decide))) <|
    kmu 0 <|
    hn) ?_
   intro a13 w13 f13
   refine wp_cond_true (f13.vv 3) ?_
   have b_g2_27:=f13.k b_g2_25
   have b_g1_28:=f13.k (f12.k (f8.k (f7.k (f6.k f5.rows.1))))
   have s4_29:=f13.q 4 s4_26
   have s8_30:=f13.q 8 (f12.q 8 (f8.q 8 (f7.q 8 (f6.vv 2))))
   have s3_31:=f13.q 3 (f12.q 3 (f8.q 3 (f7.q 3 (f6.q 3 (f5.q 3 s3_6)))))
   refine go_reg [bx g2 30 (xC x),⟨g1,27,(mcC (mA m x)),some 9,(mcC ((mA m x).setR x.dst.toNat (cutI (IntKind.u64.wrap x.imm) x.w)))⟩] [] [some (pt g2 2),some (.int .i8 x.dst),some (pt g2 6),some (.int .i64 x.imm),some (.int .u64 (IntKind.u64.wrap x.imm)),some (.int .i8 x.w),some (.int .u64 (cutI (IntKind.u64.wrap x.imm) x.w)),some (pt g1 0),some (pt g1 (x.dst.toNat)),none] mo f13.d f13.z f13.b (by kernel_rfl) ⟨b_g2_27,b_g1_28,trivial⟩ (
    kq (fun cx=>ex_fa rfl (cx.rq 4 s4_29) (faExV30_2_0 _ _)) <|
    kq (fun cx=>ex_ld rfl (cx.u 0 rfl) (cx.rn 0 rfl) rfl Tryz.isAgg28) <|
    kq (fun cx=>ex_fa rfl (cx.rq 4 s4_29) (faExV30_6_0 _ _)) <|
    kq (fun cx=>ex_ld rfl (cx.u 0 rfl) (cx.rn 0 rfl) rfl Tryz.isAgg3) <|
    kq (fun cx=>ex_conv (x:=.tmp 114) rfl cx.u0 Tryz.underlying3 Tryz.underlying22) <|
    kq (fun cx=>ex_mv rfl (cx.rq 8 s8_30)) <|
    hc (fun _ _ wx cx=>cx.c rfl (args2 cx.u0 cx.u1) Tryz.func28 (by decide +kernel) (((refcut_any (IntKind.u64.wrap x.imm) x.w wx).mono (by rintro e w' ⟨rfl,rfl⟩;exact ⟨rfl,Below.refl _ _⟩))) rfl rfl) <|
    kq (fun cx=>ex_fa rfl (cx.rq 3 s3_31) (faExV27_0_0 _ _)) <|
    hk (fun cx=>cx.v (ex_ia (n:=16) (sz:=1) rfl (cx.u 0 rfl) (cx.u 1 rfl) Tryz.underlying23 (by kernel_rfl) (by omega) (by omega) (by omega)) rfl rfl) <|
    hk (fun cx=>cx.stC (wn rfl) rfl rfl 1 rfl (cx.u 0 rfl) (cx.u 1 rfl) rfl rfl (by kernel_rfl) (by rw [mcC_size];simp only [Nat.blt_eq];omega) (mcC_set _ (by omega) _) q_g1 rfl ⟨(ne_ptr (pairAt f1.ps 0 1 (by decide) rfl rfl) u_g1 u_g2).symm,trivial⟩ trivial) <|
    hn) ?_
   intro a14 w14 f14
   refine wp_seq ?_
   have b_g3_32:=f14.kp (f13.k (f12.k (f8.k (f7.k (f6.k (f5.kp (f4.k b_g3) ⟨.inr (ne_ptr (pairAt f1.ps 0 2 (by decide) rfl rfl) u_g1 u_g3).symm,.inl rfl,trivial⟩)))))) ⟨.inl rfl,.inr (ne_ptr (pairAt f1.ps 0 2 (by decide) rfl rfl) u_g1 u_g3).symm,trivial⟩
   have s3_33:=f14.q 3 s3_31
   have s6_34:=f14.q 6 (f13.q 6 (f12.q 6 (f8.q 6 (f7.q 6 (f6.q 6 (f5.q 6 (f4.q 6 u_g3)))))))
   refine go_reg [bx g1 27 (mcC ((mA m x).setR x.dst.toNat (cutI (IntKind.u64.wrap x.imm) x.w))),⟨g3,27,(mcC zM),some 1,(mcC ((mA m x).setR x.dst.toNat (cutI (IntKind.u64.wrap x.imm) x.w)))⟩] [] [some (.agg (mcC ((mA m x).setR x.dst.toNat (cutI (IntKind.u64.wrap x.imm) x.w)))),none,some (.int .i64 0)] mo f14.d f14.z f14.b (by kernel_rfl) ⟨f14.rows.2.1,b_g3_32,trivial⟩ (
    kq (fun cx=>ldMc rfl (cx.rq 3 s3_33) (cx.rn 0 rfl)) <|
    hk (fun cx=>cx.stR (wn rfl) rfl rfl 1 rfl (cx.rq 6 s6_34) (cx.u 0 rfl) (by kernel_rfl) (Eq.refl 22) (mcC_one _) q_g3 rfl ⟨(ne_ptr (pairAt f1.ps 0 2 (by decide) rfl rfl) u_g1 u_g3),trivial⟩ trivial) <|
    kq (fun cx=>ex_as rfl rfl) <|
    hn) ?_
   intro a15 w15 f15
   refine wp_ret ?_
   have s6_35:=f15.q 6 s6_34
   try simp only [Exit.inBlock,Exit.then]
   refine bodyPost_ret (res_ct (fn:=Tryz.f5) rfl s6_35 (load_row 27 f15.rows.2.1 Tryz.underlying27 rfl (by kernel_rfl)) (f15.vv 2)) f15.d ?_
   exact ⟨retV (doQ_some hm (eff_1 (mA m x) l hO1)),f15.b⟩
  have Ffk4:=Lib.hid fk4;clear fk4
  have b_g2_36:=f12.k b_g2_23
  have s4_37:=f12.q 4 s4_24
  refine go_reg [bx g2 30 (xC x)] [] [some (pt g2 0),some (.int .i8 x.op),oF,oF] mo f12.d f12.z f12.b (by kernel_rfl) ⟨b_g2_36,trivial⟩ (
   kq (fun cx=>ex_fa rfl (cx.rq 4 s4_37) (faExV30_0_0 _ _)) <|
   kq (fun cx=>ex_ld rfl (cx.u 0 rfl) (cx.rn 0 rfl) rfl Tryz.isAgg28) <|
   hk (fun cx=>cx.v (ex_eq (x:=.tmp 109) rfl cx.u0 rfl) rfl (congrArg Value.bool Ffk4.out)) <|
   kmu 0 <|
   hn) ?_
  intro a16 w16 f16
  refine wp_cond_false (f16.vv 3) ?_
  refine wp_seq ?_
  cases fk5:x.op == 23
  case true=>
   have Ffk5:=Lib.hid fk5;clear fk5
   have hO23:x.op=23:=by simpa using Ffk5.out
   have b_g2_38:=f16.k b_g2_36
   have s4_39:=f16.q 4 s4_37
   refine go_reg [bx g2 30 (xC x)] [] [some (pt g2 0),some (.int .i8 23),oT,oT] mo f16.d f16.z f16.b (by kernel_rfl) ⟨b_g2_38,trivial⟩ (
    kq (fun cx=>ex_fa rfl (cx.rq 4 s4_39) (faExV30_0_0 _ _)) <|
    hk (fun cx=>cx.v (ex_ld rfl (cx.u 0 rfl) (cx.rn 0 rfl) rfl Tryz.isAgg28) rfl (congrArg (Value.int .i8) hO23)) <|
    hk (fun cx=>cx.v (ex_eq (x:=.tmp 122) rfl cx.u0 rfl) rfl (congrArg Value.bool (by decide))) <|
    kmu 0 <|
    hn) ?_
   intro a17 w17 f17
   refine wp_cond_true (f17.vv 3) ?_
   refine wp_seq ?_
   have b_g2_40:=f17.k b_g2_38
   have b_g1_41:=f17.k (f16.k (f12.k (f8.k (f7.k (f6.k f5.rows.1)))))
   have s4_42:=f17.q 4 s4_39
   have s3_43:=f17.q 3 (f16.q 3 (f12.q 3 (f8.q 3 (f7.q 3 (f6.q 3 (f5.q 3 s3_6))))))
   refine go_reg [bx g2 30 (xC x),bx g1 27 (mcC (mA m x))] [] [some (pt g2 2),some (.int .i8 x.dst),some (pt g1 0),some (pt g1 (x.dst.toNat)),some (.int .u64 (m.r x.dst.toNat)),some (.int .u64 (m.r x.dst.toNat))] mo f17.d f17.z f17.b (by kernel_rfl) ⟨b_g2_40,b_g1_41,trivial⟩ (
    kq (fun cx=>ex_fa rfl (cx.rq 4 s4_42) (faExV30_2_0 _ _)) <|
    kq (fun cx=>ex_ld rfl (cx.u 0 rfl) (cx.rn 0 rfl) rfl Tryz.isAgg28) <|
    kq (fun cx=>ex_fa rfl (cx.rq 3 s3_43) (faExV27_0_0 _ _)) <|
    hk (fun cx=>cx.v (ex_ia (n:=16) (sz:=1) rfl (cx.u 0 rfl) (cx.u 1 rfl) Tryz.underlying23 (by kernel_rfl) (by omega) (by omega) (by omega)) rfl rfl) <|
    hk (fun cx=>cx.v (ldMcR (by omega) rfl (cx.u 0 rfl) (cx.rn 1 rfl)) rfl rfl) <|
    kmu 0 <|
    hn) ?_
   intro a18 w18 f18
   refine wp_seq ?_
   have s8_44:=f18.q 8 (f17.q 8 (f16.q 8 (f12.q 8 (f8.q 8 (f7.q 8 (f6.vv 2))))))
   refine go_reg [] [] [some (.int .i8 x.w),some (.int .u64 (m.r x.dst.toNat)),some (.tuple #[.int .u64 (doI 8 x.w (m.r x.dst.toNat) 0),.int .i64 (doE 8 x.w)]),some (.tuple #[.int .u64 (doI 8 x.w (m.r x.dst.toNat) 0),.int .i64 (doE 8 x.w)]),some (.int .u64 (doI 8 x.w (m.r x.dst.toNat) 0)),some (.int .i64 (doE 8 x.w)),some (.int .u64 (doI 8 x.w (m.r x.dst.toNat) 0)),some (.int .i64 (doE 8 x.w))] mo f18.d f18.z f18.b (by kernel_rfl) trivial (
    kq (fun cx=>ex_mv rfl (cx.rq 8 s8_44)) <|
    kq (fun cx=>ex_mv rfl (cx.rq 15 (f18.vv 5))) <|
    hc (fun _ _ wx cx=>cx.c rfl (args4 rfl cx.u0 cx.u1 rfl) Tryz.func26 (by decide +kernel) (((refdo_any 8 x.w (m.r x.dst.toNat) 0 wx (hM.r _).1 (hM.r _).2 (⟨by omega,by omega⟩:U64 0).1 (⟨by omega,by omega⟩:U64 0).2).mono (by rintro e w' ⟨rfl,rfl⟩;exact ⟨rfl,Below.refl _ _⟩))) rfl rfl) <|
    kmu 0 <|
    kq (fun cx=>ex_ext (x:=.tmp 129) rfl cx.u0 rfl) <|
    kq (fun cx=>ex_ext (x:=.tmp 129) rfl cx.u0 rfl) <|
    kmu 0 <|
    kmu 0 <|
    hn) ?_
   intro a19 w19 f19
   refine wp_seq ?_
   have s8_45:=f19.q 8 s8_44
   have s15_46:=f19.q 15 (f18.vv 5)
   refine go_reg [] [⟨6,18,25,(fC zF),some 7,(fC (subF x.w 0 (m.r x.dst.toNat)))⟩] [some (.int .i8 x.w),some (.int .u64 (m.r x.dst.toNat)),some (.tuple #[.agg (fC (subF x.w 0 (m.r x.dst.toNat))),.int .i64 (Flg.errW x.w)]),some (.tuple #[.agg (fC (subF x.w 0 (m.r x.dst.toNat))),.int .i64 (Flg.errW x.w)]),some (.agg (fC (subF x.w 0 (m.r x.dst.toNat)))),some (.int .i64 (Flg.errW x.w)),none,none,some (.int .i64 (Flg.errW x.w))] mo f19.d f19.z f19.b (by kernel_rfl) trivial (
    kq (fun cx=>ex_mv rfl (cx.rq 8 s8_45)) <|
    kq (fun cx=>ex_mv rfl (cx.rq 15 s15_46)) <|
    hc (fun _ _ wx cx=>cx.c rfl (args3 cx.u0 rfl cx.u1) Tryz.func29 (by decide +kernel) (Flg.qsub_n x.w 0 (m.r x.dst.toNat) wx (⟨by omega,by omega⟩:U64 0) (hM.r _)) rfl rfl) <|
    kmu 0 <|
    kq (fun cx=>ex_ext (x:=.tmp 135) rfl cx.u0 rfl) <|
    kq (fun cx=>ex_ext (x:=.tmp 135) rfl cx.u0 rfl) <|
    hk (fun cx=>cx.al (wn rfl) 0 rfl (Flg.al_f rfl) rfl rfl rfl rfl (by kernel_rfl) trivial) <|
    hk (fun cx=>cx.stA (wn rfl) rfl rfl 0 0 rfl rfl rfl rfl (cx.u 1 rfl) (by kernel_rfl) (Eq.refl 5) (by simp [Value.oneCell']) f19.b.size rfl rfl trivial) <|
    kmu 0 <|
    hn) ?_
   intro a20 w20 f20
   obtain ⟨g4,u_g4,q_g4,b_g4⟩:=f20.al.1
   refine wp_seq ?_
   have b_g2_47:=f20.k (f19.k (f18.k b_g2_40))
   have b_g1_48:=f20.k (f19.k (f18.k b_g1_41))
   have s4_49:=f20.q 4 (f19.q 4 (f18.q 4 s4_42))
   have s16_50:=f20.q 16 (f19.vv 6)
   have s3_51:=f20.q 3 (f19.q 3 (f18.q 3 s3_43))
   refine go_reg [bx g2 30 (xC x),⟨g1,27,(mcC (mA m x)),some 5,(mcC ((mA m x).setR x.dst.toNat (doI 8 x.w (m.r x.dst.toNat) 0)))⟩] [] [some (pt g2 2),some (.int .i8 x.dst),some (.int .u64 (doI 8 x.w (m.r x.dst.toNat) 0)),some (pt g1 0),some (pt g1 (x.dst.toNat)),none] mo f20.d f20.z f20.b (by kernel_rfl) ⟨b_g2_47,b_g1_48,trivial⟩ (
    kq (fun cx=>ex_fa rfl (cx.rq 4 s4_49) (faExV30_2_0 _ _)) <|
    kq (fun cx=>ex_ld rfl (cx.u 0 rfl) (cx.rn 0 rfl) rfl Tryz.isAgg28) <|
    kq (fun cx=>ex_mv rfl (cx.rq 16 s16_50)) <|
    kq (fun cx=>ex_fa rfl (cx.rq 3 s3_51) (faExV27_0_0 _ _)) <|
    hk (fun cx=>cx.v (ex_ia (n:=16) (sz:=1) rfl (cx.u 0 rfl) (cx.u 1 rfl) Tryz.underlying23 (by kernel_rfl) (by omega) (by omega) (by omega)) rfl rfl) <|
    hk (fun cx=>cx.stC (wn rfl) rfl rfl 1 rfl (cx.u 0 rfl) (cx.u 1 rfl) rfl rfl (by kernel_rfl) (by rw [mcC_size];simp only [Nat.blt_eq];omega) (mcC_set _ (by omega) _) q_g1 rfl ⟨(ne_ptr (pairAt f1.ps 0 1 (by decide) rfl rfl) u_g1 u_g2).symm,trivial⟩ trivial) <|
    hn) ?_
   intro a21 w21 f21
   have b_g4_52:=f21.kp b_g4 ⟨.inl rfl,.inr (ne_row (f19.k (f18.k b_g1_41)) q_g4).symm,trivial⟩
   have s18_53:=f21.q 18 u_g4
   have s3_54:=f21.q 3 s3_51
   refine go_reg [bx g4 25 (fC (subF x.w 0 (m.r x.dst.toNat))),⟨g1,27,(mcC ((mA m x).setR x.dst.toNat (doI 8 x.w (m.r x.dst.toNat) 0))),some 2,(mcC (((mA m x).setR x.dst.toNat (doI 8 x.w (m.r x.dst.toNat) 0)).upF (subF x.w 0 (m.r x.dst.toNat))))⟩] [] [some (.agg (fC (subF x.w 0 (m.r x.dst.toNat)))),some (pt g1 16),none] mo f21.d f21.z f21.b (by kernel_rfl) ⟨b_g4_52,f21.rows.2.1,trivial⟩ (
    kq (fun cx=>Flg.ldF rfl (cx.rq 18 s18_53) (cx.rn 0 rfl)) <|
    kq (fun cx=>ex_fa rfl (cx.rq 3 s3_54) (faExV27_1_0 _ _)) <|
    hk (fun cx=>cx.stP (wn rfl) rfl rfl 1 rfl (cx.u 0 rfl) (cx.u 1 rfl) (Flg.fC_one _) (by kernel_rfl) (Nat.le_of_ble_eq_true rfl) rfl q_g1 rfl ⟨(ne_row (f19.k (f18.k b_g1_41)) q_g4).symm,trivial⟩ trivial) <|
    hn) ?_
   intro a22 w22 f22
   refine wp_seq ?_
   have b_g3_55:=f22.kp (f21.kp (f20.k (f19.k (f18.k (f17.k (f16.k (f12.k (f8.k (f7.k (f6.k (f5.kp (f4.k b_g3) ⟨.inr (ne_ptr (pairAt f1.ps 0 2 (by decide) rfl rfl) u_g1 u_g3).symm,.inl rfl,trivial⟩)))))))))) ⟨.inl rfl,.inr (ne_ptr (pairAt f1.ps 0 2 (by decide) rfl rfl) u_g1 u_g3).symm,trivial⟩) ⟨.inl rfl,.inr (ne_ptr (pairAt f1.ps 0 2 (by decide) rfl rfl) u_g1 u_g3).symm,trivial⟩
   have s3_56:=f22.q 3 s3_54
   have s6_57:=f22.q 6 (f21.q 6 (f20.q 6 (f19.q 6 (f18.q 6 (f17.q 6 (f16.q 6 (f12.q 6 (f8.q 6 (f7.q 6 (f6.q 6 (f5.q 6 (f4.q 6 u_g3))))))))))))
   refine go_reg [bx g1 27 (mcC (((mA m x).setR x.dst.toNat (doI 8 x.w (m.r x.dst.toNat) 0)).upF (subF x.w 0 (m.r x.dst.toNat)))),⟨g3,27,(mcC zM),some 1,(mcC (((mA m x).setR x.dst.toNat (doI 8 x.w (m.r x.dst.toNat) 0)).upF (subF x.w 0 (m.r x.dst.toNat))))⟩] [] [some (.agg (mcC (((mA m x).setR x.dst.toNat (doI 8 x.w (m.r x.dst.toNat) 0)).upF (subF x.w 0 (m.r x.dst.toNat))))),none,some (.int .i64 0)] mo f22.d f22.z f22.b (by kernel_rfl) ⟨f22.rows.2.1,b_g3_55,trivial⟩ (
    kq (fun cx=>ldMc rfl (cx.rq 3 s3_56) (cx.rn 0 rfl)) <|
    hk (fun cx=>cx.stR (wn rfl) rfl rfl 1 rfl (cx.rq 6 s6_57) (cx.u 0 rfl) (by kernel_rfl) (Eq.refl 22) (mcC_one _) q_g3 rfl ⟨(ne_ptr (pairAt f1.ps 0 2 (by decide) rfl rfl) u_g1 u_g3),trivial⟩ trivial) <|
    kq (fun cx=>ex_as rfl rfl) <|
    hn) ?_
   intro a23 w23 f23
   refine wp_ret ?_
   have s6_58:=f23.q 6 s6_57
   try simp only [Exit.inBlock,Exit.then]
   refine bodyPost_ret (res_ct (fn:=Tryz.f5) rfl s6_58 (load_row 27 f23.rows.2.1 Tryz.underlying27 rfl (by kernel_rfl)) (f23.vv 2)) f23.d ?_
   exact ⟨retV (doQ_some hm (eff_23 (mA m x) l hO23)),f23.b⟩
  have Ffk5:=Lib.hid fk5;clear fk5
  have b_g2_59:=f16.k b_g2_36
  have s4_60:=f16.q 4 s4_37
  refine go_reg [bx g2 30 (xC x)] [] [some (pt g2 0),some (.int .i8 x.op),oF,oF] mo f16.d f16.z f16.b (by kernel_rfl) ⟨b_g2_59,trivial⟩ (
   kq (fun cx=>ex_fa rfl (cx.rq 4 s4_60) (faExV30_0_0 _ _)) <|
   kq (fun cx=>ex_ld rfl (cx.u 0 rfl) (cx.rn 0 rfl) rfl Tryz.isAgg28) <|
   hk (fun cx=>cx.v (ex_eq (x:=.tmp 122) rfl cx.u0 rfl) rfl (congrArg Value.bool Ffk5.out)) <|
   kmu 0 <|
   hn) ?_
  intro a24 w24 f24
  refine wp_cond_false (f24.vv 3) ?_
  refine wp_seq ?_
  cases fk6:x.op == 24
  case true=>
   have Ffk6:=Lib.hid fk6;clear fk6
   have hO24:x.op=24:=by simpa using Ffk6.out
   have b_g2_61:=f24.k b_g2_59
   have s4_62:=f24.q 4 s4_60
   refine go_reg [bx g2 30 (xC x)] [] [some (pt g2 0),some (.int .i8 24),oT,oT] mo f24.d f24.z f24.b (by kernel_rfl) ⟨b_g2_61,trivial⟩ (
    kq (fun cx=>ex_fa rfl (cx.rq 4 s4_62) (faExV30_0_0 _ _)) <|
    hk (fun cx=>cx.v (ex_ld rfl (cx.u 0 rfl) (cx.rn 0 rfl) rfl Tryz.isAgg28) rfl (congrArg (Value.int .i8) hO24)) <|
    hk (fun cx=>cx.v (ex_eq (x:=.tmp 150) rfl cx.u0 rfl) rfl (congrArg Value.bool (by decide))) <|
    kmu 0 <|
    hn) ?_
   intro a25 w25 f25
   refine wp_cond_true (f25.vv 3) ?_
   refine wp_seq ?_
   have b_g2_63:=f25.k b_g2_61
   have b_g1_64:=f25.k (f24.k (f16.k (f12.k (f8.k (f7.k (f6.k f5.rows.1))))))
   have s4_65:=f25.q 4 s4_62
   have s3_66:=f25.q 3 (f24.q 3 (f16.q 3 (f12.q 3 (f8.q 3 (f7.q 3 (f6.q 3 (f5.q 3 s3_6)))))))
   have s8_67:=f25.q 8 (f24.q 8 (f16.q 8 (f12.q 8 (f8.q 8 (f7.q 8 (f6.vv 2))))))
   refine go_reg [bx g2 30 (xC x),bx g1 27 (mcC (mA m x))] [] [some (pt g2 2),some (.int .i8 x.dst),some (pt g1 0),some (pt g1 (x.dst.toNat)),some (.int .u64 (m.r x.dst.toNat)),some (.int .i8 x.w),some (.int .u64 (cutI (m.r x.dst.toNat) x.w)),some (.int .u64 (cutI (m.r x.dst.toNat) x.w))] mo f25.d f25.z f25.b (by kernel_rfl) ⟨b_g2_63,b_g1_64,trivial⟩ (
    kq (fun cx=>ex_fa rfl (cx.rq 4 s4_65) (faExV30_2_0 _ _)) <|
    kq (fun cx=>ex_ld rfl (cx.u 0 rfl) (cx.rn 0 rfl) rfl Tryz.isAgg28) <|
    kq (fun cx=>ex_fa rfl (cx.rq 3 s3_66) (faExV27_0_0 _ _)) <|
    hk (fun cx=>cx.v (ex_ia (n:=16) (sz:=1) rfl (cx.u 0 rfl) (cx.u 1 rfl) Tryz.underlying23 (by kernel_rfl) (by omega) (by omega) (by omega)) rfl rfl) <|
    hk (fun cx=>cx.v (ldMcR (by omega) rfl (cx.u 0 rfl) (cx.rn 1 rfl)) rfl rfl) <|
    kq (fun cx=>ex_mv rfl (cx.rq 8 s8_67)) <|
    hc (fun _ _ wx cx=>cx.c rfl (args2 cx.u0 cx.u1) Tryz.func28 (by decide +kernel) (((refcut_any (m.r x.dst.toNat) x.w wx).mono (by rintro e w' ⟨rfl,rfl⟩;exact ⟨rfl,Below.refl _ _⟩))) rfl rfl) <|
    kmu 0 <|
    hn) ?_
   intro a26 w26 f26
   refine wp_seq ?_
   refine wp_seq ?_
   cases fk7:(cutI (m.r 2) x.w) != 0
   case true=>
    have Ffk7:=Lib.hid fk7;clear fk7
    have b_g1_68:=f26.k b_g1_64
    have s3_69:=f26.q 3 s3_66
    have s8_70:=f26.q 8 s8_67
    refine go_reg [bx g1 27 (mcC (mA m x))] [] [some (pt g1 0),some (pt g1 (2)),some (.int .u64 (m.r 2)),some (.int .i8 x.w),some (.int .u64 (cutI (m.r 2) x.w)),oT,oT,oU,oU,oT] mo f26.d f26.z f26.b (by kernel_rfl) ⟨b_g1_68,trivial⟩ (
     kq (fun cx=>ex_fa rfl (cx.rq 3 s3_69) (faExV27_0_0 _ _)) <|
     hk (fun cx=>cx.v (ex_ia (n:=16) (sz:=1) rfl (cx.u 0 rfl) rfl Tryz.underlying23 (by kernel_rfl) (by omega) (by omega) (by omega)) rfl rfl) <|
     hk (fun cx=>cx.v (ldMcR (by omega) rfl (cx.u 0 rfl) (cx.rn 0 rfl)) rfl rfl) <|
     kq (fun cx=>ex_mv rfl (cx.rq 8 s8_70)) <|
     hc (fun _ _ wx cx=>cx.c rfl (args2 cx.u0 cx.u1) Tryz.func28 (by decide +kernel) (((refcut_any (m.r 2) x.w wx).mono (by rintro e w' ⟨rfl,rfl⟩;exact ⟨rfl,Below.refl _ _⟩))) rfl rfl) <|
     hk (fun cx=>cx.v (ex_ne (x:=.tmp 163) rfl cx.u0 rfl) rfl (congrArg Value.bool Ffk7.out)) <|
     kmu 0 <|
     kno 0 <|
     kno 1 <|
     kq (fun cx=>ex_pt rfl cx.u0 rfl) <|
     hn) ?_
    intro a27 w27 f27
    refine wp_cond_true (f27.vv 9) ?_
    refine wp_seq ?_
    have b_g3_71:=f27.k (f26.k (f25.k (f24.k (f16.k (f12.k (f8.k (f7.k (f6.k (f5.kp (f4.k b_g3) ⟨.inr (ne_ptr (pairAt f1.ps 0 2 (by decide) rfl rfl) u_g1 u_g3).symm,.inl rfl,trivial⟩)))))))))
    have s6_72:=f27.q 6 (f26.q 6 (f25.q 6 (f24.q 6 (f16.q 6 (f12.q 6 (f8.q 6 (f7.q 6 (f6.q 6 (f5.q 6 (f4.q 6 u_g3))))))))))
    refine go_reg [⟨g3,27,(mcC zM),some 1,(mcC zM)⟩] [] [some (.agg (mcC zM)),none,some (.int .i64 20)] mo f27.d f27.z f27.b (by kernel_rfl) ⟨b_g3_71,trivial⟩ (
     kq (fun cx=>ex_zmc rfl) <|
     hk (fun cx=>cx.stR (wn rfl) rfl rfl 0 rfl (cx.rq 6 s6_72) (cx.u 0 rfl) (by kernel_rfl) (Eq.refl 22) (mcC_one _) q_g3 rfl trivial trivial) <|
     kq (fun cx=>ex_as rfl rfl) <|
     hn) ?_
    intro a28 w28 f28
    refine wp_ret ?_
    have s6_73:=f28.q 6 s6_72
    try simp only [Exit.inBlock,Exit.then]
    refine bodyPost_ret (res_ct (fn:=Tryz.f5) rfl s6_73 (load_row 27 f28.rows.1 Tryz.underlying27 rfl (by kernel_rfl)) (f28.vv 2)) f28.d ?_
    exact ⟨retV (doQ_none hm ((eff_24 (mA m x) l hO24).trans (by rw [divB_is];show (bif (!((cutI (m.r 2) x.w) != 0) && _) then _ else _)=_;rw [Ffk7.out];rfl))),f28.b⟩
   have Ffk7:=Lib.hid fk7;clear fk7
   cases fk8:(cutI (m.r x.dst.toNat) x.w) == 0
   case true=>
    have Ffk8:=Lib.hid fk8;clear fk8
    have b_g1_74:=f26.k b_g1_64
    have s3_75:=f26.q 3 s3_66
    have s8_76:=f26.q 8 s8_67
    refine go_reg [bx g1 27 (mcC (mA m x))] [] [some (pt g1 0),some (pt g1 (2)),some (.int .u64 (m.r 2)),some (.int .i8 x.w),some (.int .u64 (cutI (m.r 2) x.w)),oF,oF,some (.int .u64 (cutI (m.r x.dst.toNat) x.w)),oT,oT] mo f26.d f26.z f26.b (by kernel_rfl) ⟨b_g1_74,trivial⟩ (
     kq (fun cx=>ex_fa rfl (cx.rq 3 s3_75) (faExV27_0_0 _ _)) <|
     hk (fun cx=>cx.v (ex_ia (n:=16) (sz:=1) rfl (cx.u 0 rfl) rfl Tryz.underlying23 (by kernel_rfl) (by omega) (by omega) (by omega)) rfl rfl) <|
     hk (fun cx=>cx.v (ldMcR (by omega) rfl (cx.u 0 rfl) (cx.rn 0 rfl)) rfl rfl) <|
     kq (fun cx=>ex_mv rfl (cx.rq 8 s8_76)) <|
     hc (fun _ _ wx cx=>cx.c rfl (args2 cx.u0 cx.u1) Tryz.func28 (by decide +kernel) (((refcut_any (m.r 2) x.w wx).mono (by rintro e w' ⟨rfl,rfl⟩;exact ⟨rfl,Below.refl _ _⟩))) rfl rfl) <|
     hk (fun cx=>cx.v (ex_ne (x:=.tmp 163) rfl cx.u0 rfl) rfl (congrArg Value.bool Ffk7.out)) <|
     kmu 0 <|
     hk (fun cx=>cx.vy 0 (ex_mv rfl (cx.rq 20 (f26.vv 7)))) <|
     hk (fun cx=>cx.vy 1 (ex_eq (x:=.tmp 166) rfl cx.u0 rfl) (congrArg Value.bool Ffk8.out)) <|
     kq (fun cx=>ex_pf rfl cx.u0 cx.u1) <|
     hn) ?_
    intro a29 w29 f29
    refine wp_cond_true (f29.vv 9) ?_
    refine wp_seq ?_
    have b_g3_77:=f29.k (f26.k (f25.k (f24.k (f16.k (f12.k (f8.k (f7.k (f6.k (f5.kp (f4.k b_g3) ⟨.inr (ne_ptr (pairAt f1.ps 0 2 (by decide) rfl rfl) u_g1 u_g3).symm,.inl rfl,trivial⟩)))))))))
    have s6_78:=f29.q 6 (f26.q 6 (f25.q 6 (f24.q 6 (f16.q 6 (f12.q 6 (f8.q 6 (f7.q 6 (f6.q 6 (f5.q 6 (f4.q 6 u_g3))))))))))
    refine go_reg [⟨g3,27,(mcC zM),some 1,(mcC zM)⟩] [] [some (.agg (mcC zM)),none,some (.int .i64 20)] mo f29.d f29.z f29.b (by kernel_rfl) ⟨b_g3_77,trivial⟩ (
     kq (fun cx=>ex_zmc rfl) <|
     hk (fun cx=>cx.stR (wn rfl) rfl rfl 0 rfl (cx.rq 6 s6_78) (cx.u 0 rfl) (by kernel_rfl) (Eq.refl 22) (mcC_one _) q_g3 rfl trivial trivial) <|
     kq (fun cx=>ex_as rfl rfl) <|
     hn) ?_
    intro a30 w30 f30
    refine wp_ret ?_
    have s6_79:=f30.q 6 s6_78
    try simp only [Exit.inBlock,Exit.then]
    refine bodyPost_ret (res_ct (fn:=Tryz.f5) rfl s6_79 (load_row 27 f30.rows.1 Tryz.underlying27 rfl (by kernel_rfl)) (f30.vv 2)) f30.d ?_
    exact ⟨retV (doQ_none hm ((eff_24 (mA m x) l hO24).trans (by rw [divB_is];show (bif (!((cutI (m.r 2) x.w) != 0) && !((cutI (m.r x.dst.toNat) x.w) == 0)) then _ else _)=_;rw [Ffk7.out,Ffk8.out];rfl))),f30.b⟩
   have Ffk8:=Lib.hid fk8;clear fk8
   have b_g1_80:=f26.k b_g1_64
   have s3_81:=f26.q 3 s3_66
   have s8_82:=f26.q 8 s8_67
   refine go_reg [bx g1 27 (mcC (mA m x))] [] [some (pt g1 0),some (pt g1 (2)),some (.int .u64 (m.r 2)),some (.int .i8 x.w),some (.int .u64 (cutI (m.r 2) x.w)),oF,oF,some (.int .u64 (cutI (m.r x.dst.toNat) x.w)),oF,oF] mo f26.d f26.z f26.b (by kernel_rfl) ⟨b_g1_80,trivial⟩ (
    kq (fun cx=>ex_fa rfl (cx.rq 3 s3_81) (faExV27_0_0 _ _)) <|
    hk (fun cx=>cx.v (ex_ia (n:=16) (sz:=1) rfl (cx.u 0 rfl) rfl Tryz.underlying23 (by kernel_rfl) (by omega) (by omega) (by omega)) rfl rfl) <|
    hk (fun cx=>cx.v (ldMcR (by omega) rfl (cx.u 0 rfl) (cx.rn 0 rfl)) rfl rfl) <|
    kq (fun cx=>ex_mv rfl (cx.rq 8 s8_82)) <|
    hc (fun _ _ wx cx=>cx.c rfl (args2 cx.u0 cx.u1) Tryz.func28 (by decide +kernel) (((refcut_any (m.r 2) x.w wx).mono (by rintro e w' ⟨rfl,rfl⟩;exact ⟨rfl,Below.refl _ _⟩))) rfl rfl) <|
    hk (fun cx=>cx.v (ex_ne (x:=.tmp 163) rfl cx.u0 rfl) rfl (congrArg Value.bool Ffk7.out)) <|
    kmu 0 <|
    hk (fun cx=>cx.vy 0 (ex_mv rfl (cx.rq 20 (f26.vv 7)))) <|
    hk (fun cx=>cx.vy 1 (ex_eq (x:=.tmp 166) rfl cx.u0 rfl) (congrArg Value.bool Ffk8.out)) <|
    kq (fun cx=>ex_pf rfl cx.u0 cx.u1) <|
    hn) ?_
   intro a31 w31 f31
   refine wp_cond_false (f31.vv 9) ?_
   refine wp_skip ?_
   refine wp_seq ?_
   have b_g1_83:=f31.k b_g1_80
   have s3_84:=f31.q 3 s3_81
   have s8_85:=f31.q 8 s8_82
   refine go_reg [bx g1 27 (mcC (mA m x))] [] [some (pt g1 0),some (pt g1 (0)),some (.int .u64 (m.r 0)),some (.int .i8 x.w),some (.int .u64 (cutI (m.r 0) x.w)),some (.int .u64 (cutI (m.r 0) x.w))] mo f31.d f31.z f31.b (by kernel_rfl) ⟨b_g1_83,trivial⟩ (
    kq (fun cx=>ex_fa rfl (cx.rq 3 s3_84) (faExV27_0_0 _ _)) <|
    hk (fun cx=>cx.v (ex_ia (n:=16) (sz:=1) rfl (cx.u 0 rfl) rfl Tryz.underlying23 (by kernel_rfl) (by omega) (by omega) (by omega)) rfl rfl) <|
    hk (fun cx=>cx.v (ldMcR (by omega) rfl (cx.u 0 rfl) (cx.rn 0 rfl)) rfl rfl) <|
    kq (fun cx=>ex_mv rfl (cx.rq 8 s8_85)) <|
    hc (fun _ _ wx cx=>cx.c rfl (args2 cx.u0 cx.u1) Tryz.func28 (by decide +kernel) (((refcut_any (m.r 0) x.w wx).mono (by rintro e w' ⟨rfl,rfl⟩;exact ⟨rfl,Below.refl _ _⟩))) rfl rfl) <|
    kmu 0 <|
    hn) ?_
   intro a32 w32 f32
   refine wp_seq ?_
   have b_g1_86:=f32.k b_g1_83
   have s20_87:=f32.q 20 (f31.q 20 (f26.vv 7))
   have s3_88:=f32.q 3 s3_84
   refine go_reg [⟨g1,27,(mcC (mA m x)),some 5,(mcC ((mA m x).setR 0 ((cutI (m.r 0) x.w) / (cutI (m.r x.dst.toNat) x.w))))⟩] [] [some (.int .u64 (cutI (m.r 0) x.w)),some (.int .u64 (cutI (m.r x.dst.toNat) x.w)),some (.int .u64 ((cutI (m.r 0) x.w) / (cutI (m.r x.dst.toNat) x.w))),some (pt g1 0),some (pt g1 (0)),none] mo f32.d f32.z f32.b (by kernel_rfl) ⟨b_g1_86,trivial⟩ (
    kq (fun cx=>ex_mv rfl (cx.rq 21 (f32.vv 5))) <|
    kq (fun cx=>ex_mv rfl (cx.rq 20 s20_87)) <|
    kq (fun cx=>exec_quo (x:=.tmp 175) (y:=.tmp 176) rfl cx.u0 cx.u1 ((hM.r 0).cut x.w).1 (dpos (hM.r _) Ffk8.out) ((hM.r 0).cut x.w).2) <|
    kq (fun cx=>ex_fa rfl (cx.rq 3 s3_88) (faExV27_0_0 _ _)) <|
    hk (fun cx=>cx.v (ex_ia (n:=16) (sz:=1) rfl (cx.u 0 rfl) rfl Tryz.underlying23 (by kernel_rfl) (by omega) (by omega) (by omega)) rfl rfl) <|
    hk (fun cx=>cx.stC (wn rfl) rfl rfl 0 rfl (cx.u 0 rfl) (cx.u 1 rfl) rfl rfl (by kernel_rfl) (by rw [mcC_size];simp only [Nat.blt_eq];omega) (mcC_set _ (by omega) _) q_g1 rfl trivial trivial) <|
    hn) ?_
   intro a33 w33 f33
   refine wp_seq ?_
   have s21_89:=f33.q 21 (f32.vv 5)
   have s20_90:=f33.q 20 s20_87
   have s3_91:=f33.q 3 s3_88
   refine go_reg [⟨g1,27,(mcC ((mA m x).setR 0 ((cutI (m.r 0) x.w) / (cutI (m.r x.dst.toNat) x.w)))),some 5,(mcC (((mA m x).setR 0 ((cutI (m.r 0) x.w) / (cutI (m.r x.dst.toNat) x.w))).setR 2 ((cutI (m.r 0) x.w) % (cutI (m.r x.dst.toNat) x.w))))⟩] [] [some (.int .u64 (cutI (m.r 0) x.w)),some (.int .u64 (cutI (m.r x.dst.toNat) x.w)),some (.int .u64 ((cutI (m.r 0) x.w) % (cutI (m.r x.dst.toNat) x.w))),some (pt g1 0),some (pt g1 (2)),none] mo f33.d f33.z f33.b (by kernel_rfl) ⟨f33.rows.1,trivial⟩ (
    kq (fun cx=>ex_mv rfl (cx.rq 21 s21_89)) <|
    kq (fun cx=>ex_mv rfl (cx.rq 20 s20_90)) <|
    kq (fun cx=>exec_rem (x:=.tmp 180) (y:=.tmp 181) rfl cx.u0 cx.u1 ((hM.r 0).cut x.w).1 (dpos (hM.r _) Ffk8.out)) <|
    kq (fun cx=>ex_fa rfl (cx.rq 3 s3_91) (faExV27_0_0 _ _)) <|
    hk (fun cx=>cx.v (ex_ia (n:=16) (sz:=1) rfl (cx.u 0 rfl) rfl Tryz.underlying23 (by kernel_rfl) (by omega) (by omega) (by omega)) rfl rfl) <|
    hk (fun cx=>cx.stC (wn rfl) rfl rfl 0 rfl (cx.u 0 rfl) (cx.u 1 rfl) rfl rfl (by kernel_rfl) (by rw [mcC_size];simp only [Nat.blt_eq];omega) (mcC_set _ (by omega) _) q_g1 rfl trivial trivial) <|
    hn) ?_
   intro a34 w34 f34
   have s3_92:=f34.q 3 s3_91
   refine go_reg [⟨g1,27,(mcC (((mA m x).setR 0 ((cutI (m.r 0) x.w) / (cutI (m.r x.dst.toNat) x.w))).setR 2 ((cutI (m.r 0) x.w) % (cutI (m.r x.dst.toNat) x.w)))),some 2,(mcC ((((mA m x).setR 0 ((cutI (m.r 0) x.w) / (cutI (m.r x.dst.toNat) x.w))).setR 2 ((cutI (m.r 0) x.w) % (cutI (m.r x.dst.toNat) x.w))).upF zF))⟩] [] [some (.agg (fC zF)),some (pt g1 16),none] mo f34.d f34.z f34.b (by kernel_rfl) ⟨f34.rows.1,trivial⟩ (
    hc (fun _ _ wx cx=>cx.c rfl (args0 ) Tryz.func30 (by decide +kernel) (Flg.qnone_n wx) rfl rfl) <|
    kq (fun cx=>ex_fa rfl (cx.rq 3 s3_92) (faExV27_1_0 _ _)) <|
    hk (fun cx=>cx.stP (wn rfl) rfl rfl 0 rfl (cx.u 0 rfl) (cx.u 1 rfl) (Flg.fC_one _) (by kernel_rfl) (Nat.le_of_ble_eq_true rfl) rfl q_g1 rfl trivial trivial) <|
    hn) ?_
   intro a35 w35 f35
   refine wp_seq ?_
   have b_g3_93:=f35.kp (f34.kp (f33.kp (f32.k (f31.k (f26.k (f25.k (f24.k (f16.k (f12.k (f8.k (f7.k (f6.k (f5.kp (f4.k b_g3) ⟨.inr (ne_ptr (pairAt f1.ps 0 2 (by decide) rfl rfl) u_g1 u_g3).symm,.inl rfl,trivial⟩))))))))))) ⟨.inr (ne_ptr (pairAt f1.ps 0 2 (by decide) rfl rfl) u_g1 u_g3).symm,trivial⟩) ⟨.inr (ne_ptr (pairAt f1.ps 0 2 (by decide) rfl rfl) u_g1 u_g3).symm,trivial⟩) ⟨.inr (ne_ptr (pairAt f1.ps 0 2 (by decide) rfl rfl) u_g1 u_g3).symm,trivial⟩
   have s3_94:=f35.q 3 s3_92
   have s6_95:=f35.q 6 (f34.q 6 (f33.q 6 (f32.q 6 (f31.q 6 (f26.q 6 (f25.q 6 (f24.q 6 (f16.q 6 (f12.q 6 (f8.q 6 (f7.q 6 (f6.q 6 (f5.q 6 (f4.q 6 u_g3))))))))))))))
   refine go_reg [bx g1 27 (mcC ((((mA m x).setR 0 ((cutI (m.r 0) x.w) / (cutI (m.r x.dst.toNat) x.w))).setR 2 ((cutI (m.r 0) x.w) % (cutI (m.r x.dst.toNat) x.w))).upF zF)),⟨g3,27,(mcC zM),some 1,(mcC ((((mA m x).setR 0 ((cutI (m.r 0) x.w) / (cutI (m.r x.dst.toNat) x.w))).setR 2 ((cutI (m.r 0) x.w) % (cutI (m.r x.dst.toNat) x.w))).upF zF))⟩] [] [some (.agg (mcC ((((mA m x).setR 0 ((cutI (m.r 0) x.w) / (cutI (m.r x.dst.toNat) x.w))).setR 2 ((cutI (m.r 0) x.w) % (cutI (m.r x.dst.toNat) x.w))).upF zF))),none,some (.int .i64 0)] mo f35.d f35.z f35.b (by kernel_rfl) ⟨f35.rows.1,b_g3_93,trivial⟩ (
    kq (fun cx=>ldMc rfl (cx.rq 3 s3_94) (cx.rn 0 rfl)) <|
    hk (fun cx=>cx.stR (wn rfl) rfl rfl 1 rfl (cx.rq 6 s6_95) (cx.u 0 rfl) (by kernel_rfl) (Eq.refl 22) (mcC_one _) q_g3 rfl ⟨(ne_ptr (pairAt f1.ps 0 2 (by decide) rfl rfl) u_g1 u_g3),trivial⟩ trivial) <|
    kq (fun cx=>ex_as rfl rfl) <|
    hn) ?_
   intro a36 w36 f36
   refine wp_ret ?_
   have s6_96:=f36.q 6 s6_95
   try simp only [Exit.inBlock,Exit.then]
   refine bodyPost_ret (res_ct (fn:=Tryz.f5) rfl s6_96 (load_row 27 f36.rows.2.1 Tryz.underlying27 rfl (by kernel_rfl)) (f36.vv 2)) f36.d ?_
   exact ⟨retV (doQ_div Ffk7.out Ffk8.out hM hm hO24),f36.b⟩
  have Ffk6:=Lib.hid fk6;clear fk6
  have b_g2_97:=f24.k b_g2_59
  have s4_98:=f24.q 4 s4_60
  refine go_reg [bx g2 30 (xC x)] [] [some (pt g2 0),some (.int .i8 x.op),oF,oF] mo f24.d f24.z f24.b (by kernel_rfl) ⟨b_g2_97,trivial⟩ (
   kq (fun cx=>ex_fa rfl (cx.rq 4 s4_98) (faExV30_0_0 _ _)) <|
   kq (fun cx=>ex_ld rfl (cx.u 0 rfl) (cx.rn 0 rfl) rfl Tryz.isAgg28) <|
   hk (fun cx=>cx.v (ex_eq (x:=.tmp 150) rfl cx.u0 rfl) rfl (congrArg Value.bool Ffk6.out)) <|
   kmu 0 <|
   hn) ?_
  intro a37 w37 f37
  refine wp_cond_false (f37.vv 3) ?_
  refine wp_seq ?_
  refine wp_seq ?_
  cases fk9:x.op == 25
  case true=>
   have Ffk9:=Lib.hid fk9;clear fk9
   have hO25:x.op=25:=by simpa using Ffk9.out
   have b_g2_99:=f37.k b_g2_97
   have s4_100:=f37.q 4 s4_98
   refine go_reg [bx g2 30 (xC x)] [] [some (pt g2 0),some (.int .i8 25),oT,oT] mo f37.d f37.z f37.b (by kernel_rfl) ⟨b_g2_99,trivial⟩ (
    kq (fun cx=>ex_fa rfl (cx.rq 4 s4_100) (faExV30_0_0 _ _)) <|
    hk (fun cx=>cx.v (ex_ld rfl (cx.u 0 rfl) (cx.rn 0 rfl) rfl Tryz.isAgg28) rfl (congrArg (Value.int .i8) hO25)) <|
    hk (fun cx=>cx.v (ex_eq (x:=.tmp 189) rfl cx.u0 rfl) rfl (congrArg Value.bool (by decide))) <|
    kmu 0 <|
    hn) ?_
   intro a38 w38 f38
   refine wp_cond_true (f38.vv 3) ?_
   refine wp_skip ?_
   refine wp_cond_true (f38.vv 3) ?_
   refine wp_seq ?_
   cases fk10:holF x.cc m.f
   case true=>
    have Ffk10:=Lib.hid fk10;clear fk10
    have b_g2_101:=f38.k b_g2_99
    have b_g1_102:=f38.k (f37.k (f24.k (f16.k (f12.k (f8.k (f7.k (f6.k f5.rows.1)))))))
    have s4_103:=f38.q 4 s4_100
    have s3_104:=f38.q 3 (f37.q 3 (f24.q 3 (f16.q 3 (f12.q 3 (f8.q 3 (f7.q 3 (f6.q 3 (f5.q 3 s3_6))))))))
    refine go_reg [bx g2 30 (xC x),bx g1 27 (mcC (mA m x))] [] [some (pt g2 7),some (.int .i8 x.cc),some (pt g1 16),some (.agg (fC m.f)),some (.tuple #[.bool (holF x.cc m.f),.int .i64 (holE x.cc m.f)]),some (.tuple #[.bool (holF x.cc m.f),.int .i64 (holE x.cc m.f)]),oT,some (.int .i64 (holE x.cc m.f)),oT,some (.int .i64 (holE x.cc m.f))] mo f38.d f38.z f38.b (by kernel_rfl) ⟨b_g2_101,b_g1_102,trivial⟩ (
     kq (fun cx=>ex_fa rfl (cx.rq 4 s4_103) (faExV30_7_0 _ _)) <|
     kq (fun cx=>ex_ld rfl (cx.u 0 rfl) (cx.rn 0 rfl) rfl Tryz.isAgg28) <|
     kq (fun cx=>ex_fa rfl (cx.rq 3 s3_104) (faExV27_1_0 _ _)) <|
     kq (fun cx=>ldMcF rfl (cx.u 0 rfl) (cx.rn 1 rfl)) <|
     hc (fun _ _ wx cx=>cx.c rfl (args2 cx.u0 cx.u1) Tryz.func31 (by decide +kernel) (Flg.qholds_n x.cc m.f wx hcc) rfl rfl) <|
     kmu 0 <|
     hk (fun cx=>cx.v (ex_ext (x:=.tmp 194) rfl cx.u0 rfl) rfl (congrArg Value.bool Ffk10.out)) <|
     kq (fun cx=>ex_ext (x:=.tmp 194) rfl cx.u0 rfl) <|
     kmu 0 <|
     kmu 0 <|
     hn) ?_
    intro a39 w39 f39
    refine wp_seq ?_
    refine wp_seq ?_
    cases fk11:(holE x.cc m.f) != 0
    case true=>
     have Ffk11:=Lib.hid fk11;clear fk11
     refine go_reg [] [] [some (.int .i64 (holE x.cc m.f)),oT] mo f39.d f39.z f39.b (by kernel_rfl) trivial (
      kq (fun cx=>ex_mv rfl (cx.rq 23 (f39.vv 9))) <|
      hk (fun cx=>cx.v (ex_ne (x:=.tmp 202) rfl cx.u0 rfl) rfl (congrArg Value.bool Ffk11.out)) <|
      hn) ?_
     intro a40 w40 f40
     refine wp_cond_true (f40.vv 1) ?_
     refine wp_seq ?_
     have b_g3_105:=f40.k (f39.k (f38.k (f37.k (f24.k (f16.k (f12.k (f8.k (f7.k (f6.k (f5.kp (f4.k b_g3) ⟨.inr (ne_ptr (pairAt f1.ps 0 2 (by decide) rfl rfl) u_g1 u_g3).symm,.inl rfl,trivial⟩))))))))))
     have s6_106:=f40.q 6 (f39.q 6 (f38.q 6 (f37.q 6 (f24.q 6 (f16.q 6 (f12.q 6 (f8.q 6 (f7.q 6 (f6.q 6 (f5.q 6 (f4.q 6 u_g3)))))))))))
     refine go_reg [⟨g3,27,(mcC zM),some 1,(mcC zM)⟩] [] [some (.agg (mcC zM)),none,some (.int .i64 20)] mo f40.d f40.z f40.b (by kernel_rfl) ⟨b_g3_105,trivial⟩ (
      kq (fun cx=>ex_zmc rfl) <|
      hk (fun cx=>cx.stR (wn rfl) rfl rfl 0 rfl (cx.rq 6 s6_106) (cx.u 0 rfl) (by kernel_rfl) (Eq.refl 22) (mcC_one _) q_g3 rfl trivial trivial) <|
      kq (fun cx=>ex_as rfl rfl) <|
      hn) ?_
     intro a41 w41 f41
     refine wp_ret ?_
     have s6_107:=f41.q 6 s6_106
     try simp only [Exit.inBlock,Exit.then]
     refine bodyPost_ret (res_ct (fn:=Tryz.f5) rfl s6_107 (load_row 27 f41.rows.1 Tryz.underlying27 rfl (by kernel_rfl)) (f41.vv 2)) f41.d ?_
     exact ⟨retV (doQ_none hm ((eff_25 (mA m x) l hO25).trans (by show (bif m.f.k then _ else _)=_;rw [hole_bad (hcy (by omega)) Ffk11.out];rfl))),f41.b⟩
    have Ffk11:=Lib.hid fk11;clear fk11
    refine go_reg [] [] [some (.int .i64 (holE x.cc m.f)),oF] mo f39.d f39.z f39.b (by kernel_rfl) trivial (
     kq (fun cx=>ex_mv rfl (cx.rq 23 (f39.vv 9))) <|
     hk (fun cx=>cx.v (ex_ne (x:=.tmp 202) rfl cx.u0 rfl) rfl (congrArg Value.bool Ffk11.out)) <|
     hn) ?_
    intro a42 w42 f42
    refine wp_cond_false (f42.vv 1) ?_
    refine wp_skip ?_
    refine wp_seq ?_
    refine wp_seq ?_
    have b_g2_108:=f42.k (f39.k b_g2_101)
    have s4_109:=f42.q 4 (f39.q 4 s4_103)
    refine go_reg [bx g2 30 (xC x)] [] [some (pt g2 0),some (.int .i8 25),oF,oF,oU,oF] mo f42.d f42.z f42.b (by kernel_rfl) ⟨b_g2_108,trivial⟩ (
     kq (fun cx=>ex_fa rfl (cx.rq 4 s4_109) (faExV30_0_0 _ _)) <|
     hk (fun cx=>cx.v (ex_ld rfl (cx.u 0 rfl) (cx.rn 0 rfl) rfl Tryz.isAgg28) rfl (congrArg (Value.int .i8) hO25)) <|
     hk (fun cx=>cx.v (ex_eq (x:=.tmp 206) rfl cx.u0 rfl) rfl (congrArg Value.bool (by decide))) <|
     kmu 0 <|
     kno 0 <|
     kq (fun cx=>ex_pf rfl cx.u0 rfl) <|
     hn) ?_
    intro a43 w43 f43
    refine wp_cond_false (f43.vv 5) ?_
    refine wp_skip ?_
    refine wp_seq ?_
    have b_g2_110:=f43.k b_g2_108
    have s4_111:=f43.q 4 s4_109
    refine go_reg [bx g2 30 (xC x)] [] [some (pt g2 0),some (.int .i8 25),oT] mo f43.d f43.z f43.b (by kernel_rfl) ⟨b_g2_110,trivial⟩ (
     kq (fun cx=>ex_fa rfl (cx.rq 4 s4_111) (faExV30_0_0 _ _)) <|
     hk (fun cx=>cx.v (ex_ld rfl (cx.u 0 rfl) (cx.rn 0 rfl) rfl Tryz.isAgg28) rfl (congrArg (Value.int .i8) hO25)) <|
     hk (fun cx=>cx.v (ex_eq (x:=.tmp 219) rfl cx.u0 rfl) rfl (congrArg Value.bool (by decide))) <|
     hn) ?_
    intro a44 w44 f44
    refine wp_cond_true (f44.vv 2) ?_
    refine wp_seq ?_
    have b_g2_112:=f44.k b_g2_110
    have b_g1_113:=f44.k (f43.k (f42.k (f39.k b_g1_102)))
    have s4_114:=f44.q 4 s4_111
    have s3_115:=f44.q 3 (f43.q 3 (f42.q 3 (f39.q 3 s3_104)))
    refine go_reg [bx g2 30 (xC x),bx g1 27 (mcC (mA m x))] [] [some (pt g2 2),some (.int .i8 x.dst),some (pt g1 0),some (pt g1 (x.dst.toNat)),some (.int .u64 (m.r x.dst.toNat)),some (.int .u64 (m.r x.dst.toNat))] mo f44.d f44.z f44.b (by kernel_rfl) ⟨b_g2_112,b_g1_113,trivial⟩ (
     kq (fun cx=>ex_fa rfl (cx.rq 4 s4_114) (faExV30_2_0 _ _)) <|
     kq (fun cx=>ex_ld rfl (cx.u 0 rfl) (cx.rn 0 rfl) rfl Tryz.isAgg28) <|
     kq (fun cx=>ex_fa rfl (cx.rq 3 s3_115) (faExV27_0_0 _ _)) <|
     hk (fun cx=>cx.v (ex_ia (n:=16) (sz:=1) rfl (cx.u 0 rfl) (cx.u 1 rfl) Tryz.underlying23 (by kernel_rfl) (by omega) (by omega) (by omega)) rfl rfl) <|
     hk (fun cx=>cx.v (ldMcR (by omega) rfl (cx.u 0 rfl) (cx.rn 1 rfl)) rfl rfl) <|
     kmu 0 <|
     hn) ?_
    intro a45 w45 f45
    refine wp_seq ?_
    refine wp_seq ?_
    have s22_116:=f45.q 22 (f44.q 22 (f43.q 22 (f42.q 22 (f39.vv 8))))
    refine go_reg [] [] [oT] mo f45.d f45.z f45.b (by kernel_rfl) trivial (
     kq (fun cx=>ex_mv rfl (cx.rq 22 s22_116)) <|
     hn) ?_
    intro a46 w46 f46
    refine wp_cond_true (f46.vv 0) ?_
    have b_g2_117:=f46.k (f45.k b_g2_112)
    have b_g1_118:=f46.k (f45.k b_g1_113)
    have s4_119:=f46.q 4 (f45.q 4 s4_114)
    have s3_120:=f46.q 3 (f45.q 3 s3_115)
    refine go_reg [bx g2 30 (xC x),bx g1 27 (mcC (mA m x))] [] [some (pt g2 3),some (.int .i8 x.src),some (pt g1 0),some (pt g1 (x.src.toNat)),some (.int .u64 (m.r x.src.toNat)),some (.int .u64 (m.r x.src.toNat))] mo f46.d f46.z f46.b (by kernel_rfl) ⟨b_g2_117,b_g1_118,trivial⟩ (
     kq (fun cx=>ex_fa rfl (cx.rq 4 s4_119) (faExV30_3_0 _ _)) <|
     kq (fun cx=>ex_ld rfl (cx.u 0 rfl) (cx.rn 0 rfl) rfl Tryz.isAgg28) <|
     kq (fun cx=>ex_fa rfl (cx.rq 3 s3_120) (faExV27_0_0 _ _)) <|
     hk (fun cx=>cx.v (ex_ia (n:=16) (sz:=1) rfl (cx.u 0 rfl) (cx.u 1 rfl) Tryz.underlying23 (by kernel_rfl) (by omega) (by omega) (by omega)) rfl rfl) <|
     hk (fun cx=>cx.v (ldMcR (by omega) rfl (cx.u 0 rfl) (cx.rn 1 rfl)) rfl rfl) <|
     kmu 0 <|
     hn) ?_
    intro a47 w47 f47
    have b_g2_121:=f47.k b_g2_117
    have b_g1_122:=f47.k b_g1_118
    have s4_123:=f47.q 4 s4_119
    have s8_124:=f47.q 8 (f46.q 8 (f45.q 8 (f44.q 8 (f43.q 8 (f42.q 8 (f39.q 8 (f38.q 8 (f37.q 8 (f24.q 8 (f16.q 8 (f12.q 8 (f8.q 8 (f7.q 8 (f6.vv 2))))))))))))))
    have s3_125:=f47.q 3 s3_120
    refine go_reg [bx g2 30 (xC x),⟨g1,27,(mcC (mA m x)),some 7,(mcC ((mA m x).setR x.dst.toNat (cutI (m.r x.src.toNat) x.w)))⟩] [] [some (pt g2 2),some (.int .i8 x.dst),some (.int .u64 (m.r x.src.toNat)),some (.int .i8 x.w),some (.int .u64 (cutI (m.r x.src.toNat) x.w)),some (pt g1 0),some (pt g1 (x.dst.toNat)),none] mo f47.d f47.z f47.b (by kernel_rfl) ⟨b_g2_121,b_g1_122,trivial⟩ (
     kq (fun cx=>ex_fa rfl (cx.rq 4 s4_123) (faExV30_2_0 _ _)) <|
     kq (fun cx=>ex_ld rfl (cx.u 0 rfl) (cx.rn 0 rfl) rfl Tryz.isAgg28) <|
     kq (fun cx=>ex_mv rfl (cx.rq 24 (f47.vv 5))) <|
     kq (fun cx=>ex_mv rfl (cx.rq 8 s8_124)) <|
     hc (fun _ _ wx cx=>cx.c rfl (args2 cx.u0 cx.u1) Tryz.func28 (by decide +kernel) (((refcut_any (m.r x.src.toNat) x.w wx).mono (by rintro e w' ⟨rfl,rfl⟩;exact ⟨rfl,Below.refl _ _⟩))) rfl rfl) <|
     kq (fun cx=>ex_fa rfl (cx.rq 3 s3_125) (faExV27_0_0 _ _)) <|
     hk (fun cx=>cx.v (ex_ia (n:=16) (sz:=1) rfl (cx.u 0 rfl) (cx.u 1 rfl) Tryz.underlying23 (by kernel_rfl) (by omega) (by omega) (by omega)) rfl rfl) <|
     hk (fun cx=>cx.stC (wn rfl) rfl rfl 1 rfl (cx.u 0 rfl) (cx.u 1 rfl) rfl rfl (by kernel_rfl) (by rw [mcC_size];simp only [Nat.blt_eq];omega) (mcC_set _ (by omega) _) q_g1 rfl ⟨(ne_ptr (pairAt f1.ps 0 1 (by decide) rfl rfl) u_g1 u_g2).symm,trivial⟩ trivial) <|
     hn) ?_
    intro a48 w48 f48
    refine wp_seq ?_
    have b_g3_126:=f48.kp (f47.k (f46.k (f45.k (f44.k (f43.k (f42.k (f39.k (f38.k (f37.k (f24.k (f16.k (f12.k (f8.k (f7.k (f6.k (f5.kp (f4.k b_g3) ⟨.inr (ne_ptr (pairAt f1.ps 0 2 (by decide) rfl rfl) u_g1 u_g3).symm,.inl rfl,trivial⟩)))))))))))))))) ⟨.inl rfl,.inr (ne_ptr (pairAt f1.ps 0 2 (by decide) rfl rfl) u_g1 u_g3).symm,trivial⟩
    have s3_127:=f48.q 3 s3_125
    have s6_128:=f48.q 6 (f47.q 6 (f46.q 6 (f45.q 6 (f44.q 6 (f43.q 6 (f42.q 6 (f39.q 6 (f38.q 6 (f37.q 6 (f24.q 6 (f16.q 6 (f12.q 6 (f8.q 6 (f7.q 6 (f6.q 6 (f5.q 6 (f4.q 6 u_g3)))))))))))))))))
    refine go_reg [bx g1 27 (mcC ((mA m x).setR x.dst.toNat (cutI (m.r x.src.toNat) x.w))),⟨g3,27,(mcC zM),some 1,(mcC ((mA m x).setR x.dst.toNat (cutI (m.r x.src.toNat) x.w)))⟩] [] [some (.agg (mcC ((mA m x).setR x.dst.toNat (cutI (m.r x.src.toNat) x.w)))),none,some (.int .i64 0)] mo f48.d f48.z f48.b (by kernel_rfl) ⟨f48.rows.2.1,b_g3_126,trivial⟩ (
     kq (fun cx=>ldMc rfl (cx.rq 3 s3_127) (cx.rn 0 rfl)) <|
     hk (fun cx=>cx.stR (wn rfl) rfl rfl 1 rfl (cx.rq 6 s6_128) (cx.u 0 rfl) (by kernel_rfl) (Eq.refl 22) (mcC_one _) q_g3 rfl ⟨(ne_ptr (pairAt f1.ps 0 2 (by decide) rfl rfl) u_g1 u_g3),trivial⟩ trivial) <|
     kq (fun cx=>ex_as rfl rfl) <|
     hn) ?_
    intro a49 w49 f49
    refine wp_ret ?_
    have s6_129:=f49.q 6 s6_128
    try simp only [Exit.inBlock,Exit.then]
    refine bodyPost_ret (res_ct (fn:=Tryz.f5) rfl s6_129 (load_row 27 f49.rows.2.1 Tryz.underlying27 rfl (by kernel_rfl)) (f49.vv 2)) f49.d ?_
    exact ⟨retV (doQ_some hm ((eff_25 (mA m x) l hO25).trans (by show (bif m.f.k then _ else _)=_;rw [hole_ok (hcy (by omega)) Ffk11.out];show some (cmvM _ _)=_;unfold cmvM;rw [show holF x.cc (mA m x).f=true from Ffk10.out];rfl))),f49.b⟩
   have Ffk10:=Lib.hid fk10;clear fk10
   have b_g2_130:=f38.k b_g2_99
   have b_g1_131:=f38.k (f37.k (f24.k (f16.k (f12.k (f8.k (f7.k (f6.k f5.rows.1)))))))
   have s4_132:=f38.q 4 s4_100
   have s3_133:=f38.q 3 (f37.q 3 (f24.q 3 (f16.q 3 (f12.q 3 (f8.q 3 (f7.q 3 (f6.q 3 (f5.q 3 s3_6))))))))
   refine go_reg [bx g2 30 (xC x),bx g1 27 (mcC (mA m x))] [] [some (pt g2 7),some (.int .i8 x.cc),some (pt g1 16),some (.agg (fC m.f)),some (.tuple #[.bool (holF x.cc m.f),.int .i64 (holE x.cc m.f)]),some (.tuple #[.bool (holF x.cc m.f),.int .i64 (holE x.cc m.f)]),oF,some (.int .i64 (holE x.cc m.f)),oF,some (.int .i64 (holE x.cc m.f))] mo f38.d f38.z f38.b (by kernel_rfl) ⟨b_g2_130,b_g1_131,trivial⟩ (
    kq (fun cx=>ex_fa rfl (cx.rq 4 s4_132) (faExV30_7_0 _ _)) <|
    kq (fun cx=>ex_ld rfl (cx.u 0 rfl) (cx.rn 0 rfl) rfl Tryz.isAgg28) <|
    kq (fun cx=>ex_fa rfl (cx.rq 3 s3_133) (faExV27_1_0 _ _)) <|
    kq (fun cx=>ldMcF rfl (cx.u 0 rfl) (cx.rn 1 rfl)) <|
    hc (fun _ _ wx cx=>cx.c rfl (args2 cx.u0 cx.u1) Tryz.func31 (by decide +kernel) (Flg.qholds_n x.cc m.f wx hcc) rfl rfl) <|
    kmu 0 <|
    hk (fun cx=>cx.v (ex_ext (x:=.tmp 194) rfl cx.u0 rfl) rfl (congrArg Value.bool Ffk10.out)) <|
    kq (fun cx=>ex_ext (x:=.tmp 194) rfl cx.u0 rfl) <|
    kmu 0 <|
    kmu 0 <|
    hn) ?_
   intro a50 w50 f50
   refine wp_seq ?_
   refine wp_seq ?_
   cases fk12:(holE x.cc m.f) != 0
   case true=>
    have Ffk12:=Lib.hid fk12;clear fk12
    refine go_reg [] [] [some (.int .i64 (holE x.cc m.f)),oT] mo f50.d f50.z f50.b (by kernel_rfl) trivial (
     kq (fun cx=>ex_mv rfl (cx.rq 23 (f50.vv 9))) <|
     hk (fun cx=>cx.v (ex_ne (x:=.tmp 202) rfl cx.u0 rfl) rfl (congrArg Value.bool Ffk12.out)) <|
     hn) ?_
    intro a51 w51 f51
    refine wp_cond_true (f51.vv 1) ?_
    refine wp_seq ?_
    have b_g3_134:=f51.k (f50.k (f38.k (f37.k (f24.k (f16.k (f12.k (f8.k (f7.k (f6.k (f5.kp (f4.k b_g3) ⟨.inr (ne_ptr (pairAt f1.ps 0 2 (by decide) rfl rfl) u_g1 u_g3).symm,.inl rfl,trivial⟩))))))))))
    have s6_135:=f51.q 6 (f50.q 6 (f38.q 6 (f37.q 6 (f24.q 6 (f16.q 6 (f12.q 6 (f8.q 6 (f7.q 6 (f6.q 6 (f5.q 6 (f4.q 6 u_g3)))))))))))
    refine go_reg [⟨g3,27,(mcC zM),some 1,(mcC zM)⟩] [] [some (.agg (mcC zM)),none,some (.int .i64 20)] mo f51.d f51.z f51.b (by kernel_rfl) ⟨b_g3_134,trivial⟩ (
     kq (fun cx=>ex_zmc rfl) <|
     hk (fun cx=>cx.stR (wn rfl) rfl rfl 0 rfl (cx.rq 6 s6_135) (cx.u 0 rfl) (by kernel_rfl) (Eq.refl 22) (mcC_one _) q_g3 rfl trivial trivial) <|
     kq (fun cx=>ex_as rfl rfl) <|
     hn) ?_
    intro a52 w52 f52
    refine wp_ret ?_
    have s6_136:=f52.q 6 s6_135
    try simp only [Exit.inBlock,Exit.then]
    refine bodyPost_ret (res_ct (fn:=Tryz.f5) rfl s6_136 (load_row 27 f52.rows.1 Tryz.underlying27 rfl (by kernel_rfl)) (f52.vv 2)) f52.d ?_
    exact ⟨retV (doQ_none hm ((eff_25 (mA m x) l hO25).trans (by show (bif m.f.k then _ else _)=_;rw [hole_bad (hcy (by omega)) Ffk12.out];rfl))),f52.b⟩
   have Ffk12:=Lib.hid fk12;clear fk12
   refine go_reg [] [] [some (.int .i64 (holE x.cc m.f)),oF] mo f50.d f50.z f50.b (by kernel_rfl) trivial (
    kq (fun cx=>ex_mv rfl (cx.rq 23 (f50.vv 9))) <|
    hk (fun cx=>cx.v (ex_ne (x:=.tmp 202) rfl cx.u0 rfl) rfl (congrArg Value.bool Ffk12.out)) <|
    hn) ?_
   intro a53 w53 f53
   refine wp_cond_false (f53.vv 1) ?_
   refine wp_skip ?_
   refine wp_seq ?_
   refine wp_seq ?_
   have b_g2_137:=f53.k (f50.k b_g2_130)
   have s4_138:=f53.q 4 (f50.q 4 s4_132)
   refine go_reg [bx g2 30 (xC x)] [] [some (pt g2 0),some (.int .i8 25),oF,oF,oU,oF] mo f53.d f53.z f53.b (by kernel_rfl) ⟨b_g2_137,trivial⟩ (
    kq (fun cx=>ex_fa rfl (cx.rq 4 s4_138) (faExV30_0_0 _ _)) <|
    hk (fun cx=>cx.v (ex_ld rfl (cx.u 0 rfl) (cx.rn 0 rfl) rfl Tryz.isAgg28) rfl (congrArg (Value.int .i8) hO25)) <|
    hk (fun cx=>cx.v (ex_eq (x:=.tmp 206) rfl cx.u0 rfl) rfl (congrArg Value.bool (by decide))) <|
    kmu 0 <|
    kno 0 <|
    kq (fun cx=>ex_pf rfl cx.u0 rfl) <|
    hn) ?_
   intro a54 w54 f54
   refine wp_cond_false (f54.vv 5) ?_
   refine wp_skip ?_
   refine wp_seq ?_
   have b_g2_139:=f54.k b_g2_137
   have s4_140:=f54.q 4 s4_138
   refine go_reg [bx g2 30 (xC x)] [] [some (pt g2 0),some (.int .i8 25),oT] mo f54.d f54.z f54.b (by kernel_rfl) ⟨b_g2_139,trivial⟩ (
    kq (fun cx=>ex_fa rfl (cx.rq 4 s4_140) (faExV30_0_0 _ _)) <|
    hk (fun cx=>cx.v (ex_ld rfl (cx.u 0 rfl) (cx.rn 0 rfl) rfl Tryz.isAgg28) rfl (congrArg (Value.int .i8) hO25)) <|
    hk (fun cx=>cx.v (ex_eq (x:=.tmp 219) rfl cx.u0 rfl) rfl (congrArg Value.bool (by decide))) <|
    hn) ?_
   intro a55 w55 f55
   refine wp_cond_true (f55.vv 2) ?_
   refine wp_seq ?_
   have b_g2_141:=f55.k b_g2_139
   have b_g1_142:=f55.k (f54.k (f53.k (f50.k b_g1_131)))
   have s4_143:=f55.q 4 s4_140
   have s3_144:=f55.q 3 (f54.q 3 (f53.q 3 (f50.q 3 s3_133)))
   refine go_reg [bx g2 30 (xC x),bx g1 27 (mcC (mA m x))] [] [some (pt g2 2),some (.int .i8 x.dst),some (pt g1 0),some (pt g1 (x.dst.toNat)),some (.int .u64 (m.r x.dst.toNat)),some (.int .u64 (m.r x.dst.toNat))] mo f55.d f55.z f55.b (by kernel_rfl) ⟨b_g2_141,b_g1_142,trivial⟩ (
    kq (fun cx=>ex_fa rfl (cx.rq 4 s4_143) (faExV30_2_0 _ _)) <|
    kq (fun cx=>ex_ld rfl (cx.u 0 rfl) (cx.rn 0 rfl) rfl Tryz.isAgg28) <|
    kq (fun cx=>ex_fa rfl (cx.rq 3 s3_144) (faExV27_0_0 _ _)) <|
    hk (fun cx=>cx.v (ex_ia (n:=16) (sz:=1) rfl (cx.u 0 rfl) (cx.u 1 rfl) Tryz.underlying23 (by kernel_rfl) (by omega) (by omega) (by omega)) rfl rfl) <|
    hk (fun cx=>cx.v (ldMcR (by omega) rfl (cx.u 0 rfl) (cx.rn 1 rfl)) rfl rfl) <|
    kmu 0 <|
    hn) ?_
   intro a56 w56 f56
   refine wp_seq ?_
   refine wp_seq ?_
   have s22_145:=f56.q 22 (f55.q 22 (f54.q 22 (f53.q 22 (f50.vv 8))))
   refine go_reg [] [] [oF] mo f56.d f56.z f56.b (by kernel_rfl) trivial (
    kq (fun cx=>ex_mv rfl (cx.rq 22 s22_145)) <|
    hn) ?_
   intro a57 w57 f57
   refine wp_cond_false (f57.vv 0) ?_
   refine wp_skip ?_
   have b_g2_146:=f57.k (f56.k b_g2_141)
   have b_g1_147:=f57.k (f56.k b_g1_142)
   have s4_148:=f57.q 4 (f56.q 4 s4_143)
   have s24_149:=f57.q 24 (f56.vv 5)
   have s8_150:=f57.q 8 (f56.q 8 (f55.q 8 (f54.q 8 (f53.q 8 (f50.q 8 (f38.q 8 (f37.q 8 (f24.q 8 (f16.q 8 (f12.q 8 (f8.q 8 (f7.q 8 (f6.vv 2)))))))))))))
   have s3_151:=f57.q 3 (f56.q 3 s3_144)
   refine go_reg [bx g2 30 (xC x),⟨g1,27,(mcC (mA m x)),some 7,(mcC ((mA m x).setR x.dst.toNat (cutI (m.r x.dst.toNat) x.w)))⟩] [] [some (pt g2 2),some (.int .i8 x.dst),some (.int .u64 (m.r x.dst.toNat)),some (.int .i8 x.w),some (.int .u64 (cutI (m.r x.dst.toNat) x.w)),some (pt g1 0),some (pt g1 (x.dst.toNat)),none] mo f57.d f57.z f57.b (by kernel_rfl) ⟨b_g2_146,b_g1_147,trivial⟩ (
    kq (fun cx=>ex_fa rfl (cx.rq 4 s4_148) (faExV30_2_0 _ _)) <|
    kq (fun cx=>ex_ld rfl (cx.u 0 rfl) (cx.rn 0 rfl) rfl Tryz.isAgg28) <|
    kq (fun cx=>ex_mv rfl (cx.rq 24 s24_149)) <|
    kq (fun cx=>ex_mv rfl (cx.rq 8 s8_150)) <|
    hc (fun _ _ wx cx=>cx.c rfl (args2 cx.u0 cx.u1) Tryz.func28 (by decide +kernel) (((refcut_any (m.r x.dst.toNat) x.w wx).mono (by rintro e w' ⟨rfl,rfl⟩;exact ⟨rfl,Below.refl _ _⟩))) rfl rfl) <|
    kq (fun cx=>ex_fa rfl (cx.rq 3 s3_151) (faExV27_0_0 _ _)) <|
    hk (fun cx=>cx.v (ex_ia (n:=16) (sz:=1) rfl (cx.u 0 rfl) (cx.u 1 rfl) Tryz.underlying23 (by kernel_rfl) (by omega) (by omega) (by omega)) rfl rfl) <|
    hk (fun cx=>cx.stC (wn rfl) rfl rfl 1 rfl (cx.u 0 rfl) (cx.u 1 rfl) rfl rfl (by kernel_rfl) (by rw [mcC_size];simp only [Nat.blt_eq];omega) (mcC_set _ (by omega) _) q_g1 rfl ⟨(ne_ptr (pairAt f1.ps 0 1 (by decide) rfl rfl) u_g1 u_g2).symm,trivial⟩ trivial) <|
    hn) ?_
   intro a58 w58 f58
   refine wp_seq ?_
   have b_g3_152:=f58.kp (f57.k (f56.k (f55.k (f54.k (f53.k (f50.k (f38.k (f37.k (f24.k (f16.k (f12.k (f8.k (f7.k (f6.k (f5.kp (f4.k b_g3) ⟨.inr (ne_ptr (pairAt f1.ps 0 2 (by decide) rfl rfl) u_g1 u_g3).symm,.inl rfl,trivial⟩))))))))))))))) ⟨.inl rfl,.inr (ne_ptr (pairAt f1.ps 0 2 (by decide) rfl rfl) u_g1 u_g3).symm,trivial⟩
   have s3_153:=f58.q 3 s3_151
   have s6_154:=f58.q 6 (f57.q 6 (f56.q 6 (f55.q 6 (f54.q 6 (f53.q 6 (f50.q 6 (f38.q 6 (f37.q 6 (f24.q 6 (f16.q 6 (f12.q 6 (f8.q 6 (f7.q 6 (f6.q 6 (f5.q 6 (f4.q 6 u_g3))))))))))))))))
   refine go_reg [bx g1 27 (mcC ((mA m x).setR x.dst.toNat (cutI (m.r x.dst.toNat) x.w))),⟨g3,27,(mcC zM),some 1,(mcC ((mA m x).setR x.dst.toNat (cutI (m.r x.dst.toNat) x.w)))⟩] [] [some (.agg (mcC ((mA m x).setR x.dst.toNat (cutI (m.r x.dst.toNat) x.w)))),none,some (.int .i64 0)] mo f58.d f58.z f58.b (by kernel_rfl) ⟨f58.rows.2.1,b_g3_152,trivial⟩ (
    kq (fun cx=>ldMc rfl (cx.rq 3 s3_153) (cx.rn 0 rfl)) <|
    hk (fun cx=>cx.stR (wn rfl) rfl rfl 1 rfl (cx.rq 6 s6_154) (cx.u 0 rfl) (by kernel_rfl) (Eq.refl 22) (mcC_one _) q_g3 rfl ⟨(ne_ptr (pairAt f1.ps 0 2 (by decide) rfl rfl) u_g1 u_g3),trivial⟩ trivial) <|
    kq (fun cx=>ex_as rfl rfl) <|
    hn) ?_
   intro a59 w59 f59
   refine wp_ret ?_
   have s6_155:=f59.q 6 s6_154
   try simp only [Exit.inBlock,Exit.then]
   refine bodyPost_ret (res_ct (fn:=Tryz.f5) rfl s6_155 (load_row 27 f59.rows.2.1 Tryz.underlying27 rfl (by kernel_rfl)) (f59.vv 2)) f59.d ?_
   exact ⟨retV (doQ_some hm ((eff_25 (mA m x) l hO25).trans (by show (bif m.f.k then _ else _)=_;rw [hole_ok (hcy (by omega)) Ffk12.out];show some (cmvM _ _)=_;unfold cmvM;rw [show holF x.cc (mA m x).f=false from Ffk10.out];rfl))),f59.b⟩
  have Ffk9:=Lib.hid fk9;clear fk9
  have b_g2_156:=f37.k b_g2_97
  have s4_157:=f37.q 4 s4_98
  refine go_reg [bx g2 30 (xC x)] [] [some (pt g2 0),some (.int .i8 x.op),oF,oF] mo f37.d f37.z f37.b (by kernel_rfl) ⟨b_g2_156,trivial⟩ (
   kq (fun cx=>ex_fa rfl (cx.rq 4 s4_157) (faExV30_0_0 _ _)) <|
   kq (fun cx=>ex_ld rfl (cx.u 0 rfl) (cx.rn 0 rfl) rfl Tryz.isAgg28) <|
   hk (fun cx=>cx.v (ex_eq (x:=.tmp 189) rfl cx.u0 rfl) rfl (congrArg Value.bool Ffk9.out)) <|
   kmu 0 <|
   hn) ?_
  intro a60 w60 f60
  refine wp_cond_false (f60.vv 3) ?_
  cases fk13:x.op == 29
  case true=>
   have Ffk13:=Lib.hid fk13;clear fk13
   have hO29:x.op=29:=by simpa using Ffk13.out
   have b_g2_158:=f60.k b_g2_156
   have s4_159:=f60.q 4 s4_157
   refine go_reg [bx g2 30 (xC x)] [] [some (pt g2 0),some (.int .i8 29),oT,oT] mo f60.d f60.z f60.b (by kernel_rfl) ⟨b_g2_158,trivial⟩ (
    kq (fun cx=>ex_fa rfl (cx.rq 4 s4_159) (faExV30_0_0 _ _)) <|
    hk (fun cx=>cx.v (ex_ld rfl (cx.u 0 rfl) (cx.rn 0 rfl) rfl Tryz.isAgg28) rfl (congrArg (Value.int .i8) hO29)) <|
    hk (fun cx=>cx.v (ex_eq (x:=.tmp 192) rfl cx.u0 rfl) rfl (congrArg Value.bool (by decide))) <|
    kmu 0 <|
    hn) ?_
   intro a61 w61 f61
   refine wp_cond_true (f61.vv 3) ?_
   refine wp_seq ?_
   cases fk14:holF x.cc m.f
   case true=>
    have Ffk14:=Lib.hid fk14;clear fk14
    have b_g2_160:=f61.k b_g2_158
    have b_g1_161:=f61.k (f60.k (f37.k (f24.k (f16.k (f12.k (f8.k (f7.k (f6.k f5.rows.1))))))))
    have s4_162:=f61.q 4 s4_159
    have s3_163:=f61.q 3 (f60.q 3 (f37.q 3 (f24.q 3 (f16.q 3 (f12.q 3 (f8.q 3 (f7.q 3 (f6.q 3 (f5.q 3 s3_6)))))))))
    refine go_reg [bx g2 30 (xC x),bx g1 27 (mcC (mA m x))] [] [some (pt g2 7),some (.int .i8 x.cc),some (pt g1 16),some (.agg (fC m.f)),some (.tuple #[.bool (holF x.cc m.f),.int .i64 (holE x.cc m.f)]),some (.tuple #[.bool (holF x.cc m.f),.int .i64 (holE x.cc m.f)]),oT,some (.int .i64 (holE x.cc m.f)),oT,some (.int .i64 (holE x.cc m.f))] mo f61.d f61.z f61.b (by kernel_rfl) ⟨b_g2_160,b_g1_161,trivial⟩ (
     kq (fun cx=>ex_fa rfl (cx.rq 4 s4_162) (faExV30_7_0 _ _)) <|
     kq (fun cx=>ex_ld rfl (cx.u 0 rfl) (cx.rn 0 rfl) rfl Tryz.isAgg28) <|
     kq (fun cx=>ex_fa rfl (cx.rq 3 s3_163) (faExV27_1_0 _ _)) <|
     kq (fun cx=>ldMcF rfl (cx.u 0 rfl) (cx.rn 1 rfl)) <|
     hc (fun _ _ wx cx=>cx.c rfl (args2 cx.u0 cx.u1) Tryz.func31 (by decide +kernel) (Flg.qholds_n x.cc m.f wx hcc) rfl rfl) <|
     kmu 0 <|
     hk (fun cx=>cx.v (ex_ext (x:=.tmp 194) rfl cx.u0 rfl) rfl (congrArg Value.bool Ffk14.out)) <|
     kq (fun cx=>ex_ext (x:=.tmp 194) rfl cx.u0 rfl) <|
     kmu 0 <|
     kmu 0 <|
     hn) ?_
    intro a62 w62 f62
    refine wp_seq ?_
    refine wp_seq ?_
    cases fk15:(holE x.cc m.f) != 0
    case true=>
     have Ffk15:=Lib.hid fk15;clear fk15
     refine go_reg [] [] [some (.int .i64 (holE x.cc m.f)),oT] mo f62.d f62.z f62.b (by kernel_rfl) trivial (
      kq (fun cx=>ex_mv rfl (cx.rq 23 (f62.vv 9))) <|
      hk (fun cx=>cx.v (ex_ne (x:=.tmp 202) rfl cx.u0 rfl) rfl (congrArg Value.bool Ffk15.out)) <|
      hn) ?_
     intro a63 w63 f63
     refine wp_cond_true (f63.vv 1) ?_
     refine wp_seq ?_
     have b_g3_164:=f63.k (f62.k (f61.k (f60.k (f37.k (f24.k (f16.k (f12.k (f8.k (f7.k (f6.k (f5.kp (f4.k b_g3) ⟨.inr (ne_ptr (pairAt f1.ps 0 2 (by decide) rfl rfl) u_g1 u_g3).symm,.inl rfl,trivial⟩)))))))))))
     have s6_165:=f63.q 6 (f62.q 6 (f61.q 6 (f60.q 6 (f37.q 6 (f24.q 6 (f16.q 6 (f12.q 6 (f8.q 6 (f7.q 6 (f6.q 6 (f5.q 6 (f4.q 6 u_g3))))))))))))
     refine go_reg [⟨g3,27,(mcC zM),some 1,(mcC zM)⟩] [] [some (.agg (mcC zM)),none,some (.int .i64 20)] mo f63.d f63.z f63.b (by kernel_rfl) ⟨b_g3_164,trivial⟩ (
      kq (fun cx=>ex_zmc rfl) <|
      hk (fun cx=>cx.stR (wn rfl) rfl rfl 0 rfl (cx.rq 6 s6_165) (cx.u 0 rfl) (by kernel_rfl) (Eq.refl 22) (mcC_one _) q_g3 rfl trivial trivial) <|
      kq (fun cx=>ex_as rfl rfl) <|
      hn) ?_
     intro a64 w64 f64
     refine wp_ret ?_
     have s6_166:=f64.q 6 s6_165
     try simp only [Exit.inBlock,Exit.then]
     refine bodyPost_ret (res_ct (fn:=Tryz.f5) rfl s6_166 (load_row 27 f64.rows.1 Tryz.underlying27 rfl (by kernel_rfl)) (f64.vv 2)) f64.d ?_
     exact ⟨retV (doQ_none hm ((eff_29 (mA m x) l hO29).trans (by show (bif m.f.k then _ else _)=_;rw [hole_bad (hcy (by omega)) Ffk15.out];rfl))),f64.b⟩
    have Ffk15:=Lib.hid fk15;clear fk15
    refine go_reg [] [] [some (.int .i64 (holE x.cc m.f)),oF] mo f62.d f62.z f62.b (by kernel_rfl) trivial (
     kq (fun cx=>ex_mv rfl (cx.rq 23 (f62.vv 9))) <|
     hk (fun cx=>cx.v (ex_ne (x:=.tmp 202) rfl cx.u0 rfl) rfl (congrArg Value.bool Ffk15.out)) <|
     hn) ?_
    intro a65 w65 f65
    refine wp_cond_false (f65.vv 1) ?_
    refine wp_skip ?_
    refine wp_seq ?_
    refine wp_seq ?_
    have b_g2_167:=f65.k (f62.k b_g2_160)
    have s4_168:=f65.q 4 (f62.q 4 s4_162)
    have s22_169:=f65.q 22 (f62.vv 8)
    refine go_reg [bx g2 30 (xC x)] [] [some (pt g2 0),some (.int .i8 29),oT,oT,oT,oT] mo f65.d f65.z f65.b (by kernel_rfl) ⟨b_g2_167,trivial⟩ (
     kq (fun cx=>ex_fa rfl (cx.rq 4 s4_168) (faExV30_0_0 _ _)) <|
     hk (fun cx=>cx.v (ex_ld rfl (cx.u 0 rfl) (cx.rn 0 rfl) rfl Tryz.isAgg28) rfl (congrArg (Value.int .i8) hO29)) <|
     hk (fun cx=>cx.v (ex_eq (x:=.tmp 206) rfl cx.u0 rfl) rfl (congrArg Value.bool (by decide))) <|
     kmu 0 <|
     hk (fun cx=>cx.vy 0 (ex_mv rfl (cx.rq 22 s22_169))) <|
     kq (fun cx=>ex_pt rfl cx.u0 cx.u1) <|
     hn) ?_
    intro a66 w66 f66
    refine wp_cond_true (f66.vv 5) ?_
    have b_g1_170:=f66.k (f65.k (f62.k b_g1_161))
    have b_g2_171:=f66.k b_g2_167
    have s3_172:=f66.q 3 (f65.q 3 (f62.q 3 s3_163))
    have s4_173:=f66.q 4 s4_168
    refine go_reg [⟨g1,27,(mcC (mA m x)),some 7,(mcC ((mA m x).upA (IntKind.u64.wrap ((IntKind.u64.wrap (m.a+(IntKind.u64.wrap (lenX x))))+(IntKind.u64.wrap x.imm)))))⟩,bx g2 30 (xC x)] [] [some (pt g1 21),some (.int .u64 (IntKind.u64.wrap (m.a+(IntKind.u64.wrap (lenX x))))),some (pt g2 6),some (.int .i64 x.imm),some (.int .u64 (IntKind.u64.wrap x.imm)),some (.int .u64 (IntKind.u64.wrap ((IntKind.u64.wrap (m.a+(IntKind.u64.wrap (lenX x))))+(IntKind.u64.wrap x.imm)))),some (pt g1 21),none] mo f66.d f66.z f66.b (by kernel_rfl) ⟨b_g1_170,b_g2_171,trivial⟩ (
     kq (fun cx=>ex_fa rfl (cx.rq 3 s3_172) (faExV27_2_0 _ _)) <|
     kq (fun cx=>ex_ld rfl (cx.u 0 rfl) (cx.rf 0 rfl (by kernel_rfl)) rfl Tryz.isAgg22) <|
     kq (fun cx=>ex_fa rfl (cx.rq 4 s4_173) (faExV30_6_0 _ _)) <|
     kq (fun cx=>ex_ld rfl (cx.u 0 rfl) (cx.rn 1 rfl) rfl Tryz.isAgg3) <|
     kq (fun cx=>ex_conv (x:=.tmp 214) rfl cx.u0 Tryz.underlying3 Tryz.underlying22) <|
     kq (fun cx=>ex_add (x:=.tmp 212) (y:=.tmp 215) rfl cx.u0 cx.u1) <|
     kq (fun cx=>ex_fa rfl (cx.rq 3 s3_172) (faExV27_2_0 _ _)) <|
     hk (fun cx=>cx.stC (wn rfl) rfl rfl 0 rfl (cx.u 0 rfl) (cx.u 1 rfl) rfl rfl (by kernel_rfl) rfl rfl q_g1 rfl ⟨(ne_ptr (pairAt f1.ps 0 1 (by decide) rfl rfl) u_g1 u_g2).symm,trivial⟩ trivial) <|
     hn) ?_
    intro a67 w67 f67
    refine wp_seq ?_
    have b_g2_174:=f67.kp b_g2_171 ⟨.inr (ne_ptr (pairAt f1.ps 0 1 (by decide) rfl rfl) u_g1 u_g2).symm,.inl rfl,trivial⟩
    have s4_175:=f67.q 4 s4_173
    refine go_reg [bx g2 30 (xC x)] [] [some (pt g2 0),some (.int .i8 29),oF] mo f67.d f67.z f67.b (by kernel_rfl) ⟨b_g2_174,trivial⟩ (
     kq (fun cx=>ex_fa rfl (cx.rq 4 s4_175) (faExV30_0_0 _ _)) <|
     hk (fun cx=>cx.v (ex_ld rfl (cx.u 0 rfl) (cx.rn 0 rfl) rfl Tryz.isAgg28) rfl (congrArg (Value.int .i8) hO29)) <|
     hk (fun cx=>cx.v (ex_eq (x:=.tmp 219) rfl cx.u0 rfl) rfl (congrArg Value.bool (by decide))) <|
     hn) ?_
    intro a68 w68 f68
    refine wp_cond_false (f68.vv 2) ?_
    refine wp_skip ?_
    refine wp_seq ?_
    have b_g1_176:=f68.k f67.rows.1
    have b_g3_177:=f68.k (f67.kp (f66.k (f65.k (f62.k (f61.k (f60.k (f37.k (f24.k (f16.k (f12.k (f8.k (f7.k (f6.k (f5.kp (f4.k b_g3) ⟨.inr (ne_ptr (pairAt f1.ps 0 2 (by decide) rfl rfl) u_g1 u_g3).symm,.inl rfl,trivial⟩))))))))))))) ⟨.inr (ne_ptr (pairAt f1.ps 0 2 (by decide) rfl rfl) u_g1 u_g3).symm,.inl rfl,trivial⟩)
    have s3_178:=f68.q 3 (f67.q 3 s3_172)
    have s6_179:=f68.q 6 (f67.q 6 (f66.q 6 (f65.q 6 (f62.q 6 (f61.q 6 (f60.q 6 (f37.q 6 (f24.q 6 (f16.q 6 (f12.q 6 (f8.q 6 (f7.q 6 (f6.q 6 (f5.q 6 (f4.q 6 u_g3)))))))))))))))
    refine go_reg [bx g1 27 (mcC ((mA m x).upA (IntKind.u64.wrap ((IntKind.u64.wrap (m.a+(IntKind.u64.wrap (lenX x))))+(IntKind.u64.wrap x.imm))))),⟨g3,27,(mcC zM),some 1,(mcC ((mA m x).upA (IntKind.u64.wrap ((IntKind.u64.wrap (m.a+(IntKind.u64.wrap (lenX x))))+(IntKind.u64.wrap x.imm)))))⟩] [] [some (.agg (mcC ((mA m x).upA (IntKind.u64.wrap ((IntKind.u64.wrap (m.a+(IntKind.u64.wrap (lenX x))))+(IntKind.u64.wrap x.imm)))))),none,some (.int .i64 0)] mo f68.d f68.z f68.b (by kernel_rfl) ⟨b_g1_176,b_g3_177,trivial⟩ (
     kq (fun cx=>ldMc rfl (cx.rq 3 s3_178) (cx.rn 0 rfl)) <|
     hk (fun cx=>cx.stR (wn rfl) rfl rfl 1 rfl (cx.rq 6 s6_179) (cx.u 0 rfl) (by kernel_rfl) (Eq.refl 22) (mcC_one _) q_g3 rfl ⟨(ne_ptr (pairAt f1.ps 0 2 (by decide) rfl rfl) u_g1 u_g3),trivial⟩ trivial) <|
     kq (fun cx=>ex_as rfl rfl) <|
     hn) ?_
    intro a69 w69 f69
    refine wp_ret ?_
    have s6_180:=f69.q 6 s6_179
    try simp only [Exit.inBlock,Exit.then]
    refine bodyPost_ret (res_ct (fn:=Tryz.f5) rfl s6_180 (load_row 27 f69.rows.2.1 Tryz.underlying27 rfl (by kernel_rfl)) (f69.vv 2)) f69.d ?_
    exact ⟨retV (doQ_some hm ((eff_29 (mA m x) l hO29).trans (by show (bif m.f.k then _ else _)=_;rw [hole_ok (hcy (by omega)) Ffk15.out];show some (jccM _ _)=_;unfold jccM;rw [show holF x.cc (mA m x).f=true from Ffk14.out];rfl))),f69.b⟩
   have Ffk14:=Lib.hid fk14;clear fk14
   have b_g2_181:=f61.k b_g2_158
   have b_g1_182:=f61.k (f60.k (f37.k (f24.k (f16.k (f12.k (f8.k (f7.k (f6.k f5.rows.1))))))))
   have s4_183:=f61.q 4 s4_159
   have s3_184:=f61.q 3 (f60.q 3 (f37.q 3 (f24.q 3 (f16.q 3 (f12.q 3 (f8.q 3 (f7.q 3 (f6.q 3 (f5.q 3 s3_6)))))))))
   refine go_reg [bx g2 30 (xC x),bx g1 27 (mcC (mA m x))] [] [some (pt g2 7),some (.int .i8 x.cc),some (pt g1 16),some (.agg (fC m.f)),some (.tuple #[.bool (holF x.cc m.f),.int .i64 (holE x.cc m.f)]),some (.tuple #[.bool (holF x.cc m.f),.int .i64 (holE x.cc m.f)]),oF,some (.int .i64 (holE x.cc m.f)),oF,some (.int .i64 (holE x.cc m.f))] mo f61.d f61.z f61.b (by kernel_rfl) ⟨b_g2_181,b_g1_182,trivial⟩ (
    kq (fun cx=>ex_fa rfl (cx.rq 4 s4_183) (faExV30_7_0 _ _)) <|
    kq (fun cx=>ex_ld rfl (cx.u 0 rfl) (cx.rn 0 rfl) rfl Tryz.isAgg28) <|
    kq (fun cx=>ex_fa rfl (cx.rq 3 s3_184) (faExV27_1_0 _ _)) <|
    kq (fun cx=>ldMcF rfl (cx.u 0 rfl) (cx.rn 1 rfl)) <|
    hc (fun _ _ wx cx=>cx.c rfl (args2 cx.u0 cx.u1) Tryz.func31 (by decide +kernel) (Flg.qholds_n x.cc m.f wx hcc) rfl rfl) <|
    kmu 0 <|
    hk (fun cx=>cx.v (ex_ext (x:=.tmp 194) rfl cx.u0 rfl) rfl (congrArg Value.bool Ffk14.out)) <|
    kq (fun cx=>ex_ext (x:=.tmp 194) rfl cx.u0 rfl) <|
    kmu 0 <|
    kmu 0 <|
    hn) ?_
   intro a70 w70 f70
   refine wp_seq ?_
   refine wp_seq ?_
   cases fk16:(holE x.cc m.f) != 0
   case true=>
    have Ffk16:=Lib.hid fk16;clear fk16
    refine go_reg [] [] [some (.int .i64 (holE x.cc m.f)),oT] mo f70.d f70.z f70.b (by kernel_rfl) trivial (
     kq (fun cx=>ex_mv rfl (cx.rq 23 (f70.vv 9))) <|
     hk (fun cx=>cx.v (ex_ne (x:=.tmp 202) rfl cx.u0 rfl) rfl (congrArg Value.bool Ffk16.out)) <|
     hn) ?_
    intro a71 w71 f71
    refine wp_cond_true (f71.vv 1) ?_
    refine wp_seq ?_
    have b_g3_185:=f71.k (f70.k (f61.k (f60.k (f37.k (f24.k (f16.k (f12.k (f8.k (f7.k (f6.k (f5.kp (f4.k b_g3) ⟨.inr (ne_ptr (pairAt f1.ps 0 2 (by decide) rfl rfl) u_g1 u_g3).symm,.inl rfl,trivial⟩)))))))))))
    have s6_186:=f71.q 6 (f70.q 6 (f61.q 6 (f60.q 6 (f37.q 6 (f24.q 6 (f16.q 6 (f12.q 6 (f8.q 6 (f7.q 6 (f6.q 6 (f5.q 6 (f4.q 6 u_g3))))))))))))
    refine go_reg [⟨g3,27,(mcC zM),some 1,(mcC zM)⟩] [] [some (.agg (mcC zM)),none,some (.int .i64 20)] mo f71.d f71.z f71.b (by kernel_rfl) ⟨b_g3_185,trivial⟩ (
     kq (fun cx=>ex_zmc rfl) <|
     hk (fun cx=>cx.stR (wn rfl) rfl rfl 0 rfl (cx.rq 6 s6_186) (cx.u 0 rfl) (by kernel_rfl) (Eq.refl 22) (mcC_one _) q_g3 rfl trivial trivial) <|
     kq (fun cx=>ex_as rfl rfl) <|
     hn) ?_
    intro a72 w72 f72
    refine wp_ret ?_
    have s6_187:=f72.q 6 s6_186
    try simp only [Exit.inBlock,Exit.then]
    refine bodyPost_ret (res_ct (fn:=Tryz.f5) rfl s6_187 (load_row 27 f72.rows.1 Tryz.underlying27 rfl (by kernel_rfl)) (f72.vv 2)) f72.d ?_
    exact ⟨retV (doQ_none hm ((eff_29 (mA m x) l hO29).trans (by show (bif m.f.k then _ else _)=_;rw [hole_bad (hcy (by omega)) Ffk16.out];rfl))),f72.b⟩
   have Ffk16:=Lib.hid fk16;clear fk16
   refine go_reg [] [] [some (.int .i64 (holE x.cc m.f)),oF] mo f70.d f70.z f70.b (by kernel_rfl) trivial (
    kq (fun cx=>ex_mv rfl (cx.rq 23 (f70.vv 9))) <|
    hk (fun cx=>cx.v (ex_ne (x:=.tmp 202) rfl cx.u0 rfl) rfl (congrArg Value.bool Ffk16.out)) <|
    hn) ?_
   intro a73 w73 f73
   refine wp_cond_false (f73.vv 1) ?_
   refine wp_skip ?_
   refine wp_seq ?_
   refine wp_seq ?_
   have b_g2_188:=f73.k (f70.k b_g2_181)
   have s4_189:=f73.q 4 (f70.q 4 s4_183)
   have s22_190:=f73.q 22 (f70.vv 8)
   refine go_reg [bx g2 30 (xC x)] [] [some (pt g2 0),some (.int .i8 29),oT,oT,oF,oF] mo f73.d f73.z f73.b (by kernel_rfl) ⟨b_g2_188,trivial⟩ (
    kq (fun cx=>ex_fa rfl (cx.rq 4 s4_189) (faExV30_0_0 _ _)) <|
    hk (fun cx=>cx.v (ex_ld rfl (cx.u 0 rfl) (cx.rn 0 rfl) rfl Tryz.isAgg28) rfl (congrArg (Value.int .i8) hO29)) <|
    hk (fun cx=>cx.v (ex_eq (x:=.tmp 206) rfl cx.u0 rfl) rfl (congrArg Value.bool (by decide))) <|
    kmu 0 <|
    hk (fun cx=>cx.vy 0 (ex_mv rfl (cx.rq 22 s22_190))) <|
    kq (fun cx=>ex_pt rfl cx.u0 cx.u1) <|
    hn) ?_
   intro a74 w74 f74
   refine wp_cond_false (f74.vv 5) ?_
   refine wp_skip ?_
   refine wp_seq ?_
   have b_g2_191:=f74.k b_g2_188
   have s4_192:=f74.q 4 s4_189
   refine go_reg [bx g2 30 (xC x)] [] [some (pt g2 0),some (.int .i8 29),oF] mo f74.d f74.z f74.b (by kernel_rfl) ⟨b_g2_191,trivial⟩ (
    kq (fun cx=>ex_fa rfl (cx.rq 4 s4_192) (faExV30_0_0 _ _)) <|
    hk (fun cx=>cx.v (ex_ld rfl (cx.u 0 rfl) (cx.rn 0 rfl) rfl Tryz.isAgg28) rfl (congrArg (Value.int .i8) hO29)) <|
    hk (fun cx=>cx.v (ex_eq (x:=.tmp 219) rfl cx.u0 rfl) rfl (congrArg Value.bool (by decide))) <|
    hn) ?_
   intro a75 w75 f75
   refine wp_cond_false (f75.vv 2) ?_
   refine wp_skip ?_
   refine wp_seq ?_
   have b_g1_193:=f75.k (f74.k (f73.k (f70.k b_g1_182)))
   have b_g3_194:=f75.k (f74.k (f73.k (f70.k (f61.k (f60.k (f37.k (f24.k (f16.k (f12.k (f8.k (f7.k (f6.k (f5.kp (f4.k b_g3) ⟨.inr (ne_ptr (pairAt f1.ps 0 2 (by decide) rfl rfl) u_g1 u_g3).symm,.inl rfl,trivial⟩)))))))))))))
   have s3_195:=f75.q 3 (f74.q 3 (f73.q 3 (f70.q 3 s3_184)))
   have s6_196:=f75.q 6 (f74.q 6 (f73.q 6 (f70.q 6 (f61.q 6 (f60.q 6 (f37.q 6 (f24.q 6 (f16.q 6 (f12.q 6 (f8.q 6 (f7.q 6 (f6.q 6 (f5.q 6 (f4.q 6 u_g3))))))))))))))
   refine go_reg [bx g1 27 (mcC (mA m x)),⟨g3,27,(mcC zM),some 1,(mcC (mA m x))⟩] [] [some (.agg (mcC (mA m x))),none,some (.int .i64 0)] mo f75.d f75.z f75.b (by kernel_rfl) ⟨b_g1_193,b_g3_194,trivial⟩ (
    kq (fun cx=>ldMc rfl (cx.rq 3 s3_195) (cx.rn 0 rfl)) <|
    hk (fun cx=>cx.stR (wn rfl) rfl rfl 1 rfl (cx.rq 6 s6_196) (cx.u 0 rfl) (by kernel_rfl) (Eq.refl 22) (mcC_one _) q_g3 rfl ⟨(ne_ptr (pairAt f1.ps 0 2 (by decide) rfl rfl) u_g1 u_g3),trivial⟩ trivial) <|
    kq (fun cx=>ex_as rfl rfl) <|
    hn) ?_
   intro a76 w76 f76
   refine wp_ret ?_
   have s6_197:=f76.q 6 s6_196
   try simp only [Exit.inBlock,Exit.then]
   refine bodyPost_ret (res_ct (fn:=Tryz.f5) rfl s6_197 (load_row 27 f76.rows.2.1 Tryz.underlying27 rfl (by kernel_rfl)) (f76.vv 2)) f76.d ?_
   exact ⟨retV (doQ_some hm ((eff_29 (mA m x) l hO29).trans (by show (bif m.f.k then _ else _)=_;rw [hole_ok (hcy (by omega)) Ffk16.out];show some (jccM _ _)=_;unfold jccM;rw [show holF x.cc (mA m x).f=false from Ffk14.out];rfl))),f76.b⟩
  have Ffk13:=Lib.hid fk13;clear fk13
  have b_g2_198:=f60.k b_g2_156
  have s4_199:=f60.q 4 s4_157
  refine go_reg [bx g2 30 (xC x)] [] [some (pt g2 0),some (.int .i8 x.op),oF,oF] mo f60.d f60.z f60.b (by kernel_rfl) ⟨b_g2_198,trivial⟩ (
   kq (fun cx=>ex_fa rfl (cx.rq 4 s4_199) (faExV30_0_0 _ _)) <|
   kq (fun cx=>ex_ld rfl (cx.u 0 rfl) (cx.rn 0 rfl) rfl Tryz.isAgg28) <|
   hk (fun cx=>cx.v (ex_eq (x:=.tmp 192) rfl cx.u0 rfl) rfl (congrArg Value.bool Ffk13.out)) <|
   kmu 0 <|
   hn) ?_
  intro a77 w77 f77
  refine wp_cond_false (f77.vv 3) ?_
  refine wp_seq ?_
  cases fk17:x.op == 26
  case true=>
   have Ffk17:=Lib.hid fk17;clear fk17
   have hO26:x.op=26:=by simpa using Ffk17.out
   have b_g2_200:=f77.k b_g2_198
   have s4_201:=f77.q 4 s4_199
   refine go_reg [bx g2 30 (xC x)] [] [some (pt g2 0),some (.int .i8 26),oT,oT] mo f77.d f77.z f77.b (by kernel_rfl) ⟨b_g2_200,trivial⟩ (
    kq (fun cx=>ex_fa rfl (cx.rq 4 s4_201) (faExV30_0_0 _ _)) <|
    hk (fun cx=>cx.v (ex_ld rfl (cx.u 0 rfl) (cx.rn 0 rfl) rfl Tryz.isAgg28) rfl (congrArg (Value.int .i8) hO26)) <|
    hk (fun cx=>cx.v (ex_eq (x:=.tmp 241) rfl cx.u0 rfl) rfl (congrArg Value.bool (by decide))) <|
    kmu 0 <|
    hn) ?_
   intro a78 w78 f78
   refine wp_cond_true (f78.vv 3) ?_
   have b_g2_202:=f78.k b_g2_200
   have b_g1_203:=f78.k (f77.k (f60.k (f37.k (f24.k (f16.k (f12.k (f8.k (f7.k (f6.k f5.rows.1)))))))))
   have s4_204:=f78.q 4 s4_201
   have s2_205:=f78.q 2 (f77.q 2 (f60.q 2 (f37.q 2 (f24.q 2 (f16.q 2 (f12.q 2 (f8.q 2 (f7.q 2 (f6.q 2 (f5.q 2 (f4.q 2 (f1.q 2 s2_0))))))))))))
   have s8_206:=f78.q 8 (f77.q 8 (f60.q 8 (f37.q 8 (f24.q 8 (f16.q 8 (f12.q 8 (f8.q 8 (f7.q 8 (f6.vv 2)))))))))
   have s3_207:=f78.q 3 (f77.q 3 (f60.q 3 (f37.q 3 (f24.q 3 (f16.q 3 (f12.q 3 (f8.q 3 (f7.q 3 (f6.q 3 (f5.q 3 s3_6))))))))))
   refine go_reg [bx g2 30 (xC x),⟨g1,27,(mcC (mA m x)),some 7,(mcC ((mA m x).setR x.dst.toNat (cutI l x.w)))⟩] [] [some (pt g2 2),some (.int .i8 x.dst),some (.int .u64 l),some (.int .i8 x.w),some (.int .u64 (cutI l x.w)),some (pt g1 0),some (pt g1 (x.dst.toNat)),none] mo f78.d f78.z f78.b (by kernel_rfl) ⟨b_g2_202,b_g1_203,trivial⟩ (
    kq (fun cx=>ex_fa rfl (cx.rq 4 s4_204) (faExV30_2_0 _ _)) <|
    kq (fun cx=>ex_ld rfl (cx.u 0 rfl) (cx.rn 0 rfl) rfl Tryz.isAgg28) <|
    kq (fun cx=>ex_mv rfl (cx.rq 2 s2_205)) <|
    kq (fun cx=>ex_mv rfl (cx.rq 8 s8_206)) <|
    hc (fun _ _ wx cx=>cx.c rfl (args2 cx.u0 cx.u1) Tryz.func28 (by decide +kernel) (((refcut_any l x.w wx).mono (by rintro e w' ⟨rfl,rfl⟩;exact ⟨rfl,Below.refl _ _⟩))) rfl rfl) <|
    kq (fun cx=>ex_fa rfl (cx.rq 3 s3_207) (faExV27_0_0 _ _)) <|
    hk (fun cx=>cx.v (ex_ia (n:=16) (sz:=1) rfl (cx.u 0 rfl) (cx.u 1 rfl) Tryz.underlying23 (by kernel_rfl) (by omega) (by omega) (by omega)) rfl rfl) <|
    hk (fun cx=>cx.stC (wn rfl) rfl rfl 1 rfl (cx.u 0 rfl) (cx.u 1 rfl) rfl rfl (by kernel_rfl) (by rw [mcC_size];simp only [Nat.blt_eq];omega) (mcC_set _ (by omega) _) q_g1 rfl ⟨(ne_ptr (pairAt f1.ps 0 1 (by decide) rfl rfl) u_g1 u_g2).symm,trivial⟩ trivial) <|
    hn) ?_
   intro a79 w79 f79
   refine wp_seq ?_
   have b_g3_208:=f79.kp (f78.k (f77.k (f60.k (f37.k (f24.k (f16.k (f12.k (f8.k (f7.k (f6.k (f5.kp (f4.k b_g3) ⟨.inr (ne_ptr (pairAt f1.ps 0 2 (by decide) rfl rfl) u_g1 u_g3).symm,.inl rfl,trivial⟩))))))))))) ⟨.inl rfl,.inr (ne_ptr (pairAt f1.ps 0 2 (by decide) rfl rfl) u_g1 u_g3).symm,trivial⟩
   have s3_209:=f79.q 3 s3_207
   have s6_210:=f79.q 6 (f78.q 6 (f77.q 6 (f60.q 6 (f37.q 6 (f24.q 6 (f16.q 6 (f12.q 6 (f8.q 6 (f7.q 6 (f6.q 6 (f5.q 6 (f4.q 6 u_g3))))))))))))
   refine go_reg [bx g1 27 (mcC ((mA m x).setR x.dst.toNat (cutI l x.w))),⟨g3,27,(mcC zM),some 1,(mcC ((mA m x).setR x.dst.toNat (cutI l x.w)))⟩] [] [some (.agg (mcC ((mA m x).setR x.dst.toNat (cutI l x.w)))),none,some (.int .i64 0)] mo f79.d f79.z f79.b (by kernel_rfl) ⟨f79.rows.2.1,b_g3_208,trivial⟩ (
    kq (fun cx=>ldMc rfl (cx.rq 3 s3_209) (cx.rn 0 rfl)) <|
    hk (fun cx=>cx.stR (wn rfl) rfl rfl 1 rfl (cx.rq 6 s6_210) (cx.u 0 rfl) (by kernel_rfl) (Eq.refl 22) (mcC_one _) q_g3 rfl ⟨(ne_ptr (pairAt f1.ps 0 2 (by decide) rfl rfl) u_g1 u_g3),trivial⟩ trivial) <|
    kq (fun cx=>ex_as rfl rfl) <|
    hn) ?_
   intro a80 w80 f80
   refine wp_ret ?_
   have s6_211:=f80.q 6 s6_210
   try simp only [Exit.inBlock,Exit.then]
   refine bodyPost_ret (res_ct (fn:=Tryz.f5) rfl s6_211 (load_row 27 f80.rows.2.1 Tryz.underlying27 rfl (by kernel_rfl)) (f80.vv 2)) f80.d ?_
   exact ⟨retV (doQ_some hm (eff_26 (mA m x) l hO26)),f80.b⟩
  have Ffk17:=Lib.hid fk17;clear fk17
  have b_g2_212:=f77.k b_g2_198
  have s4_213:=f77.q 4 s4_199
  refine go_reg [bx g2 30 (xC x)] [] [some (pt g2 0),some (.int .i8 x.op),oF,oF] mo f77.d f77.z f77.b (by kernel_rfl) ⟨b_g2_212,trivial⟩ (
   kq (fun cx=>ex_fa rfl (cx.rq 4 s4_213) (faExV30_0_0 _ _)) <|
   kq (fun cx=>ex_ld rfl (cx.u 0 rfl) (cx.rn 0 rfl) rfl Tryz.isAgg28) <|
   hk (fun cx=>cx.v (ex_eq (x:=.tmp 241) rfl cx.u0 rfl) rfl (congrArg Value.bool Ffk17.out)) <|
   kmu 0 <|
   hn) ?_
  intro a81 w81 f81
  refine wp_cond_false (f81.vv 3) ?_
  refine wp_seq ?_
  cases fk18:x.op == 28
  case true=>
   have Ffk18:=Lib.hid fk18;clear fk18
   have hO28:x.op=28:=by simpa using Ffk18.out
   have b_g2_214:=f81.k b_g2_212
   have s4_215:=f81.q 4 s4_213
   refine go_reg [bx g2 30 (xC x)] [] [some (pt g2 0),some (.int .i8 28),oT,oT] mo f81.d f81.z f81.b (by kernel_rfl) ⟨b_g2_214,trivial⟩ (
    kq (fun cx=>ex_fa rfl (cx.rq 4 s4_215) (faExV30_0_0 _ _)) <|
    hk (fun cx=>cx.v (ex_ld rfl (cx.u 0 rfl) (cx.rn 0 rfl) rfl Tryz.isAgg28) rfl (congrArg (Value.int .i8) hO28)) <|
    hk (fun cx=>cx.v (ex_eq (x:=.tmp 252) rfl cx.u0 rfl) rfl (congrArg Value.bool (by decide))) <|
    kmu 0 <|
    hn) ?_
   intro a82 w82 f82
   refine wp_cond_true (f82.vv 3) ?_
   have b_g1_216:=f82.k (f81.k (f77.k (f60.k (f37.k (f24.k (f16.k (f12.k (f8.k (f7.k (f6.k f5.rows.1))))))))))
   have b_g2_217:=f82.k b_g2_214
   have s3_218:=f82.q 3 (f81.q 3 (f77.q 3 (f60.q 3 (f37.q 3 (f24.q 3 (f16.q 3 (f12.q 3 (f8.q 3 (f7.q 3 (f6.q 3 (f5.q 3 s3_6)))))))))))
   have s4_219:=f82.q 4 s4_215
   refine go_reg [⟨g1,27,(mcC (mA m x)),some 7,(mcC ((mA m x).upA (IntKind.u64.wrap ((IntKind.u64.wrap (m.a+(IntKind.u64.wrap (lenX x))))+(IntKind.u64.wrap x.imm)))))⟩,bx g2 30 (xC x)] [] [some (pt g1 21),some (.int .u64 (IntKind.u64.wrap (m.a+(IntKind.u64.wrap (lenX x))))),some (pt g2 6),some (.int .i64 x.imm),some (.int .u64 (IntKind.u64.wrap x.imm)),some (.int .u64 (IntKind.u64.wrap ((IntKind.u64.wrap (m.a+(IntKind.u64.wrap (lenX x))))+(IntKind.u64.wrap x.imm)))),some (pt g1 21),none] mo f82.d f82.z f82.b (by kernel_rfl) ⟨b_g1_216,b_g2_217,trivial⟩ (
    kq (fun cx=>ex_fa rfl (cx.rq 3 s3_218) (faExV27_2_0 _ _)) <|
    kq (fun cx=>ex_ld rfl (cx.u 0 rfl) (cx.rf 0 rfl (by kernel_rfl)) rfl Tryz.isAgg22) <|
    kq (fun cx=>ex_fa rfl (cx.rq 4 s4_219) (faExV30_6_0 _ _)) <|
    kq (fun cx=>ex_ld rfl (cx.u 0 rfl) (cx.rn 1 rfl) rfl Tryz.isAgg3) <|
    kq (fun cx=>ex_conv (x:=.tmp 257) rfl cx.u0 Tryz.underlying3 Tryz.underlying22) <|
    kq (fun cx=>ex_add (x:=.tmp 255) (y:=.tmp 258) rfl cx.u0 cx.u1) <|
    kq (fun cx=>ex_fa rfl (cx.rq 3 s3_218) (faExV27_2_0 _ _)) <|
    hk (fun cx=>cx.stC (wn rfl) rfl rfl 0 rfl (cx.u 0 rfl) (cx.u 1 rfl) rfl rfl (by kernel_rfl) rfl rfl q_g1 rfl ⟨(ne_ptr (pairAt f1.ps 0 1 (by decide) rfl rfl) u_g1 u_g2).symm,trivial⟩ trivial) <|
    hn) ?_
   intro a83 w83 f83
   refine wp_seq ?_
   have b_g3_220:=f83.kp (f82.k (f81.k (f77.k (f60.k (f37.k (f24.k (f16.k (f12.k (f8.k (f7.k (f6.k (f5.kp (f4.k b_g3) ⟨.inr (ne_ptr (pairAt f1.ps 0 2 (by decide) rfl rfl) u_g1 u_g3).symm,.inl rfl,trivial⟩)))))))))))) ⟨.inr (ne_ptr (pairAt f1.ps 0 2 (by decide) rfl rfl) u_g1 u_g3).symm,.inl rfl,trivial⟩
   have s3_221:=f83.q 3 s3_218
   have s6_222:=f83.q 6 (f82.q 6 (f81.q 6 (f77.q 6 (f60.q 6 (f37.q 6 (f24.q 6 (f16.q 6 (f12.q 6 (f8.q 6 (f7.q 6 (f6.q 6 (f5.q 6 (f4.q 6 u_g3)))))))))))))
   refine go_reg [bx g1 27 (mcC ((mA m x).upA (IntKind.u64.wrap ((IntKind.u64.wrap (m.a+(IntKind.u64.wrap (lenX x))))+(IntKind.u64.wrap x.imm))))),⟨g3,27,(mcC zM),some 1,(mcC ((mA m x).upA (IntKind.u64.wrap ((IntKind.u64.wrap (m.a+(IntKind.u64.wrap (lenX x))))+(IntKind.u64.wrap x.imm)))))⟩] [] [some (.agg (mcC ((mA m x).upA (IntKind.u64.wrap ((IntKind.u64.wrap (m.a+(IntKind.u64.wrap (lenX x))))+(IntKind.u64.wrap x.imm)))))),none,some (.int .i64 0)] mo f83.d f83.z f83.b (by kernel_rfl) ⟨f83.rows.1,b_g3_220,trivial⟩ (
    kq (fun cx=>ldMc rfl (cx.rq 3 s3_221) (cx.rn 0 rfl)) <|
    hk (fun cx=>cx.stR (wn rfl) rfl rfl 1 rfl (cx.rq 6 s6_222) (cx.u 0 rfl) (by kernel_rfl) (Eq.refl 22) (mcC_one _) q_g3 rfl ⟨(ne_ptr (pairAt f1.ps 0 2 (by decide) rfl rfl) u_g1 u_g3),trivial⟩ trivial) <|
    kq (fun cx=>ex_as rfl rfl) <|
    hn) ?_
   intro a84 w84 f84
   refine wp_ret ?_
   have s6_223:=f84.q 6 s6_222
   try simp only [Exit.inBlock,Exit.then]
   refine bodyPost_ret (res_ct (fn:=Tryz.f5) rfl s6_223 (load_row 27 f84.rows.2.1 Tryz.underlying27 rfl (by kernel_rfl)) (f84.vv 2)) f84.d ?_
   exact ⟨retV (doQ_some hm (eff_28 (mA m x) l hO28)),f84.b⟩
  have Ffk18:=Lib.hid fk18;clear fk18
  have b_g2_224:=f81.k b_g2_212
  have s4_225:=f81.q 4 s4_213
  refine go_reg [bx g2 30 (xC x)] [] [some (pt g2 0),some (.int .i8 x.op),oF,oF] mo f81.d f81.z f81.b (by kernel_rfl) ⟨b_g2_224,trivial⟩ (
   kq (fun cx=>ex_fa rfl (cx.rq 4 s4_225) (faExV30_0_0 _ _)) <|
   kq (fun cx=>ex_ld rfl (cx.u 0 rfl) (cx.rn 0 rfl) rfl Tryz.isAgg28) <|
   hk (fun cx=>cx.v (ex_eq (x:=.tmp 252) rfl cx.u0 rfl) rfl (congrArg Value.bool Ffk18.out)) <|
   kmu 0 <|
   hn) ?_
  intro a85 w85 f85
  refine wp_cond_false (f85.vv 3) ?_
  refine wp_seq ?_
  cases fk19:x.op == 30
  case true=>
   have Ffk19:=Lib.hid fk19;clear fk19
   have hO30:x.op=30:=by simpa using Ffk19.out
   have b_g2_226:=f85.k b_g2_224
   have s4_227:=f85.q 4 s4_225
   refine go_reg [bx g2 30 (xC x)] [] [some (pt g2 0),some (.int .i8 30),oT,oT] mo f85.d f85.z f85.b (by kernel_rfl) ⟨b_g2_226,trivial⟩ (
    kq (fun cx=>ex_fa rfl (cx.rq 4 s4_227) (faExV30_0_0 _ _)) <|
    hk (fun cx=>cx.v (ex_ld rfl (cx.u 0 rfl) (cx.rn 0 rfl) rfl Tryz.isAgg28) rfl (congrArg (Value.int .i8) hO30)) <|
    hk (fun cx=>cx.v (ex_eq (x:=.tmp 263) rfl cx.u0 rfl) rfl (congrArg Value.bool (by decide))) <|
    kmu 0 <|
    hn) ?_
   intro a86 w86 f86
   refine wp_cond_true (f86.vv 3) ?_
   refine wp_seq ?_
   have b_g1_228:=f86.k (f85.k (f81.k (f77.k (f60.k (f37.k (f24.k (f16.k (f12.k (f8.k (f7.k (f6.k f5.rows.1)))))))))))
   have s2_229:=f86.q 2 (f85.q 2 (f81.q 2 (f77.q 2 (f60.q 2 (f37.q 2 (f24.q 2 (f16.q 2 (f12.q 2 (f8.q 2 (f7.q 2 (f6.q 2 (f5.q 2 (f4.q 2 (f1.q 2 s2_0))))))))))))))
   have s3_230:=f86.q 3 (f85.q 3 (f81.q 3 (f77.q 3 (f60.q 3 (f37.q 3 (f24.q 3 (f16.q 3 (f12.q 3 (f8.q 3 (f7.q 3 (f6.q 3 (f5.q 3 s3_6))))))))))))
   refine go_reg [⟨g1,27,(mcC (mA m x)),some 2,(mcC ((mA m x).upA l))⟩] [] [some (.int .u64 l),some (pt g1 21),none] mo f86.d f86.z f86.b (by kernel_rfl) ⟨b_g1_228,trivial⟩ (
    kq (fun cx=>ex_mv rfl (cx.rq 2 s2_229)) <|
    kq (fun cx=>ex_fa rfl (cx.rq 3 s3_230) (faExV27_2_0 _ _)) <|
    hk (fun cx=>cx.stC (wn rfl) rfl rfl 0 rfl (cx.u 0 rfl) (cx.u 1 rfl) rfl rfl (by kernel_rfl) rfl rfl q_g1 rfl trivial trivial) <|
    hn) ?_
   intro a87 w87 f87
   have s3_231:=f87.q 3 s3_230
   refine go_reg [⟨g1,27,(mcC ((mA m x).upA l)),some 6,(mcC (((mA m x).upA l).setR 4 (IntKind.u64.wrap ((m.r 4)+8))))⟩] [] [some (pt g1 0),some (pt g1 (4)),some (.int .u64 (m.r 4)),some (.int .u64 (IntKind.u64.wrap ((m.r 4)+8))),some (pt g1 0),some (pt g1 (4)),none] mo f87.d f87.z f87.b (by kernel_rfl) ⟨f87.rows.1,trivial⟩ (
    kq (fun cx=>ex_fa rfl (cx.rq 3 s3_231) (faExV27_0_0 _ _)) <|
    hk (fun cx=>cx.v (ex_ia (n:=16) (sz:=1) rfl (cx.u 0 rfl) rfl Tryz.underlying23 (by kernel_rfl) (by omega) (by omega) (by omega)) rfl rfl) <|
    hk (fun cx=>cx.v (ldMcR (by omega) rfl (cx.u 0 rfl) (cx.rf 0 rfl (by kernel_rfl))) rfl rfl) <|
    kq (fun cx=>ex_add (x:=.tmp 269) rfl cx.u0 rfl) <|
    kq (fun cx=>ex_fa rfl (cx.rq 3 s3_231) (faExV27_0_0 _ _)) <|
    hk (fun cx=>cx.v (ex_ia (n:=16) (sz:=1) rfl (cx.u 0 rfl) rfl Tryz.underlying23 (by kernel_rfl) (by omega) (by omega) (by omega)) rfl rfl) <|
    hk (fun cx=>cx.stC (wn rfl) rfl rfl 0 rfl (cx.u 0 rfl) (cx.u 1 rfl) rfl rfl (by kernel_rfl) (by rw [mcC_size];simp only [Nat.blt_eq];omega) (mcC_set _ (by omega) _) q_g1 rfl trivial trivial) <|
    hn) ?_
   intro a88 w88 f88
   refine wp_seq ?_
   have b_g3_232:=f88.kp (f87.kp (f86.k (f85.k (f81.k (f77.k (f60.k (f37.k (f24.k (f16.k (f12.k (f8.k (f7.k (f6.k (f5.kp (f4.k b_g3) ⟨.inr (ne_ptr (pairAt f1.ps 0 2 (by decide) rfl rfl) u_g1 u_g3).symm,.inl rfl,trivial⟩))))))))))))) ⟨.inr (ne_ptr (pairAt f1.ps 0 2 (by decide) rfl rfl) u_g1 u_g3).symm,trivial⟩) ⟨.inr (ne_ptr (pairAt f1.ps 0 2 (by decide) rfl rfl) u_g1 u_g3).symm,trivial⟩
   have s3_233:=f88.q 3 s3_231
   have s6_234:=f88.q 6 (f87.q 6 (f86.q 6 (f85.q 6 (f81.q 6 (f77.q 6 (f60.q 6 (f37.q 6 (f24.q 6 (f16.q 6 (f12.q 6 (f8.q 6 (f7.q 6 (f6.q 6 (f5.q 6 (f4.q 6 u_g3)))))))))))))))
   refine go_reg [bx g1 27 (mcC (((mA m x).upA l).setR 4 (IntKind.u64.wrap ((m.r 4)+8)))),⟨g3,27,(mcC zM),some 1,(mcC (((mA m x).upA l).setR 4 (IntKind.u64.wrap ((m.r 4)+8))))⟩] [] [some (.agg (mcC (((mA m x).upA l).setR 4 (IntKind.u64.wrap ((m.r 4)+8))))),none,some (.int .i64 0)] mo f88.d f88.z f88.b (by kernel_rfl) ⟨f88.rows.1,b_g3_232,trivial⟩ (
    kq (fun cx=>ldMc rfl (cx.rq 3 s3_233) (cx.rn 0 rfl)) <|
    hk (fun cx=>cx.stR (wn rfl) rfl rfl 1 rfl (cx.rq 6 s6_234) (cx.u 0 rfl) (by kernel_rfl) (Eq.refl 22) (mcC_one _) q_g3 rfl ⟨(ne_ptr (pairAt f1.ps 0 2 (by decide) rfl rfl) u_g1 u_g3),trivial⟩ trivial) <|
    kq (fun cx=>ex_as rfl rfl) <|
    hn) ?_
   intro a89 w89 f89
   refine wp_ret ?_
   have s6_235:=f89.q 6 s6_234
   try simp only [Exit.inBlock,Exit.then]
   refine bodyPost_ret (res_ct (fn:=Tryz.f5) rfl s6_235 (load_row 27 f89.rows.2.1 Tryz.underlying27 rfl (by kernel_rfl)) (f89.vv 2)) f89.d ?_
   exact ⟨retV (doQ_some hm (eff_30 (mA m x) l hO30)),f89.b⟩
  have Ffk19:=Lib.hid fk19;clear fk19
  have b_g2_236:=f85.k b_g2_224
  have s4_237:=f85.q 4 s4_225
  refine go_reg [bx g2 30 (xC x)] [] [some (pt g2 0),some (.int .i8 x.op),oF,oF] mo f85.d f85.z f85.b (by kernel_rfl) ⟨b_g2_236,trivial⟩ (
   kq (fun cx=>ex_fa rfl (cx.rq 4 s4_237) (faExV30_0_0 _ _)) <|
   kq (fun cx=>ex_ld rfl (cx.u 0 rfl) (cx.rn 0 rfl) rfl Tryz.isAgg28) <|
   hk (fun cx=>cx.v (ex_eq (x:=.tmp 263) rfl cx.u0 rfl) rfl (congrArg Value.bool Ffk19.out)) <|
   kmu 0 <|
   hn) ?_
  intro a90 w90 f90
  refine wp_cond_false (f90.vv 3) ?_
  refine wp_seq ?_
  cases fk20:x.op == 31
  case true=>
   have Ffk20:=Lib.hid fk20;clear fk20
   have hO31:x.op=31:=by simpa using Ffk20.out
   have b_g2_238:=f90.k b_g2_236
   have s4_239:=f90.q 4 s4_237
   refine go_reg [bx g2 30 (xC x)] [] [some (pt g2 0),some (.int .i8 31),oT,oT] mo f90.d f90.z f90.b (by kernel_rfl) ⟨b_g2_238,trivial⟩ (
    kq (fun cx=>ex_fa rfl (cx.rq 4 s4_239) (faExV30_0_0 _ _)) <|
    hk (fun cx=>cx.v (ex_ld rfl (cx.u 0 rfl) (cx.rn 0 rfl) rfl Tryz.isAgg28) rfl (congrArg (Value.int .i8) hO31)) <|
    hk (fun cx=>cx.v (ex_eq (x:=.tmp 275) rfl cx.u0 rfl) rfl (congrArg Value.bool (by decide))) <|
    kmu 0 <|
    hn) ?_
   intro a91 w91 f91
   refine wp_cond_true (f91.vv 3) ?_
   refine wp_seq ?_
   have b_g1_240:=f91.k (f90.k (f85.k (f81.k (f77.k (f60.k (f37.k (f24.k (f16.k (f12.k (f8.k (f7.k (f6.k f5.rows.1))))))))))))
   have s2_241:=f91.q 2 (f90.q 2 (f85.q 2 (f81.q 2 (f77.q 2 (f60.q 2 (f37.q 2 (f24.q 2 (f16.q 2 (f12.q 2 (f8.q 2 (f7.q 2 (f6.q 2 (f5.q 2 (f4.q 2 (f1.q 2 s2_0)))))))))))))))
   have s3_242:=f91.q 3 (f90.q 3 (f85.q 3 (f81.q 3 (f77.q 3 (f60.q 3 (f37.q 3 (f24.q 3 (f16.q 3 (f12.q 3 (f8.q 3 (f7.q 3 (f6.q 3 (f5.q 3 s3_6)))))))))))))
   refine go_reg [⟨g1,27,(mcC (mA m x)),some 3,(mcC ((mA m x).setR 0 l))⟩] [] [some (.int .u64 l),some (pt g1 0),some (pt g1 (0)),none] mo f91.d f91.z f91.b (by kernel_rfl) ⟨b_g1_240,trivial⟩ (
    kq (fun cx=>ex_mv rfl (cx.rq 2 s2_241)) <|
    kq (fun cx=>ex_fa rfl (cx.rq 3 s3_242) (faExV27_0_0 _ _)) <|
    hk (fun cx=>cx.v (ex_ia (n:=16) (sz:=1) rfl (cx.u 0 rfl) rfl Tryz.underlying23 (by kernel_rfl) (by omega) (by omega) (by omega)) rfl rfl) <|
    hk (fun cx=>cx.stC (wn rfl) rfl rfl 0 rfl (cx.u 0 rfl) (cx.u 1 rfl) rfl rfl (by kernel_rfl) (by rw [mcC_size];simp only [Nat.blt_eq];omega) (mcC_set _ (by omega) _) q_g1 rfl trivial trivial) <|
    hn) ?_
   intro a92 w92 f92
   refine wp_seq ?_
   have s3_243:=f92.q 3 s3_242
   refine go_reg [⟨g1,27,(mcC ((mA m x).setR 0 l)),some 2,(mcC (((mA m x).setR 0 l).setR 1 0))⟩] [] [some (pt g1 0),some (pt g1 (1)),none] mo f92.d f92.z f92.b (by kernel_rfl) ⟨f92.rows.1,trivial⟩ (
    kq (fun cx=>ex_fa rfl (cx.rq 3 s3_243) (faExV27_0_0 _ _)) <|
    hk (fun cx=>cx.v (ex_ia (n:=16) (sz:=1) rfl (cx.u 0 rfl) rfl Tryz.underlying23 (by kernel_rfl) (by omega) (by omega) (by omega)) rfl rfl) <|
    hk (fun cx=>cx.stC (wn rfl) rfl rfl 0 rfl (cx.u 0 rfl) rfl rfl rfl (by kernel_rfl) (by rw [mcC_size];simp only [Nat.blt_eq];omega) (mcC_set _ (by omega) _) q_g1 rfl trivial trivial) <|
    hn) ?_
   intro a93 w93 f93
   have s3_244:=f93.q 3 s3_243
   refine go_reg [⟨g1,27,(mcC (((mA m x).setR 0 l).setR 1 0)),some 2,(mcC ((((mA m x).setR 0 l).setR 1 0).setR 11 0))⟩] [] [some (pt g1 0),some (pt g1 (11)),none] mo f93.d f93.z f93.b (by kernel_rfl) ⟨f93.rows.1,trivial⟩ (
    kq (fun cx=>ex_fa rfl (cx.rq 3 s3_244) (faExV27_0_0 _ _)) <|
    hk (fun cx=>cx.v (ex_ia (n:=16) (sz:=1) rfl (cx.u 0 rfl) rfl Tryz.underlying23 (by kernel_rfl) (by omega) (by omega) (by omega)) rfl rfl) <|
    hk (fun cx=>cx.stC (wn rfl) rfl rfl 0 rfl (cx.u 0 rfl) rfl rfl rfl (by kernel_rfl) (by rw [mcC_size];simp only [Nat.blt_eq];omega) (mcC_set _ (by omega) _) q_g1 rfl trivial trivial) <|
    hn) ?_
   intro a94 w94 f94
   refine wp_seq ?_
   have b_g3_245:=f94.kp (f93.kp (f92.kp (f91.k (f90.k (f85.k (f81.k (f77.k (f60.k (f37.k (f24.k (f16.k (f12.k (f8.k (f7.k (f6.k (f5.kp (f4.k b_g3) ⟨.inr (ne_ptr (pairAt f1.ps 0 2 (by decide) rfl rfl) u_g1 u_g3).symm,.inl rfl,trivial⟩)))))))))))))) ⟨.inr (ne_ptr (pairAt f1.ps 0 2 (by decide) rfl rfl) u_g1 u_g3).symm,trivial⟩) ⟨.inr (ne_ptr (pairAt f1.ps 0 2 (by decide) rfl rfl) u_g1 u_g3).symm,trivial⟩) ⟨.inr (ne_ptr (pairAt f1.ps 0 2 (by decide) rfl rfl) u_g1 u_g3).symm,trivial⟩
   have s3_246:=f94.q 3 s3_244
   have s6_247:=f94.q 6 (f93.q 6 (f92.q 6 (f91.q 6 (f90.q 6 (f85.q 6 (f81.q 6 (f77.q 6 (f60.q 6 (f37.q 6 (f24.q 6 (f16.q 6 (f12.q 6 (f8.q 6 (f7.q 6 (f6.q 6 (f5.q 6 (f4.q 6 u_g3)))))))))))))))))
   refine go_reg [bx g1 27 (mcC ((((mA m x).setR 0 l).setR 1 0).setR 11 0)),⟨g3,27,(mcC zM),some 1,(mcC ((((mA m x).setR 0 l).setR 1 0).setR 11 0))⟩] [] [some (.agg (mcC ((((mA m x).setR 0 l).setR 1 0).setR 11 0))),none,some (.int .i64 0)] mo f94.d f94.z f94.b (by kernel_rfl) ⟨f94.rows.1,b_g3_245,trivial⟩ (
    kq (fun cx=>ldMc rfl (cx.rq 3 s3_246) (cx.rn 0 rfl)) <|
    hk (fun cx=>cx.stR (wn rfl) rfl rfl 1 rfl (cx.rq 6 s6_247) (cx.u 0 rfl) (by kernel_rfl) (Eq.refl 22) (mcC_one _) q_g3 rfl ⟨(ne_ptr (pairAt f1.ps 0 2 (by decide) rfl rfl) u_g1 u_g3),trivial⟩ trivial) <|
    kq (fun cx=>ex_as rfl rfl) <|
    hn) ?_
   intro a95 w95 f95
   refine wp_ret ?_
   have s6_248:=f95.q 6 s6_247
   try simp only [Exit.inBlock,Exit.then]
   refine bodyPost_ret (res_ct (fn:=Tryz.f5) rfl s6_248 (load_row 27 f95.rows.2.1 Tryz.underlying27 rfl (by kernel_rfl)) (f95.vv 2)) f95.d ?_
   exact ⟨retV (doQ_some hm (eff_31 (mA m x) l hO31)),f95.b⟩
  have Ffk20:=Lib.hid fk20;clear fk20
  have b_g2_249:=f90.k b_g2_236
  have s4_250:=f90.q 4 s4_237
  refine go_reg [bx g2 30 (xC x)] [] [some (pt g2 0),some (.int .i8 x.op),oF,oF] mo f90.d f90.z f90.b (by kernel_rfl) ⟨b_g2_249,trivial⟩ (
   kq (fun cx=>ex_fa rfl (cx.rq 4 s4_250) (faExV30_0_0 _ _)) <|
   kq (fun cx=>ex_ld rfl (cx.u 0 rfl) (cx.rn 0 rfl) rfl Tryz.isAgg28) <|
   hk (fun cx=>cx.v (ex_eq (x:=.tmp 275) rfl cx.u0 rfl) rfl (congrArg Value.bool Ffk20.out)) <|
   kmu 0 <|
   hn) ?_
  intro a96 w96 f96
  refine wp_cond_false (f96.vv 3) ?_
  refine wp_skip ?_
  refine wp_seq ?_
  have b_g1_251:=f96.k (f90.k (f85.k (f81.k (f77.k (f60.k (f37.k (f24.k (f16.k (f12.k (f8.k (f7.k (f6.k f5.rows.1))))))))))))
  have b_g3_252:=f96.k (f90.k (f85.k (f81.k (f77.k (f60.k (f37.k (f24.k (f16.k (f12.k (f8.k (f7.k (f6.k (f5.kp (f4.k b_g3) ⟨.inr (ne_ptr (pairAt f1.ps 0 2 (by decide) rfl rfl) u_g1 u_g3).symm,.inl rfl,trivial⟩)))))))))))))
  have s3_253:=f96.q 3 (f90.q 3 (f85.q 3 (f81.q 3 (f77.q 3 (f60.q 3 (f37.q 3 (f24.q 3 (f16.q 3 (f12.q 3 (f8.q 3 (f7.q 3 (f6.q 3 (f5.q 3 s3_6)))))))))))))
  have s6_254:=f96.q 6 (f90.q 6 (f85.q 6 (f81.q 6 (f77.q 6 (f60.q 6 (f37.q 6 (f24.q 6 (f16.q 6 (f12.q 6 (f8.q 6 (f7.q 6 (f6.q 6 (f5.q 6 (f4.q 6 u_g3))))))))))))))
  refine go_reg [bx g1 27 (mcC (mA m x)),⟨g3,27,(mcC zM),some 1,(mcC (mA m x))⟩] [] [some (.agg (mcC (mA m x))),none,some (.int .i64 0)] mo f96.d f96.z f96.b (by kernel_rfl) ⟨b_g1_251,b_g3_252,trivial⟩ (
   kq (fun cx=>ldMc rfl (cx.rq 3 s3_253) (cx.rn 0 rfl)) <|
   hk (fun cx=>cx.stR (wn rfl) rfl rfl 1 rfl (cx.rq 6 s6_254) (cx.u 0 rfl) (by kernel_rfl) (Eq.refl 22) (mcC_one _) q_g3 rfl ⟨(ne_ptr (pairAt f1.ps 0 2 (by decide) rfl rfl) u_g1 u_g3),trivial⟩ trivial) <|
   kq (fun cx=>ex_as rfl rfl) <|
   hn) ?_
  intro a97 w97 f97
  refine wp_ret ?_
  have s6_255:=f97.q 6 s6_254
  try simp only [Exit.inBlock,Exit.then]
  refine bodyPost_ret (res_ct (fn:=Tryz.f5) rfl s6_255 (load_row 27 f97.rows.2.1 Tryz.underlying27 rfl (by kernel_rfl)) (f97.vv 2)) f97.d ?_
  have h27:x.op=27:=by
    have q:=And.intro Ffk2.out (And.intro Ffk3.out (And.intro Ffk4.out (And.intro Ffk5.out (And.intro Ffk6.out (And.intro Ffk9.out (And.intro Ffk13.out (And.intro Ffk17.out (And.intro Ffk18.out (And.intro Ffk19.out (And.intro Ffk20.out trivial))))))))))
    unfold isQ at q
    simp only [beq_eq_false_iff_ne,ne_eq,Bool.and_eq_false_iff,decide_eq_false_iff_not] at q
    omega
  exact ⟨retV (doQ_some hm (eff_27 (mA m x) l h27)),f97.b⟩
 have Ffk2:=Lib.hid fk2;clear fk2
 have b_g2_256:=f6.k b_g2_8
 have s4_257:=f6.q 4 s4_9
 refine go_reg [bx g2 30 (xC x)] [] [some (pt g2 0),some (.int .i8 x.op),some (.tuple #[.int .i8 (opQ x.op),.bool (isQ x.op)]),some (.tuple #[.int .i8 (opQ x.op),.bool (isQ x.op)]),some (.int .i8 (opQ x.op)),oT,some (.int .i8 (opQ x.op)),oT] mo f6.d f6.z f6.b (by kernel_rfl) ⟨b_g2_256,trivial⟩ (
  kq (fun cx=>ex_fa rfl (cx.rq 4 s4_257) (faExV30_0_0 _ _)) <|
  kq (fun cx=>ex_ld rfl (cx.u 0 rfl) (cx.rn 0 rfl) rfl Tryz.isAgg28) <|
  hc (fun _ _ wx cx=>cx.c rfl (args1 cx.u0) Tryz.func24 (by decide +kernel) (((qop_n x.op hop wx).mono (by rintro e w' ⟨rfl,rfl⟩;exact ⟨rfl,Below.refl _ _⟩))) rfl rfl) <|
  kmu 0 <|
  kq (fun cx=>ex_ext (x:=.tmp 38) rfl cx.u0 rfl) <|
  hk (fun cx=>cx.v (ex_ext (x:=.tmp 38) rfl cx.u0 rfl) rfl (congrArg Value.bool Ffk2.out)) <|
  kmu 0 <|
  kmu 0 <|
  hn) ?_
 intro a98 w98 f98
 refine wp_seq ?_
 refine wp_block ?_
 refine wp_seq ?_
 refine go_reg [] [] [oT,oT] mo f98.d f98.z f98.b (by kernel_rfl) trivial (
  kq (fun cx=>ex_mv rfl (cx.rq 10 (f98.vv 7))) <|
  kmu 0 <|
  hn) ?_
 intro a99 w99 f99
 refine wp_cond_true (f99.vv 1) ?_
 refine wp_seq ?_
 have b_g2_258:=f99.k (f98.k b_g2_256)
 have b_g1_259:=f99.k (f98.k (f6.k f5.rows.1))
 have s4_260:=f99.q 4 (f98.q 4 s4_257)
 have s3_261:=f99.q 3 (f98.q 3 (f6.q 3 (f5.q 3 s3_6)))
 refine go_reg [bx g2 30 (xC x),bx g1 27 (mcC (mA m x))] [] [some (pt g2 2),some (.int .i8 x.dst),some (pt g1 0),some (pt g1 (x.dst.toNat)),some (.int .u64 (m.r x.dst.toNat)),some (.agg (mcC (mA m x))),some (.agg (xC x)),some (.int .u64 (secQ m x)),some (.int .u64 (m.r x.dst.toNat)),some (.int .u64 (secQ m x))] mo f99.d f99.z f99.b (by kernel_rfl) ⟨b_g2_258,b_g1_259,trivial⟩ (
  kq (fun cx=>ex_fa rfl (cx.rq 4 s4_260) (faExV30_2_0 _ _)) <|
  kq (fun cx=>ex_ld rfl (cx.u 0 rfl) (cx.rn 0 rfl) rfl Tryz.isAgg28) <|
  kq (fun cx=>ex_fa rfl (cx.rq 3 s3_261) (faExV27_0_0 _ _)) <|
  hk (fun cx=>cx.v (ex_ia (n:=16) (sz:=1) rfl (cx.u 0 rfl) (cx.u 1 rfl) Tryz.underlying23 (by kernel_rfl) (by omega) (by omega) (by omega)) rfl rfl) <|
  hk (fun cx=>cx.v (ldMcR (by omega) rfl (cx.u 0 rfl) (cx.rn 1 rfl)) rfl rfl) <|
  kq (fun cx=>ldMc rfl (cx.rq 3 s3_261) (cx.rn 1 rfl)) <|
  kq (fun cx=>Mrm.ldX rfl (cx.rq 4 s4_260) (cx.rn 0 rfl)) <|
  hc (fun _ _ wx cx=>cx.c rfl (args2 cx.u0 cx.u1) Tryz.func25 (by decide +kernel) (qsec_n (mA m x) x wx hs) rfl rfl) <|
  kmu 0 <|
  kmu 0 <|
  hn) ?_
 intro a100 w100 f100
 refine wp_seq ?_
 have s9_262:=f100.q 9 (f99.q 9 (f98.vv 6))
 have s8_263:=f100.q 8 (f99.q 8 (f98.q 8 (f6.vv 2)))
 refine go_reg [] [] [some (.int .i8 (opQ x.op)),some (.int .i8 x.w),some (.int .u64 (m.r x.dst.toNat)),some (.int .u64 (secQ m x)),some (.tuple #[.int .u64 (doI (opQ x.op) x.w (m.r x.dst.toNat) (secQ m x)),.int .i64 (doE (opQ x.op) x.w)]),some (.tuple #[.int .u64 (doI (opQ x.op) x.w (m.r x.dst.toNat) (secQ m x)),.int .i64 (doE (opQ x.op) x.w)]),some (.int .u64 (doI (opQ x.op) x.w (m.r x.dst.toNat) (secQ m x))),some (.int .i64 (doE (opQ x.op) x.w)),some (.int .u64 (doI (opQ x.op) x.w (m.r x.dst.toNat) (secQ m x))),some (.int .i64 (doE (opQ x.op) x.w))] mo f100.d f100.z f100.b (by kernel_rfl) trivial (
  kq (fun cx=>ex_mv rfl (cx.rq 9 s9_262)) <|
  kq (fun cx=>ex_mv rfl (cx.rq 8 s8_263)) <|
  kq (fun cx=>ex_mv rfl (cx.rq 11 (f100.vv 8))) <|
  kq (fun cx=>ex_mv rfl (cx.rq 12 (f100.vv 9))) <|
  hc (fun _ _ wx cx=>cx.c rfl (args4 cx.u0 cx.u1 (cx.u 2 rfl) (cx.u 3 rfl)) Tryz.func26 (by decide +kernel) (((refdo_any (opQ x.op) x.w (m.r x.dst.toNat) (secQ m x) wx (hM.r _).1 (hM.r _).2 (U64.sec hM x).1 (U64.sec hM x).2).mono (by rintro e w' ⟨rfl,rfl⟩;exact ⟨rfl,Below.refl _ _⟩))) rfl rfl) <|
  kmu 0 <|
  kq (fun cx=>ex_ext (x:=.tmp 54) rfl cx.u0 rfl) <|
  kq (fun cx=>ex_ext (x:=.tmp 54) rfl cx.u0 rfl) <|
  kmu 0 <|
  kmu 0 <|
  hn) ?_
 intro a101 w101 f101
 refine wp_seq ?_
 have b_g1_264:=f101.k (f100.k b_g1_259)
 have s9_265:=f101.q 9 s9_262
 have s8_266:=f101.q 8 s8_263
 have s11_267:=f101.q 11 (f100.vv 8)
 have s12_268:=f101.q 12 (f100.vv 9)
 have s3_269:=f101.q 3 (f100.q 3 s3_261)
 refine go_reg [⟨g1,27,(mcC (mA m x)),some 7,(mcC ((mA m x).upF (flgQ (opQ x.op) x.w (m.r x.dst.toNat) (secQ m x) (doI (opQ x.op) x.w (m.r x.dst.toNat) (secQ m x)))))⟩] [] [some (.int .i8 (opQ x.op)),some (.int .i8 x.w),some (.int .u64 (m.r x.dst.toNat)),some (.int .u64 (secQ m x)),some (.int .u64 (doI (opQ x.op) x.w (m.r x.dst.toNat) (secQ m x))),some (.agg (fC (flgQ (opQ x.op) x.w (m.r x.dst.toNat) (secQ m x) (doI (opQ x.op) x.w (m.r x.dst.toNat) (secQ m x))))),some (pt g1 16),none] mo f101.d f101.z f101.b (by kernel_rfl) ⟨b_g1_264,trivial⟩ (
  kq (fun cx=>ex_mv rfl (cx.rq 9 s9_265)) <|
  kq (fun cx=>ex_mv rfl (cx.rq 8 s8_266)) <|
  kq (fun cx=>ex_mv rfl (cx.rq 11 s11_267)) <|
  kq (fun cx=>ex_mv rfl (cx.rq 12 s12_268)) <|
  kq (fun cx=>ex_mv rfl (cx.rq 13 (f101.vv 8))) <|
  hc (fun _ _ wx cx=>cx.c rfl (args5 cx.u0 cx.u1 (cx.u 2 rfl) (cx.u 3 rfl) (cx.u 4 rfl)) Tryz.func27 (by decide +kernel) (qflg_n (opQ x.op) x.w (m.r x.dst.toNat) (secQ m x) (doI (opQ x.op) x.w (m.r x.dst.toNat) (secQ m x)) wx (hM.r _) (U64.sec hM x) (U64.do_ _ _ (hM.r _) (U64.sec hM x))) rfl rfl) <|
  kq (fun cx=>ex_fa rfl (cx.rq 3 s3_269) (faExV27_1_0 _ _)) <|
  hk (fun cx=>cx.stP (wn rfl) rfl rfl 0 rfl (cx.u 0 rfl) (cx.u 1 rfl) (Flg.fC_one _) (by kernel_rfl) (Nat.le_of_ble_eq_true rfl) rfl q_g1 rfl trivial trivial) <|
  hn) ?_
 intro a102 w102 f102
 refine wp_seq ?_
 cases fk21:x.op != 7
 case false=>
  have Ffk21:=Lib.hid fk21;clear fk21
  have b_g2_270:=f102.kp (f101.k (f100.k b_g2_258)) ⟨.inr (ne_ptr (pairAt f1.ps 0 1 (by decide) rfl rfl) u_g1 u_g2).symm,trivial⟩
  have s4_271:=f102.q 4 (f101.q 4 (f100.q 4 s4_260))
  refine go_reg [bx g2 30 (xC x)] [] [some (pt g2 0),some (.int .i8 x.op),oF,oF,oU,oU,oU,oF,oF,oU,oU,oU,oF,oF,oU,oU,oU,oF] mo f102.d f102.z f102.b (by kernel_rfl) ⟨b_g2_270,trivial⟩ (
   kq (fun cx=>ex_fa rfl (cx.rq 4 s4_271) (faExV30_0_0 _ _)) <|
   kq (fun cx=>ex_ld rfl (cx.u 0 rfl) (cx.rn 0 rfl) rfl Tryz.isAgg28) <|
   hk (fun cx=>cx.v (ex_ne (x:=.tmp 70) rfl cx.u0 rfl) rfl (congrArg Value.bool Ffk21.out)) <|
   kmu 0 <|
   kno 0 <|
   kno 1 <|
   kno 1 <|
   kq (fun cx=>ex_pf rfl cx.u0 rfl) <|
   kmu 0 <|
   kno 0 <|
   kno 1 <|
   kno 1 <|
   kq (fun cx=>ex_pf rfl cx.u0 rfl) <|
   kmu 0 <|
   kno 0 <|
   kno 1 <|
   kno 1 <|
   kq (fun cx=>ex_pf rfl cx.u0 rfl) <|
   hn) ?_
  intro a103 w103 f103
  refine wp_cond_false (f103.vv 17) ?_
  refine wp_skip ?_
  refine wp_seq ?_
  have b_g1_272:=f103.k f102.rows.1
  have b_g3_273:=f103.k (f102.kp (f101.k (f100.k (f99.k (f98.k (f6.k (f5.kp (f4.k b_g3) ⟨.inr (ne_ptr (pairAt f1.ps 0 2 (by decide) rfl rfl) u_g1 u_g3).symm,.inl rfl,trivial⟩)))))) ⟨.inr (ne_ptr (pairAt f1.ps 0 2 (by decide) rfl rfl) u_g1 u_g3).symm,trivial⟩)
  have s3_274:=f103.q 3 (f102.q 3 s3_269)
  have s6_275:=f103.q 6 (f102.q 6 (f101.q 6 (f100.q 6 (f99.q 6 (f98.q 6 (f6.q 6 (f5.q 6 (f4.q 6 u_g3))))))))
  refine go_reg [bx g1 27 (mcC ((mA m x).upF (flgQ (opQ x.op) x.w (m.r x.dst.toNat) (secQ m x) (doI (opQ x.op) x.w (m.r x.dst.toNat) (secQ m x))))),⟨g3,27,(mcC zM),some 1,(mcC ((mA m x).upF (flgQ (opQ x.op) x.w (m.r x.dst.toNat) (secQ m x) (doI (opQ x.op) x.w (m.r x.dst.toNat) (secQ m x)))))⟩] [] [some (.agg (mcC ((mA m x).upF (flgQ (opQ x.op) x.w (m.r x.dst.toNat) (secQ m x) (doI (opQ x.op) x.w (m.r x.dst.toNat) (secQ m x)))))),none,some (.int .i64 0)] mo f103.d f103.z f103.b (by kernel_rfl) ⟨b_g1_272,b_g3_273,trivial⟩ (
   kq (fun cx=>ldMc rfl (cx.rq 3 s3_274) (cx.rn 0 rfl)) <|
   hk (fun cx=>cx.stR (wn rfl) rfl rfl 1 rfl (cx.rq 6 s6_275) (cx.u 0 rfl) (by kernel_rfl) (Eq.refl 22) (mcC_one _) q_g3 rfl ⟨(ne_ptr (pairAt f1.ps 0 2 (by decide) rfl rfl) u_g1 u_g3),trivial⟩ trivial) <|
   kq (fun cx=>ex_as rfl rfl) <|
   hn) ?_
  intro a104 w104 f104
  refine wp_ret ?_
  have s6_276:=f104.q 6 s6_275
  try simp only [Exit.inBlock,Exit.then]
  refine bodyPost_ret (res_ct (fn:=Tryz.f5) rfl s6_276 (load_row 27 f104.rows.2.1 Tryz.underlying27 rfl (by kernel_rfl)) (f104.vv 2)) f104.d ?_
  exact ⟨retV (doQ_some hm ((eff_is (mA m x) x l Ffk2.out).trans (by rw [show cmpQ x.op=true by unfold cmpQ;have q:=Ffk21.out;simp only [bne_eq_false_iff_eq] at q;rw [q];rfl];rfl))),f104.b⟩
 have Ffk21:=Lib.hid fk21;clear fk21
 cases fk22:x.op != 14
 case false=>
  have Ffk22:=Lib.hid fk22;clear fk22
  have b_g2_277:=f102.kp (f101.k (f100.k b_g2_258)) ⟨.inr (ne_ptr (pairAt f1.ps 0 1 (by decide) rfl rfl) u_g1 u_g2).symm,trivial⟩
  have s4_278:=f102.q 4 (f101.q 4 (f100.q 4 s4_260))
  refine go_reg [bx g2 30 (xC x)] [] [some (pt g2 0),some (.int .i8 x.op),oT,oT,some (pt g2 0),some (.int .i8 x.op),oF,oF,oF,oU,oU,oU,oF,oF,oU,oU,oU,oF] mo f102.d f102.z f102.b (by kernel_rfl) ⟨b_g2_277,trivial⟩ (
   kq (fun cx=>ex_fa rfl (cx.rq 4 s4_278) (faExV30_0_0 _ _)) <|
   kq (fun cx=>ex_ld rfl (cx.u 0 rfl) (cx.rn 0 rfl) rfl Tryz.isAgg28) <|
   hk (fun cx=>cx.v (ex_ne (x:=.tmp 70) rfl cx.u0 rfl) rfl (congrArg Value.bool Ffk21.out)) <|
   kmu 0 <|
   hk (fun cx=>cx.vy 0 (ex_fa rfl (cx.rq 4 s4_278) (faExV30_0_0 _ _))) <|
   hk (fun cx=>cx.vy 1 (ex_ld rfl (cx.u 0 rfl) (cx.rn 0 rfl) rfl Tryz.isAgg28)) <|
   hk (fun cx=>cx.vy 1 (ex_ne (x:=.tmp 74) rfl cx.u0 rfl) (congrArg Value.bool Ffk22.out)) <|
   kq (fun cx=>ex_pt rfl cx.u0 cx.u1) <|
   kmu 0 <|
   kno 0 <|
   kno 1 <|
   kno 1 <|
   kq (fun cx=>ex_pf rfl cx.u0 rfl) <|
   kmu 0 <|
   kno 0 <|
   kno 1 <|
   kno 1 <|
   kq (fun cx=>ex_pf rfl cx.u0 rfl) <|
   hn) ?_
  intro a105 w105 f105
  refine wp_cond_false (f105.vv 17) ?_
  refine wp_skip ?_
  refine wp_seq ?_
  have b_g1_279:=f105.k f102.rows.1
  have b_g3_280:=f105.k (f102.kp (f101.k (f100.k (f99.k (f98.k (f6.k (f5.kp (f4.k b_g3) ⟨.inr (ne_ptr (pairAt f1.ps 0 2 (by decide) rfl rfl) u_g1 u_g3).symm,.inl rfl,trivial⟩)))))) ⟨.inr (ne_ptr (pairAt f1.ps 0 2 (by decide) rfl rfl) u_g1 u_g3).symm,trivial⟩)
  have s3_281:=f105.q 3 (f102.q 3 s3_269)
  have s6_282:=f105.q 6 (f102.q 6 (f101.q 6 (f100.q 6 (f99.q 6 (f98.q 6 (f6.q 6 (f5.q 6 (f4.q 6 u_g3))))))))
  refine go_reg [bx g1 27 (mcC ((mA m x).upF (flgQ (opQ x.op) x.w (m.r x.dst.toNat) (secQ m x) (doI (opQ x.op) x.w (m.r x.dst.toNat) (secQ m x))))),⟨g3,27,(mcC zM),some 1,(mcC ((mA m x).upF (flgQ (opQ x.op) x.w (m.r x.dst.toNat) (secQ m x) (doI (opQ x.op) x.w (m.r x.dst.toNat) (secQ m x)))))⟩] [] [some (.agg (mcC ((mA m x).upF (flgQ (opQ x.op) x.w (m.r x.dst.toNat) (secQ m x) (doI (opQ x.op) x.w (m.r x.dst.toNat) (secQ m x)))))),none,some (.int .i64 0)] mo f105.d f105.z f105.b (by kernel_rfl) ⟨b_g1_279,b_g3_280,trivial⟩ (
   kq (fun cx=>ldMc rfl (cx.rq 3 s3_281) (cx.rn 0 rfl)) <|
   hk (fun cx=>cx.stR (wn rfl) rfl rfl 1 rfl (cx.rq 6 s6_282) (cx.u 0 rfl) (by kernel_rfl) (Eq.refl 22) (mcC_one _) q_g3 rfl ⟨(ne_ptr (pairAt f1.ps 0 2 (by decide) rfl rfl) u_g1 u_g3),trivial⟩ trivial) <|
   kq (fun cx=>ex_as rfl rfl) <|
   hn) ?_
  intro a106 w106 f106
  refine wp_ret ?_
  have s6_283:=f106.q 6 s6_282
  try simp only [Exit.inBlock,Exit.then]
  refine bodyPost_ret (res_ct (fn:=Tryz.f5) rfl s6_283 (load_row 27 f106.rows.2.1 Tryz.underlying27 rfl (by kernel_rfl)) (f106.vv 2)) f106.d ?_
  exact ⟨retV (doQ_some hm ((eff_is (mA m x) x l Ffk2.out).trans (by rw [show cmpQ x.op=true by unfold cmpQ;have q:=Ffk22.out;simp only [bne_eq_false_iff_eq] at q;rw [q];rfl];rfl))),f106.b⟩
 have Ffk22:=Lib.hid fk22;clear fk22
 cases fk23:x.op != 8
 case false=>
  have Ffk23:=Lib.hid fk23;clear fk23
  have b_g2_284:=f102.kp (f101.k (f100.k b_g2_258)) ⟨.inr (ne_ptr (pairAt f1.ps 0 1 (by decide) rfl rfl) u_g1 u_g2).symm,trivial⟩
  have s4_285:=f102.q 4 (f101.q 4 (f100.q 4 s4_260))
  refine go_reg [bx g2 30 (xC x)] [] [some (pt g2 0),some (.int .i8 x.op),oT,oT,some (pt g2 0),some (.int .i8 x.op),oT,oT,oT,some (pt g2 0),some (.int .i8 x.op),oF,oF,oF,oU,oU,oU,oF] mo f102.d f102.z f102.b (by kernel_rfl) ⟨b_g2_284,trivial⟩ (
   kq (fun cx=>ex_fa rfl (cx.rq 4 s4_285) (faExV30_0_0 _ _)) <|
   kq (fun cx=>ex_ld rfl (cx.u 0 rfl) (cx.rn 0 rfl) rfl Tryz.isAgg28) <|
   hk (fun cx=>cx.v (ex_ne (x:=.tmp 70) rfl cx.u0 rfl) rfl (congrArg Value.bool Ffk21.out)) <|
   kmu 0 <|
   hk (fun cx=>cx.vy 0 (ex_fa rfl (cx.rq 4 s4_285) (faExV30_0_0 _ _))) <|
   hk (fun cx=>cx.vy 1 (ex_ld rfl (cx.u 0 rfl) (cx.rn 0 rfl) rfl Tryz.isAgg28)) <|
   hk (fun cx=>cx.vy 1 (ex_ne (x:=.tmp 74) rfl cx.u0 rfl) (congrArg Value.bool Ffk22.out)) <|
   kq (fun cx=>ex_pt rfl cx.u0 cx.u1) <|
   kmu 0 <|
   hk (fun cx=>cx.vy 0 (ex_fa rfl (cx.rq 4 s4_285) (faExV30_0_0 _ _))) <|
   hk (fun cx=>cx.vy 1 (ex_ld rfl (cx.u 0 rfl) (cx.rn 0 rfl) rfl Tryz.isAgg28)) <|
   hk (fun cx=>cx.vy 1 (ex_ne (x:=.tmp 79) rfl cx.u0 rfl) (congrArg Value.bool Ffk23.out)) <|
   kq (fun cx=>ex_pt rfl cx.u0 cx.u1) <|
   kmu 0 <|
   kno 0 <|
   kno 1 <|
   kno 1 <|
   kq (fun cx=>ex_pf rfl cx.u0 rfl) <|
   hn) ?_
  intro a107 w107 f107
  refine wp_cond_false (f107.vv 17) ?_
  refine wp_skip ?_
  refine wp_seq ?_
  have b_g1_286:=f107.k f102.rows.1
  have b_g3_287:=f107.k (f102.kp (f101.k (f100.k (f99.k (f98.k (f6.k (f5.kp (f4.k b_g3) ⟨.inr (ne_ptr (pairAt f1.ps 0 2 (by decide) rfl rfl) u_g1 u_g3).symm,.inl rfl,trivial⟩)))))) ⟨.inr (ne_ptr (pairAt f1.ps 0 2 (by decide) rfl rfl) u_g1 u_g3).symm,trivial⟩)
  have s3_288:=f107.q 3 (f102.q 3 s3_269)
  have s6_289:=f107.q 6 (f102.q 6 (f101.q 6 (f100.q 6 (f99.q 6 (f98.q 6 (f6.q 6 (f5.q 6 (f4.q 6 u_g3))))))))
  refine go_reg [bx g1 27 (mcC ((mA m x).upF (flgQ (opQ x.op) x.w (m.r x.dst.toNat) (secQ m x) (doI (opQ x.op) x.w (m.r x.dst.toNat) (secQ m x))))),⟨g3,27,(mcC zM),some 1,(mcC ((mA m x).upF (flgQ (opQ x.op) x.w (m.r x.dst.toNat) (secQ m x) (doI (opQ x.op) x.w (m.r x.dst.toNat) (secQ m x)))))⟩] [] [some (.agg (mcC ((mA m x).upF (flgQ (opQ x.op) x.w (m.r x.dst.toNat) (secQ m x) (doI (opQ x.op) x.w (m.r x.dst.toNat) (secQ m x)))))),none,some (.int .i64 0)] mo f107.d f107.z f107.b (by kernel_rfl) ⟨b_g1_286,b_g3_287,trivial⟩ (
   kq (fun cx=>ldMc rfl (cx.rq 3 s3_288) (cx.rn 0 rfl)) <|
   hk (fun cx=>cx.stR (wn rfl) rfl rfl 1 rfl (cx.rq 6 s6_289) (cx.u 0 rfl) (by kernel_rfl) (Eq.refl 22) (mcC_one _) q_g3 rfl ⟨(ne_ptr (pairAt f1.ps 0 2 (by decide) rfl rfl) u_g1 u_g3),trivial⟩ trivial) <|
   kq (fun cx=>ex_as rfl rfl) <|
   hn) ?_
  intro a108 w108 f108
  refine wp_ret ?_
  have s6_290:=f108.q 6 s6_289
  try simp only [Exit.inBlock,Exit.then]
  refine bodyPost_ret (res_ct (fn:=Tryz.f5) rfl s6_290 (load_row 27 f108.rows.2.1 Tryz.underlying27 rfl (by kernel_rfl)) (f108.vv 2)) f108.d ?_
  exact ⟨retV (doQ_some hm ((eff_is (mA m x) x l Ffk2.out).trans (by rw [show cmpQ x.op=true by unfold cmpQ;have q:=Ffk23.out;simp only [bne_eq_false_iff_eq] at q;rw [q];rfl];rfl))),f108.b⟩
 have Ffk23:=Lib.hid fk23;clear fk23
 cases fk24:x.op != 15
 case false=>
  have Ffk24:=Lib.hid fk24;clear fk24
  have b_g2_291:=f102.kp (f101.k (f100.k b_g2_258)) ⟨.inr (ne_ptr (pairAt f1.ps 0 1 (by decide) rfl rfl) u_g1 u_g2).symm,trivial⟩
  have s4_292:=f102.q 4 (f101.q 4 (f100.q 4 s4_260))
  refine go_reg [bx g2 30 (xC x)] [] [some (pt g2 0),some (.int .i8 x.op),oT,oT,some (pt g2 0),some (.int .i8 x.op),oT,oT,oT,some (pt g2 0),some (.int .i8 x.op),oT,oT,oT,some (pt g2 0),some (.int .i8 x.op),oF,oF] mo f102.d f102.z f102.b (by kernel_rfl) ⟨b_g2_291,trivial⟩ (
   kq (fun cx=>ex_fa rfl (cx.rq 4 s4_292) (faExV30_0_0 _ _)) <|
   kq (fun cx=>ex_ld rfl (cx.u 0 rfl) (cx.rn 0 rfl) rfl Tryz.isAgg28) <|
   hk (fun cx=>cx.v (ex_ne (x:=.tmp 70) rfl cx.u0 rfl) rfl (congrArg Value.bool Ffk21.out)) <|
   kmu 0 <|
   hk (fun cx=>cx.vy 0 (ex_fa rfl (cx.rq 4 s4_292) (faExV30_0_0 _ _))) <|
   hk (fun cx=>cx.vy 1 (ex_ld rfl (cx.u 0 rfl) (cx.rn 0 rfl) rfl Tryz.isAgg28)) <|
   hk (fun cx=>cx.vy 1 (ex_ne (x:=.tmp 74) rfl cx.u0 rfl) (congrArg Value.bool Ffk22.out)) <|
   kq (fun cx=>ex_pt rfl cx.u0 cx.u1) <|
   kmu 0 <|
   hk (fun cx=>cx.vy 0 (ex_fa rfl (cx.rq 4 s4_292) (faExV30_0_0 _ _))) <|
   hk (fun cx=>cx.vy 1 (ex_ld rfl (cx.u 0 rfl) (cx.rn 0 rfl) rfl Tryz.isAgg28)) <|
   hk (fun cx=>cx.vy 1 (ex_ne (x:=.tmp 79) rfl cx.u0 rfl) (congrArg Value.bool Ffk23.out)) <|
   kq (fun cx=>ex_pt rfl cx.u0 cx.u1) <|
   kmu 0 <|
   hk (fun cx=>cx.vy 0 (ex_fa rfl (cx.rq 4 s4_292) (faExV30_0_0 _ _))) <|
   hk (fun cx=>cx.vy 1 (ex_ld rfl (cx.u 0 rfl) (cx.rn 0 rfl) rfl Tryz.isAgg28)) <|
   hk (fun cx=>cx.vy 1 (ex_ne (x:=.tmp 84) rfl cx.u0 rfl) (congrArg Value.bool Ffk24.out)) <|
   kq (fun cx=>ex_pt rfl cx.u0 cx.u1) <|
   hn) ?_
  intro a109 w109 f109
  refine wp_cond_false (f109.vv 17) ?_
  refine wp_skip ?_
  refine wp_seq ?_
  have b_g1_293:=f109.k f102.rows.1
  have b_g3_294:=f109.k (f102.kp (f101.k (f100.k (f99.k (f98.k (f6.k (f5.kp (f4.k b_g3) ⟨.inr (ne_ptr (pairAt f1.ps 0 2 (by decide) rfl rfl) u_g1 u_g3).symm,.inl rfl,trivial⟩)))))) ⟨.inr (ne_ptr (pairAt f1.ps 0 2 (by decide) rfl rfl) u_g1 u_g3).symm,trivial⟩)
  have s3_295:=f109.q 3 (f102.q 3 s3_269)
  have s6_296:=f109.q 6 (f102.q 6 (f101.q 6 (f100.q 6 (f99.q 6 (f98.q 6 (f6.q 6 (f5.q 6 (f4.q 6 u_g3))))))))
  refine go_reg [bx g1 27 (mcC ((mA m x).upF (flgQ (opQ x.op) x.w (m.r x.dst.toNat) (secQ m x) (doI (opQ x.op) x.w (m.r x.dst.toNat) (secQ m x))))),⟨g3,27,(mcC zM),some 1,(mcC ((mA m x).upF (flgQ (opQ x.op) x.w (m.r x.dst.toNat) (secQ m x) (doI (opQ x.op) x.w (m.r x.dst.toNat) (secQ m x)))))⟩] [] [some (.agg (mcC ((mA m x).upF (flgQ (opQ x.op) x.w (m.r x.dst.toNat) (secQ m x) (doI (opQ x.op) x.w (m.r x.dst.toNat) (secQ m x)))))),none,some (.int .i64 0)] mo f109.d f109.z f109.b (by kernel_rfl) ⟨b_g1_293,b_g3_294,trivial⟩ (
   kq (fun cx=>ldMc rfl (cx.rq 3 s3_295) (cx.rn 0 rfl)) <|
   hk (fun cx=>cx.stR (wn rfl) rfl rfl 1 rfl (cx.rq 6 s6_296) (cx.u 0 rfl) (by kernel_rfl) (Eq.refl 22) (mcC_one _) q_g3 rfl ⟨(ne_ptr (pairAt f1.ps 0 2 (by decide) rfl rfl) u_g1 u_g3),trivial⟩ trivial) <|
   kq (fun cx=>ex_as rfl rfl) <|
   hn) ?_
  intro a110 w110 f110
  refine wp_ret ?_
  have s6_297:=f110.q 6 s6_296
  try simp only [Exit.inBlock,Exit.then]
  refine bodyPost_ret (res_ct (fn:=Tryz.f5) rfl s6_297 (load_row 27 f110.rows.2.1 Tryz.underlying27 rfl (by kernel_rfl)) (f110.vv 2)) f110.d ?_
  exact ⟨retV (doQ_some hm ((eff_is (mA m x) x l Ffk2.out).trans (by rw [show cmpQ x.op=true by unfold cmpQ;have q:=Ffk24.out;simp only [bne_eq_false_iff_eq] at q;rw [q];rfl];rfl))),f110.b⟩
 have Ffk24:=Lib.hid fk24;clear fk24
 have b_g2_298:=f102.kp (f101.k (f100.k b_g2_258)) ⟨.inr (ne_ptr (pairAt f1.ps 0 1 (by decide) rfl rfl) u_g1 u_g2).symm,trivial⟩
 have s4_299:=f102.q 4 (f101.q 4 (f100.q 4 s4_260))
 refine go_reg [bx g2 30 (xC x)] [] [some (pt g2 0),some (.int .i8 x.op),oT,oT,some (pt g2 0),some (.int .i8 x.op),oT,oT,oT,some (pt g2 0),some (.int .i8 x.op),oT,oT,oT,some (pt g2 0),some (.int .i8 x.op),oT,oT] mo f102.d f102.z f102.b (by kernel_rfl) ⟨b_g2_298,trivial⟩ (
  kq (fun cx=>ex_fa rfl (cx.rq 4 s4_299) (faExV30_0_0 _ _)) <|
  kq (fun cx=>ex_ld rfl (cx.u 0 rfl) (cx.rn 0 rfl) rfl Tryz.isAgg28) <|
  hk (fun cx=>cx.v (ex_ne (x:=.tmp 70) rfl cx.u0 rfl) rfl (congrArg Value.bool Ffk21.out)) <|
  kmu 0 <|
  hk (fun cx=>cx.vy 0 (ex_fa rfl (cx.rq 4 s4_299) (faExV30_0_0 _ _))) <|
  hk (fun cx=>cx.vy 1 (ex_ld rfl (cx.u 0 rfl) (cx.rn 0 rfl) rfl Tryz.isAgg28)) <|
  hk (fun cx=>cx.vy 1 (ex_ne (x:=.tmp 74) rfl cx.u0 rfl) (congrArg Value.bool Ffk22.out)) <|
  kq (fun cx=>ex_pt rfl cx.u0 cx.u1) <|
  kmu 0 <|
  hk (fun cx=>cx.vy 0 (ex_fa rfl (cx.rq 4 s4_299) (faExV30_0_0 _ _))) <|
  hk (fun cx=>cx.vy 1 (ex_ld rfl (cx.u 0 rfl) (cx.rn 0 rfl) rfl Tryz.isAgg28)) <|
  hk (fun cx=>cx.vy 1 (ex_ne (x:=.tmp 79) rfl cx.u0 rfl) (congrArg Value.bool Ffk23.out)) <|
  kq (fun cx=>ex_pt rfl cx.u0 cx.u1) <|
  kmu 0 <|
  hk (fun cx=>cx.vy 0 (ex_fa rfl (cx.rq 4 s4_299) (faExV30_0_0 _ _))) <|
  hk (fun cx=>cx.vy 1 (ex_ld rfl (cx.u 0 rfl) (cx.rn 0 rfl) rfl Tryz.isAgg28)) <|
  hk (fun cx=>cx.vy 1 (ex_ne (x:=.tmp 84) rfl cx.u0 rfl) (congrArg Value.bool Ffk24.out)) <|
  kq (fun cx=>ex_pt rfl cx.u0 cx.u1) <|
  hn) ?_
 intro a111 w111 f111
 refine wp_cond_true (f111.vv 17) ?_
 have b_g2_300:=f111.k b_g2_298
 have b_g1_301:=f111.k f102.rows.1
 have s4_302:=f111.q 4 s4_299
 have s13_303:=f111.q 13 (f102.q 13 (f101.vv 8))
 have s3_304:=f111.q 3 (f102.q 3 s3_269)
 refine go_reg [bx g2 30 (xC x),⟨g1,27,(mcC ((mA m x).upF (flgQ (opQ x.op) x.w (m.r x.dst.toNat) (secQ m x) (doI (opQ x.op) x.w (m.r x.dst.toNat) (secQ m x))))),some 5,(mcC (((mA m x).upF (flgQ (opQ x.op) x.w (m.r x.dst.toNat) (secQ m x) (doI (opQ x.op) x.w (m.r x.dst.toNat) (secQ m x)))).setR x.dst.toNat (doI (opQ x.op) x.w (m.r x.dst.toNat) (secQ m x))))⟩] [] [some (pt g2 2),some (.int .i8 x.dst),some (.int .u64 (doI (opQ x.op) x.w (m.r x.dst.toNat) (secQ m x))),some (pt g1 0),some (pt g1 (x.dst.toNat)),none] mo f111.d f111.z f111.b (by kernel_rfl) ⟨b_g2_300,b_g1_301,trivial⟩ (
  kq (fun cx=>ex_fa rfl (cx.rq 4 s4_302) (faExV30_2_0 _ _)) <|
  kq (fun cx=>ex_ld rfl (cx.u 0 rfl) (cx.rn 0 rfl) rfl Tryz.isAgg28) <|
  kq (fun cx=>ex_mv rfl (cx.rq 13 s13_303)) <|
  kq (fun cx=>ex_fa rfl (cx.rq 3 s3_304) (faExV27_0_0 _ _)) <|
  hk (fun cx=>cx.v (ex_ia (n:=16) (sz:=1) rfl (cx.u 0 rfl) (cx.u 1 rfl) Tryz.underlying23 (by kernel_rfl) (by omega) (by omega) (by omega)) rfl rfl) <|
  hk (fun cx=>cx.stC (wn rfl) rfl rfl 1 rfl (cx.u 0 rfl) (cx.u 1 rfl) rfl rfl (by kernel_rfl) (by rw [mcC_size];simp only [Nat.blt_eq];omega) (mcC_set _ (by omega) _) q_g1 rfl ⟨(ne_ptr (pairAt f1.ps 0 1 (by decide) rfl rfl) u_g1 u_g2).symm,trivial⟩ trivial) <|
  hn) ?_
 intro a112 w112 f112
 refine wp_seq ?_
 have b_g3_305:=f112.kp (f111.k (f102.kp (f101.k (f100.k (f99.k (f98.k (f6.k (f5.kp (f4.k b_g3) ⟨.inr (ne_ptr (pairAt f1.ps 0 2 (by decide) rfl rfl) u_g1 u_g3).symm,.inl rfl,trivial⟩)))))) ⟨.inr (ne_ptr (pairAt f1.ps 0 2 (by decide) rfl rfl) u_g1 u_g3).symm,trivial⟩)) ⟨.inl rfl,.inr (ne_ptr (pairAt f1.ps 0 2 (by decide) rfl rfl) u_g1 u_g3).symm,trivial⟩
 have s3_306:=f112.q 3 s3_304
 have s6_307:=f112.q 6 (f111.q 6 (f102.q 6 (f101.q 6 (f100.q 6 (f99.q 6 (f98.q 6 (f6.q 6 (f5.q 6 (f4.q 6 u_g3)))))))))
 refine go_reg [bx g1 27 (mcC (((mA m x).upF (flgQ (opQ x.op) x.w (m.r x.dst.toNat) (secQ m x) (doI (opQ x.op) x.w (m.r x.dst.toNat) (secQ m x)))).setR x.dst.toNat (doI (opQ x.op) x.w (m.r x.dst.toNat) (secQ m x)))),⟨g3,27,(mcC zM),some 1,(mcC (((mA m x).upF (flgQ (opQ x.op) x.w (m.r x.dst.toNat) (secQ m x) (doI (opQ x.op) x.w (m.r x.dst.toNat) (secQ m x)))).setR x.dst.toNat (doI (opQ x.op) x.w (m.r x.dst.toNat) (secQ m x))))⟩] [] [some (.agg (mcC (((mA m x).upF (flgQ (opQ x.op) x.w (m.r x.dst.toNat) (secQ m x) (doI (opQ x.op) x.w (m.r x.dst.toNat) (secQ m x)))).setR x.dst.toNat (doI (opQ x.op) x.w (m.r x.dst.toNat) (secQ m x))))),none,some (.int .i64 0)] mo f112.d f112.z f112.b (by kernel_rfl) ⟨f112.rows.2.1,b_g3_305,trivial⟩ (
  kq (fun cx=>ldMc rfl (cx.rq 3 s3_306) (cx.rn 0 rfl)) <|
  hk (fun cx=>cx.stR (wn rfl) rfl rfl 1 rfl (cx.rq 6 s6_307) (cx.u 0 rfl) (by kernel_rfl) (Eq.refl 22) (mcC_one _) q_g3 rfl ⟨(ne_ptr (pairAt f1.ps 0 2 (by decide) rfl rfl) u_g1 u_g3),trivial⟩ trivial) <|
  kq (fun cx=>ex_as rfl rfl) <|
  hn) ?_
 intro a113 w113 f113
 refine wp_ret ?_
 have s6_308:=f113.q 6 s6_307
 try simp only [Exit.inBlock,Exit.then]
 refine bodyPost_ret (res_ct (fn:=Tryz.f5) rfl s6_308 (load_row 27 f113.rows.2.1 Tryz.underlying27 rfl (by kernel_rfl)) (f113.vv 2)) f113.d ?_
 exact ⟨retV (doQ_some hm ((eff_is (mA m x) x l Ffk2.out).trans (by rw [show cmpQ x.op=false by unfold cmpQ;have q7:=Ffk21.out;have q14:=Ffk22.out;have q8:=Ffk23.out;have q15:=Ffk24.out;simp_all];rfl))),f113.b⟩
end Go.Proofs.YtjhedldplmhmjaaGreatDoor.Exe
