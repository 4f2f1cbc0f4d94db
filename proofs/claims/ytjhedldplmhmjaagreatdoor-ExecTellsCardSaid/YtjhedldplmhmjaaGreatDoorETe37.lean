import Derived.Test.YtjhedldplmhmjaaGreatDoorETe29
import Derived.Test.YtjhedldplmhmjaaGreatDoorETe32
import Derived.Test.YtjhedldplmhmjaaGreatDoorETe36
set_option maxHeartbeats 4000000
set_option linter.unusedVariables false
set_option linter.unusedSimpArgs false
set_option linter.unnecessarySimpa false
namespace Go.Proofs.YtjhedldplmhmjaaGreatDoor.Exe
open Go Go.RowKit
open Mrm (Xi xC zX mayX bytesX)
open Flg (Fl fC zF addF subF ofF holF holE mayC parts5 ex_beq ex_bne)
set_option maxRecDepth 100000
theorem faExU30_0_0 (g:Nat)(w:World):(Instr.fieldAt 30 (.pointer (some ⟨g,0,none⟩)) 0).run Tryz.prog w=.ok (.pointer (some ⟨g,0,none⟩)) w:=by simp [go_sem]
theorem faExU30_6_0 (g:Nat)(w:World):(Instr.fieldAt 30 (.pointer (some ⟨g,0,none⟩)) 6).run Tryz.prog w=.ok (.pointer (some ⟨g,6,none⟩)) w:=by simp [go_sem]
theorem faExU27_0_0 (g:Nat)(w:World):(Instr.fieldAt 27 (.pointer (some ⟨g,0,none⟩)) 0).run Tryz.prog w=.ok (.pointer (some ⟨g,0,none⟩)) w:=by simp [go_sem]
theorem faExU30_3_0 (g:Nat)(w:World):(Instr.fieldAt 30 (.pointer (some ⟨g,0,none⟩)) 3).run Tryz.prog w=.ok (.pointer (some ⟨g,3,none⟩)) w:=by simp [go_sem]
def opQ (k:Int):Int:=if k=2∨k=9 then 0 else if k=3∨k=10 then 4 else if k=4∨k=11∨k=8∨k=15 then 5 else if k=5∨k=12∨k=7∨k=14 then 1 else if k=6∨k=13 then 10 else if k=16 then 2 else if k=17∨k=20 then 6 else if k=18∨k=21 then 7 else if k=19∨k=22 then 12 else 0
def isQ (k:Int):Bool:=decide (2≤k) && decide (k≤22)
def secQ (m:Mc)(x:Xi):Int:=if Mrm.clsI x.op=2∨Mrm.clsI x.op=3 then IntKind.u64.wrap x.imm else if Mrm.clsI x.op=4 then m.r 1 else m.r x.src.toNat
def flgQ (o w a b v:Int):Fl:=if o=0 then addF w a b else if o=1 then subF w a b else if o=4∨o=5∨o=10 then ofF w v else zF
theorem isQ_out {k:Int}(h:isQ k=true):k=2∨k=3∨k=4∨k=5∨k=6∨k=7∨k=8∨k=9∨k=10∨k=11∨k=12∨k=13∨k=14∨k=15∨k=16∨k=17∨k=18∨k=19∨k=20∨k=21∨k=22:=by
 unfold isQ at h
 simp only [Bool.and_eq_true,decide_eq_true_eq] at h
 omega
def cmpQ (k:Int):Bool:=k == 7 || k == 14 || k == 8 || k == 15
theorem eff_is (m:Mc)(x:Xi)(l:Int)(h:isQ x.op=true):effX m x l=some (bif cmpQ x.op then m.upF (flgQ (opQ x.op) x.w (m.r x.dst.toNat) (secQ m x) (doI (opQ x.op) x.w (m.r x.dst.toNat) (secQ m x))) else (m.upF (flgQ (opQ x.op) x.w (m.r x.dst.toNat) (secQ m x) (doI (opQ x.op) x.w (m.r x.dst.toNat) (secQ m x)))).setR x.dst.toNat (doI (opQ x.op) x.w (m.r x.dst.toNat) (secQ m x))):=by
 rcases isQ_out h with e | e | e | e | e | e | e | e | e | e | e | e | e | e | e | e | e | e | e | e | e
 ·rw [eff_2 m l e];unfold cmpQ flgQ secQ opQ;simp only [e];rfl
 ·rw [eff_3 m l e];unfold cmpQ flgQ secQ opQ;simp only [e];rfl
 ·rw [eff_4 m l e];unfold cmpQ flgQ secQ opQ;simp only [e];rfl
 ·rw [eff_5 m l e];unfold cmpQ flgQ secQ opQ;simp only [e];rfl
 ·rw [eff_6 m l e];unfold cmpQ flgQ secQ opQ;simp only [e];rfl
 ·rw [eff_7 m l e];unfold cmpQ flgQ secQ opQ;simp only [e];rfl
 ·rw [eff_8 m l e];unfold cmpQ flgQ secQ opQ;simp only [e];rfl
 ·rw [eff_9 m l e];unfold cmpQ flgQ secQ opQ;simp only [e];rfl
 ·rw [eff_10 m l e];unfold cmpQ flgQ secQ opQ;simp only [e];rfl
 ·rw [eff_11 m l e];unfold cmpQ flgQ secQ opQ;simp only [e];rfl
 ·rw [eff_12 m l e];unfold cmpQ flgQ secQ opQ;simp only [e];rfl
 ·rw [eff_13 m l e];unfold cmpQ flgQ secQ opQ;simp only [e];rfl
 ·rw [eff_14 m l e];unfold cmpQ flgQ secQ opQ;simp only [e];rfl
 ·rw [eff_15 m l e];unfold cmpQ flgQ secQ opQ;simp only [e];rfl
 ·rw [eff_16 m l e];unfold cmpQ flgQ secQ opQ;simp only [e];rfl
 ·rw [eff_17 m l e];unfold cmpQ flgQ secQ opQ;simp only [e];rfl
 ·rw [eff_18 m l e];unfold cmpQ flgQ secQ opQ;simp only [e];rfl
 ·rw [eff_19 m l e];unfold cmpQ flgQ secQ opQ;simp only [e];rfl
 ·rw [eff_20 m l e];unfold cmpQ flgQ secQ opQ;simp only [e];rfl
 ·rw [eff_21 m l e];unfold cmpQ flgQ secQ opQ;simp only [e];rfl
 ·rw [eff_22 m l e];unfold cmpQ flgQ secQ opQ;simp only [e];rfl
theorem U64.sec {m:Mc}(h:MOk m)(x:Xi):U64 (secQ m x):=by
 unfold secQ
 split
 ·exact U64.wrap _
 ·split
  ·exact h.r _
  ·exact h.r _
theorem qop_n (k:Int)(h:0≤k∧k<32)(W:World):Calls Tryz.prog 24 #[.int .i8 k] W fun e w'=>e=.returned (.tuple #[.int .i8 (opQ k),.bool (isQ k)])∧W=w':=by
 rcases Mrm.lt32 h with rfl | rfl | rfl | rfl | rfl | rfl | rfl | rfl | rfl | rfl | rfl | rfl | rfl | rfl | rfl | rfl | rfl | rfl | rfl | rfl | rfl | rfl | rfl | rfl | rfl | rfl | rfl | rfl | rfl | rfl | rfl | rfl
 all_goals (
  go_enter Tryz.func24,Tryz.ntmps24
  go_wp2
  go_ret2
  exact ⟨rfl,rfl⟩)
theorem qlen_n (x:Xi)(hX:Mrm.XOk x)(W:World)(h:mayX x=true):Calls Tryz.prog 23 #[.agg (xC x)] W fun e w'=>e=.returned (.int .i64 (lenX x))∧Below W.heap.size W w':=by
 have q:=Mrm.elen_n x W hX.w
 rw [h] at q
 exact q
theorem qflg_n (o w a b v:Int)(W:World)(ha:U64 a)(hb:U64 b)(hv:U64 v):Calls Tryz.prog 27 #[.int .i8 o,.int .i8 w,.int .u64 a,.int .u64 b,.int .u64 v] W fun e w'=>e=.returned (.agg (fC (flgQ o w a b v)))∧Below W.heap.size W w':=by
 refine calls_abs Tryz.func27 rfl (Nat.le_of_ble_eq_true rfl) ?_
 intro a0 d0 z0 h0
 replace z0:a0.tmps.size=43:=z0
 have s0_0:a0.tmps.getD 0 undef=.int .i8 o:=h0 0 (Nat.le_of_ble_eq_true rfl)
 have s1_0:a0.tmps.getD 1 undef=.int .i8 w:=h0 1 (Nat.le_of_ble_eq_true rfl)
 have s2_0:a0.tmps.getD 2 undef=.int .u64 a:=h0 2 (Nat.le_of_ble_eq_true rfl)
 have s3_0:a0.tmps.getD 3 undef=.int .u64 b:=h0 3 (Nat.le_of_ble_eq_true rfl)
 have s4_0:a0.tmps.getD 4 undef=.int .u64 v:=h0 4 (Nat.le_of_ble_eq_true rfl)
 refine wp_seq ?_
 refine go_reg [] [⟨0,10,25,(fC zF),none,#[]⟩] [none] mo d0 z0 (Below.refl _ _) (by kernel_rfl) trivial (
  hk (fun cx=>cx.al (wn rfl) 0 rfl (Flg.al_f rfl) rfl rfl rfl rfl rfl trivial) <|
  hn) ?_
 intro a1 w1 f1
 obtain ⟨g1,u_g1,q_g1,b_g1⟩:=f1.al.1
 refine wp_seq ?_
 refine go_reg [] [⟨1,11,25,(fC zF),some 2,(fC zF)⟩] [some (.agg (fC zF)),none,none] mo f1.d f1.z f1.b (by kernel_rfl) trivial (
  hc (fun _ _ wx cx=>cx.c rfl (args0 ) Tryz.func30 (by decide +kernel) (Flg.qnone_n wx) rfl rfl) <|
  hk (fun cx=>cx.al (wn rfl) 0 rfl (Flg.al_f rfl) rfl rfl rfl rfl (by kernel_rfl) trivial) <|
  hk (fun cx=>cx.stA (wn rfl) rfl rfl 0 0 rfl rfl rfl rfl (cx.u 1 rfl) (by kernel_rfl) (Eq.refl 5) (by simp [Value.oneCell']) f1.b.size rfl rfl trivial) <|
  hn) ?_
 intro a2 w2 f2
 obtain ⟨g2,u_g2,q_g2,b_g2⟩:=f2.al.1
 refine wp_seq ?_
 refine wp_seq ?_
 have s0_1:=f2.q 0 (f1.q 0 s0_0)
 refine go_reg [] [] [some (.int .i8 o)] mo f2.d f2.z f2.b (by kernel_rfl) trivial (
  kq (fun cx=>ex_mv rfl (cx.rq 0 s0_1)) <|
  hn) ?_
 intro a3 w3 f3
 refine wp_block ?_
 refine wp_seq ?_
 cases fk1:o == 0
 case true=>
  have Ffk1:=Lib.hid fk1;clear fk1
  refine go_reg [] [] [oT,oT] mo f3.d f3.z f3.b (by kernel_rfl) trivial (
   hk (fun cx=>cx.v (ex_eq (x:=.tmp 13) rfl (cx.rq 13 (f3.vv 0)) rfl) rfl (congrArg Value.bool Ffk1.out)) <|
   kmu 0 <|
   hn) ?_
  intro a4 w4 f4
  refine wp_cond_true (f4.vv 1) ?_
  have b_g2_2:=f4.k (f3.k b_g2)
  have s1_3:=f4.q 1 (f3.q 1 (f2.q 1 (f1.q 1 s1_0)))
  have s2_4:=f4.q 2 (f3.q 2 (f2.q 2 (f1.q 2 s2_0)))
  have s3_5:=f4.q 3 (f3.q 3 (f2.q 3 (f1.q 3 s3_0)))
  have s11_6:=f4.q 11 (f3.q 11 u_g2)
  refine go_reg [⟨g2,25,(fC zF),some 7,(fC (addF w a b))⟩] [] [some (.int .i8 w),some (.int .u64 a),some (.int .u64 b),some (.tuple #[.agg (fC (addF w a b)),.int .i64 (Flg.errW w)]),some (.tuple #[.agg (fC (addF w a b)),.int .i64 (Flg.errW w)]),some (.agg (fC (addF w a b))),some (.int .i64 (Flg.errW w)),none] mo f4.d f4.z f4.b (by kernel_rfl) ⟨b_g2_2,trivial⟩ (
   kq (fun cx=>ex_mv rfl (cx.rq 1 s1_3)) <|
   kq (fun cx=>ex_mv rfl (cx.rq 2 s2_4)) <|
   kq (fun cx=>ex_mv rfl (cx.rq 3 s3_5)) <|
   hc (fun _ _ wx cx=>cx.c rfl (args3 cx.u0 cx.u1 (cx.u 2 rfl)) Tryz.func70 (by decide +kernel) (Flg.qadd_n w a b wx ha hb) rfl rfl) <|
   kmu 0 <|
   kq (fun cx=>ex_ext (x:=.tmp 16) rfl cx.u0 rfl) <|
   kq (fun cx=>ex_ext (x:=.tmp 16) rfl cx.u0 rfl) <|
   hk (fun cx=>cx.stR (wn rfl) rfl rfl 0 rfl (cx.rq 11 s11_6) (cx.u 0 rfl) (by kernel_rfl) (Eq.refl 5) (by simp [Value.oneCell']) (Nat.le_trans f1.b.size q_g2) rfl trivial trivial) <|
   hn) ?_
  intro a5 w5 f5
  refine wp_seq ?_
  have b_g1_7:=f5.kp (f4.k (f3.k (f2.k b_g1))) ⟨.inr (ne_row b_g1 q_g2),trivial⟩
  have s11_8:=f5.q 11 s11_6
  have s10_9:=f5.q 10 (f4.q 10 (f3.q 10 (f2.q 10 u_g1)))
  refine go_reg [bx g2 25 (fC (addF w a b)),⟨g1,25,(fC zF),some 1,(fC (addF w a b))⟩] [] [some (.agg (fC (addF w a b))),none] mo f5.d f5.z f5.b (by kernel_rfl) ⟨f5.rows.1,b_g1_7,trivial⟩ (
   kq (fun cx=>Flg.ldF rfl (cx.rq 11 s11_8) (cx.rn 0 rfl)) <|
   hk (fun cx=>cx.stR (wn rfl) rfl rfl 1 rfl (cx.rq 10 s10_9) (cx.u 0 rfl) (by kernel_rfl) (Eq.refl 5) (by simp [Value.oneCell']) q_g1 rfl ⟨(ne_row b_g1 q_g2).symm,trivial⟩ trivial) <|
   hn) ?_
  intro a6 w6 f6
  refine wp_ret ?_
  have s10_10:=f6.q 10 s10_9
  try simp only [Exit.inBlock,Exit.then]
  refine bodyPost_ret (res_c (fn:=Tryz.f27) rfl s10_10 (load_row 25 f6.rows.2.1 Tryz.underlying25 rfl (by kernel_rfl))) f6.d ?_
  have HE:(.agg (fC (addF w a b)):Value)=.agg (fC (flgQ o w a b v)):=by
   have q:=And.intro trivial (And.intro Ffk1.out trivial)
   simp only [Bool.true_and,Bool.and_true,Bool.false_and,Bool.and_false,beq_iff_eq,beq_eq_false_iff_ne,ne_eq] at q
   congr 1;unfold flgQ
   first | (rw [if_pos (by omega)];done) | (rw [if_neg (by omega),if_pos (by omega)];done) | (rw [if_neg (by omega),if_neg (by omega),if_pos (by omega)];done) | (rw [if_neg (by omega),if_neg (by omega),if_neg (by omega)];done)
  exact ⟨retV HE,f6.b⟩
 have Ffk1:=Lib.hid fk1;clear fk1
 refine go_reg [] [] [oF,oF] mo f3.d f3.z f3.b (by kernel_rfl) trivial (
  hk (fun cx=>cx.v (ex_eq (x:=.tmp 13) rfl (cx.rq 13 (f3.vv 0)) rfl) rfl (congrArg Value.bool Ffk1.out)) <|
  kmu 0 <|
  hn) ?_
 intro a7 w7 f7
 refine wp_cond_false (f7.vv 1) ?_
 refine wp_seq ?_
 cases fk2:o == 1
 case true=>
  have Ffk2:=Lib.hid fk2;clear fk2
  have s13_11:=f7.q 13 (f3.vv 0)
  refine go_reg [] [] [oT,oT] mo f7.d f7.z f7.b (by kernel_rfl) trivial (
   hk (fun cx=>cx.v (ex_eq (x:=.tmp 13) rfl (cx.rq 13 s13_11) rfl) rfl (congrArg Value.bool Ffk2.out)) <|
   kmu 0 <|
   hn) ?_
  intro a8 w8 f8
  refine wp_cond_true (f8.vv 1) ?_
  have b_g2_12:=f8.k (f7.k (f3.k b_g2))
  have s1_13:=f8.q 1 (f7.q 1 (f3.q 1 (f2.q 1 (f1.q 1 s1_0))))
  have s2_14:=f8.q 2 (f7.q 2 (f3.q 2 (f2.q 2 (f1.q 2 s2_0))))
  have s3_15:=f8.q 3 (f7.q 3 (f3.q 3 (f2.q 3 (f1.q 3 s3_0))))
  have s11_16:=f8.q 11 (f7.q 11 (f3.q 11 u_g2))
  refine go_reg [⟨g2,25,(fC zF),some 7,(fC (subF w a b))⟩] [] [some (.int .i8 w),some (.int .u64 a),some (.int .u64 b),some (.tuple #[.agg (fC (subF w a b)),.int .i64 (Flg.errW w)]),some (.tuple #[.agg (fC (subF w a b)),.int .i64 (Flg.errW w)]),some (.agg (fC (subF w a b))),some (.int .i64 (Flg.errW w)),none] mo f8.d f8.z f8.b (by kernel_rfl) ⟨b_g2_12,trivial⟩ (
   kq (fun cx=>ex_mv rfl (cx.rq 1 s1_13)) <|
   kq (fun cx=>ex_mv rfl (cx.rq 2 s2_14)) <|
   kq (fun cx=>ex_mv rfl (cx.rq 3 s3_15)) <|
   hc (fun _ _ wx cx=>cx.c rfl (args3 cx.u0 cx.u1 (cx.u 2 rfl)) Tryz.func29 (by decide +kernel) (Flg.qsub_n w a b wx ha hb) rfl rfl) <|
   kmu 0 <|
   kq (fun cx=>ex_ext (x:=.tmp 25) rfl cx.u0 rfl) <|
   kq (fun cx=>ex_ext (x:=.tmp 25) rfl cx.u0 rfl) <|
   hk (fun cx=>cx.stR (wn rfl) rfl rfl 0 rfl (cx.rq 11 s11_16) (cx.u 0 rfl) (by kernel_rfl) (Eq.refl 5) (by simp [Value.oneCell']) (Nat.le_trans f1.b.size q_g2) rfl trivial trivial) <|
   hn) ?_
  intro a9 w9 f9
  refine wp_seq ?_
  have b_g1_17:=f9.kp (f8.k (f7.k (f3.k (f2.k b_g1)))) ⟨.inr (ne_row b_g1 q_g2),trivial⟩
  have s11_18:=f9.q 11 s11_16
  have s10_19:=f9.q 10 (f8.q 10 (f7.q 10 (f3.q 10 (f2.q 10 u_g1))))
  refine go_reg [bx g2 25 (fC (subF w a b)),⟨g1,25,(fC zF),some 1,(fC (subF w a b))⟩] [] [some (.agg (fC (subF w a b))),none] mo f9.d f9.z f9.b (by kernel_rfl) ⟨f9.rows.1,b_g1_17,trivial⟩ (
   kq (fun cx=>Flg.ldF rfl (cx.rq 11 s11_18) (cx.rn 0 rfl)) <|
   hk (fun cx=>cx.stR (wn rfl) rfl rfl 1 rfl (cx.rq 10 s10_19) (cx.u 0 rfl) (by kernel_rfl) (Eq.refl 5) (by simp [Value.oneCell']) q_g1 rfl ⟨(ne_row b_g1 q_g2).symm,trivial⟩ trivial) <|
   hn) ?_
  intro a10 w10 f10
  refine wp_ret ?_
  have s10_20:=f10.q 10 s10_19
  try simp only [Exit.inBlock,Exit.then]
  refine bodyPost_ret (res_c (fn:=Tryz.f27) rfl s10_20 (load_row 25 f10.rows.2.1 Tryz.underlying25 rfl (by kernel_rfl))) f10.d ?_
  have HE:(.agg (fC (subF w a b)):Value)=.agg (fC (flgQ o w a b v)):=by
   have q:=And.intro trivial (And.intro Ffk1.out (And.intro Ffk2.out trivial))
   simp only [Bool.true_and,Bool.and_true,Bool.false_and,Bool.and_false,beq_iff_eq,beq_eq_false_iff_ne,ne_eq] at q
   congr 1;unfold flgQ
   first | (rw [if_pos (by omega)];done) | (rw [if_neg (by omega),if_pos (by omega)];done) | (rw [if_neg (by omega),if_neg (by omega),if_pos (by omega)];done) | (rw [if_neg (by omega),if_neg (by omega),if_neg (by omega)];done)
  exact ⟨retV HE,f10.b⟩
 have Ffk2:=Lib.hid fk2;clear fk2
 have s13_21:=f7.q 13 (f3.vv 0)
 refine go_reg [] [] [oF,oF] mo f7.d f7.z f7.b (by kernel_rfl) trivial (
  hk (fun cx=>cx.v (ex_eq (x:=.tmp 13) rfl (cx.rq 13 s13_21) rfl) rfl (congrArg Value.bool Ffk2.out)) <|
  kmu 0 <|
  hn) ?_
 intro a11 w11 f11
 refine wp_cond_false (f11.vv 1) ?_
 refine wp_seq ?_
 refine wp_seq ?_
 cases fk3:o == 4
 case true=>
  have Ffk3:=Lib.hid fk3;clear fk3
  have s13_22:=f11.q 13 s13_21
  refine go_reg [] [] [oT,oT] mo f11.d f11.z f11.b (by kernel_rfl) trivial (
   hk (fun cx=>cx.v (ex_eq (x:=.tmp 13) rfl (cx.rq 13 s13_22) rfl) rfl (congrArg Value.bool Ffk3.out)) <|
   kmu 0 <|
   hn) ?_
  intro a12 w12 f12
  refine wp_cond_true (f12.vv 1) ?_
  refine wp_skip ?_
  refine wp_cond_true (f12.vv 1) ?_
  have b_g2_23:=f12.k (f11.k (f7.k (f3.k b_g2)))
  have s1_24:=f12.q 1 (f11.q 1 (f7.q 1 (f3.q 1 (f2.q 1 (f1.q 1 s1_0)))))
  have s4_25:=f12.q 4 (f11.q 4 (f7.q 4 (f3.q 4 (f2.q 4 (f1.q 4 s4_0)))))
  have s11_26:=f12.q 11 (f11.q 11 (f7.q 11 (f3.q 11 u_g2)))
  refine go_reg [⟨g2,25,(fC zF),some 6,(fC (ofF w v))⟩] [] [some (.int .i8 w),some (.int .u64 v),some (.tuple #[.agg (fC (ofF w v)),.int .i64 (Flg.errW w)]),some (.tuple #[.agg (fC (ofF w v)),.int .i64 (Flg.errW w)]),some (.agg (fC (ofF w v))),some (.int .i64 (Flg.errW w)),none] mo f12.d f12.z f12.b (by kernel_rfl) ⟨b_g2_23,trivial⟩ (
   kq (fun cx=>ex_mv rfl (cx.rq 1 s1_24)) <|
   kq (fun cx=>ex_mv rfl (cx.rq 4 s4_25)) <|
   hc (fun _ _ wx cx=>cx.c rfl (args2 cx.u0 cx.u1) Tryz.func71 (by decide +kernel) (Flg.qof_n w v wx hv) rfl rfl) <|
   kmu 0 <|
   kq (fun cx=>ex_ext (x:=.tmp 36) rfl cx.u0 rfl) <|
   kq (fun cx=>ex_ext (x:=.tmp 36) rfl cx.u0 rfl) <|
   hk (fun cx=>cx.stR (wn rfl) rfl rfl 0 rfl (cx.rq 11 s11_26) (cx.u 0 rfl) (by kernel_rfl) (Eq.refl 5) (by simp [Value.oneCell']) (Nat.le_trans f1.b.size q_g2) rfl trivial trivial) <|
   hn) ?_
  intro a13 w13 f13
  refine wp_seq ?_
  have b_g1_27:=f13.kp (f12.k (f11.k (f7.k (f3.k (f2.k b_g1))))) ⟨.inr (ne_row b_g1 q_g2),trivial⟩
  have s11_28:=f13.q 11 s11_26
  have s10_29:=f13.q 10 (f12.q 10 (f11.q 10 (f7.q 10 (f3.q 10 (f2.q 10 u_g1)))))
  refine go_reg [bx g2 25 (fC (ofF w v)),⟨g1,25,(fC zF),some 1,(fC (ofF w v))⟩] [] [some (.agg (fC (ofF w v))),none] mo f13.d f13.z f13.b (by kernel_rfl) ⟨f13.rows.1,b_g1_27,trivial⟩ (
   kq (fun cx=>Flg.ldF rfl (cx.rq 11 s11_28) (cx.rn 0 rfl)) <|
   hk (fun cx=>cx.stR (wn rfl) rfl rfl 1 rfl (cx.rq 10 s10_29) (cx.u 0 rfl) (by kernel_rfl) (Eq.refl 5) (by simp [Value.oneCell']) q_g1 rfl ⟨(ne_row b_g1 q_g2).symm,trivial⟩ trivial) <|
   hn) ?_
  intro a14 w14 f14
  refine wp_ret ?_
  have s10_30:=f14.q 10 s10_29
  try simp only [Exit.inBlock,Exit.then]
  refine bodyPost_ret (res_c (fn:=Tryz.f27) rfl s10_30 (load_row 25 f14.rows.2.1 Tryz.underlying25 rfl (by kernel_rfl))) f14.d ?_
  have HE:(.agg (fC (ofF w v)):Value)=.agg (fC (flgQ o w a b v)):=by
   have q:=And.intro trivial (And.intro Ffk1.out (And.intro Ffk2.out (And.intro Ffk3.out trivial)))
   simp only [Bool.true_and,Bool.and_true,Bool.false_and,Bool.and_false,beq_iff_eq,beq_eq_false_iff_ne,ne_eq] at q
   congr 1;unfold flgQ
   first | (rw [if_pos (by omega)];done) | (rw [if_neg (by omega),if_pos (by omega)];done) | (rw [if_neg (by omega),if_neg (by omega),if_pos (by omega)];done) | (rw [if_neg (by omega),if_neg (by omega),if_neg (by omega)];done)
  exact ⟨retV HE,f14.b⟩
 have Ffk3:=Lib.hid fk3;clear fk3
 have s13_31:=f11.q 13 s13_21
 refine go_reg [] [] [oF,oF] mo f11.d f11.z f11.b (by kernel_rfl) trivial (
  hk (fun cx=>cx.v (ex_eq (x:=.tmp 13) rfl (cx.rq 13 s13_31) rfl) rfl (congrArg Value.bool Ffk3.out)) <|
  kmu 0 <|
  hn) ?_
 intro a15 w15 f15
 refine wp_cond_false (f15.vv 1) ?_
 refine wp_seq ?_
 cases fk4:o == 5
 case true=>
  have Ffk4:=Lib.hid fk4;clear fk4
  have s13_32:=f15.q 13 s13_31
  refine go_reg [] [] [oT,oT] mo f15.d f15.z f15.b (by kernel_rfl) trivial (
   hk (fun cx=>cx.v (ex_eq (x:=.tmp 13) rfl (cx.rq 13 s13_32) rfl) rfl (congrArg Value.bool Ffk4.out)) <|
   kmu 0 <|
   hn) ?_
  intro a16 w16 f16
  refine wp_cond_true (f16.vv 1) ?_
  refine wp_skip ?_
  refine wp_cond_true (f16.vv 1) ?_
  have b_g2_33:=f16.k (f15.k (f11.k (f7.k (f3.k b_g2))))
  have s1_34:=f16.q 1 (f15.q 1 (f11.q 1 (f7.q 1 (f3.q 1 (f2.q 1 (f1.q 1 s1_0))))))
  have s4_35:=f16.q 4 (f15.q 4 (f11.q 4 (f7.q 4 (f3.q 4 (f2.q 4 (f1.q 4 s4_0))))))
  have s11_36:=f16.q 11 (f15.q 11 (f11.q 11 (f7.q 11 (f3.q 11 u_g2))))
  refine go_reg [⟨g2,25,(fC zF),some 6,(fC (ofF w v))⟩] [] [some (.int .i8 w),some (.int .u64 v),some (.tuple #[.agg (fC (ofF w v)),.int .i64 (Flg.errW w)]),some (.tuple #[.agg (fC (ofF w v)),.int .i64 (Flg.errW w)]),some (.agg (fC (ofF w v))),some (.int .i64 (Flg.errW w)),none] mo f16.d f16.z f16.b (by kernel_rfl) ⟨b_g2_33,trivial⟩ (
   kq (fun cx=>ex_mv rfl (cx.rq 1 s1_34)) <|
   kq (fun cx=>ex_mv rfl (cx.rq 4 s4_35)) <|
   hc (fun _ _ wx cx=>cx.c rfl (args2 cx.u0 cx.u1) Tryz.func71 (by decide +kernel) (Flg.qof_n w v wx hv) rfl rfl) <|
   kmu 0 <|
   kq (fun cx=>ex_ext (x:=.tmp 36) rfl cx.u0 rfl) <|
   kq (fun cx=>ex_ext (x:=.tmp 36) rfl cx.u0 rfl) <|
   hk (fun cx=>cx.stR (wn rfl) rfl rfl 0 rfl (cx.rq 11 s11_36) (cx.u 0 rfl) (by kernel_rfl) (Eq.refl 5) (by simp [Value.oneCell']) (Nat.le_trans f1.b.size q_g2) rfl trivial trivial) <|
   hn) ?_
  intro a17 w17 f17
  refine wp_seq ?_
  have b_g1_37:=f17.kp (f16.k (f15.k (f11.k (f7.k (f3.k (f2.k b_g1)))))) ⟨.inr (ne_row b_g1 q_g2),trivial⟩
  have s11_38:=f17.q 11 s11_36
  have s10_39:=f17.q 10 (f16.q 10 (f15.q 10 (f11.q 10 (f7.q 10 (f3.q 10 (f2.q 10 u_g1))))))
  refine go_reg [bx g2 25 (fC (ofF w v)),⟨g1,25,(fC zF),some 1,(fC (ofF w v))⟩] [] [some (.agg (fC (ofF w v))),none] mo f17.d f17.z f17.b (by kernel_rfl) ⟨f17.rows.1,b_g1_37,trivial⟩ (
   kq (fun cx=>Flg.ldF rfl (cx.rq 11 s11_38) (cx.rn 0 rfl)) <|
   hk (fun cx=>cx.stR (wn rfl) rfl rfl 1 rfl (cx.rq 10 s10_39) (cx.u 0 rfl) (by kernel_rfl) (Eq.refl 5) (by simp [Value.oneCell']) q_g1 rfl ⟨(ne_row b_g1 q_g2).symm,trivial⟩ trivial) <|
   hn) ?_
  intro a18 w18 f18
  refine wp_ret ?_
  have s10_40:=f18.q 10 s10_39
  try simp only [Exit.inBlock,Exit.then]
  refine bodyPost_ret (res_c (fn:=Tryz.f27) rfl s10_40 (load_row 25 f18.rows.2.1 Tryz.underlying25 rfl (by kernel_rfl))) f18.d ?_
  have HE:(.agg (fC (ofF w v)):Value)=.agg (fC (flgQ o w a b v)):=by
   have q:=And.intro trivial (And.intro Ffk1.out (And.intro Ffk2.out (And.intro Ffk3.out (And.intro Ffk4.out trivial))))
   simp only [Bool.true_and,Bool.and_true,Bool.false_and,Bool.and_false,beq_iff_eq,beq_eq_false_iff_ne,ne_eq] at q
   congr 1;unfold flgQ
   first | (rw [if_pos (by omega)];done) | (rw [if_neg (by omega),if_pos (by omega)];done) | (rw [if_neg (by omega),if_neg (by omega),if_pos (by omega)];done) | (rw [if_neg (by omega),if_neg (by omega),if_neg (by omega)];done)
  exact ⟨retV HE,f18.b⟩
 have Ffk4:=Lib.hid fk4;clear fk4
 have s13_41:=f15.q 13 s13_31
 refine go_reg [] [] [oF,oF] mo f15.d f15.z f15.b (by kernel_rfl) trivial (
  hk (fun cx=>cx.v (ex_eq (x:=.tmp 13) rfl (cx.rq 13 s13_41) rfl) rfl (congrArg Value.bool Ffk4.out)) <|
  kmu 0 <|
  hn) ?_
 intro a19 w19 f19
 refine wp_cond_false (f19.vv 1) ?_
 cases fk5:o == 10
 case true=>
  have Ffk5:=Lib.hid fk5;clear fk5
  have s13_42:=f19.q 13 s13_41
  refine go_reg [] [] [oT,oT] mo f19.d f19.z f19.b (by kernel_rfl) trivial (
   hk (fun cx=>cx.v (ex_eq (x:=.tmp 13) rfl (cx.rq 13 s13_42) rfl) rfl (congrArg Value.bool Ffk5.out)) <|
   kmu 0 <|
   hn) ?_
  intro a20 w20 f20
  refine wp_cond_true (f20.vv 1) ?_
  have b_g2_43:=f20.k (f19.k (f15.k (f11.k (f7.k (f3.k b_g2)))))
  have s1_44:=f20.q 1 (f19.q 1 (f15.q 1 (f11.q 1 (f7.q 1 (f3.q 1 (f2.q 1 (f1.q 1 s1_0)))))))
  have s4_45:=f20.q 4 (f19.q 4 (f15.q 4 (f11.q 4 (f7.q 4 (f3.q 4 (f2.q 4 (f1.q 4 s4_0)))))))
  have s11_46:=f20.q 11 (f19.q 11 (f15.q 11 (f11.q 11 (f7.q 11 (f3.q 11 u_g2)))))
  refine go_reg [⟨g2,25,(fC zF),some 6,(fC (ofF w v))⟩] [] [some (.int .i8 w),some (.int .u64 v),some (.tuple #[.agg (fC (ofF w v)),.int .i64 (Flg.errW w)]),some (.tuple #[.agg (fC (ofF w v)),.int .i64 (Flg.errW w)]),some (.agg (fC (ofF w v))),some (.int .i64 (Flg.errW w)),none] mo f20.d f20.z f20.b (by kernel_rfl) ⟨b_g2_43,trivial⟩ (
   kq (fun cx=>ex_mv rfl (cx.rq 1 s1_44)) <|
   kq (fun cx=>ex_mv rfl (cx.rq 4 s4_45)) <|
   hc (fun _ _ wx cx=>cx.c rfl (args2 cx.u0 cx.u1) Tryz.func71 (by decide +kernel) (Flg.qof_n w v wx hv) rfl rfl) <|
   kmu 0 <|
   kq (fun cx=>ex_ext (x:=.tmp 36) rfl cx.u0 rfl) <|
   kq (fun cx=>ex_ext (x:=.tmp 36) rfl cx.u0 rfl) <|
   hk (fun cx=>cx.stR (wn rfl) rfl rfl 0 rfl (cx.rq 11 s11_46) (cx.u 0 rfl) (by kernel_rfl) (Eq.refl 5) (by simp [Value.oneCell']) (Nat.le_trans f1.b.size q_g2) rfl trivial trivial) <|
   hn) ?_
  intro a21 w21 f21
  refine wp_seq ?_
  have b_g1_47:=f21.kp (f20.k (f19.k (f15.k (f11.k (f7.k (f3.k (f2.k b_g1))))))) ⟨.inr (ne_row b_g1 q_g2),trivial⟩
  have s11_48:=f21.q 11 s11_46
  have s10_49:=f21.q 10 (f20.q 10 (f19.q 10 (f15.q 10 (f11.q 10 (f7.q 10 (f3.q 10 (f2.q 10 u_g1)))))))
  refine go_reg [bx g2 25 (fC (ofF w v)),⟨g1,25,(fC zF),some 1,(fC (ofF w v))⟩] [] [some (.agg (fC (ofF w v))),none] mo f21.d f21.z f21.b (by kernel_rfl) ⟨f21.rows.1,b_g1_47,trivial⟩ (
   kq (fun cx=>Flg.ldF rfl (cx.rq 11 s11_48) (cx.rn 0 rfl)) <|
   hk (fun cx=>cx.stR (wn rfl) rfl rfl 1 rfl (cx.rq 10 s10_49) (cx.u 0 rfl) (by kernel_rfl) (Eq.refl 5) (by simp [Value.oneCell']) q_g1 rfl ⟨(ne_row b_g1 q_g2).symm,trivial⟩ trivial) <|
   hn) ?_
  intro a22 w22 f22
  refine wp_ret ?_
  have s10_50:=f22.q 10 s10_49
  try simp only [Exit.inBlock,Exit.then]
  refine bodyPost_ret (res_c (fn:=Tryz.f27) rfl s10_50 (load_row 25 f22.rows.2.1 Tryz.underlying25 rfl (by kernel_rfl))) f22.d ?_
  have HE:(.agg (fC (ofF w v)):Value)=.agg (fC (flgQ o w a b v)):=by
   have q:=And.intro trivial (And.intro Ffk1.out (And.intro Ffk2.out (And.intro Ffk3.out (And.intro Ffk4.out (And.intro Ffk5.out trivial)))))
   simp only [Bool.true_and,Bool.and_true,Bool.false_and,Bool.and_false,beq_iff_eq,beq_eq_false_iff_ne,ne_eq] at q
   congr 1;unfold flgQ
   first | (rw [if_pos (by omega)];done) | (rw [if_neg (by omega),if_pos (by omega)];done) | (rw [if_neg (by omega),if_neg (by omega),if_pos (by omega)];done) | (rw [if_neg (by omega),if_neg (by omega),if_neg (by omega)];done)
  exact ⟨retV HE,f22.b⟩
 have Ffk5:=Lib.hid fk5;clear fk5
 have s13_51:=f19.q 13 s13_41
 refine go_reg [] [] [oF,oF] mo f19.d f19.z f19.b (by kernel_rfl) trivial (
  hk (fun cx=>cx.v (ex_eq (x:=.tmp 13) rfl (cx.rq 13 s13_51) rfl) rfl (congrArg Value.bool Ffk5.out)) <|
  kmu 0 <|
  hn) ?_
 intro a23 w23 f23
 refine wp_cond_false (f23.vv 1) ?_
 refine wp_skip ?_
 refine wp_seq ?_
 have b_g2_52:=f23.k (f19.k (f15.k (f11.k (f7.k (f3.k b_g2)))))
 have b_g1_53:=f23.k (f19.k (f15.k (f11.k (f7.k (f3.k (f2.k b_g1))))))
 have s11_54:=f23.q 11 (f19.q 11 (f15.q 11 (f11.q 11 (f7.q 11 (f3.q 11 u_g2)))))
 have s10_55:=f23.q 10 (f19.q 10 (f15.q 10 (f11.q 10 (f7.q 10 (f3.q 10 (f2.q 10 u_g1))))))
 refine go_reg [bx g2 25 (fC zF),⟨g1,25,(fC zF),some 1,(fC zF)⟩] [] [some (.agg (fC zF)),none] mo f23.d f23.z f23.b (by kernel_rfl) ⟨b_g2_52,b_g1_53,trivial⟩ (
  kq (fun cx=>Flg.ldF rfl (cx.rq 11 s11_54) (cx.rn 0 rfl)) <|
  hk (fun cx=>cx.stR (wn rfl) rfl rfl 1 rfl (cx.rq 10 s10_55) (cx.u 0 rfl) (by kernel_rfl) (Eq.refl 5) (by simp [Value.oneCell']) q_g1 rfl ⟨(ne_row b_g1 q_g2).symm,trivial⟩ trivial) <|
  hn) ?_
 intro a24 w24 f24
 refine wp_ret ?_
 have s10_56:=f24.q 10 s10_55
 try simp only [Exit.inBlock,Exit.then]
 refine bodyPost_ret (res_c (fn:=Tryz.f27) rfl s10_56 (load_row 25 f24.rows.2.1 Tryz.underlying25 rfl (by kernel_rfl))) f24.d ?_
 have HE:(.agg (fC zF):Value)=.agg (fC (flgQ o w a b v)):=by
   have q:=And.intro trivial (And.intro Ffk1.out (And.intro Ffk2.out (And.intro Ffk3.out (And.intro Ffk4.out (And.intro Ffk5.out trivial)))))
   simp only [Bool.true_and,Bool.and_true,Bool.false_and,Bool.and_false,beq_iff_eq,beq_eq_false_iff_ne,ne_eq] at q
   congr 1;unfold flgQ
   first | (rw [if_pos (by omega)];done) | (rw [if_neg (by omega),if_pos (by omega)];done) | (rw [if_neg (by omega),if_neg (by omega),if_pos (by omega)];done) | (rw [if_neg (by omega),if_neg (by omega),if_neg (by omega)];done)
 exact ⟨retV HE,f24.b⟩
theorem qsec_n (m:Mc)(x:Xi)(W:World)(hs:0≤x.src∧x.src<16):Calls Tryz.prog 25 #[.agg (mcC m),.agg (xC x)] W fun e w'=>e=.returned (.int .u64 (secQ m x))∧Below W.heap.size W w':=by
 refine calls_abs Tryz.func25 rfl (Nat.le_of_ble_eq_true rfl) ?_
 intro a0 d0 z0 h0
 replace z0:a0.tmps.size=24:=z0
 have s0_0:a0.tmps.getD 0 undef=.agg (mcC m):=h0 0 (Nat.le_of_ble_eq_true rfl)
 have s1_0:a0.tmps.getD 1 undef=.agg (xC x):=h0 1 (Nat.le_of_ble_eq_true rfl)
 refine wp_seq ?_
 refine go_reg [] [⟨0,2,27,(mcC m),none,#[]⟩,⟨1,3,30,(xC x),none,#[]⟩] [none,none,some (.int .u64 0)] mo d0 z0 (Below.refl _ _) (by kernel_rfl) trivial (
  hk (fun cx=>cx.al (wn rfl) 0 rfl (ex_box rfl (cx.rq 0 s0_0) rfl) rfl rfl rfl rfl rfl trivial) <|
  hk (fun cx=>cx.al (wn rfl) 1 rfl (ex_box rfl (cx.rq 1 s1_0) rfl) rfl rfl rfl rfl rfl trivial) <|
  kq (fun cx=>ex_as rfl rfl) <|
  hn) ?_
 intro a1 w1 f1
 obtain ⟨g1,u_g1,q_g1,b_g1⟩:=f1.al.1
 obtain ⟨g2,u_g2,q_g2,b_g2⟩:=f1.al.2.1
 refine wp_seq ?_
 refine wp_seq ?_
 refine go_reg [bx g2 30 (xC x)] [] [some (pt g2 0),some (.int .i8 x.op),some (.int .i64 (Mrm.clsI x.op))] mo f1.d f1.z f1.b (by kernel_rfl) ⟨b_g2,trivial⟩ (
  kq (fun cx=>ex_fa rfl (cx.rq 3 u_g2) (faExU30_0_0 _ _)) <|
  kq (fun cx=>ex_ld rfl (cx.u 0 rfl) (cx.rn 0 rfl) rfl Tryz.isAgg28) <|
  hc (fun _ _ wx cx=>cx.c rfl (args1 cx.u0) Tryz.func59 (by decide +kernel) (((Mrm.cls_n x.op wx).mono (by rintro e w' ⟨rfl,rfl⟩;exact ⟨rfl,Below.refl _ _⟩))) rfl rfl) <|
  hn) ?_
 intro a2 w2 f2
 refine wp_block ?_
 refine wp_seq ?_
 refine wp_seq ?_
 cases fk1:(Mrm.clsI x.op) == 2
 case true=>
  have Ffk1:=Lib.hid fk1;clear fk1
  refine go_reg [] [] [oT,oT] mo f2.d f2.z f2.b (by kernel_rfl) trivial (
   hk (fun cx=>cx.v (ex_eq (x:=.tmp 7) rfl (cx.rq 7 (f2.vv 2)) rfl) rfl (congrArg Value.bool Ffk1.out)) <|
   kmu 0 <|
   hn) ?_
  intro a3 w3 f3
  refine wp_cond_true (f3.vv 1) ?_
  refine wp_skip ?_
  refine wp_cond_true (f3.vv 1) ?_
  refine wp_seq ?_
  have b_g2_1:=f3.k (f2.k b_g2)
  have s3_2:=f3.q 3 (f2.q 3 u_g2)
  refine go_reg [bx g2 30 (xC x)] [] [some (pt g2 6),some (.int .i64 x.imm),some (.int .u64 (IntKind.u64.wrap x.imm)),some (.int .u64 (IntKind.u64.wrap x.imm))] mo f3.d f3.z f3.b (by kernel_rfl) ⟨b_g2_1,trivial⟩ (
   kq (fun cx=>ex_fa rfl (cx.rq 3 s3_2) (faExU30_6_0 _ _)) <|
   kq (fun cx=>ex_ld rfl (cx.u 0 rfl) (cx.rn 0 rfl) rfl Tryz.isAgg3) <|
   kq (fun cx=>ex_conv (x:=.tmp 12) rfl cx.u0 Tryz.underlying3 Tryz.underlying22) <|
   kmu 0 <|
   hn) ?_
  intro a4 w4 f4
  refine wp_ret ?_
  try simp only [Exit.inBlock,Exit.then]
  refine bodyPost_ret (res_t (fn:=Tryz.f25) rfl (f4.vv 3)) f4.d ?_
  have HE:(.int .u64 (IntKind.u64.wrap x.imm):Value)=.int .u64 (secQ m x):=by
   have q:=And.intro trivial (And.intro Ffk1.out trivial)
   simp only [Bool.true_and,Bool.and_true,Bool.false_and,Bool.and_false,beq_iff_eq,beq_eq_false_iff_ne,ne_eq] at q
   congr 1;unfold secQ
   first | (rw [if_pos (by omega)];done) | (rw [if_neg (by omega),if_pos (by omega)];done) | (rw [if_neg (by omega),if_neg (by omega)];done)
  exact ⟨retV HE,f4.b⟩
 have Ffk1:=Lib.hid fk1;clear fk1
 refine go_reg [] [] [oF,oF] mo f2.d f2.z f2.b (by kernel_rfl) trivial (
  hk (fun cx=>cx.v (ex_eq (x:=.tmp 7) rfl (cx.rq 7 (f2.vv 2)) rfl) rfl (congrArg Value.bool Ffk1.out)) <|
  kmu 0 <|
  hn) ?_
 intro a5 w5 f5
 refine wp_cond_false (f5.vv 1) ?_
 cases fk2:(Mrm.clsI x.op) == 3
 case true=>
  have Ffk2:=Lib.hid fk2;clear fk2
  have s7_3:=f5.q 7 (f2.vv 2)
  refine go_reg [] [] [oT,oT] mo f5.d f5.z f5.b (by kernel_rfl) trivial (
   hk (fun cx=>cx.v (ex_eq (x:=.tmp 7) rfl (cx.rq 7 s7_3) rfl) rfl (congrArg Value.bool Ffk2.out)) <|
   kmu 0 <|
   hn) ?_
  intro a6 w6 f6
  refine wp_cond_true (f6.vv 1) ?_
  refine wp_seq ?_
  have b_g2_4:=f6.k (f5.k (f2.k b_g2))
  have s3_5:=f6.q 3 (f5.q 3 (f2.q 3 u_g2))
  refine go_reg [bx g2 30 (xC x)] [] [some (pt g2 6),some (.int .i64 x.imm),some (.int .u64 (IntKind.u64.wrap x.imm)),some (.int .u64 (IntKind.u64.wrap x.imm))] mo f6.d f6.z f6.b (by kernel_rfl) ⟨b_g2_4,trivial⟩ (
   kq (fun cx=>ex_fa rfl (cx.rq 3 s3_5) (faExU30_6_0 _ _)) <|
   kq (fun cx=>ex_ld rfl (cx.u 0 rfl) (cx.rn 0 rfl) rfl Tryz.isAgg3) <|
   kq (fun cx=>ex_conv (x:=.tmp 12) rfl cx.u0 Tryz.underlying3 Tryz.underlying22) <|
   kmu 0 <|
   hn) ?_
  intro a7 w7 f7
  refine wp_ret ?_
  try simp only [Exit.inBlock,Exit.then]
  refine bodyPost_ret (res_t (fn:=Tryz.f25) rfl (f7.vv 3)) f7.d ?_
  have HE:(.int .u64 (IntKind.u64.wrap x.imm):Value)=.int .u64 (secQ m x):=by
   have q:=And.intro trivial (And.intro Ffk1.out (And.intro Ffk2.out trivial))
   simp only [Bool.true_and,Bool.and_true,Bool.false_and,Bool.and_false,beq_iff_eq,beq_eq_false_iff_ne,ne_eq] at q
   congr 1;unfold secQ
   first | (rw [if_pos (by omega)];done) | (rw [if_neg (by omega),if_pos (by omega)];done) | (rw [if_neg (by omega),if_neg (by omega)];done)
  exact ⟨retV HE,f7.b⟩
 have Ffk2:=Lib.hid fk2;clear fk2
 have s7_6:=f5.q 7 (f2.vv 2)
 refine go_reg [] [] [oF,oF] mo f5.d f5.z f5.b (by kernel_rfl) trivial (
  hk (fun cx=>cx.v (ex_eq (x:=.tmp 7) rfl (cx.rq 7 s7_6) rfl) rfl (congrArg Value.bool Ffk2.out)) <|
  kmu 0 <|
  hn) ?_
 intro a8 w8 f8
 refine wp_cond_false (f8.vv 1) ?_
 refine wp_seq ?_
 cases fk3:(Mrm.clsI x.op) == 4
 case true=>
  have Ffk3:=Lib.hid fk3;clear fk3
  have s7_7:=f8.q 7 s7_6
  refine go_reg [] [] [oT,oT] mo f8.d f8.z f8.b (by kernel_rfl) trivial (
   hk (fun cx=>cx.v (ex_eq (x:=.tmp 7) rfl (cx.rq 7 s7_7) rfl) rfl (congrArg Value.bool Ffk3.out)) <|
   kmu 0 <|
   hn) ?_
  intro a9 w9 f9
  refine wp_cond_true (f9.vv 1) ?_
  refine wp_seq ?_
  have b_g1_8:=f9.k (f8.k (f5.k (f2.k b_g1)))
  have s2_9:=f9.q 2 (f8.q 2 (f5.q 2 (f2.q 2 u_g1)))
  refine go_reg [bx g1 27 (mcC m)] [] [some (pt g1 0),some (pt g1 (1)),some (.int .u64 (m.r 1)),some (.int .u64 (m.r 1))] mo f9.d f9.z f9.b (by kernel_rfl) ⟨b_g1_8,trivial⟩ (
   kq (fun cx=>ex_fa rfl (cx.rq 2 s2_9) (faExU27_0_0 _ _)) <|
   hk (fun cx=>cx.v (ex_ia (n:=16) (sz:=1) rfl (cx.u 0 rfl) rfl Tryz.underlying23 (by kernel_rfl) (by omega) (by omega) (by omega)) rfl rfl) <|
   hk (fun cx=>cx.v (ldMcR (by omega) rfl (cx.u 0 rfl) (cx.rn 0 rfl)) rfl rfl) <|
   kmu 0 <|
   hn) ?_
  intro a10 w10 f10
  refine wp_ret ?_
  try simp only [Exit.inBlock,Exit.then]
  refine bodyPost_ret (res_t (fn:=Tryz.f25) rfl (f10.vv 3)) f10.d ?_
  have HE:(.int .u64 (m.r 1):Value)=.int .u64 (secQ m x):=by
   have q:=And.intro trivial (And.intro Ffk1.out (And.intro Ffk2.out (And.intro Ffk3.out trivial)))
   simp only [Bool.true_and,Bool.and_true,Bool.false_and,Bool.and_false,beq_iff_eq,beq_eq_false_iff_ne,ne_eq] at q
   congr 1;unfold secQ
   first | (rw [if_pos (by omega)];done) | (rw [if_neg (by omega),if_pos (by omega)];done) | (rw [if_neg (by omega),if_neg (by omega)];done)
  exact ⟨retV HE,f10.b⟩
 have Ffk3:=Lib.hid fk3;clear fk3
 have s7_10:=f8.q 7 s7_6
 refine go_reg [] [] [oF,oF] mo f8.d f8.z f8.b (by kernel_rfl) trivial (
  hk (fun cx=>cx.v (ex_eq (x:=.tmp 7) rfl (cx.rq 7 s7_10) rfl) rfl (congrArg Value.bool Ffk3.out)) <|
  kmu 0 <|
  hn) ?_
 intro a11 w11 f11
 refine wp_cond_false (f11.vv 1) ?_
 refine wp_skip ?_
 refine wp_seq ?_
 have b_g2_11:=f11.k (f8.k (f5.k (f2.k b_g2)))
 have b_g1_12:=f11.k (f8.k (f5.k (f2.k b_g1)))
 have s3_13:=f11.q 3 (f8.q 3 (f5.q 3 (f2.q 3 u_g2)))
 have s2_14:=f11.q 2 (f8.q 2 (f5.q 2 (f2.q 2 u_g1)))
 refine go_reg [bx g2 30 (xC x),bx g1 27 (mcC m)] [] [some (pt g2 3),some (.int .i8 x.src),some (pt g1 0),some (pt g1 (x.src.toNat)),some (.int .u64 (m.r x.src.toNat)),some (.int .u64 (m.r x.src.toNat))] mo f11.d f11.z f11.b (by kernel_rfl) ⟨b_g2_11,b_g1_12,trivial⟩ (
  kq (fun cx=>ex_fa rfl (cx.rq 3 s3_13) (faExU30_3_0 _ _)) <|
  kq (fun cx=>ex_ld rfl (cx.u 0 rfl) (cx.rn 0 rfl) rfl Tryz.isAgg28) <|
  kq (fun cx=>ex_fa rfl (cx.rq 2 s2_14) (faExU27_0_0 _ _)) <|
  hk (fun cx=>cx.v (ex_ia (n:=16) (sz:=1) rfl (cx.u 0 rfl) (cx.u 1 rfl) Tryz.underlying23 (by kernel_rfl) (by omega) (by omega) (by omega)) rfl rfl) <|
  hk (fun cx=>cx.v (ldMcR (by omega) rfl (cx.u 0 rfl) (cx.rn 1 rfl)) rfl rfl) <|
  kmu 0 <|
  hn) ?_
 intro a12 w12 f12
 refine wp_ret ?_
 try simp only [Exit.inBlock,Exit.then]
 refine bodyPost_ret (res_t (fn:=Tryz.f25) rfl (f12.vv 5)) f12.d ?_
 have HE:(.int .u64 (m.r x.src.toNat):Value)=.int .u64 (secQ m x):=by
   have q:=And.intro trivial (And.intro Ffk1.out (And.intro Ffk2.out (And.intro Ffk3.out trivial)))
   simp only [Bool.true_and,Bool.and_true,Bool.false_and,Bool.and_false,beq_iff_eq,beq_eq_false_iff_ne,ne_eq] at q
   congr 1;unfold secQ
   first | (rw [if_pos (by omega)];done) | (rw [if_neg (by omega),if_pos (by omega)];done) | (rw [if_neg (by omega),if_neg (by omega)];done)
 exact ⟨retV HE,f12.b⟩
end Go.Proofs.YtjhedldplmhmjaaGreatDoor.Exe
