import Derived.Test.YtcnneeimkcnjfaaStB
import Derived.Test.YtcnneeimkcnjfaaSbL
namespace Go.Proofs.Ytcnneeimkcnjfaa.Sta
open Go.RowKit Bnd Knw
set_option linter.unusedVariables false
set_option linter.unusedSimpArgs false
set_option linter.unnecessarySimpa false
set_option maxRecDepth 100000
theorem faStC29_0_0 (g:Nat) (w:World):(Instr.fieldAt 29 (.pointer (some ⟨g,0,none⟩)) 0).run Try.prog w=.ok (.pointer (some ⟨g,0,none⟩)) w:=by simp [go_sem]
theorem faStC29_1_0 (g:Nat) (w:World):(Instr.fieldAt 29 (.pointer (some ⟨g,0,none⟩)) 1).run Try.prog w=.ok (.pointer (some ⟨g,4,none⟩)) w:=by simp [go_sem]
theorem faStC27_0_4 (g:Nat) (w:World):(Instr.fieldAt 27 (.pointer (some ⟨g,4,none⟩)) 0).run Try.prog w=.ok (.pointer (some ⟨g,4,none⟩)) w:=by simp [go_sem]
theorem faStC27_1_4 (g:Nat) (w:World):(Instr.fieldAt 27 (.pointer (some ⟨g,4,none⟩)) 1).run Try.prog w=.ok (.pointer (some ⟨g,5,none⟩)) w:=by simp [go_sem]
theorem faStC25_2_0 (g:Nat) (w:World):(Instr.fieldAt 25 (.pointer (some ⟨g,0,none⟩)) 2).run Try.prog w=.ok (.pointer (some ⟨g,2,none⟩)) w:=by simp [go_sem]
theorem faStC25_3_0 (g:Nat) (w:World):(Instr.fieldAt 25 (.pointer (some ⟨g,0,none⟩)) 3).run Try.prog w=.ok (.pointer (some ⟨g,3,none⟩)) w:=by simp [go_sem]
theorem faStC25_0_0 (g:Nat) (w:World):(Instr.fieldAt 25 (.pointer (some ⟨g,0,none⟩)) 0).run Try.prog w=.ok (.pointer (some ⟨g,0,none⟩)) w:=by simp [go_sem]
theorem faStC25_1_0 (g:Nat) (w:World):(Instr.fieldAt 25 (.pointer (some ⟨g,0,none⟩)) 1).run Try.prog w=.ok (.pointer (some ⟨g,1,none⟩)) w:=by simp [go_sem]
def lzI (x:B):Int:=64 - (lenN x.toNat:Int)
theorem len_le (x:B):lenN x.toNat ≤ 64:=lenN_64 (by have:=x.isLt;omega)
theorem lz_is (x:B):IntKind.i64.wrap (64 - (lenN (Int.toNat (V x)):Int))=lzI x:=by
  have:=len_le x
  rw [V_nat,IntKind.wrap_i64];unfold lzI;omega
theorem lz_u (x:B):IntKind.u64.wrap (lzI x)=lzI x:=by
  have:=len_le x
  rw [IntKind.wrap_u64];unfold lzI;omega
theorem lz_bd (x:B):0 ≤ lzI x ∧ lzI x ≤ 64:=by have:=len_le x;unfold lzI;omega
theorem ones_div {L:Nat} (h:L ≤ 64):(18446744073709551615:Int) / 2 ^ (64 - L)=2 ^ L - 1:=by
  have p:(2:Int) ^ 64=2 ^ (64 - L) * 2 ^ L:=by rw [← Int.pow_add];congr 1;omega
  have q:(0:Int) < 2 ^ (64 - L):=Int.pow_pos (by decide)
  have e:(18446744073709551615:Int)=(2 ^ (64 - L) - 1) + (2 ^ L - 1) * 2 ^ (64 - L):=by
    rw [Int.sub_mul,Int.one_mul,Int.mul_comm (2 ^ L),← p];omega
  rw [e,Int.add_mul_ediv_right _ _ (by omega),Int.ediv_eq_zero_of_lt (by omega) (by omega),Int.zero_add]
theorem com_is (lo hi:B):18446744073709551615 / 2 ^ Int.toNat (lzI (lo ^^^ hi))=V (comB lo hi):=by
  have l:=len_le (lo ^^^ hi)
  have b:=onesI_bd (n:=(lo ^^^ hi).toNat) (by have:=(lo ^^^ hi).isLt;omega)
  unfold comB
  rw [V_Bk b.1 b.2]
  unfold lzI onesI
  rw [show Int.toNat (64 - (lenN (lo ^^^ hi).toNat:Int))=64 - lenN (lo ^^^ hi).toNat by omega,ones_div l]
set_option maxHeartbeats 4000000 in
theorem lz_n (x:B) (W:World):Calls Try.prog 123 #[.int .u64 (V x)] W fun e w'=>e=.returned (.int .i64 (lzI x)) ∧ Below W.heap.size W w':=by
  refine calls_abs Try.func123 rfl (Nat.le_of_ble_eq_true rfl) ?_
  intro a0 d0 z0 h0
  replace z0:a0.tmps.size=6:=z0
  have s0_0:a0.tmps.getD 0 undef=.int .u64 (V x):=h0 0 (Nat.le_of_ble_eq_true rfl)
  refine wp_seq ?_
  refine go_reg [] [] [some (.int .i64 0)] mo d0 z0 (Below.refl _ _) (by kernel_rfl) trivial (
   hk (fun cx=>cx.q (ex_as rfl rfl)) <|
   hn) ?_
  intro a1 w1 f1
  refine wp_seq ?_
  have s0_1:=f1.q 0 s0_0
  refine go_reg [] [] [some (.int .u64 (V x)),some (.int .i64 (lenN (Int.toNat (V x)):Int)),some (.int .i64 (lzI x)),some (.int .i64 (lzI x))] mo f1.d f1.z f1.b (by kernel_rfl) trivial (
   hk (fun cx=>cx.q (ex_mv rfl (cx.rq 0 s0_1))) <|
   hc (fun _ _ wx cx=>cx.c rfl (args1 (cx.u 0 rfl)) Try.func127 (by decide +kernel) (len64_any (V x) wx (V_nn _) (V_lt _)) rfl rfl) <|
   hk (fun cx=>cx.v (ex_sub (y:=.tmp 4) rfl rfl (cx.u 0 rfl)) rfl (congrArg (Value.int .i64) (lz_is x))) <|
   kmu 0 <|
   hn) ?_
  intro a2 w2 f2
  refine wp_ret ?_
  try simp only [Exit.inBlock,Exit.then]
  refine bodyPost_ret (res_t (fn:=Try.f123) rfl (f2.v 3 rfl rfl rfl)) f2.d ?_
  exact ⟨rfl,f2.b⟩
set_option maxHeartbeats 4000000 in
theorem kcom_n (lo hi:B) (W:World):Calls Try.prog 110 #[.int .u64 (V lo),.int .u64 (V hi)] W fun e w'=>e=.returned (.agg (knC (comK lo hi))) ∧ Below W.heap.size W w':=by
  refine calls_abs Try.func110 rfl (Nat.le_of_ble_eq_true rfl) ?_
  intro a0 d0 z0 h0
  replace z0:a0.tmps.size=17:=z0
  have s0_0:a0.tmps.getD 0 undef=.int .u64 (V lo):=h0 0 (Nat.le_of_ble_eq_true rfl)
  have s1_0:a0.tmps.getD 1 undef=.int .u64 (V hi):=h0 1 (Nat.le_of_ble_eq_true rfl)
  refine wp_seq ?_
  refine go_reg [] [⟨0,4,27,(knC zKn),none,#[]⟩] [none] mo d0 z0 (Below.refl _ _) (by kernel_rfl) trivial (
   hk (fun cx=>cx.al (wn rfl) 0 rfl (al_kn rfl) rfl rfl rfl rfl rfl trivial) <|
   hn) ?_
  intro a1 w1 f1
  obtain ⟨g1,u_g1,q_g1,b_g1⟩:=f1.al.1
  refine wp_seq ?_
  refine wp_seq ?_
  cases fk1:decide ((V hi) < (V lo))
  case false=>
   have Ffk1:=Lib.hid fk1;clear fk1
   have s0_1:=f1.q 0 s0_0
   have s1_2:=f1.q 1 s1_0
   refine go_reg [] [] [some (.int .u64 (V lo)),some (.int .u64 (V hi)),oF] mo f1.d f1.z f1.b (by kernel_rfl) trivial (
    hk (fun cx=>cx.q (ex_mv rfl (cx.rq 0 s0_1))) <|
    hk (fun cx=>cx.q (ex_mv rfl (cx.rq 1 s1_2))) <|
    hk (fun cx=>cx.v (ex_gt (x:=.tmp 5) (y:=.tmp 6) rfl (cx.u 0 rfl) (cx.u 1 rfl)) rfl (congrArg Value.bool Ffk1.out)) <|
    hn) ?_
   intro a2 w2 f2
   refine wp_cond_false (f2.v 2 rfl rfl rfl) ?_
   refine wp_skip ?_
   refine wp_seq ?_
   have b_g1_3:=f2.k b_g1
   have s0_4:=f2.q 0 s0_1
   have s1_5:=f2.q 1 s1_2
   have s4_6:=f2.q 4 u_g1
   refine go_reg [⟨g1,27,(knC zKn),some 8,(knC (msk lo (comB lo hi)))⟩] [] [some (.int .u64 (V lo)),some (.int .u64 (V lo)),some (.int .u64 (V hi)),some (.int .u64 (V (lo ^^^ hi))),some (.int .i64 (lzI (lo ^^^ hi))),some (.int .u64 (lzI (lo ^^^ hi))),some (.int .u64 (V (comB lo hi))),some (.agg (knC (msk lo (comB lo hi)))),none] mo f2.d f2.z f2.b (by kernel_rfl) ⟨b_g1_3,trivial⟩ (
    hk (fun cx=>cx.q (ex_mv rfl (cx.rq 0 s0_4))) <|
    hk (fun cx=>cx.q (ex_mv rfl (cx.rq 0 s0_4))) <|
    hk (fun cx=>cx.q (ex_mv rfl (cx.rq 1 s1_5))) <|
    hk (fun cx=>cx.v (ex_xor (x:=.tmp 10) (y:=.tmp 11) rfl (cx.u 0 rfl) (cx.u 1 rfl)) rfl (congrArg (Value.int .u64) (V_xor _ _))) <|
    hc (fun _ _ wx cx=>cx.c rfl (args1 (cx.u 0 rfl)) Try.func123 (by decide +kernel) (lz_n (lo ^^^ hi) wx) rfl rfl) <|
    hk (fun cx=>cx.v (ex_conv (x:=.tmp 13) rfl (cx.u 0 rfl) Try.underlying3 Try.underlying55) rfl (congrArg (Value.int .u64) (lz_u _))) <|
    hk (fun cx=>cx.v (v:=.int .u64 (18446744073709551615 / 2 ^ Int.toNat (lzI (lo ^^^ hi)))) (exec_shr (y:=.tmp 14) rfl rfl (cx.u 0 rfl) (lz_bd _).1 (lz_bd _).2) rfl (congrArg (Value.int .u64) (com_is lo hi))) <|
    hc (fun _ _ wx cx=>cx.c rfl (args2 (cx.u 0 rfl) (cx.u 1 rfl)) Try.func90 (by decide +kernel) (masked_n lo (comB lo hi) wx) rfl rfl) <|
    hk (fun cx=>cx.stR (wn rfl) rfl rfl 0 rfl (cx.rq 4 s4_6) (cx.u 0 rfl) (by kernel_rfl) (Eq.refl 2) (knC_one _) q_g1 rfl trivial trivial) <|
    hn) ?_
   intro a3 w3 f3
   refine wp_ret ?_
   have s4_7:=f3.q 4 s4_6
   try simp only [Exit.inBlock,Exit.then]
   refine bodyPost_ret (res_c (fn:=Try.f110) rfl s4_7 (load_row 27 f3.rows.1 Try.underlying27 rfl (by kernel_rfl))) f3.d ?_
   have HE:(.agg (knC (msk lo (comB lo hi))):Value)=.agg (knC (comK lo hi)):=by unfold comK;rw [if_pos (by have:=Ffk1.out;simp only [decide_eq_true_eq,decide_eq_false_iff_not] at this;omega)]
   exact ⟨retV HE,f3.b⟩
  have Ffk1:=Lib.hid fk1;clear fk1
  have s0_8:=f1.q 0 s0_0
  have s1_9:=f1.q 1 s1_0
  refine go_reg [] [] [some (.int .u64 (V lo)),some (.int .u64 (V hi)),oT] mo f1.d f1.z f1.b (by kernel_rfl) trivial (
   hk (fun cx=>cx.q (ex_mv rfl (cx.rq 0 s0_8))) <|
   hk (fun cx=>cx.q (ex_mv rfl (cx.rq 1 s1_9))) <|
   hk (fun cx=>cx.v (ex_gt (x:=.tmp 5) (y:=.tmp 6) rfl (cx.u 0 rfl) (cx.u 1 rfl)) rfl (congrArg Value.bool Ffk1.out)) <|
   hn) ?_
  intro a4 w4 f4
  refine wp_cond_true (f4.v 2 rfl rfl rfl) ?_
  refine wp_seq ?_
  have b_g1_10:=f4.k b_g1
  have s4_11:=f4.q 4 u_g1
  refine go_reg [⟨g1,27,(knC zKn),some 1,(knC allK)⟩] [] [some (.agg (knC allK)),none] mo f4.d f4.z f4.b (by kernel_rfl) ⟨b_g1_10,trivial⟩ (
   hc (fun _ _ wx cx=>cx.c rfl (args0 ) Try.func67 (by decide +kernel) (kall_n wx) rfl rfl) <|
   hk (fun cx=>cx.stR (wn rfl) rfl rfl 0 rfl (cx.rq 4 s4_11) (cx.u 0 rfl) (by kernel_rfl) (Eq.refl 2) (knC_one _) q_g1 rfl trivial trivial) <|
   hn) ?_
  intro a5 w5 f5
  refine wp_ret ?_
  have s4_12:=f5.q 4 s4_11
  try simp only [Exit.inBlock,Exit.then]
  refine bodyPost_ret (res_c (fn:=Try.f110) rfl s4_12 (load_row 27 f5.rows.1 Try.underlying27 rfl (by kernel_rfl))) f5.d ?_
  have HE:(.agg (knC allK):Value)=.agg (knC (comK lo hi)):=by unfold comK;rw [if_neg (by have:=Ffk1.out;simp only [decide_eq_true_eq,decide_eq_false_iff_not] at this;omega)]
  exact ⟨retV HE,f5.b⟩
set_option maxHeartbeats 4000000 in
theorem vscalar_n (r:Rg) (k:Kn) (W:World):Calls Try.prog 62 #[.agg (cR r.u.lo r.u.hi r.s.lo r.s.hi),.agg (knC k)] W fun e w'=>e=.returned (.agg (scC ⟨r,k⟩)) ∧ Below W.heap.size W w':=by
  refine calls_abs Try.func62 rfl (Nat.le_of_ble_eq_true rfl) ?_
  intro a0 d0 z0 h0
  replace z0:a0.tmps.size=8:=z0
  have s0_0:a0.tmps.getD 0 undef=.agg (cR r.u.lo r.u.hi r.s.lo r.s.hi):=h0 0 (Nat.le_of_ble_eq_true rfl)
  have s1_0:a0.tmps.getD 1 undef=.agg (knC k):=h0 1 (Nat.le_of_ble_eq_true rfl)
  refine wp_seq ?_
  refine go_reg [] [⟨0,2,25,(cR r.u.lo r.u.hi r.s.lo r.s.hi),none,#[]⟩,⟨1,3,27,(knC k),none,#[]⟩,⟨2,4,29,(scC zSc),none,#[]⟩] [none,none,none] mo d0 z0 (Below.refl _ _) (by kernel_rfl) trivial (
   hk (fun cx=>cx.al (wn rfl) 0 rfl (ex_box rfl (cx.rq 0 s0_0) rfl) rfl rfl rfl rfl rfl trivial) <|
   hk (fun cx=>cx.al (wn rfl) 1 rfl (ex_box rfl (cx.rq 1 s1_0) rfl) rfl rfl rfl rfl rfl trivial) <|
   hk (fun cx=>cx.al (wn rfl) 2 rfl (al_sc rfl) rfl rfl rfl rfl rfl trivial) <|
   hn) ?_
  intro a1 w1 f1
  obtain ⟨g1,u_g1,q_g1,b_g1⟩:=f1.al.1
  obtain ⟨g2,u_g2,q_g2,b_g2⟩:=f1.al.2.1
  obtain ⟨g3,u_g3,q_g3,b_g3⟩:=f1.al.2.2.1
  refine wp_seq ?_
  refine go_reg [bx g1 25 (cR r.u.lo r.u.hi r.s.lo r.s.hi),bx g2 27 (knC k),⟨g3,29,(scC zSc),some 3,(scC ⟨r,k⟩)⟩] [] [some (.agg (cR r.u.lo r.u.hi r.s.lo r.s.hi)),some (.agg (knC k)),some (.agg (scC ⟨r,k⟩)),none] mo f1.d f1.z f1.b (by kernel_rfl) ⟨b_g1,b_g2,b_g3,trivial⟩ (
   hk (fun cx=>cx.q (ldR rfl (cx.rq 2 u_g1) (cx.rn 0 rfl))) <|
   hk (fun cx=>cx.q (ldKn rfl (cx.rq 3 u_g2) (cx.rn 1 rfl))) <|
   hk (fun cx=>cx.q (exec_build rfl (parts2 (cx.u 0 rfl) (cx.u 1 rfl)) (by kernel_rfl))) <|
   hk (fun cx=>cx.stR (wn rfl) rfl rfl 2 rfl (cx.rq 4 u_g3) (cx.u 0 rfl) (by kernel_rfl) (Eq.refl 6) (scC_one _) q_g3 rfl ⟨(ne_ptr (pairAt f1.ps 0 2 (by decide) rfl rfl) u_g1 u_g3),(ne_ptr (pairAt f1.ps 1 2 (by decide) rfl rfl) u_g2 u_g3),trivial⟩ trivial) <|
   hn) ?_
  intro a2 w2 f2
  refine wp_ret ?_
  have s4_1:=f2.q 4 u_g3
  try simp only [Exit.inBlock,Exit.then]
  refine bodyPost_ret (res_c (fn:=Try.f62) rfl s4_1 (load_row 29 f2.rows.2.2.1 Try.underlying29 rfl (by kernel_rfl))) f2.d ?_
  exact ⟨rfl,f2.b⟩
set_option maxHeartbeats 4000000 in
theorem vmay_n (a:Sc) (W:World):Calls Try.prog 42 #[.agg (scC a)] W fun e w'=>e=.returned (.bool (Sc.mayB a)) ∧ Below W.heap.size W w':=by
  refine calls_abs Try.func42 rfl (Nat.le_of_ble_eq_true rfl) ?_
  intro a0 d0 z0 h0
  replace z0:a0.tmps.size=11:=z0
  have s0_0:a0.tmps.getD 0 undef=.agg (scC a):=h0 0 (Nat.le_of_ble_eq_true rfl)
  refine wp_seq ?_
  refine go_reg [] [⟨0,1,29,(scC a),none,#[]⟩] [none,oF] mo d0 z0 (Below.refl _ _) (by kernel_rfl) trivial (
   hk (fun cx=>cx.al (wn rfl) 0 rfl (ex_box rfl (cx.rq 0 s0_0) rfl) rfl rfl rfl rfl rfl trivial) <|
   hk (fun cx=>cx.q (ex_as rfl rfl)) <|
   hn) ?_
  intro a1 w1 f1
  obtain ⟨g1,u_g1,q_g1,b_g1⟩:=f1.al.1
  refine wp_seq ?_
  cases fk1:Rg.mayB a.r
  case false=>
   have Ffk1:=Lib.hid fk1;clear fk1
   refine go_reg [bx g1 29 (scC a)] [] [some (pt g1 0),some (.agg (cR a.r.u.lo a.r.u.hi a.r.s.lo a.r.s.hi)),oF,oF,oU,oU,oU,oF,oF] mo f1.d f1.z f1.b (by kernel_rfl) ⟨b_g1,trivial⟩ (
    hk (fun cx=>cx.q (ex_fa rfl (cx.rq 1 u_g1) (faStC29_0_0 _ _))) <|
    hk (fun cx=>cx.q (exec_loadR 25 _ rfl g1 0 (cx.u 0 rfl) (cx.rn 0 rfl) [.int .u64 a.r.u.lo,.int .u64 a.r.u.hi,.int .i64 a.r.s.lo,.int .i64 a.r.s.hi] rfl _ Try.underlying25 rfl (by kernel_rfl))) <|
    hc (fun _ _ wx cx=>cx.c rfl (args1 (cx.u 0 rfl)) Try.func69 (by decide +kernel) (may_n a.r.u.lo a.r.u.hi a.r.s.lo a.r.s.hi wx) rfl (congrArg Value.bool Ffk1.out)) <|
    kmu 0 <|
    kno 0 <|
    kno 1 <|
    kno 1 <|
    hk (fun cx=>cx.q (ex_pf rfl (cx.u 0 rfl) rfl)) <|
    kmu 0 <|
    hn) ?_
   intro a2 w2 f2
   refine wp_ret ?_
   try simp only [Exit.inBlock,Exit.then]
   refine bodyPost_ret (res_t (fn:=Try.f42) rfl (f2.v 8 rfl rfl rfl)) f2.d ?_
   have HE:(.bool false:Value)=.bool (Sc.mayB a):=by unfold Sc.mayB;simp only [Ffk1.out,Bool.true_and,Bool.and_true,Bool.false_and,Bool.and_false,Bool.or_false,Bool.false_or,Bool.true_or,Bool.or_true,Bool.not_true,Bool.not_false,if_true,if_false,Bool.false_eq_true,Bool.true_eq_false,reduceCtorEq];try rfl
   exact ⟨retV HE,f2.b⟩
  have Ffk1:=Lib.hid fk1;clear fk1
  refine go_reg [bx g1 29 (scC a)] [] [some (pt g1 0),some (.agg (cR a.r.u.lo a.r.u.hi a.r.s.lo a.r.s.hi)),oT,oT,some (pt g1 4),some (.agg (knC a.k)),some (.bool (Kn.mayB a.k)),some (.bool (Kn.mayB a.k)),some (.bool (Kn.mayB a.k))] mo f1.d f1.z f1.b (by kernel_rfl) ⟨b_g1,trivial⟩ (
   hk (fun cx=>cx.q (ex_fa rfl (cx.rq 1 u_g1) (faStC29_0_0 _ _))) <|
   hk (fun cx=>cx.q (exec_loadR 25 _ rfl g1 0 (cx.u 0 rfl) (cx.rn 0 rfl) [.int .u64 a.r.u.lo,.int .u64 a.r.u.hi,.int .i64 a.r.s.lo,.int .i64 a.r.s.hi] rfl _ Try.underlying25 rfl (by kernel_rfl))) <|
   hc (fun _ _ wx cx=>cx.c rfl (args1 (cx.u 0 rfl)) Try.func69 (by decide +kernel) (may_n a.r.u.lo a.r.u.hi a.r.s.lo a.r.s.hi wx) rfl (congrArg Value.bool Ffk1.out)) <|
   kmu 0 <|
   hk (fun cx=>cx.vy 0 (ex_fa rfl (cx.rq 1 u_g1) (faStC29_1_0 _ _))) <|
   hk (fun cx=>cx.vy 1 (exec_loadR 27 _ rfl g1 4 (cx.u 0 rfl) (cx.rn 0 rfl) [.int .u64 (V a.k.v),.int .u64 (V a.k.m)] rfl _ Try.underlying27 rfl (by kernel_rfl))) <|
   hc (fun _ _ wx cx=>cx.call (cx.wy rfl rfl rfl rfl (cx.u 1 rfl)) rfl rfl (args1 (cx.u 0 rfl)) Try.func70 (by decide +kernel) rfl (kmay_n a.k wx) rfl rfl rfl rfl) <|
   hk (fun cx=>cx.q (ex_pt rfl (cx.u 0 rfl) (cx.u 1 rfl))) <|
   kmu 0 <|
   hn) ?_
  intro a3 w3 f3
  refine wp_ret ?_
  try simp only [Exit.inBlock,Exit.then]
  refine bodyPost_ret (res_t (fn:=Try.f42) rfl (f3.v 8 rfl rfl rfl)) f3.d ?_
  have HE:(.bool (Kn.mayB a.k):Value)=.bool (Sc.mayB a):=by unfold Sc.mayB;simp only [Ffk1.out,Bool.true_and,Bool.and_true,Bool.false_and,Bool.and_false,Bool.or_false,Bool.false_or,Bool.true_or,Bool.or_true,Bool.not_true,Bool.not_false,if_true,if_false,Bool.false_eq_true,Bool.true_eq_false,reduceCtorEq];try rfl
  exact ⟨retV HE,f3.b⟩
set_option maxHeartbeats 4000000 in
theorem vall_n  (W:World):Calls Try.prog 40 #[] W fun e w'=>e=.returned (.agg (scC allC)) ∧ Below W.heap.size W w':=by
  refine calls_abs Try.func40 rfl (Nat.le_of_ble_eq_true rfl) ?_
  intro a0 d0 z0 h0
  replace z0:a0.tmps.size=4:=z0
  refine wp_seq ?_
  refine go_reg [] [⟨0,0,29,(scC zSc),none,#[]⟩] [none] mo d0 z0 (Below.refl _ _) (by kernel_rfl) trivial (
   hk (fun cx=>cx.al (wn rfl) 0 rfl (al_sc rfl) rfl rfl rfl rfl rfl trivial) <|
   hn) ?_
  intro a1 w1 f1
  obtain ⟨g1,u_g1,q_g1,b_g1⟩:=f1.al.1
  refine wp_seq ?_
  refine go_reg [⟨g1,29,(scC zSc),some 3,(scC ⟨allR,allK⟩)⟩] [] [some (.agg (cR allR.u.lo allR.u.hi allR.s.lo allR.s.hi)),some (.agg (knC allK)),some (.agg (scC ⟨allR,allK⟩)),none] mo f1.d f1.z f1.b (by kernel_rfl) ⟨b_g1,trivial⟩ (
   hc (fun _ _ wx cx=>cx.c rfl (args0 ) Try.func58 (by decide +kernel) (all_n wx) rfl rfl) <|
   hc (fun _ _ wx cx=>cx.c rfl (args0 ) Try.func67 (by decide +kernel) (kall_n wx) rfl rfl) <|
   hc (fun _ _ wx cx=>cx.c rfl (args2 (cx.u 0 rfl) (cx.u 1 rfl)) Try.func62 (by decide +kernel) (vscalar_n allR allK wx) rfl rfl) <|
   hk (fun cx=>cx.stR (wn rfl) rfl rfl 0 rfl (cx.rq 0 u_g1) (cx.u 0 rfl) (by kernel_rfl) (Eq.refl 6) (scC_one _) q_g1 rfl trivial trivial) <|
   hn) ?_
  intro a2 w2 f2
  refine wp_ret ?_
  have s0_1:=f2.q 0 u_g1
  try simp only [Exit.inBlock,Exit.then]
  refine bodyPost_ret (res_c (fn:=Try.f40) rfl s0_1 (load_row 29 f2.rows.1 Try.underlying29 rfl (by kernel_rfl))) f2.d ?_
  have HE:(.agg (scC ⟨allR,allK⟩):Value)=.agg (scC allC):=rfl
  exact ⟨retV HE,f2.b⟩
set_option maxHeartbeats 4000000 in
theorem vone_n (v:B) (W:World):Calls Try.prog 38 #[.int .u64 (V v)] W fun e w'=>e=.returned (.agg (scC (oneC v))) ∧ Below W.heap.size W w':=by
  refine calls_abs Try.func38 rfl (Nat.le_of_ble_eq_true rfl) ?_
  intro a0 d0 z0 h0
  replace z0:a0.tmps.size=8:=z0
  have s0_0:a0.tmps.getD 0 undef=.int .u64 (V v):=h0 0 (Nat.le_of_ble_eq_true rfl)
  refine wp_seq ?_
  refine go_reg [] [⟨0,2,29,(scC zSc),none,#[]⟩] [none] mo d0 z0 (Below.refl _ _) (by kernel_rfl) trivial (
   hk (fun cx=>cx.al (wn rfl) 0 rfl (al_sc rfl) rfl rfl rfl rfl rfl trivial) <|
   hn) ?_
  intro a1 w1 f1
  obtain ⟨g1,u_g1,q_g1,b_g1⟩:=f1.al.1
  refine wp_seq ?_
  have s0_1:=f1.q 0 s0_0
  refine go_reg [⟨g1,29,(scC zSc),some 5,(scC ⟨oneR (V v),oneK v⟩)⟩] [] [some (.int .u64 (V v)),some (.agg (cR (oneR (V v)).u.lo (oneR (V v)).u.hi (oneR (V v)).s.lo (oneR (V v)).s.hi)),some (.int .u64 (V v)),some (.agg (knC (oneK v))),some (.agg (scC ⟨oneR (V v),oneK v⟩)),none] mo f1.d f1.z f1.b (by kernel_rfl) ⟨b_g1,trivial⟩ (
   hk (fun cx=>cx.q (ex_mv rfl (cx.rq 0 s0_1))) <|
   hc (fun _ _ wx cx=>cx.c rfl (args1 (cx.u 0 rfl)) Try.func63 (by decide +kernel) (one_n (V v) wx) rfl rfl) <|
   hk (fun cx=>cx.q (ex_mv rfl (cx.rq 0 s0_1))) <|
   hc (fun _ _ wx cx=>cx.c rfl (args1 (cx.u 0 rfl)) Try.func64 (by decide +kernel) (kone_n v wx) rfl rfl) <|
   hc (fun _ _ wx cx=>cx.c rfl (args2 (cx.u 0 rfl) (cx.u 1 rfl)) Try.func62 (by decide +kernel) (vscalar_n (oneR (V v)) (oneK v) wx) rfl rfl) <|
   hk (fun cx=>cx.stR (wn rfl) rfl rfl 0 rfl (cx.rq 2 u_g1) (cx.u 0 rfl) (by kernel_rfl) (Eq.refl 6) (scC_one _) q_g1 rfl trivial trivial) <|
   hn) ?_
  intro a2 w2 f2
  refine wp_ret ?_
  have s2_2:=f2.q 2 u_g1
  try simp only [Exit.inBlock,Exit.then]
  refine bodyPost_ret (res_c (fn:=Try.f38) rfl s2_2 (load_row 29 f2.rows.1 Try.underlying29 rfl (by kernel_rfl))) f2.d ?_
  have HE:(.agg (scC ⟨oneR (V v),oneK v⟩):Value)=.agg (scC (oneC v)):=rfl
  exact ⟨retV HE,f2.b⟩
set_option maxHeartbeats 4000000 in
theorem vhas_n (a:Sc) (v:B) (W:World):Calls Try.prog 44 #[.agg (scC a),.int .u64 (V v)] W fun e w'=>e=.returned (.bool (Sc.hasB a v)) ∧ Below W.heap.size W w':=by
  refine calls_abs Try.func44 rfl (Nat.le_of_ble_eq_true rfl) ?_
  intro a0 d0 z0 h0
  replace z0:a0.tmps.size=15:=z0
  have s0_0:a0.tmps.getD 0 undef=.agg (scC a):=h0 0 (Nat.le_of_ble_eq_true rfl)
  have s1_0:a0.tmps.getD 1 undef=.int .u64 (V v):=h0 1 (Nat.le_of_ble_eq_true rfl)
  refine wp_seq ?_
  refine go_reg [] [⟨0,2,29,(scC a),none,#[]⟩] [none,oF] mo d0 z0 (Below.refl _ _) (by kernel_rfl) trivial (
   hk (fun cx=>cx.al (wn rfl) 0 rfl (ex_box rfl (cx.rq 0 s0_0) rfl) rfl rfl rfl rfl rfl trivial) <|
   hk (fun cx=>cx.q (ex_as rfl rfl)) <|
   hn) ?_
  intro a1 w1 f1
  obtain ⟨g1,u_g1,q_g1,b_g1⟩:=f1.al.1
  refine wp_seq ?_
  cases fk1:Rg.hasB a.r (V v)
  case false=>
   have Ffk1:=Lib.hid fk1;clear fk1
   have s1_1:=f1.q 1 s1_0
   refine go_reg [bx g1 29 (scC a)] [] [some (pt g1 0),some (.agg (cR a.r.u.lo a.r.u.hi a.r.s.lo a.r.s.hi)),some (.int .u64 (V v)),oF,oF,oU,oU,oU,oU,oF,oF] mo f1.d f1.z f1.b (by kernel_rfl) ⟨b_g1,trivial⟩ (
    hk (fun cx=>cx.q (ex_fa rfl (cx.rq 2 u_g1) (faStC29_0_0 _ _))) <|
    hk (fun cx=>cx.q (exec_loadR 25 _ rfl g1 0 (cx.u 0 rfl) (cx.rn 0 rfl) [.int .u64 a.r.u.lo,.int .u64 a.r.u.hi,.int .i64 a.r.s.lo,.int .i64 a.r.s.hi] rfl _ Try.underlying25 rfl (by kernel_rfl))) <|
    hk (fun cx=>cx.q (ex_mv rfl (cx.rq 1 s1_1))) <|
    hc (fun _ _ wx cx=>cx.c rfl (args2 (cx.u 0 rfl) (cx.u 1 rfl)) Try.func73 (by decide +kernel) (has_n a.r.u.lo a.r.u.hi a.r.s.lo a.r.s.hi (V v) wx) rfl (congrArg Value.bool Ffk1.out)) <|
    kmu 0 <|
    kno 0 <|
    kno 1 <|
    kno 0 <|
    kno 2 <|
    hk (fun cx=>cx.q (ex_pf rfl (cx.u 0 rfl) rfl)) <|
    kmu 0 <|
    hn) ?_
   intro a2 w2 f2
   refine wp_ret ?_
   try simp only [Exit.inBlock,Exit.then]
   refine bodyPost_ret (res_t (fn:=Try.f44) rfl (f2.v 10 rfl rfl rfl)) f2.d ?_
   have HE:(.bool false:Value)=.bool (Sc.hasB a v):=by unfold Sc.hasB;simp only [Ffk1.out,Bool.true_and,Bool.and_true,Bool.false_and,Bool.and_false,Bool.or_false,Bool.false_or,Bool.true_or,Bool.or_true,Bool.not_true,Bool.not_false,if_true,if_false,Bool.false_eq_true,Bool.true_eq_false,reduceCtorEq];try rfl
   exact ⟨retV HE,f2.b⟩
  have Ffk1:=Lib.hid fk1;clear fk1
  have s1_2:=f1.q 1 s1_0
  refine go_reg [bx g1 29 (scC a)] [] [some (pt g1 0),some (.agg (cR a.r.u.lo a.r.u.hi a.r.s.lo a.r.s.hi)),some (.int .u64 (V v)),oT,oT,some (pt g1 4),some (.agg (knC a.k)),some (.int .u64 (V v)),some (.bool (Kn.hasB a.k v)),some (.bool (Kn.hasB a.k v)),some (.bool (Kn.hasB a.k v))] mo f1.d f1.z f1.b (by kernel_rfl) ⟨b_g1,trivial⟩ (
   hk (fun cx=>cx.q (ex_fa rfl (cx.rq 2 u_g1) (faStC29_0_0 _ _))) <|
   hk (fun cx=>cx.q (exec_loadR 25 _ rfl g1 0 (cx.u 0 rfl) (cx.rn 0 rfl) [.int .u64 a.r.u.lo,.int .u64 a.r.u.hi,.int .i64 a.r.s.lo,.int .i64 a.r.s.hi] rfl _ Try.underlying25 rfl (by kernel_rfl))) <|
   hk (fun cx=>cx.q (ex_mv rfl (cx.rq 1 s1_2))) <|
   hc (fun _ _ wx cx=>cx.c rfl (args2 (cx.u 0 rfl) (cx.u 1 rfl)) Try.func73 (by decide +kernel) (has_n a.r.u.lo a.r.u.hi a.r.s.lo a.r.s.hi (V v) wx) rfl (congrArg Value.bool Ffk1.out)) <|
   kmu 0 <|
   hk (fun cx=>cx.vy 0 (ex_fa rfl (cx.rq 2 u_g1) (faStC29_1_0 _ _))) <|
   hk (fun cx=>cx.vy 1 (exec_loadR 27 _ rfl g1 4 (cx.u 0 rfl) (cx.rn 0 rfl) [.int .u64 (V a.k.v),.int .u64 (V a.k.m)] rfl _ Try.underlying27 rfl (by kernel_rfl))) <|
   hk (fun cx=>cx.vy 0 (ex_mv rfl (cx.rq 1 s1_2))) <|
   hc (fun _ _ wx cx=>cx.call (cx.wy rfl rfl rfl rfl (cx.u 2 rfl)) rfl rfl (args2 (cx.u 0 rfl) (cx.u 1 rfl)) Try.func74 (by decide +kernel) rfl (khas_n a.k v wx) rfl rfl rfl rfl) <|
   hk (fun cx=>cx.q (ex_pt rfl (cx.u 0 rfl) (cx.u 1 rfl))) <|
   kmu 0 <|
   hn) ?_
  intro a3 w3 f3
  refine wp_ret ?_
  try simp only [Exit.inBlock,Exit.then]
  refine bodyPost_ret (res_t (fn:=Try.f44) rfl (f3.v 10 rfl rfl rfl)) f3.d ?_
  have HE:(.bool (Kn.hasB a.k v):Value)=.bool (Sc.hasB a v):=by unfold Sc.hasB;simp only [Ffk1.out,Bool.true_and,Bool.and_true,Bool.false_and,Bool.and_false,Bool.or_false,Bool.false_or,Bool.true_or,Bool.or_true,Bool.not_true,Bool.not_false,if_true,if_false,Bool.false_eq_true,Bool.true_eq_false,reduceCtorEq];try rfl
  exact ⟨retV HE,f3.b⟩
def Sc.it (s:Sc):Nat → Sc
  | 0=>s
  | k + 1=>(Sc.it s k).on
theorem it_ok {s:Sc} (h:s.r.Ok):∀ k,(Sc.it s k).r.Ok
  | 0=>h
  | k + 1=>on_ok (s:=Sc.it s k) (it_ok h k)
theorem it_kOk {s:Sc} (h:s.r.Ok) (k:Nat):Rg.Ok ⟨⟨V (Sc.it s k).k.v,V ((Sc.it s k).k.v ||| (Sc.it s k).k.m)⟩,allR.s⟩:=rgK_ok (Sc.it s k).k
theorem narB_is (s:Sc):Sc.narB s=allN (fun j=>(Sc.it s j).onB) 2:=by
  show (s.onB && s.on.onB)=((true && s.onB) && s.on.onB)
  rw [Bool.true_and]
theorem it_step {s:Sc} {k:Nat} (h:(Sc.it s k).onB=true):(⟨Sc.oR (Sc.it s k),Sc.oK (Sc.it s k)⟩:Sc)=Sc.it s (k + 1):=by
  show _=(Sc.it s k).on
  unfold Sc.on
  rw [if_pos h]
theorem lo_w {s:Sc} (h:s.r.Ok):(Sc.oR s).u.lo=V (Bk (Sc.oR s).u.lo):=(V_Bk (oR_ok h).1.1.1 (oR_ok h).1.1.2).symm
theorem hi_w {s:Sc} (h:s.r.Ok):(Sc.oR s).u.hi=V (Bk (Sc.oR s).u.hi):=(V_Bk (oR_ok h).1.2.1 (oR_ok h).1.2.2).symm
set_option maxHeartbeats 4000000 in
theorem vnarrow_n (a:Sc) (W:World) (ha:a.r.Ok):Calls Try.prog 85 #[.agg (scC a)] W fun e w'=>e=.returned (.tuple #[.agg (scC (Sc.nar a)),.bool (Sc.narB a)]) ∧ Below W.heap.size W w':=by
  have HA:=Lib.hid ha
  clear ha
  refine calls_abs Try.func85 rfl (Nat.le_of_ble_eq_true rfl) ?_
  intro a0 d0 z0 h0
  replace z0:a0.tmps.size=56:=z0
  have s0_0:a0.tmps.getD 0 undef=.agg (scC a):=h0 0 (Nat.le_of_ble_eq_true rfl)
  refine wp_seq ?_
  refine go_reg [] [⟨0,1,29,(scC a),none,#[]⟩,⟨1,2,29,(scC zSc),none,#[]⟩] [none,none,oF] mo d0 z0 (Below.refl _ _) (by kernel_rfl) trivial (
   hk (fun cx=>cx.al (wn rfl) 0 rfl (ex_box rfl (cx.rq 0 s0_0) rfl) rfl rfl rfl rfl rfl trivial) <|
   hk (fun cx=>cx.al (wn rfl) 1 rfl (al_sc rfl) rfl rfl rfl rfl rfl trivial) <|
   hk (fun cx=>cx.q (ex_as rfl rfl)) <|
   hn) ?_
  intro a1 w1 f1
  obtain ⟨g1,u_g1,q_g1,b_g1⟩:=f1.al.1
  obtain ⟨g2,u_g2,q_g2,b_g2⟩:=f1.al.2.1
  refine wp_seq ?_
  refine go_reg [] [⟨1,4,25,(cR 0 0 0 0),some 2,(cR allR.u.lo allR.u.hi allR.s.lo allR.s.hi)⟩] [some (.agg (cR allR.u.lo allR.u.hi allR.s.lo allR.s.hi)),none,none] mo f1.d f1.z f1.b (by kernel_rfl) trivial (
   hc (fun _ _ wx cx=>cx.c rfl (args0 ) Try.func58 (by decide +kernel) (all_n wx) rfl rfl) <|
   hk (fun cx=>cx.al (wn rfl) 0 rfl (by simp [execOp,Act.eval,go_sem]) rfl rfl rfl rfl (by kernel_rfl) trivial) <|
   hk (fun cx=>cx.stA (wn rfl) rfl rfl 0 0 rfl rfl rfl rfl (cx.u 1 rfl) (by kernel_rfl) (Eq.refl 4) (cR_one _ _ _ _) f1.b.size rfl rfl trivial) <|
   hn) ?_
  intro a2 w2 f2
  obtain ⟨g3,u_g3,q_g3,b_g3⟩:=f2.al.1
  refine wp_seq ?_
  refine wp_seq ?_
  refine go_reg [] [] [some (.int .i64 0)] mo f2.d f2.z f2.b (by kernel_rfl) trivial (
   hk (fun cx=>cx.q (ex_mv rfl rfl)) <|
   hn) ?_
  intro a3 w3 f3
  refine wp_block ?_
  have neL1_0_1:=(ne_ptr (pairAt f1.ps 0 1 (by decide) rfl rfl) u_g1 u_g2)
  have neL1_0_2:=(ne_row b_g1 q_g3)
  have neL1_1_2:=(ne_row b_g2 q_g3)
  have s1_1:=f3.q 1 (f2.q 1 u_g1)
  have s2_2:=f3.q 2 (f2.q 2 u_g2)
  have s4_3:=f3.q 4 u_g3
  have b_g1_4:=f3.k (f2.k b_g1)
  have b_g2_5:=f3.k (f2.k b_g2)
  have b_g3_6:=f3.k b_g3
  refine wp_count 2 (fun k1 aI wI=>allN (fun j=>(Sc.it a j).onB) k1=true ∧ Mid 56 W [(1,.pointer (some ⟨g1,0,none⟩)),(2,.pointer (some ⟨g2,0,none⟩)),(4,.pointer (some ⟨g3,0,none⟩)),(10,.int .i64 (k1:Int))] [(g1,29,(scC (Sc.it a k1))),(g2,29,(scC zSc)),(g3,25,(cR allR.u.lo allR.u.hi allR.s.lo allR.s.hi))] aI wI) ⟨rfl,f3.d,f3.z,f3.b,⟨s1_1,s2_2,s4_3,(f3.v 0 rfl rfl rfl),trivial⟩,⟨b_g1_4,b_g2_5,b_g3_6,trivial⟩⟩ ?_
  intro k1 aL1 wL1 hlek1 hI1
  obtain ⟨hp1,dL1,zL1,BL1,⟨sL1_1,sL1_2,sL1_4,sL1_10,-⟩,⟨bL1_g1,bL1_g2,bL1_g3,-⟩⟩:=hI1
  replace sL1_1:aL1.tmps.getD 1 undef=.pointer (some ⟨g1,0,none⟩):=sL1_1
  replace sL1_2:aL1.tmps.getD 2 undef=.pointer (some ⟨g2,0,none⟩):=sL1_2
  replace sL1_4:aL1.tmps.getD 4 undef=.pointer (some ⟨g3,0,none⟩):=sL1_4
  replace sL1_10:aL1.tmps.getD 10 undef=.int .i64 (k1:Int):=sL1_10
  replace bL1_g1:wL1.heap[g1]?=some (.cells (scC (Sc.it a k1)) 29 (0,0)):=bL1_g1
  replace bL1_g2:wL1.heap[g2]?=some (.cells (scC zSc) 29 (0,0)):=bL1_g2
  replace bL1_g3:wL1.heap[g3]?=some (.cells (cR allR.u.lo allR.u.hi allR.s.lo allR.s.hi) 25 (0,0)):=bL1_g3
  refine wp_seq ?_
  cases fk1:decide ((k1:Int) < 2)
  case true=>
   have Ffk1:=Lib.hid fk1;clear fk1
   have hlt1:k1 < 2:=by have:=Ffk1.out;simp only [decide_eq_true_eq] at this;omega
   refine go_reg [] [] [oT] mo dL1 zL1 BL1 (by kernel_rfl) trivial (
    hk (fun cx=>cx.v (ex_lt (x:=.tmp 10) rfl (cx.rq 10 sL1_10) rfl) rfl (congrArg Value.bool Ffk1.out)) <|
    hn) ?_
   intro a4 w4 f4
   refine wp_seq ?_
   refine wp_cond_true (f4.v 0 rfl rfl rfl) ?_
   refine wp_skip ?_
   refine wp_seq ?_
   refine wp_block ?_
   refine wp_seq ?_
   cases fk2:Rg.meetB (Sc.it a k1).r ⟨⟨V (Sc.it a k1).k.v,V ((Sc.it a k1).k.v ||| (Sc.it a k1).k.m)⟩,allR.s⟩
   case false=>
    have Ffk2:=Lib.hid fk2;clear fk2
    have b_g1_7:=f4.k bL1_g1
    have b_g3_8:=f4.k bL1_g3
    have s1_9:=f4.q 1 sL1_1
    have s4_10:=f4.q 4 sL1_4
    refine go_reg [bx g1 29 (scC (Sc.it a k1)),bx g3 25 (cR allR.u.lo allR.u.hi allR.s.lo allR.s.hi)] [⟨21,5,25,(cR 0 0 0 0),some 22,(cR (Sc.oR (Sc.it a k1)).u.lo (Sc.oR (Sc.it a k1)).u.hi (Sc.oR (Sc.it a k1)).s.lo (Sc.oR (Sc.it a k1)).s.hi)⟩] (tabs [some (pt g1 0),some (.agg (cR (Sc.it a k1).r.u.lo (Sc.it a k1).r.u.hi (Sc.it a k1).r.s.lo (Sc.it a k1).r.s.hi)),some (pt g1 4),some (pt g1 4),some (.int .u64 (V (Sc.it a k1).k.v)),some (pt g1 4),some (pt g1 4),some (.int .u64 (V (Sc.it a k1).k.v)),some (pt g1 4),some (pt g1 5),some (.int .u64 (V (Sc.it a k1).k.m)),some (.int .u64 (V ((Sc.it a k1).k.v ||| (Sc.it a k1).k.m))),some (pt g3 2),some (.int .i64 allR.s.lo),some (pt g3 3),some (.int .i64 allR.s.hi),some (.agg (cR (V (Sc.it a k1).k.v) (V ((Sc.it a k1).k.v ||| (Sc.it a k1).k.m)) allR.s.lo allR.s.hi)),some (.tuple #[.agg (cR (Sc.oR (Sc.it a k1)).u.lo (Sc.oR (Sc.it a k1)).u.hi (Sc.oR (Sc.it a k1)).s.lo (Sc.oR (Sc.it a k1)).s.hi),.bool (Rg.meetB (Sc.it a k1).r ⟨⟨V (Sc.it a k1).k.v,V ((Sc.it a k1).k.v ||| (Sc.it a k1).k.m)⟩,allR.s⟩)]),some (.tuple #[.agg (cR (Sc.oR (Sc.it a k1)).u.lo (Sc.oR (Sc.it a k1)).u.hi (Sc.oR (Sc.it a k1)).s.lo (Sc.oR (Sc.it a k1)).s.hi),.bool (Rg.meetB (Sc.it a k1).r ⟨⟨V (Sc.it a k1).k.v,V ((Sc.it a k1).k.v ||| (Sc.it a k1).k.m)⟩,allR.s⟩)]),some (.agg (cR (Sc.oR (Sc.it a k1)).u.lo (Sc.oR (Sc.it a k1)).u.hi (Sc.oR (Sc.it a k1)).s.lo (Sc.oR (Sc.it a k1)).s.hi))] [oF,none,none,oF]) mo f4.d f4.z f4.b (by kernel_rfl) ⟨b_g1_7,b_g3_8,trivial⟩ (
     hk (fun cx=>cx.q (ex_fa rfl (cx.rq 1 s1_9) (faStC29_0_0 _ _))) <|
     hk (fun cx=>cx.q (exec_loadR 25 _ rfl g1 0 (cx.u 0 rfl) (cx.rn 0 rfl) [.int .u64 (Sc.it a k1).r.u.lo,.int .u64 (Sc.it a k1).r.u.hi,.int .i64 (Sc.it a k1).r.s.lo,.int .i64 (Sc.it a k1).r.s.hi] rfl _ Try.underlying25 rfl (by kernel_rfl))) <|
     hk (fun cx=>cx.q (ex_fa rfl (cx.rq 1 s1_9) (faStC29_1_0 _ _))) <|
     hk (fun cx=>cx.q (ex_fa rfl (cx.u 0 rfl) (faStC27_0_4 _ _))) <|
     hk (fun cx=>cx.q (ex_ld rfl (cx.u 0 rfl) (cx.rn 0 rfl) rfl Try.isAgg23)) <|
     hk (fun cx=>cx.q (ex_fa rfl (cx.rq 1 s1_9) (faStC29_1_0 _ _))) <|
     hk (fun cx=>cx.q (ex_fa rfl (cx.u 0 rfl) (faStC27_0_4 _ _))) <|
     hk (fun cx=>cx.q (ex_ld rfl (cx.u 0 rfl) (cx.rn 0 rfl) rfl Try.isAgg23)) <|
     hk (fun cx=>cx.q (ex_fa rfl (cx.rq 1 s1_9) (faStC29_1_0 _ _))) <|
     hk (fun cx=>cx.q (ex_fa rfl (cx.u 0 rfl) (faStC27_1_4 _ _))) <|
     hk (fun cx=>cx.q (ex_ld rfl (cx.u 0 rfl) (cx.rn 0 rfl) rfl Try.isAgg23)) <|
     hk (fun cx=>cx.v (ex_or (x:=.tmp 20) (y:=.tmp 23) rfl (cx.u 0 rfl) (cx.u 1 rfl)) rfl (congrArg (Value.int .u64) (V_or _ _))) <|
     hk (fun cx=>cx.q (ex_fa rfl (cx.rq 4 s4_10) (faStC25_2_0 _ _))) <|
     hk (fun cx=>cx.q (ex_ld rfl (cx.u 0 rfl) (cx.rn 1 rfl) rfl Try.isAgg2)) <|
     hk (fun cx=>cx.q (ex_fa rfl (cx.rq 4 s4_10) (faStC25_3_0 _ _))) <|
     hk (fun cx=>cx.q (ex_ld rfl (cx.u 0 rfl) (cx.rn 1 rfl) rfl Try.isAgg2)) <|
     hk (fun cx=>cx.q (exec_build rfl (parts4 (cx.u 0 rfl) (cx.u 1 rfl) (cx.u 2 rfl) (cx.u 3 rfl)) (by kernel_rfl))) <|
     hc (fun _ _ wx cx=>cx.c rfl (args2 (cx.u 0 rfl) (cx.u 1 rfl)) Try.func108 (by decide +kernel) (meet_n (Sc.it a k1).r.u.lo (Sc.it a k1).r.u.hi (Sc.it a k1).r.s.lo (Sc.it a k1).r.s.hi (V (Sc.it a k1).k.v) (V ((Sc.it a k1).k.v ||| (Sc.it a k1).k.m)) allR.s.lo allR.s.hi wx (it_ok HA.out k1) (it_kOk HA.out k1)) rfl (congrArg (fun x:Rg=>Value.tuple #[Value.agg #[.int .u64 x.u.lo,.int .u64 x.u.hi,.int .i64 x.s.lo,.int .i64 x.s.hi],.bool (Rg.meetB (Sc.it a k1).r ⟨⟨V (Sc.it a k1).k.v,V ((Sc.it a k1).k.v ||| (Sc.it a k1).k.m)⟩,allR.s⟩)]) rfl)) <|
     kmu 0 <|
     hk (fun cx=>cx.q (ex_ext (x:=.tmp 12) rfl (cx.u 0 rfl) rfl)) <|
     hk (fun cx=>cx.v (ex_ext (x:=.tmp 12) rfl (cx.u 0 rfl) rfl) rfl (congrArg Value.bool Ffk2.out)) <|
     hk (fun cx=>cx.al (wn rfl) 0 rfl (by simp [execOp,Act.eval,go_sem]) rfl rfl rfl rfl (by kernel_rfl) trivial) <|
     hk (fun cx=>cx.stA (wn rfl) rfl rfl 0 0 rfl rfl rfl rfl (cx.u 1 rfl) (by kernel_rfl) (Eq.refl 4) (cR_one _ _ _ _) f4.b.size rfl rfl trivial) <|
     kmu 0 <|
     hn) ?_
    intro a5 w5 f5
    obtain ⟨g4,u_g4,q_g4,b_g4⟩:=f5.al.1
    refine wp_seq ?_
    cases fk3:Kn.meetB (Sc.it a k1).k (comK (Bk (Sc.oR (Sc.it a k1)).u.lo) (Bk (Sc.oR (Sc.it a k1)).u.hi))
    case false=>
     have Ffk3:=Lib.hid fk3;clear fk3
     have b_g1_11:=f5.k b_g1_7
     have s1_12:=f5.q 1 s1_9
     refine go_reg [bx g1 29 (scC (Sc.it a k1)),bx g4 25 (cR (Sc.oR (Sc.it a k1)).u.lo (Sc.oR (Sc.it a k1)).u.hi (Sc.oR (Sc.it a k1)).s.lo (Sc.oR (Sc.it a k1)).s.hi)] [⟨11,7,27,(knC zKn),some 12,(knC (Sc.oK (Sc.it a k1)))⟩] [some (pt g1 4),some (.agg (knC (Sc.it a k1).k)),some (pt g4 0),some (.int .u64 (V (Bk (Sc.oR (Sc.it a k1)).u.lo))),some (pt g4 1),some (.int .u64 (V (Bk (Sc.oR (Sc.it a k1)).u.hi))),some (.agg (knC (comK (Bk (Sc.oR (Sc.it a k1)).u.lo) (Bk (Sc.oR (Sc.it a k1)).u.hi)))),some (.tuple #[.agg (knC (Sc.oK (Sc.it a k1))),.bool (Kn.meetB (Sc.it a k1).k (comK (Bk (Sc.oR (Sc.it a k1)).u.lo) (Bk (Sc.oR (Sc.it a k1)).u.hi)))]),some (.tuple #[.agg (knC (Sc.oK (Sc.it a k1))),.bool (Kn.meetB (Sc.it a k1).k (comK (Bk (Sc.oR (Sc.it a k1)).u.lo) (Bk (Sc.oR (Sc.it a k1)).u.hi)))]),some (.agg (knC (Sc.oK (Sc.it a k1)))),oF,none,none,oF] mo f5.d f5.z f5.b (by kernel_rfl) ⟨b_g1_11,b_g4,trivial⟩ (
      hk (fun cx=>cx.q (ex_fa rfl (cx.rq 1 s1_12) (faStC29_1_0 _ _))) <|
      hk (fun cx=>cx.q (exec_loadR 27 _ rfl g1 4 (cx.u 0 rfl) (cx.rn 0 rfl) [.int .u64 (V (Sc.it a k1).k.v),.int .u64 (V (Sc.it a k1).k.m)] rfl _ Try.underlying27 rfl (by kernel_rfl))) <|
      hk (fun cx=>cx.q (ex_fa rfl (cx.rq 5 u_g4) (faStC25_0_0 _ _))) <|
      hk (fun cx=>cx.v (ex_ld rfl (cx.u 0 rfl) (cx.rn 1 rfl) rfl Try.isAgg23) rfl (congrArg (Value.int .u64) (lo_w (it_ok HA.out k1)))) <|
      hk (fun cx=>cx.q (ex_fa rfl (cx.rq 5 u_g4) (faStC25_1_0 _ _))) <|
      hk (fun cx=>cx.v (ex_ld rfl (cx.u 0 rfl) (cx.rn 1 rfl) rfl Try.isAgg23) rfl (congrArg (Value.int .u64) (hi_w (it_ok HA.out k1)))) <|
      hc (fun _ _ wx cx=>cx.c rfl (args2 (cx.u 0 rfl) (cx.u 1 rfl)) Try.func110 (by decide +kernel) (kcom_n (Bk (Sc.oR (Sc.it a k1)).u.lo) (Bk (Sc.oR (Sc.it a k1)).u.hi) wx) rfl rfl) <|
      hc (fun _ _ wx cx=>cx.c rfl (args2 (cx.u 0 rfl) (cx.u 1 rfl)) Try.func109 (by decide +kernel) (kmeet_n (Sc.it a k1).k (comK (Bk (Sc.oR (Sc.it a k1)).u.lo) (Bk (Sc.oR (Sc.it a k1)).u.hi)) wx) rfl (congrArg (fun x:Kn=>Value.tuple #[Value.agg (knC x),.bool (Kn.meetB (Sc.it a k1).k (comK (Bk (Sc.oR (Sc.it a k1)).u.lo) (Bk (Sc.oR (Sc.it a k1)).u.hi)))]) rfl)) <|
      kmu 0 <|
      hk (fun cx=>cx.q (ex_ext (x:=.tmp 33) rfl (cx.u 0 rfl) rfl)) <|
      hk (fun cx=>cx.v (ex_ext (x:=.tmp 33) rfl (cx.u 0 rfl) rfl) rfl (congrArg Value.bool Ffk3.out)) <|
      hk (fun cx=>cx.al (wn rfl) 0 rfl (al_kn rfl) rfl rfl rfl rfl (by kernel_rfl) trivial) <|
      hk (fun cx=>cx.stA (wn rfl) rfl rfl 0 0 rfl rfl rfl rfl (cx.u 1 rfl) (by kernel_rfl) (Eq.refl 2) (knC_one _) f5.b.size rfl rfl trivial) <|
      kmu 0 <|
      hn) ?_
     intro a6 w6 f6
     obtain ⟨g5,u_g5,q_g5,b_g5⟩:=f6.al.1
     refine wp_seq ?_
     refine wp_seq ?_
     have s6_13:=f6.q 6 (f5.v 23 rfl rfl rfl)
     refine go_reg [] [] [oF,oT,oT,oU,oU,oT] mo f6.d f6.z f6.b (by kernel_rfl) trivial (
      hk (fun cx=>cx.q (ex_mv rfl (cx.rq 6 s6_13))) <|
      hk (fun cx=>cx.q (ex_not (x:=.tmp 44) rfl (cx.u 0 rfl))) <|
      kmu 0 <|
      kno 0 <|
      kno 1 <|
      hk (fun cx=>cx.q (ex_pt rfl (cx.u 0 rfl) rfl)) <|
      hn) ?_
     intro a7 w7 f7
     refine wp_cond_true (f7.v 5 rfl rfl rfl) ?_
     refine wp_seq ?_
     have b_g2_14:=f7.k (f6.k (f5.k (f4.k bL1_g2)))
     have s2_15:=f7.q 2 (f6.q 2 (f5.q 2 (f4.q 2 sL1_2)))
     refine go_reg [⟨g2,29,(scC zSc),some 1,(scC allC)⟩] [] [some (.agg (scC allC)),none,oF] mo f7.d f7.z f7.b (by kernel_rfl) ⟨b_g2_14,trivial⟩ (
      hc (fun _ _ wx cx=>cx.c rfl (args0 ) Try.func40 (by decide +kernel) (vall_n wx) rfl rfl) <|
      hk (fun cx=>cx.stR (wn rfl) rfl rfl 0 rfl (cx.rq 2 s2_15) (cx.u 0 rfl) (by kernel_rfl) (Eq.refl 6) (scC_one _) q_g2 rfl trivial trivial) <|
      hk (fun cx=>cx.q (ex_as rfl rfl)) <|
      hn) ?_
     intro a8 w8 f8
     refine wp_ret ?_
     have s2_16:=f8.q 2 s2_15
     try simp only [Exit.inBlock,Exit.then]
     refine bodyPost_ret (res_ct (fn:=Try.f85) rfl s2_16 (load_row 29 f8.rows.1 Try.underlying29 rfl (by kernel_rfl)) (f8.v 2 rfl rfl rfl)) f8.d ?_
     have HN:Sc.narB a=false:=by rw [narB_is];exact allN_no hlt1 (show (Sc.it a k1).onB=false from by show (Rg.meetB (Sc.it a k1).r ⟨⟨V (Sc.it a k1).k.v,V ((Sc.it a k1).k.v ||| (Sc.it a k1).k.m)⟩,allR.s⟩ && Kn.meetB (Sc.it a k1).k (comK (Bk (Sc.oR (Sc.it a k1)).u.lo) (Bk (Sc.oR (Sc.it a k1)).u.hi)))=_;simp only [Ffk2.out,Ffk3.out,Bool.false_and,Bool.true_and,Bool.and_false,Bool.and_true])
     have HE:(.tuple #[.agg (scC allC),.bool false]:Value)=.tuple #[.agg (scC (Sc.nar a)),.bool (Sc.narB a)]:=by unfold Sc.nar;simp only [HN,if_false,Bool.false_eq_true]
     exact ⟨retV HE,f8.b⟩
    have Ffk3:=Lib.hid fk3;clear fk3
    have b_g1_17:=f5.k b_g1_7
    have s1_18:=f5.q 1 s1_9
    refine go_reg [bx g1 29 (scC (Sc.it a k1)),bx g4 25 (cR (Sc.oR (Sc.it a k1)).u.lo (Sc.oR (Sc.it a k1)).u.hi (Sc.oR (Sc.it a k1)).s.lo (Sc.oR (Sc.it a k1)).s.hi)] [⟨11,7,27,(knC zKn),some 12,(knC (Sc.oK (Sc.it a k1)))⟩] [some (pt g1 4),some (.agg (knC (Sc.it a k1).k)),some (pt g4 0),some (.int .u64 (V (Bk (Sc.oR (Sc.it a k1)).u.lo))),some (pt g4 1),some (.int .u64 (V (Bk (Sc.oR (Sc.it a k1)).u.hi))),some (.agg (knC (comK (Bk (Sc.oR (Sc.it a k1)).u.lo) (Bk (Sc.oR (Sc.it a k1)).u.hi)))),some (.tuple #[.agg (knC (Sc.oK (Sc.it a k1))),.bool (Kn.meetB (Sc.it a k1).k (comK (Bk (Sc.oR (Sc.it a k1)).u.lo) (Bk (Sc.oR (Sc.it a k1)).u.hi)))]),some (.tuple #[.agg (knC (Sc.oK (Sc.it a k1))),.bool (Kn.meetB (Sc.it a k1).k (comK (Bk (Sc.oR (Sc.it a k1)).u.lo) (Bk (Sc.oR (Sc.it a k1)).u.hi)))]),some (.agg (knC (Sc.oK (Sc.it a k1)))),oT,none,none,oT] mo f5.d f5.z f5.b (by kernel_rfl) ⟨b_g1_17,b_g4,trivial⟩ (
     hk (fun cx=>cx.q (ex_fa rfl (cx.rq 1 s1_18) (faStC29_1_0 _ _))) <|
     hk (fun cx=>cx.q (exec_loadR 27 _ rfl g1 4 (cx.u 0 rfl) (cx.rn 0 rfl) [.int .u64 (V (Sc.it a k1).k.v),.int .u64 (V (Sc.it a k1).k.m)] rfl _ Try.underlying27 rfl (by kernel_rfl))) <|
     hk (fun cx=>cx.q (ex_fa rfl (cx.rq 5 u_g4) (faStC25_0_0 _ _))) <|
     hk (fun cx=>cx.v (ex_ld rfl (cx.u 0 rfl) (cx.rn 1 rfl) rfl Try.isAgg23) rfl (congrArg (Value.int .u64) (lo_w (it_ok HA.out k1)))) <|
     hk (fun cx=>cx.q (ex_fa rfl (cx.rq 5 u_g4) (faStC25_1_0 _ _))) <|
     hk (fun cx=>cx.v (ex_ld rfl (cx.u 0 rfl) (cx.rn 1 rfl) rfl Try.isAgg23) rfl (congrArg (Value.int .u64) (hi_w (it_ok HA.out k1)))) <|
     hc (fun _ _ wx cx=>cx.c rfl (args2 (cx.u 0 rfl) (cx.u 1 rfl)) Try.func110 (by decide +kernel) (kcom_n (Bk (Sc.oR (Sc.it a k1)).u.lo) (Bk (Sc.oR (Sc.it a k1)).u.hi) wx) rfl rfl) <|
     hc (fun _ _ wx cx=>cx.c rfl (args2 (cx.u 0 rfl) (cx.u 1 rfl)) Try.func109 (by decide +kernel) (kmeet_n (Sc.it a k1).k (comK (Bk (Sc.oR (Sc.it a k1)).u.lo) (Bk (Sc.oR (Sc.it a k1)).u.hi)) wx) rfl (congrArg (fun x:Kn=>Value.tuple #[Value.agg (knC x),.bool (Kn.meetB (Sc.it a k1).k (comK (Bk (Sc.oR (Sc.it a k1)).u.lo) (Bk (Sc.oR (Sc.it a k1)).u.hi)))]) rfl)) <|
     kmu 0 <|
     hk (fun cx=>cx.q (ex_ext (x:=.tmp 33) rfl (cx.u 0 rfl) rfl)) <|
     hk (fun cx=>cx.v (ex_ext (x:=.tmp 33) rfl (cx.u 0 rfl) rfl) rfl (congrArg Value.bool Ffk3.out)) <|
     hk (fun cx=>cx.al (wn rfl) 0 rfl (al_kn rfl) rfl rfl rfl rfl (by kernel_rfl) trivial) <|
     hk (fun cx=>cx.stA (wn rfl) rfl rfl 0 0 rfl rfl rfl rfl (cx.u 1 rfl) (by kernel_rfl) (Eq.refl 2) (knC_one _) f5.b.size rfl rfl trivial) <|
     kmu 0 <|
     hn) ?_
    intro a9 w9 f9
    obtain ⟨g5,u_g5,q_g5,b_g5⟩:=f9.al.1
    refine wp_seq ?_
    refine wp_seq ?_
    have s6_19:=f9.q 6 (f5.v 23 rfl rfl rfl)
    refine go_reg [] [] [oF,oT,oT,oU,oU,oT] mo f9.d f9.z f9.b (by kernel_rfl) trivial (
     hk (fun cx=>cx.q (ex_mv rfl (cx.rq 6 s6_19))) <|
     hk (fun cx=>cx.q (ex_not (x:=.tmp 44) rfl (cx.u 0 rfl))) <|
     kmu 0 <|
     kno 0 <|
     kno 1 <|
     hk (fun cx=>cx.q (ex_pt rfl (cx.u 0 rfl) rfl)) <|
     hn) ?_
    intro a10 w10 f10
    refine wp_cond_true (f10.v 5 rfl rfl rfl) ?_
    refine wp_seq ?_
    have b_g2_20:=f10.k (f9.k (f5.k (f4.k bL1_g2)))
    have s2_21:=f10.q 2 (f9.q 2 (f5.q 2 (f4.q 2 sL1_2)))
    refine go_reg [⟨g2,29,(scC zSc),some 1,(scC allC)⟩] [] [some (.agg (scC allC)),none,oF] mo f10.d f10.z f10.b (by kernel_rfl) ⟨b_g2_20,trivial⟩ (
     hc (fun _ _ wx cx=>cx.c rfl (args0 ) Try.func40 (by decide +kernel) (vall_n wx) rfl rfl) <|
     hk (fun cx=>cx.stR (wn rfl) rfl rfl 0 rfl (cx.rq 2 s2_21) (cx.u 0 rfl) (by kernel_rfl) (Eq.refl 6) (scC_one _) q_g2 rfl trivial trivial) <|
     hk (fun cx=>cx.q (ex_as rfl rfl)) <|
     hn) ?_
    intro a11 w11 f11
    refine wp_ret ?_
    have s2_22:=f11.q 2 s2_21
    try simp only [Exit.inBlock,Exit.then]
    refine bodyPost_ret (res_ct (fn:=Try.f85) rfl s2_22 (load_row 29 f11.rows.1 Try.underlying29 rfl (by kernel_rfl)) (f11.v 2 rfl rfl rfl)) f11.d ?_
    have HN:Sc.narB a=false:=by rw [narB_is];exact allN_no hlt1 (show (Sc.it a k1).onB=false from by show (Rg.meetB (Sc.it a k1).r ⟨⟨V (Sc.it a k1).k.v,V ((Sc.it a k1).k.v ||| (Sc.it a k1).k.m)⟩,allR.s⟩ && Kn.meetB (Sc.it a k1).k (comK (Bk (Sc.oR (Sc.it a k1)).u.lo) (Bk (Sc.oR (Sc.it a k1)).u.hi)))=_;simp only [Ffk2.out,Ffk3.out,Bool.false_and,Bool.true_and,Bool.and_false,Bool.and_true])
    have HE:(.tuple #[.agg (scC allC),.bool false]:Value)=.tuple #[.agg (scC (Sc.nar a)),.bool (Sc.narB a)]:=by unfold Sc.nar;simp only [HN,if_false,Bool.false_eq_true]
    exact ⟨retV HE,f11.b⟩
   have Ffk2:=Lib.hid fk2;clear fk2
   have b_g1_23:=f4.k bL1_g1
   have b_g3_24:=f4.k bL1_g3
   have s1_25:=f4.q 1 sL1_1
   have s4_26:=f4.q 4 sL1_4
   refine go_reg [bx g1 29 (scC (Sc.it a k1)),bx g3 25 (cR allR.u.lo allR.u.hi allR.s.lo allR.s.hi)] [⟨21,5,25,(cR 0 0 0 0),some 22,(cR (Sc.oR (Sc.it a k1)).u.lo (Sc.oR (Sc.it a k1)).u.hi (Sc.oR (Sc.it a k1)).s.lo (Sc.oR (Sc.it a k1)).s.hi)⟩] (tabs [some (pt g1 0),some (.agg (cR (Sc.it a k1).r.u.lo (Sc.it a k1).r.u.hi (Sc.it a k1).r.s.lo (Sc.it a k1).r.s.hi)),some (pt g1 4),some (pt g1 4),some (.int .u64 (V (Sc.it a k1).k.v)),some (pt g1 4),some (pt g1 4),some (.int .u64 (V (Sc.it a k1).k.v)),some (pt g1 4),some (pt g1 5),some (.int .u64 (V (Sc.it a k1).k.m)),some (.int .u64 (V ((Sc.it a k1).k.v ||| (Sc.it a k1).k.m))),some (pt g3 2),some (.int .i64 allR.s.lo),some (pt g3 3),some (.int .i64 allR.s.hi),some (.agg (cR (V (Sc.it a k1).k.v) (V ((Sc.it a k1).k.v ||| (Sc.it a k1).k.m)) allR.s.lo allR.s.hi)),some (.tuple #[.agg (cR (Sc.oR (Sc.it a k1)).u.lo (Sc.oR (Sc.it a k1)).u.hi (Sc.oR (Sc.it a k1)).s.lo (Sc.oR (Sc.it a k1)).s.hi),.bool (Rg.meetB (Sc.it a k1).r ⟨⟨V (Sc.it a k1).k.v,V ((Sc.it a k1).k.v ||| (Sc.it a k1).k.m)⟩,allR.s⟩)]),some (.tuple #[.agg (cR (Sc.oR (Sc.it a k1)).u.lo (Sc.oR (Sc.it a k1)).u.hi (Sc.oR (Sc.it a k1)).s.lo (Sc.oR (Sc.it a k1)).s.hi),.bool (Rg.meetB (Sc.it a k1).r ⟨⟨V (Sc.it a k1).k.v,V ((Sc.it a k1).k.v ||| (Sc.it a k1).k.m)⟩,allR.s⟩)]),some (.agg (cR (Sc.oR (Sc.it a k1)).u.lo (Sc.oR (Sc.it a k1)).u.hi (Sc.oR (Sc.it a k1)).s.lo (Sc.oR (Sc.it a k1)).s.hi))] [oT,none,none,oT]) mo f4.d f4.z f4.b (by kernel_rfl) ⟨b_g1_23,b_g3_24,trivial⟩ (
    hk (fun cx=>cx.q (ex_fa rfl (cx.rq 1 s1_25) (faStC29_0_0 _ _))) <|
    hk (fun cx=>cx.q (exec_loadR 25 _ rfl g1 0 (cx.u 0 rfl) (cx.rn 0 rfl) [.int .u64 (Sc.it a k1).r.u.lo,.int .u64 (Sc.it a k1).r.u.hi,.int .i64 (Sc.it a k1).r.s.lo,.int .i64 (Sc.it a k1).r.s.hi] rfl _ Try.underlying25 rfl (by kernel_rfl))) <|
    hk (fun cx=>cx.q (ex_fa rfl (cx.rq 1 s1_25) (faStC29_1_0 _ _))) <|
    hk (fun cx=>cx.q (ex_fa rfl (cx.u 0 rfl) (faStC27_0_4 _ _))) <|
    hk (fun cx=>cx.q (ex_ld rfl (cx.u 0 rfl) (cx.rn 0 rfl) rfl Try.isAgg23)) <|
    hk (fun cx=>cx.q (ex_fa rfl (cx.rq 1 s1_25) (faStC29_1_0 _ _))) <|
    hk (fun cx=>cx.q (ex_fa rfl (cx.u 0 rfl) (faStC27_0_4 _ _))) <|
    hk (fun cx=>cx.q (ex_ld rfl (cx.u 0 rfl) (cx.rn 0 rfl) rfl Try.isAgg23)) <|
    hk (fun cx=>cx.q (ex_fa rfl (cx.rq 1 s1_25) (faStC29_1_0 _ _))) <|
    hk (fun cx=>cx.q (ex_fa rfl (cx.u 0 rfl) (faStC27_1_4 _ _))) <|
    hk (fun cx=>cx.q (ex_ld rfl (cx.u 0 rfl) (cx.rn 0 rfl) rfl Try.isAgg23)) <|
    hk (fun cx=>cx.v (ex_or (x:=.tmp 20) (y:=.tmp 23) rfl (cx.u 0 rfl) (cx.u 1 rfl)) rfl (congrArg (Value.int .u64) (V_or _ _))) <|
    hk (fun cx=>cx.q (ex_fa rfl (cx.rq 4 s4_26) (faStC25_2_0 _ _))) <|
    hk (fun cx=>cx.q (ex_ld rfl (cx.u 0 rfl) (cx.rn 1 rfl) rfl Try.isAgg2)) <|
    hk (fun cx=>cx.q (ex_fa rfl (cx.rq 4 s4_26) (faStC25_3_0 _ _))) <|
    hk (fun cx=>cx.q (ex_ld rfl (cx.u 0 rfl) (cx.rn 1 rfl) rfl Try.isAgg2)) <|
    hk (fun cx=>cx.q (exec_build rfl (parts4 (cx.u 0 rfl) (cx.u 1 rfl) (cx.u 2 rfl) (cx.u 3 rfl)) (by kernel_rfl))) <|
    hc (fun _ _ wx cx=>cx.c rfl (args2 (cx.u 0 rfl) (cx.u 1 rfl)) Try.func108 (by decide +kernel) (meet_n (Sc.it a k1).r.u.lo (Sc.it a k1).r.u.hi (Sc.it a k1).r.s.lo (Sc.it a k1).r.s.hi (V (Sc.it a k1).k.v) (V ((Sc.it a k1).k.v ||| (Sc.it a k1).k.m)) allR.s.lo allR.s.hi wx (it_ok HA.out k1) (it_kOk HA.out k1)) rfl (congrArg (fun x:Rg=>Value.tuple #[Value.agg #[.int .u64 x.u.lo,.int .u64 x.u.hi,.int .i64 x.s.lo,.int .i64 x.s.hi],.bool (Rg.meetB (Sc.it a k1).r ⟨⟨V (Sc.it a k1).k.v,V ((Sc.it a k1).k.v ||| (Sc.it a k1).k.m)⟩,allR.s⟩)]) rfl)) <|
    kmu 0 <|
    hk (fun cx=>cx.q (ex_ext (x:=.tmp 12) rfl (cx.u 0 rfl) rfl)) <|
    hk (fun cx=>cx.v (ex_ext (x:=.tmp 12) rfl (cx.u 0 rfl) rfl) rfl (congrArg Value.bool Ffk2.out)) <|
    hk (fun cx=>cx.al (wn rfl) 0 rfl (by simp [execOp,Act.eval,go_sem]) rfl rfl rfl rfl (by kernel_rfl) trivial) <|
    hk (fun cx=>cx.stA (wn rfl) rfl rfl 0 0 rfl rfl rfl rfl (cx.u 1 rfl) (by kernel_rfl) (Eq.refl 4) (cR_one _ _ _ _) f4.b.size rfl rfl trivial) <|
    kmu 0 <|
    hn) ?_
   intro a12 w12 f12
   obtain ⟨g4,u_g4,q_g4,b_g4⟩:=f12.al.1
   refine wp_seq ?_
   cases fk4:Kn.meetB (Sc.it a k1).k (comK (Bk (Sc.oR (Sc.it a k1)).u.lo) (Bk (Sc.oR (Sc.it a k1)).u.hi))
   case false=>
    have Ffk4:=Lib.hid fk4;clear fk4
    have b_g1_27:=f12.k b_g1_23
    have s1_28:=f12.q 1 s1_25
    refine go_reg [bx g1 29 (scC (Sc.it a k1)),bx g4 25 (cR (Sc.oR (Sc.it a k1)).u.lo (Sc.oR (Sc.it a k1)).u.hi (Sc.oR (Sc.it a k1)).s.lo (Sc.oR (Sc.it a k1)).s.hi)] [⟨11,7,27,(knC zKn),some 12,(knC (Sc.oK (Sc.it a k1)))⟩] [some (pt g1 4),some (.agg (knC (Sc.it a k1).k)),some (pt g4 0),some (.int .u64 (V (Bk (Sc.oR (Sc.it a k1)).u.lo))),some (pt g4 1),some (.int .u64 (V (Bk (Sc.oR (Sc.it a k1)).u.hi))),some (.agg (knC (comK (Bk (Sc.oR (Sc.it a k1)).u.lo) (Bk (Sc.oR (Sc.it a k1)).u.hi)))),some (.tuple #[.agg (knC (Sc.oK (Sc.it a k1))),.bool (Kn.meetB (Sc.it a k1).k (comK (Bk (Sc.oR (Sc.it a k1)).u.lo) (Bk (Sc.oR (Sc.it a k1)).u.hi)))]),some (.tuple #[.agg (knC (Sc.oK (Sc.it a k1))),.bool (Kn.meetB (Sc.it a k1).k (comK (Bk (Sc.oR (Sc.it a k1)).u.lo) (Bk (Sc.oR (Sc.it a k1)).u.hi)))]),some (.agg (knC (Sc.oK (Sc.it a k1)))),oF,none,none,oF] mo f12.d f12.z f12.b (by kernel_rfl) ⟨b_g1_27,b_g4,trivial⟩ (
     hk (fun cx=>cx.q (ex_fa rfl (cx.rq 1 s1_28) (faStC29_1_0 _ _))) <|
     hk (fun cx=>cx.q (exec_loadR 27 _ rfl g1 4 (cx.u 0 rfl) (cx.rn 0 rfl) [.int .u64 (V (Sc.it a k1).k.v),.int .u64 (V (Sc.it a k1).k.m)] rfl _ Try.underlying27 rfl (by kernel_rfl))) <|
     hk (fun cx=>cx.q (ex_fa rfl (cx.rq 5 u_g4) (faStC25_0_0 _ _))) <|
     hk (fun cx=>cx.v (ex_ld rfl (cx.u 0 rfl) (cx.rn 1 rfl) rfl Try.isAgg23) rfl (congrArg (Value.int .u64) (lo_w (it_ok HA.out k1)))) <|
     hk (fun cx=>cx.q (ex_fa rfl (cx.rq 5 u_g4) (faStC25_1_0 _ _))) <|
     hk (fun cx=>cx.v (ex_ld rfl (cx.u 0 rfl) (cx.rn 1 rfl) rfl Try.isAgg23) rfl (congrArg (Value.int .u64) (hi_w (it_ok HA.out k1)))) <|
     hc (fun _ _ wx cx=>cx.c rfl (args2 (cx.u 0 rfl) (cx.u 1 rfl)) Try.func110 (by decide +kernel) (kcom_n (Bk (Sc.oR (Sc.it a k1)).u.lo) (Bk (Sc.oR (Sc.it a k1)).u.hi) wx) rfl rfl) <|
     hc (fun _ _ wx cx=>cx.c rfl (args2 (cx.u 0 rfl) (cx.u 1 rfl)) Try.func109 (by decide +kernel) (kmeet_n (Sc.it a k1).k (comK (Bk (Sc.oR (Sc.it a k1)).u.lo) (Bk (Sc.oR (Sc.it a k1)).u.hi)) wx) rfl (congrArg (fun x:Kn=>Value.tuple #[Value.agg (knC x),.bool (Kn.meetB (Sc.it a k1).k (comK (Bk (Sc.oR (Sc.it a k1)).u.lo) (Bk (Sc.oR (Sc.it a k1)).u.hi)))]) rfl)) <|
     kmu 0 <|
     hk (fun cx=>cx.q (ex_ext (x:=.tmp 33) rfl (cx.u 0 rfl) rfl)) <|
     hk (fun cx=>cx.v (ex_ext (x:=.tmp 33) rfl (cx.u 0 rfl) rfl) rfl (congrArg Value.bool Ffk4.out)) <|
     hk (fun cx=>cx.al (wn rfl) 0 rfl (al_kn rfl) rfl rfl rfl rfl (by kernel_rfl) trivial) <|
     hk (fun cx=>cx.stA (wn rfl) rfl rfl 0 0 rfl rfl rfl rfl (cx.u 1 rfl) (by kernel_rfl) (Eq.refl 2) (knC_one _) f12.b.size rfl rfl trivial) <|
     kmu 0 <|
     hn) ?_
    intro a13 w13 f13
    obtain ⟨g5,u_g5,q_g5,b_g5⟩:=f13.al.1
    refine wp_seq ?_
    refine wp_seq ?_
    have s6_29:=f13.q 6 (f12.v 23 rfl rfl rfl)
    refine go_reg [] [] [oT,oF,oF,oF,oT,oT] mo f13.d f13.z f13.b (by kernel_rfl) trivial (
     hk (fun cx=>cx.q (ex_mv rfl (cx.rq 6 s6_29))) <|
     hk (fun cx=>cx.q (ex_not (x:=.tmp 44) rfl (cx.u 0 rfl))) <|
     kmu 0 <|
     hk (fun cx=>cx.vy 0 (ex_mv rfl (cx.rq 8 (f13.v 13 rfl rfl rfl)))) <|
     hk (fun cx=>cx.vy 1 (ex_not (x:=.tmp 47) rfl (cx.u 0 rfl))) <|
     hk (fun cx=>cx.q (ex_pf rfl (cx.u 0 rfl) (cx.u 1 rfl))) <|
     hn) ?_
    intro a14 w14 f14
    refine wp_cond_true (f14.v 5 rfl rfl rfl) ?_
    refine wp_seq ?_
    have b_g2_30:=f14.k (f13.k (f12.k (f4.k bL1_g2)))
    have s2_31:=f14.q 2 (f13.q 2 (f12.q 2 (f4.q 2 sL1_2)))
    refine go_reg [⟨g2,29,(scC zSc),some 1,(scC allC)⟩] [] [some (.agg (scC allC)),none,oF] mo f14.d f14.z f14.b (by kernel_rfl) ⟨b_g2_30,trivial⟩ (
     hc (fun _ _ wx cx=>cx.c rfl (args0 ) Try.func40 (by decide +kernel) (vall_n wx) rfl rfl) <|
     hk (fun cx=>cx.stR (wn rfl) rfl rfl 0 rfl (cx.rq 2 s2_31) (cx.u 0 rfl) (by kernel_rfl) (Eq.refl 6) (scC_one _) q_g2 rfl trivial trivial) <|
     hk (fun cx=>cx.q (ex_as rfl rfl)) <|
     hn) ?_
    intro a15 w15 f15
    refine wp_ret ?_
    have s2_32:=f15.q 2 s2_31
    try simp only [Exit.inBlock,Exit.then]
    refine bodyPost_ret (res_ct (fn:=Try.f85) rfl s2_32 (load_row 29 f15.rows.1 Try.underlying29 rfl (by kernel_rfl)) (f15.v 2 rfl rfl rfl)) f15.d ?_
    have HN:Sc.narB a=false:=by rw [narB_is];exact allN_no hlt1 (show (Sc.it a k1).onB=false from by show (Rg.meetB (Sc.it a k1).r ⟨⟨V (Sc.it a k1).k.v,V ((Sc.it a k1).k.v ||| (Sc.it a k1).k.m)⟩,allR.s⟩ && Kn.meetB (Sc.it a k1).k (comK (Bk (Sc.oR (Sc.it a k1)).u.lo) (Bk (Sc.oR (Sc.it a k1)).u.hi)))=_;simp only [Ffk2.out,Ffk4.out,Bool.false_and,Bool.true_and,Bool.and_false,Bool.and_true])
    have HE:(.tuple #[.agg (scC allC),.bool false]:Value)=.tuple #[.agg (scC (Sc.nar a)),.bool (Sc.narB a)]:=by unfold Sc.nar;simp only [HN,if_false,Bool.false_eq_true]
    exact ⟨retV HE,f15.b⟩
   have Ffk4:=Lib.hid fk4;clear fk4
   have b_g1_33:=f12.k b_g1_23
   have s1_34:=f12.q 1 s1_25
   refine go_reg [bx g1 29 (scC (Sc.it a k1)),bx g4 25 (cR (Sc.oR (Sc.it a k1)).u.lo (Sc.oR (Sc.it a k1)).u.hi (Sc.oR (Sc.it a k1)).s.lo (Sc.oR (Sc.it a k1)).s.hi)] [⟨11,7,27,(knC zKn),some 12,(knC (Sc.oK (Sc.it a k1)))⟩] [some (pt g1 4),some (.agg (knC (Sc.it a k1).k)),some (pt g4 0),some (.int .u64 (V (Bk (Sc.oR (Sc.it a k1)).u.lo))),some (pt g4 1),some (.int .u64 (V (Bk (Sc.oR (Sc.it a k1)).u.hi))),some (.agg (knC (comK (Bk (Sc.oR (Sc.it a k1)).u.lo) (Bk (Sc.oR (Sc.it a k1)).u.hi)))),some (.tuple #[.agg (knC (Sc.oK (Sc.it a k1))),.bool (Kn.meetB (Sc.it a k1).k (comK (Bk (Sc.oR (Sc.it a k1)).u.lo) (Bk (Sc.oR (Sc.it a k1)).u.hi)))]),some (.tuple #[.agg (knC (Sc.oK (Sc.it a k1))),.bool (Kn.meetB (Sc.it a k1).k (comK (Bk (Sc.oR (Sc.it a k1)).u.lo) (Bk (Sc.oR (Sc.it a k1)).u.hi)))]),some (.agg (knC (Sc.oK (Sc.it a k1)))),oT,none,none,oT] mo f12.d f12.z f12.b (by kernel_rfl) ⟨b_g1_33,b_g4,trivial⟩ (
    hk (fun cx=>cx.q (ex_fa rfl (cx.rq 1 s1_34) (faStC29_1_0 _ _))) <|
    hk (fun cx=>cx.q (exec_loadR 27 _ rfl g1 4 (cx.u 0 rfl) (cx.rn 0 rfl) [.int .u64 (V (Sc.it a k1).k.v),.int .u64 (V (Sc.it a k1).k.m)] rfl _ Try.underlying27 rfl (by kernel_rfl))) <|
    hk (fun cx=>cx.q (ex_fa rfl (cx.rq 5 u_g4) (faStC25_0_0 _ _))) <|
    hk (fun cx=>cx.v (ex_ld rfl (cx.u 0 rfl) (cx.rn 1 rfl) rfl Try.isAgg23) rfl (congrArg (Value.int .u64) (lo_w (it_ok HA.out k1)))) <|
    hk (fun cx=>cx.q (ex_fa rfl (cx.rq 5 u_g4) (faStC25_1_0 _ _))) <|
    hk (fun cx=>cx.v (ex_ld rfl (cx.u 0 rfl) (cx.rn 1 rfl) rfl Try.isAgg23) rfl (congrArg (Value.int .u64) (hi_w (it_ok HA.out k1)))) <|
    hc (fun _ _ wx cx=>cx.c rfl (args2 (cx.u 0 rfl) (cx.u 1 rfl)) Try.func110 (by decide +kernel) (kcom_n (Bk (Sc.oR (Sc.it a k1)).u.lo) (Bk (Sc.oR (Sc.it a k1)).u.hi) wx) rfl rfl) <|
    hc (fun _ _ wx cx=>cx.c rfl (args2 (cx.u 0 rfl) (cx.u 1 rfl)) Try.func109 (by decide +kernel) (kmeet_n (Sc.it a k1).k (comK (Bk (Sc.oR (Sc.it a k1)).u.lo) (Bk (Sc.oR (Sc.it a k1)).u.hi)) wx) rfl (congrArg (fun x:Kn=>Value.tuple #[Value.agg (knC x),.bool (Kn.meetB (Sc.it a k1).k (comK (Bk (Sc.oR (Sc.it a k1)).u.lo) (Bk (Sc.oR (Sc.it a k1)).u.hi)))]) rfl)) <|
    kmu 0 <|
    hk (fun cx=>cx.q (ex_ext (x:=.tmp 33) rfl (cx.u 0 rfl) rfl)) <|
    hk (fun cx=>cx.v (ex_ext (x:=.tmp 33) rfl (cx.u 0 rfl) rfl) rfl (congrArg Value.bool Ffk4.out)) <|
    hk (fun cx=>cx.al (wn rfl) 0 rfl (al_kn rfl) rfl rfl rfl rfl (by kernel_rfl) trivial) <|
    hk (fun cx=>cx.stA (wn rfl) rfl rfl 0 0 rfl rfl rfl rfl (cx.u 1 rfl) (by kernel_rfl) (Eq.refl 2) (knC_one _) f12.b.size rfl rfl trivial) <|
    kmu 0 <|
    hn) ?_
   intro a16 w16 f16
   obtain ⟨g5,u_g5,q_g5,b_g5⟩:=f16.al.1
   refine wp_seq ?_
   refine wp_seq ?_
   have s6_35:=f16.q 6 (f12.v 23 rfl rfl rfl)
   refine go_reg [] [] [oT,oF,oF,oT,oF,oF] mo f16.d f16.z f16.b (by kernel_rfl) trivial (
    hk (fun cx=>cx.q (ex_mv rfl (cx.rq 6 s6_35))) <|
    hk (fun cx=>cx.q (ex_not (x:=.tmp 44) rfl (cx.u 0 rfl))) <|
    kmu 0 <|
    hk (fun cx=>cx.vy 0 (ex_mv rfl (cx.rq 8 (f16.v 13 rfl rfl rfl)))) <|
    hk (fun cx=>cx.vy 1 (ex_not (x:=.tmp 47) rfl (cx.u 0 rfl))) <|
    hk (fun cx=>cx.q (ex_pf rfl (cx.u 0 rfl) (cx.u 1 rfl))) <|
    hn) ?_
   intro a17 w17 f17
   refine wp_cond_false (f17.v 5 rfl rfl rfl) ?_
   refine wp_skip ?_
   have b_g4_36:=f17.k (f16.k b_g4)
   have b_g5_37:=f17.k b_g5
   have b_g1_38:=f17.k (f16.k b_g1_33)
   have s5_39:=f17.q 5 (f16.q 5 u_g4)
   have s7_40:=f17.q 7 u_g5
   have s1_41:=f17.q 1 (f16.q 1 s1_34)
   refine go_reg [bx g4 25 (cR (Sc.oR (Sc.it a k1)).u.lo (Sc.oR (Sc.it a k1)).u.hi (Sc.oR (Sc.it a k1)).s.lo (Sc.oR (Sc.it a k1)).s.hi),bx g5 27 (knC (Sc.oK (Sc.it a k1))),⟨g1,29,(scC (Sc.it a k1)),some 3,(scC ⟨Sc.oR (Sc.it a k1),Sc.oK (Sc.it a k1)⟩)⟩] [] [some (.agg (cR (Sc.oR (Sc.it a k1)).u.lo (Sc.oR (Sc.it a k1)).u.hi (Sc.oR (Sc.it a k1)).s.lo (Sc.oR (Sc.it a k1)).s.hi)),some (.agg (knC (Sc.oK (Sc.it a k1)))),some (.agg (scC ⟨Sc.oR (Sc.it a k1),Sc.oK (Sc.it a k1)⟩)),none] mo f17.d f17.z f17.b (by kernel_rfl) ⟨b_g4_36,b_g5_37,b_g1_38,trivial⟩ (
    hk (fun cx=>cx.q (ldR rfl (cx.rq 5 s5_39) (cx.rn 0 rfl))) <|
    hk (fun cx=>cx.q (ldKn rfl (cx.rq 7 s7_40) (cx.rn 1 rfl))) <|
    hc (fun _ _ wx cx=>cx.c rfl (args2 (cx.u 0 rfl) (cx.u 1 rfl)) Try.func62 (by decide +kernel) (vscalar_n (Sc.oR (Sc.it a k1)) (Sc.oK (Sc.it a k1)) wx) rfl rfl) <|
    hk (fun cx=>cx.stR (wn rfl) rfl rfl 2 rfl (cx.rq 1 s1_41) (cx.u 0 rfl) (by kernel_rfl) (Eq.refl 6) (scC_one _) q_g1 rfl ⟨(ne_row b_g1_23 q_g4).symm,(ne_row b_g1_33 q_g5).symm,trivial⟩ trivial) <|
    hn) ?_
   intro a18 w18 f18
   have s10_42:=f18.q 10 (f17.q 10 (f16.q 10 (f12.q 10 (f4.q 10 sL1_10))))
   refine go_reg [] [] [some (.int .i64 ((k1 + 1:Nat):Int)),some (.int .i64 ((k1 + 1:Nat):Int))] mo f18.d f18.z f18.b (by kernel_rfl) trivial (
    hk (fun cx=>cx.v (ex_add (x:=.tmp 10) rfl (cx.un 1 rfl rfl (by kernel_rfl) s10_42) rfl) rfl (congrArg (Value.int .i64) (wrapk hlt1 (by decide)))) <|
    kmu 0 <|
    hn) ?_
   intro a19 w19 f19
   have s1_43:=f19.q 1 (f18.q 1 s1_41)
   have s2_44:=f19.q 2 (f18.q 2 (f17.q 2 (f16.q 2 (f12.q 2 (f4.q 2 sL1_2)))))
   have s4_45:=f19.q 4 (f18.q 4 (f17.q 4 (f16.q 4 (f12.q 4 s4_26))))
   have b_g1_46:=f19.k f18.rows.2.2.1
   have b_g2_47:=f19.k (f18.kp (f17.k (f16.k (f12.k (f4.k bL1_g2)))) ⟨.inl rfl,.inl rfl,.inr neL1_0_1.symm,trivial⟩)
   have b_g3_48:=f19.k (f18.kp (f17.k (f16.k (f12.k b_g3_24))) ⟨.inl rfl,.inl rfl,.inr neL1_0_2.symm,trivial⟩)
   exact ⟨hlt1,allN_step hp1 (show (Sc.it a k1).onB=true from by show (Rg.meetB (Sc.it a k1).r ⟨⟨V (Sc.it a k1).k.v,V ((Sc.it a k1).k.v ||| (Sc.it a k1).k.m)⟩,allR.s⟩ && Kn.meetB (Sc.it a k1).k (comK (Bk (Sc.oR (Sc.it a k1)).u.lo) (Bk (Sc.oR (Sc.it a k1)).u.hi)))=_;simp only [Ffk2.out,Ffk4.out,Bool.false_and,Bool.true_and,Bool.and_false,Bool.and_true]),f19.d,f19.z,f19.b,⟨s1_43,s2_44,s4_45,(f19.v 1 rfl rfl rfl),trivial⟩,⟨(row_eq b_g1_46 (congrArg scC (it_step (show (Sc.it a k1).onB=true from by show (Rg.meetB (Sc.it a k1).r ⟨⟨V (Sc.it a k1).k.v,V ((Sc.it a k1).k.v ||| (Sc.it a k1).k.m)⟩,allR.s⟩ && Kn.meetB (Sc.it a k1).k (comK (Bk (Sc.oR (Sc.it a k1)).u.lo) (Bk (Sc.oR (Sc.it a k1)).u.hi)))=_;simp only [Ffk2.out,Ffk4.out,Bool.false_and,Bool.true_and,Bool.and_false,Bool.and_true])))),b_g2_47,b_g3_48,trivial⟩⟩
  have Ffk1:=Lib.hid fk1;clear fk1
  have hge1:¬ k1 < 2:=by have:=Ffk1.out;simp only [decide_eq_false_iff_not] at this;omega
  refine go_reg [] [] [oF] mo dL1 zL1 BL1 (by kernel_rfl) trivial (
   hk (fun cx=>cx.v (ex_lt (x:=.tmp 10) rfl (cx.rq 10 sL1_10) rfl) rfl (congrArg Value.bool Ffk1.out)) <|
   hn) ?_
  intro a20 w20 f20
  refine wp_seq ?_
  refine wp_cond_false (f20.v 0 rfl rfl rfl) ?_
  refine wp_exit ?_
  simp only [Exit.then,Exit.inBlock,if_true]
  refine wp_seq ?_
  have b_g1_49:=f20.k bL1_g1
  have b_g2_50:=f20.k bL1_g2
  have s1_51:=f20.q 1 sL1_1
  have s2_52:=f20.q 2 sL1_2
  refine go_reg [bx g1 29 (scC (Sc.it a k1)),⟨g2,29,(scC zSc),some 1,(scC (Sc.it a k1))⟩] [] [some (.agg (scC (Sc.it a k1))),none,oT] mo f20.d f20.z f20.b (by kernel_rfl) ⟨b_g1_49,b_g2_50,trivial⟩ (
   hk (fun cx=>cx.q (ldSc rfl (cx.rq 1 s1_51) (cx.rn 0 rfl))) <|
   hk (fun cx=>cx.stR (wn rfl) rfl rfl 1 rfl (cx.rq 2 s2_52) (cx.u 0 rfl) (by kernel_rfl) (Eq.refl 6) (scC_one _) q_g2 rfl ⟨neL1_0_1,trivial⟩ trivial) <|
   hk (fun cx=>cx.q (ex_as rfl rfl)) <|
   hn) ?_
  intro a21 w21 f21
  refine wp_ret ?_
  have s2_53:=f21.q 2 s2_52
  try simp only [Exit.inBlock,Exit.then]
  refine bodyPost_ret (res_ct (fn:=Try.f85) rfl s2_53 (load_row 29 f21.rows.2.1 Try.underlying29 rfl (by kernel_rfl)) (f21.v 2 rfl rfl rfl)) f21.d ?_
  have e2:k1=2:=by omega
  have HN:Sc.narB a=true:=by rw [narB_is,← e2];exact hp1
  have HE:(.tuple #[.agg (scC (Sc.it a k1)),.bool true]:Value)=.tuple #[.agg (scC (Sc.nar a)),.bool (Sc.narB a)]:=by unfold Sc.nar;simp only [HN,if_true,e2];rfl
  exact ⟨retV HE,f21.b⟩
set_option maxHeartbeats 4000000 in
theorem vnarrowed_n (r:Rg) (k:Kn) (W:World) (ok:r.Ok):Calls Try.prog 57 #[.agg (cR r.u.lo r.u.hi r.s.lo r.s.hi),.agg (knC k)] W fun e w'=>e=.returned (.agg (scC (Sc.nar ⟨r,k⟩))) ∧ Below W.heap.size W w':=by
  have HA:=Lib.hid ok
  clear ok
  refine calls_abs Try.func57 rfl (Nat.le_of_ble_eq_true rfl) ?_
  intro a0 d0 z0 h0
  replace z0:a0.tmps.size=15:=z0
  have s0_0:a0.tmps.getD 0 undef=.agg (cR r.u.lo r.u.hi r.s.lo r.s.hi):=h0 0 (Nat.le_of_ble_eq_true rfl)
  have s1_0:a0.tmps.getD 1 undef=.agg (knC k):=h0 1 (Nat.le_of_ble_eq_true rfl)
  refine wp_seq ?_
  refine go_reg [] [⟨0,2,25,(cR r.u.lo r.u.hi r.s.lo r.s.hi),none,#[]⟩,⟨1,3,27,(knC k),none,#[]⟩,⟨2,4,29,(scC zSc),none,#[]⟩] [none,none,none] mo d0 z0 (Below.refl _ _) (by kernel_rfl) trivial (
   hk (fun cx=>cx.al (wn rfl) 0 rfl (ex_box rfl (cx.rq 0 s0_0) rfl) rfl rfl rfl rfl rfl trivial) <|
   hk (fun cx=>cx.al (wn rfl) 1 rfl (ex_box rfl (cx.rq 1 s1_0) rfl) rfl rfl rfl rfl rfl trivial) <|
   hk (fun cx=>cx.al (wn rfl) 2 rfl (al_sc rfl) rfl rfl rfl rfl rfl trivial) <|
   hn) ?_
  intro a1 w1 f1
  obtain ⟨g1,u_g1,q_g1,b_g1⟩:=f1.al.1
  obtain ⟨g2,u_g2,q_g2,b_g2⟩:=f1.al.2.1
  obtain ⟨g3,u_g3,q_g3,b_g3⟩:=f1.al.2.2.1
  refine wp_seq ?_
  refine go_reg [bx g1 25 (cR r.u.lo r.u.hi r.s.lo r.s.hi),bx g2 27 (knC k)] [⟨7,5,29,(scC zSc),some 8,(scC (Sc.nar ⟨r,k⟩))⟩] [some (.agg (cR r.u.lo r.u.hi r.s.lo r.s.hi)),some (.agg (knC k)),some (.agg (scC ⟨r,k⟩)),some (.tuple #[.agg (scC (Sc.nar ⟨r,k⟩)),.bool (Sc.narB ⟨r,k⟩)]),some (.tuple #[.agg (scC (Sc.nar ⟨r,k⟩)),.bool (Sc.narB ⟨r,k⟩)]),some (.agg (scC (Sc.nar ⟨r,k⟩))),some (.bool (Sc.narB ⟨r,k⟩)),none,none,some (.bool (Sc.narB ⟨r,k⟩))] mo f1.d f1.z f1.b (by kernel_rfl) ⟨b_g1,b_g2,trivial⟩ (
   hk (fun cx=>cx.q (ldR rfl (cx.rq 2 u_g1) (cx.rn 0 rfl))) <|
   hk (fun cx=>cx.q (ldKn rfl (cx.rq 3 u_g2) (cx.rn 1 rfl))) <|
   hc (fun _ _ wx cx=>cx.c rfl (args2 (cx.u 0 rfl) (cx.u 1 rfl)) Try.func62 (by decide +kernel) (vscalar_n r k wx) rfl rfl) <|
   hc (fun _ _ wx cx=>cx.c rfl (args1 (cx.u 0 rfl)) Try.func85 (by decide +kernel) (vnarrow_n ⟨r,k⟩ wx HA.out) rfl rfl) <|
   kmu 0 <|
   hk (fun cx=>cx.q (ex_ext (x:=.tmp 7) rfl (cx.u 0 rfl) rfl)) <|
   hk (fun cx=>cx.q (ex_ext (x:=.tmp 7) rfl (cx.u 0 rfl) rfl)) <|
   hk (fun cx=>cx.al (wn rfl) 0 rfl (al_sc rfl) rfl rfl rfl rfl (by kernel_rfl) trivial) <|
   hk (fun cx=>cx.stA (wn rfl) rfl rfl 0 0 rfl rfl rfl rfl (cx.u 1 rfl) (by kernel_rfl) (Eq.refl 6) (scC_one _) f1.b.size rfl rfl trivial) <|
   kmu 0 <|
   hn) ?_
  intro a2 w2 f2
  obtain ⟨g4,u_g4,q_g4,b_g4⟩:=f2.al.1
  refine wp_seq ?_
  have b_g3_1:=f2.k b_g3
  have s4_2:=f2.q 4 u_g3
  refine go_reg [bx g4 29 (scC (Sc.nar ⟨r,k⟩)),⟨g3,29,(scC zSc),some 1,(scC (Sc.nar ⟨r,k⟩))⟩] [] [some (.agg (scC (Sc.nar ⟨r,k⟩))),none] mo f2.d f2.z f2.b (by kernel_rfl) ⟨b_g4,b_g3_1,trivial⟩ (
   hk (fun cx=>cx.q (ldSc rfl (cx.rq 5 u_g4) (cx.rn 0 rfl))) <|
   hk (fun cx=>cx.stR (wn rfl) rfl rfl 1 rfl (cx.rq 4 s4_2) (cx.u 0 rfl) (by kernel_rfl) (Eq.refl 6) (scC_one _) q_g3 rfl ⟨(ne_row b_g3 q_g4).symm,trivial⟩ trivial) <|
   hn) ?_
  intro a3 w3 f3
  refine wp_ret ?_
  have s4_3:=f3.q 4 s4_2
  try simp only [Exit.inBlock,Exit.then]
  refine bodyPost_ret (res_c (fn:=Try.f57) rfl s4_3 (load_row 29 f3.rows.2.1 Try.underlying29 rfl (by kernel_rfl))) f3.d ?_
  exact ⟨rfl,f3.b⟩
set_option maxHeartbeats 4000000 in
theorem halves_join_n (a b:Sc) (W:World):Calls Try.prog 77 #[.agg (scC a),.agg (scC b),.func (.func 78) #[] #[],.func (.func 79) #[] #[]] W fun e w'=>e=.returned (.tuple #[.agg (cR (Rg.joinR a.r b.r).u.lo (Rg.joinR a.r b.r).u.hi (Rg.joinR a.r b.r).s.lo (Rg.joinR a.r b.r).s.hi),.agg (knC (Kn.joinK a.k b.k))]) ∧ Below W.heap.size W w':=by
  refine calls_abs Try.func77 rfl (Nat.le_of_ble_eq_true rfl) ?_
  intro a0 d0 z0 h0
  replace z0:a0.tmps.size=22:=z0
  have s0_0:a0.tmps.getD 0 undef=.agg (scC a):=h0 0 (Nat.le_of_ble_eq_true rfl)
  have s1_0:a0.tmps.getD 1 undef=.agg (scC b):=h0 1 (Nat.le_of_ble_eq_true rfl)
  have s2_0:a0.tmps.getD 2 undef=.func (.func 78) #[] #[]:=h0 2 (Nat.le_of_ble_eq_true rfl)
  have s3_0:a0.tmps.getD 3 undef=.func (.func 79) #[] #[]:=h0 3 (Nat.le_of_ble_eq_true rfl)
  refine wp_seq ?_
  refine go_reg [] [⟨0,4,29,(scC a),none,#[]⟩,⟨1,5,29,(scC b),none,#[]⟩,⟨2,8,25,(cR 0 0 0 0),none,#[]⟩,⟨3,9,27,(knC zKn),none,#[]⟩] [none,none,none,none] mo d0 z0 (Below.refl _ _) (by kernel_rfl) trivial (
   hk (fun cx=>cx.al (wn rfl) 0 rfl (ex_box rfl (cx.rq 0 s0_0) rfl) rfl rfl rfl rfl rfl trivial) <|
   hk (fun cx=>cx.al (wn rfl) 1 rfl (ex_box rfl (cx.rq 1 s1_0) rfl) rfl rfl rfl rfl rfl trivial) <|
   hk (fun cx=>cx.al (wn rfl) 2 rfl (by simp [execOp,Act.eval,go_sem]) rfl rfl rfl rfl rfl trivial) <|
   hk (fun cx=>cx.al (wn rfl) 3 rfl (al_kn rfl) rfl rfl rfl rfl rfl trivial) <|
   hn) ?_
  intro a1 w1 f1
  obtain ⟨g1,u_g1,q_g1,b_g1⟩:=f1.al.1
  obtain ⟨g2,u_g2,q_g2,b_g2⟩:=f1.al.2.1
  obtain ⟨g3,u_g3,q_g3,b_g3⟩:=f1.al.2.2.1
  obtain ⟨g4,u_g4,q_g4,b_g4⟩:=f1.al.2.2.2.1
  refine wp_seq ?_
  have s2_1:=f1.q 2 s2_0
  have s3_2:=f1.q 3 s3_0
  refine go_reg [bx g1 29 (scC a),bx g2 29 (scC b),⟨g3,25,(cR 0 0 0 0),some 12,(cR (Rg.joinR a.r b.r).u.lo (Rg.joinR a.r b.r).u.hi (Rg.joinR a.r b.r).s.lo (Rg.joinR a.r b.r).s.hi)⟩,⟨g4,27,(knC zKn),some 13,(knC (Kn.joinK a.k b.k))⟩] [] [some (.func (.func 78) #[] #[]),some (pt g1 0),some (.agg (cR a.r.u.lo a.r.u.hi a.r.s.lo a.r.s.hi)),some (pt g2 0),some (.agg (cR b.r.u.lo b.r.u.hi b.r.s.lo b.r.s.hi)),some (.agg (cR (Rg.joinR a.r b.r).u.lo (Rg.joinR a.r b.r).u.hi (Rg.joinR a.r b.r).s.lo (Rg.joinR a.r b.r).s.hi)),some (.func (.func 79) #[] #[]),some (pt g1 4),some (.agg (knC a.k)),some (pt g2 4),some (.agg (knC b.k)),some (.agg (knC (Kn.joinK a.k b.k))),none,none] mo f1.d f1.z f1.b (by kernel_rfl) ⟨b_g1,b_g2,b_g3,b_g4,trivial⟩ (
   hk (fun cx=>cx.q (ex_mv rfl (cx.rq 2 s2_1))) <|
   hk (fun cx=>cx.q (ex_fa rfl (cx.rq 4 u_g1) (faStC29_0_0 _ _))) <|
   hk (fun cx=>cx.q (exec_loadR 25 _ rfl g1 0 (cx.u 0 rfl) (cx.rn 0 rfl) [.int .u64 a.r.u.lo,.int .u64 a.r.u.hi,.int .i64 a.r.s.lo,.int .i64 a.r.s.hi] rfl _ Try.underlying25 rfl (by kernel_rfl))) <|
   hk (fun cx=>cx.q (ex_fa rfl (cx.rq 5 u_g2) (faStC29_0_0 _ _))) <|
   hk (fun cx=>cx.q (exec_loadR 25 _ rfl g2 0 (cx.u 0 rfl) (cx.rn 1 rfl) [.int .u64 b.r.u.lo,.int .u64 b.r.u.hi,.int .i64 b.r.s.lo,.int .i64 b.r.s.hi] rfl _ Try.underlying25 rfl (by kernel_rfl))) <|
   hc (fun _ _ wx cx=>cx.callv (wn rfl) rfl rfl (cx.u 0 rfl) (args2 (cx.u 1 rfl) (cx.u 2 rfl)) Try.func78 (by decide +kernel) (join_n a.r.u.lo a.r.u.hi a.r.s.lo a.r.s.hi b.r.u.lo b.r.u.hi b.r.s.lo b.r.s.hi wx) rfl rfl rfl rfl) <|
   hk (fun cx=>cx.q (ex_mv rfl (cx.rq 3 s3_2))) <|
   hk (fun cx=>cx.q (ex_fa rfl (cx.rq 4 u_g1) (faStC29_1_0 _ _))) <|
   hk (fun cx=>cx.q (exec_loadR 27 _ rfl g1 4 (cx.u 0 rfl) (cx.rn 0 rfl) [.int .u64 (V a.k.v),.int .u64 (V a.k.m)] rfl _ Try.underlying27 rfl (by kernel_rfl))) <|
   hk (fun cx=>cx.q (ex_fa rfl (cx.rq 5 u_g2) (faStC29_1_0 _ _))) <|
   hk (fun cx=>cx.q (exec_loadR 27 _ rfl g2 4 (cx.u 0 rfl) (cx.rn 1 rfl) [.int .u64 (V b.k.v),.int .u64 (V b.k.m)] rfl _ Try.underlying27 rfl (by kernel_rfl))) <|
   hc (fun _ _ wx cx=>cx.callv (wn rfl) rfl rfl (cx.u 0 rfl) (args2 (cx.u 1 rfl) (cx.u 2 rfl)) Try.func79 (by decide +kernel) (kjoin_n a.k b.k wx) rfl rfl rfl rfl) <|
   hk (fun cx=>cx.stR (wn rfl) rfl rfl 2 rfl (cx.rq 8 u_g3) (cx.u 0 rfl) (by kernel_rfl) (Eq.refl 4) (cR_one _ _ _ _) q_g3 rfl ⟨(ne_ptr (pairAt f1.ps 0 2 (by decide) rfl rfl) u_g1 u_g3),(ne_ptr (pairAt f1.ps 1 2 (by decide) rfl rfl) u_g2 u_g3),(ne_ptr (pairAt f1.ps 2 3 (by decide) rfl rfl) u_g3 u_g4).symm,trivial⟩ trivial) <|
   hk (fun cx=>cx.stR (wn rfl) rfl rfl 3 rfl (cx.rq 9 u_g4) (cx.u 0 rfl) (by kernel_rfl) (Eq.refl 2) (knC_one _) q_g4 rfl ⟨(ne_ptr (pairAt f1.ps 0 3 (by decide) rfl rfl) u_g1 u_g4),(ne_ptr (pairAt f1.ps 1 3 (by decide) rfl rfl) u_g2 u_g4),(ne_ptr (pairAt f1.ps 2 3 (by decide) rfl rfl) u_g3 u_g4),trivial⟩ trivial) <|
   hn) ?_
  intro a2 w2 f2
  refine wp_ret ?_
  have s8_3:=f2.q 8 u_g3
  have s9_4:=f2.q 9 u_g4
  try simp only [Exit.inBlock,Exit.then]
  refine bodyPost_ret (res_cc (fn:=Try.f77) rfl s8_3 (load_row 25 f2.rows.2.2.1 Try.underlying25 rfl (by kernel_rfl)) s9_4 (load_row 27 f2.rows.2.2.2.1 Try.underlying27 rfl (by kernel_rfl))) f2.d ?_
  exact ⟨rfl,f2.b⟩
set_option maxHeartbeats 4000000 in
theorem vjoin_n (a b:Sc) (W:World) (ha:a.r.Ok) (hb:b.r.Ok):Calls Try.prog 51 #[.agg (scC a),.agg (scC b)] W fun e w'=>e=.returned (.agg (scC (Sc.join a b))) ∧ Below W.heap.size W w':=by
  have HA:=Lib.hid ha
  have HB:=Lib.hid hb
  clear ha hb
  refine calls_abs Try.func51 rfl (Nat.le_of_ble_eq_true rfl) ?_
  intro a0 d0 z0 h0
  replace z0:a0.tmps.size=20:=z0
  have s0_0:a0.tmps.getD 0 undef=.agg (scC a):=h0 0 (Nat.le_of_ble_eq_true rfl)
  have s1_0:a0.tmps.getD 1 undef=.agg (scC b):=h0 1 (Nat.le_of_ble_eq_true rfl)
  refine wp_seq ?_
  refine go_reg [] [⟨0,2,29,(scC a),none,#[]⟩,⟨1,3,29,(scC b),none,#[]⟩,⟨2,4,29,(scC zSc),none,#[]⟩] [none,none,none] mo d0 z0 (Below.refl _ _) (by kernel_rfl) trivial (
   hk (fun cx=>cx.al (wn rfl) 0 rfl (ex_box rfl (cx.rq 0 s0_0) rfl) rfl rfl rfl rfl rfl trivial) <|
   hk (fun cx=>cx.al (wn rfl) 1 rfl (ex_box rfl (cx.rq 1 s1_0) rfl) rfl rfl rfl rfl rfl trivial) <|
   hk (fun cx=>cx.al (wn rfl) 2 rfl (al_sc rfl) rfl rfl rfl rfl rfl trivial) <|
   hn) ?_
  intro a1 w1 f1
  obtain ⟨g1,u_g1,q_g1,b_g1⟩:=f1.al.1
  obtain ⟨g2,u_g2,q_g2,b_g2⟩:=f1.al.2.1
  obtain ⟨g3,u_g3,q_g3,b_g3⟩:=f1.al.2.2.1
  refine wp_seq ?_
  refine wp_seq ?_
  cases fk1:Sc.mayB a
  case false=>
   have Ffk1:=Lib.hid fk1;clear fk1
   refine go_reg [bx g1 29 (scC a)] [] [some (.agg (scC a)),oF,oT,oT,oU,oU,oU,oT] mo f1.d f1.z f1.b (by kernel_rfl) ⟨b_g1,trivial⟩ (
    hk (fun cx=>cx.q (ldSc rfl (cx.rq 2 u_g1) (cx.rn 0 rfl))) <|
    hc (fun _ _ wx cx=>cx.c rfl (args1 (cx.u 0 rfl)) Try.func42 (by decide +kernel) (vmay_n a wx) rfl (congrArg Value.bool Ffk1.out)) <|
    hk (fun cx=>cx.q (ex_not (x:=.tmp 6) rfl (cx.u 0 rfl))) <|
    kmu 0 <|
    kno 0 <|
    kno 1 <|
    kno 1 <|
    hk (fun cx=>cx.q (ex_pt rfl (cx.u 0 rfl) rfl)) <|
    hn) ?_
   intro a2 w2 f2
   refine wp_cond_true (f2.v 7 rfl rfl rfl) ?_
   refine wp_seq ?_
   have b_g3_1:=f2.k b_g3
   have s4_2:=f2.q 4 u_g3
   refine go_reg [⟨g3,29,(scC zSc),some 1,(scC allC)⟩] [] [some (.agg (scC allC)),none] mo f2.d f2.z f2.b (by kernel_rfl) ⟨b_g3_1,trivial⟩ (
    hc (fun _ _ wx cx=>cx.c rfl (args0 ) Try.func40 (by decide +kernel) (vall_n wx) rfl rfl) <|
    hk (fun cx=>cx.stR (wn rfl) rfl rfl 0 rfl (cx.rq 4 s4_2) (cx.u 0 rfl) (by kernel_rfl) (Eq.refl 6) (scC_one _) q_g3 rfl trivial trivial) <|
    hn) ?_
   intro a3 w3 f3
   refine wp_ret ?_
   have s4_3:=f3.q 4 s4_2
   try simp only [Exit.inBlock,Exit.then]
   refine bodyPost_ret (res_c (fn:=Try.f51) rfl s4_3 (load_row 29 f3.rows.1 Try.underlying29 rfl (by kernel_rfl))) f3.d ?_
   have HE:(.agg (scC allC):Value)=.agg (scC (Sc.join a b)):=by unfold Sc.join;simp only [Ffk1.out,Bool.true_and,Bool.and_true,Bool.false_and,Bool.and_false,Bool.or_false,Bool.false_or,Bool.true_or,Bool.or_true,Bool.not_true,Bool.not_false,if_true,if_false,Bool.false_eq_true,Bool.true_eq_false,reduceCtorEq];try rfl
   exact ⟨retV HE,f3.b⟩
  have Ffk1:=Lib.hid fk1;clear fk1
  cases fk2:Sc.mayB b
  case false=>
   have Ffk2:=Lib.hid fk2;clear fk2
   refine go_reg [bx g1 29 (scC a),bx g2 29 (scC b)] [] [some (.agg (scC a)),oT,oF,oF,some (.agg (scC b)),oF,oT,oT] mo f1.d f1.z f1.b (by kernel_rfl) ⟨b_g1,b_g2,trivial⟩ (
    hk (fun cx=>cx.q (ldSc rfl (cx.rq 2 u_g1) (cx.rn 0 rfl))) <|
    hc (fun _ _ wx cx=>cx.c rfl (args1 (cx.u 0 rfl)) Try.func42 (by decide +kernel) (vmay_n a wx) rfl (congrArg Value.bool Ffk1.out)) <|
    hk (fun cx=>cx.q (ex_not (x:=.tmp 6) rfl (cx.u 0 rfl))) <|
    kmu 0 <|
    hk (fun cx=>cx.vy 0 (ldSc rfl (cx.rq 3 u_g2) (cx.rn 1 rfl))) <|
    hc (fun _ _ wx cx=>cx.call (cx.wy rfl rfl rfl rfl (cx.u 1 rfl)) rfl rfl (args1 (cx.u 0 rfl)) Try.func42 (by decide +kernel) rfl (vmay_n b wx) rfl rfl (congrArg Value.bool Ffk2.out) rfl) <|
    hk (fun cx=>cx.vy 1 (ex_not (x:=.tmp 10) rfl (cx.u 0 rfl))) <|
    hk (fun cx=>cx.q (ex_pf rfl (cx.u 0 rfl) (cx.u 1 rfl))) <|
    hn) ?_
   intro a4 w4 f4
   refine wp_cond_true (f4.v 7 rfl rfl rfl) ?_
   refine wp_seq ?_
   have b_g3_4:=f4.k b_g3
   have s4_5:=f4.q 4 u_g3
   refine go_reg [⟨g3,29,(scC zSc),some 1,(scC allC)⟩] [] [some (.agg (scC allC)),none] mo f4.d f4.z f4.b (by kernel_rfl) ⟨b_g3_4,trivial⟩ (
    hc (fun _ _ wx cx=>cx.c rfl (args0 ) Try.func40 (by decide +kernel) (vall_n wx) rfl rfl) <|
    hk (fun cx=>cx.stR (wn rfl) rfl rfl 0 rfl (cx.rq 4 s4_5) (cx.u 0 rfl) (by kernel_rfl) (Eq.refl 6) (scC_one _) q_g3 rfl trivial trivial) <|
    hn) ?_
   intro a5 w5 f5
   refine wp_ret ?_
   have s4_6:=f5.q 4 s4_5
   try simp only [Exit.inBlock,Exit.then]
   refine bodyPost_ret (res_c (fn:=Try.f51) rfl s4_6 (load_row 29 f5.rows.1 Try.underlying29 rfl (by kernel_rfl))) f5.d ?_
   have HE:(.agg (scC allC):Value)=.agg (scC (Sc.join a b)):=by unfold Sc.join;simp only [Ffk1.out,Ffk2.out,Bool.true_and,Bool.and_true,Bool.false_and,Bool.and_false,Bool.or_false,Bool.false_or,Bool.true_or,Bool.or_true,Bool.not_true,Bool.not_false,if_true,if_false,Bool.false_eq_true,Bool.true_eq_false,reduceCtorEq];try rfl
   exact ⟨retV HE,f5.b⟩
  have Ffk2:=Lib.hid fk2;clear fk2
  refine go_reg [bx g1 29 (scC a),bx g2 29 (scC b)] [] [some (.agg (scC a)),oT,oF,oF,some (.agg (scC b)),oT,oF,oF] mo f1.d f1.z f1.b (by kernel_rfl) ⟨b_g1,b_g2,trivial⟩ (
   hk (fun cx=>cx.q (ldSc rfl (cx.rq 2 u_g1) (cx.rn 0 rfl))) <|
   hc (fun _ _ wx cx=>cx.c rfl (args1 (cx.u 0 rfl)) Try.func42 (by decide +kernel) (vmay_n a wx) rfl (congrArg Value.bool Ffk1.out)) <|
   hk (fun cx=>cx.q (ex_not (x:=.tmp 6) rfl (cx.u 0 rfl))) <|
   kmu 0 <|
   hk (fun cx=>cx.vy 0 (ldSc rfl (cx.rq 3 u_g2) (cx.rn 1 rfl))) <|
   hc (fun _ _ wx cx=>cx.call (cx.wy rfl rfl rfl rfl (cx.u 1 rfl)) rfl rfl (args1 (cx.u 0 rfl)) Try.func42 (by decide +kernel) rfl (vmay_n b wx) rfl rfl (congrArg Value.bool Ffk2.out) rfl) <|
   hk (fun cx=>cx.vy 1 (ex_not (x:=.tmp 10) rfl (cx.u 0 rfl))) <|
   hk (fun cx=>cx.q (ex_pf rfl (cx.u 0 rfl) (cx.u 1 rfl))) <|
   hn) ?_
  intro a6 w6 f6
  refine wp_cond_false (f6.v 7 rfl rfl rfl) ?_
  refine wp_skip ?_
  refine wp_seq ?_
  have b_g1_7:=f6.k b_g1
  have b_g2_8:=f6.k b_g2
  have b_g3_9:=f6.k b_g3
  have s2_10:=f6.q 2 u_g1
  have s3_11:=f6.q 3 u_g2
  have s4_12:=f6.q 4 u_g3
  refine go_reg [bx g1 29 (scC a),bx g2 29 (scC b),⟨g3,29,(scC zSc),some 6,(scC (Sc.nar ⟨Rg.joinR a.r b.r,Kn.joinK a.k b.k⟩))⟩] [] [some (.agg (scC a)),some (.agg (scC b)),some (.tuple #[.agg (cR (Rg.joinR a.r b.r).u.lo (Rg.joinR a.r b.r).u.hi (Rg.joinR a.r b.r).s.lo (Rg.joinR a.r b.r).s.hi),.agg (knC (Kn.joinK a.k b.k))]),some (.agg (cR (Rg.joinR a.r b.r).u.lo (Rg.joinR a.r b.r).u.hi (Rg.joinR a.r b.r).s.lo (Rg.joinR a.r b.r).s.hi)),some (.agg (knC (Kn.joinK a.k b.k))),some (.agg (scC (Sc.nar ⟨Rg.joinR a.r b.r,Kn.joinK a.k b.k⟩))),none] mo f6.d f6.z f6.b (by kernel_rfl) ⟨b_g1_7,b_g2_8,b_g3_9,trivial⟩ (
   hk (fun cx=>cx.q (ldSc rfl (cx.rq 2 s2_10) (cx.rn 0 rfl))) <|
   hk (fun cx=>cx.q (ldSc rfl (cx.rq 3 s3_11) (cx.rn 1 rfl))) <|
   hc (fun _ _ wx cx=>cx.c rfl (args4 (cx.u 0 rfl) (cx.u 1 rfl) rfl rfl) Try.func77 (by decide +kernel) (halves_join_n a b wx) rfl rfl) <|
   hk (fun cx=>cx.q (ex_ext (x:=.tmp 16) rfl (cx.u 0 rfl) rfl)) <|
   hk (fun cx=>cx.q (ex_ext (x:=.tmp 16) rfl (cx.u 0 rfl) rfl)) <|
   hc (fun _ _ wx cx=>cx.c rfl (args2 (cx.u 0 rfl) (cx.u 1 rfl)) Try.func57 (by decide +kernel) (vnarrowed_n (Rg.joinR a.r b.r) (Kn.joinK a.k b.k) wx (joinR_ok HA.out HB.out)) rfl rfl) <|
   hk (fun cx=>cx.stR (wn rfl) rfl rfl 2 rfl (cx.rq 4 s4_12) (cx.u 0 rfl) (by kernel_rfl) (Eq.refl 6) (scC_one _) q_g3 rfl ⟨(ne_ptr (pairAt f1.ps 0 2 (by decide) rfl rfl) u_g1 u_g3),(ne_ptr (pairAt f1.ps 1 2 (by decide) rfl rfl) u_g2 u_g3),trivial⟩ trivial) <|
   hn) ?_
  intro a7 w7 f7
  refine wp_ret ?_
  have s4_13:=f7.q 4 s4_12
  try simp only [Exit.inBlock,Exit.then]
  refine bodyPost_ret (res_c (fn:=Try.f51) rfl s4_13 (load_row 29 f7.rows.2.2.1 Try.underlying29 rfl (by kernel_rfl))) f7.d ?_
  have HE:(.agg (scC (Sc.nar ⟨Rg.joinR a.r b.r,Kn.joinK a.k b.k⟩)):Value)=.agg (scC (Sc.join a b)):=by unfold Sc.join;simp only [Ffk1.out,Ffk2.out,Bool.true_and,Bool.and_true,Bool.false_and,Bool.and_false,Bool.or_false,Bool.false_or,Bool.true_or,Bool.or_true,Bool.not_true,Bool.not_false,if_true,if_false,Bool.false_eq_true,Bool.true_eq_false,reduceCtorEq];try rfl
  exact ⟨retV HE,f7.b⟩
end Go.Proofs.Ytcnneeimkcnjfaa.Sta
