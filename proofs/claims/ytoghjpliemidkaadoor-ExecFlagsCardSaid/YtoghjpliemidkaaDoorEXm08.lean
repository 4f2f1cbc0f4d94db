import Derived.Test.YtoghjpliemidkaaDoorEXm07
set_option linter.unusedVariables false
set_option linter.unusedSimpArgs false
set_option linter.unnecessarySimpa false
namespace Go.Proofs.YtoghjpliemidkaaDoor.Flg
open Go Go.RowKit
set_option linter.unusedVariables false
set_option linter.unusedSimpArgs false
set_option linter.unnecessarySimpa false
set_option maxRecDepth 100000
theorem faFlE25_1_0 (g:Nat) (w:World):(Instr.fieldAt 34 (.pointer (some ⟨g,0,none⟩)) 1).run Tryd.prog w=.ok (.pointer (some ⟨g,1,none⟩)) w:=by simp [go_sem]
theorem faFlE25_2_0 (g:Nat) (w:World):(Instr.fieldAt 34 (.pointer (some ⟨g,0,none⟩)) 2).run Tryd.prog w=.ok (.pointer (some ⟨g,2,none⟩)) w:=by simp [go_sem]
theorem faFlE25_3_0 (g:Nat) (w:World):(Instr.fieldAt 34 (.pointer (some ⟨g,0,none⟩)) 3).run Tryd.prog w=.ok (.pointer (some ⟨g,3,none⟩)) w:=by simp [go_sem]
theorem faFlE25_4_0 (g:Nat) (w:World):(Instr.fieldAt 34 (.pointer (some ⟨g,0,none⟩)) 4).run Tryd.prog w=.ok (.pointer (some ⟨g,4,none⟩)) w:=by simp [go_sem]
theorem ccF_2 (f:Fl):ccF 2 f=f.c:=rfl
theorem holF_2 (f:Fl):holF 2 f=(f.k && ccF 2 f):=by obtain ⟨k,c,z,s,o⟩:=f;cases k <;> rfl
theorem holE_2 (f:Fl):holE 2 f=(if f.k=true then 0 else 20):=rfl
theorem ccF_3 (f:Fl):ccF 3 f=!f.c:=rfl
theorem holF_3 (f:Fl):holF 3 f=(f.k && ccF 3 f):=by obtain ⟨k,c,z,s,o⟩:=f;cases k <;> rfl
theorem holE_3 (f:Fl):holE 3 f=(if f.k=true then 0 else 20):=rfl
theorem ccF_4 (f:Fl):ccF 4 f=f.z:=rfl
theorem holF_4 (f:Fl):holF 4 f=(f.k && ccF 4 f):=by obtain ⟨k,c,z,s,o⟩:=f;cases k <;> rfl
theorem holE_4 (f:Fl):holE 4 f=(if f.k=true then 0 else 20):=rfl
theorem ccF_5 (f:Fl):ccF 5 f=!f.z:=rfl
theorem holF_5 (f:Fl):holF 5 f=(f.k && ccF 5 f):=by obtain ⟨k,c,z,s,o⟩:=f;cases k <;> rfl
theorem holE_5 (f:Fl):holE 5 f=(if f.k=true then 0 else 20):=rfl
theorem ccF_6 (f:Fl):ccF 6 f=(f.c || f.z):=rfl
theorem holF_6 (f:Fl):holF 6 f=(f.k && ccF 6 f):=by obtain ⟨k,c,z,s,o⟩:=f;cases k <;> rfl
theorem holE_6 (f:Fl):holE 6 f=(if f.k=true then 0 else 20):=rfl
theorem ccF_7 (f:Fl):ccF 7 f=(!f.c && !f.z):=rfl
theorem holF_7 (f:Fl):holF 7 f=(f.k && ccF 7 f):=by obtain ⟨k,c,z,s,o⟩:=f;cases k <;> rfl
theorem holE_7 (f:Fl):holE 7 f=(if f.k=true then 0 else 20):=rfl
theorem ccF_12 (f:Fl):ccF 12 f=(f.s != f.o):=rfl
theorem holF_12 (f:Fl):holF 12 f=(f.k && ccF 12 f):=by obtain ⟨k,c,z,s,o⟩:=f;cases k <;> rfl
theorem holE_12 (f:Fl):holE 12 f=(if f.k=true then 0 else 20):=rfl
theorem ccF_13 (f:Fl):ccF 13 f=(f.s == f.o):=rfl
theorem holF_13 (f:Fl):holF 13 f=(f.k && ccF 13 f):=by obtain ⟨k,c,z,s,o⟩:=f;cases k <;> rfl
theorem holE_13 (f:Fl):holE 13 f=(if f.k=true then 0 else 20):=rfl
theorem ccF_14 (f:Fl):ccF 14 f=(f.z || f.s != f.o):=rfl
theorem holF_14 (f:Fl):holF 14 f=(f.k && ccF 14 f):=by obtain ⟨k,c,z,s,o⟩:=f;cases k <;> rfl
theorem holE_14 (f:Fl):holE 14 f=(if f.k=true then 0 else 20):=rfl
theorem ccF_15 (f:Fl):ccF 15 f=(!f.z && f.s == f.o):=rfl
theorem holF_15 (f:Fl):holF 15 f=(f.k && ccF 15 f):=by obtain ⟨k,c,z,s,o⟩:=f;cases k <;> rfl
theorem holE_15 (f:Fl):holE 15 f=(if f.k=true then 0 else 20):=rfl
theorem kn_of {f:Fl} {b:Bool} (h:(!(eqF f ⟨true,f.c,f.z,f.s,f.o⟩))=b):f.k=!b:=by
  rw [eqF_known] at h
  rw [← h];simp
theorem bang {a b:Bool} (h:(!a)=b):a=!b:=by rw [← h];simp
set_option maxHeartbeats 4000000 in
theorem clo_2 (f:Fl) (W:World):Calls Tryd.prog 138 #[.agg (fC f)] W fun e w'=>e=.returned (.bool (ccF 2 f)) ∧ Below W.heap.size W w':=by
  refine calls_abs Tryd.func138 rfl (Nat.le_of_ble_eq_true rfl) ?_
  intro a0 d0 z0 h0
  replace z0:a0.tmps.size=5:=z0
  have s0_0:a0.tmps.getD 0 undef=.agg (fC f):=h0 0 (Nat.le_of_ble_eq_true rfl)
  refine wp_seq ?_
  refine go_reg [] [⟨0,1,34,(fC f),none,#[]⟩] [none,oF] mo d0 z0 (Below.refl _ _) (by kernel_rfl) trivial (
   hk (fun cx=>cx.al (wn rfl) 0 rfl (ex_box rfl (cx.rq 0 s0_0) rfl) rfl rfl rfl rfl rfl trivial) <|
   hk (fun cx=>cx.q (ex_as rfl rfl)) <|
   hn) ?_
  intro a1 w1 f1
  obtain ⟨g1,u_g1,q_g1,b_g1⟩:=f1.al.1
  refine wp_seq ?_
  refine go_reg [bx g1 34 (fC f)] [] [some (pt g1 1),some (.bool f.c),some (.bool f.c)] mo f1.d f1.z f1.b (by kernel_rfl) ⟨b_g1,trivial⟩ (
   hk (fun cx=>cx.q (ex_fa rfl (cx.rq 1 u_g1) (faFlE25_1_0 _ _))) <|
   hk (fun cx=>cx.q (ex_ld rfl (cx.u 0 rfl) (cx.rn 0 rfl) rfl Tryd.isAgg4)) <|
   kmu 0 <|
   hn) ?_
  intro a2 w2 f2
  refine wp_ret ?_
  try simp only [Exit.inBlock,Exit.then]
  refine bodyPost_ret (res_t (fn:=Tryd.f138) rfl (f2.v 2 rfl rfl rfl)) f2.d ?_
  have HE:(.bool f.c:Value)=.bool (ccF 2 f):=by simp only [ccF_2,Bool.true_and,Bool.and_true,Bool.false_and,Bool.and_false,Bool.or_false,Bool.false_or,Bool.true_or,Bool.or_true,Bool.not_true,Bool.not_false,if_true,if_false,Bool.false_eq_true,Bool.true_eq_false,reduceCtorEq];try rfl
  exact ⟨retV HE,f2.b⟩
set_option maxHeartbeats 4000000 in
theorem clo_3 (f:Fl) (W:World):Calls Tryd.prog 139 #[.agg (fC f)] W fun e w'=>e=.returned (.bool (ccF 3 f)) ∧ Below W.heap.size W w':=by
  refine calls_abs Tryd.func139 rfl (Nat.le_of_ble_eq_true rfl) ?_
  intro a0 d0 z0 h0
  replace z0:a0.tmps.size=6:=z0
  have s0_0:a0.tmps.getD 0 undef=.agg (fC f):=h0 0 (Nat.le_of_ble_eq_true rfl)
  refine wp_seq ?_
  refine go_reg [] [⟨0,1,34,(fC f),none,#[]⟩] [none,oF] mo d0 z0 (Below.refl _ _) (by kernel_rfl) trivial (
   hk (fun cx=>cx.al (wn rfl) 0 rfl (ex_box rfl (cx.rq 0 s0_0) rfl) rfl rfl rfl rfl rfl trivial) <|
   hk (fun cx=>cx.q (ex_as rfl rfl)) <|
   hn) ?_
  intro a1 w1 f1
  obtain ⟨g1,u_g1,q_g1,b_g1⟩:=f1.al.1
  refine wp_seq ?_
  refine go_reg [bx g1 34 (fC f)] [] [some (pt g1 1),some (.bool f.c),some (.bool (!f.c)),some (.bool (!f.c))] mo f1.d f1.z f1.b (by kernel_rfl) ⟨b_g1,trivial⟩ (
   hk (fun cx=>cx.q (ex_fa rfl (cx.rq 1 u_g1) (faFlE25_1_0 _ _))) <|
   hk (fun cx=>cx.q (ex_ld rfl (cx.u 0 rfl) (cx.rn 0 rfl) rfl Tryd.isAgg4)) <|
   hk (fun cx=>cx.q (ex_not (x:=.tmp 4) rfl (cx.u 0 rfl))) <|
   kmu 0 <|
   hn) ?_
  intro a2 w2 f2
  refine wp_ret ?_
  try simp only [Exit.inBlock,Exit.then]
  refine bodyPost_ret (res_t (fn:=Tryd.f139) rfl (f2.v 3 rfl rfl rfl)) f2.d ?_
  have HE:(.bool (!f.c):Value)=.bool (ccF 3 f):=by simp only [ccF_3,Bool.true_and,Bool.and_true,Bool.false_and,Bool.and_false,Bool.or_false,Bool.false_or,Bool.true_or,Bool.or_true,Bool.not_true,Bool.not_false,if_true,if_false,Bool.false_eq_true,Bool.true_eq_false,reduceCtorEq];try rfl
  exact ⟨retV HE,f2.b⟩
set_option maxHeartbeats 4000000 in
theorem clo_4 (f:Fl) (W:World):Calls Tryd.prog 140 #[.agg (fC f)] W fun e w'=>e=.returned (.bool (ccF 4 f)) ∧ Below W.heap.size W w':=by
  refine calls_abs Tryd.func140 rfl (Nat.le_of_ble_eq_true rfl) ?_
  intro a0 d0 z0 h0
  replace z0:a0.tmps.size=5:=z0
  have s0_0:a0.tmps.getD 0 undef=.agg (fC f):=h0 0 (Nat.le_of_ble_eq_true rfl)
  refine wp_seq ?_
  refine go_reg [] [⟨0,1,34,(fC f),none,#[]⟩] [none,oF] mo d0 z0 (Below.refl _ _) (by kernel_rfl) trivial (
   hk (fun cx=>cx.al (wn rfl) 0 rfl (ex_box rfl (cx.rq 0 s0_0) rfl) rfl rfl rfl rfl rfl trivial) <|
   hk (fun cx=>cx.q (ex_as rfl rfl)) <|
   hn) ?_
  intro a1 w1 f1
  obtain ⟨g1,u_g1,q_g1,b_g1⟩:=f1.al.1
  refine wp_seq ?_
  refine go_reg [bx g1 34 (fC f)] [] [some (pt g1 2),some (.bool f.z),some (.bool f.z)] mo f1.d f1.z f1.b (by kernel_rfl) ⟨b_g1,trivial⟩ (
   hk (fun cx=>cx.q (ex_fa rfl (cx.rq 1 u_g1) (faFlE25_2_0 _ _))) <|
   hk (fun cx=>cx.q (ex_ld rfl (cx.u 0 rfl) (cx.rn 0 rfl) rfl Tryd.isAgg4)) <|
   kmu 0 <|
   hn) ?_
  intro a2 w2 f2
  refine wp_ret ?_
  try simp only [Exit.inBlock,Exit.then]
  refine bodyPost_ret (res_t (fn:=Tryd.f140) rfl (f2.v 2 rfl rfl rfl)) f2.d ?_
  have HE:(.bool f.z:Value)=.bool (ccF 4 f):=by simp only [ccF_4,Bool.true_and,Bool.and_true,Bool.false_and,Bool.and_false,Bool.or_false,Bool.false_or,Bool.true_or,Bool.or_true,Bool.not_true,Bool.not_false,if_true,if_false,Bool.false_eq_true,Bool.true_eq_false,reduceCtorEq];try rfl
  exact ⟨retV HE,f2.b⟩
set_option maxHeartbeats 4000000 in
theorem clo_5 (f:Fl) (W:World):Calls Tryd.prog 141 #[.agg (fC f)] W fun e w'=>e=.returned (.bool (ccF 5 f)) ∧ Below W.heap.size W w':=by
  refine calls_abs Tryd.func141 rfl (Nat.le_of_ble_eq_true rfl) ?_
  intro a0 d0 z0 h0
  replace z0:a0.tmps.size=6:=z0
  have s0_0:a0.tmps.getD 0 undef=.agg (fC f):=h0 0 (Nat.le_of_ble_eq_true rfl)
  refine wp_seq ?_
  refine go_reg [] [⟨0,1,34,(fC f),none,#[]⟩] [none,oF] mo d0 z0 (Below.refl _ _) (by kernel_rfl) trivial (
   hk (fun cx=>cx.al (wn rfl) 0 rfl (ex_box rfl (cx.rq 0 s0_0) rfl) rfl rfl rfl rfl rfl trivial) <|
   hk (fun cx=>cx.q (ex_as rfl rfl)) <|
   hn) ?_
  intro a1 w1 f1
  obtain ⟨g1,u_g1,q_g1,b_g1⟩:=f1.al.1
  refine wp_seq ?_
  refine go_reg [bx g1 34 (fC f)] [] [some (pt g1 2),some (.bool f.z),some (.bool (!f.z)),some (.bool (!f.z))] mo f1.d f1.z f1.b (by kernel_rfl) ⟨b_g1,trivial⟩ (
   hk (fun cx=>cx.q (ex_fa rfl (cx.rq 1 u_g1) (faFlE25_2_0 _ _))) <|
   hk (fun cx=>cx.q (ex_ld rfl (cx.u 0 rfl) (cx.rn 0 rfl) rfl Tryd.isAgg4)) <|
   hk (fun cx=>cx.q (ex_not (x:=.tmp 4) rfl (cx.u 0 rfl))) <|
   kmu 0 <|
   hn) ?_
  intro a2 w2 f2
  refine wp_ret ?_
  try simp only [Exit.inBlock,Exit.then]
  refine bodyPost_ret (res_t (fn:=Tryd.f141) rfl (f2.v 3 rfl rfl rfl)) f2.d ?_
  have HE:(.bool (!f.z):Value)=.bool (ccF 5 f):=by simp only [ccF_5,Bool.true_and,Bool.and_true,Bool.false_and,Bool.and_false,Bool.or_false,Bool.false_or,Bool.true_or,Bool.or_true,Bool.not_true,Bool.not_false,if_true,if_false,Bool.false_eq_true,Bool.true_eq_false,reduceCtorEq];try rfl
  exact ⟨retV HE,f2.b⟩
set_option maxHeartbeats 4000000 in
theorem clo_6 (f:Fl) (W:World):Calls Tryd.prog 142 #[.agg (fC f)] W fun e w'=>e=.returned (.bool (ccF 6 f)) ∧ Below W.heap.size W w':=by
  refine calls_abs Tryd.func142 rfl (Nat.le_of_ble_eq_true rfl) ?_
  intro a0 d0 z0 h0
  replace z0:a0.tmps.size=9:=z0
  have s0_0:a0.tmps.getD 0 undef=.agg (fC f):=h0 0 (Nat.le_of_ble_eq_true rfl)
  refine wp_seq ?_
  refine go_reg [] [⟨0,1,34,(fC f),none,#[]⟩] [none,oF] mo d0 z0 (Below.refl _ _) (by kernel_rfl) trivial (
   hk (fun cx=>cx.al (wn rfl) 0 rfl (ex_box rfl (cx.rq 0 s0_0) rfl) rfl rfl rfl rfl rfl trivial) <|
   hk (fun cx=>cx.q (ex_as rfl rfl)) <|
   hn) ?_
  intro a1 w1 f1
  obtain ⟨g1,u_g1,q_g1,b_g1⟩:=f1.al.1
  refine wp_seq ?_
  cases fk1:f.c
  case true=>
   have Ffk1:=Lib.hid fk1;clear fk1
   refine go_reg [bx g1 34 (fC f)] [] [some (pt g1 1),oT,oT,oU,oU,oT,oT] mo f1.d f1.z f1.b (by kernel_rfl) ⟨b_g1,trivial⟩ (
    hk (fun cx=>cx.q (ex_fa rfl (cx.rq 1 u_g1) (faFlE25_1_0 _ _))) <|
    hk (fun cx=>cx.v (ex_ld rfl (cx.u 0 rfl) (cx.rn 0 rfl) rfl Tryd.isAgg4) rfl (congrArg Value.bool Ffk1.out)) <|
    kmu 0 <|
    kno 0 <|
    kno 1 <|
    hk (fun cx=>cx.q (ex_pt rfl (cx.u 0 rfl) rfl)) <|
    kmu 0 <|
    hn) ?_
   intro a2 w2 f2
   refine wp_ret ?_
   try simp only [Exit.inBlock,Exit.then]
   refine bodyPost_ret (res_t (fn:=Tryd.f142) rfl (f2.v 6 rfl rfl rfl)) f2.d ?_
   have HE:(.bool true:Value)=.bool (ccF 6 f):=by simp only [Ffk1.out,ccF_6,Bool.true_and,Bool.and_true,Bool.false_and,Bool.and_false,Bool.or_false,Bool.false_or,Bool.true_or,Bool.or_true,Bool.not_true,Bool.not_false,if_true,if_false,Bool.false_eq_true,Bool.true_eq_false,reduceCtorEq];try rfl
   exact ⟨retV HE,f2.b⟩
  have Ffk1:=Lib.hid fk1;clear fk1
  refine go_reg [bx g1 34 (fC f)] [] [some (pt g1 1),oF,oF,some (pt g1 2),some (.bool f.z),some (.bool f.z),some (.bool f.z)] mo f1.d f1.z f1.b (by kernel_rfl) ⟨b_g1,trivial⟩ (
   hk (fun cx=>cx.q (ex_fa rfl (cx.rq 1 u_g1) (faFlE25_1_0 _ _))) <|
   hk (fun cx=>cx.v (ex_ld rfl (cx.u 0 rfl) (cx.rn 0 rfl) rfl Tryd.isAgg4) rfl (congrArg Value.bool Ffk1.out)) <|
   kmu 0 <|
   hk (fun cx=>cx.vy 0 (ex_fa rfl (cx.rq 1 u_g1) (faFlE25_2_0 _ _))) <|
   hk (fun cx=>cx.vy 1 (ex_ld rfl (cx.u 0 rfl) (cx.rn 0 rfl) rfl Tryd.isAgg4)) <|
   hk (fun cx=>cx.q (ex_pf rfl (cx.u 0 rfl) (cx.u 1 rfl))) <|
   kmu 0 <|
   hn) ?_
  intro a3 w3 f3
  refine wp_ret ?_
  try simp only [Exit.inBlock,Exit.then]
  refine bodyPost_ret (res_t (fn:=Tryd.f142) rfl (f3.v 6 rfl rfl rfl)) f3.d ?_
  have HE:(.bool f.z:Value)=.bool (ccF 6 f):=by simp only [Ffk1.out,ccF_6,Bool.true_and,Bool.and_true,Bool.false_and,Bool.and_false,Bool.or_false,Bool.false_or,Bool.true_or,Bool.or_true,Bool.not_true,Bool.not_false,if_true,if_false,Bool.false_eq_true,Bool.true_eq_false,reduceCtorEq];try rfl
  exact ⟨retV HE,f3.b⟩
set_option maxHeartbeats 4000000 in
theorem clo_7 (f:Fl) (W:World):Calls Tryd.prog 143 #[.agg (fC f)] W fun e w'=>e=.returned (.bool (ccF 7 f)) ∧ Below W.heap.size W w':=by
  refine calls_abs Tryd.func143 rfl (Nat.le_of_ble_eq_true rfl) ?_
  intro a0 d0 z0 h0
  replace z0:a0.tmps.size=11:=z0
  have s0_0:a0.tmps.getD 0 undef=.agg (fC f):=h0 0 (Nat.le_of_ble_eq_true rfl)
  refine wp_seq ?_
  refine go_reg [] [⟨0,1,34,(fC f),none,#[]⟩] [none,oF] mo d0 z0 (Below.refl _ _) (by kernel_rfl) trivial (
   hk (fun cx=>cx.al (wn rfl) 0 rfl (ex_box rfl (cx.rq 0 s0_0) rfl) rfl rfl rfl rfl rfl trivial) <|
   hk (fun cx=>cx.q (ex_as rfl rfl)) <|
   hn) ?_
  intro a1 w1 f1
  obtain ⟨g1,u_g1,q_g1,b_g1⟩:=f1.al.1
  refine wp_seq ?_
  cases fk1:!f.c
  case false=>
   have Ffk1:=Lib.hid fk1;clear fk1
   refine go_reg [bx g1 34 (fC f)] [] [some (pt g1 1),some (.bool f.c),oF,oF,oU,oU,oU,oF,oF] mo f1.d f1.z f1.b (by kernel_rfl) ⟨b_g1,trivial⟩ (
    hk (fun cx=>cx.q (ex_fa rfl (cx.rq 1 u_g1) (faFlE25_1_0 _ _))) <|
    hk (fun cx=>cx.q (ex_ld rfl (cx.u 0 rfl) (cx.rn 0 rfl) rfl Tryd.isAgg4)) <|
    hk (fun cx=>cx.v (ex_not (x:=.tmp 4) rfl (cx.u 0 rfl)) rfl (congrArg Value.bool Ffk1.out)) <|
    kmu 0 <|
    kno 0 <|
    kno 1 <|
    kno 1 <|
    hk (fun cx=>cx.q (ex_pf rfl (cx.u 0 rfl) rfl)) <|
    kmu 0 <|
    hn) ?_
   intro a2 w2 f2
   refine wp_ret ?_
   try simp only [Exit.inBlock,Exit.then]
   refine bodyPost_ret (res_t (fn:=Tryd.f143) rfl (f2.v 8 rfl rfl rfl)) f2.d ?_
   have HE:(.bool false:Value)=.bool (ccF 7 f):=by simp only [bang Ffk1.out,ccF_7,Bool.true_and,Bool.and_true,Bool.false_and,Bool.and_false,Bool.or_false,Bool.false_or,Bool.true_or,Bool.or_true,Bool.not_true,Bool.not_false,if_true,if_false,Bool.false_eq_true,Bool.true_eq_false,reduceCtorEq];try rfl
   exact ⟨retV HE,f2.b⟩
  have Ffk1:=Lib.hid fk1;clear fk1
  refine go_reg [bx g1 34 (fC f)] [] [some (pt g1 1),some (.bool f.c),oT,oT,some (pt g1 2),some (.bool f.z),some (.bool (!f.z)),some (.bool (!f.z)),some (.bool (!f.z))] mo f1.d f1.z f1.b (by kernel_rfl) ⟨b_g1,trivial⟩ (
   hk (fun cx=>cx.q (ex_fa rfl (cx.rq 1 u_g1) (faFlE25_1_0 _ _))) <|
   hk (fun cx=>cx.q (ex_ld rfl (cx.u 0 rfl) (cx.rn 0 rfl) rfl Tryd.isAgg4)) <|
   hk (fun cx=>cx.v (ex_not (x:=.tmp 4) rfl (cx.u 0 rfl)) rfl (congrArg Value.bool Ffk1.out)) <|
   kmu 0 <|
   hk (fun cx=>cx.vy 0 (ex_fa rfl (cx.rq 1 u_g1) (faFlE25_2_0 _ _))) <|
   hk (fun cx=>cx.vy 1 (ex_ld rfl (cx.u 0 rfl) (cx.rn 0 rfl) rfl Tryd.isAgg4)) <|
   hk (fun cx=>cx.vy 1 (ex_not (x:=.tmp 8) rfl (cx.u 0 rfl))) <|
   hk (fun cx=>cx.q (ex_pt rfl (cx.u 0 rfl) (cx.u 1 rfl))) <|
   kmu 0 <|
   hn) ?_
  intro a3 w3 f3
  refine wp_ret ?_
  try simp only [Exit.inBlock,Exit.then]
  refine bodyPost_ret (res_t (fn:=Tryd.f143) rfl (f3.v 8 rfl rfl rfl)) f3.d ?_
  have HE:(.bool (!f.z):Value)=.bool (ccF 7 f):=by simp only [bang Ffk1.out,ccF_7,Bool.true_and,Bool.and_true,Bool.false_and,Bool.and_false,Bool.or_false,Bool.false_or,Bool.true_or,Bool.or_true,Bool.not_true,Bool.not_false,if_true,if_false,Bool.false_eq_true,Bool.true_eq_false,reduceCtorEq];try rfl
  exact ⟨retV HE,f3.b⟩
set_option maxHeartbeats 4000000 in
theorem clo_12 (f:Fl) (W:World):Calls Tryd.prog 144 #[.agg (fC f)] W fun e w'=>e=.returned (.bool (ccF 12 f)) ∧ Below W.heap.size W w':=by
  refine calls_abs Tryd.func144 rfl (Nat.le_of_ble_eq_true rfl) ?_
  intro a0 d0 z0 h0
  replace z0:a0.tmps.size=8:=z0
  have s0_0:a0.tmps.getD 0 undef=.agg (fC f):=h0 0 (Nat.le_of_ble_eq_true rfl)
  refine wp_seq ?_
  refine go_reg [] [⟨0,1,34,(fC f),none,#[]⟩] [none,oF] mo d0 z0 (Below.refl _ _) (by kernel_rfl) trivial (
   hk (fun cx=>cx.al (wn rfl) 0 rfl (ex_box rfl (cx.rq 0 s0_0) rfl) rfl rfl rfl rfl rfl trivial) <|
   hk (fun cx=>cx.q (ex_as rfl rfl)) <|
   hn) ?_
  intro a1 w1 f1
  obtain ⟨g1,u_g1,q_g1,b_g1⟩:=f1.al.1
  refine wp_seq ?_
  refine go_reg [bx g1 34 (fC f)] [] [some (pt g1 3),some (.bool f.s),some (pt g1 4),some (.bool f.o),some (.bool (f.s != f.o)),some (.bool (f.s != f.o))] mo f1.d f1.z f1.b (by kernel_rfl) ⟨b_g1,trivial⟩ (
   hk (fun cx=>cx.q (ex_fa rfl (cx.rq 1 u_g1) (faFlE25_3_0 _ _))) <|
   hk (fun cx=>cx.q (ex_ld rfl (cx.u 0 rfl) (cx.rn 0 rfl) rfl Tryd.isAgg4)) <|
   hk (fun cx=>cx.q (ex_fa rfl (cx.rq 1 u_g1) (faFlE25_4_0 _ _))) <|
   hk (fun cx=>cx.q (ex_ld rfl (cx.u 0 rfl) (cx.rn 0 rfl) rfl Tryd.isAgg4)) <|
   hk (fun cx=>cx.q (ex_bne (x:=.tmp 4) (y:=.tmp 6) rfl (cx.u 0 rfl) (cx.u 1 rfl))) <|
   kmu 0 <|
   hn) ?_
  intro a2 w2 f2
  refine wp_ret ?_
  try simp only [Exit.inBlock,Exit.then]
  refine bodyPost_ret (res_t (fn:=Tryd.f144) rfl (f2.v 5 rfl rfl rfl)) f2.d ?_
  have HE:(.bool (f.s != f.o):Value)=.bool (ccF 12 f):=by simp only [ccF_12,Bool.true_and,Bool.and_true,Bool.false_and,Bool.and_false,Bool.or_false,Bool.false_or,Bool.true_or,Bool.or_true,Bool.not_true,Bool.not_false,if_true,if_false,Bool.false_eq_true,Bool.true_eq_false,reduceCtorEq];try rfl
  exact ⟨retV HE,f2.b⟩
set_option maxHeartbeats 4000000 in
theorem clo_13 (f:Fl) (W:World):Calls Tryd.prog 145 #[.agg (fC f)] W fun e w'=>e=.returned (.bool (ccF 13 f)) ∧ Below W.heap.size W w':=by
  refine calls_abs Tryd.func145 rfl (Nat.le_of_ble_eq_true rfl) ?_
  intro a0 d0 z0 h0
  replace z0:a0.tmps.size=8:=z0
  have s0_0:a0.tmps.getD 0 undef=.agg (fC f):=h0 0 (Nat.le_of_ble_eq_true rfl)
  refine wp_seq ?_
  refine go_reg [] [⟨0,1,34,(fC f),none,#[]⟩] [none,oF] mo d0 z0 (Below.refl _ _) (by kernel_rfl) trivial (
   hk (fun cx=>cx.al (wn rfl) 0 rfl (ex_box rfl (cx.rq 0 s0_0) rfl) rfl rfl rfl rfl rfl trivial) <|
   hk (fun cx=>cx.q (ex_as rfl rfl)) <|
   hn) ?_
  intro a1 w1 f1
  obtain ⟨g1,u_g1,q_g1,b_g1⟩:=f1.al.1
  refine wp_seq ?_
  refine go_reg [bx g1 34 (fC f)] [] [some (pt g1 3),some (.bool f.s),some (pt g1 4),some (.bool f.o),some (.bool (f.s == f.o)),some (.bool (f.s == f.o))] mo f1.d f1.z f1.b (by kernel_rfl) ⟨b_g1,trivial⟩ (
   hk (fun cx=>cx.q (ex_fa rfl (cx.rq 1 u_g1) (faFlE25_3_0 _ _))) <|
   hk (fun cx=>cx.q (ex_ld rfl (cx.u 0 rfl) (cx.rn 0 rfl) rfl Tryd.isAgg4)) <|
   hk (fun cx=>cx.q (ex_fa rfl (cx.rq 1 u_g1) (faFlE25_4_0 _ _))) <|
   hk (fun cx=>cx.q (ex_ld rfl (cx.u 0 rfl) (cx.rn 0 rfl) rfl Tryd.isAgg4)) <|
   hk (fun cx=>cx.q (ex_beq (x:=.tmp 4) (y:=.tmp 6) rfl (cx.u 0 rfl) (cx.u 1 rfl))) <|
   kmu 0 <|
   hn) ?_
  intro a2 w2 f2
  refine wp_ret ?_
  try simp only [Exit.inBlock,Exit.then]
  refine bodyPost_ret (res_t (fn:=Tryd.f145) rfl (f2.v 5 rfl rfl rfl)) f2.d ?_
  have HE:(.bool (f.s == f.o):Value)=.bool (ccF 13 f):=by simp only [ccF_13,Bool.true_and,Bool.and_true,Bool.false_and,Bool.and_false,Bool.or_false,Bool.false_or,Bool.true_or,Bool.or_true,Bool.not_true,Bool.not_false,if_true,if_false,Bool.false_eq_true,Bool.true_eq_false,reduceCtorEq];try rfl
  exact ⟨retV HE,f2.b⟩
set_option maxHeartbeats 4000000 in
theorem clo_14 (f:Fl) (W:World):Calls Tryd.prog 146 #[.agg (fC f)] W fun e w'=>e=.returned (.bool (ccF 14 f)) ∧ Below W.heap.size W w':=by
  refine calls_abs Tryd.func146 rfl (Nat.le_of_ble_eq_true rfl) ?_
  intro a0 d0 z0 h0
  replace z0:a0.tmps.size=12:=z0
  have s0_0:a0.tmps.getD 0 undef=.agg (fC f):=h0 0 (Nat.le_of_ble_eq_true rfl)
  refine wp_seq ?_
  refine go_reg [] [⟨0,1,34,(fC f),none,#[]⟩] [none,oF] mo d0 z0 (Below.refl _ _) (by kernel_rfl) trivial (
   hk (fun cx=>cx.al (wn rfl) 0 rfl (ex_box rfl (cx.rq 0 s0_0) rfl) rfl rfl rfl rfl rfl trivial) <|
   hk (fun cx=>cx.q (ex_as rfl rfl)) <|
   hn) ?_
  intro a1 w1 f1
  obtain ⟨g1,u_g1,q_g1,b_g1⟩:=f1.al.1
  refine wp_seq ?_
  cases fk1:f.z
  case true=>
   have Ffk1:=Lib.hid fk1;clear fk1
   refine go_reg [bx g1 34 (fC f)] [] [some (pt g1 2),oT,oT,oU,oU,oU,oU,oU,oT,oT] mo f1.d f1.z f1.b (by kernel_rfl) ⟨b_g1,trivial⟩ (
    hk (fun cx=>cx.q (ex_fa rfl (cx.rq 1 u_g1) (faFlE25_2_0 _ _))) <|
    hk (fun cx=>cx.v (ex_ld rfl (cx.u 0 rfl) (cx.rn 0 rfl) rfl Tryd.isAgg4) rfl (congrArg Value.bool Ffk1.out)) <|
    kmu 0 <|
    kno 0 <|
    kno 1 <|
    kno 0 <|
    kno 1 <|
    kno 2 <|
    hk (fun cx=>cx.q (ex_pt rfl (cx.u 0 rfl) rfl)) <|
    kmu 0 <|
    hn) ?_
   intro a2 w2 f2
   refine wp_ret ?_
   try simp only [Exit.inBlock,Exit.then]
   refine bodyPost_ret (res_t (fn:=Tryd.f146) rfl (f2.v 9 rfl rfl rfl)) f2.d ?_
   have HE:(.bool true:Value)=.bool (ccF 14 f):=by simp only [Ffk1.out,ccF_14,Bool.true_and,Bool.and_true,Bool.false_and,Bool.and_false,Bool.or_false,Bool.false_or,Bool.true_or,Bool.or_true,Bool.not_true,Bool.not_false,if_true,if_false,Bool.false_eq_true,Bool.true_eq_false,reduceCtorEq];try rfl
   exact ⟨retV HE,f2.b⟩
  have Ffk1:=Lib.hid fk1;clear fk1
  refine go_reg [bx g1 34 (fC f)] [] [some (pt g1 2),oF,oF,some (pt g1 3),some (.bool f.s),some (pt g1 4),some (.bool f.o),some (.bool (f.s != f.o)),some (.bool (f.s != f.o)),some (.bool (f.s != f.o))] mo f1.d f1.z f1.b (by kernel_rfl) ⟨b_g1,trivial⟩ (
   hk (fun cx=>cx.q (ex_fa rfl (cx.rq 1 u_g1) (faFlE25_2_0 _ _))) <|
   hk (fun cx=>cx.v (ex_ld rfl (cx.u 0 rfl) (cx.rn 0 rfl) rfl Tryd.isAgg4) rfl (congrArg Value.bool Ffk1.out)) <|
   kmu 0 <|
   hk (fun cx=>cx.vy 0 (ex_fa rfl (cx.rq 1 u_g1) (faFlE25_3_0 _ _))) <|
   hk (fun cx=>cx.vy 1 (ex_ld rfl (cx.u 0 rfl) (cx.rn 0 rfl) rfl Tryd.isAgg4)) <|
   hk (fun cx=>cx.vy 0 (ex_fa rfl (cx.rq 1 u_g1) (faFlE25_4_0 _ _))) <|
   hk (fun cx=>cx.vy 1 (ex_ld rfl (cx.u 0 rfl) (cx.rn 0 rfl) rfl Tryd.isAgg4)) <|
   hk (fun cx=>cx.vy 2 (ex_bne (x:=.tmp 7) (y:=.tmp 9) rfl (cx.u 0 rfl) (cx.u 1 rfl))) <|
   hk (fun cx=>cx.q (ex_pf rfl (cx.u 0 rfl) (cx.u 1 rfl))) <|
   kmu 0 <|
   hn) ?_
  intro a3 w3 f3
  refine wp_ret ?_
  try simp only [Exit.inBlock,Exit.then]
  refine bodyPost_ret (res_t (fn:=Tryd.f146) rfl (f3.v 9 rfl rfl rfl)) f3.d ?_
  have HE:(.bool (f.s != f.o):Value)=.bool (ccF 14 f):=by simp only [Ffk1.out,ccF_14,Bool.true_and,Bool.and_true,Bool.false_and,Bool.and_false,Bool.or_false,Bool.false_or,Bool.true_or,Bool.or_true,Bool.not_true,Bool.not_false,if_true,if_false,Bool.false_eq_true,Bool.true_eq_false,reduceCtorEq];try rfl
  exact ⟨retV HE,f3.b⟩
set_option maxHeartbeats 4000000 in
theorem clo_15 (f:Fl) (W:World):Calls Tryd.prog 147 #[.agg (fC f)] W fun e w'=>e=.returned (.bool (ccF 15 f)) ∧ Below W.heap.size W w':=by
  refine calls_abs Tryd.func147 rfl (Nat.le_of_ble_eq_true rfl) ?_
  intro a0 d0 z0 h0
  replace z0:a0.tmps.size=13:=z0
  have s0_0:a0.tmps.getD 0 undef=.agg (fC f):=h0 0 (Nat.le_of_ble_eq_true rfl)
  refine wp_seq ?_
  refine go_reg [] [⟨0,1,34,(fC f),none,#[]⟩] [none,oF] mo d0 z0 (Below.refl _ _) (by kernel_rfl) trivial (
   hk (fun cx=>cx.al (wn rfl) 0 rfl (ex_box rfl (cx.rq 0 s0_0) rfl) rfl rfl rfl rfl rfl trivial) <|
   hk (fun cx=>cx.q (ex_as rfl rfl)) <|
   hn) ?_
  intro a1 w1 f1
  obtain ⟨g1,u_g1,q_g1,b_g1⟩:=f1.al.1
  refine wp_seq ?_
  cases fk1:!f.z
  case false=>
   have Ffk1:=Lib.hid fk1;clear fk1
   refine go_reg [bx g1 34 (fC f)] [] [some (pt g1 2),some (.bool f.z),oF,oF,oU,oU,oU,oU,oU,oF,oF] mo f1.d f1.z f1.b (by kernel_rfl) ⟨b_g1,trivial⟩ (
    hk (fun cx=>cx.q (ex_fa rfl (cx.rq 1 u_g1) (faFlE25_2_0 _ _))) <|
    hk (fun cx=>cx.q (ex_ld rfl (cx.u 0 rfl) (cx.rn 0 rfl) rfl Tryd.isAgg4)) <|
    hk (fun cx=>cx.v (ex_not (x:=.tmp 4) rfl (cx.u 0 rfl)) rfl (congrArg Value.bool Ffk1.out)) <|
    kmu 0 <|
    kno 0 <|
    kno 1 <|
    kno 0 <|
    kno 1 <|
    kno 2 <|
    hk (fun cx=>cx.q (ex_pf rfl (cx.u 0 rfl) rfl)) <|
    kmu 0 <|
    hn) ?_
   intro a2 w2 f2
   refine wp_ret ?_
   try simp only [Exit.inBlock,Exit.then]
   refine bodyPost_ret (res_t (fn:=Tryd.f147) rfl (f2.v 10 rfl rfl rfl)) f2.d ?_
   have HE:(.bool false:Value)=.bool (ccF 15 f):=by simp only [bang Ffk1.out,ccF_15,Bool.true_and,Bool.and_true,Bool.false_and,Bool.and_false,Bool.or_false,Bool.false_or,Bool.true_or,Bool.or_true,Bool.not_true,Bool.not_false,if_true,if_false,Bool.false_eq_true,Bool.true_eq_false,reduceCtorEq];try rfl
   exact ⟨retV HE,f2.b⟩
  have Ffk1:=Lib.hid fk1;clear fk1
  refine go_reg [bx g1 34 (fC f)] [] [some (pt g1 2),some (.bool f.z),oT,oT,some (pt g1 3),some (.bool f.s),some (pt g1 4),some (.bool f.o),some (.bool (f.s == f.o)),some (.bool (f.s == f.o)),some (.bool (f.s == f.o))] mo f1.d f1.z f1.b (by kernel_rfl) ⟨b_g1,trivial⟩ (
   hk (fun cx=>cx.q (ex_fa rfl (cx.rq 1 u_g1) (faFlE25_2_0 _ _))) <|
   hk (fun cx=>cx.q (ex_ld rfl (cx.u 0 rfl) (cx.rn 0 rfl) rfl Tryd.isAgg4)) <|
   hk (fun cx=>cx.v (ex_not (x:=.tmp 4) rfl (cx.u 0 rfl)) rfl (congrArg Value.bool Ffk1.out)) <|
   kmu 0 <|
   hk (fun cx=>cx.vy 0 (ex_fa rfl (cx.rq 1 u_g1) (faFlE25_3_0 _ _))) <|
   hk (fun cx=>cx.vy 1 (ex_ld rfl (cx.u 0 rfl) (cx.rn 0 rfl) rfl Tryd.isAgg4)) <|
   hk (fun cx=>cx.vy 0 (ex_fa rfl (cx.rq 1 u_g1) (faFlE25_4_0 _ _))) <|
   hk (fun cx=>cx.vy 1 (ex_ld rfl (cx.u 0 rfl) (cx.rn 0 rfl) rfl Tryd.isAgg4)) <|
   hk (fun cx=>cx.vy 2 (ex_beq (x:=.tmp 8) (y:=.tmp 10) rfl (cx.u 0 rfl) (cx.u 1 rfl))) <|
   hk (fun cx=>cx.q (ex_pt rfl (cx.u 0 rfl) (cx.u 1 rfl))) <|
   kmu 0 <|
   hn) ?_
  intro a3 w3 f3
  refine wp_ret ?_
  try simp only [Exit.inBlock,Exit.then]
  refine bodyPost_ret (res_t (fn:=Tryd.f147) rfl (f3.v 10 rfl rfl rfl)) f3.d ?_
  have HE:(.bool (f.s == f.o):Value)=.bool (ccF 15 f):=by simp only [bang Ffk1.out,ccF_15,Bool.true_and,Bool.and_true,Bool.false_and,Bool.and_false,Bool.or_false,Bool.false_or,Bool.true_or,Bool.or_true,Bool.not_true,Bool.not_false,if_true,if_false,Bool.false_eq_true,Bool.true_eq_false,reduceCtorEq];try rfl
  exact ⟨retV HE,f3.b⟩
set_option maxHeartbeats 4000000 in
theorem hol_2 (f:Fl) (W:World):Calls Tryd.prog 122 #[.int .i8 2,.agg (fC f)] W fun e w'=>e=.returned (.tuple #[.bool (holF 2 f),.int .i64 (holE 2 f)]) ∧ Below W.heap.size W w':=by
  refine calls_abs Tryd.func122 rfl (Nat.le_of_ble_eq_true rfl) ?_
  intro a0 d0 z0 h0
  replace z0:a0.tmps.size=25:=z0
  have s0_0:a0.tmps.getD 0 undef=.int .i8 2:=h0 0 (Nat.le_of_ble_eq_true rfl)
  have s1_0:a0.tmps.getD 1 undef=.agg (fC f):=h0 1 (Nat.le_of_ble_eq_true rfl)
  refine wp_seq ?_
  refine go_reg [] [⟨0,3,34,(fC f),none,#[]⟩] [none,oF,some (.int .i64 0)] mo d0 z0 (Below.refl _ _) (by kernel_rfl) trivial (
   hk (fun cx=>cx.al (wn rfl) 0 rfl (ex_box rfl (cx.rq 1 s1_0) rfl) rfl rfl rfl rfl rfl trivial) <|
   hk (fun cx=>cx.q (ex_as rfl rfl)) <|
   hk (fun cx=>cx.q (ex_as rfl rfl)) <|
   hn) ?_
  intro a1 w1 f1
  obtain ⟨g1,u_g1,q_g1,b_g1⟩:=f1.al.1
  refine wp_seq ?_
  have s0_1:=f1.q 0 s0_0
  refine go_reg [] [] [some (.int .i8 2),some (.func (.func 138) #[] #[]),some (.func (.func 138) #[] #[])] mo f1.d f1.z f1.b (by kernel_rfl) trivial (
   hk (fun cx=>cx.q (ex_mv rfl (cx.rq 0 s0_1))) <|
   hc (fun _ _ wx cx=>cx.c rfl (args1 (cx.u 0 rfl)) Tryd.func134 (by decide +kernel) (cond_2 wx) rfl rfl) <|
   kmu 0 <|
   hn) ?_
  intro a2 w2 f2
  refine wp_seq ?_
  refine wp_seq ?_
  refine go_reg [] [] [some (.func (.func 138) #[] #[]),oF] mo f2.d f2.z f2.b (by kernel_rfl) trivial (
   hk (fun cx=>cx.q (ex_mv rfl (cx.rq 6 (f2.v 2 rfl rfl rfl)))) <|
   hk (fun cx=>cx.q (ex_fn (x:=.tmp 9) rfl (cx.u 0 rfl) rfl)) <|
   hn) ?_
  intro a3 w3 f3
  refine wp_cond_false (f3.v 1 rfl rfl rfl) ?_
  refine wp_skip ?_
  refine wp_seq ?_
  refine wp_seq ?_
  cases fk1:!(eqF f ⟨true,f.c,f.z,f.s,f.o⟩)
  case false=>
   have Ffk1:=Lib.hid fk1;clear fk1
   have b_g1_2:=f3.k (f2.k b_g1)
   have s3_3:=f3.q 3 (f2.q 3 u_g1)
   refine go_reg [bx g1 34 (fC f)] [] [some (.agg (fC f)),some (pt g1 1),some (.bool f.c),some (pt g1 2),some (.bool f.z),some (pt g1 3),some (.bool f.s),some (pt g1 4),some (.bool f.o),some (.agg (fC ⟨true,f.c,f.z,f.s,f.o⟩)),oF] mo f3.d f3.z f3.b (by kernel_rfl) ⟨b_g1_2,trivial⟩ (
    hk (fun cx=>cx.q (ldF rfl (cx.rq 3 s3_3) (cx.rn 0 rfl))) <|
    hk (fun cx=>cx.q (ex_fa rfl (cx.rq 3 s3_3) (faFlE25_1_0 _ _))) <|
    hk (fun cx=>cx.q (ex_ld rfl (cx.u 0 rfl) (cx.rn 0 rfl) rfl Tryd.isAgg4)) <|
    hk (fun cx=>cx.q (ex_fa rfl (cx.rq 3 s3_3) (faFlE25_2_0 _ _))) <|
    hk (fun cx=>cx.q (ex_ld rfl (cx.u 0 rfl) (cx.rn 0 rfl) rfl Tryd.isAgg4)) <|
    hk (fun cx=>cx.q (ex_fa rfl (cx.rq 3 s3_3) (faFlE25_3_0 _ _))) <|
    hk (fun cx=>cx.q (ex_ld rfl (cx.u 0 rfl) (cx.rn 0 rfl) rfl Tryd.isAgg4)) <|
    hk (fun cx=>cx.q (ex_fa rfl (cx.rq 3 s3_3) (faFlE25_4_0 _ _))) <|
    hk (fun cx=>cx.q (ex_ld rfl (cx.u 0 rfl) (cx.rn 0 rfl) rfl Tryd.isAgg4)) <|
    hc (fun _ _ wx cx=>cx.c rfl (args4 (cx.u 0 rfl) (cx.u 1 rfl) (cx.u 2 rfl) (cx.u 3 rfl)) Tryd.func135 (by decide +kernel) (known_n f.c f.z f.s f.o wx) rfl rfl) <|
    hk (fun cx=>cx.v (v:=.bool (!(eqF f ⟨true,f.c,f.z,f.s,f.o⟩))) (exec_neq (x:=.tmp 11) (y:=.tmp 20) rfl (cx.u 0 rfl) (cx.u 1 rfl) (by kernel_rfl) (eq_f f ⟨true,f.c,f.z,f.s,f.o⟩ _)) rfl (congrArg Value.bool Ffk1.out)) <|
    hn) ?_
   intro a4 w4 f4
   refine wp_cond_false (f4.v 10 rfl rfl rfl) ?_
   refine wp_skip ?_
   refine wp_seq ?_
   have b_g1_4:=f4.k b_g1_2
   have s6_5:=f4.q 6 (f3.q 6 (f2.v 2 rfl rfl rfl))
   have s3_6:=f4.q 3 s3_3
   refine go_reg [bx g1 34 (fC f)] [] [some (.func (.func 138) #[] #[]),some (.agg (fC f)),some (.bool (ccF 2 f)),some (.bool (ccF 2 f)),some (.int .i64 0)] mo f4.d f4.z f4.b (by kernel_rfl) ⟨b_g1_4,trivial⟩ (
    hk (fun cx=>cx.q (ex_mv rfl (cx.rq 6 s6_5))) <|
    hk (fun cx=>cx.q (ldF rfl (cx.rq 3 s3_6) (cx.rn 0 rfl))) <|
    hc (fun _ _ wx cx=>cx.callv (wn rfl) rfl rfl (cx.u 0 rfl) (args1 (cx.u 1 rfl)) Tryd.func138 (by decide +kernel) (clo_2 f wx) rfl rfl rfl rfl) <|
    kmu 0 <|
    hk (fun cx=>cx.q (ex_as rfl rfl)) <|
    hn) ?_
   intro a5 w5 f5
   refine wp_ret ?_
   try simp only [Exit.inBlock,Exit.then]
   refine bodyPost_ret (res_tt (fn:=Tryd.f122) rfl (f5.v 3 rfl rfl rfl) (f5.v 4 rfl rfl rfl)) f5.d ?_
   have HE:(.tuple #[.bool (ccF 2 f),.int .i64 0]:Value)=.tuple #[.bool (holF 2 f),.int .i64 (holE 2 f)]:=by simp only [kn_of Ffk1.out,holF_2,holE_2,Bool.true_and,Bool.and_true,Bool.false_and,Bool.and_false,Bool.or_false,Bool.false_or,Bool.true_or,Bool.or_true,Bool.not_true,Bool.not_false,if_true,if_false,Bool.false_eq_true,Bool.true_eq_false,reduceCtorEq];try rfl
   exact ⟨retV HE,f5.b⟩
  have Ffk1:=Lib.hid fk1;clear fk1
  have b_g1_7:=f3.k (f2.k b_g1)
  have s3_8:=f3.q 3 (f2.q 3 u_g1)
  refine go_reg [bx g1 34 (fC f)] [] [some (.agg (fC f)),some (pt g1 1),some (.bool f.c),some (pt g1 2),some (.bool f.z),some (pt g1 3),some (.bool f.s),some (pt g1 4),some (.bool f.o),some (.agg (fC ⟨true,f.c,f.z,f.s,f.o⟩)),oT] mo f3.d f3.z f3.b (by kernel_rfl) ⟨b_g1_7,trivial⟩ (
   hk (fun cx=>cx.q (ldF rfl (cx.rq 3 s3_8) (cx.rn 0 rfl))) <|
   hk (fun cx=>cx.q (ex_fa rfl (cx.rq 3 s3_8) (faFlE25_1_0 _ _))) <|
   hk (fun cx=>cx.q (ex_ld rfl (cx.u 0 rfl) (cx.rn 0 rfl) rfl Tryd.isAgg4)) <|
   hk (fun cx=>cx.q (ex_fa rfl (cx.rq 3 s3_8) (faFlE25_2_0 _ _))) <|
   hk (fun cx=>cx.q (ex_ld rfl (cx.u 0 rfl) (cx.rn 0 rfl) rfl Tryd.isAgg4)) <|
   hk (fun cx=>cx.q (ex_fa rfl (cx.rq 3 s3_8) (faFlE25_3_0 _ _))) <|
   hk (fun cx=>cx.q (ex_ld rfl (cx.u 0 rfl) (cx.rn 0 rfl) rfl Tryd.isAgg4)) <|
   hk (fun cx=>cx.q (ex_fa rfl (cx.rq 3 s3_8) (faFlE25_4_0 _ _))) <|
   hk (fun cx=>cx.q (ex_ld rfl (cx.u 0 rfl) (cx.rn 0 rfl) rfl Tryd.isAgg4)) <|
   hc (fun _ _ wx cx=>cx.c rfl (args4 (cx.u 0 rfl) (cx.u 1 rfl) (cx.u 2 rfl) (cx.u 3 rfl)) Tryd.func135 (by decide +kernel) (known_n f.c f.z f.s f.o wx) rfl rfl) <|
   hk (fun cx=>cx.v (v:=.bool (!(eqF f ⟨true,f.c,f.z,f.s,f.o⟩))) (exec_neq (x:=.tmp 11) (y:=.tmp 20) rfl (cx.u 0 rfl) (cx.u 1 rfl) (by kernel_rfl) (eq_f f ⟨true,f.c,f.z,f.s,f.o⟩ _)) rfl (congrArg Value.bool Ffk1.out)) <|
   hn) ?_
  intro a6 w6 f6
  refine wp_cond_true (f6.v 10 rfl rfl rfl) ?_
  refine wp_seq ?_
  refine go_reg [] [] [oF,some (.int .i64 20)] mo f6.d f6.z f6.b (by kernel_rfl) trivial (
   hk (fun cx=>cx.q (ex_as rfl rfl)) <|
   hk (fun cx=>cx.q (ex_as rfl rfl)) <|
   hn) ?_
  intro a7 w7 f7
  refine wp_ret ?_
  try simp only [Exit.inBlock,Exit.then]
  refine bodyPost_ret (res_tt (fn:=Tryd.f122) rfl (f7.v 0 rfl rfl rfl) (f7.v 1 rfl rfl rfl)) f7.d ?_
  have HE:(.tuple #[.bool false,.int .i64 20]:Value)=.tuple #[.bool (holF 2 f),.int .i64 (holE 2 f)]:=by simp only [kn_of Ffk1.out,holF_2,holE_2,Bool.true_and,Bool.and_true,Bool.false_and,Bool.and_false,Bool.or_false,Bool.false_or,Bool.true_or,Bool.or_true,Bool.not_true,Bool.not_false,if_true,if_false,Bool.false_eq_true,Bool.true_eq_false,reduceCtorEq];try rfl
  exact ⟨retV HE,f7.b⟩
set_option maxHeartbeats 4000000 in
theorem hol_3 (f:Fl) (W:World):Calls Tryd.prog 122 #[.int .i8 3,.agg (fC f)] W fun e w'=>e=.returned (.tuple #[.bool (holF 3 f),.int .i64 (holE 3 f)]) ∧ Below W.heap.size W w':=by
  refine calls_abs Tryd.func122 rfl (Nat.le_of_ble_eq_true rfl) ?_
  intro a0 d0 z0 h0
  replace z0:a0.tmps.size=25:=z0
  have s0_0:a0.tmps.getD 0 undef=.int .i8 3:=h0 0 (Nat.le_of_ble_eq_true rfl)
  have s1_0:a0.tmps.getD 1 undef=.agg (fC f):=h0 1 (Nat.le_of_ble_eq_true rfl)
  refine wp_seq ?_
  refine go_reg [] [⟨0,3,34,(fC f),none,#[]⟩] [none,oF,some (.int .i64 0)] mo d0 z0 (Below.refl _ _) (by kernel_rfl) trivial (
   hk (fun cx=>cx.al (wn rfl) 0 rfl (ex_box rfl (cx.rq 1 s1_0) rfl) rfl rfl rfl rfl rfl trivial) <|
   hk (fun cx=>cx.q (ex_as rfl rfl)) <|
   hk (fun cx=>cx.q (ex_as rfl rfl)) <|
   hn) ?_
  intro a1 w1 f1
  obtain ⟨g1,u_g1,q_g1,b_g1⟩:=f1.al.1
  refine wp_seq ?_
  have s0_1:=f1.q 0 s0_0
  refine go_reg [] [] [some (.int .i8 3),some (.func (.func 139) #[] #[]),some (.func (.func 139) #[] #[])] mo f1.d f1.z f1.b (by kernel_rfl) trivial (
   hk (fun cx=>cx.q (ex_mv rfl (cx.rq 0 s0_1))) <|
   hc (fun _ _ wx cx=>cx.c rfl (args1 (cx.u 0 rfl)) Tryd.func134 (by decide +kernel) (cond_3 wx) rfl rfl) <|
   kmu 0 <|
   hn) ?_
  intro a2 w2 f2
  refine wp_seq ?_
  refine wp_seq ?_
  refine go_reg [] [] [some (.func (.func 139) #[] #[]),oF] mo f2.d f2.z f2.b (by kernel_rfl) trivial (
   hk (fun cx=>cx.q (ex_mv rfl (cx.rq 6 (f2.v 2 rfl rfl rfl)))) <|
   hk (fun cx=>cx.q (ex_fn (x:=.tmp 9) rfl (cx.u 0 rfl) rfl)) <|
   hn) ?_
  intro a3 w3 f3
  refine wp_cond_false (f3.v 1 rfl rfl rfl) ?_
  refine wp_skip ?_
  refine wp_seq ?_
  refine wp_seq ?_
  cases fk1:!(eqF f ⟨true,f.c,f.z,f.s,f.o⟩)
  case false=>
   have Ffk1:=Lib.hid fk1;clear fk1
   have b_g1_2:=f3.k (f2.k b_g1)
   have s3_3:=f3.q 3 (f2.q 3 u_g1)
   refine go_reg [bx g1 34 (fC f)] [] [some (.agg (fC f)),some (pt g1 1),some (.bool f.c),some (pt g1 2),some (.bool f.z),some (pt g1 3),some (.bool f.s),some (pt g1 4),some (.bool f.o),some (.agg (fC ⟨true,f.c,f.z,f.s,f.o⟩)),oF] mo f3.d f3.z f3.b (by kernel_rfl) ⟨b_g1_2,trivial⟩ (
    hk (fun cx=>cx.q (ldF rfl (cx.rq 3 s3_3) (cx.rn 0 rfl))) <|
    hk (fun cx=>cx.q (ex_fa rfl (cx.rq 3 s3_3) (faFlE25_1_0 _ _))) <|
    hk (fun cx=>cx.q (ex_ld rfl (cx.u 0 rfl) (cx.rn 0 rfl) rfl Tryd.isAgg4)) <|
    hk (fun cx=>cx.q (ex_fa rfl (cx.rq 3 s3_3) (faFlE25_2_0 _ _))) <|
    hk (fun cx=>cx.q (ex_ld rfl (cx.u 0 rfl) (cx.rn 0 rfl) rfl Tryd.isAgg4)) <|
    hk (fun cx=>cx.q (ex_fa rfl (cx.rq 3 s3_3) (faFlE25_3_0 _ _))) <|
    hk (fun cx=>cx.q (ex_ld rfl (cx.u 0 rfl) (cx.rn 0 rfl) rfl Tryd.isAgg4)) <|
    hk (fun cx=>cx.q (ex_fa rfl (cx.rq 3 s3_3) (faFlE25_4_0 _ _))) <|
    hk (fun cx=>cx.q (ex_ld rfl (cx.u 0 rfl) (cx.rn 0 rfl) rfl Tryd.isAgg4)) <|
    hc (fun _ _ wx cx=>cx.c rfl (args4 (cx.u 0 rfl) (cx.u 1 rfl) (cx.u 2 rfl) (cx.u 3 rfl)) Tryd.func135 (by decide +kernel) (known_n f.c f.z f.s f.o wx) rfl rfl) <|
    hk (fun cx=>cx.v (v:=.bool (!(eqF f ⟨true,f.c,f.z,f.s,f.o⟩))) (exec_neq (x:=.tmp 11) (y:=.tmp 20) rfl (cx.u 0 rfl) (cx.u 1 rfl) (by kernel_rfl) (eq_f f ⟨true,f.c,f.z,f.s,f.o⟩ _)) rfl (congrArg Value.bool Ffk1.out)) <|
    hn) ?_
   intro a4 w4 f4
   refine wp_cond_false (f4.v 10 rfl rfl rfl) ?_
   refine wp_skip ?_
   refine wp_seq ?_
   have b_g1_4:=f4.k b_g1_2
   have s6_5:=f4.q 6 (f3.q 6 (f2.v 2 rfl rfl rfl))
   have s3_6:=f4.q 3 s3_3
   refine go_reg [bx g1 34 (fC f)] [] [some (.func (.func 139) #[] #[]),some (.agg (fC f)),some (.bool (ccF 3 f)),some (.bool (ccF 3 f)),some (.int .i64 0)] mo f4.d f4.z f4.b (by kernel_rfl) ⟨b_g1_4,trivial⟩ (
    hk (fun cx=>cx.q (ex_mv rfl (cx.rq 6 s6_5))) <|
    hk (fun cx=>cx.q (ldF rfl (cx.rq 3 s3_6) (cx.rn 0 rfl))) <|
    hc (fun _ _ wx cx=>cx.callv (wn rfl) rfl rfl (cx.u 0 rfl) (args1 (cx.u 1 rfl)) Tryd.func139 (by decide +kernel) (clo_3 f wx) rfl rfl rfl rfl) <|
    kmu 0 <|
    hk (fun cx=>cx.q (ex_as rfl rfl)) <|
    hn) ?_
   intro a5 w5 f5
   refine wp_ret ?_
   try simp only [Exit.inBlock,Exit.then]
   refine bodyPost_ret (res_tt (fn:=Tryd.f122) rfl (f5.v 3 rfl rfl rfl) (f5.v 4 rfl rfl rfl)) f5.d ?_
   have HE:(.tuple #[.bool (ccF 3 f),.int .i64 0]:Value)=.tuple #[.bool (holF 3 f),.int .i64 (holE 3 f)]:=by simp only [kn_of Ffk1.out,holF_3,holE_3,Bool.true_and,Bool.and_true,Bool.false_and,Bool.and_false,Bool.or_false,Bool.false_or,Bool.true_or,Bool.or_true,Bool.not_true,Bool.not_false,if_true,if_false,Bool.false_eq_true,Bool.true_eq_false,reduceCtorEq];try rfl
   exact ⟨retV HE,f5.b⟩
  have Ffk1:=Lib.hid fk1;clear fk1
  have b_g1_7:=f3.k (f2.k b_g1)
  have s3_8:=f3.q 3 (f2.q 3 u_g1)
  refine go_reg [bx g1 34 (fC f)] [] [some (.agg (fC f)),some (pt g1 1),some (.bool f.c),some (pt g1 2),some (.bool f.z),some (pt g1 3),some (.bool f.s),some (pt g1 4),some (.bool f.o),some (.agg (fC ⟨true,f.c,f.z,f.s,f.o⟩)),oT] mo f3.d f3.z f3.b (by kernel_rfl) ⟨b_g1_7,trivial⟩ (
   hk (fun cx=>cx.q (ldF rfl (cx.rq 3 s3_8) (cx.rn 0 rfl))) <|
   hk (fun cx=>cx.q (ex_fa rfl (cx.rq 3 s3_8) (faFlE25_1_0 _ _))) <|
   hk (fun cx=>cx.q (ex_ld rfl (cx.u 0 rfl) (cx.rn 0 rfl) rfl Tryd.isAgg4)) <|
   hk (fun cx=>cx.q (ex_fa rfl (cx.rq 3 s3_8) (faFlE25_2_0 _ _))) <|
   hk (fun cx=>cx.q (ex_ld rfl (cx.u 0 rfl) (cx.rn 0 rfl) rfl Tryd.isAgg4)) <|
   hk (fun cx=>cx.q (ex_fa rfl (cx.rq 3 s3_8) (faFlE25_3_0 _ _))) <|
   hk (fun cx=>cx.q (ex_ld rfl (cx.u 0 rfl) (cx.rn 0 rfl) rfl Tryd.isAgg4)) <|
   hk (fun cx=>cx.q (ex_fa rfl (cx.rq 3 s3_8) (faFlE25_4_0 _ _))) <|
   hk (fun cx=>cx.q (ex_ld rfl (cx.u 0 rfl) (cx.rn 0 rfl) rfl Tryd.isAgg4)) <|
   hc (fun _ _ wx cx=>cx.c rfl (args4 (cx.u 0 rfl) (cx.u 1 rfl) (cx.u 2 rfl) (cx.u 3 rfl)) Tryd.func135 (by decide +kernel) (known_n f.c f.z f.s f.o wx) rfl rfl) <|
   hk (fun cx=>cx.v (v:=.bool (!(eqF f ⟨true,f.c,f.z,f.s,f.o⟩))) (exec_neq (x:=.tmp 11) (y:=.tmp 20) rfl (cx.u 0 rfl) (cx.u 1 rfl) (by kernel_rfl) (eq_f f ⟨true,f.c,f.z,f.s,f.o⟩ _)) rfl (congrArg Value.bool Ffk1.out)) <|
   hn) ?_
  intro a6 w6 f6
  refine wp_cond_true (f6.v 10 rfl rfl rfl) ?_
  refine wp_seq ?_
  refine go_reg [] [] [oF,some (.int .i64 20)] mo f6.d f6.z f6.b (by kernel_rfl) trivial (
   hk (fun cx=>cx.q (ex_as rfl rfl)) <|
   hk (fun cx=>cx.q (ex_as rfl rfl)) <|
   hn) ?_
  intro a7 w7 f7
  refine wp_ret ?_
  try simp only [Exit.inBlock,Exit.then]
  refine bodyPost_ret (res_tt (fn:=Tryd.f122) rfl (f7.v 0 rfl rfl rfl) (f7.v 1 rfl rfl rfl)) f7.d ?_
  have HE:(.tuple #[.bool false,.int .i64 20]:Value)=.tuple #[.bool (holF 3 f),.int .i64 (holE 3 f)]:=by simp only [kn_of Ffk1.out,holF_3,holE_3,Bool.true_and,Bool.and_true,Bool.false_and,Bool.and_false,Bool.or_false,Bool.false_or,Bool.true_or,Bool.or_true,Bool.not_true,Bool.not_false,if_true,if_false,Bool.false_eq_true,Bool.true_eq_false,reduceCtorEq];try rfl
  exact ⟨retV HE,f7.b⟩
set_option maxHeartbeats 4000000 in
theorem hol_4 (f:Fl) (W:World):Calls Tryd.prog 122 #[.int .i8 4,.agg (fC f)] W fun e w'=>e=.returned (.tuple #[.bool (holF 4 f),.int .i64 (holE 4 f)]) ∧ Below W.heap.size W w':=by
  refine calls_abs Tryd.func122 rfl (Nat.le_of_ble_eq_true rfl) ?_
  intro a0 d0 z0 h0
  replace z0:a0.tmps.size=25:=z0
  have s0_0:a0.tmps.getD 0 undef=.int .i8 4:=h0 0 (Nat.le_of_ble_eq_true rfl)
  have s1_0:a0.tmps.getD 1 undef=.agg (fC f):=h0 1 (Nat.le_of_ble_eq_true rfl)
  refine wp_seq ?_
  refine go_reg [] [⟨0,3,34,(fC f),none,#[]⟩] [none,oF,some (.int .i64 0)] mo d0 z0 (Below.refl _ _) (by kernel_rfl) trivial (
   hk (fun cx=>cx.al (wn rfl) 0 rfl (ex_box rfl (cx.rq 1 s1_0) rfl) rfl rfl rfl rfl rfl trivial) <|
   hk (fun cx=>cx.q (ex_as rfl rfl)) <|
   hk (fun cx=>cx.q (ex_as rfl rfl)) <|
   hn) ?_
  intro a1 w1 f1
  obtain ⟨g1,u_g1,q_g1,b_g1⟩:=f1.al.1
  refine wp_seq ?_
  have s0_1:=f1.q 0 s0_0
  refine go_reg [] [] [some (.int .i8 4),some (.func (.func 140) #[] #[]),some (.func (.func 140) #[] #[])] mo f1.d f1.z f1.b (by kernel_rfl) trivial (
   hk (fun cx=>cx.q (ex_mv rfl (cx.rq 0 s0_1))) <|
   hc (fun _ _ wx cx=>cx.c rfl (args1 (cx.u 0 rfl)) Tryd.func134 (by decide +kernel) (cond_4 wx) rfl rfl) <|
   kmu 0 <|
   hn) ?_
  intro a2 w2 f2
  refine wp_seq ?_
  refine wp_seq ?_
  refine go_reg [] [] [some (.func (.func 140) #[] #[]),oF] mo f2.d f2.z f2.b (by kernel_rfl) trivial (
   hk (fun cx=>cx.q (ex_mv rfl (cx.rq 6 (f2.v 2 rfl rfl rfl)))) <|
   hk (fun cx=>cx.q (ex_fn (x:=.tmp 9) rfl (cx.u 0 rfl) rfl)) <|
   hn) ?_
  intro a3 w3 f3
  refine wp_cond_false (f3.v 1 rfl rfl rfl) ?_
  refine wp_skip ?_
  refine wp_seq ?_
  refine wp_seq ?_
  cases fk1:!(eqF f ⟨true,f.c,f.z,f.s,f.o⟩)
  case false=>
   have Ffk1:=Lib.hid fk1;clear fk1
   have b_g1_2:=f3.k (f2.k b_g1)
   have s3_3:=f3.q 3 (f2.q 3 u_g1)
   refine go_reg [bx g1 34 (fC f)] [] [some (.agg (fC f)),some (pt g1 1),some (.bool f.c),some (pt g1 2),some (.bool f.z),some (pt g1 3),some (.bool f.s),some (pt g1 4),some (.bool f.o),some (.agg (fC ⟨true,f.c,f.z,f.s,f.o⟩)),oF] mo f3.d f3.z f3.b (by kernel_rfl) ⟨b_g1_2,trivial⟩ (
    hk (fun cx=>cx.q (ldF rfl (cx.rq 3 s3_3) (cx.rn 0 rfl))) <|
    hk (fun cx=>cx.q (ex_fa rfl (cx.rq 3 s3_3) (faFlE25_1_0 _ _))) <|
    hk (fun cx=>cx.q (ex_ld rfl (cx.u 0 rfl) (cx.rn 0 rfl) rfl Tryd.isAgg4)) <|
    hk (fun cx=>cx.q (ex_fa rfl (cx.rq 3 s3_3) (faFlE25_2_0 _ _))) <|
    hk (fun cx=>cx.q (ex_ld rfl (cx.u 0 rfl) (cx.rn 0 rfl) rfl Tryd.isAgg4)) <|
    hk (fun cx=>cx.q (ex_fa rfl (cx.rq 3 s3_3) (faFlE25_3_0 _ _))) <|
    hk (fun cx=>cx.q (ex_ld rfl (cx.u 0 rfl) (cx.rn 0 rfl) rfl Tryd.isAgg4)) <|
    hk (fun cx=>cx.q (ex_fa rfl (cx.rq 3 s3_3) (faFlE25_4_0 _ _))) <|
    hk (fun cx=>cx.q (ex_ld rfl (cx.u 0 rfl) (cx.rn 0 rfl) rfl Tryd.isAgg4)) <|
    hc (fun _ _ wx cx=>cx.c rfl (args4 (cx.u 0 rfl) (cx.u 1 rfl) (cx.u 2 rfl) (cx.u 3 rfl)) Tryd.func135 (by decide +kernel) (known_n f.c f.z f.s f.o wx) rfl rfl) <|
    hk (fun cx=>cx.v (v:=.bool (!(eqF f ⟨true,f.c,f.z,f.s,f.o⟩))) (exec_neq (x:=.tmp 11) (y:=.tmp 20) rfl (cx.u 0 rfl) (cx.u 1 rfl) (by kernel_rfl) (eq_f f ⟨true,f.c,f.z,f.s,f.o⟩ _)) rfl (congrArg Value.bool Ffk1.out)) <|
    hn) ?_
   intro a4 w4 f4
   refine wp_cond_false (f4.v 10 rfl rfl rfl) ?_
   refine wp_skip ?_
   refine wp_seq ?_
   have b_g1_4:=f4.k b_g1_2
   have s6_5:=f4.q 6 (f3.q 6 (f2.v 2 rfl rfl rfl))
   have s3_6:=f4.q 3 s3_3
   refine go_reg [bx g1 34 (fC f)] [] [some (.func (.func 140) #[] #[]),some (.agg (fC f)),some (.bool (ccF 4 f)),some (.bool (ccF 4 f)),some (.int .i64 0)] mo f4.d f4.z f4.b (by kernel_rfl) ⟨b_g1_4,trivial⟩ (
    hk (fun cx=>cx.q (ex_mv rfl (cx.rq 6 s6_5))) <|
    hk (fun cx=>cx.q (ldF rfl (cx.rq 3 s3_6) (cx.rn 0 rfl))) <|
    hc (fun _ _ wx cx=>cx.callv (wn rfl) rfl rfl (cx.u 0 rfl) (args1 (cx.u 1 rfl)) Tryd.func140 (by decide +kernel) (clo_4 f wx) rfl rfl rfl rfl) <|
    kmu 0 <|
    hk (fun cx=>cx.q (ex_as rfl rfl)) <|
    hn) ?_
   intro a5 w5 f5
   refine wp_ret ?_
   try simp only [Exit.inBlock,Exit.then]
   refine bodyPost_ret (res_tt (fn:=Tryd.f122) rfl (f5.v 3 rfl rfl rfl) (f5.v 4 rfl rfl rfl)) f5.d ?_
   have HE:(.tuple #[.bool (ccF 4 f),.int .i64 0]:Value)=.tuple #[.bool (holF 4 f),.int .i64 (holE 4 f)]:=by simp only [kn_of Ffk1.out,holF_4,holE_4,Bool.true_and,Bool.and_true,Bool.false_and,Bool.and_false,Bool.or_false,Bool.false_or,Bool.true_or,Bool.or_true,Bool.not_true,Bool.not_false,if_true,if_false,Bool.false_eq_true,Bool.true_eq_false,reduceCtorEq];try rfl
   exact ⟨retV HE,f5.b⟩
  have Ffk1:=Lib.hid fk1;clear fk1
  have b_g1_7:=f3.k (f2.k b_g1)
  have s3_8:=f3.q 3 (f2.q 3 u_g1)
  refine go_reg [bx g1 34 (fC f)] [] [some (.agg (fC f)),some (pt g1 1),some (.bool f.c),some (pt g1 2),some (.bool f.z),some (pt g1 3),some (.bool f.s),some (pt g1 4),some (.bool f.o),some (.agg (fC ⟨true,f.c,f.z,f.s,f.o⟩)),oT] mo f3.d f3.z f3.b (by kernel_rfl) ⟨b_g1_7,trivial⟩ (
   hk (fun cx=>cx.q (ldF rfl (cx.rq 3 s3_8) (cx.rn 0 rfl))) <|
   hk (fun cx=>cx.q (ex_fa rfl (cx.rq 3 s3_8) (faFlE25_1_0 _ _))) <|
   hk (fun cx=>cx.q (ex_ld rfl (cx.u 0 rfl) (cx.rn 0 rfl) rfl Tryd.isAgg4)) <|
   hk (fun cx=>cx.q (ex_fa rfl (cx.rq 3 s3_8) (faFlE25_2_0 _ _))) <|
   hk (fun cx=>cx.q (ex_ld rfl (cx.u 0 rfl) (cx.rn 0 rfl) rfl Tryd.isAgg4)) <|
   hk (fun cx=>cx.q (ex_fa rfl (cx.rq 3 s3_8) (faFlE25_3_0 _ _))) <|
   hk (fun cx=>cx.q (ex_ld rfl (cx.u 0 rfl) (cx.rn 0 rfl) rfl Tryd.isAgg4)) <|
   hk (fun cx=>cx.q (ex_fa rfl (cx.rq 3 s3_8) (faFlE25_4_0 _ _))) <|
   hk (fun cx=>cx.q (ex_ld rfl (cx.u 0 rfl) (cx.rn 0 rfl) rfl Tryd.isAgg4)) <|
   hc (fun _ _ wx cx=>cx.c rfl (args4 (cx.u 0 rfl) (cx.u 1 rfl) (cx.u 2 rfl) (cx.u 3 rfl)) Tryd.func135 (by decide +kernel) (known_n f.c f.z f.s f.o wx) rfl rfl) <|
   hk (fun cx=>cx.v (v:=.bool (!(eqF f ⟨true,f.c,f.z,f.s,f.o⟩))) (exec_neq (x:=.tmp 11) (y:=.tmp 20) rfl (cx.u 0 rfl) (cx.u 1 rfl) (by kernel_rfl) (eq_f f ⟨true,f.c,f.z,f.s,f.o⟩ _)) rfl (congrArg Value.bool Ffk1.out)) <|
   hn) ?_
  intro a6 w6 f6
  refine wp_cond_true (f6.v 10 rfl rfl rfl) ?_
  refine wp_seq ?_
  refine go_reg [] [] [oF,some (.int .i64 20)] mo f6.d f6.z f6.b (by kernel_rfl) trivial (
   hk (fun cx=>cx.q (ex_as rfl rfl)) <|
   hk (fun cx=>cx.q (ex_as rfl rfl)) <|
   hn) ?_
  intro a7 w7 f7
  refine wp_ret ?_
  try simp only [Exit.inBlock,Exit.then]
  refine bodyPost_ret (res_tt (fn:=Tryd.f122) rfl (f7.v 0 rfl rfl rfl) (f7.v 1 rfl rfl rfl)) f7.d ?_
  have HE:(.tuple #[.bool false,.int .i64 20]:Value)=.tuple #[.bool (holF 4 f),.int .i64 (holE 4 f)]:=by simp only [kn_of Ffk1.out,holF_4,holE_4,Bool.true_and,Bool.and_true,Bool.false_and,Bool.and_false,Bool.or_false,Bool.false_or,Bool.true_or,Bool.or_true,Bool.not_true,Bool.not_false,if_true,if_false,Bool.false_eq_true,Bool.true_eq_false,reduceCtorEq];try rfl
  exact ⟨retV HE,f7.b⟩
set_option maxHeartbeats 4000000 in
theorem hol_5 (f:Fl) (W:World):Calls Tryd.prog 122 #[.int .i8 5,.agg (fC f)] W fun e w'=>e=.returned (.tuple #[.bool (holF 5 f),.int .i64 (holE 5 f)]) ∧ Below W.heap.size W w':=by
  refine calls_abs Tryd.func122 rfl (Nat.le_of_ble_eq_true rfl) ?_
  intro a0 d0 z0 h0
  replace z0:a0.tmps.size=25:=z0
  have s0_0:a0.tmps.getD 0 undef=.int .i8 5:=h0 0 (Nat.le_of_ble_eq_true rfl)
  have s1_0:a0.tmps.getD 1 undef=.agg (fC f):=h0 1 (Nat.le_of_ble_eq_true rfl)
  refine wp_seq ?_
  refine go_reg [] [⟨0,3,34,(fC f),none,#[]⟩] [none,oF,some (.int .i64 0)] mo d0 z0 (Below.refl _ _) (by kernel_rfl) trivial (
   hk (fun cx=>cx.al (wn rfl) 0 rfl (ex_box rfl (cx.rq 1 s1_0) rfl) rfl rfl rfl rfl rfl trivial) <|
   hk (fun cx=>cx.q (ex_as rfl rfl)) <|
   hk (fun cx=>cx.q (ex_as rfl rfl)) <|
   hn) ?_
  intro a1 w1 f1
  obtain ⟨g1,u_g1,q_g1,b_g1⟩:=f1.al.1
  refine wp_seq ?_
  have s0_1:=f1.q 0 s0_0
  refine go_reg [] [] [some (.int .i8 5),some (.func (.func 141) #[] #[]),some (.func (.func 141) #[] #[])] mo f1.d f1.z f1.b (by kernel_rfl) trivial (
   hk (fun cx=>cx.q (ex_mv rfl (cx.rq 0 s0_1))) <|
   hc (fun _ _ wx cx=>cx.c rfl (args1 (cx.u 0 rfl)) Tryd.func134 (by decide +kernel) (cond_5 wx) rfl rfl) <|
   kmu 0 <|
   hn) ?_
  intro a2 w2 f2
  refine wp_seq ?_
  refine wp_seq ?_
  refine go_reg [] [] [some (.func (.func 141) #[] #[]),oF] mo f2.d f2.z f2.b (by kernel_rfl) trivial (
   hk (fun cx=>cx.q (ex_mv rfl (cx.rq 6 (f2.v 2 rfl rfl rfl)))) <|
   hk (fun cx=>cx.q (ex_fn (x:=.tmp 9) rfl (cx.u 0 rfl) rfl)) <|
   hn) ?_
  intro a3 w3 f3
  refine wp_cond_false (f3.v 1 rfl rfl rfl) ?_
  refine wp_skip ?_
  refine wp_seq ?_
  refine wp_seq ?_
  cases fk1:!(eqF f ⟨true,f.c,f.z,f.s,f.o⟩)
  case false=>
   have Ffk1:=Lib.hid fk1;clear fk1
   have b_g1_2:=f3.k (f2.k b_g1)
   have s3_3:=f3.q 3 (f2.q 3 u_g1)
   refine go_reg [bx g1 34 (fC f)] [] [some (.agg (fC f)),some (pt g1 1),some (.bool f.c),some (pt g1 2),some (.bool f.z),some (pt g1 3),some (.bool f.s),some (pt g1 4),some (.bool f.o),some (.agg (fC ⟨true,f.c,f.z,f.s,f.o⟩)),oF] mo f3.d f3.z f3.b (by kernel_rfl) ⟨b_g1_2,trivial⟩ (
    hk (fun cx=>cx.q (ldF rfl (cx.rq 3 s3_3) (cx.rn 0 rfl))) <|
    hk (fun cx=>cx.q (ex_fa rfl (cx.rq 3 s3_3) (faFlE25_1_0 _ _))) <|
    hk (fun cx=>cx.q (ex_ld rfl (cx.u 0 rfl) (cx.rn 0 rfl) rfl Tryd.isAgg4)) <|
    hk (fun cx=>cx.q (ex_fa rfl (cx.rq 3 s3_3) (faFlE25_2_0 _ _))) <|
    hk (fun cx=>cx.q (ex_ld rfl (cx.u 0 rfl) (cx.rn 0 rfl) rfl Tryd.isAgg4)) <|
    hk (fun cx=>cx.q (ex_fa rfl (cx.rq 3 s3_3) (faFlE25_3_0 _ _))) <|
    hk (fun cx=>cx.q (ex_ld rfl (cx.u 0 rfl) (cx.rn 0 rfl) rfl Tryd.isAgg4)) <|
    hk (fun cx=>cx.q (ex_fa rfl (cx.rq 3 s3_3) (faFlE25_4_0 _ _))) <|
    hk (fun cx=>cx.q (ex_ld rfl (cx.u 0 rfl) (cx.rn 0 rfl) rfl Tryd.isAgg4)) <|
    hc (fun _ _ wx cx=>cx.c rfl (args4 (cx.u 0 rfl) (cx.u 1 rfl) (cx.u 2 rfl) (cx.u 3 rfl)) Tryd.func135 (by decide +kernel) (known_n f.c f.z f.s f.o wx) rfl rfl) <|
    hk (fun cx=>cx.v (v:=.bool (!(eqF f ⟨true,f.c,f.z,f.s,f.o⟩))) (exec_neq (x:=.tmp 11) (y:=.tmp 20) rfl (cx.u 0 rfl) (cx.u 1 rfl) (by kernel_rfl) (eq_f f ⟨true,f.c,f.z,f.s,f.o⟩ _)) rfl (congrArg Value.bool Ffk1.out)) <|
    hn) ?_
   intro a4 w4 f4
   refine wp_cond_false (f4.v 10 rfl rfl rfl) ?_
   refine wp_skip ?_
   refine wp_seq ?_
   have b_g1_4:=f4.k b_g1_2
   have s6_5:=f4.q 6 (f3.q 6 (f2.v 2 rfl rfl rfl))
   have s3_6:=f4.q 3 s3_3
   refine go_reg [bx g1 34 (fC f)] [] [some (.func (.func 141) #[] #[]),some (.agg (fC f)),some (.bool (ccF 5 f)),some (.bool (ccF 5 f)),some (.int .i64 0)] mo f4.d f4.z f4.b (by kernel_rfl) ⟨b_g1_4,trivial⟩ (
    hk (fun cx=>cx.q (ex_mv rfl (cx.rq 6 s6_5))) <|
    hk (fun cx=>cx.q (ldF rfl (cx.rq 3 s3_6) (cx.rn 0 rfl))) <|
    hc (fun _ _ wx cx=>cx.callv (wn rfl) rfl rfl (cx.u 0 rfl) (args1 (cx.u 1 rfl)) Tryd.func141 (by decide +kernel) (clo_5 f wx) rfl rfl rfl rfl) <|
    kmu 0 <|
    hk (fun cx=>cx.q (ex_as rfl rfl)) <|
    hn) ?_
   intro a5 w5 f5
   refine wp_ret ?_
   try simp only [Exit.inBlock,Exit.then]
   refine bodyPost_ret (res_tt (fn:=Tryd.f122) rfl (f5.v 3 rfl rfl rfl) (f5.v 4 rfl rfl rfl)) f5.d ?_
   have HE:(.tuple #[.bool (ccF 5 f),.int .i64 0]:Value)=.tuple #[.bool (holF 5 f),.int .i64 (holE 5 f)]:=by simp only [kn_of Ffk1.out,holF_5,holE_5,Bool.true_and,Bool.and_true,Bool.false_and,Bool.and_false,Bool.or_false,Bool.false_or,Bool.true_or,Bool.or_true,Bool.not_true,Bool.not_false,if_true,if_false,Bool.false_eq_true,Bool.true_eq_false,reduceCtorEq];try rfl
   exact ⟨retV HE,f5.b⟩
  have Ffk1:=Lib.hid fk1;clear fk1
  have b_g1_7:=f3.k (f2.k b_g1)
  have s3_8:=f3.q 3 (f2.q 3 u_g1)
  refine go_reg [bx g1 34 (fC f)] [] [some (.agg (fC f)),some (pt g1 1),some (.bool f.c),some (pt g1 2),some (.bool f.z),some (pt g1 3),some (.bool f.s),some (pt g1 4),some (.bool f.o),some (.agg (fC ⟨true,f.c,f.z,f.s,f.o⟩)),oT] mo f3.d f3.z f3.b (by kernel_rfl) ⟨b_g1_7,trivial⟩ (
   hk (fun cx=>cx.q (ldF rfl (cx.rq 3 s3_8) (cx.rn 0 rfl))) <|
   hk (fun cx=>cx.q (ex_fa rfl (cx.rq 3 s3_8) (faFlE25_1_0 _ _))) <|
   hk (fun cx=>cx.q (ex_ld rfl (cx.u 0 rfl) (cx.rn 0 rfl) rfl Tryd.isAgg4)) <|
   hk (fun cx=>cx.q (ex_fa rfl (cx.rq 3 s3_8) (faFlE25_2_0 _ _))) <|
   hk (fun cx=>cx.q (ex_ld rfl (cx.u 0 rfl) (cx.rn 0 rfl) rfl Tryd.isAgg4)) <|
   hk (fun cx=>cx.q (ex_fa rfl (cx.rq 3 s3_8) (faFlE25_3_0 _ _))) <|
   hk (fun cx=>cx.q (ex_ld rfl (cx.u 0 rfl) (cx.rn 0 rfl) rfl Tryd.isAgg4)) <|
   hk (fun cx=>cx.q (ex_fa rfl (cx.rq 3 s3_8) (faFlE25_4_0 _ _))) <|
   hk (fun cx=>cx.q (ex_ld rfl (cx.u 0 rfl) (cx.rn 0 rfl) rfl Tryd.isAgg4)) <|
   hc (fun _ _ wx cx=>cx.c rfl (args4 (cx.u 0 rfl) (cx.u 1 rfl) (cx.u 2 rfl) (cx.u 3 rfl)) Tryd.func135 (by decide +kernel) (known_n f.c f.z f.s f.o wx) rfl rfl) <|
   hk (fun cx=>cx.v (v:=.bool (!(eqF f ⟨true,f.c,f.z,f.s,f.o⟩))) (exec_neq (x:=.tmp 11) (y:=.tmp 20) rfl (cx.u 0 rfl) (cx.u 1 rfl) (by kernel_rfl) (eq_f f ⟨true,f.c,f.z,f.s,f.o⟩ _)) rfl (congrArg Value.bool Ffk1.out)) <|
   hn) ?_
  intro a6 w6 f6
  refine wp_cond_true (f6.v 10 rfl rfl rfl) ?_
  refine wp_seq ?_
  refine go_reg [] [] [oF,some (.int .i64 20)] mo f6.d f6.z f6.b (by kernel_rfl) trivial (
   hk (fun cx=>cx.q (ex_as rfl rfl)) <|
   hk (fun cx=>cx.q (ex_as rfl rfl)) <|
   hn) ?_
  intro a7 w7 f7
  refine wp_ret ?_
  try simp only [Exit.inBlock,Exit.then]
  refine bodyPost_ret (res_tt (fn:=Tryd.f122) rfl (f7.v 0 rfl rfl rfl) (f7.v 1 rfl rfl rfl)) f7.d ?_
  have HE:(.tuple #[.bool false,.int .i64 20]:Value)=.tuple #[.bool (holF 5 f),.int .i64 (holE 5 f)]:=by simp only [kn_of Ffk1.out,holF_5,holE_5,Bool.true_and,Bool.and_true,Bool.false_and,Bool.and_false,Bool.or_false,Bool.false_or,Bool.true_or,Bool.or_true,Bool.not_true,Bool.not_false,if_true,if_false,Bool.false_eq_true,Bool.true_eq_false,reduceCtorEq];try rfl
  exact ⟨retV HE,f7.b⟩
set_option maxHeartbeats 4000000 in
theorem hol_6 (f:Fl) (W:World):Calls Tryd.prog 122 #[.int .i8 6,.agg (fC f)] W fun e w'=>e=.returned (.tuple #[.bool (holF 6 f),.int .i64 (holE 6 f)]) ∧ Below W.heap.size W w':=by
  refine calls_abs Tryd.func122 rfl (Nat.le_of_ble_eq_true rfl) ?_
  intro a0 d0 z0 h0
  replace z0:a0.tmps.size=25:=z0
  have s0_0:a0.tmps.getD 0 undef=.int .i8 6:=h0 0 (Nat.le_of_ble_eq_true rfl)
  have s1_0:a0.tmps.getD 1 undef=.agg (fC f):=h0 1 (Nat.le_of_ble_eq_true rfl)
  refine wp_seq ?_
  refine go_reg [] [⟨0,3,34,(fC f),none,#[]⟩] [none,oF,some (.int .i64 0)] mo d0 z0 (Below.refl _ _) (by kernel_rfl) trivial (
   hk (fun cx=>cx.al (wn rfl) 0 rfl (ex_box rfl (cx.rq 1 s1_0) rfl) rfl rfl rfl rfl rfl trivial) <|
   hk (fun cx=>cx.q (ex_as rfl rfl)) <|
   hk (fun cx=>cx.q (ex_as rfl rfl)) <|
   hn) ?_
  intro a1 w1 f1
  obtain ⟨g1,u_g1,q_g1,b_g1⟩:=f1.al.1
  refine wp_seq ?_
  have s0_1:=f1.q 0 s0_0
  refine go_reg [] [] [some (.int .i8 6),some (.func (.func 142) #[] #[]),some (.func (.func 142) #[] #[])] mo f1.d f1.z f1.b (by kernel_rfl) trivial (
   hk (fun cx=>cx.q (ex_mv rfl (cx.rq 0 s0_1))) <|
   hc (fun _ _ wx cx=>cx.c rfl (args1 (cx.u 0 rfl)) Tryd.func134 (by decide +kernel) (cond_6 wx) rfl rfl) <|
   kmu 0 <|
   hn) ?_
  intro a2 w2 f2
  refine wp_seq ?_
  refine wp_seq ?_
  refine go_reg [] [] [some (.func (.func 142) #[] #[]),oF] mo f2.d f2.z f2.b (by kernel_rfl) trivial (
   hk (fun cx=>cx.q (ex_mv rfl (cx.rq 6 (f2.v 2 rfl rfl rfl)))) <|
   hk (fun cx=>cx.q (ex_fn (x:=.tmp 9) rfl (cx.u 0 rfl) rfl)) <|
   hn) ?_
  intro a3 w3 f3
  refine wp_cond_false (f3.v 1 rfl rfl rfl) ?_
  refine wp_skip ?_
  refine wp_seq ?_
  refine wp_seq ?_
  cases fk1:!(eqF f ⟨true,f.c,f.z,f.s,f.o⟩)
  case false=>
   have Ffk1:=Lib.hid fk1;clear fk1
   have b_g1_2:=f3.k (f2.k b_g1)
   have s3_3:=f3.q 3 (f2.q 3 u_g1)
   refine go_reg [bx g1 34 (fC f)] [] [some (.agg (fC f)),some (pt g1 1),some (.bool f.c),some (pt g1 2),some (.bool f.z),some (pt g1 3),some (.bool f.s),some (pt g1 4),some (.bool f.o),some (.agg (fC ⟨true,f.c,f.z,f.s,f.o⟩)),oF] mo f3.d f3.z f3.b (by kernel_rfl) ⟨b_g1_2,trivial⟩ (
    hk (fun cx=>cx.q (ldF rfl (cx.rq 3 s3_3) (cx.rn 0 rfl))) <|
    hk (fun cx=>cx.q (ex_fa rfl (cx.rq 3 s3_3) (faFlE25_1_0 _ _))) <|
    hk (fun cx=>cx.q (ex_ld rfl (cx.u 0 rfl) (cx.rn 0 rfl) rfl Tryd.isAgg4)) <|
    hk (fun cx=>cx.q (ex_fa rfl (cx.rq 3 s3_3) (faFlE25_2_0 _ _))) <|
    hk (fun cx=>cx.q (ex_ld rfl (cx.u 0 rfl) (cx.rn 0 rfl) rfl Tryd.isAgg4)) <|
    hk (fun cx=>cx.q (ex_fa rfl (cx.rq 3 s3_3) (faFlE25_3_0 _ _))) <|
    hk (fun cx=>cx.q (ex_ld rfl (cx.u 0 rfl) (cx.rn 0 rfl) rfl Tryd.isAgg4)) <|
    hk (fun cx=>cx.q (ex_fa rfl (cx.rq 3 s3_3) (faFlE25_4_0 _ _))) <|
    hk (fun cx=>cx.q (ex_ld rfl (cx.u 0 rfl) (cx.rn 0 rfl) rfl Tryd.isAgg4)) <|
    hc (fun _ _ wx cx=>cx.c rfl (args4 (cx.u 0 rfl) (cx.u 1 rfl) (cx.u 2 rfl) (cx.u 3 rfl)) Tryd.func135 (by decide +kernel) (known_n f.c f.z f.s f.o wx) rfl rfl) <|
    hk (fun cx=>cx.v (v:=.bool (!(eqF f ⟨true,f.c,f.z,f.s,f.o⟩))) (exec_neq (x:=.tmp 11) (y:=.tmp 20) rfl (cx.u 0 rfl) (cx.u 1 rfl) (by kernel_rfl) (eq_f f ⟨true,f.c,f.z,f.s,f.o⟩ _)) rfl (congrArg Value.bool Ffk1.out)) <|
    hn) ?_
   intro a4 w4 f4
   refine wp_cond_false (f4.v 10 rfl rfl rfl) ?_
   refine wp_skip ?_
   refine wp_seq ?_
   have b_g1_4:=f4.k b_g1_2
   have s6_5:=f4.q 6 (f3.q 6 (f2.v 2 rfl rfl rfl))
   have s3_6:=f4.q 3 s3_3
   refine go_reg [bx g1 34 (fC f)] [] [some (.func (.func 142) #[] #[]),some (.agg (fC f)),some (.bool (ccF 6 f)),some (.bool (ccF 6 f)),some (.int .i64 0)] mo f4.d f4.z f4.b (by kernel_rfl) ⟨b_g1_4,trivial⟩ (
    hk (fun cx=>cx.q (ex_mv rfl (cx.rq 6 s6_5))) <|
    hk (fun cx=>cx.q (ldF rfl (cx.rq 3 s3_6) (cx.rn 0 rfl))) <|
    hc (fun _ _ wx cx=>cx.callv (wn rfl) rfl rfl (cx.u 0 rfl) (args1 (cx.u 1 rfl)) Tryd.func142 (by decide +kernel) (clo_6 f wx) rfl rfl rfl rfl) <|
    kmu 0 <|
    hk (fun cx=>cx.q (ex_as rfl rfl)) <|
    hn) ?_
   intro a5 w5 f5
   refine wp_ret ?_
   try simp only [Exit.inBlock,Exit.then]
   refine bodyPost_ret (res_tt (fn:=Tryd.f122) rfl (f5.v 3 rfl rfl rfl) (f5.v 4 rfl rfl rfl)) f5.d ?_
   have HE:(.tuple #[.bool (ccF 6 f),.int .i64 0]:Value)=.tuple #[.bool (holF 6 f),.int .i64 (holE 6 f)]:=by simp only [kn_of Ffk1.out,holF_6,holE_6,Bool.true_and,Bool.and_true,Bool.false_and,Bool.and_false,Bool.or_false,Bool.false_or,Bool.true_or,Bool.or_true,Bool.not_true,Bool.not_false,if_true,if_false,Bool.false_eq_true,Bool.true_eq_false,reduceCtorEq];try rfl
   exact ⟨retV HE,f5.b⟩
  have Ffk1:=Lib.hid fk1;clear fk1
  have b_g1_7:=f3.k (f2.k b_g1)
  have s3_8:=f3.q 3 (f2.q 3 u_g1)
  refine go_reg [bx g1 34 (fC f)] [] [some (.agg (fC f)),some (pt g1 1),some (.bool f.c),some (pt g1 2),some (.bool f.z),some (pt g1 3),some (.bool f.s),some (pt g1 4),some (.bool f.o),some (.agg (fC ⟨true,f.c,f.z,f.s,f.o⟩)),oT] mo f3.d f3.z f3.b (by kernel_rfl) ⟨b_g1_7,trivial⟩ (
   hk (fun cx=>cx.q (ldF rfl (cx.rq 3 s3_8) (cx.rn 0 rfl))) <|
   hk (fun cx=>cx.q (ex_fa rfl (cx.rq 3 s3_8) (faFlE25_1_0 _ _))) <|
   hk (fun cx=>cx.q (ex_ld rfl (cx.u 0 rfl) (cx.rn 0 rfl) rfl Tryd.isAgg4)) <|
   hk (fun cx=>cx.q (ex_fa rfl (cx.rq 3 s3_8) (faFlE25_2_0 _ _))) <|
   hk (fun cx=>cx.q (ex_ld rfl (cx.u 0 rfl) (cx.rn 0 rfl) rfl Tryd.isAgg4)) <|
   hk (fun cx=>cx.q (ex_fa rfl (cx.rq 3 s3_8) (faFlE25_3_0 _ _))) <|
   hk (fun cx=>cx.q (ex_ld rfl (cx.u 0 rfl) (cx.rn 0 rfl) rfl Tryd.isAgg4)) <|
   hk (fun cx=>cx.q (ex_fa rfl (cx.rq 3 s3_8) (faFlE25_4_0 _ _))) <|
   hk (fun cx=>cx.q (ex_ld rfl (cx.u 0 rfl) (cx.rn 0 rfl) rfl Tryd.isAgg4)) <|
   hc (fun _ _ wx cx=>cx.c rfl (args4 (cx.u 0 rfl) (cx.u 1 rfl) (cx.u 2 rfl) (cx.u 3 rfl)) Tryd.func135 (by decide +kernel) (known_n f.c f.z f.s f.o wx) rfl rfl) <|
   hk (fun cx=>cx.v (v:=.bool (!(eqF f ⟨true,f.c,f.z,f.s,f.o⟩))) (exec_neq (x:=.tmp 11) (y:=.tmp 20) rfl (cx.u 0 rfl) (cx.u 1 rfl) (by kernel_rfl) (eq_f f ⟨true,f.c,f.z,f.s,f.o⟩ _)) rfl (congrArg Value.bool Ffk1.out)) <|
   hn) ?_
  intro a6 w6 f6
  refine wp_cond_true (f6.v 10 rfl rfl rfl) ?_
  refine wp_seq ?_
  refine go_reg [] [] [oF,some (.int .i64 20)] mo f6.d f6.z f6.b (by kernel_rfl) trivial (
   hk (fun cx=>cx.q (ex_as rfl rfl)) <|
   hk (fun cx=>cx.q (ex_as rfl rfl)) <|
   hn) ?_
  intro a7 w7 f7
  refine wp_ret ?_
  try simp only [Exit.inBlock,Exit.then]
  refine bodyPost_ret (res_tt (fn:=Tryd.f122) rfl (f7.v 0 rfl rfl rfl) (f7.v 1 rfl rfl rfl)) f7.d ?_
  have HE:(.tuple #[.bool false,.int .i64 20]:Value)=.tuple #[.bool (holF 6 f),.int .i64 (holE 6 f)]:=by simp only [kn_of Ffk1.out,holF_6,holE_6,Bool.true_and,Bool.and_true,Bool.false_and,Bool.and_false,Bool.or_false,Bool.false_or,Bool.true_or,Bool.or_true,Bool.not_true,Bool.not_false,if_true,if_false,Bool.false_eq_true,Bool.true_eq_false,reduceCtorEq];try rfl
  exact ⟨retV HE,f7.b⟩
set_option maxHeartbeats 4000000 in
theorem hol_7 (f:Fl) (W:World):Calls Tryd.prog 122 #[.int .i8 7,.agg (fC f)] W fun e w'=>e=.returned (.tuple #[.bool (holF 7 f),.int .i64 (holE 7 f)]) ∧ Below W.heap.size W w':=by
  refine calls_abs Tryd.func122 rfl (Nat.le_of_ble_eq_true rfl) ?_
  intro a0 d0 z0 h0
  replace z0:a0.tmps.size=25:=z0
  have s0_0:a0.tmps.getD 0 undef=.int .i8 7:=h0 0 (Nat.le_of_ble_eq_true rfl)
  have s1_0:a0.tmps.getD 1 undef=.agg (fC f):=h0 1 (Nat.le_of_ble_eq_true rfl)
  refine wp_seq ?_
  refine go_reg [] [⟨0,3,34,(fC f),none,#[]⟩] [none,oF,some (.int .i64 0)] mo d0 z0 (Below.refl _ _) (by kernel_rfl) trivial (
   hk (fun cx=>cx.al (wn rfl) 0 rfl (ex_box rfl (cx.rq 1 s1_0) rfl) rfl rfl rfl rfl rfl trivial) <|
   hk (fun cx=>cx.q (ex_as rfl rfl)) <|
   hk (fun cx=>cx.q (ex_as rfl rfl)) <|
   hn) ?_
  intro a1 w1 f1
  obtain ⟨g1,u_g1,q_g1,b_g1⟩:=f1.al.1
  refine wp_seq ?_
  have s0_1:=f1.q 0 s0_0
  refine go_reg [] [] [some (.int .i8 7),some (.func (.func 143) #[] #[]),some (.func (.func 143) #[] #[])] mo f1.d f1.z f1.b (by kernel_rfl) trivial (
   hk (fun cx=>cx.q (ex_mv rfl (cx.rq 0 s0_1))) <|
   hc (fun _ _ wx cx=>cx.c rfl (args1 (cx.u 0 rfl)) Tryd.func134 (by decide +kernel) (cond_7 wx) rfl rfl) <|
   kmu 0 <|
   hn) ?_
  intro a2 w2 f2
  refine wp_seq ?_
  refine wp_seq ?_
  refine go_reg [] [] [some (.func (.func 143) #[] #[]),oF] mo f2.d f2.z f2.b (by kernel_rfl) trivial (
   hk (fun cx=>cx.q (ex_mv rfl (cx.rq 6 (f2.v 2 rfl rfl rfl)))) <|
   hk (fun cx=>cx.q (ex_fn (x:=.tmp 9) rfl (cx.u 0 rfl) rfl)) <|
   hn) ?_
  intro a3 w3 f3
  refine wp_cond_false (f3.v 1 rfl rfl rfl) ?_
  refine wp_skip ?_
  refine wp_seq ?_
  refine wp_seq ?_
  cases fk1:!(eqF f ⟨true,f.c,f.z,f.s,f.o⟩)
  case false=>
   have Ffk1:=Lib.hid fk1;clear fk1
   have b_g1_2:=f3.k (f2.k b_g1)
   have s3_3:=f3.q 3 (f2.q 3 u_g1)
   refine go_reg [bx g1 34 (fC f)] [] [some (.agg (fC f)),some (pt g1 1),some (.bool f.c),some (pt g1 2),some (.bool f.z),some (pt g1 3),some (.bool f.s),some (pt g1 4),some (.bool f.o),some (.agg (fC ⟨true,f.c,f.z,f.s,f.o⟩)),oF] mo f3.d f3.z f3.b (by kernel_rfl) ⟨b_g1_2,trivial⟩ (
    hk (fun cx=>cx.q (ldF rfl (cx.rq 3 s3_3) (cx.rn 0 rfl))) <|
    hk (fun cx=>cx.q (ex_fa rfl (cx.rq 3 s3_3) (faFlE25_1_0 _ _))) <|
    hk (fun cx=>cx.q (ex_ld rfl (cx.u 0 rfl) (cx.rn 0 rfl) rfl Tryd.isAgg4)) <|
    hk (fun cx=>cx.q (ex_fa rfl (cx.rq 3 s3_3) (faFlE25_2_0 _ _))) <|
    hk (fun cx=>cx.q (ex_ld rfl (cx.u 0 rfl) (cx.rn 0 rfl) rfl Tryd.isAgg4)) <|
    hk (fun cx=>cx.q (ex_fa rfl (cx.rq 3 s3_3) (faFlE25_3_0 _ _))) <|
    hk (fun cx=>cx.q (ex_ld rfl (cx.u 0 rfl) (cx.rn 0 rfl) rfl Tryd.isAgg4)) <|
    hk (fun cx=>cx.q (ex_fa rfl (cx.rq 3 s3_3) (faFlE25_4_0 _ _))) <|
    hk (fun cx=>cx.q (ex_ld rfl (cx.u 0 rfl) (cx.rn 0 rfl) rfl Tryd.isAgg4)) <|
    hc (fun _ _ wx cx=>cx.c rfl (args4 (cx.u 0 rfl) (cx.u 1 rfl) (cx.u 2 rfl) (cx.u 3 rfl)) Tryd.func135 (by decide +kernel) (known_n f.c f.z f.s f.o wx) rfl rfl) <|
    hk (fun cx=>cx.v (v:=.bool (!(eqF f ⟨true,f.c,f.z,f.s,f.o⟩))) (exec_neq (x:=.tmp 11) (y:=.tmp 20) rfl (cx.u 0 rfl) (cx.u 1 rfl) (by kernel_rfl) (eq_f f ⟨true,f.c,f.z,f.s,f.o⟩ _)) rfl (congrArg Value.bool Ffk1.out)) <|
    hn) ?_
   intro a4 w4 f4
   refine wp_cond_false (f4.v 10 rfl rfl rfl) ?_
   refine wp_skip ?_
   refine wp_seq ?_
   have b_g1_4:=f4.k b_g1_2
   have s6_5:=f4.q 6 (f3.q 6 (f2.v 2 rfl rfl rfl))
   have s3_6:=f4.q 3 s3_3
   refine go_reg [bx g1 34 (fC f)] [] [some (.func (.func 143) #[] #[]),some (.agg (fC f)),some (.bool (ccF 7 f)),some (.bool (ccF 7 f)),some (.int .i64 0)] mo f4.d f4.z f4.b (by kernel_rfl) ⟨b_g1_4,trivial⟩ (
    hk (fun cx=>cx.q (ex_mv rfl (cx.rq 6 s6_5))) <|
    hk (fun cx=>cx.q (ldF rfl (cx.rq 3 s3_6) (cx.rn 0 rfl))) <|
    hc (fun _ _ wx cx=>cx.callv (wn rfl) rfl rfl (cx.u 0 rfl) (args1 (cx.u 1 rfl)) Tryd.func143 (by decide +kernel) (clo_7 f wx) rfl rfl rfl rfl) <|
    kmu 0 <|
    hk (fun cx=>cx.q (ex_as rfl rfl)) <|
    hn) ?_
   intro a5 w5 f5
   refine wp_ret ?_
   try simp only [Exit.inBlock,Exit.then]
   refine bodyPost_ret (res_tt (fn:=Tryd.f122) rfl (f5.v 3 rfl rfl rfl) (f5.v 4 rfl rfl rfl)) f5.d ?_
   have HE:(.tuple #[.bool (ccF 7 f),.int .i64 0]:Value)=.tuple #[.bool (holF 7 f),.int .i64 (holE 7 f)]:=by simp only [kn_of Ffk1.out,holF_7,holE_7,Bool.true_and,Bool.and_true,Bool.false_and,Bool.and_false,Bool.or_false,Bool.false_or,Bool.true_or,Bool.or_true,Bool.not_true,Bool.not_false,if_true,if_false,Bool.false_eq_true,Bool.true_eq_false,reduceCtorEq];try rfl
   exact ⟨retV HE,f5.b⟩
  have Ffk1:=Lib.hid fk1;clear fk1
  have b_g1_7:=f3.k (f2.k b_g1)
  have s3_8:=f3.q 3 (f2.q 3 u_g1)
  refine go_reg [bx g1 34 (fC f)] [] [some (.agg (fC f)),some (pt g1 1),some (.bool f.c),some (pt g1 2),some (.bool f.z),some (pt g1 3),some (.bool f.s),some (pt g1 4),some (.bool f.o),some (.agg (fC ⟨true,f.c,f.z,f.s,f.o⟩)),oT] mo f3.d f3.z f3.b (by kernel_rfl) ⟨b_g1_7,trivial⟩ (
   hk (fun cx=>cx.q (ldF rfl (cx.rq 3 s3_8) (cx.rn 0 rfl))) <|
   hk (fun cx=>cx.q (ex_fa rfl (cx.rq 3 s3_8) (faFlE25_1_0 _ _))) <|
   hk (fun cx=>cx.q (ex_ld rfl (cx.u 0 rfl) (cx.rn 0 rfl) rfl Tryd.isAgg4)) <|
   hk (fun cx=>cx.q (ex_fa rfl (cx.rq 3 s3_8) (faFlE25_2_0 _ _))) <|
   hk (fun cx=>cx.q (ex_ld rfl (cx.u 0 rfl) (cx.rn 0 rfl) rfl Tryd.isAgg4)) <|
   hk (fun cx=>cx.q (ex_fa rfl (cx.rq 3 s3_8) (faFlE25_3_0 _ _))) <|
   hk (fun cx=>cx.q (ex_ld rfl (cx.u 0 rfl) (cx.rn 0 rfl) rfl Tryd.isAgg4)) <|
   hk (fun cx=>cx.q (ex_fa rfl (cx.rq 3 s3_8) (faFlE25_4_0 _ _))) <|
   hk (fun cx=>cx.q (ex_ld rfl (cx.u 0 rfl) (cx.rn 0 rfl) rfl Tryd.isAgg4)) <|
   hc (fun _ _ wx cx=>cx.c rfl (args4 (cx.u 0 rfl) (cx.u 1 rfl) (cx.u 2 rfl) (cx.u 3 rfl)) Tryd.func135 (by decide +kernel) (known_n f.c f.z f.s f.o wx) rfl rfl) <|
   hk (fun cx=>cx.v (v:=.bool (!(eqF f ⟨true,f.c,f.z,f.s,f.o⟩))) (exec_neq (x:=.tmp 11) (y:=.tmp 20) rfl (cx.u 0 rfl) (cx.u 1 rfl) (by kernel_rfl) (eq_f f ⟨true,f.c,f.z,f.s,f.o⟩ _)) rfl (congrArg Value.bool Ffk1.out)) <|
   hn) ?_
  intro a6 w6 f6
  refine wp_cond_true (f6.v 10 rfl rfl rfl) ?_
  refine wp_seq ?_
  refine go_reg [] [] [oF,some (.int .i64 20)] mo f6.d f6.z f6.b (by kernel_rfl) trivial (
   hk (fun cx=>cx.q (ex_as rfl rfl)) <|
   hk (fun cx=>cx.q (ex_as rfl rfl)) <|
   hn) ?_
  intro a7 w7 f7
  refine wp_ret ?_
  try simp only [Exit.inBlock,Exit.then]
  refine bodyPost_ret (res_tt (fn:=Tryd.f122) rfl (f7.v 0 rfl rfl rfl) (f7.v 1 rfl rfl rfl)) f7.d ?_
  have HE:(.tuple #[.bool false,.int .i64 20]:Value)=.tuple #[.bool (holF 7 f),.int .i64 (holE 7 f)]:=by simp only [kn_of Ffk1.out,holF_7,holE_7,Bool.true_and,Bool.and_true,Bool.false_and,Bool.and_false,Bool.or_false,Bool.false_or,Bool.true_or,Bool.or_true,Bool.not_true,Bool.not_false,if_true,if_false,Bool.false_eq_true,Bool.true_eq_false,reduceCtorEq];try rfl
  exact ⟨retV HE,f7.b⟩
set_option maxHeartbeats 4000000 in
theorem hol_12 (f:Fl) (W:World):Calls Tryd.prog 122 #[.int .i8 12,.agg (fC f)] W fun e w'=>e=.returned (.tuple #[.bool (holF 12 f),.int .i64 (holE 12 f)]) ∧ Below W.heap.size W w':=by
  refine calls_abs Tryd.func122 rfl (Nat.le_of_ble_eq_true rfl) ?_
  intro a0 d0 z0 h0
  replace z0:a0.tmps.size=25:=z0
  have s0_0:a0.tmps.getD 0 undef=.int .i8 12:=h0 0 (Nat.le_of_ble_eq_true rfl)
  have s1_0:a0.tmps.getD 1 undef=.agg (fC f):=h0 1 (Nat.le_of_ble_eq_true rfl)
  refine wp_seq ?_
  refine go_reg [] [⟨0,3,34,(fC f),none,#[]⟩] [none,oF,some (.int .i64 0)] mo d0 z0 (Below.refl _ _) (by kernel_rfl) trivial (
   hk (fun cx=>cx.al (wn rfl) 0 rfl (ex_box rfl (cx.rq 1 s1_0) rfl) rfl rfl rfl rfl rfl trivial) <|
   hk (fun cx=>cx.q (ex_as rfl rfl)) <|
   hk (fun cx=>cx.q (ex_as rfl rfl)) <|
   hn) ?_
  intro a1 w1 f1
  obtain ⟨g1,u_g1,q_g1,b_g1⟩:=f1.al.1
  refine wp_seq ?_
  have s0_1:=f1.q 0 s0_0
  refine go_reg [] [] [some (.int .i8 12),some (.func (.func 144) #[] #[]),some (.func (.func 144) #[] #[])] mo f1.d f1.z f1.b (by kernel_rfl) trivial (
   hk (fun cx=>cx.q (ex_mv rfl (cx.rq 0 s0_1))) <|
   hc (fun _ _ wx cx=>cx.c rfl (args1 (cx.u 0 rfl)) Tryd.func134 (by decide +kernel) (cond_12 wx) rfl rfl) <|
   kmu 0 <|
   hn) ?_
  intro a2 w2 f2
  refine wp_seq ?_
  refine wp_seq ?_
  refine go_reg [] [] [some (.func (.func 144) #[] #[]),oF] mo f2.d f2.z f2.b (by kernel_rfl) trivial (
   hk (fun cx=>cx.q (ex_mv rfl (cx.rq 6 (f2.v 2 rfl rfl rfl)))) <|
   hk (fun cx=>cx.q (ex_fn (x:=.tmp 9) rfl (cx.u 0 rfl) rfl)) <|
   hn) ?_
  intro a3 w3 f3
  refine wp_cond_false (f3.v 1 rfl rfl rfl) ?_
  refine wp_skip ?_
  refine wp_seq ?_
  refine wp_seq ?_
  cases fk1:!(eqF f ⟨true,f.c,f.z,f.s,f.o⟩)
  case false=>
   have Ffk1:=Lib.hid fk1;clear fk1
   have b_g1_2:=f3.k (f2.k b_g1)
   have s3_3:=f3.q 3 (f2.q 3 u_g1)
   refine go_reg [bx g1 34 (fC f)] [] [some (.agg (fC f)),some (pt g1 1),some (.bool f.c),some (pt g1 2),some (.bool f.z),some (pt g1 3),some (.bool f.s),some (pt g1 4),some (.bool f.o),some (.agg (fC ⟨true,f.c,f.z,f.s,f.o⟩)),oF] mo f3.d f3.z f3.b (by kernel_rfl) ⟨b_g1_2,trivial⟩ (
    hk (fun cx=>cx.q (ldF rfl (cx.rq 3 s3_3) (cx.rn 0 rfl))) <|
    hk (fun cx=>cx.q (ex_fa rfl (cx.rq 3 s3_3) (faFlE25_1_0 _ _))) <|
    hk (fun cx=>cx.q (ex_ld rfl (cx.u 0 rfl) (cx.rn 0 rfl) rfl Tryd.isAgg4)) <|
    hk (fun cx=>cx.q (ex_fa rfl (cx.rq 3 s3_3) (faFlE25_2_0 _ _))) <|
    hk (fun cx=>cx.q (ex_ld rfl (cx.u 0 rfl) (cx.rn 0 rfl) rfl Tryd.isAgg4)) <|
    hk (fun cx=>cx.q (ex_fa rfl (cx.rq 3 s3_3) (faFlE25_3_0 _ _))) <|
    hk (fun cx=>cx.q (ex_ld rfl (cx.u 0 rfl) (cx.rn 0 rfl) rfl Tryd.isAgg4)) <|
    hk (fun cx=>cx.q (ex_fa rfl (cx.rq 3 s3_3) (faFlE25_4_0 _ _))) <|
    hk (fun cx=>cx.q (ex_ld rfl (cx.u 0 rfl) (cx.rn 0 rfl) rfl Tryd.isAgg4)) <|
    hc (fun _ _ wx cx=>cx.c rfl (args4 (cx.u 0 rfl) (cx.u 1 rfl) (cx.u 2 rfl) (cx.u 3 rfl)) Tryd.func135 (by decide +kernel) (known_n f.c f.z f.s f.o wx) rfl rfl) <|
    hk (fun cx=>cx.v (v:=.bool (!(eqF f ⟨true,f.c,f.z,f.s,f.o⟩))) (exec_neq (x:=.tmp 11) (y:=.tmp 20) rfl (cx.u 0 rfl) (cx.u 1 rfl) (by kernel_rfl) (eq_f f ⟨true,f.c,f.z,f.s,f.o⟩ _)) rfl (congrArg Value.bool Ffk1.out)) <|
    hn) ?_
   intro a4 w4 f4
   refine wp_cond_false (f4.v 10 rfl rfl rfl) ?_
   refine wp_skip ?_
   refine wp_seq ?_
   have b_g1_4:=f4.k b_g1_2
   have s6_5:=f4.q 6 (f3.q 6 (f2.v 2 rfl rfl rfl))
   have s3_6:=f4.q 3 s3_3
   refine go_reg [bx g1 34 (fC f)] [] [some (.func (.func 144) #[] #[]),some (.agg (fC f)),some (.bool (ccF 12 f)),some (.bool (ccF 12 f)),some (.int .i64 0)] mo f4.d f4.z f4.b (by kernel_rfl) ⟨b_g1_4,trivial⟩ (
    hk (fun cx=>cx.q (ex_mv rfl (cx.rq 6 s6_5))) <|
    hk (fun cx=>cx.q (ldF rfl (cx.rq 3 s3_6) (cx.rn 0 rfl))) <|
    hc (fun _ _ wx cx=>cx.callv (wn rfl) rfl rfl (cx.u 0 rfl) (args1 (cx.u 1 rfl)) Tryd.func144 (by decide +kernel) (clo_12 f wx) rfl rfl rfl rfl) <|
    kmu 0 <|
    hk (fun cx=>cx.q (ex_as rfl rfl)) <|
    hn) ?_
   intro a5 w5 f5
   refine wp_ret ?_
   try simp only [Exit.inBlock,Exit.then]
   refine bodyPost_ret (res_tt (fn:=Tryd.f122) rfl (f5.v 3 rfl rfl rfl) (f5.v 4 rfl rfl rfl)) f5.d ?_
   have HE:(.tuple #[.bool (ccF 12 f),.int .i64 0]:Value)=.tuple #[.bool (holF 12 f),.int .i64 (holE 12 f)]:=by simp only [kn_of Ffk1.out,holF_12,holE_12,Bool.true_and,Bool.and_true,Bool.false_and,Bool.and_false,Bool.or_false,Bool.false_or,Bool.true_or,Bool.or_true,Bool.not_true,Bool.not_false,if_true,if_false,Bool.false_eq_true,Bool.true_eq_false,reduceCtorEq];try rfl
   exact ⟨retV HE,f5.b⟩
  have Ffk1:=Lib.hid fk1;clear fk1
  have b_g1_7:=f3.k (f2.k b_g1)
  have s3_8:=f3.q 3 (f2.q 3 u_g1)
  refine go_reg [bx g1 34 (fC f)] [] [some (.agg (fC f)),some (pt g1 1),some (.bool f.c),some (pt g1 2),some (.bool f.z),some (pt g1 3),some (.bool f.s),some (pt g1 4),some (.bool f.o),some (.agg (fC ⟨true,f.c,f.z,f.s,f.o⟩)),oT] mo f3.d f3.z f3.b (by kernel_rfl) ⟨b_g1_7,trivial⟩ (
   hk (fun cx=>cx.q (ldF rfl (cx.rq 3 s3_8) (cx.rn 0 rfl))) <|
   hk (fun cx=>cx.q (ex_fa rfl (cx.rq 3 s3_8) (faFlE25_1_0 _ _))) <|
   hk (fun cx=>cx.q (ex_ld rfl (cx.u 0 rfl) (cx.rn 0 rfl) rfl Tryd.isAgg4)) <|
   hk (fun cx=>cx.q (ex_fa rfl (cx.rq 3 s3_8) (faFlE25_2_0 _ _))) <|
   hk (fun cx=>cx.q (ex_ld rfl (cx.u 0 rfl) (cx.rn 0 rfl) rfl Tryd.isAgg4)) <|
   hk (fun cx=>cx.q (ex_fa rfl (cx.rq 3 s3_8) (faFlE25_3_0 _ _))) <|
   hk (fun cx=>cx.q (ex_ld rfl (cx.u 0 rfl) (cx.rn 0 rfl) rfl Tryd.isAgg4)) <|
   hk (fun cx=>cx.q (ex_fa rfl (cx.rq 3 s3_8) (faFlE25_4_0 _ _))) <|
   hk (fun cx=>cx.q (ex_ld rfl (cx.u 0 rfl) (cx.rn 0 rfl) rfl Tryd.isAgg4)) <|
   hc (fun _ _ wx cx=>cx.c rfl (args4 (cx.u 0 rfl) (cx.u 1 rfl) (cx.u 2 rfl) (cx.u 3 rfl)) Tryd.func135 (by decide +kernel) (known_n f.c f.z f.s f.o wx) rfl rfl) <|
   hk (fun cx=>cx.v (v:=.bool (!(eqF f ⟨true,f.c,f.z,f.s,f.o⟩))) (exec_neq (x:=.tmp 11) (y:=.tmp 20) rfl (cx.u 0 rfl) (cx.u 1 rfl) (by kernel_rfl) (eq_f f ⟨true,f.c,f.z,f.s,f.o⟩ _)) rfl (congrArg Value.bool Ffk1.out)) <|
   hn) ?_
  intro a6 w6 f6
  refine wp_cond_true (f6.v 10 rfl rfl rfl) ?_
  refine wp_seq ?_
  refine go_reg [] [] [oF,some (.int .i64 20)] mo f6.d f6.z f6.b (by kernel_rfl) trivial (
   hk (fun cx=>cx.q (ex_as rfl rfl)) <|
   hk (fun cx=>cx.q (ex_as rfl rfl)) <|
   hn) ?_
  intro a7 w7 f7
  refine wp_ret ?_
  try simp only [Exit.inBlock,Exit.then]
  refine bodyPost_ret (res_tt (fn:=Tryd.f122) rfl (f7.v 0 rfl rfl rfl) (f7.v 1 rfl rfl rfl)) f7.d ?_
  have HE:(.tuple #[.bool false,.int .i64 20]:Value)=.tuple #[.bool (holF 12 f),.int .i64 (holE 12 f)]:=by simp only [kn_of Ffk1.out,holF_12,holE_12,Bool.true_and,Bool.and_true,Bool.false_and,Bool.and_false,Bool.or_false,Bool.false_or,Bool.true_or,Bool.or_true,Bool.not_true,Bool.not_false,if_true,if_false,Bool.false_eq_true,Bool.true_eq_false,reduceCtorEq];try rfl
  exact ⟨retV HE,f7.b⟩
set_option maxHeartbeats 4000000 in
theorem hol_13 (f:Fl) (W:World):Calls Tryd.prog 122 #[.int .i8 13,.agg (fC f)] W fun e w'=>e=.returned (.tuple #[.bool (holF 13 f),.int .i64 (holE 13 f)]) ∧ Below W.heap.size W w':=by
  refine calls_abs Tryd.func122 rfl (Nat.le_of_ble_eq_true rfl) ?_
  intro a0 d0 z0 h0
  replace z0:a0.tmps.size=25:=z0
  have s0_0:a0.tmps.getD 0 undef=.int .i8 13:=h0 0 (Nat.le_of_ble_eq_true rfl)
  have s1_0:a0.tmps.getD 1 undef=.agg (fC f):=h0 1 (Nat.le_of_ble_eq_true rfl)
  refine wp_seq ?_
  refine go_reg [] [⟨0,3,34,(fC f),none,#[]⟩] [none,oF,some (.int .i64 0)] mo d0 z0 (Below.refl _ _) (by kernel_rfl) trivial (
   hk (fun cx=>cx.al (wn rfl) 0 rfl (ex_box rfl (cx.rq 1 s1_0) rfl) rfl rfl rfl rfl rfl trivial) <|
   hk (fun cx=>cx.q (ex_as rfl rfl)) <|
   hk (fun cx=>cx.q (ex_as rfl rfl)) <|
   hn) ?_
  intro a1 w1 f1
  obtain ⟨g1,u_g1,q_g1,b_g1⟩:=f1.al.1
  refine wp_seq ?_
  have s0_1:=f1.q 0 s0_0
  refine go_reg [] [] [some (.int .i8 13),some (.func (.func 145) #[] #[]),some (.func (.func 145) #[] #[])] mo f1.d f1.z f1.b (by kernel_rfl) trivial (
   hk (fun cx=>cx.q (ex_mv rfl (cx.rq 0 s0_1))) <|
   hc (fun _ _ wx cx=>cx.c rfl (args1 (cx.u 0 rfl)) Tryd.func134 (by decide +kernel) (cond_13 wx) rfl rfl) <|
   kmu 0 <|
   hn) ?_
  intro a2 w2 f2
  refine wp_seq ?_
  refine wp_seq ?_
  refine go_reg [] [] [some (.func (.func 145) #[] #[]),oF] mo f2.d f2.z f2.b (by kernel_rfl) trivial (
   hk (fun cx=>cx.q (ex_mv rfl (cx.rq 6 (f2.v 2 rfl rfl rfl)))) <|
   hk (fun cx=>cx.q (ex_fn (x:=.tmp 9) rfl (cx.u 0 rfl) rfl)) <|
   hn) ?_
  intro a3 w3 f3
  refine wp_cond_false (f3.v 1 rfl rfl rfl) ?_
  refine wp_skip ?_
  refine wp_seq ?_
  refine wp_seq ?_
  cases fk1:!(eqF f ⟨true,f.c,f.z,f.s,f.o⟩)
  case false=>
   have Ffk1:=Lib.hid fk1;clear fk1
   have b_g1_2:=f3.k (f2.k b_g1)
   have s3_3:=f3.q 3 (f2.q 3 u_g1)
   refine go_reg [bx g1 34 (fC f)] [] [some (.agg (fC f)),some (pt g1 1),some (.bool f.c),some (pt g1 2),some (.bool f.z),some (pt g1 3),some (.bool f.s),some (pt g1 4),some (.bool f.o),some (.agg (fC ⟨true,f.c,f.z,f.s,f.o⟩)),oF] mo f3.d f3.z f3.b (by kernel_rfl) ⟨b_g1_2,trivial⟩ (
    hk (fun cx=>cx.q (ldF rfl (cx.rq 3 s3_3) (cx.rn 0 rfl))) <|
    hk (fun cx=>cx.q (ex_fa rfl (cx.rq 3 s3_3) (faFlE25_1_0 _ _))) <|
    hk (fun cx=>cx.q (ex_ld rfl (cx.u 0 rfl) (cx.rn 0 rfl) rfl Tryd.isAgg4)) <|
    hk (fun cx=>cx.q (ex_fa rfl (cx.rq 3 s3_3) (faFlE25_2_0 _ _))) <|
    hk (fun cx=>cx.q (ex_ld rfl (cx.u 0 rfl) (cx.rn 0 rfl) rfl Tryd.isAgg4)) <|
    hk (fun cx=>cx.q (ex_fa rfl (cx.rq 3 s3_3) (faFlE25_3_0 _ _))) <|
    hk (fun cx=>cx.q (ex_ld rfl (cx.u 0 rfl) (cx.rn 0 rfl) rfl Tryd.isAgg4)) <|
    hk (fun cx=>cx.q (ex_fa rfl (cx.rq 3 s3_3) (faFlE25_4_0 _ _))) <|
    hk (fun cx=>cx.q (ex_ld rfl (cx.u 0 rfl) (cx.rn 0 rfl) rfl Tryd.isAgg4)) <|
    hc (fun _ _ wx cx=>cx.c rfl (args4 (cx.u 0 rfl) (cx.u 1 rfl) (cx.u 2 rfl) (cx.u 3 rfl)) Tryd.func135 (by decide +kernel) (known_n f.c f.z f.s f.o wx) rfl rfl) <|
    hk (fun cx=>cx.v (v:=.bool (!(eqF f ⟨true,f.c,f.z,f.s,f.o⟩))) (exec_neq (x:=.tmp 11) (y:=.tmp 20) rfl (cx.u 0 rfl) (cx.u 1 rfl) (by kernel_rfl) (eq_f f ⟨true,f.c,f.z,f.s,f.o⟩ _)) rfl (congrArg Value.bool Ffk1.out)) <|
    hn) ?_
   intro a4 w4 f4
   refine wp_cond_false (f4.v 10 rfl rfl rfl) ?_
   refine wp_skip ?_
   refine wp_seq ?_
   have b_g1_4:=f4.k b_g1_2
   have s6_5:=f4.q 6 (f3.q 6 (f2.v 2 rfl rfl rfl))
   have s3_6:=f4.q 3 s3_3
   refine go_reg [bx g1 34 (fC f)] [] [some (.func (.func 145) #[] #[]),some (.agg (fC f)),some (.bool (ccF 13 f)),some (.bool (ccF 13 f)),some (.int .i64 0)] mo f4.d f4.z f4.b (by kernel_rfl) ⟨b_g1_4,trivial⟩ (
    hk (fun cx=>cx.q (ex_mv rfl (cx.rq 6 s6_5))) <|
    hk (fun cx=>cx.q (ldF rfl (cx.rq 3 s3_6) (cx.rn 0 rfl))) <|
    hc (fun _ _ wx cx=>cx.callv (wn rfl) rfl rfl (cx.u 0 rfl) (args1 (cx.u 1 rfl)) Tryd.func145 (by decide +kernel) (clo_13 f wx) rfl rfl rfl rfl) <|
    kmu 0 <|
    hk (fun cx=>cx.q (ex_as rfl rfl)) <|
    hn) ?_
   intro a5 w5 f5
   refine wp_ret ?_
   try simp only [Exit.inBlock,Exit.then]
   refine bodyPost_ret (res_tt (fn:=Tryd.f122) rfl (f5.v 3 rfl rfl rfl) (f5.v 4 rfl rfl rfl)) f5.d ?_
   have HE:(.tuple #[.bool (ccF 13 f),.int .i64 0]:Value)=.tuple #[.bool (holF 13 f),.int .i64 (holE 13 f)]:=by simp only [kn_of Ffk1.out,holF_13,holE_13,Bool.true_and,Bool.and_true,Bool.false_and,Bool.and_false,Bool.or_false,Bool.false_or,Bool.true_or,Bool.or_true,Bool.not_true,Bool.not_false,if_true,if_false,Bool.false_eq_true,Bool.true_eq_false,reduceCtorEq];try rfl
   exact ⟨retV HE,f5.b⟩
  have Ffk1:=Lib.hid fk1;clear fk1
  have b_g1_7:=f3.k (f2.k b_g1)
  have s3_8:=f3.q 3 (f2.q 3 u_g1)
  refine go_reg [bx g1 34 (fC f)] [] [some (.agg (fC f)),some (pt g1 1),some (.bool f.c),some (pt g1 2),some (.bool f.z),some (pt g1 3),some (.bool f.s),some (pt g1 4),some (.bool f.o),some (.agg (fC ⟨true,f.c,f.z,f.s,f.o⟩)),oT] mo f3.d f3.z f3.b (by kernel_rfl) ⟨b_g1_7,trivial⟩ (
   hk (fun cx=>cx.q (ldF rfl (cx.rq 3 s3_8) (cx.rn 0 rfl))) <|
   hk (fun cx=>cx.q (ex_fa rfl (cx.rq 3 s3_8) (faFlE25_1_0 _ _))) <|
   hk (fun cx=>cx.q (ex_ld rfl (cx.u 0 rfl) (cx.rn 0 rfl) rfl Tryd.isAgg4)) <|
   hk (fun cx=>cx.q (ex_fa rfl (cx.rq 3 s3_8) (faFlE25_2_0 _ _))) <|
   hk (fun cx=>cx.q (ex_ld rfl (cx.u 0 rfl) (cx.rn 0 rfl) rfl Tryd.isAgg4)) <|
   hk (fun cx=>cx.q (ex_fa rfl (cx.rq 3 s3_8) (faFlE25_3_0 _ _))) <|
   hk (fun cx=>cx.q (ex_ld rfl (cx.u 0 rfl) (cx.rn 0 rfl) rfl Tryd.isAgg4)) <|
   hk (fun cx=>cx.q (ex_fa rfl (cx.rq 3 s3_8) (faFlE25_4_0 _ _))) <|
   hk (fun cx=>cx.q (ex_ld rfl (cx.u 0 rfl) (cx.rn 0 rfl) rfl Tryd.isAgg4)) <|
   hc (fun _ _ wx cx=>cx.c rfl (args4 (cx.u 0 rfl) (cx.u 1 rfl) (cx.u 2 rfl) (cx.u 3 rfl)) Tryd.func135 (by decide +kernel) (known_n f.c f.z f.s f.o wx) rfl rfl) <|
   hk (fun cx=>cx.v (v:=.bool (!(eqF f ⟨true,f.c,f.z,f.s,f.o⟩))) (exec_neq (x:=.tmp 11) (y:=.tmp 20) rfl (cx.u 0 rfl) (cx.u 1 rfl) (by kernel_rfl) (eq_f f ⟨true,f.c,f.z,f.s,f.o⟩ _)) rfl (congrArg Value.bool Ffk1.out)) <|
   hn) ?_
  intro a6 w6 f6
  refine wp_cond_true (f6.v 10 rfl rfl rfl) ?_
  refine wp_seq ?_
  refine go_reg [] [] [oF,some (.int .i64 20)] mo f6.d f6.z f6.b (by kernel_rfl) trivial (
   hk (fun cx=>cx.q (ex_as rfl rfl)) <|
   hk (fun cx=>cx.q (ex_as rfl rfl)) <|
   hn) ?_
  intro a7 w7 f7
  refine wp_ret ?_
  try simp only [Exit.inBlock,Exit.then]
  refine bodyPost_ret (res_tt (fn:=Tryd.f122) rfl (f7.v 0 rfl rfl rfl) (f7.v 1 rfl rfl rfl)) f7.d ?_
  have HE:(.tuple #[.bool false,.int .i64 20]:Value)=.tuple #[.bool (holF 13 f),.int .i64 (holE 13 f)]:=by simp only [kn_of Ffk1.out,holF_13,holE_13,Bool.true_and,Bool.and_true,Bool.false_and,Bool.and_false,Bool.or_false,Bool.false_or,Bool.true_or,Bool.or_true,Bool.not_true,Bool.not_false,if_true,if_false,Bool.false_eq_true,Bool.true_eq_false,reduceCtorEq];try rfl
  exact ⟨retV HE,f7.b⟩
set_option maxHeartbeats 4000000 in
theorem hol_14 (f:Fl) (W:World):Calls Tryd.prog 122 #[.int .i8 14,.agg (fC f)] W fun e w'=>e=.returned (.tuple #[.bool (holF 14 f),.int .i64 (holE 14 f)]) ∧ Below W.heap.size W w':=by
  refine calls_abs Tryd.func122 rfl (Nat.le_of_ble_eq_true rfl) ?_
  intro a0 d0 z0 h0
  replace z0:a0.tmps.size=25:=z0
  have s0_0:a0.tmps.getD 0 undef=.int .i8 14:=h0 0 (Nat.le_of_ble_eq_true rfl)
  have s1_0:a0.tmps.getD 1 undef=.agg (fC f):=h0 1 (Nat.le_of_ble_eq_true rfl)
  refine wp_seq ?_
  refine go_reg [] [⟨0,3,34,(fC f),none,#[]⟩] [none,oF,some (.int .i64 0)] mo d0 z0 (Below.refl _ _) (by kernel_rfl) trivial (
   hk (fun cx=>cx.al (wn rfl) 0 rfl (ex_box rfl (cx.rq 1 s1_0) rfl) rfl rfl rfl rfl rfl trivial) <|
   hk (fun cx=>cx.q (ex_as rfl rfl)) <|
   hk (fun cx=>cx.q (ex_as rfl rfl)) <|
   hn) ?_
  intro a1 w1 f1
  obtain ⟨g1,u_g1,q_g1,b_g1⟩:=f1.al.1
  refine wp_seq ?_
  have s0_1:=f1.q 0 s0_0
  refine go_reg [] [] [some (.int .i8 14),some (.func (.func 146) #[] #[]),some (.func (.func 146) #[] #[])] mo f1.d f1.z f1.b (by kernel_rfl) trivial (
   hk (fun cx=>cx.q (ex_mv rfl (cx.rq 0 s0_1))) <|
   hc (fun _ _ wx cx=>cx.c rfl (args1 (cx.u 0 rfl)) Tryd.func134 (by decide +kernel) (cond_14 wx) rfl rfl) <|
   kmu 0 <|
   hn) ?_
  intro a2 w2 f2
  refine wp_seq ?_
  refine wp_seq ?_
  refine go_reg [] [] [some (.func (.func 146) #[] #[]),oF] mo f2.d f2.z f2.b (by kernel_rfl) trivial (
   hk (fun cx=>cx.q (ex_mv rfl (cx.rq 6 (f2.v 2 rfl rfl rfl)))) <|
   hk (fun cx=>cx.q (ex_fn (x:=.tmp 9) rfl (cx.u 0 rfl) rfl)) <|
   hn) ?_
  intro a3 w3 f3
  refine wp_cond_false (f3.v 1 rfl rfl rfl) ?_
  refine wp_skip ?_
  refine wp_seq ?_
  refine wp_seq ?_
  cases fk1:!(eqF f ⟨true,f.c,f.z,f.s,f.o⟩)
  case false=>
   have Ffk1:=Lib.hid fk1;clear fk1
   have b_g1_2:=f3.k (f2.k b_g1)
   have s3_3:=f3.q 3 (f2.q 3 u_g1)
   refine go_reg [bx g1 34 (fC f)] [] [some (.agg (fC f)),some (pt g1 1),some (.bool f.c),some (pt g1 2),some (.bool f.z),some (pt g1 3),some (.bool f.s),some (pt g1 4),some (.bool f.o),some (.agg (fC ⟨true,f.c,f.z,f.s,f.o⟩)),oF] mo f3.d f3.z f3.b (by kernel_rfl) ⟨b_g1_2,trivial⟩ (
    hk (fun cx=>cx.q (ldF rfl (cx.rq 3 s3_3) (cx.rn 0 rfl))) <|
    hk (fun cx=>cx.q (ex_fa rfl (cx.rq 3 s3_3) (faFlE25_1_0 _ _))) <|
    hk (fun cx=>cx.q (ex_ld rfl (cx.u 0 rfl) (cx.rn 0 rfl) rfl Tryd.isAgg4)) <|
    hk (fun cx=>cx.q (ex_fa rfl (cx.rq 3 s3_3) (faFlE25_2_0 _ _))) <|
    hk (fun cx=>cx.q (ex_ld rfl (cx.u 0 rfl) (cx.rn 0 rfl) rfl Tryd.isAgg4)) <|
    hk (fun cx=>cx.q (ex_fa rfl (cx.rq 3 s3_3) (faFlE25_3_0 _ _))) <|
    hk (fun cx=>cx.q (ex_ld rfl (cx.u 0 rfl) (cx.rn 0 rfl) rfl Tryd.isAgg4)) <|
    hk (fun cx=>cx.q (ex_fa rfl (cx.rq 3 s3_3) (faFlE25_4_0 _ _))) <|
    hk (fun cx=>cx.q (ex_ld rfl (cx.u 0 rfl) (cx.rn 0 rfl) rfl Tryd.isAgg4)) <|
    hc (fun _ _ wx cx=>cx.c rfl (args4 (cx.u 0 rfl) (cx.u 1 rfl) (cx.u 2 rfl) (cx.u 3 rfl)) Tryd.func135 (by decide +kernel) (known_n f.c f.z f.s f.o wx) rfl rfl) <|
    hk (fun cx=>cx.v (v:=.bool (!(eqF f ⟨true,f.c,f.z,f.s,f.o⟩))) (exec_neq (x:=.tmp 11) (y:=.tmp 20) rfl (cx.u 0 rfl) (cx.u 1 rfl) (by kernel_rfl) (eq_f f ⟨true,f.c,f.z,f.s,f.o⟩ _)) rfl (congrArg Value.bool Ffk1.out)) <|
    hn) ?_
   intro a4 w4 f4
   refine wp_cond_false (f4.v 10 rfl rfl rfl) ?_
   refine wp_skip ?_
   refine wp_seq ?_
   have b_g1_4:=f4.k b_g1_2
   have s6_5:=f4.q 6 (f3.q 6 (f2.v 2 rfl rfl rfl))
   have s3_6:=f4.q 3 s3_3
   refine go_reg [bx g1 34 (fC f)] [] [some (.func (.func 146) #[] #[]),some (.agg (fC f)),some (.bool (ccF 14 f)),some (.bool (ccF 14 f)),some (.int .i64 0)] mo f4.d f4.z f4.b (by kernel_rfl) ⟨b_g1_4,trivial⟩ (
    hk (fun cx=>cx.q (ex_mv rfl (cx.rq 6 s6_5))) <|
    hk (fun cx=>cx.q (ldF rfl (cx.rq 3 s3_6) (cx.rn 0 rfl))) <|
    hc (fun _ _ wx cx=>cx.callv (wn rfl) rfl rfl (cx.u 0 rfl) (args1 (cx.u 1 rfl)) Tryd.func146 (by decide +kernel) (clo_14 f wx) rfl rfl rfl rfl) <|
    kmu 0 <|
    hk (fun cx=>cx.q (ex_as rfl rfl)) <|
    hn) ?_
   intro a5 w5 f5
   refine wp_ret ?_
   try simp only [Exit.inBlock,Exit.then]
   refine bodyPost_ret (res_tt (fn:=Tryd.f122) rfl (f5.v 3 rfl rfl rfl) (f5.v 4 rfl rfl rfl)) f5.d ?_
   have HE:(.tuple #[.bool (ccF 14 f),.int .i64 0]:Value)=.tuple #[.bool (holF 14 f),.int .i64 (holE 14 f)]:=by simp only [kn_of Ffk1.out,holF_14,holE_14,Bool.true_and,Bool.and_true,Bool.false_and,Bool.and_false,Bool.or_false,Bool.false_or,Bool.true_or,Bool.or_true,Bool.not_true,Bool.not_false,if_true,if_false,Bool.false_eq_true,Bool.true_eq_false,reduceCtorEq];try rfl
   exact ⟨retV HE,f5.b⟩
  have Ffk1:=Lib.hid fk1;clear fk1
  have b_g1_7:=f3.k (f2.k b_g1)
  have s3_8:=f3.q 3 (f2.q 3 u_g1)
  refine go_reg [bx g1 34 (fC f)] [] [some (.agg (fC f)),some (pt g1 1),some (.bool f.c),some (pt g1 2),some (.bool f.z),some (pt g1 3),some (.bool f.s),some (pt g1 4),some (.bool f.o),some (.agg (fC ⟨true,f.c,f.z,f.s,f.o⟩)),oT] mo f3.d f3.z f3.b (by kernel_rfl) ⟨b_g1_7,trivial⟩ (
   hk (fun cx=>cx.q (ldF rfl (cx.rq 3 s3_8) (cx.rn 0 rfl))) <|
   hk (fun cx=>cx.q (ex_fa rfl (cx.rq 3 s3_8) (faFlE25_1_0 _ _))) <|
   hk (fun cx=>cx.q (ex_ld rfl (cx.u 0 rfl) (cx.rn 0 rfl) rfl Tryd.isAgg4)) <|
   hk (fun cx=>cx.q (ex_fa rfl (cx.rq 3 s3_8) (faFlE25_2_0 _ _))) <|
   hk (fun cx=>cx.q (ex_ld rfl (cx.u 0 rfl) (cx.rn 0 rfl) rfl Tryd.isAgg4)) <|
   hk (fun cx=>cx.q (ex_fa rfl (cx.rq 3 s3_8) (faFlE25_3_0 _ _))) <|
   hk (fun cx=>cx.q (ex_ld rfl (cx.u 0 rfl) (cx.rn 0 rfl) rfl Tryd.isAgg4)) <|
   hk (fun cx=>cx.q (ex_fa rfl (cx.rq 3 s3_8) (faFlE25_4_0 _ _))) <|
   hk (fun cx=>cx.q (ex_ld rfl (cx.u 0 rfl) (cx.rn 0 rfl) rfl Tryd.isAgg4)) <|
   hc (fun _ _ wx cx=>cx.c rfl (args4 (cx.u 0 rfl) (cx.u 1 rfl) (cx.u 2 rfl) (cx.u 3 rfl)) Tryd.func135 (by decide +kernel) (known_n f.c f.z f.s f.o wx) rfl rfl) <|
   hk (fun cx=>cx.v (v:=.bool (!(eqF f ⟨true,f.c,f.z,f.s,f.o⟩))) (exec_neq (x:=.tmp 11) (y:=.tmp 20) rfl (cx.u 0 rfl) (cx.u 1 rfl) (by kernel_rfl) (eq_f f ⟨true,f.c,f.z,f.s,f.o⟩ _)) rfl (congrArg Value.bool Ffk1.out)) <|
   hn) ?_
  intro a6 w6 f6
  refine wp_cond_true (f6.v 10 rfl rfl rfl) ?_
  refine wp_seq ?_
  refine go_reg [] [] [oF,some (.int .i64 20)] mo f6.d f6.z f6.b (by kernel_rfl) trivial (
   hk (fun cx=>cx.q (ex_as rfl rfl)) <|
   hk (fun cx=>cx.q (ex_as rfl rfl)) <|
   hn) ?_
  intro a7 w7 f7
  refine wp_ret ?_
  try simp only [Exit.inBlock,Exit.then]
  refine bodyPost_ret (res_tt (fn:=Tryd.f122) rfl (f7.v 0 rfl rfl rfl) (f7.v 1 rfl rfl rfl)) f7.d ?_
  have HE:(.tuple #[.bool false,.int .i64 20]:Value)=.tuple #[.bool (holF 14 f),.int .i64 (holE 14 f)]:=by simp only [kn_of Ffk1.out,holF_14,holE_14,Bool.true_and,Bool.and_true,Bool.false_and,Bool.and_false,Bool.or_false,Bool.false_or,Bool.true_or,Bool.or_true,Bool.not_true,Bool.not_false,if_true,if_false,Bool.false_eq_true,Bool.true_eq_false,reduceCtorEq];try rfl
  exact ⟨retV HE,f7.b⟩
set_option maxHeartbeats 4000000 in
theorem hol_15 (f:Fl) (W:World):Calls Tryd.prog 122 #[.int .i8 15,.agg (fC f)] W fun e w'=>e=.returned (.tuple #[.bool (holF 15 f),.int .i64 (holE 15 f)]) ∧ Below W.heap.size W w':=by
  refine calls_abs Tryd.func122 rfl (Nat.le_of_ble_eq_true rfl) ?_
  intro a0 d0 z0 h0
  replace z0:a0.tmps.size=25:=z0
  have s0_0:a0.tmps.getD 0 undef=.int .i8 15:=h0 0 (Nat.le_of_ble_eq_true rfl)
  have s1_0:a0.tmps.getD 1 undef=.agg (fC f):=h0 1 (Nat.le_of_ble_eq_true rfl)
  refine wp_seq ?_
  refine go_reg [] [⟨0,3,34,(fC f),none,#[]⟩] [none,oF,some (.int .i64 0)] mo d0 z0 (Below.refl _ _) (by kernel_rfl) trivial (
   hk (fun cx=>cx.al (wn rfl) 0 rfl (ex_box rfl (cx.rq 1 s1_0) rfl) rfl rfl rfl rfl rfl trivial) <|
   hk (fun cx=>cx.q (ex_as rfl rfl)) <|
   hk (fun cx=>cx.q (ex_as rfl rfl)) <|
   hn) ?_
  intro a1 w1 f1
  obtain ⟨g1,u_g1,q_g1,b_g1⟩:=f1.al.1
  refine wp_seq ?_
  have s0_1:=f1.q 0 s0_0
  refine go_reg [] [] [some (.int .i8 15),some (.func (.func 147) #[] #[]),some (.func (.func 147) #[] #[])] mo f1.d f1.z f1.b (by kernel_rfl) trivial (
   hk (fun cx=>cx.q (ex_mv rfl (cx.rq 0 s0_1))) <|
   hc (fun _ _ wx cx=>cx.c rfl (args1 (cx.u 0 rfl)) Tryd.func134 (by decide +kernel) (cond_15 wx) rfl rfl) <|
   kmu 0 <|
   hn) ?_
  intro a2 w2 f2
  refine wp_seq ?_
  refine wp_seq ?_
  refine go_reg [] [] [some (.func (.func 147) #[] #[]),oF] mo f2.d f2.z f2.b (by kernel_rfl) trivial (
   hk (fun cx=>cx.q (ex_mv rfl (cx.rq 6 (f2.v 2 rfl rfl rfl)))) <|
   hk (fun cx=>cx.q (ex_fn (x:=.tmp 9) rfl (cx.u 0 rfl) rfl)) <|
   hn) ?_
  intro a3 w3 f3
  refine wp_cond_false (f3.v 1 rfl rfl rfl) ?_
  refine wp_skip ?_
  refine wp_seq ?_
  refine wp_seq ?_
  cases fk1:!(eqF f ⟨true,f.c,f.z,f.s,f.o⟩)
  case false=>
   have Ffk1:=Lib.hid fk1;clear fk1
   have b_g1_2:=f3.k (f2.k b_g1)
   have s3_3:=f3.q 3 (f2.q 3 u_g1)
   refine go_reg [bx g1 34 (fC f)] [] [some (.agg (fC f)),some (pt g1 1),some (.bool f.c),some (pt g1 2),some (.bool f.z),some (pt g1 3),some (.bool f.s),some (pt g1 4),some (.bool f.o),some (.agg (fC ⟨true,f.c,f.z,f.s,f.o⟩)),oF] mo f3.d f3.z f3.b (by kernel_rfl) ⟨b_g1_2,trivial⟩ (
    hk (fun cx=>cx.q (ldF rfl (cx.rq 3 s3_3) (cx.rn 0 rfl))) <|
    hk (fun cx=>cx.q (ex_fa rfl (cx.rq 3 s3_3) (faFlE25_1_0 _ _))) <|
    hk (fun cx=>cx.q (ex_ld rfl (cx.u 0 rfl) (cx.rn 0 rfl) rfl Tryd.isAgg4)) <|
    hk (fun cx=>cx.q (ex_fa rfl (cx.rq 3 s3_3) (faFlE25_2_0 _ _))) <|
    hk (fun cx=>cx.q (ex_ld rfl (cx.u 0 rfl) (cx.rn 0 rfl) rfl Tryd.isAgg4)) <|
    hk (fun cx=>cx.q (ex_fa rfl (cx.rq 3 s3_3) (faFlE25_3_0 _ _))) <|
    hk (fun cx=>cx.q (ex_ld rfl (cx.u 0 rfl) (cx.rn 0 rfl) rfl Tryd.isAgg4)) <|
    hk (fun cx=>cx.q (ex_fa rfl (cx.rq 3 s3_3) (faFlE25_4_0 _ _))) <|
    hk (fun cx=>cx.q (ex_ld rfl (cx.u 0 rfl) (cx.rn 0 rfl) rfl Tryd.isAgg4)) <|
    hc (fun _ _ wx cx=>cx.c rfl (args4 (cx.u 0 rfl) (cx.u 1 rfl) (cx.u 2 rfl) (cx.u 3 rfl)) Tryd.func135 (by decide +kernel) (known_n f.c f.z f.s f.o wx) rfl rfl) <|
    hk (fun cx=>cx.v (v:=.bool (!(eqF f ⟨true,f.c,f.z,f.s,f.o⟩))) (exec_neq (x:=.tmp 11) (y:=.tmp 20) rfl (cx.u 0 rfl) (cx.u 1 rfl) (by kernel_rfl) (eq_f f ⟨true,f.c,f.z,f.s,f.o⟩ _)) rfl (congrArg Value.bool Ffk1.out)) <|
    hn) ?_
   intro a4 w4 f4
   refine wp_cond_false (f4.v 10 rfl rfl rfl) ?_
   refine wp_skip ?_
   refine wp_seq ?_
   have b_g1_4:=f4.k b_g1_2
   have s6_5:=f4.q 6 (f3.q 6 (f2.v 2 rfl rfl rfl))
   have s3_6:=f4.q 3 s3_3
   refine go_reg [bx g1 34 (fC f)] [] [some (.func (.func 147) #[] #[]),some (.agg (fC f)),some (.bool (ccF 15 f)),some (.bool (ccF 15 f)),some (.int .i64 0)] mo f4.d f4.z f4.b (by kernel_rfl) ⟨b_g1_4,trivial⟩ (
    hk (fun cx=>cx.q (ex_mv rfl (cx.rq 6 s6_5))) <|
    hk (fun cx=>cx.q (ldF rfl (cx.rq 3 s3_6) (cx.rn 0 rfl))) <|
    hc (fun _ _ wx cx=>cx.callv (wn rfl) rfl rfl (cx.u 0 rfl) (args1 (cx.u 1 rfl)) Tryd.func147 (by decide +kernel) (clo_15 f wx) rfl rfl rfl rfl) <|
    kmu 0 <|
    hk (fun cx=>cx.q (ex_as rfl rfl)) <|
    hn) ?_
   intro a5 w5 f5
   refine wp_ret ?_
   try simp only [Exit.inBlock,Exit.then]
   refine bodyPost_ret (res_tt (fn:=Tryd.f122) rfl (f5.v 3 rfl rfl rfl) (f5.v 4 rfl rfl rfl)) f5.d ?_
   have HE:(.tuple #[.bool (ccF 15 f),.int .i64 0]:Value)=.tuple #[.bool (holF 15 f),.int .i64 (holE 15 f)]:=by simp only [kn_of Ffk1.out,holF_15,holE_15,Bool.true_and,Bool.and_true,Bool.false_and,Bool.and_false,Bool.or_false,Bool.false_or,Bool.true_or,Bool.or_true,Bool.not_true,Bool.not_false,if_true,if_false,Bool.false_eq_true,Bool.true_eq_false,reduceCtorEq];try rfl
   exact ⟨retV HE,f5.b⟩
  have Ffk1:=Lib.hid fk1;clear fk1
  have b_g1_7:=f3.k (f2.k b_g1)
  have s3_8:=f3.q 3 (f2.q 3 u_g1)
  refine go_reg [bx g1 34 (fC f)] [] [some (.agg (fC f)),some (pt g1 1),some (.bool f.c),some (pt g1 2),some (.bool f.z),some (pt g1 3),some (.bool f.s),some (pt g1 4),some (.bool f.o),some (.agg (fC ⟨true,f.c,f.z,f.s,f.o⟩)),oT] mo f3.d f3.z f3.b (by kernel_rfl) ⟨b_g1_7,trivial⟩ (
   hk (fun cx=>cx.q (ldF rfl (cx.rq 3 s3_8) (cx.rn 0 rfl))) <|
   hk (fun cx=>cx.q (ex_fa rfl (cx.rq 3 s3_8) (faFlE25_1_0 _ _))) <|
   hk (fun cx=>cx.q (ex_ld rfl (cx.u 0 rfl) (cx.rn 0 rfl) rfl Tryd.isAgg4)) <|
   hk (fun cx=>cx.q (ex_fa rfl (cx.rq 3 s3_8) (faFlE25_2_0 _ _))) <|
   hk (fun cx=>cx.q (ex_ld rfl (cx.u 0 rfl) (cx.rn 0 rfl) rfl Tryd.isAgg4)) <|
   hk (fun cx=>cx.q (ex_fa rfl (cx.rq 3 s3_8) (faFlE25_3_0 _ _))) <|
   hk (fun cx=>cx.q (ex_ld rfl (cx.u 0 rfl) (cx.rn 0 rfl) rfl Tryd.isAgg4)) <|
   hk (fun cx=>cx.q (ex_fa rfl (cx.rq 3 s3_8) (faFlE25_4_0 _ _))) <|
   hk (fun cx=>cx.q (ex_ld rfl (cx.u 0 rfl) (cx.rn 0 rfl) rfl Tryd.isAgg4)) <|
   hc (fun _ _ wx cx=>cx.c rfl (args4 (cx.u 0 rfl) (cx.u 1 rfl) (cx.u 2 rfl) (cx.u 3 rfl)) Tryd.func135 (by decide +kernel) (known_n f.c f.z f.s f.o wx) rfl rfl) <|
   hk (fun cx=>cx.v (v:=.bool (!(eqF f ⟨true,f.c,f.z,f.s,f.o⟩))) (exec_neq (x:=.tmp 11) (y:=.tmp 20) rfl (cx.u 0 rfl) (cx.u 1 rfl) (by kernel_rfl) (eq_f f ⟨true,f.c,f.z,f.s,f.o⟩ _)) rfl (congrArg Value.bool Ffk1.out)) <|
   hn) ?_
  intro a6 w6 f6
  refine wp_cond_true (f6.v 10 rfl rfl rfl) ?_
  refine wp_seq ?_
  refine go_reg [] [] [oF,some (.int .i64 20)] mo f6.d f6.z f6.b (by kernel_rfl) trivial (
   hk (fun cx=>cx.q (ex_as rfl rfl)) <|
   hk (fun cx=>cx.q (ex_as rfl rfl)) <|
   hn) ?_
  intro a7 w7 f7
  refine wp_ret ?_
  try simp only [Exit.inBlock,Exit.then]
  refine bodyPost_ret (res_tt (fn:=Tryd.f122) rfl (f7.v 0 rfl rfl rfl) (f7.v 1 rfl rfl rfl)) f7.d ?_
  have HE:(.tuple #[.bool false,.int .i64 20]:Value)=.tuple #[.bool (holF 15 f),.int .i64 (holE 15 f)]:=by simp only [kn_of Ffk1.out,holF_15,holE_15,Bool.true_and,Bool.and_true,Bool.false_and,Bool.and_false,Bool.or_false,Bool.false_or,Bool.true_or,Bool.or_true,Bool.not_true,Bool.not_false,if_true,if_false,Bool.false_eq_true,Bool.true_eq_false,reduceCtorEq];try rfl
  exact ⟨retV HE,f7.b⟩
end Go.Proofs.YtoghjpliemidkaaDoor.Flg
