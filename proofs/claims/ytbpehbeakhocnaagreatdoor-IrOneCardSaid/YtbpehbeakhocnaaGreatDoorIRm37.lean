import Derived.Test.YtbpehbeakhocnaaGreatDoorIRm35
import Derived.Test.YtbpehbeakhocnaaGreatDoorIRm33
import Derived.Test.YtbpehbeakhocnaaGreatDoorIRm36
import Derived.Test.YtbpehbeakhocnaaGreatDoorIRm28
import Derived.Test.YtbpehbeakhocnaaGreatDoorIRm15
import Derived.OrdersIn
import Derived.RangeFuncSeq
set_option maxHeartbeats 4000000
set_option linter.unusedVariables false
set_option linter.unusedSimpArgs false
set_option linter.unnecessarySimpa false
namespace Go.Proofs.YtbpehbeakhocnaaGreatDoor.Irn
open Go Go.RowKit
open Mrm (Xi xC xL zX eqX mayX readsX writesX XOk heap_below)
open Flg (Fl fC zF mayC holF)
open Exe
set_option maxRecDepth 100000
structure IOk (i:Ii):Prop where
  k:I8 i.k
  x:XOk i.x
  r:I8 i.r
  p:I8 i.p
  n:I64 i.n
  t:I64 i.t
section
variable {ρ:Operand → Value} {o:Oper} {w:World} {x y:Operand} {g:Nat} {fr:Nat × Nat} {T t u:TypeId}
theorem ldI {X:Ii} (ho:o.op=.load 40 x) (hx:ρ x=.pointer (some ⟨g,0,none⟩)) (hg:w.heap[g]?=some (.cells (iC X) T fr)):(execOp ρ o).run Tryz.prog w=.ok (.value (.agg (iC X))) w:=
  exec_loadR 40 x ho g 0 hx hg (iL X) rfl _ Tryz.underlying40 rfl (by kernel_rfl)
theorem al_i (ho:o.op=.alloc 40):(execOp ρ o).run Tryz.prog w=.ok (.value (.pointer (some ⟨w.heap.size,0,none⟩))) (w.alloc (.cells (iC zI) 40)):=by
  simp [execOp,ho,go_sem]
  rfl
theorem ex_z13 (ho:o.op=.build 40 #[]):(execOp ρ o).run Tryz.prog w=.ok (.value (.agg (iC zI))) w:=exec_build ho (vs:=#[]) (by simp) (by kernel_rfl)
end
theorem iC_one (i:Ii):(iC i).all (·.oneCell')=true:=by kernel_rfl
theorem i_fields:(Tryz.prog.fieldsOf 40).toList.map (fun f=>(f.name,f.type,f.offset))=[("Kind", 36,0),("X", 38,1),("Reg", 36,9),("Phys", 36,10),("Num", 3,11),("To", 3,12)]:=by kernel_rfl
theorem eqF_cons {d:Nat} {xs ys:Array Value} {w:World} {f:Field} {fs:List Field} {a b:Value} {r r':Bool} (hn:f.name ≠ "_") (h1:(part f.type xs f.offset).run Tryz.prog w=.ok a w) (h2:(part f.type ys f.offset).run Tryz.prog w=.ok b w) (h3:(Op.equalIn d f.type a b).run Tryz.prog w=.ok r w) (h4:(Op.eqFields d xs ys fs).run Tryz.prog w=.ok r' w):(Op.eqFields d xs ys (f :: fs)).run Tryz.prog w=.ok (r && r') w:=by
  simp only [Op.eqFields,if_pos hn,Sem.run_bind,h1,h2,h3,Result.andThen_ok]
  cases r
  · simp
  · simpa using h4
theorem part_x {xs:Array Value} {x:Xi} (h:xs.extract 1 (1 + 8)=xC x) (w:World):(part 38 xs 1).run Tryz.prog w=.ok (.agg (xC x)) w:=by
  obtain ⟨i,hi⟩:=info_of_underlying Tryz.underlying38
  simp [part,isAgg,run_underlying Tryz.underlying38,run_sizeOf w hi,show Tryz.prog.cellsOf 38=8 by kernel_rfl]
  exact h
theorem eq_x' (a b:Xi) (w:World):(Op.equalIn 9999 38 (.agg (xC a)) (.agg (xC b))).run Tryz.prog w=.ok (eqX a b) w:=by
  simp [go_sem]
  unfold eqX
  (repeat' split) <;> simp [*]
theorem eq_i (a b:Ii) (w:World):(Op.equalIn 10000 40 (.agg (iC a)) (.agg (iC b))).run Tryz.prog w=.ok (eqI a b) w:=by
  rw [run_equalIn_struct (P:=Tryz.prog) w 9999 40 _ _ (by kernel_rfl) (by kernel_rfl)]
  have h:=i_fields
  generalize (Tryz.prog.fieldsOf 40).toList=l at h
  obtain ⟨f0,l0,rfl,k0,h⟩:=List.map_eq_cons_iff.1 h
  obtain ⟨f1,l1,rfl,k1,h⟩:=List.map_eq_cons_iff.1 h
  obtain ⟨f2,l2,rfl,k2,h⟩:=List.map_eq_cons_iff.1 h
  obtain ⟨f3,l3,rfl,k3,h⟩:=List.map_eq_cons_iff.1 h
  obtain ⟨f4,l4,rfl,k4,h⟩:=List.map_eq_cons_iff.1 h
  obtain ⟨f5,l5,rfl,k5,h⟩:=List.map_eq_cons_iff.1 h
  obtain rfl:=List.map_eq_nil_iff.1 h
  simp only [Prod.mk.injEq] at k0 k1 k2 k3 k4 k5
  obtain ⟨n0,t0,o0⟩:=k0;obtain ⟨n1,t1,o1⟩:=k1;obtain ⟨n2,t2,o2⟩:=k2
  obtain ⟨n3,t3,o3⟩:=k3;obtain ⟨n4,t4,o4⟩:=k4;obtain ⟨n5,t5,o5⟩:=k5
  have P8:Tryz.prog.plainKey 36=true:=by kernel_rfl
  have P64:Tryz.prog.plainKey 3=true:=by kernel_rfl
  unfold eqI
  refine eqF_cons (by rw [n0];decide) (by rw [t0,o0];exact run_part_plain w P8 rfl) (by rw [t0,o0];exact run_part_plain w P8 rfl) (by rw [t0];exact run_equalIn_int w 9998 _ .i8 .i8 _ _ Tryz.underlying36) ?_
  refine eqF_cons (by rw [n1];decide) (by rw [t1,o1];exact part_x rfl w) (by rw [t1,o1];exact part_x rfl w) (by rw [t1];exact eq_x' _ _ w) ?_
  refine eqF_cons (by rw [n2];decide) (by rw [t2,o2];exact run_part_plain w P8 rfl) (by rw [t2,o2];exact run_part_plain w P8 rfl) (by rw [t2];exact run_equalIn_int w 9998 _ .i8 .i8 _ _ Tryz.underlying36) ?_
  refine eqF_cons (by rw [n3];decide) (by rw [t3,o3];exact run_part_plain w P8 rfl) (by rw [t3,o3];exact run_part_plain w P8 rfl) (by rw [t3];exact run_equalIn_int w 9998 _ .i8 .i8 _ _ Tryz.underlying36) ?_
  refine eqF_cons (by rw [n4];decide) (by rw [t4,o4];exact run_part_plain w P64 rfl) (by rw [t4,o4];exact run_part_plain w P64 rfl) (by rw [t4];exact run_equalIn_int w 9998 _ .i64 .i64 _ _ Tryz.underlying3) ?_
  rw [← Bool.and_true (a.t == b.t)]
  exact eqF_cons (by rw [n5];decide) (by rw [t5,o5];exact run_part_plain w P64 rfl) (by rw [t5,o5];exact run_part_plain w P64 rfl) (by rw [t5];exact run_equalIn_int w 9998 _ .i64 .i64 _ _ Tryz.underlying3) (by simp [Op.eqFields])
abbrev scC:Array Value:=#[.int .i8 0,.int .i8 1,.int .i8 2,.int .i8 11]
theorem ix_0 (w:World):(Instr.index 94 (.agg scC) (.int .i64 0)).run Tryz.prog w=.ok (.int .i8 0) w:=by rfl
theorem ix_1 (w:World):(Instr.index 94 (.agg scC) (.int .i64 1)).run Tryz.prog w=.ok (.int .i8 1) w:=by rfl
theorem ix_2 (w:World):(Instr.index 94 (.agg scC) (.int .i64 2)).run Tryz.prog w=.ok (.int .i8 2) w:=by rfl
theorem ix_3 (w:World):(Instr.index 94 (.agg scC) (.int .i64 3)).run Tryz.prog w=.ok (.int .i8 11) w:=by rfl
structure Tb (W:World):Prop where
  t:Mrm.Tabs W
  s:∃ T fr,W.heap[(0:Nat)]?=some (.cells #[.int .i8 0,.int .i8 1,.int .i8 2,.int .i8 11] T fr)
theorem Tb.below {W w:World} (h:Tb W) {n:Nat} (b:Below n W w) (hn:W.heap.size ≤ n):Tb w:=by
  obtain ⟨T,fr,h2⟩:=h.s
  exact ⟨h.t.below b hn,T,fr,Mrm.heap_below b h2 hn⟩
theorem Tb.cells {W:World} (h:Tb W):(W.cell? ⟨0,0,none⟩=some (.int .i8 0) ∧ W.cell? ⟨0,1,none⟩=some (.int .i8 1)) ∧ W.cell? ⟨0,2,none⟩=some (.int .i8 2) ∧ W.cell? ⟨0,3,none⟩=some (.int .i8 11):=by
  obtain ⟨T,fr,h⟩:=h.s
  simp only [World.cell?,h]
  exact ⟨⟨rfl,rfl⟩,rfl,rfl⟩
theorem scratch_n (p:Int) (W:World) (hT:Tb W):Calls Tryz.prog 54 #[.int .i8 p] W fun e w'=>e=.returned (.bool (scrB p)) ∧ W=w':=by
  obtain ⟨⟨c0,c1⟩,c2,c3⟩:=hT.cells
  clear hT
  have x0:=ix_0
  have x1:=ix_1
  have x2:=ix_2
  have x3:=ix_3
  unfold scrB
  go_enter Tryz.func54,Tryz.ntmps54
  go_wp2_with fail
  refine wp_loop_rounds 5 ?_
  rw [rounds_succ]
  cases h0:(p == 0)
  · have e0:((0:Int) == p)=false:=by rw [beq_eq_false_iff_ne] at *;omega
    go_wp2_with fail
    rw [rounds_succ]
    cases h1:(p == 1)
    · have e1:((1:Int) == p)=false:=by rw [beq_eq_false_iff_ne] at *;omega
      go_wp2_with fail
      rw [rounds_succ]
      cases h2:(p == 2)
      · have e2:((2:Int) == p)=false:=by rw [beq_eq_false_iff_ne] at *;omega
        go_wp2_with fail
        rw [rounds_succ]
        cases h3:(p == 11)
        · have e3:((11:Int) == p)=false:=by rw [beq_eq_false_iff_ne] at *;omega
          go_wp2_with fail
          rw [rounds_succ]
          have HE:(p == 0 || (p == 1 || (p == 2 || p == 11)))=false:=by rw [h0,h1,h2,h3];rfl
          go_wp2_with fail
          go_ret
          exact ⟨retV (by rw [HE];rfl),rfl⟩
        · obtain rfl:p=11:=by simpa using h3
          go_wp2_with fail
          go_ret
          exact ⟨rfl,rfl⟩
      · obtain rfl:p=2:=by simpa using h2
        go_wp2_with fail
        go_ret
        exact ⟨rfl,rfl⟩
    · obtain rfl:p=1:=by simpa using h1
      go_wp2_with fail
      go_ret
      exact ⟨rfl,rfl⟩
  · obtain rfl:p=0:=by simpa using h0
    go_wp2_with fail
    go_ret
    exact ⟨rfl,rfl⟩
theorem only_n (r:Int) (W:World) (h0:srcB r=true):Calls Tryz.prog 71 #[.int .i8 r] W fun e w'=>e=.returned (.int .i64 (2 ^ r.toNat)) ∧ W=w':=by
  unfold srcB at h0
  simp only [Bool.and_eq_true,decide_eq_true_eq] at h0
  have c:r=0 ∨ r=1 ∨ r=2 ∨ r=3 ∨ r=4 ∨ r=5 ∨ r=6 ∨ r=7 ∨ r=8 ∨ r=9 ∨ r=10:=by omega
  clear h0
  rcases c with rfl | rfl | rfl | rfl | rfl | rfl | rfl | rfl | rfl | rfl | rfl
  all_goals
    go_enter Tryz.func71,Tryz.ntmps71
    go_wp2
    go_ret
    exact ⟨rfl,rfl⟩
theorem source_n (r:Int) (W:World):Calls Tryz.prog 53 #[.int .i8 r] W fun e w'=>e=.returned (.bool (srcB r)) ∧ Below W.heap.size W w':=by
  refine calls_abs Tryz.func53 rfl (Nat.le_of_ble_eq_true rfl) ?_
  intro a0 d0 z0 h0
  replace z0:a0.tmps.size=9:=z0
  have s0_0:a0.tmps.getD 0 undef=.int .i8 r:=h0 0 (Nat.le_of_ble_eq_true rfl)
  refine wp_seq ?_
  refine go_reg [] [] [oF] mo d0 z0 (Below.refl _ _) (by kernel_rfl) trivial (
   hk (fun cx=>cx.q (ex_as rfl rfl)) <|
   hn) ?_
  intro a1 w1 f1
  refine wp_seq ?_
  cases fk1:decide (0 ≤ r)
  case false=>
   have Ffk1:=Lib.hid fk1;clear fk1
   have s0_1:=f1.q 0 s0_0
   refine go_reg [] [] [some (.int .i8 r),oF,oF,oU,oU,oF,oF] mo f1.d f1.z f1.b (by kernel_rfl) trivial (
    hk (fun cx=>cx.q (ex_mv rfl (cx.rq 0 s0_1))) <|
    hk (fun cx=>cx.v (ex_ge (x:=.tmp 3) rfl (cx.u 0 rfl) rfl) rfl (congrArg Value.bool Ffk1.out)) <|
    kmu 0 <|
    kno 0 <|
    kno 1 <|
    hk (fun cx=>cx.q (ex_pf rfl (cx.u 0 rfl) rfl)) <|
    kmu 0 <|
    hn) ?_
   intro a2 w2 f2
   refine wp_ret ?_
   try simp only [Exit.inBlock,Exit.then]
   refine bodyPost_ret (res_t (fn:=Tryz.f53) rfl (f2.v 6 rfl rfl rfl)) f2.d ?_
   have HE:(.bool false:Value)=.bool (srcB r):=by unfold srcB;simp only [Ffk1.out,Bool.true_and,Bool.and_true,Bool.false_and,Bool.and_false,Bool.or_false,Bool.false_or,Bool.true_or,Bool.or_true,Bool.not_true,Bool.not_false,if_true,if_false,Bool.false_eq_true,Bool.true_eq_false,reduceCtorEq];try rfl
   exact ⟨retV HE,f2.b⟩
  have Ffk1:=Lib.hid fk1;clear fk1
  have s0_2:=f1.q 0 s0_0
  refine go_reg [] [] [some (.int .i8 r),oT,oT,some (.int .i8 r),some (.bool (decide (r < 11))),some (.bool (decide (r < 11))),some (.bool (decide (r < 11)))] mo f1.d f1.z f1.b (by kernel_rfl) trivial (
   hk (fun cx=>cx.q (ex_mv rfl (cx.rq 0 s0_2))) <|
   hk (fun cx=>cx.v (ex_ge (x:=.tmp 3) rfl (cx.u 0 rfl) rfl) rfl (congrArg Value.bool Ffk1.out)) <|
   kmu 0 <|
   hk (fun cx=>cx.vy 0 (ex_mv rfl (cx.rq 0 s0_2))) <|
   hk (fun cx=>cx.vy 1 (ex_lt (x:=.tmp 6) rfl (cx.u 0 rfl) rfl)) <|
   hk (fun cx=>cx.q (ex_pt rfl (cx.u 0 rfl) (cx.u 1 rfl))) <|
   kmu 0 <|
   hn) ?_
  intro a3 w3 f3
  refine wp_ret ?_
  try simp only [Exit.inBlock,Exit.then]
  refine bodyPost_ret (res_t (fn:=Tryz.f53) rfl (f3.v 6 rfl rfl rfl)) f3.d ?_
  have HE:(.bool (decide (r < 11)):Value)=.bool (srcB r):=by unfold srcB;simp only [Ffk1.out,Bool.true_and,Bool.and_true,Bool.false_and,Bool.and_false,Bool.or_false,Bool.false_or,Bool.true_or,Bool.or_true,Bool.not_true,Bool.not_false,if_true,if_false,Bool.false_eq_true,Bool.true_eq_false,reduceCtorEq];try rfl
  exact ⟨retV HE,f3.b⟩
theorem block_n (t:Int) (W:World):Calls Tryz.prog 60 #[.int .i64 t] W fun e w'=>e=.returned (.bool (blkB t)) ∧ Below W.heap.size W w':=by
  refine calls_abs Tryz.func60 rfl (Nat.le_of_ble_eq_true rfl) ?_
  intro a0 d0 z0 h0
  replace z0:a0.tmps.size=9:=z0
  have s0_0:a0.tmps.getD 0 undef=.int .i64 t:=h0 0 (Nat.le_of_ble_eq_true rfl)
  refine wp_seq ?_
  refine go_reg [] [] [oF] mo d0 z0 (Below.refl _ _) (by kernel_rfl) trivial (
   hk (fun cx=>cx.q (ex_as rfl rfl)) <|
   hn) ?_
  intro a1 w1 f1
  refine wp_seq ?_
  cases fk1:decide (0 ≤ t)
  case false=>
   have Ffk1:=Lib.hid fk1;clear fk1
   have s0_1:=f1.q 0 s0_0
   refine go_reg [] [] [some (.int .i64 t),oF,oF,oU,oU,oF,oF] mo f1.d f1.z f1.b (by kernel_rfl) trivial (
    hk (fun cx=>cx.q (ex_mv rfl (cx.rq 0 s0_1))) <|
    hk (fun cx=>cx.v (ex_ge (x:=.tmp 3) rfl (cx.u 0 rfl) rfl) rfl (congrArg Value.bool Ffk1.out)) <|
    kmu 0 <|
    kno 0 <|
    kno 1 <|
    hk (fun cx=>cx.q (ex_pf rfl (cx.u 0 rfl) rfl)) <|
    kmu 0 <|
    hn) ?_
   intro a2 w2 f2
   refine wp_ret ?_
   try simp only [Exit.inBlock,Exit.then]
   refine bodyPost_ret (res_t (fn:=Tryz.f60) rfl (f2.v 6 rfl rfl rfl)) f2.d ?_
   have HE:(.bool false:Value)=.bool (blkB t):=by unfold blkB;simp only [Ffk1.out,Bool.true_and,Bool.and_true,Bool.false_and,Bool.and_false,Bool.or_false,Bool.false_or,Bool.true_or,Bool.or_true,Bool.not_true,Bool.not_false,if_true,if_false,Bool.false_eq_true,Bool.true_eq_false,reduceCtorEq];try rfl
   exact ⟨retV HE,f2.b⟩
  have Ffk1:=Lib.hid fk1;clear fk1
  have s0_2:=f1.q 0 s0_0
  refine go_reg [] [] [some (.int .i64 t),oT,oT,some (.int .i64 t),some (.bool (decide (t ≤ 64))),some (.bool (decide (t ≤ 64))),some (.bool (decide (t ≤ 64)))] mo f1.d f1.z f1.b (by kernel_rfl) trivial (
   hk (fun cx=>cx.q (ex_mv rfl (cx.rq 0 s0_2))) <|
   hk (fun cx=>cx.v (ex_ge (x:=.tmp 3) rfl (cx.u 0 rfl) rfl) rfl (congrArg Value.bool Ffk1.out)) <|
   kmu 0 <|
   hk (fun cx=>cx.vy 0 (ex_mv rfl (cx.rq 0 s0_2))) <|
   hk (fun cx=>cx.vy 1 (ex_le (x:=.tmp 6) rfl (cx.u 0 rfl) rfl)) <|
   hk (fun cx=>cx.q (ex_pt rfl (cx.u 0 rfl) (cx.u 1 rfl))) <|
   kmu 0 <|
   hn) ?_
  intro a3 w3 f3
  refine wp_ret ?_
  try simp only [Exit.inBlock,Exit.then]
  refine bodyPost_ret (res_t (fn:=Tryz.f60) rfl (f3.v 6 rfl rfl rfl)) f3.d ?_
  have HE:(.bool (decide (t ≤ 64)):Value)=.bool (blkB t):=by unfold blkB;simp only [Ffk1.out,Bool.true_and,Bool.and_true,Bool.false_and,Bool.and_false,Bool.or_false,Bool.false_or,Bool.true_or,Bool.or_true,Bool.not_true,Bool.not_false,if_true,if_false,Bool.false_eq_true,Bool.true_eq_false,reduceCtorEq];try rfl
  exact ⟨retV HE,f3.b⟩
theorem neq_fn (F:FuncId) (w:World):(binOp .neq 95 (.func (.func F) #[] #[]) .nilFunc).run Tryz.prog w=.ok (.bool true) w:=by
  simp only [binOp]
  simp [go_sem]
  rfl
theorem neq_nil (w:World):(binOp .neq 95 .nilFunc .nilFunc).run Tryz.prog w=.ok (.bool false) w:=by
  simp only [binOp]
  simp [go_sem]
  rfl
theorem fmay_f (cc:Int) (F:FuncId) (hc:∀ wx,Calls Tryz.prog 105 #[.int .i8 cc] wx fun e w'=>e=.returned (.func (.func F) #[] #[]) ∧ Below wx.heap.size wx w') (W:World):Calls Tryz.prog 59 #[.int .i8 cc] W fun e w'=>e=.returned (.bool true) ∧ Below W.heap.size W w':=by
  have HC:=Lib.hid hc
  have en:=neq_fn F
  clear hc
  go_enter Tryz.func59,Tryz.ntmps59
  go_wp2_with fail
  refine (HC.out _).mono ?_
  rintro e w1 ⟨rfl,b1⟩
  go_wp2_with fail
  go_ret
  exact ⟨rfl,b1⟩
theorem fmay_z (cc:Int) (hc:∀ wx,Calls Tryz.prog 105 #[.int .i8 cc] wx fun e w'=>e=.returned (.nilFunc) ∧ Below wx.heap.size wx w') (W:World):Calls Tryz.prog 59 #[.int .i8 cc] W fun e w'=>e=.returned (.bool false) ∧ Below W.heap.size W w':=by
  have HC:=Lib.hid hc
  have en:=neq_nil
  clear hc
  go_enter Tryz.func59,Tryz.ntmps59
  go_wp2_with fail
  refine (HC.out _).mono ?_
  rintro e w1 ⟨rfl,b1⟩
  go_wp2_with fail
  go_ret
  exact ⟨rfl,b1⟩
theorem fmay_n (cc:Int) (h1:cc ≤ 127) (W:World):Calls Tryz.prog 59 #[.int .i8 cc] W fun e w'=>e=.returned (.bool (mayC cc)) ∧ Below W.heap.size W w':=by
  cases h:mayC cc
  · exact fmay_z cc (fun wx=>Flg.cond_none cc h h1 wx) W
  · rcases Flg.may_cases h with rfl | rfl | rfl | rfl | rfl | rfl | rfl | rfl | rfl | rfl
    · exact fmay_f _ _ Flg.cond_2 W
    · exact fmay_f _ _ Flg.cond_3 W
    · exact fmay_f _ _ Flg.cond_4 W
    · exact fmay_f _ _ Flg.cond_5 W
    · exact fmay_f _ _ Flg.cond_6 W
    · exact fmay_f _ _ Flg.cond_7 W
    · exact fmay_f _ _ Flg.cond_12 W
    · exact fmay_f _ _ Flg.cond_13 W
    · exact fmay_f _ _ Flg.cond_14 W
    · exact fmay_f _ _ Flg.cond_15 W
end Go.Proofs.YtbpehbeakhocnaaGreatDoor.Irn
namespace Go.Proofs.YtbpehbeakhocnaaGreatDoor
open Go Go.RowKit
section
variable {F:Fence} {n m:Nat} {P:Program} {ops:Array Oper} {Q:Exit → Act → World → Prop} {i:Nat} {o:Oper} {K:Act → World → Prop} {a:Act} {w w':World}
theorem wpOpIn_v (hF:∀ f,F.fn f) (ho:ops[i]?=some o) (hw:Region.wanted o (yielded ops a.tmps)=true) (hd:∀ c,o.op ≠ .defer c) {v:Value} (hr:(execOp a.eval o).run P w=.ok (.value v) w') (h:K (a.put o.dst v) w'):wpOpIn F n P ops Q i K a w:=by
  unfold wpOpIn
  rw [ho]
  simp only [hw,if_true]
  refine ⟨fun f _=>hF f,?_⟩
  rw [Oper.semAt_eq _ _ _ hd,hr]
  exact h
theorem wpOpIn_s (hF:∀ f,F.fn f) (ho:ops[i]?=some o) (hw:Region.wanted o (yielded ops a.tmps)=true) (hd:∀ c,o.op ≠ .defer c) (hr:(execOp a.eval o).run P w=.ok .skip w') (h:K (a.put o.dst undef) w'):wpOpIn F n P ops Q i K a w:=by
  unfold wpOpIn
  rw [ho]
  simp only [hw,if_true]
  refine ⟨fun f _=>hF f,?_⟩
  rw [Oper.semAt_eq _ _ _ hd,hr]
  exact h
theorem wpOpIn_no (hF:∀ f,F.fn f) (ho:ops[i]?=some o) (hw:Region.wanted o (yielded ops a.tmps)=false) (h:K (a.put o.dst undef) w):wpOpIn F n P ops Q i K a w:=by
  unfold wpOpIn
  rw [ho]
  simp only [hw,Bool.false_eq_true,if_false]
  exact ⟨fun f _=>hF f,h⟩
theorem wpOpIn_call (hF:∀ f,F.fn f) (hn:F.depth=none) (ho:ops[i]?=some o) (hw:Region.wanted o (yielded ops a.tmps)=true) (hd:∀ c,o.op ≠ .defer c) {f:FuncId} {args:Array Value} (hr:(execOp a.eval o).run P w=.ok (.enter f args) w)
    (h:CallsIn F (n - 1) P f args w fun e w'=>∃ v,e=.returned v ∧ K (a.put o.dst v) w'):wpOpIn F n P ops Q i K a w:=by
  unfold wpOpIn
  rw [ho]
  simp only [hw,if_true]
  refine ⟨fun f _=>hF f,?_⟩
  rw [Oper.semAt_eq _ _ _ hd,hr]
  refine ⟨fun h=>(by rw [hn] at h;cases h),CallsIn.mono h ?_⟩
  rintro e w2 ⟨v,rfl,hk⟩
  exact hk
theorem wpOpIn_yield (hF:∀ f,F.fn f) (hn:F.depth=none) (ho:ops[i]?=some o) (hw:Region.wanted o (yielded ops a.tmps)=true) {l:Nat} {x y:Operand} {ts:Array TypeId} {v:Value} (hop:o.op=.call ⟨.value x,#[y],ts⟩) (hx:a.eval x=.func (.yield l) #[] #[]) (hy:a.eval y=v)
    (h:YieldAt F (n - 1) P l #[v] w fun e w'=>∃ v,e=.returned v ∧ K (a.put o.dst v) w'):wpOpIn F n P ops Q i K a w:=by
  unfold wpOpIn
  rw [ho]
  simp only [hw,if_true]
  refine ⟨fun f _=>hF f,?_⟩
  obtain ⟨fn,tmps,assign,body,h1,h2⟩:=h
  have hr:(execOp a.eval o).run P w=.ok (.round l fn tmps assign body) w:=by
    simp only [execOp,hop,List.map_toArray,List.map_cons,List.map_nil,resolve,hx,hy,Deferred.ofValue,invoke,callFunc,Sem.run_bind,Sem.run_pure,Result.andThen_ok]
    simpa using h1
  rw [Oper.semAt_eq _ _ _ (fun c e=>by rw [hop] at e;cases e),hr]
  refine ⟨fun h=>(by rw [hn] at h;cases h),RoundIn.mono h2 ?_⟩
  rintro e w2 ⟨v,rfl,hk⟩
  exact hk
end
section law
variable {F:Fence} {m:Nat} {P:Program} {ops:Array Oper} {Q:Exit → Act → World → Prop} {n:Nat} {a0:Act} {w0:World} {S:(Nat → Bool) → (Nat → Value) → World → Prop} {K D:List Nat} {l:List (Option Value)}
def HopI (F:Fence) (m:Nat) (P:Program) (ops:Array Oper) (Q:Exit → Act → World → Prop) (n:Nat) (a0:Act) (S:(Nat → Bool) → (Nat → Value) → World → Prop) (K D:List Nat) (l:List (Option Value)) (i:Nat) (L:List Oper):Prop:=
  ∀ j o,L[j]?=some o → ∀ fl a w,Cz ops n a0 S K D l (i + j) o fl a w → (∀ q,i + j ≤ q → q < ops.size → fl q=false) → wpOpIn F m P ops Q (i + j) (PostZ S l (i + j) o fl a) a w
theorem xn {i:Nat}:HopI F m P ops Q n a0 S K D l i []:=fun j o h=>by simp at h
theorem xc {i:Nat} {o:Oper} {L:List Oper} (h:∀ {fl a w},Cz ops n a0 S K D l i o fl a w → (∀ q,i ≤ q → q < ops.size → fl q=false) → wpOpIn F m P ops Q i (PostZ S l i o fl a) a w) (t:HopI F m P ops Q n a0 S K D l (i + 1) L):HopI F m P ops Q n a0 S K D l i (o :: L):=fun j o' hj=>by
  cases j with
  | zero=>
    have e:o=o':=by simpa using hj
    subst e
    exact fun _ _ _ c s=>h c s
  | succ j=>
    have:=t j o' (by simpa using hj)
    rw [show i + 1 + j=i + (j + 1) by omega] at this
    exact this
structure InvI (ops:Array Oper) (n:Nat) (a0:Act) (S:(Nat → Bool) → (Nat → Value) → World → Prop) (l:List (Option Value)) (k:Nat) (a:Act) (w:World):Prop where
  s:S (fun i=>decide (i < k) || decide (ops.size ≤ i)) (slotOf a) w
  defers:a.defers=a0.defers
  size:a.tmps.size=n
  rest:∀ j,(∀ (i:Nat) (o:Oper),ops[i]?=some o → o.dst ≠ some j) → a.tmps.getD j undef=a0.tmps.getD j undef
  done:∀ (i:Nat) (o:Oper),ops[i]?=some o → i < k → TabO l i (own o a)
  undone:∀ (i:Nat) (o:Oper) (d:Nat),ops[i]?=some o → o.dst=some d → k ≤ i → a.tmps.getD d undef=a0.tmps.getD d undef
theorem go_regi {id:Nat} (S:(Nat → Bool) → (Nat → Value) → World → Prop) (K D:List Nat) (l:List (Option Value)) (hl:Loc K D S) (hd0:a0.defers=[]) (hz:a0.tmps.size=n) (hk:(chkBack ops && chkDst ops && chkIn ops n)=true)
    (h0:∀ (fl:Nat → Bool),(∀ i,i < ops.size → fl i=false) → S fl (slotOf a0) w0)
    (hop:HopI F m P ops Q n a0 S K D l 0 ops.toList) (hq:∀ a w,BehZ ops n a0 S l a w → Q .normal a w):(Code.region id ops false).wpIn F m P Q a0 w0:=by
  simp only [Bool.and_eq_true] at hk
  obtain ⟨⟨h1,h2⟩,h3⟩:=hk
  have hback:=back_of h1
  have hdst:=dst_of h2
  have hin:=in_of h3
  refine wpIn_region ?_
  have key:∀ (j k:Nat) a w,k + j=ops.size → InvI ops n a0 S l k a w → wpOpsIn F m P ops Q (List.range' k j) a w:=by
    intro j
    induction j with
    | zero=>
      intro k a w hk hI
      refine hq a w ⟨hI.defers.trans hd0,hI.size,fun j hj x hx=>(hI.rest j (not_of hj)).trans hx,fun i o d x ho hod hlx=>?_,_,fun i hi=>by simp;omega,hI.s⟩
      have:=hI.done i o ho (by have:=(Array.getElem?_eq_some_iff.1 ho).1;omega)
      unfold TabO at this
      rw [hlx] at this
      unfold own at this
      rw [hod] at this
      exact this
    | succ j ih=>
      intro k a w hk hI
      rw [List.range'_succ,wpOpsIn_cons]
      have hkl:k < ops.size:=by omega
      have ho:ops[k]?=some ops[k]:=Array.getElem?_eq_getElem hkl
      generalize ops[k]=o at ho
      have hc:Cz ops n a0 S K D l k o (fun i=>decide (i < k) || decide (ops.size ≤ i)) a w:=by
        refine ⟨hl,ho,hI.s,by simp;omega,fun i oi hoi hf e he hb=>?_,hI.size,hI.rest,fun p e hp hb=>?_,fun i oi d hoi hdi hf=>hI.undone i oi d hoi hdi ?_⟩
        · have hi:=(Array.getElem?_eq_some_iff.1 hoi).1
          have hlt:i < k:=by simp at hf;omega
          have:=hback i oi hoi e he hb
          simp;omega
        · have hb':=hback k o ho e (Array.mem_of_getElem? hp) hb
          exact ⟨by simp;omega,fun o' ho'=>hI.done e.on o' ho' hb'⟩
        · have hi:=(Array.getElem?_eq_some_iff.1 hoi).1
          simp at hf;omega
      have hh:=hop k o (by rw [Array.getElem?_toList];exact ho) _ a w (by rw [Nat.zero_add];exact hc) (fun q hq hlt=>by simp;omega)
      rw [Nat.zero_add] at hh
      refine wpOpIn_mono ?_ hh
      rintro a' w' ⟨v,rfl,hR,hS⟩
      refine ih (k + 1) _ _ (by omega) ?_
      have hS':S (fun i=>decide (i < k + 1) || decide (ops.size ≤ i)) (slotOf (a.put o.dst v)) w':=by
        have e:(fun i=>decide (i < k + 1) || decide (ops.size ≤ i))=upd (fun i=>decide (i < k) || decide (ops.size ≤ i)) k:=by
          funext i
          unfold upd
          by_cases h:i=k
          · rw [if_pos h];simp;omega
          · rw [if_neg h]
            congr 1
            exact decide_eq_decide.2 (by omega)
        rw [e];exact hS
      cases hod:o.dst with
      | none=>
        rw [hod] at hS' hR
        refine ⟨hS',hI.defers,hI.size,hI.rest,fun i oi hoi hlt=>?_,fun i oi d hoi hdi hle=>hI.undone i oi d hoi hdi (by omega)⟩
        by_cases hik:i=k
        · subst hik
          rw [ho] at hoi;cases hoi
          exact hR
        · exact hI.done i oi hoi (by omega)
      | some d0=>
        have hd0':d0 < a.tmps.size:=by rw [hI.size];exact hin k o d0 ho hod
        have hput:=put_getD a d0 v hd0'
        rw [hod] at hS' hR
        refine ⟨hS',hI.defers,by show (a.tmps.setIfInBounds d0 v).size=_;simp [hI.size],fun i hi=>?_,fun i oi hoi hlt=>?_,fun i oi d hoi hdi hle=>?_⟩
        · rw [hput i,if_neg (fun e=>hi k o ho (by rw [hod,e]))]
          exact hI.rest i hi
        · by_cases hik:i=k
          · subst hik
            rw [ho] at hoi;cases hoi
            exact hR
          · have hv:own oi (a.put (some d0) v)=own oi a:=by
              unfold own
              cases hdj:oi.dst with
              | none=>rfl
              | some d=>
                show (a.put (some d0) v).tmps.getD d undef=a.tmps.getD d undef
                rw [hput d,if_neg (fun e=>hik (hdst i k oi o d hoi ho hdj (by rw [hod,e])))]
            rw [hv]
            exact hI.done i oi hoi (by omega)
        · rw [hput d,if_neg (fun e=>by have:=hdst i k oi o d hoi ho hdi (by rw [hod,e]);omega)]
          exact hI.undone i oi d hoi hdi (by omega)
  have:=key ops.size 0 a0 w0 (by omega) ⟨h0 _ (fun i hi=>by simp;omega),rfl,hz,fun _ _=>rfl,fun i o ho h=>absurd h (by omega),fun _ _ _ _ _ _=>rfl⟩
  rwa [← List.range_eq_range'] at this
end law
section
variable {F:Fence} {m:Nat} {P:Program} {ops:Array Oper} {Q:Exit → Act → World → Prop} {n:Nat} {a0:Act} {S:(Nat → Bool) → (Nat → Value) → World → Prop} {K D:List Nat} {l:List (Option Value)} {i:Nat} {o:Oper} {fl:Nat → Bool} {a:Act} {w w':World}
def noDefer (o:Oper):Bool:=match o.op with | .defer _=>false | _=>true
theorem noDefer_of (h:noDefer o=true):∀ c,o.op ≠ .defer c:=fun c e=>by unfold noDefer at h;rw [e] at h;cases h
theorem Cz.iv (c:Cz ops n a0 S K D l i o fl a w) (hF:∀ f,F.fn f) {v:Value} (hr:(execOp a.eval o).run P w=.ok (.value v) w) (hk:okZ o n i K D=true) (hd:noDefer o=true) (ht:TabO l i v):wpOpIn F m P ops Q i (PostZ S l i o fl a) a w:=by
  unfold okZ at hk
  cases hg:o.guard with
  | some g=>rw [hg] at hk;cases hk
  | none=>
    cases hod:o.dst with
    | none=>rw [hg,hod] at hk;cases hk
    | some d=>
      rw [hg,hod] at hk
      simp only at hk
      rw [Bool.and_eq_true] at hk
      exact wpOpIn_v hF c.ho (wn hg) (noDefer_of hd) hr ⟨v,rfl,by rw [own_some hod c.sz hk.1];exact ht,by rw [hod];exact c.keep hk.2⟩
theorem Cz.ival (c:Cz ops n a0 S K D l i o fl a w) (hF:∀ f,F.fn f) (hw:Region.wanted o (yielded ops a.tmps)=true) {v:Value} (hr:(execOp a.eval o).run P w=.ok (.value v) w) {d:Nat} (hod:o.dst=some d) (hlt:Nat.blt d n=true) (hk:(K.all (fun k=>!Nat.beq k i) && D.all (fun k=>!Nat.beq k d))=true) (hd:noDefer o=true) (ht:TabO l i v):wpOpIn F m P ops Q i (PostZ S l i o fl a) a w:=
  wpOpIn_v hF c.ho hw (noDefer_of hd) hr ⟨v,rfl,by rw [own_some hod c.sz hlt];exact ht,by rw [hod];exact c.keep hk⟩
theorem Cz.ino (c:Cz ops n a0 S K D l i o fl a w) (hF:∀ f,F.fn f) (hw:Region.wanted o (yielded ops a.tmps)=false) {d:Nat} (hod:o.dst=some d) (hlt:Nat.blt d n=true) (hk:(K.all (fun k=>!Nat.beq k i) && D.all (fun k=>!Nat.beq k d))=true) (ht:TabO l i undef):wpOpIn F m P ops Q i (PostZ S l i o fl a) a w:=
  wpOpIn_no hF c.ho hw ⟨undef,rfl,by rw [own_some hod c.sz hlt];exact ht,by rw [hod];exact c.keep hk⟩
theorem Cz.wy (c:Cz ops n a0 S K D l i o fl a w) {j:Nat} {want:Bool} {oj:Oper} {d:Nat} (hg:o.guard=some (j,want)) (hj:ops[j]?=some oj) (hd:oj.dst=some d) (hlt:Nat.blt d n=true) (h:a.tmps.getD d undef=.bool want):Region.wanted o (yielded ops a.tmps)=true:=
  wanted_yes j d want h (by rw [c.sz];exact Nat.le_of_ble_eq_true hlt) hg hj hd (by simp)
theorem Cz.wo (c:Cz ops n a0 S K D l i o fl a w) {j:Nat} {want b:Bool} {oj:Oper} {d:Nat} (hg:o.guard=some (j,want)) (hj:ops[j]?=some oj) (hd:oj.dst=some d) (hlt:Nat.blt d n=true) (h:a.tmps.getD d undef=.bool b) (hb:(b == want)=false):Region.wanted o (yielded ops a.tmps)=false:=
  wanted_no j d b h (by rw [c.sz];exact Nat.le_of_ble_eq_true hlt) hg hj hd hb
end
end Go.Proofs.YtbpehbeakhocnaaGreatDoor
