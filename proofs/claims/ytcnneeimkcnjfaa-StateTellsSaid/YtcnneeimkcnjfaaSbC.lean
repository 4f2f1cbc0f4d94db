import Derived.Test.YtcnneeimkcnjfaaSbB
import Derived.Test.YtcnneeimkcnjfaaSy
namespace Go.Proofs.Ytcnneeimkcnjfaa.Bnd
open Go.RowKit
set_option linter.unusedVariables false
set_option linter.unusedSimpArgs false
set_option linter.unnecessarySimpa false
set_option maxRecDepth 100000
theorem ldR {ρ:Operand → Value} {o:Oper} {w:World} {x:Operand} {g:Nat} {a b c d:Int} {fr:Nat × Nat} (ho:o.op=.load 25 x) (hx:ρ x=.pointer (some ⟨g,0,none⟩)) (hg:w.heap[g]?=some (.cells (cR a b c d) 25 fr)):(execOp ρ o).run Try.prog w=.ok (.value (.agg (cR a b c d))) w:=
  exec_loadR 25 x ho g 0 hx hg [.int .u64 a,.int .u64 b,.int .i64 c,.int .i64 d] rfl _ Try.underlying25 rfl (by kernel_rfl)
theorem ldU {ρ:Operand → Value} {o:Oper} {w:World} {x:Operand} {g:Nat} {a b:Int} {fr:Nat × Nat} (ho:o.op=.load 97 x) (hx:ρ x=.pointer (some ⟨g,0,none⟩)) (hg:w.heap[g]?=some (.cells (cU a b) 97 fr)):(execOp ρ o).run Try.prog w=.ok (.value (.agg (cU a b))) w:=
  exec_loadR 97 x ho g 0 hx hg [.int .u64 a,.int .u64 b] rfl _ Try.underlying97 rfl (by kernel_rfl)
theorem ldS {ρ:Operand → Value} {o:Oper} {w:World} {x:Operand} {g:Nat} {a b:Int} {fr:Nat × Nat} (ho:o.op=.load 100 x) (hx:ρ x=.pointer (some ⟨g,0,none⟩)) (hg:w.heap[g]?=some (.cells (cS a b) 100 fr)):(execOp ρ o).run Try.prog w=.ok (.value (.agg (cS a b))) w:=
  exec_loadR 100 x ho g 0 hx hg [.int .i64 a,.int .i64 b] rfl _ Try.underlying100 rfl (by kernel_rfl)
theorem may_n (a b c d:Int) (W:World):Calls Try.prog 69 #[.agg #[.int .u64 a,.int .u64 b,.int .i64 c,.int .i64 d]] W fun e w'=>e=.returned (.bool (Rg.mayB ⟨⟨a,b⟩,⟨c,d⟩⟩)) ∧ Below W.heap.size W w':=by
  go_enter Try.func69,Try.ntmps69
  go_wp2
  all_goals go_returns
  all_goals refine ⟨(by first | exact retB rfl | exact retB (by rename_i h;show false=(decide (a ≤ b) && decide (c ≤ d));rw [decide_eq_false (by omega)];rfl) | exact retB (by rename_i h;show _=(decide (a ≤ b) && decide (c ≤ d));rw [decide_eq_true (show a ≤ b by omega)];rfl)),?_⟩
  all_goals (repeat' (first | exact Below.refl _ _ | assumption | apply below_new | (refine below_call ?_ (by assumption))))
theorem all_n  (W:World):Calls Try.prog 58 #[] W fun e w'=>e=.returned (.agg #[.int .u64 (allR).u.lo,.int .u64 (allR).u.hi,.int .i64 (allR).s.lo,.int .i64 (allR).s.hi]) ∧ Below W.heap.size W w':=by
  go_enter Try.func58,Try.ntmps58
  go_wp2
  all_goals go_returns
  all_goals refine ⟨rfl,?_⟩
  all_goals (repeat' (first | exact Below.refl _ _ | assumption | apply below_new | (refine below_call ?_ (by assumption))))
theorem one_n (v:Int) (W:World):Calls Try.prog 63 #[.int .u64 v] W fun e w'=>e=.returned (.agg #[.int .u64 (oneR v).u.lo,.int .u64 (oneR v).u.hi,.int .i64 (oneR v).s.lo,.int .i64 (oneR v).s.hi]) ∧ Below W.heap.size W w':=by
  go_enter Try.func63,Try.ntmps63
  go_wp2
  all_goals go_returns
  all_goals refine ⟨retR rfl rfl (by rw [wrap64];rfl) (by rw [wrap64];rfl),?_⟩
  all_goals (repeat' (first | exact Below.refl _ _ | assumption | apply below_new | (refine below_call ?_ (by assumption))))
set_option maxHeartbeats 4000000 in
theorem narrow_n (a b c d:Int) (W:World) (ok:Rg.Ok ⟨⟨a,b⟩,⟨c,d⟩⟩):Calls Try.prog 120 #[.agg #[.int .u64 a,.int .u64 b,.int .i64 c,.int .i64 d]] W fun e w'=>e=.returned (.tuple #[.agg #[.int .u64 (Rg.nar ⟨⟨a,b⟩,⟨c,d⟩⟩).u.lo,.int .u64 (Rg.nar ⟨⟨a,b⟩,⟨c,d⟩⟩).u.hi,.int .i64 (Rg.nar ⟨⟨a,b⟩,⟨c,d⟩⟩).s.lo,.int .i64 (Rg.nar ⟨⟨a,b⟩,⟨c,d⟩⟩).s.hi],.bool (Rg.narB ⟨⟨a,b⟩,⟨c,d⟩⟩)]) ∧ Below W.heap.size W w':=by
  have HO:=Lib.hid ok
  obtain ⟨x1,e1⟩:∃ x,sameU ⟨c,d⟩ ⟨a,b⟩=x:=⟨_,rfl⟩
  obtain ⟨s1,e2⟩:∃ x,Pr.meet ⟨c,d⟩ x1=x:=⟨_,rfl⟩
  obtain ⟨x2,e3⟩:∃ x,sameS ⟨a,b⟩ s1=x:=⟨_,rfl⟩
  obtain ⟨u1,e4⟩:∃ x,Pr.meet ⟨a,b⟩ x2=x:=⟨_,rfl⟩
  obtain ⟨x3,e5⟩:∃ x,sameU s1 u1=x:=⟨_,rfl⟩
  obtain ⟨s2,e6⟩:∃ x,Pr.meet s1 x3=x:=⟨_,rfl⟩
  have o1:(Rg.nS ⟨⟨a,b⟩,⟨c,d⟩⟩).Ok:=ok_nS ok
  have o2:(Rg.nS ⟨⟨a,b⟩,⟨c,d⟩⟩).nU.Ok:=ok_nU o1
  have n3:Rg.nar3 ⟨⟨a,b⟩,⟨c,d⟩⟩=⟨u1,s2⟩:=by rw [← e6,← e5,← e4,← e3,← e2,← e1];rfl
  have p1:Pr.S s1:=by rw [← e2,← e1];exact o1.2
  have p2:Pr.U u1:=by rw [← e4,← e3,← e2,← e1];exact o2.1
  have HO1:=Lib.hid p1
  have HO2:=Lib.hid p2
  have E1:=Lib.hid e1
  have E2:=Lib.hid e2
  have E3:=Lib.hid e3
  have E4:=Lib.hid e4
  have E5:=Lib.hid e5
  have E6:=Lib.hid e6
  have m0:Rg.narB ⟨⟨a,b⟩,⟨c,d⟩⟩=Rg.mayB ⟨u1,s2⟩:=by unfold Rg.narB;rw [n3]
  have HE0:Hid (Rg.mayB ⟨u1,s2⟩=false → Ending.returned (.tuple #[.agg #[.int .u64 (allR).u.lo,.int .u64 (allR).u.hi,.int .i64 (allR).s.lo,.int .i64 (allR).s.hi],.bool false])=.returned (.tuple #[.agg #[.int .u64 (Rg.nar ⟨⟨a,b⟩,⟨c,d⟩⟩).u.lo,.int .u64 (Rg.nar ⟨⟨a,b⟩,⟨c,d⟩⟩).u.hi,.int .i64 (Rg.nar ⟨⟨a,b⟩,⟨c,d⟩⟩).s.lo,.int .i64 (Rg.nar ⟨⟨a,b⟩,⟨c,d⟩⟩).s.hi],.bool (Rg.narB ⟨⟨a,b⟩,⟨c,d⟩⟩)])):=Lib.hid (fun m=>by rw [← m0] at m;unfold Rg.nar;rw [m];rfl)
  have HE1:Hid (Rg.mayB ⟨u1,s2⟩=true → Ending.returned (.tuple #[.agg #[.int .u64 ((⟨u1,s2⟩:Rg)).u.lo,.int .u64 ((⟨u1,s2⟩:Rg)).u.hi,.int .i64 ((⟨u1,s2⟩:Rg)).s.lo,.int .i64 ((⟨u1,s2⟩:Rg)).s.hi],.bool true])=.returned (.tuple #[.agg #[.int .u64 (Rg.nar ⟨⟨a,b⟩,⟨c,d⟩⟩).u.lo,.int .u64 (Rg.nar ⟨⟨a,b⟩,⟨c,d⟩⟩).u.hi,.int .i64 (Rg.nar ⟨⟨a,b⟩,⟨c,d⟩⟩).s.lo,.int .i64 (Rg.nar ⟨⟨a,b⟩,⟨c,d⟩⟩).s.hi],.bool (Rg.narB ⟨⟨a,b⟩,⟨c,d⟩⟩)])):=Lib.hid (fun m=>by rw [← m0] at m;unfold Rg.nar;rw [m,n3];rfl)
  clear ok e1 e2 e3 e4 e5 e6 o1 o2 p1 p2 m0 n3
  refine calls_abs Try.func120 rfl (Nat.le_of_ble_eq_true rfl) ?_
  intro a0 d0 z0 h0
  replace z0:a0.tmps.size=33:=z0
  have s0_0:a0.tmps.getD 0 undef=.agg (cR a b c d):=h0 0 (Nat.le_of_ble_eq_true rfl)
  refine wp_seq ?_
  refine go_reg [] [⟨0,1,25,(cR a b c d),none,#[]⟩,⟨1,2,25,(cR 0 0 0 0),none,#[]⟩] [none,none,some (.bool false)] mo d0 z0 (Below.refl _ _) (by kernel_rfl) trivial (
   hc (fun _ ax _ cx=>cx.al (wn rfl) 0 rfl (by simp [execOp,Act.eval,(show ax.tmps.getD 0 undef=.agg (cR a b c d) from (cx.rq 0 s0_0)),go_sem]) rfl rfl rfl rfl rfl trivial) <|
   hk (fun cx=>cx.al (wn rfl) 1 rfl (by simp [execOp,Act.eval,go_sem]) rfl rfl rfl rfl rfl trivial) <|
   hk (fun cx=>cx.v (ex_as rfl rfl) rfl rfl) <|
   hn) ?_
  intro a1 w1 f1
  obtain ⟨g1,u_g1,q_g1,b_g1⟩:=f1.al.1
  obtain ⟨g2,u_g2,q_g2,b_g2⟩:=f1.al.2.1
  refine wp_seq ?_
  refine go_reg [bx g1 25 (cR a b c d)] [⟨4,4,97,(cU 0 0),some 6,(cU a b)⟩,⟨5,5,100,(cS 0 0),some 7,(cS c d)⟩] [some (.agg (cR a b c d)),some (.agg (cU a b)),some (.agg (cR a b c d)),some (.agg (cS c d)),none,none,none,none] mo f1.d f1.z f1.b (by kernel_rfl) ⟨b_g1,trivial⟩ (
   hk (fun cx=>cx.v (ldR rfl (cx.rq 1 u_g1) (cx.rn 0 rfl)) rfl rfl) <|
   hc (fun _ _ wx cx=>cx.c rfl (args1 (cx.u 0 rfl)) Try.func91 (by decide +kernel) (unsigned_n a b c d wx) rfl rfl) <|
   hk (fun cx=>cx.v (ldR rfl (cx.rq 1 u_g1) (cx.rn 0 rfl)) rfl rfl) <|
   hc (fun _ _ wx cx=>cx.c rfl (args1 (cx.u 0 rfl)) Try.func93 (by decide +kernel) (signed_n a b c d wx) rfl rfl) <|
   hk (fun cx=>cx.al (wn rfl) 0 rfl (by simp [execOp,Act.eval,go_sem]) rfl rfl rfl rfl (by kernel_rfl) trivial) <|
   hk (fun cx=>cx.al (wn rfl) 1 rfl (by simp [execOp,Act.eval,go_sem]) rfl rfl rfl rfl (by kernel_rfl) trivial) <|
   hk (fun cx=>cx.stA (wn rfl) rfl rfl 0 0 rfl rfl rfl rfl (cx.u 1 rfl) (by kernel_rfl) rfl (by simp [Value.oneCell']) f1.b.size rfl rfl trivial) <|
   hk (fun cx=>cx.stA (wn rfl) rfl rfl 1 0 rfl rfl rfl rfl (cx.u 1 rfl) (by kernel_rfl) rfl (by simp [Value.oneCell']) f1.b.size rfl rfl trivial) <|
   hn) ?_
  intro a2 w2 f2
  obtain ⟨g3,u_g3,q_g3,b_g3⟩:=f2.al.1
  obtain ⟨g4,u_g4,q_g4,b_g4⟩:=f2.al.2.1
  refine wp_seq ?_
  refine go_reg [⟨g4,100,(cS c d),some 5,(cS s1.lo s1.hi)⟩,bx g3 97 (cU a b)] [] [some (.agg (cS c d)),some (.agg (cS c d)),some (.agg (cU a b)),some (.agg (cS x1.lo x1.hi)),some (.agg (cS s1.lo s1.hi)),none] mo f2.d f2.z f2.b (by kernel_rfl) ⟨b_g4,b_g3,trivial⟩ (
   hk (fun cx=>cx.v (ldS rfl (cx.rq 5 u_g4) (cx.rf 0 rfl (by kernel_rfl))) rfl rfl) <|
   hk (fun cx=>cx.v (ldS rfl (cx.rq 5 u_g4) (cx.rf 0 rfl (by kernel_rfl))) rfl rfl) <|
   hk (fun cx=>cx.v (ldU rfl (cx.rq 4 u_g3) (cx.rn 1 rfl)) rfl rfl) <|
   hc (fun _ _ wx cx=>cx.c rfl (args2 (cx.u 0 rfl) (cx.u 1 rfl)) Try.func125 (by decide +kernel) (sameU_n c d a b wx HO.out.1) rfl (congrArg (fun x:Pr=>Value.agg #[.int .i64 x.lo,.int .i64 x.hi]) E1.out)) <|
   hc (fun _ _ wx cx=>cx.c rfl (args2 (cx.u 0 rfl) (cx.u 1 rfl)) Try.func122 (by decide +kernel) (meetS_n c d x1.lo x1.hi wx) rfl (congrArg (fun x:Pr=>Value.agg #[.int .i64 x.lo,.int .i64 x.hi]) E2.out)) <|
   hk (fun cx=>cx.stR (wn rfl) rfl rfl 0 rfl (cx.rq 5 u_g4) (cx.u 0 rfl) (by kernel_rfl) rfl (by simp [Value.oneCell']) (Nat.le_trans f1.b.size q_g4) rfl ⟨(ne_ptr (pairAt f2.ps 0 1 (by decide) rfl rfl) u_g3 u_g4),trivial⟩ trivial) <|
   hn) ?_
  intro a3 w3 f3
  refine wp_seq ?_
  have b_g3_1:=f3.kp b_g3 ⟨.inr (ne_ptr (pairAt f2.ps 0 1 (by decide) rfl rfl) u_g3 u_g4),.inl rfl,trivial⟩
  have s4_2:=f3.q 4 u_g3
  have s5_3:=f3.q 5 u_g4
  refine go_reg [⟨g3,97,(cU a b),some 5,(cU u1.lo u1.hi)⟩,bx g4 100 (cS s1.lo s1.hi)] [] [some (.agg (cU a b)),some (.agg (cU a b)),some (.agg (cS s1.lo s1.hi)),some (.agg (cU x2.lo x2.hi)),some (.agg (cU u1.lo u1.hi)),none] mo f3.d f3.z f3.b (by kernel_rfl) ⟨b_g3_1,f3.rows.1,trivial⟩ (
   hk (fun cx=>cx.v (ldU rfl (cx.rq 4 s4_2) (cx.rf 0 rfl (by kernel_rfl))) rfl rfl) <|
   hk (fun cx=>cx.v (ldU rfl (cx.rq 4 s4_2) (cx.rf 0 rfl (by kernel_rfl))) rfl rfl) <|
   hk (fun cx=>cx.v (ldS rfl (cx.rq 5 s5_3) (cx.rn 1 rfl)) rfl rfl) <|
   hc (fun _ _ wx cx=>cx.c rfl (args2 (cx.u 0 rfl) (cx.u 1 rfl)) Try.func126 (by decide +kernel) (sameS_n a b s1.lo s1.hi wx HO1.out) rfl (congrArg (fun x:Pr=>Value.agg #[.int .u64 x.lo,.int .u64 x.hi]) E3.out)) <|
   hc (fun _ _ wx cx=>cx.c rfl (args2 (cx.u 0 rfl) (cx.u 1 rfl)) Try.func121 (by decide +kernel) (meetU_n a b x2.lo x2.hi wx) rfl (congrArg (fun x:Pr=>Value.agg #[.int .u64 x.lo,.int .u64 x.hi]) E4.out)) <|
   hk (fun cx=>cx.stR (wn rfl) rfl rfl 0 rfl (cx.rq 4 s4_2) (cx.u 0 rfl) (by kernel_rfl) rfl (by simp [Value.oneCell']) (Nat.le_trans f1.b.size q_g3) rfl ⟨(ne_ptr (pairAt f2.ps 0 1 (by decide) rfl rfl) u_g3 u_g4).symm,trivial⟩ trivial) <|
   hn) ?_
  intro a4 w4 f4
  refine wp_seq ?_
  have b_g4_4:=f4.kp f3.rows.1 ⟨.inr (ne_ptr (pairAt f2.ps 0 1 (by decide) rfl rfl) u_g3 u_g4).symm,.inl rfl,trivial⟩
  have s5_5:=f4.q 5 s5_3
  have s4_6:=f4.q 4 s4_2
  refine go_reg [⟨g4,100,(cS s1.lo s1.hi),some 5,(cS s2.lo s2.hi)⟩,bx g3 97 (cU u1.lo u1.hi)] [] [some (.agg (cS s1.lo s1.hi)),some (.agg (cS s1.lo s1.hi)),some (.agg (cU u1.lo u1.hi)),some (.agg (cS x3.lo x3.hi)),some (.agg (cS s2.lo s2.hi)),none] mo f4.d f4.z f4.b (by kernel_rfl) ⟨b_g4_4,f4.rows.1,trivial⟩ (
   hk (fun cx=>cx.v (ldS rfl (cx.rq 5 s5_5) (cx.rf 0 rfl (by kernel_rfl))) rfl rfl) <|
   hk (fun cx=>cx.v (ldS rfl (cx.rq 5 s5_5) (cx.rf 0 rfl (by kernel_rfl))) rfl rfl) <|
   hk (fun cx=>cx.v (ldU rfl (cx.rq 4 s4_6) (cx.rn 1 rfl)) rfl rfl) <|
   hc (fun _ _ wx cx=>cx.c rfl (args2 (cx.u 0 rfl) (cx.u 1 rfl)) Try.func125 (by decide +kernel) (sameU_n s1.lo s1.hi u1.lo u1.hi wx HO2.out) rfl (congrArg (fun x:Pr=>Value.agg #[.int .i64 x.lo,.int .i64 x.hi]) E5.out)) <|
   hc (fun _ _ wx cx=>cx.c rfl (args2 (cx.u 0 rfl) (cx.u 1 rfl)) Try.func122 (by decide +kernel) (meetS_n s1.lo s1.hi x3.lo x3.hi wx) rfl (congrArg (fun x:Pr=>Value.agg #[.int .i64 x.lo,.int .i64 x.hi]) E6.out)) <|
   hk (fun cx=>cx.stR (wn rfl) rfl rfl 0 rfl (cx.rq 5 s5_5) (cx.u 0 rfl) (by kernel_rfl) rfl (by simp [Value.oneCell']) (Nat.le_trans f1.b.size q_g4) rfl ⟨(ne_ptr (pairAt f2.ps 0 1 (by decide) rfl rfl) u_g3 u_g4),trivial⟩ trivial) <|
   hn) ?_
  intro a5 w5 f5
  refine wp_seq ?_
  refine wp_seq ?_
  have b_g3_7:=f5.kp f4.rows.1 ⟨.inr (ne_ptr (pairAt f2.ps 0 1 (by decide) rfl rfl) u_g3 u_g4),.inl rfl,trivial⟩
  have b_g1_8:=f5.kp (f4.kp (f3.kp (f2.k b_g1) ⟨.inr (ne_row b_g1 q_g4),.inl rfl,trivial⟩) ⟨.inr (ne_row b_g1 q_g3),.inl rfl,trivial⟩) ⟨.inr (ne_row b_g1 q_g4),.inl rfl,trivial⟩
  have s4_9:=f5.q 4 s4_6
  have s5_10:=f5.q 5 s5_5
  have s1_11:=f5.q 1 (f4.q 1 (f3.q 1 (f2.q 1 u_g1)))
  refine go_reg [bx g3 97 (cU u1.lo u1.hi),bx g4 100 (cS s2.lo s2.hi),⟨g1,25,(cR a b c d),some 3,(cR u1.lo u1.hi s2.lo s2.hi)⟩] [] [some (.agg (cU u1.lo u1.hi)),some (.agg (cS s2.lo s2.hi)),some (.agg (cR u1.lo u1.hi s2.lo s2.hi)),none] mo f5.d f5.z f5.b (by kernel_rfl) ⟨b_g3_7,f5.rows.1,b_g1_8,trivial⟩ (
   hk (fun cx=>cx.v (ldU rfl (cx.rq 4 s4_9) (cx.rn 0 rfl)) rfl rfl) <|
   hk (fun cx=>cx.v (ldS rfl (cx.rq 5 s5_10) (cx.rn 1 rfl)) rfl rfl) <|
   hc (fun _ _ wx cx=>cx.c rfl (args2 (cx.u 0 rfl) (cx.u 1 rfl)) Try.func86 (by decide +kernel) (both_n u1.lo u1.hi s2.lo s2.hi wx) rfl rfl) <|
   hk (fun cx=>cx.stR (wn rfl) rfl rfl 2 rfl (cx.rq 1 s1_11) (cx.u 0 rfl) (by kernel_rfl) rfl (by simp [Value.oneCell']) q_g1 rfl ⟨(ne_row b_g1 q_g3).symm,(ne_row b_g1 q_g4).symm,trivial⟩ trivial) <|
   hn) ?_
  intro a6 w6 f6
  refine wp_seq ?_
  cases fk1:Rg.mayB ⟨u1,s2⟩
  case false=>
   have Ffk1:=Lib.hid fk1;clear fk1
   have s1_12:=f6.q 1 s1_11
   refine go_reg [bx g1 25 (cR u1.lo u1.hi s2.lo s2.hi)] [] [some (.agg (cR u1.lo u1.hi s2.lo s2.hi)),some (.bool false),some (.bool true)] mo f6.d f6.z f6.b (by kernel_rfl) ⟨f6.rows.2.2.1,trivial⟩ (
    hk (fun cx=>cx.v (ldR rfl (cx.rq 1 s1_12) (cx.rn 0 rfl)) rfl rfl) <|
    hc (fun _ _ wx cx=>cx.c rfl (args1 (cx.u 0 rfl)) Try.func69 (by decide +kernel) (may_n u1.lo u1.hi s2.lo s2.hi wx) rfl (congrArg Value.bool Ffk1.out)) <|
    hk (fun cx=>cx.v (ex_not (x:=.tmp 29) rfl (cx.u 0 rfl)) rfl rfl) <|
    hn) ?_
   intro a7 w7 f7
   refine wp_cond_true (f7.v 2 rfl rfl rfl) ?_
   refine wp_seq ?_
   have b_g2_13:=f7.k (f6.kp (f5.kp (f4.kp (f3.kp (f2.k b_g2) ⟨.inr (ne_row b_g2 q_g4),.inl rfl,trivial⟩) ⟨.inr (ne_row b_g2 q_g3),.inl rfl,trivial⟩) ⟨.inr (ne_row b_g2 q_g4),.inl rfl,trivial⟩) ⟨.inl rfl,.inl rfl,.inr (ne_ptr (pairAt f1.ps 0 1 (by decide) rfl rfl) u_g1 u_g2).symm,trivial⟩)
   have s2_14:=f7.q 2 (f6.q 2 (f5.q 2 (f4.q 2 (f3.q 2 (f2.q 2 u_g2)))))
   refine go_reg [⟨g2,25,(cR 0 0 0 0),some 1,(cR allR.u.lo allR.u.hi allR.s.lo allR.s.hi)⟩] [] [some (.agg (cR allR.u.lo allR.u.hi allR.s.lo allR.s.hi)),none,some (.bool false)] mo f7.d f7.z f7.b (by kernel_rfl) ⟨b_g2_13,trivial⟩ (
    hc (fun _ _ wx cx=>cx.c rfl (args0 ) Try.func58 (by decide +kernel) (all_n wx) rfl rfl) <|
    hk (fun cx=>cx.stR (wn rfl) rfl rfl 0 rfl (cx.rq 2 s2_14) (cx.u 0 rfl) (by kernel_rfl) rfl (by simp [Value.oneCell']) q_g2 rfl trivial trivial) <|
    hk (fun cx=>cx.v (ex_as rfl rfl) rfl rfl) <|
    hn) ?_
   intro a8 w8 f8
   refine wp_ret ?_
   have s2_15:=f8.q 2 s2_14
   try simp only [Exit.inBlock,Exit.then]
   refine bodyPost_ret (res_ct (fn:=Try.f120) rfl s2_15 (load_row 25 f8.rows.1 Try.underlying25 rfl (by kernel_rfl)) (f8.v 2 rfl rfl rfl)) f8.d ?_
   exact ⟨HE0.out Ffk1.out,f8.b⟩
  have Ffk1:=Lib.hid fk1;clear fk1
  have s1_16:=f6.q 1 s1_11
  refine go_reg [bx g1 25 (cR u1.lo u1.hi s2.lo s2.hi)] [] [some (.agg (cR u1.lo u1.hi s2.lo s2.hi)),some (.bool true),some (.bool false)] mo f6.d f6.z f6.b (by kernel_rfl) ⟨f6.rows.2.2.1,trivial⟩ (
   hk (fun cx=>cx.v (ldR rfl (cx.rq 1 s1_16) (cx.rn 0 rfl)) rfl rfl) <|
   hc (fun _ _ wx cx=>cx.c rfl (args1 (cx.u 0 rfl)) Try.func69 (by decide +kernel) (may_n u1.lo u1.hi s2.lo s2.hi wx) rfl (congrArg Value.bool Ffk1.out)) <|
   hk (fun cx=>cx.v (ex_not (x:=.tmp 29) rfl (cx.u 0 rfl)) rfl rfl) <|
   hn) ?_
  intro a9 w9 f9
  refine wp_cond_false (f9.v 2 rfl rfl rfl) ?_
  refine wp_skip ?_
  refine wp_seq ?_
  have b_g1_17:=f9.k f6.rows.2.2.1
  have b_g2_18:=f9.k (f6.kp (f5.kp (f4.kp (f3.kp (f2.k b_g2) ⟨.inr (ne_row b_g2 q_g4),.inl rfl,trivial⟩) ⟨.inr (ne_row b_g2 q_g3),.inl rfl,trivial⟩) ⟨.inr (ne_row b_g2 q_g4),.inl rfl,trivial⟩) ⟨.inl rfl,.inl rfl,.inr (ne_ptr (pairAt f1.ps 0 1 (by decide) rfl rfl) u_g1 u_g2).symm,trivial⟩)
  have s1_19:=f9.q 1 s1_16
  have s2_20:=f9.q 2 (f6.q 2 (f5.q 2 (f4.q 2 (f3.q 2 (f2.q 2 u_g2)))))
  refine go_reg [bx g1 25 (cR u1.lo u1.hi s2.lo s2.hi),⟨g2,25,(cR 0 0 0 0),some 1,(cR u1.lo u1.hi s2.lo s2.hi)⟩] [] [some (.agg (cR u1.lo u1.hi s2.lo s2.hi)),none,some (.bool true)] mo f9.d f9.z f9.b (by kernel_rfl) ⟨b_g1_17,b_g2_18,trivial⟩ (
   hk (fun cx=>cx.v (ldR rfl (cx.rq 1 s1_19) (cx.rn 0 rfl)) rfl rfl) <|
   hk (fun cx=>cx.stR (wn rfl) rfl rfl 1 rfl (cx.rq 2 s2_20) (cx.u 0 rfl) (by kernel_rfl) rfl (by simp [Value.oneCell']) q_g2 rfl ⟨(ne_ptr (pairAt f1.ps 0 1 (by decide) rfl rfl) u_g1 u_g2),trivial⟩ trivial) <|
   hk (fun cx=>cx.v (ex_as rfl rfl) rfl rfl) <|
   hn) ?_
  intro a10 w10 f10
  refine wp_ret ?_
  have s2_21:=f10.q 2 s2_20
  try simp only [Exit.inBlock,Exit.then]
  refine bodyPost_ret (res_ct (fn:=Try.f120) rfl s2_21 (load_row 25 f10.rows.2.1 Try.underlying25 rfl (by kernel_rfl)) (f10.v 2 rfl rfl rfl)) f10.d ?_
  exact ⟨HE1.out Ffk1.out,f10.b⟩
theorem wrap_sg (v:Int):IntKind.i64.wrap v=sg v:=by rw [IntKind.wrap_i64];rfl
theorem retV {a b:Value} (h:a=b):Ending.returned a=.returned b:=by rw [h]
set_option maxHeartbeats 4000000 in
theorem has_n (a b c d v:Int) (W:World):Calls Try.prog 73 #[.agg #[.int .u64 a,.int .u64 b,.int .i64 c,.int .i64 d],.int .u64 v] W fun e w'=>e=.returned (.bool (Rg.hasB ⟨⟨a,b⟩,⟨c,d⟩⟩ v)) ∧ Below W.heap.size W w':=by
  refine calls_abs Try.func73 rfl (Nat.le_of_ble_eq_true rfl) ?_
  intro a0 d0 z0 h0
  replace z0:a0.tmps.size=16:=z0
  have s0_0:a0.tmps.getD 0 undef=.agg (cR a b c d):=h0 0 (Nat.le_of_ble_eq_true rfl)
  have s1_0:a0.tmps.getD 1 undef=.int .u64 v:=h0 1 (Nat.le_of_ble_eq_true rfl)
  refine wp_seq ?_
  refine go_reg [] [⟨0,2,25,(cR a b c d),none,#[]⟩] [none,some (.bool false)] mo d0 z0 (Below.refl _ _) (by kernel_rfl) trivial (
   hc (fun _ ax _ cx=>cx.al (wn rfl) 0 rfl (by simp [execOp,Act.eval,(show ax.tmps.getD 0 undef=.agg (cR a b c d) from (cx.rq 0 s0_0)),go_sem]) rfl rfl rfl rfl rfl trivial) <|
   hk (fun cx=>cx.v (ex_as rfl rfl) rfl rfl) <|
   hn) ?_
  intro a1 w1 f1
  obtain ⟨g1,u_g1,q_g1,b_g1⟩:=f1.al.1
  refine wp_seq ?_
  cases fk1:Pr.hasB ⟨a,b⟩ v
  case false=>
   have Ffk1:=Lib.hid fk1;clear fk1
   have s1_1:=f1.q 1 s1_0
   refine go_reg [bx g1 25 (cR a b c d)] [] [some (.agg (cR a b c d)),some (.agg (cU a b)),some (.int .u64 v),some (.bool false),some (.bool false),some (undef),some (undef),some (undef),some (undef),some (undef),some (.bool false),some (.bool false)] mo f1.d f1.z f1.b (by kernel_rfl) ⟨b_g1,trivial⟩ (
    hk (fun cx=>cx.v (ldR rfl (cx.rq 2 u_g1) (cx.rn 0 rfl)) rfl rfl) <|
    hc (fun _ _ wx cx=>cx.c rfl (args1 (cx.u 0 rfl)) Try.func91 (by decide +kernel) (unsigned_n a b c d wx) rfl rfl) <|
    hk (fun cx=>cx.v (ex_mv rfl (cx.rq 1 s1_1)) rfl rfl) <|
    hc (fun _ _ wx cx=>cx.c rfl (args2 (cx.u 0 rfl) (cx.u 1 rfl)) Try.func95 (by decide +kernel) (hasU_n a b v wx) rfl (congrArg Value.bool Ffk1.out)) <|
    hk (fun cx=>cx.v (ex_mv rfl (cx.u 0 rfl)) rfl rfl) <|
    hk (fun cx=>cx.no (cx.wo rfl rfl rfl rfl (cx.u 0 rfl) rfl) rfl rfl rfl rfl) <|
    hk (fun cx=>cx.no (cx.wo rfl rfl rfl rfl (cx.u 1 rfl) rfl) rfl rfl rfl rfl) <|
    hk (fun cx=>cx.no (cx.wo rfl rfl rfl rfl (cx.u 0 rfl) rfl) rfl rfl rfl rfl) <|
    hk (fun cx=>cx.no (cx.wo rfl rfl rfl rfl (cx.u 1 rfl) rfl) rfl rfl rfl rfl) <|
    hk (fun cx=>cx.no (cx.wo rfl rfl rfl rfl (cx.u 3 rfl) rfl) rfl rfl rfl rfl) <|
    hk (fun cx=>cx.v (ex_pf rfl (cx.u 0 rfl) rfl) rfl rfl) <|
    hk (fun cx=>cx.v (ex_as rfl (cx.u 0 rfl)) rfl rfl) <|
    hn) ?_
   intro a2 w2 f2
   refine wp_ret ?_
   try simp only [Exit.inBlock,Exit.then]
   refine bodyPost_ret (res_t (fn:=Try.f73) rfl (f2.v 11 rfl rfl rfl)) f2.d ?_
   have HE:Value.bool false=.bool (Rg.hasB ⟨⟨a,b⟩,⟨c,d⟩⟩ v):=by show _=Value.bool (Pr.hasB ⟨a,b⟩ v && Pr.hasB ⟨c,d⟩ (sg v));rw [Ffk1.out];rfl
   exact ⟨retV HE,f2.b⟩
  have Ffk1:=Lib.hid fk1;clear fk1
  cases fk2:Pr.hasB ⟨c,d⟩ (sg v)
  case false=>
   have Ffk2:=Lib.hid fk2;clear fk2
   have s1_2:=f1.q 1 s1_0
   refine go_reg [bx g1 25 (cR a b c d)] [] [some (.agg (cR a b c d)),some (.agg (cU a b)),some (.int .u64 v),some (.bool true),some (.bool true),some (.agg (cR a b c d)),some (.agg (cS c d)),some (.int .u64 v),some (.int .i64 (sg v)),some (.bool false),some (.bool false),some (.bool false)] mo f1.d f1.z f1.b (by kernel_rfl) ⟨b_g1,trivial⟩ (
    hk (fun cx=>cx.v (ldR rfl (cx.rq 2 u_g1) (cx.rn 0 rfl)) rfl rfl) <|
    hc (fun _ _ wx cx=>cx.c rfl (args1 (cx.u 0 rfl)) Try.func91 (by decide +kernel) (unsigned_n a b c d wx) rfl rfl) <|
    hk (fun cx=>cx.v (ex_mv rfl (cx.rq 1 s1_2)) rfl rfl) <|
    hc (fun _ _ wx cx=>cx.c rfl (args2 (cx.u 0 rfl) (cx.u 1 rfl)) Try.func95 (by decide +kernel) (hasU_n a b v wx) rfl (congrArg Value.bool Ffk1.out)) <|
    hk (fun cx=>cx.v (ex_mv rfl (cx.u 0 rfl)) rfl rfl) <|
    hk (fun cx=>cx.val (cx.wy rfl rfl rfl rfl (cx.u 0 rfl)) (ldR rfl (cx.rq 2 u_g1) (cx.rn 0 rfl)) rfl rfl rfl rfl) <|
    hc (fun _ _ wx cx=>cx.call (cx.wy rfl rfl rfl rfl (cx.u 1 rfl)) rfl rfl (args1 (cx.u 0 rfl)) Try.func93 (by decide +kernel) rfl (signed_n a b c d wx) rfl rfl rfl rfl) <|
    hk (fun cx=>cx.val (cx.wy rfl rfl rfl rfl (cx.u 0 rfl)) (ex_mv rfl (cx.rq 1 s1_2)) rfl rfl rfl rfl) <|
    hk (fun cx=>cx.val (cx.wy rfl rfl rfl rfl (cx.u 1 rfl)) (ex_conv (x:=.tmp 12) rfl (cx.u 0 rfl) Try.underlying23 Try.underlying2) rfl rfl (congrArg (Value.int .i64) (wrap_sg v)) rfl) <|
    hc (fun _ _ wx cx=>cx.call (cx.wy rfl rfl rfl rfl (cx.u 3 rfl)) rfl rfl (args2 (cx.u 0 rfl) (cx.u 1 rfl)) Try.func96 (by decide +kernel) rfl (hasS_n c d (sg v) wx) rfl rfl (congrArg Value.bool Ffk2.out) rfl) <|
    hk (fun cx=>cx.v (ex_pt rfl (cx.u 0 rfl) (cx.u 1 rfl)) rfl rfl) <|
    hk (fun cx=>cx.v (ex_as rfl (cx.u 0 rfl)) rfl rfl) <|
    hn) ?_
   intro a3 w3 f3
   refine wp_ret ?_
   try simp only [Exit.inBlock,Exit.then]
   refine bodyPost_ret (res_t (fn:=Try.f73) rfl (f3.v 11 rfl rfl rfl)) f3.d ?_
   have HE:Value.bool false=.bool (Rg.hasB ⟨⟨a,b⟩,⟨c,d⟩⟩ v):=by show _=Value.bool (Pr.hasB ⟨a,b⟩ v && Pr.hasB ⟨c,d⟩ (sg v));rw [Ffk1.out,Ffk2.out];rfl
   exact ⟨retV HE,f3.b⟩
  have Ffk2:=Lib.hid fk2;clear fk2
  have s1_3:=f1.q 1 s1_0
  refine go_reg [bx g1 25 (cR a b c d)] [] [some (.agg (cR a b c d)),some (.agg (cU a b)),some (.int .u64 v),some (.bool true),some (.bool true),some (.agg (cR a b c d)),some (.agg (cS c d)),some (.int .u64 v),some (.int .i64 (sg v)),some (.bool true),some (.bool true),some (.bool true)] mo f1.d f1.z f1.b (by kernel_rfl) ⟨b_g1,trivial⟩ (
   hk (fun cx=>cx.v (ldR rfl (cx.rq 2 u_g1) (cx.rn 0 rfl)) rfl rfl) <|
   hc (fun _ _ wx cx=>cx.c rfl (args1 (cx.u 0 rfl)) Try.func91 (by decide +kernel) (unsigned_n a b c d wx) rfl rfl) <|
   hk (fun cx=>cx.v (ex_mv rfl (cx.rq 1 s1_3)) rfl rfl) <|
   hc (fun _ _ wx cx=>cx.c rfl (args2 (cx.u 0 rfl) (cx.u 1 rfl)) Try.func95 (by decide +kernel) (hasU_n a b v wx) rfl (congrArg Value.bool Ffk1.out)) <|
   hk (fun cx=>cx.v (ex_mv rfl (cx.u 0 rfl)) rfl rfl) <|
   hk (fun cx=>cx.val (cx.wy rfl rfl rfl rfl (cx.u 0 rfl)) (ldR rfl (cx.rq 2 u_g1) (cx.rn 0 rfl)) rfl rfl rfl rfl) <|
   hc (fun _ _ wx cx=>cx.call (cx.wy rfl rfl rfl rfl (cx.u 1 rfl)) rfl rfl (args1 (cx.u 0 rfl)) Try.func93 (by decide +kernel) rfl (signed_n a b c d wx) rfl rfl rfl rfl) <|
   hk (fun cx=>cx.val (cx.wy rfl rfl rfl rfl (cx.u 0 rfl)) (ex_mv rfl (cx.rq 1 s1_3)) rfl rfl rfl rfl) <|
   hk (fun cx=>cx.val (cx.wy rfl rfl rfl rfl (cx.u 1 rfl)) (ex_conv (x:=.tmp 12) rfl (cx.u 0 rfl) Try.underlying23 Try.underlying2) rfl rfl (congrArg (Value.int .i64) (wrap_sg v)) rfl) <|
   hc (fun _ _ wx cx=>cx.call (cx.wy rfl rfl rfl rfl (cx.u 3 rfl)) rfl rfl (args2 (cx.u 0 rfl) (cx.u 1 rfl)) Try.func96 (by decide +kernel) rfl (hasS_n c d (sg v) wx) rfl rfl (congrArg Value.bool Ffk2.out) rfl) <|
   hk (fun cx=>cx.v (ex_pt rfl (cx.u 0 rfl) (cx.u 1 rfl)) rfl rfl) <|
   hk (fun cx=>cx.v (ex_as rfl (cx.u 0 rfl)) rfl rfl) <|
   hn) ?_
  intro a4 w4 f4
  refine wp_ret ?_
  try simp only [Exit.inBlock,Exit.then]
  refine bodyPost_ret (res_t (fn:=Try.f73) rfl (f4.v 11 rfl rfl rfl)) f4.d ?_
  have HE:Value.bool true=.bool (Rg.hasB ⟨⟨a,b⟩,⟨c,d⟩⟩ v):=by show _=Value.bool (Pr.hasB ⟨a,b⟩ v && Pr.hasB ⟨c,d⟩ (sg v));rw [Ffk1.out,Ffk2.out];rfl
  exact ⟨retV HE,f4.b⟩
end Go.Proofs.Ytcnneeimkcnjfaa.Bnd
