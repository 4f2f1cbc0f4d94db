/-
  The document's own answer for scalars (latheref09), as contracts. (Written by gen_sth.py.)
-/
import Derived.Test.YtcnneeimkcnjfaaStG
import Derived.Test.YtcnneeimkcnjfaaStF
import Derived.Test.YtcnneeimkcnjfaaSbS
namespace Go.Proofs.Ytcnneeimkcnjfaa.Sta
open Go.RowKit Bnd Knw
set_option linter.unusedVariables false
set_option linter.unusedSimpArgs false
set_option linter.unnecessarySimpa false
set_option maxRecDepth 100000
theorem faStH29_0_0 (g : Nat) (w : World) : (Instr.fieldAt 29 (.pointer (some ⟨g, 0, none⟩)) 0).run Try.prog w = .ok (.pointer (some ⟨g, 0, none⟩)) w := by simp [go_sem]
theorem faStH29_1_0 (g : Nat) (w : World) : (Instr.fieldAt 29 (.pointer (some ⟨g, 0, none⟩)) 1).run Try.prog w = .ok (.pointer (some ⟨g, 4, none⟩)) w := by simp [go_sem]
set_option maxHeartbeats 4000000 in
theorem wmay_n (a : Sc) (W : World) : Calls Try.prog 43 #[.agg (scC a)] W fun e w' => e = .returned (.bool (Sc.mayB a)) ∧ Below W.heap.size W w' := by
  refine calls_abs Try.func43 rfl (Nat.le_of_ble_eq_true rfl) ?_
  intro a0 d0 z0 h0
  replace z0 : a0.tmps.size = 11 := z0
  have s0_0 : a0.tmps.getD 0 undef = .agg (scC a) := h0 0 (Nat.le_of_ble_eq_true rfl)
  refine wp_seq ?_
  refine go_reg [] [⟨0, 1, 29, (scC a), none, #[]⟩] [none, some (.bool false)] mo d0 z0 (Below.refl _ _) (by kernel_rfl) trivial (
   hk (fun cx => cx.al (wn rfl) 0 rfl (ex_box rfl (cx.rq 0 s0_0) rfl) rfl rfl rfl rfl rfl trivial) <|
   hk (fun cx => cx.v (ex_as rfl rfl) rfl rfl) <|
   hn) ?_
  intro a1 w1 f1
  obtain ⟨g1, u_g1, q_g1, b_g1⟩ := f1.al.1
  refine wp_seq ?_
  cases fk1 : Rg.mayB a.r
  case false =>
   have Ffk1 := Lib.hid fk1; clear fk1
   refine go_reg [bx g1 29 (scC a)] [] [some (pt g1 0), some (.agg (cR a.r.u.lo a.r.u.hi a.r.s.lo a.r.s.hi)), some (.bool false), some (.bool false), some (undef), some (undef), some (undef), some (.bool false), some (.bool false)] mo f1.d f1.z f1.b (by kernel_rfl) ⟨b_g1, trivial⟩ (
    hk (fun cx => cx.v (ex_fa rfl (cx.rq 1 u_g1) (faStH29_0_0 _ _)) rfl rfl) <|
    hk (fun cx => cx.v (exec_loadR 25 _ rfl g1 0 (cx.u 0 rfl) (cx.rn 0 rfl) [.int .u64 a.r.u.lo, .int .u64 a.r.u.hi, .int .i64 a.r.s.lo, .int .i64 a.r.s.hi] rfl _ Try.underlying25 rfl (by kernel_rfl)) rfl rfl) <|
    hc (fun _ _ wx cx => cx.c rfl (args1 (cx.u 0 rfl)) Try.func71 (by decide +kernel) (rmay_n a.r.u.lo a.r.u.hi a.r.s.lo a.r.s.hi wx) rfl (congrArg Value.bool Ffk1.out)) <|
    hk (fun cx => cx.v (ex_mv rfl (cx.u 0 rfl)) rfl rfl) <|
    hk (fun cx => cx.no (cx.wo rfl rfl rfl rfl (cx.u 0 rfl) rfl) rfl rfl rfl rfl) <|
    hk (fun cx => cx.no (cx.wo rfl rfl rfl rfl (cx.u 1 rfl) rfl) rfl rfl rfl rfl) <|
    hk (fun cx => cx.no (cx.wo rfl rfl rfl rfl (cx.u 1 rfl) rfl) rfl rfl rfl rfl) <|
    hk (fun cx => cx.v (ex_pf rfl (cx.u 0 rfl) rfl) rfl rfl) <|
    hk (fun cx => cx.v (ex_as rfl (cx.u 0 rfl)) rfl rfl) <|
    hn) ?_
   intro a2 w2 f2
   refine wp_ret ?_
   try simp only [Exit.inBlock, Exit.then]
   refine bodyPost_ret (res_t (fn := Try.f43) rfl (f2.v 8 rfl rfl rfl)) f2.d ?_
   have HE : (.bool false : Value) = .bool (Sc.mayB a) := by unfold Sc.mayB; simp only [Ffk1.out, Bool.true_and, Bool.and_true, Bool.false_and, Bool.and_false, Bool.or_false, Bool.false_or, Bool.true_or, Bool.or_true, Bool.not_true, Bool.not_false, if_true, if_false, Bool.false_eq_true, Bool.true_eq_false, reduceCtorEq]; try rfl
   exact ⟨retV HE, f2.b⟩
  have Ffk1 := Lib.hid fk1; clear fk1
  refine go_reg [bx g1 29 (scC a)] [] [some (pt g1 0), some (.agg (cR a.r.u.lo a.r.u.hi a.r.s.lo a.r.s.hi)), some (.bool true), some (.bool true), some (pt g1 4), some (.agg (knC a.k)), some (.bool (Kn.mayB a.k)), some (.bool (Kn.mayB a.k)), some (.bool (Kn.mayB a.k))] mo f1.d f1.z f1.b (by kernel_rfl) ⟨b_g1, trivial⟩ (
   hk (fun cx => cx.v (ex_fa rfl (cx.rq 1 u_g1) (faStH29_0_0 _ _)) rfl rfl) <|
   hk (fun cx => cx.v (exec_loadR 25 _ rfl g1 0 (cx.u 0 rfl) (cx.rn 0 rfl) [.int .u64 a.r.u.lo, .int .u64 a.r.u.hi, .int .i64 a.r.s.lo, .int .i64 a.r.s.hi] rfl _ Try.underlying25 rfl (by kernel_rfl)) rfl rfl) <|
   hc (fun _ _ wx cx => cx.c rfl (args1 (cx.u 0 rfl)) Try.func71 (by decide +kernel) (rmay_n a.r.u.lo a.r.u.hi a.r.s.lo a.r.s.hi wx) rfl (congrArg Value.bool Ffk1.out)) <|
   hk (fun cx => cx.v (ex_mv rfl (cx.u 0 rfl)) rfl rfl) <|
   hk (fun cx => cx.val (cx.wy rfl rfl rfl rfl (cx.u 0 rfl)) (ex_fa rfl (cx.rq 1 u_g1) (faStH29_1_0 _ _)) rfl rfl rfl rfl) <|
   hk (fun cx => cx.val (cx.wy rfl rfl rfl rfl (cx.u 1 rfl)) (exec_loadR 27 _ rfl g1 4 (cx.u 0 rfl) (cx.rn 0 rfl) [.int .u64 (V a.k.v), .int .u64 (V a.k.m)] rfl _ Try.underlying27 rfl (by kernel_rfl)) rfl rfl rfl rfl) <|
   hc (fun _ _ wx cx => cx.call (cx.wy rfl rfl rfl rfl (cx.u 1 rfl)) rfl rfl (args1 (cx.u 0 rfl)) Try.func72 (by decide +kernel) rfl (lmay_n a.k wx) rfl rfl rfl rfl) <|
   hk (fun cx => cx.v (ex_pt rfl (cx.u 0 rfl) (cx.u 1 rfl)) rfl rfl) <|
   hk (fun cx => cx.v (ex_as rfl (cx.u 0 rfl)) rfl rfl) <|
   hn) ?_
  intro a3 w3 f3
  refine wp_ret ?_
  try simp only [Exit.inBlock, Exit.then]
  refine bodyPost_ret (res_t (fn := Try.f43) rfl (f3.v 8 rfl rfl rfl)) f3.d ?_
  have HE : (.bool (Kn.mayB a.k) : Value) = .bool (Sc.mayB a) := by unfold Sc.mayB; simp only [Ffk1.out, Bool.true_and, Bool.and_true, Bool.false_and, Bool.and_false, Bool.or_false, Bool.false_or, Bool.true_or, Bool.or_true, Bool.not_true, Bool.not_false, if_true, if_false, Bool.false_eq_true, Bool.true_eq_false, reduceCtorEq]; try rfl
  exact ⟨retV HE, f3.b⟩
end Go.Proofs.Ytcnneeimkcnjfaa.Sta
