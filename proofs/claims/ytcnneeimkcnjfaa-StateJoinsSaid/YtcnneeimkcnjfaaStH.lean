/-
  The document's own answer for scalars (latheref09), as contracts. (Written by gen_sth.py.)
-/
import Derived.Test.YtcnneeimkcnjfaaStG
import Derived.Test.YtcnneeimkcnjfaaStF
import Derived.Test.YtcnneeimkcnjfaaSbS
namespace Go.Proofs.Ytcnneeimkcnjfaa.Sta
open Go.RowKit Bnd Knw
set_option linter.unusedVariables false
set_option linter.unusedSimpArgs false
set_option linter.unnecessarySimpa false
set_option maxRecDepth 100000
theorem faStH29_0_0 (g : Nat) (w : World) : (Instr.fieldAt 29 (.pointer (some ⟨g, 0, none⟩)) 0).run Try.prog w = .ok (.pointer (some ⟨g, 0, none⟩)) w := by simp [go_sem]
theorem faStH29_1_0 (g : Nat) (w : World) : (Instr.fieldAt 29 (.pointer (some ⟨g, 0, none⟩)) 1).run Try.prog w = .ok (.pointer (some ⟨g, 4, none⟩)) w := by simp [go_sem]
theorem faStH27_0_4 (g : Nat) (w : World) : (Instr.fieldAt 27 (.pointer (some ⟨g, 4, none⟩)) 0).run Try.prog w = .ok (.pointer (some ⟨g, 4, none⟩)) w := by simp [go_sem]
theorem faStH25_0_0 (g : Nat) (w : World) : (Instr.fieldAt 25 (.pointer (some ⟨g, 0, none⟩)) 0).run Try.prog w = .ok (.pointer (some ⟨g, 0, none⟩)) w := by simp [go_sem]
theorem faStH27_1_4 (g : Nat) (w : World) : (Instr.fieldAt 27 (.pointer (some ⟨g, 4, none⟩)) 1).run Try.prog w = .ok (.pointer (some ⟨g, 5, none⟩)) w := by simp [go_sem]
theorem faStH25_1_0 (g : Nat) (w : World) : (Instr.fieldAt 25 (.pointer (some ⟨g, 0, none⟩)) 1).run Try.prog w = .ok (.pointer (some ⟨g, 1, none⟩)) w := by simp [go_sem]
theorem faStH25_2_0 (g : Nat) (w : World) : (Instr.fieldAt 25 (.pointer (some ⟨g, 0, none⟩)) 2).run Try.prog w = .ok (.pointer (some ⟨g, 2, none⟩)) w := by simp [go_sem]
theorem faStH25_3_0 (g : Nat) (w : World) : (Instr.fieldAt 25 (.pointer (some ⟨g, 0, none⟩)) 3).run Try.prog w = .ok (.pointer (some ⟨g, 3, none⟩)) w := by simp [go_sem]
set_option maxHeartbeats 4000000 in
theorem wmay_n (a : Sc) (W : World) : Calls Try.prog 43 #[.agg (scC a)] W fun e w' => e = .returned (.bool (Sc.mayB a)) ∧ Below W.heap.size W w' := by
  refine calls_abs Try.func43 rfl (Nat.le_of_ble_eq_true rfl) ?_
  intro a0 d0 z0 h0
  replace z0 : a0.tmps.size = 11 := z0
  have s0_0 : a0.tmps.getD 0 undef = .agg (scC a) := h0 0 (Nat.le_of_ble_eq_true rfl)
  refine wp_seq ?_
  refine go_reg [] [⟨0, 1, 29, (scC a), none, #[]⟩] [none, oF] mo d0 z0 (Below.refl _ _) (by kernel_rfl) trivial (
   hk (fun cx => cx.al (wn rfl) 0 rfl (ex_box rfl (cx.rq 0 s0_0) rfl) rfl rfl rfl rfl rfl trivial) <|
   hk (fun cx => cx.q (ex_as rfl rfl)) <|
   hn) ?_
  intro a1 w1 f1
  obtain ⟨g1, u_g1, q_g1, b_g1⟩ := f1.al.1
  refine wp_seq ?_
  cases fk1 : Rg.mayB a.r
  case false =>
   have Ffk1 := Lib.hid fk1; clear fk1
   refine go_reg [bx g1 29 (scC a)] [] [some (pt g1 0), some (.agg (cR a.r.u.lo a.r.u.hi a.r.s.lo a.r.s.hi)), oF, oF, oU, oU, oU, oF, oF] mo f1.d f1.z f1.b (by kernel_rfl) ⟨b_g1, trivial⟩ (
    hk (fun cx => cx.q (ex_fa rfl (cx.rq 1 u_g1) (faStH29_0_0 _ _))) <|
    hk (fun cx => cx.q (exec_loadR 25 _ rfl g1 0 (cx.u 0 rfl) (cx.rn 0 rfl) [.int .u64 a.r.u.lo, .int .u64 a.r.u.hi, .int .i64 a.r.s.lo, .int .i64 a.r.s.hi] rfl _ Try.underlying25 rfl (by kernel_rfl))) <|
    hc (fun _ _ wx cx => cx.c rfl (args1 (cx.u 0 rfl)) Try.func71 (by decide +kernel) (rmay_n a.r.u.lo a.r.u.hi a.r.s.lo a.r.s.hi wx) rfl (congrArg Value.bool Ffk1.out)) <|
    kmu 0 <|
    kno 0 <|
    kno 1 <|
    kno 1 <|
    hk (fun cx => cx.q (ex_pf rfl (cx.u 0 rfl) rfl)) <|
    kmu 0 <|
    hn) ?_
   intro a2 w2 f2
   refine wp_ret ?_
   try simp only [Exit.inBlock, Exit.then]
   refine bodyPost_ret (res_t (fn := Try.f43) rfl (f2.v 8 rfl rfl rfl)) f2.d ?_
   have HE : (.bool false : Value) = .bool (Sc.mayB a) := by unfold Sc.mayB; simp only [Ffk1.out, Bool.true_and, Bool.and_true, Bool.false_and, Bool.and_false, Bool.or_false, Bool.false_or, Bool.true_or, Bool.or_true, Bool.not_true, Bool.not_false, if_true, if_false, Bool.false_eq_true, Bool.true_eq_false, reduceCtorEq]; try rfl
   exact ⟨retV HE, f2.b⟩
  have Ffk1 := Lib.hid fk1; clear fk1
  refine go_reg [bx g1 29 (scC a)] [] [some (pt g1 0), some (.agg (cR a.r.u.lo a.r.u.hi a.r.s.lo a.r.s.hi)), oT, oT, some (pt g1 4), some (.agg (knC a.k)), some (.bool (Kn.mayB a.k)), some (.bool (Kn.mayB a.k)), some (.bool (Kn.mayB a.k))] mo f1.d f1.z f1.b (by kernel_rfl) ⟨b_g1, trivial⟩ (
   hk (fun cx => cx.q (ex_fa rfl (cx.rq 1 u_g1) (faStH29_0_0 _ _))) <|
   hk (fun cx => cx.q (exec_loadR 25 _ rfl g1 0 (cx.u 0 rfl) (cx.rn 0 rfl) [.int .u64 a.r.u.lo, .int .u64 a.r.u.hi, .int .i64 a.r.s.lo, .int .i64 a.r.s.hi] rfl _ Try.underlying25 rfl (by kernel_rfl))) <|
   hc (fun _ _ wx cx => cx.c rfl (args1 (cx.u 0 rfl)) Try.func71 (by decide +kernel) (rmay_n a.r.u.lo a.r.u.hi a.r.s.lo a.r.s.hi wx) rfl (congrArg Value.bool Ffk1.out)) <|
   kmu 0 <|
   hk (fun cx => cx.vy 0 (ex_fa rfl (cx.rq 1 u_g1) (faStH29_1_0 _ _))) <|
   hk (fun cx => cx.vy 1 (exec_loadR 27 _ rfl g1 4 (cx.u 0 rfl) (cx.rn 0 rfl) [.int .u64 (V a.k.v), .int .u64 (V a.k.m)] rfl _ Try.underlying27 rfl (by kernel_rfl))) <|
   hc (fun _ _ wx cx => cx.call (cx.wy rfl rfl rfl rfl (cx.u 1 rfl)) rfl rfl (args1 (cx.u 0 rfl)) Try.func72 (by decide +kernel) rfl (lmay_n a.k wx) rfl rfl rfl rfl) <|
   hk (fun cx => cx.q (ex_pt rfl (cx.u 0 rfl) (cx.u 1 rfl))) <|
   kmu 0 <|
   hn) ?_
  intro a3 w3 f3
  refine wp_ret ?_
  try simp only [Exit.inBlock, Exit.then]
  refine bodyPost_ret (res_t (fn := Try.f43) rfl (f3.v 8 rfl rfl rfl)) f3.d ?_
  have HE : (.bool (Kn.mayB a.k) : Value) = .bool (Sc.mayB a) := by unfold Sc.mayB; simp only [Ffk1.out, Bool.true_and, Bool.and_true, Bool.false_and, Bool.and_false, Bool.or_false, Bool.false_or, Bool.true_or, Bool.or_true, Bool.not_true, Bool.not_false, if_true, if_false, Bool.false_eq_true, Bool.true_eq_false, reduceCtorEq]; try rfl
  exact ⟨retV HE, f3.b⟩
set_option maxHeartbeats 4000000 in
theorem wall_n  (W : World) : Calls Try.prog 41 #[] W fun e w' => e = .returned (.agg (scC allC)) ∧ Below W.heap.size W w' := by
  refine calls_abs Try.func41 rfl (Nat.le_of_ble_eq_true rfl) ?_
  intro a0 d0 z0 h0
  replace z0 : a0.tmps.size = 4 := z0
  refine wp_seq ?_
  refine go_reg [] [⟨0, 0, 29, (scC zSc), none, #[]⟩] [none] mo d0 z0 (Below.refl _ _) (by kernel_rfl) trivial (
   hk (fun cx => cx.al (wn rfl) 0 rfl (al_sc rfl) rfl rfl rfl rfl rfl trivial) <|
   hn) ?_
  intro a1 w1 f1
  obtain ⟨g1, u_g1, q_g1, b_g1⟩ := f1.al.1
  refine wp_seq ?_
  refine go_reg [⟨g1, 29, (scC zSc), some 3, (scC ⟨allR, allK⟩)⟩] [] [some (.agg (cR allR.u.lo allR.u.hi allR.s.lo allR.s.hi)), some (.agg (knC allK)), some (.agg (scC ⟨allR, allK⟩)), none] mo f1.d f1.z f1.b (by kernel_rfl) ⟨b_g1, trivial⟩ (
   hc (fun _ _ wx cx => cx.c rfl (args0 ) Try.func68 (by decide +kernel) (rall_n wx) rfl rfl) <|
   hc (fun _ _ wx cx => cx.c rfl (args0 ) Try.func60 (by decide +kernel) (lall_n wx) rfl rfl) <|
   hk (fun cx => cx.q (exec_build rfl (parts2 (cx.u 0 rfl) (cx.u 1 rfl)) (by kernel_rfl))) <|
   hk (fun cx => cx.stR (wn rfl) rfl rfl 0 rfl (cx.rq 0 u_g1) (cx.u 0 rfl) (by kernel_rfl) (Eq.refl 6) (scC_one _) q_g1 rfl trivial trivial) <|
   hn) ?_
  intro a2 w2 f2
  refine wp_ret ?_
  have s0_1 := f2.q 0 u_g1
  try simp only [Exit.inBlock, Exit.then]
  refine bodyPost_ret (res_c (fn := Try.f41) rfl s0_1 (load_row 29 f2.rows.1 Try.underlying29 rfl (by kernel_rfl))) f2.d ?_
  have HE : (.agg (scC ⟨allR, allK⟩) : Value) = .agg (scC allC) := rfl
  exact ⟨retV HE, f2.b⟩
theorem on_no_may {a : Sc} (h : a.mayB = false) : a.onB = false := by
  unfold Sc.mayB at h
  unfold Sc.onB Rg.meetB Kn.meetB
  cases e : a.r.mayB with
  | false => rw [Bool.false_and, Bool.false_and]
  | true =>
    rw [e, Bool.true_and] at h
    rw [h, Bool.false_and, Bool.and_false]
theorem nar_no {a : Sc} (h : a.onB = false) : a.narB = false := by unfold Sc.narB; rw [h]; rfl
theorem on_no {a : Sc} (h : a.onB = false) : a.on = allC := by unfold Sc.on; rw [h, if_neg Bool.false_ne_true]
theorem nar_of {a : Sc} (h : a.onB = true) : a.narB = a.on.onB ∧ a.nar = a.on.on := by
  have e : a.narB = a.on.onB := by unfold Sc.narB; rw [h, Bool.true_and]
  refine ⟨e, ?_⟩
  unfold Sc.nar
  rw [e]
  cases c : a.on.onB with
  | false =>
    rw [if_neg Bool.false_ne_true, on_no c]
  | true => rw [if_pos rfl]
set_option maxHeartbeats 4000000 in
theorem wonce_n (a : Sc) (W : World) (ha : a.r.Ok) : Calls Try.prog 89 #[.agg (scC a)] W fun e w' => e = .returned (.tuple #[.agg (scC (Sc.on a)), .bool (Sc.onB a)]) ∧ Below W.heap.size W w' := by
  have HA := Lib.hid ha
  clear ha
  refine calls_abs Try.func89 rfl (Nat.le_of_ble_eq_true rfl) ?_
  intro a0 d0 z0 h0
  replace z0 : a0.tmps.size = 48 := z0
  have s0_0 : a0.tmps.getD 0 undef = .agg (scC a) := h0 0 (Nat.le_of_ble_eq_true rfl)
  refine wp_seq ?_
  refine go_reg [] [⟨0, 1, 29, (scC a), none, #[]⟩, ⟨1, 2, 29, (scC zSc), none, #[]⟩] [none, none, oF] mo d0 z0 (Below.refl _ _) (by kernel_rfl) trivial (
   hk (fun cx => cx.al (wn rfl) 0 rfl (ex_box rfl (cx.rq 0 s0_0) rfl) rfl rfl rfl rfl rfl trivial) <|
   hk (fun cx => cx.al (wn rfl) 1 rfl (al_sc rfl) rfl rfl rfl rfl rfl trivial) <|
   hk (fun cx => cx.q (ex_as rfl rfl)) <|
   hn) ?_
  intro a1 w1 f1
  obtain ⟨g1, u_g1, q_g1, b_g1⟩ := f1.al.1
  obtain ⟨g2, u_g2, q_g2, b_g2⟩ := f1.al.2.1
  refine wp_seq ?_
  refine go_reg [] [⟨1, 4, 25, (cR 0 0 0 0), some 2, (cR allR.u.lo allR.u.hi allR.s.lo allR.s.hi)⟩] [some (.agg (cR allR.u.lo allR.u.hi allR.s.lo allR.s.hi)), none, none] mo f1.d f1.z f1.b (by kernel_rfl) trivial (
   hc (fun _ _ wx cx => cx.c rfl (args0 ) Try.func68 (by decide +kernel) (rall_n wx) rfl rfl) <|
   hk (fun cx => cx.al (wn rfl) 0 rfl (by simp [execOp, Act.eval, go_sem]) rfl rfl rfl rfl (by kernel_rfl) trivial) <|
   hk (fun cx => cx.stA (wn rfl) rfl rfl 0 0 rfl rfl rfl rfl (cx.u 1 rfl) (by kernel_rfl) (Eq.refl 4) (cR_one _ _ _ _) f1.b.size rfl rfl trivial) <|
   hn) ?_
  intro a2 w2 f2
  obtain ⟨g3, u_g3, q_g3, b_g3⟩ := f2.al.1
  refine wp_seq ?_
  have b_g1_1 := f2.k b_g1
  have s1_2 := f2.q 1 u_g1
  refine go_reg [bx g1 29 (scC a), ⟨g3, 25, (cR allR.u.lo allR.u.hi allR.s.lo allR.s.hi), some 4, (cR (V a.k.v) allR.u.hi allR.s.lo allR.s.hi)⟩] [] [some (pt g1 4), some (pt g1 4), some (.int .u64 (V a.k.v)), some (pt g3 0), none] mo f2.d f2.z f2.b (by kernel_rfl) ⟨b_g1_1, b_g3, trivial⟩ (
   hk (fun cx => cx.q (ex_fa rfl (cx.rq 1 s1_2) (faStH29_1_0 _ _))) <|
   hk (fun cx => cx.q (ex_fa rfl (cx.u 0 rfl) (faStH27_0_4 _ _))) <|
   hk (fun cx => cx.q (ex_ld rfl (cx.u 0 rfl) (cx.rn 0 rfl) rfl Try.isAgg23)) <|
   hk (fun cx => cx.q (ex_fa rfl (cx.rq 4 u_g3) (faStH25_0_0 _ _))) <|
   hk (fun cx => cx.stC (wn rfl) rfl rfl 1 rfl (cx.u 0 rfl) (cx.u 1 rfl) rfl rfl (by kernel_rfl) rfl rfl (Nat.le_trans f1.b.size q_g3) rfl ⟨(ne_row b_g1 q_g3), trivial⟩ trivial) <|
   hn) ?_
  intro a3 w3 f3
  refine wp_seq ?_
  have b_g1_3 := f3.kp b_g1_1 ⟨.inl rfl, .inr (ne_row b_g1 q_g3), trivial⟩
  have s1_4 := f3.q 1 s1_2
  have s4_5 := f3.q 4 u_g3
  refine go_reg [bx g1 29 (scC a), ⟨g3, 25, (cR (V a.k.v) allR.u.hi allR.s.lo allR.s.hi), some 8, (cR (V a.k.v) (V (a.k.v ||| a.k.m)) allR.s.lo allR.s.hi)⟩] [] [some (pt g1 4), some (pt g1 4), some (.int .u64 (V a.k.v)), some (pt g1 4), some (pt g1 5), some (.int .u64 (V a.k.m)), some (.int .u64 (V (a.k.v ||| a.k.m))), some (pt g3 1), none] mo f3.d f3.z f3.b (by kernel_rfl) ⟨b_g1_3, f3.rows.2.1, trivial⟩ (
   hk (fun cx => cx.q (ex_fa rfl (cx.rq 1 s1_4) (faStH29_1_0 _ _))) <|
   hk (fun cx => cx.q (ex_fa rfl (cx.u 0 rfl) (faStH27_0_4 _ _))) <|
   hk (fun cx => cx.q (ex_ld rfl (cx.u 0 rfl) (cx.rn 0 rfl) rfl Try.isAgg23)) <|
   hk (fun cx => cx.q (ex_fa rfl (cx.rq 1 s1_4) (faStH29_1_0 _ _))) <|
   hk (fun cx => cx.q (ex_fa rfl (cx.u 0 rfl) (faStH27_1_4 _ _))) <|
   hk (fun cx => cx.q (ex_ld rfl (cx.u 0 rfl) (cx.rn 0 rfl) rfl Try.isAgg23)) <|
   hk (fun cx => cx.v (ex_or (x := .tmp 15) (y := .tmp 18) rfl (cx.u 0 rfl) (cx.u 1 rfl)) rfl (congrArg (Value.int .u64) (V_or _ _))) <|
   hk (fun cx => cx.q (ex_fa rfl (cx.rq 4 s4_5) (faStH25_1_0 _ _))) <|
   hk (fun cx => cx.stC (wn rfl) rfl rfl 1 rfl (cx.u 0 rfl) (cx.u 1 rfl) rfl rfl (by kernel_rfl) rfl rfl (Nat.le_trans f1.b.size q_g3) rfl ⟨(ne_row b_g1 q_g3), trivial⟩ trivial) <|
   hn) ?_
  intro a4 w4 f4
  refine wp_seq ?_
  cases fk1 : Rg.meetB a.r ⟨⟨V a.k.v, V (a.k.v ||| a.k.m)⟩, allR.s⟩
  case false =>
   have Ffk1 := Lib.hid fk1; clear fk1
   have b_g1_6 := f4.kp b_g1_3 ⟨.inl rfl, .inr (ne_row b_g1 q_g3), trivial⟩
   have s1_7 := f4.q 1 s1_4
   have s4_8 := f4.q 4 s4_5
   refine go_reg [bx g1 29 (scC a), bx g3 25 (cR (V a.k.v) (V (a.k.v ||| a.k.m)) allR.s.lo allR.s.hi)] [⟨7, 5, 25, (cR 0 0 0 0), some 8, (cR (Sc.oR a).u.lo (Sc.oR a).u.hi (Sc.oR a).s.lo (Sc.oR a).s.hi)⟩] [some (pt g1 0), some (.agg (cR a.r.u.lo a.r.u.hi a.r.s.lo a.r.s.hi)), some (.agg (cR (V a.k.v) (V (a.k.v ||| a.k.m)) allR.s.lo allR.s.hi)), some (.tuple #[.agg (cR (Sc.oR a).u.lo (Sc.oR a).u.hi (Sc.oR a).s.lo (Sc.oR a).s.hi), .bool (Rg.meetB a.r ⟨⟨V a.k.v, V (a.k.v ||| a.k.m)⟩, allR.s⟩)]), some (.tuple #[.agg (cR (Sc.oR a).u.lo (Sc.oR a).u.hi (Sc.oR a).s.lo (Sc.oR a).s.hi), .bool (Rg.meetB a.r ⟨⟨V a.k.v, V (a.k.v ||| a.k.m)⟩, allR.s⟩)]), some (.agg (cR (Sc.oR a).u.lo (Sc.oR a).u.hi (Sc.oR a).s.lo (Sc.oR a).s.hi)), oF, none, none, oF] mo f4.d f4.z f4.b (by kernel_rfl) ⟨b_g1_6, f4.rows.2.1, trivial⟩ (
    hk (fun cx => cx.q (ex_fa rfl (cx.rq 1 s1_7) (faStH29_0_0 _ _))) <|
    hk (fun cx => cx.q (exec_loadR 25 _ rfl g1 0 (cx.u 0 rfl) (cx.rn 0 rfl) [.int .u64 a.r.u.lo, .int .u64 a.r.u.hi, .int .i64 a.r.s.lo, .int .i64 a.r.s.hi] rfl _ Try.underlying25 rfl (by kernel_rfl))) <|
    hk (fun cx => cx.q (ldR rfl (cx.rq 4 s4_8) (cx.rn 1 rfl))) <|
    hc (fun _ _ wx cx => cx.c rfl (args2 (cx.u 0 rfl) (cx.u 1 rfl)) Try.func112 (by decide +kernel) (rmeet_n a.r.u.lo a.r.u.hi a.r.s.lo a.r.s.hi (V a.k.v) (V (a.k.v ||| a.k.m)) allR.s.lo allR.s.hi wx HA.out (rgK_ok a.k)) rfl (congrArg (fun x : Rg => Value.tuple #[Value.agg #[.int .u64 x.u.lo, .int .u64 x.u.hi, .int .i64 x.s.lo, .int .i64 x.s.hi], .bool (Rg.meetB a.r ⟨⟨V a.k.v, V (a.k.v ||| a.k.m)⟩, allR.s⟩)]) rfl)) <|
    kmu 0 <|
    hk (fun cx => cx.q (ex_ext (x := .tmp 21) rfl (cx.u 0 rfl) rfl)) <|
    hk (fun cx => cx.v (ex_ext (x := .tmp 21) rfl (cx.u 0 rfl) rfl) rfl (congrArg Value.bool Ffk1.out)) <|
    hk (fun cx => cx.al (wn rfl) 0 rfl (by simp [execOp, Act.eval, go_sem]) rfl rfl rfl rfl (by kernel_rfl) trivial) <|
    hk (fun cx => cx.stA (wn rfl) rfl rfl 0 0 rfl rfl rfl rfl (cx.u 1 rfl) (by kernel_rfl) (Eq.refl 4) (cR_one _ _ _ _) f4.b.size rfl rfl trivial) <|
    kmu 0 <|
    hn) ?_
   intro a5 w5 f5
   obtain ⟨g4, u_g4, q_g4, b_g4⟩ := f5.al.1
   refine wp_seq ?_
   refine wp_seq ?_
   refine go_reg [] [] [oF, oT] mo f5.d f5.z f5.b (by kernel_rfl) trivial (
    hk (fun cx => cx.q (ex_mv rfl (cx.rq 6 (f5.v 9 rfl rfl rfl)))) <|
    hk (fun cx => cx.q (ex_not (x := .tmp 28) rfl (cx.u 0 rfl))) <|
    hn) ?_
   intro a6 w6 f6
   refine wp_cond_true (f6.v 1 rfl rfl rfl) ?_
   refine wp_seq ?_
   have b_g2_9 := f6.k (f5.k (f4.kp (f3.kp (f2.k b_g2) ⟨.inl rfl, .inr (ne_row b_g2 q_g3), trivial⟩) ⟨.inl rfl, .inr (ne_row b_g2 q_g3), trivial⟩))
   have s2_10 := f6.q 2 (f5.q 2 (f4.q 2 (f3.q 2 (f2.q 2 u_g2))))
   refine go_reg [⟨g2, 29, (scC zSc), some 1, (scC allC)⟩] [] [some (.agg (scC allC)), none, oF] mo f6.d f6.z f6.b (by kernel_rfl) ⟨b_g2_9, trivial⟩ (
    hc (fun _ _ wx cx => cx.c rfl (args0 ) Try.func41 (by decide +kernel) (wall_n wx) rfl rfl) <|
    hk (fun cx => cx.stR (wn rfl) rfl rfl 0 rfl (cx.rq 2 s2_10) (cx.u 0 rfl) (by kernel_rfl) (Eq.refl 6) (scC_one _) q_g2 rfl trivial trivial) <|
    hk (fun cx => cx.q (ex_as rfl rfl)) <|
    hn) ?_
   intro a7 w7 f7
   refine wp_ret ?_
   have s2_11 := f7.q 2 s2_10
   try simp only [Exit.inBlock, Exit.then]
   refine bodyPost_ret (res_ct (fn := Try.f89) rfl s2_11 (load_row 29 f7.rows.1 Try.underlying29 rfl (by kernel_rfl)) (f7.v 2 rfl rfl rfl)) f7.d ?_
   have HN : Sc.onB a = false := by show (Rg.meetB a.r ⟨⟨V a.k.v, V (a.k.v ||| a.k.m)⟩, allR.s⟩ && Kn.meetB a.k (comK (Bk (Sc.oR a).u.lo) (Bk (Sc.oR a).u.hi))) = _; simp only [Ffk1.out, Bool.false_and, Bool.true_and]
   have HE : (.tuple #[.agg (scC allC), .bool false] : Value) = .tuple #[.agg (scC (Sc.on a)), .bool (Sc.onB a)] := by unfold Sc.on; simp only [HN, if_true, if_false, Bool.false_eq_true]
   exact ⟨retV HE, f7.b⟩
  have Ffk1 := Lib.hid fk1; clear fk1
  have b_g1_12 := f4.kp b_g1_3 ⟨.inl rfl, .inr (ne_row b_g1 q_g3), trivial⟩
  have s1_13 := f4.q 1 s1_4
  have s4_14 := f4.q 4 s4_5
  refine go_reg [bx g1 29 (scC a), bx g3 25 (cR (V a.k.v) (V (a.k.v ||| a.k.m)) allR.s.lo allR.s.hi)] [⟨7, 5, 25, (cR 0 0 0 0), some 8, (cR (Sc.oR a).u.lo (Sc.oR a).u.hi (Sc.oR a).s.lo (Sc.oR a).s.hi)⟩] [some (pt g1 0), some (.agg (cR a.r.u.lo a.r.u.hi a.r.s.lo a.r.s.hi)), some (.agg (cR (V a.k.v) (V (a.k.v ||| a.k.m)) allR.s.lo allR.s.hi)), some (.tuple #[.agg (cR (Sc.oR a).u.lo (Sc.oR a).u.hi (Sc.oR a).s.lo (Sc.oR a).s.hi), .bool (Rg.meetB a.r ⟨⟨V a.k.v, V (a.k.v ||| a.k.m)⟩, allR.s⟩)]), some (.tuple #[.agg (cR (Sc.oR a).u.lo (Sc.oR a).u.hi (Sc.oR a).s.lo (Sc.oR a).s.hi), .bool (Rg.meetB a.r ⟨⟨V a.k.v, V (a.k.v ||| a.k.m)⟩, allR.s⟩)]), some (.agg (cR (Sc.oR a).u.lo (Sc.oR a).u.hi (Sc.oR a).s.lo (Sc.oR a).s.hi)), oT, none, none, oT] mo f4.d f4.z f4.b (by kernel_rfl) ⟨b_g1_12, f4.rows.2.1, trivial⟩ (
   hk (fun cx => cx.q (ex_fa rfl (cx.rq 1 s1_13) (faStH29_0_0 _ _))) <|
   hk (fun cx => cx.q (exec_loadR 25 _ rfl g1 0 (cx.u 0 rfl) (cx.rn 0 rfl) [.int .u64 a.r.u.lo, .int .u64 a.r.u.hi, .int .i64 a.r.s.lo, .int .i64 a.r.s.hi] rfl _ Try.underlying25 rfl (by kernel_rfl))) <|
   hk (fun cx => cx.q (ldR rfl (cx.rq 4 s4_14) (cx.rn 1 rfl))) <|
   hc (fun _ _ wx cx => cx.c rfl (args2 (cx.u 0 rfl) (cx.u 1 rfl)) Try.func112 (by decide +kernel) (rmeet_n a.r.u.lo a.r.u.hi a.r.s.lo a.r.s.hi (V a.k.v) (V (a.k.v ||| a.k.m)) allR.s.lo allR.s.hi wx HA.out (rgK_ok a.k)) rfl (congrArg (fun x : Rg => Value.tuple #[Value.agg #[.int .u64 x.u.lo, .int .u64 x.u.hi, .int .i64 x.s.lo, .int .i64 x.s.hi], .bool (Rg.meetB a.r ⟨⟨V a.k.v, V (a.k.v ||| a.k.m)⟩, allR.s⟩)]) rfl)) <|
   kmu 0 <|
   hk (fun cx => cx.q (ex_ext (x := .tmp 21) rfl (cx.u 0 rfl) rfl)) <|
   hk (fun cx => cx.v (ex_ext (x := .tmp 21) rfl (cx.u 0 rfl) rfl) rfl (congrArg Value.bool Ffk1.out)) <|
   hk (fun cx => cx.al (wn rfl) 0 rfl (by simp [execOp, Act.eval, go_sem]) rfl rfl rfl rfl (by kernel_rfl) trivial) <|
   hk (fun cx => cx.stA (wn rfl) rfl rfl 0 0 rfl rfl rfl rfl (cx.u 1 rfl) (by kernel_rfl) (Eq.refl 4) (cR_one _ _ _ _) f4.b.size rfl rfl trivial) <|
   kmu 0 <|
   hn) ?_
  intro a8 w8 f8
  obtain ⟨g4, u_g4, q_g4, b_g4⟩ := f8.al.1
  refine wp_seq ?_
  refine wp_seq ?_
  refine go_reg [] [] [oT, oF] mo f8.d f8.z f8.b (by kernel_rfl) trivial (
   hk (fun cx => cx.q (ex_mv rfl (cx.rq 6 (f8.v 9 rfl rfl rfl)))) <|
   hk (fun cx => cx.q (ex_not (x := .tmp 28) rfl (cx.u 0 rfl))) <|
   hn) ?_
  intro a9 w9 f9
  refine wp_cond_false (f9.v 1 rfl rfl rfl) ?_
  refine wp_skip ?_
  refine wp_seq ?_
  cases fk2 : Kn.meetB a.k (comK (Bk (Sc.oR a).u.lo) (Bk (Sc.oR a).u.hi))
  case false =>
   have Ffk2 := Lib.hid fk2; clear fk2
   have b_g1_15 := f9.k (f8.k b_g1_12)
   have b_g4_16 := f9.k b_g4
   have s1_17 := f9.q 1 (f8.q 1 s1_13)
   have s5_18 := f9.q 5 u_g4
   refine go_reg [bx g1 29 (scC a), bx g4 25 (cR (Sc.oR a).u.lo (Sc.oR a).u.hi (Sc.oR a).s.lo (Sc.oR a).s.hi)] [⟨11, 7, 27, (knC zKn), some 12, (knC (Sc.oK a))⟩] [some (pt g1 4), some (.agg (knC a.k)), some (pt g4 0), some (.int .u64 (V (Bk (Sc.oR a).u.lo))), some (pt g4 1), some (.int .u64 (V (Bk (Sc.oR a).u.hi))), some (.agg (knC (comK (Bk (Sc.oR a).u.lo) (Bk (Sc.oR a).u.hi)))), some (.tuple #[.agg (knC (Sc.oK a)), .bool (Kn.meetB a.k (comK (Bk (Sc.oR a).u.lo) (Bk (Sc.oR a).u.hi)))]), some (.tuple #[.agg (knC (Sc.oK a)), .bool (Kn.meetB a.k (comK (Bk (Sc.oR a).u.lo) (Bk (Sc.oR a).u.hi)))]), some (.agg (knC (Sc.oK a))), oF, none, none, oF] mo f9.d f9.z f9.b (by kernel_rfl) ⟨b_g1_15, b_g4_16, trivial⟩ (
    hk (fun cx => cx.q (ex_fa rfl (cx.rq 1 s1_17) (faStH29_1_0 _ _))) <|
    hk (fun cx => cx.q (exec_loadR 27 _ rfl g1 4 (cx.u 0 rfl) (cx.rn 0 rfl) [.int .u64 (V a.k.v), .int .u64 (V a.k.m)] rfl _ Try.underlying27 rfl (by kernel_rfl))) <|
    hk (fun cx => cx.q (ex_fa rfl (cx.rq 5 s5_18) (faStH25_0_0 _ _))) <|
    hk (fun cx => cx.v (ex_ld rfl (cx.u 0 rfl) (cx.rn 1 rfl) rfl Try.isAgg23) rfl (congrArg (Value.int .u64) (lo_w HA.out))) <|
    hk (fun cx => cx.q (ex_fa rfl (cx.rq 5 s5_18) (faStH25_1_0 _ _))) <|
    hk (fun cx => cx.v (ex_ld rfl (cx.u 0 rfl) (cx.rn 1 rfl) rfl Try.isAgg23) rfl (congrArg (Value.int .u64) (hi_w HA.out))) <|
    hc (fun _ _ wx cx => cx.c rfl (args2 (cx.u 0 rfl) (cx.u 1 rfl)) Try.func114 (by decide +kernel) (lcom_n (Bk (Sc.oR a).u.lo) (Bk (Sc.oR a).u.hi) wx) rfl rfl) <|
    hc (fun _ _ wx cx => cx.c rfl (args2 (cx.u 0 rfl) (cx.u 1 rfl)) Try.func113 (by decide +kernel) (lmeet_n a.k (comK (Bk (Sc.oR a).u.lo) (Bk (Sc.oR a).u.hi)) wx) rfl (congrArg (fun x : Kn => Value.tuple #[Value.agg (knC x), .bool (Kn.meetB a.k (comK (Bk (Sc.oR a).u.lo) (Bk (Sc.oR a).u.hi)))]) rfl)) <|
    kmu 0 <|
    hk (fun cx => cx.q (ex_ext (x := .tmp 31) rfl (cx.u 0 rfl) rfl)) <|
    hk (fun cx => cx.v (ex_ext (x := .tmp 31) rfl (cx.u 0 rfl) rfl) rfl (congrArg Value.bool Ffk2.out)) <|
    hk (fun cx => cx.al (wn rfl) 0 rfl (al_kn rfl) rfl rfl rfl rfl (by kernel_rfl) trivial) <|
    hk (fun cx => cx.stA (wn rfl) rfl rfl 0 0 rfl rfl rfl rfl (cx.u 1 rfl) (by kernel_rfl) (Eq.refl 2) (knC_one _) f9.b.size rfl rfl trivial) <|
    kmu 0 <|
    hn) ?_
   intro a10 w10 f10
   obtain ⟨g5, u_g5, q_g5, b_g5⟩ := f10.al.1
   refine wp_seq ?_
   refine wp_seq ?_
   refine go_reg [] [] [oF, oT] mo f10.d f10.z f10.b (by kernel_rfl) trivial (
    hk (fun cx => cx.q (ex_mv rfl (cx.rq 6 (f10.v 13 rfl rfl rfl)))) <|
    hk (fun cx => cx.q (ex_not (x := .tmp 42) rfl (cx.u 0 rfl))) <|
    hn) ?_
   intro a11 w11 f11
   refine wp_cond_true (f11.v 1 rfl rfl rfl) ?_
   refine wp_seq ?_
   have b_g2_19 := f11.k (f10.k (f9.k (f8.k (f4.kp (f3.kp (f2.k b_g2) ⟨.inl rfl, .inr (ne_row b_g2 q_g3), trivial⟩) ⟨.inl rfl, .inr (ne_row b_g2 q_g3), trivial⟩))))
   have s2_20 := f11.q 2 (f10.q 2 (f9.q 2 (f8.q 2 (f4.q 2 (f3.q 2 (f2.q 2 u_g2))))))
   refine go_reg [⟨g2, 29, (scC zSc), some 1, (scC allC)⟩] [] [some (.agg (scC allC)), none, oF] mo f11.d f11.z f11.b (by kernel_rfl) ⟨b_g2_19, trivial⟩ (
    hc (fun _ _ wx cx => cx.c rfl (args0 ) Try.func41 (by decide +kernel) (wall_n wx) rfl rfl) <|
    hk (fun cx => cx.stR (wn rfl) rfl rfl 0 rfl (cx.rq 2 s2_20) (cx.u 0 rfl) (by kernel_rfl) (Eq.refl 6) (scC_one _) q_g2 rfl trivial trivial) <|
    hk (fun cx => cx.q (ex_as rfl rfl)) <|
    hn) ?_
   intro a12 w12 f12
   refine wp_ret ?_
   have s2_21 := f12.q 2 s2_20
   try simp only [Exit.inBlock, Exit.then]
   refine bodyPost_ret (res_ct (fn := Try.f89) rfl s2_21 (load_row 29 f12.rows.1 Try.underlying29 rfl (by kernel_rfl)) (f12.v 2 rfl rfl rfl)) f12.d ?_
   have HN : Sc.onB a = false := by show (Rg.meetB a.r ⟨⟨V a.k.v, V (a.k.v ||| a.k.m)⟩, allR.s⟩ && Kn.meetB a.k (comK (Bk (Sc.oR a).u.lo) (Bk (Sc.oR a).u.hi))) = _; simp only [Ffk1.out, Ffk2.out, Bool.false_and, Bool.true_and]
   have HE : (.tuple #[.agg (scC allC), .bool false] : Value) = .tuple #[.agg (scC (Sc.on a)), .bool (Sc.onB a)] := by unfold Sc.on; simp only [HN, if_true, if_false, Bool.false_eq_true]
   exact ⟨retV HE, f12.b⟩
  have Ffk2 := Lib.hid fk2; clear fk2
  have b_g1_22 := f9.k (f8.k b_g1_12)
  have b_g4_23 := f9.k b_g4
  have s1_24 := f9.q 1 (f8.q 1 s1_13)
  have s5_25 := f9.q 5 u_g4
  refine go_reg [bx g1 29 (scC a), bx g4 25 (cR (Sc.oR a).u.lo (Sc.oR a).u.hi (Sc.oR a).s.lo (Sc.oR a).s.hi)] [⟨11, 7, 27, (knC zKn), some 12, (knC (Sc.oK a))⟩] [some (pt g1 4), some (.agg (knC a.k)), some (pt g4 0), some (.int .u64 (V (Bk (Sc.oR a).u.lo))), some (pt g4 1), some (.int .u64 (V (Bk (Sc.oR a).u.hi))), some (.agg (knC (comK (Bk (Sc.oR a).u.lo) (Bk (Sc.oR a).u.hi)))), some (.tuple #[.agg (knC (Sc.oK a)), .bool (Kn.meetB a.k (comK (Bk (Sc.oR a).u.lo) (Bk (Sc.oR a).u.hi)))]), some (.tuple #[.agg (knC (Sc.oK a)), .bool (Kn.meetB a.k (comK (Bk (Sc.oR a).u.lo) (Bk (Sc.oR a).u.hi)))]), some (.agg (knC (Sc.oK a))), oT, none, none, oT] mo f9.d f9.z f9.b (by kernel_rfl) ⟨b_g1_22, b_g4_23, trivial⟩ (
   hk (fun cx => cx.q (ex_fa rfl (cx.rq 1 s1_24) (faStH29_1_0 _ _))) <|
   hk (fun cx => cx.q (exec_loadR 27 _ rfl g1 4 (cx.u 0 rfl) (cx.rn 0 rfl) [.int .u64 (V a.k.v), .int .u64 (V a.k.m)] rfl _ Try.underlying27 rfl (by kernel_rfl))) <|
   hk (fun cx => cx.q (ex_fa rfl (cx.rq 5 s5_25) (faStH25_0_0 _ _))) <|
   hk (fun cx => cx.v (ex_ld rfl (cx.u 0 rfl) (cx.rn 1 rfl) rfl Try.isAgg23) rfl (congrArg (Value.int .u64) (lo_w HA.out))) <|
   hk (fun cx => cx.q (ex_fa rfl (cx.rq 5 s5_25) (faStH25_1_0 _ _))) <|
   hk (fun cx => cx.v (ex_ld rfl (cx.u 0 rfl) (cx.rn 1 rfl) rfl Try.isAgg23) rfl (congrArg (Value.int .u64) (hi_w HA.out))) <|
   hc (fun _ _ wx cx => cx.c rfl (args2 (cx.u 0 rfl) (cx.u 1 rfl)) Try.func114 (by decide +kernel) (lcom_n (Bk (Sc.oR a).u.lo) (Bk (Sc.oR a).u.hi) wx) rfl rfl) <|
   hc (fun _ _ wx cx => cx.c rfl (args2 (cx.u 0 rfl) (cx.u 1 rfl)) Try.func113 (by decide +kernel) (lmeet_n a.k (comK (Bk (Sc.oR a).u.lo) (Bk (Sc.oR a).u.hi)) wx) rfl (congrArg (fun x : Kn => Value.tuple #[Value.agg (knC x), .bool (Kn.meetB a.k (comK (Bk (Sc.oR a).u.lo) (Bk (Sc.oR a).u.hi)))]) rfl)) <|
   kmu 0 <|
   hk (fun cx => cx.q (ex_ext (x := .tmp 31) rfl (cx.u 0 rfl) rfl)) <|
   hk (fun cx => cx.v (ex_ext (x := .tmp 31) rfl (cx.u 0 rfl) rfl) rfl (congrArg Value.bool Ffk2.out)) <|
   hk (fun cx => cx.al (wn rfl) 0 rfl (al_kn rfl) rfl rfl rfl rfl (by kernel_rfl) trivial) <|
   hk (fun cx => cx.stA (wn rfl) rfl rfl 0 0 rfl rfl rfl rfl (cx.u 1 rfl) (by kernel_rfl) (Eq.refl 2) (knC_one _) f9.b.size rfl rfl trivial) <|
   kmu 0 <|
   hn) ?_
  intro a13 w13 f13
  obtain ⟨g5, u_g5, q_g5, b_g5⟩ := f13.al.1
  refine wp_seq ?_
  refine wp_seq ?_
  refine go_reg [] [] [oT, oF] mo f13.d f13.z f13.b (by kernel_rfl) trivial (
   hk (fun cx => cx.q (ex_mv rfl (cx.rq 6 (f13.v 13 rfl rfl rfl)))) <|
   hk (fun cx => cx.q (ex_not (x := .tmp 42) rfl (cx.u 0 rfl))) <|
   hn) ?_
  intro a14 w14 f14
  refine wp_cond_false (f14.v 1 rfl rfl rfl) ?_
  refine wp_skip ?_
  refine wp_seq ?_
  have b_g4_26 := f14.k (f13.k b_g4_23)
  have b_g5_27 := f14.k b_g5
  have b_g2_28 := f14.k (f13.k (f9.k (f8.k (f4.kp (f3.kp (f2.k b_g2) ⟨.inl rfl, .inr (ne_row b_g2 q_g3), trivial⟩) ⟨.inl rfl, .inr (ne_row b_g2 q_g3), trivial⟩))))
  have s5_29 := f14.q 5 (f13.q 5 s5_25)
  have s7_30 := f14.q 7 u_g5
  have s2_31 := f14.q 2 (f13.q 2 (f9.q 2 (f8.q 2 (f4.q 2 (f3.q 2 (f2.q 2 u_g2))))))
  refine go_reg [bx g4 25 (cR (Sc.oR a).u.lo (Sc.oR a).u.hi (Sc.oR a).s.lo (Sc.oR a).s.hi), bx g5 27 (knC (Sc.oK a)), ⟨g2, 29, (scC zSc), some 3, (scC ⟨Sc.oR a, Sc.oK a⟩)⟩] [] [some (.agg (cR (Sc.oR a).u.lo (Sc.oR a).u.hi (Sc.oR a).s.lo (Sc.oR a).s.hi)), some (.agg (knC (Sc.oK a))), some (.agg (scC ⟨Sc.oR a, Sc.oK a⟩)), none, oT] mo f14.d f14.z f14.b (by kernel_rfl) ⟨b_g4_26, b_g5_27, b_g2_28, trivial⟩ (
   hk (fun cx => cx.q (ldR rfl (cx.rq 5 s5_29) (cx.rn 0 rfl))) <|
   hk (fun cx => cx.q (ldKn rfl (cx.rq 7 s7_30) (cx.rn 1 rfl))) <|
   hk (fun cx => cx.q (exec_build rfl (parts2 (cx.u 0 rfl) (cx.u 1 rfl)) (by kernel_rfl))) <|
   hk (fun cx => cx.stR (wn rfl) rfl rfl 2 rfl (cx.rq 2 s2_31) (cx.u 0 rfl) (by kernel_rfl) (Eq.refl 6) (scC_one _) q_g2 rfl ⟨(ne_row (f4.kp (f3.kp (f2.k b_g2) ⟨.inl rfl, .inr (ne_row b_g2 q_g3), trivial⟩) ⟨.inl rfl, .inr (ne_row b_g2 q_g3), trivial⟩) q_g4).symm, (ne_row (f9.k (f8.k (f4.kp (f3.kp (f2.k b_g2) ⟨.inl rfl, .inr (ne_row b_g2 q_g3), trivial⟩) ⟨.inl rfl, .inr (ne_row b_g2 q_g3), trivial⟩))) q_g5).symm, trivial⟩ trivial) <|
   hk (fun cx => cx.q (ex_as rfl rfl)) <|
   hn) ?_
  intro a15 w15 f15
  refine wp_ret ?_
  have s2_32 := f15.q 2 s2_31
  try simp only [Exit.inBlock, Exit.then]
  refine bodyPost_ret (res_ct (fn := Try.f89) rfl s2_32 (load_row 29 f15.rows.2.2.1 Try.underlying29 rfl (by kernel_rfl)) (f15.v 4 rfl rfl rfl)) f15.d ?_
  have HN : Sc.onB a = true := by show (Rg.meetB a.r ⟨⟨V a.k.v, V (a.k.v ||| a.k.m)⟩, allR.s⟩ && Kn.meetB a.k (comK (Bk (Sc.oR a).u.lo) (Bk (Sc.oR a).u.hi))) = _; simp only [Ffk1.out, Ffk2.out, Bool.false_and, Bool.true_and]
  have HE : (.tuple #[.agg (scC ⟨Sc.oR a, Sc.oK a⟩), .bool true] : Value) = .tuple #[.agg (scC (Sc.on a)), .bool (Sc.onB a)] := by unfold Sc.on; simp only [HN, if_true, if_false, Bool.false_eq_true]
  exact ⟨retV HE, f15.b⟩
set_option maxHeartbeats 4000000 in
theorem wnarrow_n (a : Sc) (W : World) (ha : a.r.Ok) : Calls Try.prog 61 #[.agg (scC a)] W fun e w' => e = .returned (.tuple #[.agg (scC (Sc.nar a)), .bool (Sc.narB a)]) ∧ Below W.heap.size W w' := by
  have HA := Lib.hid ha
  clear ha
  refine calls_abs Try.func61 rfl (Nat.le_of_ble_eq_true rfl) ?_
  intro a0 d0 z0 h0
  replace z0 : a0.tmps.size = 22 := z0
  have s0_0 : a0.tmps.getD 0 undef = .agg (scC a) := h0 0 (Nat.le_of_ble_eq_true rfl)
  refine wp_seq ?_
  refine go_reg [] [⟨0, 1, 29, (scC a), none, #[]⟩, ⟨1, 2, 29, (scC zSc), none, #[]⟩] [none, none, oF] mo d0 z0 (Below.refl _ _) (by kernel_rfl) trivial (
   hk (fun cx => cx.al (wn rfl) 0 rfl (ex_box rfl (cx.rq 0 s0_0) rfl) rfl rfl rfl rfl rfl trivial) <|
   hk (fun cx => cx.al (wn rfl) 1 rfl (al_sc rfl) rfl rfl rfl rfl rfl trivial) <|
   hk (fun cx => cx.q (ex_as rfl rfl)) <|
   hn) ?_
  intro a1 w1 f1
  obtain ⟨g1, u_g1, q_g1, b_g1⟩ := f1.al.1
  obtain ⟨g2, u_g2, q_g2, b_g2⟩ := f1.al.2.1
  refine wp_seq ?_
  refine wp_seq ?_
  cases fk1 : Sc.mayB a
  case false =>
   have Ffk1 := Lib.hid fk1; clear fk1
   refine go_reg [bx g1 29 (scC a)] [] [some (.agg (scC a)), oF, oT] mo f1.d f1.z f1.b (by kernel_rfl) ⟨b_g1, trivial⟩ (
    hk (fun cx => cx.q (ldSc rfl (cx.rq 1 u_g1) (cx.rn 0 rfl))) <|
    hc (fun _ _ wx cx => cx.c rfl (args1 (cx.u 0 rfl)) Try.func43 (by decide +kernel) (wmay_n a wx) rfl (congrArg Value.bool Ffk1.out)) <|
    hk (fun cx => cx.q (ex_not (x := .tmp 7) rfl (cx.u 0 rfl))) <|
    hn) ?_
   intro a2 w2 f2
   refine wp_cond_true (f2.v 2 rfl rfl rfl) ?_
   refine wp_seq ?_
   have b_g2_1 := f2.k b_g2
   have s2_2 := f2.q 2 u_g2
   refine go_reg [⟨g2, 29, (scC zSc), some 1, (scC allC)⟩] [] [some (.agg (scC allC)), none, oF] mo f2.d f2.z f2.b (by kernel_rfl) ⟨b_g2_1, trivial⟩ (
    hc (fun _ _ wx cx => cx.c rfl (args0 ) Try.func41 (by decide +kernel) (wall_n wx) rfl rfl) <|
    hk (fun cx => cx.stR (wn rfl) rfl rfl 0 rfl (cx.rq 2 s2_2) (cx.u 0 rfl) (by kernel_rfl) (Eq.refl 6) (scC_one _) q_g2 rfl trivial trivial) <|
    hk (fun cx => cx.q (ex_as rfl rfl)) <|
    hn) ?_
   intro a3 w3 f3
   refine wp_ret ?_
   have s2_3 := f3.q 2 s2_2
   try simp only [Exit.inBlock, Exit.then]
   refine bodyPost_ret (res_ct (fn := Try.f61) rfl s2_3 (load_row 29 f3.rows.1 Try.underlying29 rfl (by kernel_rfl)) (f3.v 2 rfl rfl rfl)) f3.d ?_
   have HE : (.tuple #[.agg (scC allC), .bool false] : Value) = .tuple #[.agg (scC (Sc.nar a)), .bool (Sc.narB a)] := by unfold Sc.nar; rw [nar_no (on_no_may Ffk1.out)]; rfl
   exact ⟨retV HE, f3.b⟩
  have Ffk1 := Lib.hid fk1; clear fk1
  refine go_reg [bx g1 29 (scC a)] [] [some (.agg (scC a)), oT, oF] mo f1.d f1.z f1.b (by kernel_rfl) ⟨b_g1, trivial⟩ (
   hk (fun cx => cx.q (ldSc rfl (cx.rq 1 u_g1) (cx.rn 0 rfl))) <|
   hc (fun _ _ wx cx => cx.c rfl (args1 (cx.u 0 rfl)) Try.func43 (by decide +kernel) (wmay_n a wx) rfl (congrArg Value.bool Ffk1.out)) <|
   hk (fun cx => cx.q (ex_not (x := .tmp 7) rfl (cx.u 0 rfl))) <|
   hn) ?_
  intro a4 w4 f4
  refine wp_cond_false (f4.v 2 rfl rfl rfl) ?_
  refine wp_skip ?_
  refine wp_seq ?_
  cases fk2 : Sc.onB a
  case false =>
   have Ffk2 := Lib.hid fk2; clear fk2
   have b_g1_4 := f4.k b_g1
   have s1_5 := f4.q 1 u_g1
   refine go_reg [bx g1 29 (scC a)] [⟨5, 4, 29, (scC zSc), some 6, (scC (Sc.on a))⟩] [some (.agg (scC a)), some (.tuple #[.agg (scC (Sc.on a)), .bool (Sc.onB a)]), some (.tuple #[.agg (scC (Sc.on a)), .bool (Sc.onB a)]), some (.agg (scC (Sc.on a))), oF, none, none, oF] mo f4.d f4.z f4.b (by kernel_rfl) ⟨b_g1_4, trivial⟩ (
    hk (fun cx => cx.q (ldSc rfl (cx.rq 1 s1_5) (cx.rn 0 rfl))) <|
    hc (fun _ _ wx cx => cx.c rfl (args1 (cx.u 0 rfl)) Try.func89 (by decide +kernel) (wonce_n a wx HA.out) rfl rfl) <|
    kmu 0 <|
    hk (fun cx => cx.q (ex_ext (x := .tmp 10) rfl (cx.u 0 rfl) rfl)) <|
    hk (fun cx => cx.v (ex_ext (x := .tmp 10) rfl (cx.u 0 rfl) rfl) rfl (congrArg Value.bool Ffk2.out)) <|
    hk (fun cx => cx.al (wn rfl) 0 rfl (al_sc rfl) rfl rfl rfl rfl (by kernel_rfl) trivial) <|
    hk (fun cx => cx.stA (wn rfl) rfl rfl 0 0 rfl rfl rfl rfl (cx.u 1 rfl) (by kernel_rfl) (Eq.refl 6) (scC_one _) f4.b.size rfl rfl trivial) <|
    kmu 0 <|
    hn) ?_
   intro a5 w5 f5
   obtain ⟨g3, u_g3, q_g3, b_g3⟩ := f5.al.1
   refine wp_seq ?_
   refine wp_seq ?_
   refine go_reg [] [] [oF, oT] mo f5.d f5.z f5.b (by kernel_rfl) trivial (
    hk (fun cx => cx.q (ex_mv rfl (cx.rq 5 (f5.v 7 rfl rfl rfl)))) <|
    hk (fun cx => cx.q (ex_not (x := .tmp 15) rfl (cx.u 0 rfl))) <|
    hn) ?_
   intro a6 w6 f6
   refine wp_cond_true (f6.v 1 rfl rfl rfl) ?_
   refine wp_seq ?_
   have b_g2_6 := f6.k (f5.k (f4.k b_g2))
   have s2_7 := f6.q 2 (f5.q 2 (f4.q 2 u_g2))
   refine go_reg [⟨g2, 29, (scC zSc), some 1, (scC allC)⟩] [] [some (.agg (scC allC)), none, oF] mo f6.d f6.z f6.b (by kernel_rfl) ⟨b_g2_6, trivial⟩ (
    hc (fun _ _ wx cx => cx.c rfl (args0 ) Try.func41 (by decide +kernel) (wall_n wx) rfl rfl) <|
    hk (fun cx => cx.stR (wn rfl) rfl rfl 0 rfl (cx.rq 2 s2_7) (cx.u 0 rfl) (by kernel_rfl) (Eq.refl 6) (scC_one _) q_g2 rfl trivial trivial) <|
    hk (fun cx => cx.q (ex_as rfl rfl)) <|
    hn) ?_
   intro a7 w7 f7
   refine wp_ret ?_
   have s2_8 := f7.q 2 s2_7
   try simp only [Exit.inBlock, Exit.then]
   refine bodyPost_ret (res_ct (fn := Try.f61) rfl s2_8 (load_row 29 f7.rows.1 Try.underlying29 rfl (by kernel_rfl)) (f7.v 2 rfl rfl rfl)) f7.d ?_
   have HE : (.tuple #[.agg (scC allC), .bool false] : Value) = .tuple #[.agg (scC (Sc.nar a)), .bool (Sc.narB a)] := by unfold Sc.nar; rw [nar_no Ffk2.out]; rfl
   exact ⟨retV HE, f7.b⟩
  have Ffk2 := Lib.hid fk2; clear fk2
  have b_g1_9 := f4.k b_g1
  have s1_10 := f4.q 1 u_g1
  refine go_reg [bx g1 29 (scC a)] [⟨5, 4, 29, (scC zSc), some 6, (scC (Sc.on a))⟩] [some (.agg (scC a)), some (.tuple #[.agg (scC (Sc.on a)), .bool (Sc.onB a)]), some (.tuple #[.agg (scC (Sc.on a)), .bool (Sc.onB a)]), some (.agg (scC (Sc.on a))), oT, none, none, oT] mo f4.d f4.z f4.b (by kernel_rfl) ⟨b_g1_9, trivial⟩ (
   hk (fun cx => cx.q (ldSc rfl (cx.rq 1 s1_10) (cx.rn 0 rfl))) <|
   hc (fun _ _ wx cx => cx.c rfl (args1 (cx.u 0 rfl)) Try.func89 (by decide +kernel) (wonce_n a wx HA.out) rfl rfl) <|
   kmu 0 <|
   hk (fun cx => cx.q (ex_ext (x := .tmp 10) rfl (cx.u 0 rfl) rfl)) <|
   hk (fun cx => cx.v (ex_ext (x := .tmp 10) rfl (cx.u 0 rfl) rfl) rfl (congrArg Value.bool Ffk2.out)) <|
   hk (fun cx => cx.al (wn rfl) 0 rfl (al_sc rfl) rfl rfl rfl rfl (by kernel_rfl) trivial) <|
   hk (fun cx => cx.stA (wn rfl) rfl rfl 0 0 rfl rfl rfl rfl (cx.u 1 rfl) (by kernel_rfl) (Eq.refl 6) (scC_one _) f4.b.size rfl rfl trivial) <|
   kmu 0 <|
   hn) ?_
  intro a8 w8 f8
  obtain ⟨g3, u_g3, q_g3, b_g3⟩ := f8.al.1
  refine wp_seq ?_
  refine wp_seq ?_
  refine go_reg [] [] [oT, oF] mo f8.d f8.z f8.b (by kernel_rfl) trivial (
   hk (fun cx => cx.q (ex_mv rfl (cx.rq 5 (f8.v 7 rfl rfl rfl)))) <|
   hk (fun cx => cx.q (ex_not (x := .tmp 15) rfl (cx.u 0 rfl))) <|
   hn) ?_
  intro a9 w9 f9
  refine wp_cond_false (f9.v 1 rfl rfl rfl) ?_
  refine wp_skip ?_
  refine wp_seq ?_
  have b_g3_11 := f9.k b_g3
  have b_g2_12 := f9.k (f8.k (f4.k b_g2))
  have s4_13 := f9.q 4 u_g3
  have s2_14 := f9.q 2 (f8.q 2 (f4.q 2 u_g2))
  refine go_reg [bx g3 29 (scC (Sc.on a)), ⟨g2, 29, (scC zSc), some 4, (scC (Sc.on (Sc.on a)))⟩] [] [some (.agg (scC (Sc.on a))), some (.tuple #[.agg (scC (Sc.on (Sc.on a))), .bool (Sc.onB (Sc.on a))]), some (.agg (scC (Sc.on (Sc.on a)))), some (.bool (Sc.onB (Sc.on a))), none, some (.bool (Sc.onB (Sc.on a)))] mo f9.d f9.z f9.b (by kernel_rfl) ⟨b_g3_11, b_g2_12, trivial⟩ (
   hk (fun cx => cx.q (ldSc rfl (cx.rq 4 s4_13) (cx.rn 0 rfl))) <|
   hc (fun _ _ wx cx => cx.c rfl (args1 (cx.u 0 rfl)) Try.func89 (by decide +kernel) (wonce_n (Sc.on a) wx (on_ok (s := a) HA.out)) rfl rfl) <|
   hk (fun cx => cx.q (ex_ext (x := .tmp 19) rfl (cx.u 0 rfl) rfl)) <|
   hk (fun cx => cx.q (ex_ext (x := .tmp 19) rfl (cx.u 0 rfl) rfl)) <|
   hk (fun cx => cx.stR (wn rfl) rfl rfl 1 rfl (cx.rq 2 s2_14) (cx.u 0 rfl) (by kernel_rfl) (Eq.refl 6) (scC_one _) q_g2 rfl ⟨(ne_row (f4.k b_g2) q_g3).symm, trivial⟩ trivial) <|
   kmu 0 <|
   hn) ?_
  intro a10 w10 f10
  refine wp_ret ?_
  have s2_15 := f10.q 2 s2_14
  try simp only [Exit.inBlock, Exit.then]
  refine bodyPost_ret (res_ct (fn := Try.f61) rfl s2_15 (load_row 29 f10.rows.2.1 Try.underlying29 rfl (by kernel_rfl)) (f10.v 5 rfl rfl rfl)) f10.d ?_
  have HE : (.tuple #[.agg (scC (Sc.on (Sc.on a))), .bool (Sc.onB (Sc.on a))] : Value) = .tuple #[.agg (scC (Sc.nar a)), .bool (Sc.narB a)] := by rw [(nar_of Ffk2.out).1, (nar_of Ffk2.out).2]
  exact ⟨retV HE, f10.b⟩
set_option maxHeartbeats 4000000 in
theorem wnarrowed_n (a : Sc) (W : World) (ha : a.r.Ok) : Calls Try.prog 115 #[.agg (scC a)] W fun e w' => e = .returned (.agg (scC (Sc.nar a))) ∧ Below W.heap.size W w' := by
  have HA := Lib.hid ha
  clear ha
  refine calls_abs Try.func115 rfl (Nat.le_of_ble_eq_true rfl) ?_
  intro a0 d0 z0 h0
  replace z0 : a0.tmps.size = 11 := z0
  have s0_0 : a0.tmps.getD 0 undef = .agg (scC a) := h0 0 (Nat.le_of_ble_eq_true rfl)
  refine wp_seq ?_
  refine go_reg [] [⟨0, 1, 29, (scC a), none, #[]⟩, ⟨1, 2, 29, (scC zSc), none, #[]⟩] [none, none] mo d0 z0 (Below.refl _ _) (by kernel_rfl) trivial (
   hk (fun cx => cx.al (wn rfl) 0 rfl (ex_box rfl (cx.rq 0 s0_0) rfl) rfl rfl rfl rfl rfl trivial) <|
   hk (fun cx => cx.al (wn rfl) 1 rfl (al_sc rfl) rfl rfl rfl rfl rfl trivial) <|
   hn) ?_
  intro a1 w1 f1
  obtain ⟨g1, u_g1, q_g1, b_g1⟩ := f1.al.1
  obtain ⟨g2, u_g2, q_g2, b_g2⟩ := f1.al.2.1
  refine wp_seq ?_
  refine go_reg [bx g1 29 (scC a)] [⟨5, 3, 29, (scC zSc), some 6, (scC (Sc.nar a))⟩] [some (.agg (scC a)), some (.tuple #[.agg (scC (Sc.nar a)), .bool (Sc.narB a)]), some (.tuple #[.agg (scC (Sc.nar a)), .bool (Sc.narB a)]), some (.agg (scC (Sc.nar a))), some (.bool (Sc.narB a)), none, none, some (.bool (Sc.narB a))] mo f1.d f1.z f1.b (by kernel_rfl) ⟨b_g1, trivial⟩ (
   hk (fun cx => cx.q (ldSc rfl (cx.rq 1 u_g1) (cx.rn 0 rfl))) <|
   hc (fun _ _ wx cx => cx.c rfl (args1 (cx.u 0 rfl)) Try.func61 (by decide +kernel) (wnarrow_n a wx HA.out) rfl rfl) <|
   kmu 0 <|
   hk (fun cx => cx.q (ex_ext (x := .tmp 5) rfl (cx.u 0 rfl) rfl)) <|
   hk (fun cx => cx.q (ex_ext (x := .tmp 5) rfl (cx.u 0 rfl) rfl)) <|
   hk (fun cx => cx.al (wn rfl) 0 rfl (al_sc rfl) rfl rfl rfl rfl (by kernel_rfl) trivial) <|
   hk (fun cx => cx.stA (wn rfl) rfl rfl 0 0 rfl rfl rfl rfl (cx.u 1 rfl) (by kernel_rfl) (Eq.refl 6) (scC_one _) f1.b.size rfl rfl trivial) <|
   kmu 0 <|
   hn) ?_
  intro a2 w2 f2
  obtain ⟨g3, u_g3, q_g3, b_g3⟩ := f2.al.1
  refine wp_seq ?_
  have b_g2_1 := f2.k b_g2
  have s2_2 := f2.q 2 u_g2
  refine go_reg [bx g3 29 (scC (Sc.nar a)), ⟨g2, 29, (scC zSc), some 1, (scC (Sc.nar a))⟩] [] [some (.agg (scC (Sc.nar a))), none] mo f2.d f2.z f2.b (by kernel_rfl) ⟨b_g3, b_g2_1, trivial⟩ (
   hk (fun cx => cx.q (ldSc rfl (cx.rq 3 u_g3) (cx.rn 0 rfl))) <|
   hk (fun cx => cx.stR (wn rfl) rfl rfl 1 rfl (cx.rq 2 s2_2) (cx.u 0 rfl) (by kernel_rfl) (Eq.refl 6) (scC_one _) q_g2 rfl ⟨(ne_row b_g2 q_g3).symm, trivial⟩ trivial) <|
   hn) ?_
  intro a3 w3 f3
  refine wp_ret ?_
  have s2_3 := f3.q 2 s2_2
  try simp only [Exit.inBlock, Exit.then]
  refine bodyPost_ret (res_c (fn := Try.f115) rfl s2_3 (load_row 29 f3.rows.2.1 Try.underlying29 rfl (by kernel_rfl))) f3.d ?_
  exact ⟨rfl, f3.b⟩
set_option maxHeartbeats 4000000 in
theorem wjoin_n (a b : Sc) (W : World) (ha : a.r.Ok) (hb : b.r.Ok) : Calls Try.prog 101 #[.agg (scC a), .agg (scC b)] W fun e w' => e = .returned (.agg (scC (Sc.join a b))) ∧ Below W.heap.size W w' := by
  have HA := Lib.hid ha
  have HB := Lib.hid hb
  clear ha hb
  refine calls_abs Try.func101 rfl (Nat.le_of_ble_eq_true rfl) ?_
  intro a0 d0 z0 h0
  replace z0 : a0.tmps.size = 26 := z0
  have s0_0 : a0.tmps.getD 0 undef = .agg (scC a) := h0 0 (Nat.le_of_ble_eq_true rfl)
  have s1_0 : a0.tmps.getD 1 undef = .agg (scC b) := h0 1 (Nat.le_of_ble_eq_true rfl)
  refine wp_seq ?_
  refine go_reg [] [⟨0, 2, 29, (scC a), none, #[]⟩, ⟨1, 3, 29, (scC b), none, #[]⟩, ⟨2, 4, 29, (scC zSc), none, #[]⟩] [none, none, none] mo d0 z0 (Below.refl _ _) (by kernel_rfl) trivial (
   hk (fun cx => cx.al (wn rfl) 0 rfl (ex_box rfl (cx.rq 0 s0_0) rfl) rfl rfl rfl rfl rfl trivial) <|
   hk (fun cx => cx.al (wn rfl) 1 rfl (ex_box rfl (cx.rq 1 s1_0) rfl) rfl rfl rfl rfl rfl trivial) <|
   hk (fun cx => cx.al (wn rfl) 2 rfl (al_sc rfl) rfl rfl rfl rfl rfl trivial) <|
   hn) ?_
  intro a1 w1 f1
  obtain ⟨g1, u_g1, q_g1, b_g1⟩ := f1.al.1
  obtain ⟨g2, u_g2, q_g2, b_g2⟩ := f1.al.2.1
  obtain ⟨g3, u_g3, q_g3, b_g3⟩ := f1.al.2.2.1
  refine wp_seq ?_
  refine wp_seq ?_
  cases fk1 : Sc.mayB a
  case false =>
   have Ffk1 := Lib.hid fk1; clear fk1
   refine go_reg [bx g1 29 (scC a)] [] [some (.agg (scC a)), oF, oT, oT, oU, oU, oU, oT] mo f1.d f1.z f1.b (by kernel_rfl) ⟨b_g1, trivial⟩ (
    hk (fun cx => cx.q (ldSc rfl (cx.rq 2 u_g1) (cx.rn 0 rfl))) <|
    hc (fun _ _ wx cx => cx.c rfl (args1 (cx.u 0 rfl)) Try.func43 (by decide +kernel) (wmay_n a wx) rfl (congrArg Value.bool Ffk1.out)) <|
    hk (fun cx => cx.q (ex_not (x := .tmp 6) rfl (cx.u 0 rfl))) <|
    kmu 0 <|
    kno 0 <|
    kno 1 <|
    kno 1 <|
    hk (fun cx => cx.q (ex_pt rfl (cx.u 0 rfl) rfl)) <|
    hn) ?_
   intro a2 w2 f2
   refine wp_cond_true (f2.v 7 rfl rfl rfl) ?_
   refine wp_seq ?_
   have b_g3_1 := f2.k b_g3
   have s4_2 := f2.q 4 u_g3
   refine go_reg [⟨g3, 29, (scC zSc), some 1, (scC allC)⟩] [] [some (.agg (scC allC)), none] mo f2.d f2.z f2.b (by kernel_rfl) ⟨b_g3_1, trivial⟩ (
    hc (fun _ _ wx cx => cx.c rfl (args0 ) Try.func41 (by decide +kernel) (wall_n wx) rfl rfl) <|
    hk (fun cx => cx.stR (wn rfl) rfl rfl 0 rfl (cx.rq 4 s4_2) (cx.u 0 rfl) (by kernel_rfl) (Eq.refl 6) (scC_one _) q_g3 rfl trivial trivial) <|
    hn) ?_
   intro a3 w3 f3
   refine wp_ret ?_
   have s4_3 := f3.q 4 s4_2
   try simp only [Exit.inBlock, Exit.then]
   refine bodyPost_ret (res_c (fn := Try.f101) rfl s4_3 (load_row 29 f3.rows.1 Try.underlying29 rfl (by kernel_rfl))) f3.d ?_
   have HE : (.agg (scC allC) : Value) = .agg (scC (Sc.join a b)) := by unfold Sc.join; simp only [Ffk1.out, Bool.true_and, Bool.and_true, Bool.false_and, Bool.and_false, Bool.or_false, Bool.false_or, Bool.true_or, Bool.or_true, Bool.not_true, Bool.not_false, if_true, if_false, Bool.false_eq_true, Bool.true_eq_false, reduceCtorEq]; try rfl
   exact ⟨retV HE, f3.b⟩
  have Ffk1 := Lib.hid fk1; clear fk1
  cases fk2 : Sc.mayB b
  case false =>
   have Ffk2 := Lib.hid fk2; clear fk2
   refine go_reg [bx g1 29 (scC a), bx g2 29 (scC b)] [] [some (.agg (scC a)), oT, oF, oF, some (.agg (scC b)), oF, oT, oT] mo f1.d f1.z f1.b (by kernel_rfl) ⟨b_g1, b_g2, trivial⟩ (
    hk (fun cx => cx.q (ldSc rfl (cx.rq 2 u_g1) (cx.rn 0 rfl))) <|
    hc (fun _ _ wx cx => cx.c rfl (args1 (cx.u 0 rfl)) Try.func43 (by decide +kernel) (wmay_n a wx) rfl (congrArg Value.bool Ffk1.out)) <|
    hk (fun cx => cx.q (ex_not (x := .tmp 6) rfl (cx.u 0 rfl))) <|
    kmu 0 <|
    hk (fun cx => cx.vy 0 (ldSc rfl (cx.rq 3 u_g2) (cx.rn 1 rfl))) <|
    hc (fun _ _ wx cx => cx.call (cx.wy rfl rfl rfl rfl (cx.u 1 rfl)) rfl rfl (args1 (cx.u 0 rfl)) Try.func43 (by decide +kernel) rfl (wmay_n b wx) rfl rfl (congrArg Value.bool Ffk2.out) rfl) <|
    hk (fun cx => cx.vy 1 (ex_not (x := .tmp 10) rfl (cx.u 0 rfl))) <|
    hk (fun cx => cx.q (ex_pf rfl (cx.u 0 rfl) (cx.u 1 rfl))) <|
    hn) ?_
   intro a4 w4 f4
   refine wp_cond_true (f4.v 7 rfl rfl rfl) ?_
   refine wp_seq ?_
   have b_g3_4 := f4.k b_g3
   have s4_5 := f4.q 4 u_g3
   refine go_reg [⟨g3, 29, (scC zSc), some 1, (scC allC)⟩] [] [some (.agg (scC allC)), none] mo f4.d f4.z f4.b (by kernel_rfl) ⟨b_g3_4, trivial⟩ (
    hc (fun _ _ wx cx => cx.c rfl (args0 ) Try.func41 (by decide +kernel) (wall_n wx) rfl rfl) <|
    hk (fun cx => cx.stR (wn rfl) rfl rfl 0 rfl (cx.rq 4 s4_5) (cx.u 0 rfl) (by kernel_rfl) (Eq.refl 6) (scC_one _) q_g3 rfl trivial trivial) <|
    hn) ?_
   intro a5 w5 f5
   refine wp_ret ?_
   have s4_6 := f5.q 4 s4_5
   try simp only [Exit.inBlock, Exit.then]
   refine bodyPost_ret (res_c (fn := Try.f101) rfl s4_6 (load_row 29 f5.rows.1 Try.underlying29 rfl (by kernel_rfl))) f5.d ?_
   have HE : (.agg (scC allC) : Value) = .agg (scC (Sc.join a b)) := by unfold Sc.join; simp only [Ffk1.out, Ffk2.out, Bool.true_and, Bool.and_true, Bool.false_and, Bool.and_false, Bool.or_false, Bool.false_or, Bool.true_or, Bool.or_true, Bool.not_true, Bool.not_false, if_true, if_false, Bool.false_eq_true, Bool.true_eq_false, reduceCtorEq]; try rfl
   exact ⟨retV HE, f5.b⟩
  have Ffk2 := Lib.hid fk2; clear fk2
  refine go_reg [bx g1 29 (scC a), bx g2 29 (scC b)] [] [some (.agg (scC a)), oT, oF, oF, some (.agg (scC b)), oT, oF, oF] mo f1.d f1.z f1.b (by kernel_rfl) ⟨b_g1, b_g2, trivial⟩ (
   hk (fun cx => cx.q (ldSc rfl (cx.rq 2 u_g1) (cx.rn 0 rfl))) <|
   hc (fun _ _ wx cx => cx.c rfl (args1 (cx.u 0 rfl)) Try.func43 (by decide +kernel) (wmay_n a wx) rfl (congrArg Value.bool Ffk1.out)) <|
   hk (fun cx => cx.q (ex_not (x := .tmp 6) rfl (cx.u 0 rfl))) <|
   kmu 0 <|
   hk (fun cx => cx.vy 0 (ldSc rfl (cx.rq 3 u_g2) (cx.rn 1 rfl))) <|
   hc (fun _ _ wx cx => cx.call (cx.wy rfl rfl rfl rfl (cx.u 1 rfl)) rfl rfl (args1 (cx.u 0 rfl)) Try.func43 (by decide +kernel) rfl (wmay_n b wx) rfl rfl (congrArg Value.bool Ffk2.out) rfl) <|
   hk (fun cx => cx.vy 1 (ex_not (x := .tmp 10) rfl (cx.u 0 rfl))) <|
   hk (fun cx => cx.q (ex_pf rfl (cx.u 0 rfl) (cx.u 1 rfl))) <|
   hn) ?_
  intro a6 w6 f6
  refine wp_cond_false (f6.v 7 rfl rfl rfl) ?_
  refine wp_skip ?_
  refine wp_seq ?_
  have b_g1_7 := f6.k b_g1
  have b_g2_8 := f6.k b_g2
  have b_g3_9 := f6.k b_g3
  have s2_10 := f6.q 2 u_g1
  have s3_11 := f6.q 3 u_g2
  have s4_12 := f6.q 4 u_g3
  refine go_reg [bx g1 29 (scC a), bx g2 29 (scC b), ⟨g3, 29, (scC zSc), some 12, (scC (Sc.nar ⟨Rg.joinR a.r b.r, Kn.joinK a.k b.k⟩))⟩] [] [some (pt g1 0), some (.agg (cR a.r.u.lo a.r.u.hi a.r.s.lo a.r.s.hi)), some (pt g2 0), some (.agg (cR b.r.u.lo b.r.u.hi b.r.s.lo b.r.s.hi)), some (.agg (cR (Rg.joinR a.r b.r).u.lo (Rg.joinR a.r b.r).u.hi (Rg.joinR a.r b.r).s.lo (Rg.joinR a.r b.r).s.hi)), some (pt g1 4), some (.agg (knC a.k)), some (pt g2 4), some (.agg (knC b.k)), some (.agg (knC (Kn.joinK a.k b.k))), some (.agg (scC ⟨Rg.joinR a.r b.r, Kn.joinK a.k b.k⟩)), some (.agg (scC (Sc.nar ⟨Rg.joinR a.r b.r, Kn.joinK a.k b.k⟩))), none] mo f6.d f6.z f6.b (by kernel_rfl) ⟨b_g1_7, b_g2_8, b_g3_9, trivial⟩ (
   hk (fun cx => cx.q (ex_fa rfl (cx.rq 2 s2_10) (faStH29_0_0 _ _))) <|
   hk (fun cx => cx.q (exec_loadR 25 _ rfl g1 0 (cx.u 0 rfl) (cx.rn 0 rfl) [.int .u64 a.r.u.lo, .int .u64 a.r.u.hi, .int .i64 a.r.s.lo, .int .i64 a.r.s.hi] rfl _ Try.underlying25 rfl (by kernel_rfl))) <|
   hk (fun cx => cx.q (ex_fa rfl (cx.rq 3 s3_11) (faStH29_0_0 _ _))) <|
   hk (fun cx => cx.q (exec_loadR 25 _ rfl g2 0 (cx.u 0 rfl) (cx.rn 1 rfl) [.int .u64 b.r.u.lo, .int .u64 b.r.u.hi, .int .i64 b.r.s.lo, .int .i64 b.r.s.hi] rfl _ Try.underlying25 rfl (by kernel_rfl))) <|
   hc (fun _ _ wx cx => cx.c rfl (args2 (cx.u 0 rfl) (cx.u 1 rfl)) Try.func117 (by decide +kernel) (rjoin_n a.r.u.lo a.r.u.hi a.r.s.lo a.r.s.hi b.r.u.lo b.r.u.hi b.r.s.lo b.r.s.hi wx) rfl rfl) <|
   hk (fun cx => cx.q (ex_fa rfl (cx.rq 2 s2_10) (faStH29_1_0 _ _))) <|
   hk (fun cx => cx.q (exec_loadR 27 _ rfl g1 4 (cx.u 0 rfl) (cx.rn 0 rfl) [.int .u64 (V a.k.v), .int .u64 (V a.k.m)] rfl _ Try.underlying27 rfl (by kernel_rfl))) <|
   hk (fun cx => cx.q (ex_fa rfl (cx.rq 3 s3_11) (faStH29_1_0 _ _))) <|
   hk (fun cx => cx.q (exec_loadR 27 _ rfl g2 4 (cx.u 0 rfl) (cx.rn 1 rfl) [.int .u64 (V b.k.v), .int .u64 (V b.k.m)] rfl _ Try.underlying27 rfl (by kernel_rfl))) <|
   hc (fun _ _ wx cx => cx.c rfl (args2 (cx.u 0 rfl) (cx.u 1 rfl)) Try.func116 (by decide +kernel) (ljoin_n a.k b.k wx) rfl rfl) <|
   hk (fun cx => cx.q (exec_build rfl (parts2 (cx.u 0 rfl) (cx.u 1 rfl)) (by kernel_rfl))) <|
   hc (fun _ _ wx cx => cx.c rfl (args1 (cx.u 0 rfl)) Try.func115 (by decide +kernel) (wnarrowed_n ⟨Rg.joinR a.r b.r, Kn.joinK a.k b.k⟩ wx (joinR_ok HA.out HB.out)) rfl rfl) <|
   hk (fun cx => cx.stR (wn rfl) rfl rfl 2 rfl (cx.rq 4 s4_12) (cx.u 0 rfl) (by kernel_rfl) (Eq.refl 6) (scC_one _) q_g3 rfl ⟨(ne_ptr (pairAt f1.ps 0 2 (by decide) rfl rfl) u_g1 u_g3), (ne_ptr (pairAt f1.ps 1 2 (by decide) rfl rfl) u_g2 u_g3), trivial⟩ trivial) <|
   hn) ?_
  intro a7 w7 f7
  refine wp_ret ?_
  have s4_13 := f7.q 4 s4_12
  try simp only [Exit.inBlock, Exit.then]
  refine bodyPost_ret (res_c (fn := Try.f101) rfl s4_13 (load_row 29 f7.rows.2.2.1 Try.underlying29 rfl (by kernel_rfl))) f7.d ?_
  have HE : (.agg (scC (Sc.nar ⟨Rg.joinR a.r b.r, Kn.joinK a.k b.k⟩)) : Value) = .agg (scC (Sc.join a b)) := by unfold Sc.join; simp only [Ffk1.out, Ffk2.out, Bool.true_and, Bool.and_true, Bool.false_and, Bool.and_false, Bool.or_false, Bool.false_or, Bool.true_or, Bool.or_true, Bool.not_true, Bool.not_false, if_true, if_false, Bool.false_eq_true, Bool.true_eq_false, reduceCtorEq]; try rfl
  exact ⟨retV HE, f7.b⟩
set_option maxHeartbeats 4000000 in
theorem win_n (a b : Sc) (W : World) : Calls Try.prog 84 #[.agg (scC a), .agg (scC b)] W fun e w' => e = .returned (.bool (Sc.inB a b)) ∧ Below W.heap.size W w' := by
  refine calls_abs Try.func84 rfl (Nat.le_of_ble_eq_true rfl) ?_
  intro a0 d0 z0 h0
  replace z0 : a0.tmps.size = 17 := z0
  have s0_0 : a0.tmps.getD 0 undef = .agg (scC a) := h0 0 (Nat.le_of_ble_eq_true rfl)
  have s1_0 : a0.tmps.getD 1 undef = .agg (scC b) := h0 1 (Nat.le_of_ble_eq_true rfl)
  refine wp_seq ?_
  refine go_reg [] [⟨0, 2, 29, (scC a), none, #[]⟩, ⟨1, 3, 29, (scC b), none, #[]⟩] [none, none, oF] mo d0 z0 (Below.refl _ _) (by kernel_rfl) trivial (
   hk (fun cx => cx.al (wn rfl) 0 rfl (ex_box rfl (cx.rq 0 s0_0) rfl) rfl rfl rfl rfl rfl trivial) <|
   hk (fun cx => cx.al (wn rfl) 1 rfl (ex_box rfl (cx.rq 1 s1_0) rfl) rfl rfl rfl rfl rfl trivial) <|
   hk (fun cx => cx.q (ex_as rfl rfl)) <|
   hn) ?_
  intro a1 w1 f1
  obtain ⟨g1, u_g1, q_g1, b_g1⟩ := f1.al.1
  obtain ⟨g2, u_g2, q_g2, b_g2⟩ := f1.al.2.1
  refine wp_seq ?_
  cases fk1 : Rg.inB a.r b.r
  case false =>
   have Ffk1 := Lib.hid fk1; clear fk1
   refine go_reg [bx g1 29 (scC a), bx g2 29 (scC b)] [] [some (pt g1 0), some (.agg (cR a.r.u.lo a.r.u.hi a.r.s.lo a.r.s.hi)), some (pt g2 0), some (.agg (cR b.r.u.lo b.r.u.hi b.r.s.lo b.r.s.hi)), oF, oF, oU, oU, oU, oU, oU, oF, oF] mo f1.d f1.z f1.b (by kernel_rfl) ⟨b_g1, b_g2, trivial⟩ (
    hk (fun cx => cx.q (ex_fa rfl (cx.rq 2 u_g1) (faStH29_0_0 _ _))) <|
    hk (fun cx => cx.q (exec_loadR 25 _ rfl g1 0 (cx.u 0 rfl) (cx.rn 0 rfl) [.int .u64 a.r.u.lo, .int .u64 a.r.u.hi, .int .i64 a.r.s.lo, .int .i64 a.r.s.hi] rfl _ Try.underlying25 rfl (by kernel_rfl))) <|
    hk (fun cx => cx.q (ex_fa rfl (cx.rq 3 u_g2) (faStH29_0_0 _ _))) <|
    hk (fun cx => cx.q (exec_loadR 25 _ rfl g2 0 (cx.u 0 rfl) (cx.rn 1 rfl) [.int .u64 b.r.u.lo, .int .u64 b.r.u.hi, .int .i64 b.r.s.lo, .int .i64 b.r.s.hi] rfl _ Try.underlying25 rfl (by kernel_rfl))) <|
    hc (fun _ _ wx cx => cx.c rfl (args2 (cx.u 0 rfl) (cx.u 1 rfl)) Try.func106 (by decide +kernel) (rin_n a.r.u.lo a.r.u.hi a.r.s.lo a.r.s.hi b.r.u.lo b.r.u.hi b.r.s.lo b.r.s.hi wx) rfl (congrArg Value.bool Ffk1.out)) <|
    kmu 0 <|
    kno 0 <|
    kno 1 <|
    kno 0 <|
    kno 1 <|
    kno 2 <|
    hk (fun cx => cx.q (ex_pf rfl (cx.u 0 rfl) rfl)) <|
    kmu 0 <|
    hn) ?_
   intro a2 w2 f2
   refine wp_ret ?_
   try simp only [Exit.inBlock, Exit.then]
   refine bodyPost_ret (res_t (fn := Try.f84) rfl (f2.v 12 rfl rfl rfl)) f2.d ?_
   have HE : (.bool false : Value) = .bool (Sc.inB a b) := by unfold Sc.inB; simp only [Ffk1.out, Bool.true_and, Bool.and_true, Bool.false_and, Bool.and_false, Bool.or_false, Bool.false_or, Bool.true_or, Bool.or_true, Bool.not_true, Bool.not_false, if_true, if_false, Bool.false_eq_true, Bool.true_eq_false, reduceCtorEq]; try rfl
   exact ⟨retV HE, f2.b⟩
  have Ffk1 := Lib.hid fk1; clear fk1
  refine go_reg [bx g1 29 (scC a), bx g2 29 (scC b)] [] [some (pt g1 0), some (.agg (cR a.r.u.lo a.r.u.hi a.r.s.lo a.r.s.hi)), some (pt g2 0), some (.agg (cR b.r.u.lo b.r.u.hi b.r.s.lo b.r.s.hi)), oT, oT, some (pt g1 4), some (.agg (knC a.k)), some (pt g2 4), some (.agg (knC b.k)), some (.bool (Kn.inB a.k b.k)), some (.bool (Kn.inB a.k b.k)), some (.bool (Kn.inB a.k b.k))] mo f1.d f1.z f1.b (by kernel_rfl) ⟨b_g1, b_g2, trivial⟩ (
   hk (fun cx => cx.q (ex_fa rfl (cx.rq 2 u_g1) (faStH29_0_0 _ _))) <|
   hk (fun cx => cx.q (exec_loadR 25 _ rfl g1 0 (cx.u 0 rfl) (cx.rn 0 rfl) [.int .u64 a.r.u.lo, .int .u64 a.r.u.hi, .int .i64 a.r.s.lo, .int .i64 a.r.s.hi] rfl _ Try.underlying25 rfl (by kernel_rfl))) <|
   hk (fun cx => cx.q (ex_fa rfl (cx.rq 3 u_g2) (faStH29_0_0 _ _))) <|
   hk (fun cx => cx.q (exec_loadR 25 _ rfl g2 0 (cx.u 0 rfl) (cx.rn 1 rfl) [.int .u64 b.r.u.lo, .int .u64 b.r.u.hi, .int .i64 b.r.s.lo, .int .i64 b.r.s.hi] rfl _ Try.underlying25 rfl (by kernel_rfl))) <|
   hc (fun _ _ wx cx => cx.c rfl (args2 (cx.u 0 rfl) (cx.u 1 rfl)) Try.func106 (by decide +kernel) (rin_n a.r.u.lo a.r.u.hi a.r.s.lo a.r.s.hi b.r.u.lo b.r.u.hi b.r.s.lo b.r.s.hi wx) rfl (congrArg Value.bool Ffk1.out)) <|
   kmu 0 <|
   hk (fun cx => cx.vy 0 (ex_fa rfl (cx.rq 2 u_g1) (faStH29_1_0 _ _))) <|
   hk (fun cx => cx.vy 1 (exec_loadR 27 _ rfl g1 4 (cx.u 0 rfl) (cx.rn 0 rfl) [.int .u64 (V a.k.v), .int .u64 (V a.k.m)] rfl _ Try.underlying27 rfl (by kernel_rfl))) <|
   hk (fun cx => cx.vy 0 (ex_fa rfl (cx.rq 3 u_g2) (faStH29_1_0 _ _))) <|
   hk (fun cx => cx.vy 1 (exec_loadR 27 _ rfl g2 4 (cx.u 0 rfl) (cx.rn 1 rfl) [.int .u64 (V b.k.v), .int .u64 (V b.k.m)] rfl _ Try.underlying27 rfl (by kernel_rfl))) <|
   hc (fun _ _ wx cx => cx.call (cx.wy rfl rfl rfl rfl (cx.u 2 rfl)) rfl rfl (args2 (cx.u 0 rfl) (cx.u 1 rfl)) Try.func107 (by decide +kernel) rfl (lin_n a.k b.k wx) rfl rfl rfl rfl) <|
   hk (fun cx => cx.q (ex_pt rfl (cx.u 0 rfl) (cx.u 1 rfl))) <|
   kmu 0 <|
   hn) ?_
  intro a3 w3 f3
  refine wp_ret ?_
  try simp only [Exit.inBlock, Exit.then]
  refine bodyPost_ret (res_t (fn := Try.f84) rfl (f3.v 12 rfl rfl rfl)) f3.d ?_
  have HE : (.bool (Kn.inB a.k b.k) : Value) = .bool (Sc.inB a b) := by unfold Sc.inB; simp only [Ffk1.out, Bool.true_and, Bool.and_true, Bool.false_and, Bool.and_false, Bool.or_false, Bool.false_or, Bool.true_or, Bool.or_true, Bool.not_true, Bool.not_false, if_true, if_false, Bool.false_eq_true, Bool.true_eq_false, reduceCtorEq]; try rfl
  exact ⟨retV HE, f3.b⟩
theorem wid_all {a b : Sc} (ma : a.mayB = true) (mb : b.mayB = true) : a.r.joinR b.r = ⟨a.r.u.join b.r.u, a.r.s.join b.r.s⟩ := by
  unfold Sc.mayB at ma mb
  rw [Bool.and_eq_true] at ma mb
  unfold Rg.joinR
  rw [ma.1, mb.1]; rfl
theorem wid_y0 {a b : Sc} (ma : a.mayB = true) (mb : b.mayB = true) (h : decide (b.r.u.lo < a.r.u.lo) = true) : allR.u.lo = wid1 a.r.u.lo (a.r.joinR b.r).u.lo 0 := by
  rw [wid_all ma mb]
  have := of_decide_eq_true h
  show _ = wid1 a.r.u.lo (min a.r.u.lo b.r.u.lo) 0
  unfold wid1
  rw [if_neg (by omega)]; rfl
theorem wid_n0 {a b : Sc} (ma : a.mayB = true) (mb : b.mayB = true) (h : decide (b.r.u.lo < a.r.u.lo) = false) : a.r.u.lo = wid1 a.r.u.lo (a.r.joinR b.r).u.lo 0 := by
  rw [wid_all ma mb]
  have := of_decide_eq_false h
  show _ = wid1 a.r.u.lo (min a.r.u.lo b.r.u.lo) 0
  unfold wid1
  rw [if_pos (by omega)]
theorem wid_y1 {a b : Sc} (ma : a.mayB = true) (mb : b.mayB = true) (h : decide (a.r.u.hi < b.r.u.hi) = true) : allR.u.hi = wid1 a.r.u.hi (a.r.joinR b.r).u.hi 18446744073709551615 := by
  rw [wid_all ma mb]
  have := of_decide_eq_true h
  show _ = wid1 a.r.u.hi (max a.r.u.hi b.r.u.hi) 18446744073709551615
  unfold wid1
  rw [if_neg (by omega)]; rfl
theorem wid_n1 {a b : Sc} (ma : a.mayB = true) (mb : b.mayB = true) (h : decide (a.r.u.hi < b.r.u.hi) = false) : a.r.u.hi = wid1 a.r.u.hi (a.r.joinR b.r).u.hi 18446744073709551615 := by
  rw [wid_all ma mb]
  have := of_decide_eq_false h
  show _ = wid1 a.r.u.hi (max a.r.u.hi b.r.u.hi) 18446744073709551615
  unfold wid1
  rw [if_pos (by omega)]
theorem wid_y2 {a b : Sc} (ma : a.mayB = true) (mb : b.mayB = true) (h : decide (b.r.s.lo < a.r.s.lo) = true) : allR.s.lo = wid1 a.r.s.lo (a.r.joinR b.r).s.lo (-9223372036854775808) := by
  rw [wid_all ma mb]
  have := of_decide_eq_true h
  show _ = wid1 a.r.s.lo (min a.r.s.lo b.r.s.lo) (-9223372036854775808)
  unfold wid1
  rw [if_neg (by omega)]; rfl
theorem wid_n2 {a b : Sc} (ma : a.mayB = true) (mb : b.mayB = true) (h : decide (b.r.s.lo < a.r.s.lo) = false) : a.r.s.lo = wid1 a.r.s.lo (a.r.joinR b.r).s.lo (-9223372036854775808) := by
  rw [wid_all ma mb]
  have := of_decide_eq_false h
  show _ = wid1 a.r.s.lo (min a.r.s.lo b.r.s.lo) (-9223372036854775808)
  unfold wid1
  rw [if_pos (by omega)]
theorem wid_y3 {a b : Sc} (ma : a.mayB = true) (mb : b.mayB = true) (h : decide (a.r.s.hi < b.r.s.hi) = true) : allR.s.hi = wid1 a.r.s.hi (a.r.joinR b.r).s.hi 9223372036854775807 := by
  rw [wid_all ma mb]
  have := of_decide_eq_true h
  show _ = wid1 a.r.s.hi (max a.r.s.hi b.r.s.hi) 9223372036854775807
  unfold wid1
  rw [if_neg (by omega)]; rfl
theorem wid_n3 {a b : Sc} (ma : a.mayB = true) (mb : b.mayB = true) (h : decide (a.r.s.hi < b.r.s.hi) = false) : a.r.s.hi = wid1 a.r.s.hi (a.r.joinR b.r).s.hi 9223372036854775807 := by
  rw [wid_all ma mb]
  have := of_decide_eq_false h
  show _ = wid1 a.r.s.hi (max a.r.s.hi b.r.s.hi) 9223372036854775807
  unfold wid1
  rw [if_pos (by omega)]
set_option maxHeartbeats 4000000 in
theorem wwiden_n (a b : Sc) (W : World) (ha : a.r.Ok) (hb : b.r.Ok) : Calls Try.prog 100 #[.agg (scC a), .agg (scC b)] W fun e w' => e = .returned (.agg (scC (Sc.widen a b))) ∧ Below W.heap.size W w' := by
  have HA := Lib.hid ha
  have HB := Lib.hid hb
  clear ha hb
  refine calls_abs Try.func100 rfl (Nat.le_of_ble_eq_true rfl) ?_
  intro a0 d0 z0 h0
  replace z0 : a0.tmps.size = 63 := z0
  have s0_0 : a0.tmps.getD 0 undef = .agg (scC a) := h0 0 (Nat.le_of_ble_eq_true rfl)
  have s1_0 : a0.tmps.getD 1 undef = .agg (scC b) := h0 1 (Nat.le_of_ble_eq_true rfl)
  refine wp_seq ?_
  refine go_reg [] [⟨0, 2, 29, (scC a), none, #[]⟩, ⟨1, 3, 29, (scC b), none, #[]⟩, ⟨2, 4, 29, (scC zSc), none, #[]⟩] [none, none, none] mo d0 z0 (Below.refl _ _) (by kernel_rfl) trivial (
   hk (fun cx => cx.al (wn rfl) 0 rfl (ex_box rfl (cx.rq 0 s0_0) rfl) rfl rfl rfl rfl rfl trivial) <|
   hk (fun cx => cx.al (wn rfl) 1 rfl (ex_box rfl (cx.rq 1 s1_0) rfl) rfl rfl rfl rfl rfl trivial) <|
   hk (fun cx => cx.al (wn rfl) 2 rfl (al_sc rfl) rfl rfl rfl rfl rfl trivial) <|
   hn) ?_
  intro a1 w1 f1
  obtain ⟨g1, u_g1, q_g1, b_g1⟩ := f1.al.1
  obtain ⟨g2, u_g2, q_g2, b_g2⟩ := f1.al.2.1
  obtain ⟨g3, u_g3, q_g3, b_g3⟩ := f1.al.2.2.1
  refine wp_seq ?_
  refine wp_seq ?_
  cases fk1 : Sc.mayB a
  case false =>
   have Ffk1 := Lib.hid fk1; clear fk1
   refine go_reg [bx g1 29 (scC a)] [] [some (.agg (scC a)), oF, oT, oT, oU, oU, oU, oT] mo f1.d f1.z f1.b (by kernel_rfl) ⟨b_g1, trivial⟩ (
    hk (fun cx => cx.q (ldSc rfl (cx.rq 2 u_g1) (cx.rn 0 rfl))) <|
    hc (fun _ _ wx cx => cx.c rfl (args1 (cx.u 0 rfl)) Try.func43 (by decide +kernel) (wmay_n a wx) rfl (congrArg Value.bool Ffk1.out)) <|
    hk (fun cx => cx.q (ex_not (x := .tmp 8) rfl (cx.u 0 rfl))) <|
    kmu 0 <|
    kno 0 <|
    kno 1 <|
    kno 1 <|
    hk (fun cx => cx.q (ex_pt rfl (cx.u 0 rfl) rfl)) <|
    hn) ?_
   intro a2 w2 f2
   refine wp_cond_true (f2.v 7 rfl rfl rfl) ?_
   refine wp_seq ?_
   have b_g3_1 := f2.k b_g3
   have s4_2 := f2.q 4 u_g3
   refine go_reg [⟨g3, 29, (scC zSc), some 1, (scC allC)⟩] [] [some (.agg (scC allC)), none] mo f2.d f2.z f2.b (by kernel_rfl) ⟨b_g3_1, trivial⟩ (
    hc (fun _ _ wx cx => cx.c rfl (args0 ) Try.func41 (by decide +kernel) (wall_n wx) rfl rfl) <|
    hk (fun cx => cx.stR (wn rfl) rfl rfl 0 rfl (cx.rq 4 s4_2) (cx.u 0 rfl) (by kernel_rfl) (Eq.refl 6) (scC_one _) q_g3 rfl trivial trivial) <|
    hn) ?_
   intro a3 w3 f3
   refine wp_ret ?_
   have s4_3 := f3.q 4 s4_2
   try simp only [Exit.inBlock, Exit.then]
   refine bodyPost_ret (res_c (fn := Try.f100) rfl s4_3 (load_row 29 f3.rows.1 Try.underlying29 rfl (by kernel_rfl))) f3.d ?_
   have HE : (.agg (scC allC) : Value) = .agg (scC (Sc.widen a b)) := by unfold Sc.widen; simp only [Ffk1.out, Bool.false_and, Bool.and_false, if_false, Bool.false_eq_true]
   exact ⟨retV HE, f3.b⟩
  have Ffk1 := Lib.hid fk1; clear fk1
  cases fk2 : Sc.mayB b
  case false =>
   have Ffk2 := Lib.hid fk2; clear fk2
   refine go_reg [bx g1 29 (scC a), bx g2 29 (scC b)] [] [some (.agg (scC a)), oT, oF, oF, some (.agg (scC b)), oF, oT, oT] mo f1.d f1.z f1.b (by kernel_rfl) ⟨b_g1, b_g2, trivial⟩ (
    hk (fun cx => cx.q (ldSc rfl (cx.rq 2 u_g1) (cx.rn 0 rfl))) <|
    hc (fun _ _ wx cx => cx.c rfl (args1 (cx.u 0 rfl)) Try.func43 (by decide +kernel) (wmay_n a wx) rfl (congrArg Value.bool Ffk1.out)) <|
    hk (fun cx => cx.q (ex_not (x := .tmp 8) rfl (cx.u 0 rfl))) <|
    kmu 0 <|
    hk (fun cx => cx.vy 0 (ldSc rfl (cx.rq 3 u_g2) (cx.rn 1 rfl))) <|
    hc (fun _ _ wx cx => cx.call (cx.wy rfl rfl rfl rfl (cx.u 1 rfl)) rfl rfl (args1 (cx.u 0 rfl)) Try.func43 (by decide +kernel) rfl (wmay_n b wx) rfl rfl (congrArg Value.bool Ffk2.out) rfl) <|
    hk (fun cx => cx.vy 1 (ex_not (x := .tmp 12) rfl (cx.u 0 rfl))) <|
    hk (fun cx => cx.q (ex_pf rfl (cx.u 0 rfl) (cx.u 1 rfl))) <|
    hn) ?_
   intro a4 w4 f4
   refine wp_cond_true (f4.v 7 rfl rfl rfl) ?_
   refine wp_seq ?_
   have b_g3_4 := f4.k b_g3
   have s4_5 := f4.q 4 u_g3
   refine go_reg [⟨g3, 29, (scC zSc), some 1, (scC allC)⟩] [] [some (.agg (scC allC)), none] mo f4.d f4.z f4.b (by kernel_rfl) ⟨b_g3_4, trivial⟩ (
    hc (fun _ _ wx cx => cx.c rfl (args0 ) Try.func41 (by decide +kernel) (wall_n wx) rfl rfl) <|
    hk (fun cx => cx.stR (wn rfl) rfl rfl 0 rfl (cx.rq 4 s4_5) (cx.u 0 rfl) (by kernel_rfl) (Eq.refl 6) (scC_one _) q_g3 rfl trivial trivial) <|
    hn) ?_
   intro a5 w5 f5
   refine wp_ret ?_
   have s4_6 := f5.q 4 s4_5
   try simp only [Exit.inBlock, Exit.then]
   refine bodyPost_ret (res_c (fn := Try.f100) rfl s4_6 (load_row 29 f5.rows.1 Try.underlying29 rfl (by kernel_rfl))) f5.d ?_
   have HE : (.agg (scC allC) : Value) = .agg (scC (Sc.widen a b)) := by unfold Sc.widen; simp only [Ffk1.out, Ffk2.out, Bool.false_and, Bool.and_false, if_false, Bool.false_eq_true]
   exact ⟨retV HE, f5.b⟩
  have Ffk2 := Lib.hid fk2; clear fk2
  refine go_reg [bx g1 29 (scC a), bx g2 29 (scC b)] [] [some (.agg (scC a)), oT, oF, oF, some (.agg (scC b)), oT, oF, oF] mo f1.d f1.z f1.b (by kernel_rfl) ⟨b_g1, b_g2, trivial⟩ (
   hk (fun cx => cx.q (ldSc rfl (cx.rq 2 u_g1) (cx.rn 0 rfl))) <|
   hc (fun _ _ wx cx => cx.c rfl (args1 (cx.u 0 rfl)) Try.func43 (by decide +kernel) (wmay_n a wx) rfl (congrArg Value.bool Ffk1.out)) <|
   hk (fun cx => cx.q (ex_not (x := .tmp 8) rfl (cx.u 0 rfl))) <|
   kmu 0 <|
   hk (fun cx => cx.vy 0 (ldSc rfl (cx.rq 3 u_g2) (cx.rn 1 rfl))) <|
   hc (fun _ _ wx cx => cx.call (cx.wy rfl rfl rfl rfl (cx.u 1 rfl)) rfl rfl (args1 (cx.u 0 rfl)) Try.func43 (by decide +kernel) rfl (wmay_n b wx) rfl rfl (congrArg Value.bool Ffk2.out) rfl) <|
   hk (fun cx => cx.vy 1 (ex_not (x := .tmp 12) rfl (cx.u 0 rfl))) <|
   hk (fun cx => cx.q (ex_pf rfl (cx.u 0 rfl) (cx.u 1 rfl))) <|
   hn) ?_
  intro a6 w6 f6
  refine wp_cond_false (f6.v 7 rfl rfl rfl) ?_
  refine wp_skip ?_
  refine wp_seq ?_
  have b_g1_7 := f6.k b_g1
  have s2_8 := f6.q 2 u_g1
  refine go_reg [bx g1 29 (scC a)] [⟨3, 5, 25, (cR 0 0 0 0), some 5, (cR a.r.u.lo a.r.u.hi a.r.s.lo a.r.s.hi)⟩, ⟨4, 6, 25, (cR 0 0 0 0), some 6, (cR allR.u.lo allR.u.hi allR.s.lo allR.s.hi)⟩] [some (pt g1 0), some (.agg (cR a.r.u.lo a.r.u.hi a.r.s.lo a.r.s.hi)), some (.agg (cR allR.u.lo allR.u.hi allR.s.lo allR.s.hi)), none, none, none, none] mo f6.d f6.z f6.b (by kernel_rfl) ⟨b_g1_7, trivial⟩ (
   hk (fun cx => cx.q (ex_fa rfl (cx.rq 2 s2_8) (faStH29_0_0 _ _))) <|
   hk (fun cx => cx.q (exec_loadR 25 _ rfl g1 0 (cx.u 0 rfl) (cx.rn 0 rfl) [.int .u64 a.r.u.lo, .int .u64 a.r.u.hi, .int .i64 a.r.s.lo, .int .i64 a.r.s.hi] rfl _ Try.underlying25 rfl (by kernel_rfl))) <|
   hc (fun _ _ wx cx => cx.c rfl (args0 ) Try.func68 (by decide +kernel) (rall_n wx) rfl rfl) <|
   hk (fun cx => cx.al (wn rfl) 0 rfl (by simp [execOp, Act.eval, go_sem]) rfl rfl rfl rfl (by kernel_rfl) trivial) <|
   hk (fun cx => cx.al (wn rfl) 1 rfl (by simp [execOp, Act.eval, go_sem]) rfl rfl rfl rfl (by kernel_rfl) trivial) <|
   hk (fun cx => cx.stA (wn rfl) rfl rfl 0 0 rfl rfl rfl rfl (cx.u 1 rfl) (by kernel_rfl) (Eq.refl 4) (cR_one _ _ _ _) f6.b.size rfl rfl trivial) <|
   hk (fun cx => cx.stA (wn rfl) rfl rfl 1 0 rfl rfl rfl rfl (cx.u 1 rfl) (by kernel_rfl) (Eq.refl 4) (cR_one _ _ _ _) f6.b.size rfl rfl trivial) <|
   hn) ?_
  intro a7 w7 f7
  obtain ⟨g4, u_g4, q_g4, b_g4⟩ := f7.al.1
  obtain ⟨g5, u_g5, q_g5, b_g5⟩ := f7.al.2.1
  have neL1_0_1 := (ne_ptr (pairAt f1.ps 0 1 (by decide) rfl rfl) u_g1 u_g2)
  have neL1_0_2 := (ne_ptr (pairAt f1.ps 0 2 (by decide) rfl rfl) u_g1 u_g3)
  have neL1_0_3 := (ne_row b_g1_7 q_g4)
  have neL1_0_4 := (ne_row b_g1_7 q_g5)
  have neL1_1_2 := (ne_ptr (pairAt f1.ps 1 2 (by decide) rfl rfl) u_g2 u_g3)
  have neL1_1_3 := (ne_row (f6.k b_g2) q_g4)
  have neL1_1_4 := (ne_row (f6.k b_g2) q_g5)
  have neL1_2_3 := (ne_row (f6.k b_g3) q_g4)
  have neL1_2_4 := (ne_row (f6.k b_g3) q_g5)
  have neL1_3_4 := (ne_ptr (pairAt f7.ps 0 1 (by decide) rfl rfl) u_g4 u_g5)
  refine wp_cut (fun aI wI => Mid 63 W [(2, .pointer (some ⟨g1, 0, none⟩)), (3, .pointer (some ⟨g2, 0, none⟩)), (4, .pointer (some ⟨g3, 0, none⟩)), (5, .pointer (some ⟨g4, 0, none⟩)), (6, .pointer (some ⟨g5, 0, none⟩))] [(g1, 29, (scC a)), (g2, 29, (scC b)), (g3, 29, (scC zSc)), (g4, 25, (cR (wid1 a.r.u.lo (a.r.joinR b.r).u.lo 0) a.r.u.hi a.r.s.lo a.r.s.hi)), (g5, 25, (cR allR.u.lo allR.u.hi allR.s.lo allR.s.hi))] aI wI) ?_ ?_
  ·
    refine wp_seq ?_
    cases fk3 : decide (b.r.u.lo < a.r.u.lo)
    case false =>
     have Ffk3 := Lib.hid fk3; clear fk3
     have b_g2_9 := f7.k (f6.k b_g2)
     have s3_10 := f7.q 3 (f6.q 3 u_g2)
     refine go_reg [bx g2 29 (scC b), bx g4 25 (cR a.r.u.lo a.r.u.hi a.r.s.lo a.r.s.hi)] [] [some (pt g2 0), some (pt g2 0), some (.int .u64 b.r.u.lo), some (pt g4 0), some (.int .u64 a.r.u.lo), oF] mo f7.d f7.z f7.b (by kernel_rfl) ⟨b_g2_9, b_g4, trivial⟩ (
      hk (fun cx => cx.q (ex_fa rfl (cx.rq 3 s3_10) (faStH29_0_0 _ _))) <|
      hk (fun cx => cx.q (ex_fa rfl (cx.u 0 rfl) (faStH25_0_0 _ _))) <|
      hk (fun cx => cx.q (ex_ld rfl (cx.u 0 rfl) (cx.rn 0 rfl) rfl Try.isAgg23)) <|
      hk (fun cx => cx.q (ex_fa rfl (cx.rq 5 u_g4) (faStH25_0_0 _ _))) <|
      hk (fun cx => cx.q (ex_ld rfl (cx.u 0 rfl) (cx.rn 1 rfl) rfl Try.isAgg23)) <|
      hk (fun cx => cx.v (ex_lt (x := .tmp 21) (y := .tmp 23) rfl (cx.u 0 rfl) (cx.u 1 rfl)) rfl (congrArg Value.bool Ffk3.out)) <|
      hn) ?_
     intro a8 w8 f8
     refine wp_cond_false (f8.v 5 rfl rfl rfl) ?_
     refine wp_skip ?_
     have s2_11 := f8.q 2 (f7.q 2 s2_8)
     have s3_12 := f8.q 3 s3_10
     have s4_13 := f8.q 4 (f7.q 4 (f6.q 4 u_g3))
     have s5_14 := f8.q 5 u_g4
     have s6_15 := f8.q 6 u_g5
     have b_g1_16 := f8.k (f7.k b_g1_7)
     have b_g2_17 := f8.k b_g2_9
     have b_g3_18 := f8.k (f7.k (f6.k b_g3))
     have b_g4_19 := f8.k b_g4
     have b_g5_20 := f8.k b_g5
     exact ⟨f8.d, f8.z, f8.b, ⟨s2_11, s3_12, s4_13, s5_14, s6_15, trivial⟩, ⟨b_g1_16, b_g2_17, b_g3_18, (row_eq b_g4_19 (congrArg (fun x => cR x a.r.u.hi a.r.s.lo a.r.s.hi) (wid_n0 Ffk1.out Ffk2.out Ffk3.out))), b_g5_20, trivial⟩⟩
    have Ffk3 := Lib.hid fk3; clear fk3
    have b_g2_21 := f7.k (f6.k b_g2)
    have s3_22 := f7.q 3 (f6.q 3 u_g2)
    refine go_reg [bx g2 29 (scC b), bx g4 25 (cR a.r.u.lo a.r.u.hi a.r.s.lo a.r.s.hi)] [] [some (pt g2 0), some (pt g2 0), some (.int .u64 b.r.u.lo), some (pt g4 0), some (.int .u64 a.r.u.lo), oT] mo f7.d f7.z f7.b (by kernel_rfl) ⟨b_g2_21, b_g4, trivial⟩ (
     hk (fun cx => cx.q (ex_fa rfl (cx.rq 3 s3_22) (faStH29_0_0 _ _))) <|
     hk (fun cx => cx.q (ex_fa rfl (cx.u 0 rfl) (faStH25_0_0 _ _))) <|
     hk (fun cx => cx.q (ex_ld rfl (cx.u 0 rfl) (cx.rn 0 rfl) rfl Try.isAgg23)) <|
     hk (fun cx => cx.q (ex_fa rfl (cx.rq 5 u_g4) (faStH25_0_0 _ _))) <|
     hk (fun cx => cx.q (ex_ld rfl (cx.u 0 rfl) (cx.rn 1 rfl) rfl Try.isAgg23)) <|
     hk (fun cx => cx.v (ex_lt (x := .tmp 21) (y := .tmp 23) rfl (cx.u 0 rfl) (cx.u 1 rfl)) rfl (congrArg Value.bool Ffk3.out)) <|
     hn) ?_
    intro a9 w9 f9
    refine wp_cond_true (f9.v 5 rfl rfl rfl) ?_
    have b_g5_23 := f9.k b_g5
    have b_g4_24 := f9.k b_g4
    have s6_25 := f9.q 6 u_g5
    have s5_26 := f9.q 5 u_g4
    refine go_reg [bx g5 25 (cR allR.u.lo allR.u.hi allR.s.lo allR.s.hi), ⟨g4, 25, (cR a.r.u.lo a.r.u.hi a.r.s.lo a.r.s.hi), some 3, (cR allR.u.lo a.r.u.hi a.r.s.lo a.r.s.hi)⟩] [] [some (pt g5 0), some (.int .u64 allR.u.lo), some (pt g4 0), none] mo f9.d f9.z f9.b (by kernel_rfl) ⟨b_g5_23, b_g4_24, trivial⟩ (
     hk (fun cx => cx.q (ex_fa rfl (cx.rq 6 s6_25) (faStH25_0_0 _ _))) <|
     hk (fun cx => cx.q (ex_ld rfl (cx.u 0 rfl) (cx.rn 0 rfl) rfl Try.isAgg23)) <|
     hk (fun cx => cx.q (ex_fa rfl (cx.rq 5 s5_26) (faStH25_0_0 _ _))) <|
     hk (fun cx => cx.stC (wn rfl) rfl rfl 1 rfl (cx.u 0 rfl) (cx.u 1 rfl) rfl rfl (by kernel_rfl) rfl rfl (Nat.le_trans f6.b.size q_g4) rfl ⟨(ne_ptr (pairAt f7.ps 0 1 (by decide) rfl rfl) u_g4 u_g5).symm, trivial⟩ trivial) <|
     hn) ?_
    intro a10 w10 f10
    have s2_27 := f10.q 2 (f9.q 2 (f7.q 2 s2_8))
    have s3_28 := f10.q 3 (f9.q 3 s3_22)
    have s4_29 := f10.q 4 (f9.q 4 (f7.q 4 (f6.q 4 u_g3)))
    have s5_30 := f10.q 5 s5_26
    have s6_31 := f10.q 6 s6_25
    have b_g1_32 := f10.kp (f9.k (f7.k b_g1_7)) ⟨.inl rfl, .inr (ne_row b_g1_7 q_g4), trivial⟩
    have b_g2_33 := f10.kp (f9.k b_g2_21) ⟨.inl rfl, .inr (ne_row (f6.k b_g2) q_g4), trivial⟩
    have b_g3_34 := f10.kp (f9.k (f7.k (f6.k b_g3))) ⟨.inl rfl, .inr (ne_row (f6.k b_g3) q_g4), trivial⟩
    have b_g5_35 := f10.kp b_g5_23 ⟨.inl rfl, .inr (ne_ptr (pairAt f7.ps 0 1 (by decide) rfl rfl) u_g4 u_g5).symm, trivial⟩
    exact ⟨f10.d, f10.z, f10.b, ⟨s2_27, s3_28, s4_29, s5_30, s6_31, trivial⟩, ⟨b_g1_32, b_g2_33, b_g3_34, (row_eq f10.rows.2.1 (congrArg (fun x => cR x a.r.u.hi a.r.s.lo a.r.s.hi) (wid_y0 Ffk1.out Ffk2.out Ffk3.out))), b_g5_35, trivial⟩⟩
  rintro aL1 wL1 ⟨dL1, zL1, BL1, ⟨sL1_2, sL1_3, sL1_4, sL1_5, sL1_6, -⟩, ⟨bL1_g1, bL1_g2, bL1_g3, bL1_g4, bL1_g5, -⟩⟩
  replace sL1_2 : aL1.tmps.getD 2 undef = .pointer (some ⟨g1, 0, none⟩) := sL1_2
  replace sL1_3 : aL1.tmps.getD 3 undef = .pointer (some ⟨g2, 0, none⟩) := sL1_3
  replace sL1_4 : aL1.tmps.getD 4 undef = .pointer (some ⟨g3, 0, none⟩) := sL1_4
  replace sL1_5 : aL1.tmps.getD 5 undef = .pointer (some ⟨g4, 0, none⟩) := sL1_5
  replace sL1_6 : aL1.tmps.getD 6 undef = .pointer (some ⟨g5, 0, none⟩) := sL1_6
  replace bL1_g1 : wL1.heap[g1]? = some (.cells (scC a) 29 (0, 0)) := bL1_g1
  replace bL1_g2 : wL1.heap[g2]? = some (.cells (scC b) 29 (0, 0)) := bL1_g2
  replace bL1_g3 : wL1.heap[g3]? = some (.cells (scC zSc) 29 (0, 0)) := bL1_g3
  replace bL1_g4 : wL1.heap[g4]? = some (.cells (cR (wid1 a.r.u.lo (a.r.joinR b.r).u.lo 0) a.r.u.hi a.r.s.lo a.r.s.hi) 25 (0, 0)) := bL1_g4
  replace bL1_g5 : wL1.heap[g5]? = some (.cells (cR allR.u.lo allR.u.hi allR.s.lo allR.s.hi) 25 (0, 0)) := bL1_g5
  have neL2_0_1 := neL1_0_1
  have neL2_0_2 := neL1_0_2
  have neL2_0_3 := neL1_0_3
  have neL2_0_4 := neL1_0_4
  have neL2_1_2 := neL1_1_2
  have neL2_1_3 := neL1_1_3
  have neL2_1_4 := neL1_1_4
  have neL2_2_3 := neL1_2_3
  have neL2_2_4 := neL1_2_4
  have neL2_3_4 := neL1_3_4
  refine wp_cut (fun aI wI => Mid 63 W [(2, .pointer (some ⟨g1, 0, none⟩)), (3, .pointer (some ⟨g2, 0, none⟩)), (4, .pointer (some ⟨g3, 0, none⟩)), (5, .pointer (some ⟨g4, 0, none⟩)), (6, .pointer (some ⟨g5, 0, none⟩))] [(g1, 29, (scC a)), (g2, 29, (scC b)), (g3, 29, (scC zSc)), (g4, 25, (cR (wid1 a.r.u.lo (a.r.joinR b.r).u.lo 0) (wid1 a.r.u.hi (a.r.joinR b.r).u.hi 18446744073709551615) a.r.s.lo a.r.s.hi)), (g5, 25, (cR allR.u.lo allR.u.hi allR.s.lo allR.s.hi))] aI wI) ?_ ?_
  ·
    refine wp_seq ?_
    cases fk4 : decide (a.r.u.hi < b.r.u.hi)
    case false =>
     have Ffk4 := Lib.hid fk4; clear fk4
     refine go_reg [bx g2 29 (scC b), bx g4 25 (cR (wid1 a.r.u.lo (a.r.joinR b.r).u.lo 0) a.r.u.hi a.r.s.lo a.r.s.hi)] [] [some (pt g2 0), some (pt g2 1), some (.int .u64 b.r.u.hi), some (pt g4 1), some (.int .u64 a.r.u.hi), oF] mo dL1 zL1 BL1 (by kernel_rfl) ⟨bL1_g2, bL1_g4, trivial⟩ (
      hk (fun cx => cx.q (ex_fa rfl (cx.rq 3 sL1_3) (faStH29_0_0 _ _))) <|
      hk (fun cx => cx.q (ex_fa rfl (cx.u 0 rfl) (faStH25_1_0 _ _))) <|
      hk (fun cx => cx.q (ex_ld rfl (cx.u 0 rfl) (cx.rn 0 rfl) rfl Try.isAgg23)) <|
      hk (fun cx => cx.q (ex_fa rfl (cx.rq 5 sL1_5) (faStH25_1_0 _ _))) <|
      hk (fun cx => cx.q (ex_ld rfl (cx.u 0 rfl) (cx.rn 1 rfl) rfl Try.isAgg23)) <|
      hk (fun cx => cx.v (ex_gt (x := .tmp 30) (y := .tmp 32) rfl (cx.u 0 rfl) (cx.u 1 rfl)) rfl (congrArg Value.bool Ffk4.out)) <|
      hn) ?_
     intro a11 w11 f11
     refine wp_cond_false (f11.v 5 rfl rfl rfl) ?_
     refine wp_skip ?_
     have s2_36 := f11.q 2 sL1_2
     have s3_37 := f11.q 3 sL1_3
     have s4_38 := f11.q 4 sL1_4
     have s5_39 := f11.q 5 sL1_5
     have s6_40 := f11.q 6 sL1_6
     have b_g1_41 := f11.k bL1_g1
     have b_g2_42 := f11.k bL1_g2
     have b_g3_43 := f11.k bL1_g3
     have b_g4_44 := f11.k bL1_g4
     have b_g5_45 := f11.k bL1_g5
     exact ⟨f11.d, f11.z, f11.b, ⟨s2_36, s3_37, s4_38, s5_39, s6_40, trivial⟩, ⟨b_g1_41, b_g2_42, b_g3_43, (row_eq b_g4_44 (congrArg (fun x => cR (wid1 a.r.u.lo (a.r.joinR b.r).u.lo 0) x a.r.s.lo a.r.s.hi) (wid_n1 Ffk1.out Ffk2.out Ffk4.out))), b_g5_45, trivial⟩⟩
    have Ffk4 := Lib.hid fk4; clear fk4
    refine go_reg [bx g2 29 (scC b), bx g4 25 (cR (wid1 a.r.u.lo (a.r.joinR b.r).u.lo 0) a.r.u.hi a.r.s.lo a.r.s.hi)] [] [some (pt g2 0), some (pt g2 1), some (.int .u64 b.r.u.hi), some (pt g4 1), some (.int .u64 a.r.u.hi), oT] mo dL1 zL1 BL1 (by kernel_rfl) ⟨bL1_g2, bL1_g4, trivial⟩ (
     hk (fun cx => cx.q (ex_fa rfl (cx.rq 3 sL1_3) (faStH29_0_0 _ _))) <|
     hk (fun cx => cx.q (ex_fa rfl (cx.u 0 rfl) (faStH25_1_0 _ _))) <|
     hk (fun cx => cx.q (ex_ld rfl (cx.u 0 rfl) (cx.rn 0 rfl) rfl Try.isAgg23)) <|
     hk (fun cx => cx.q (ex_fa rfl (cx.rq 5 sL1_5) (faStH25_1_0 _ _))) <|
     hk (fun cx => cx.q (ex_ld rfl (cx.u 0 rfl) (cx.rn 1 rfl) rfl Try.isAgg23)) <|
     hk (fun cx => cx.v (ex_gt (x := .tmp 30) (y := .tmp 32) rfl (cx.u 0 rfl) (cx.u 1 rfl)) rfl (congrArg Value.bool Ffk4.out)) <|
     hn) ?_
    intro a12 w12 f12
    refine wp_cond_true (f12.v 5 rfl rfl rfl) ?_
    have b_g5_46 := f12.k bL1_g5
    have b_g4_47 := f12.k bL1_g4
    have s6_48 := f12.q 6 sL1_6
    have s5_49 := f12.q 5 sL1_5
    refine go_reg [bx g5 25 (cR allR.u.lo allR.u.hi allR.s.lo allR.s.hi), ⟨g4, 25, (cR (wid1 a.r.u.lo (a.r.joinR b.r).u.lo 0) a.r.u.hi a.r.s.lo a.r.s.hi), some 3, (cR (wid1 a.r.u.lo (a.r.joinR b.r).u.lo 0) allR.u.hi a.r.s.lo a.r.s.hi)⟩] [] [some (pt g5 1), some (.int .u64 allR.u.hi), some (pt g4 1), none] mo f12.d f12.z f12.b (by kernel_rfl) ⟨b_g5_46, b_g4_47, trivial⟩ (
     hk (fun cx => cx.q (ex_fa rfl (cx.rq 6 s6_48) (faStH25_1_0 _ _))) <|
     hk (fun cx => cx.q (ex_ld rfl (cx.u 0 rfl) (cx.rn 0 rfl) rfl Try.isAgg23)) <|
     hk (fun cx => cx.q (ex_fa rfl (cx.rq 5 s5_49) (faStH25_1_0 _ _))) <|
     hk (fun cx => cx.stC (wn rfl) rfl rfl 1 rfl (cx.u 0 rfl) (cx.u 1 rfl) rfl rfl (by kernel_rfl) rfl rfl (Nat.le_trans f6.b.size q_g4) rfl ⟨neL1_3_4.symm, trivial⟩ trivial) <|
     hn) ?_
    intro a13 w13 f13
    have s2_50 := f13.q 2 (f12.q 2 sL1_2)
    have s3_51 := f13.q 3 (f12.q 3 sL1_3)
    have s4_52 := f13.q 4 (f12.q 4 sL1_4)
    have s5_53 := f13.q 5 s5_49
    have s6_54 := f13.q 6 s6_48
    have b_g1_55 := f13.kp (f12.k bL1_g1) ⟨.inl rfl, .inr neL1_0_3, trivial⟩
    have b_g2_56 := f13.kp (f12.k bL1_g2) ⟨.inl rfl, .inr neL1_1_3, trivial⟩
    have b_g3_57 := f13.kp (f12.k bL1_g3) ⟨.inl rfl, .inr neL1_2_3, trivial⟩
    have b_g5_58 := f13.kp b_g5_46 ⟨.inl rfl, .inr neL1_3_4.symm, trivial⟩
    exact ⟨f13.d, f13.z, f13.b, ⟨s2_50, s3_51, s4_52, s5_53, s6_54, trivial⟩, ⟨b_g1_55, b_g2_56, b_g3_57, (row_eq f13.rows.2.1 (congrArg (fun x => cR (wid1 a.r.u.lo (a.r.joinR b.r).u.lo 0) x a.r.s.lo a.r.s.hi) (wid_y1 Ffk1.out Ffk2.out Ffk4.out))), b_g5_58, trivial⟩⟩
  rintro aL2 wL2 ⟨dL2, zL2, BL2, ⟨sL2_2, sL2_3, sL2_4, sL2_5, sL2_6, -⟩, ⟨bL2_g1, bL2_g2, bL2_g3, bL2_g4, bL2_g5, -⟩⟩
  replace sL2_2 : aL2.tmps.getD 2 undef = .pointer (some ⟨g1, 0, none⟩) := sL2_2
  replace sL2_3 : aL2.tmps.getD 3 undef = .pointer (some ⟨g2, 0, none⟩) := sL2_3
  replace sL2_4 : aL2.tmps.getD 4 undef = .pointer (some ⟨g3, 0, none⟩) := sL2_4
  replace sL2_5 : aL2.tmps.getD 5 undef = .pointer (some ⟨g4, 0, none⟩) := sL2_5
  replace sL2_6 : aL2.tmps.getD 6 undef = .pointer (some ⟨g5, 0, none⟩) := sL2_6
  replace bL2_g1 : wL2.heap[g1]? = some (.cells (scC a) 29 (0, 0)) := bL2_g1
  replace bL2_g2 : wL2.heap[g2]? = some (.cells (scC b) 29 (0, 0)) := bL2_g2
  replace bL2_g3 : wL2.heap[g3]? = some (.cells (scC zSc) 29 (0, 0)) := bL2_g3
  replace bL2_g4 : wL2.heap[g4]? = some (.cells (cR (wid1 a.r.u.lo (a.r.joinR b.r).u.lo 0) (wid1 a.r.u.hi (a.r.joinR b.r).u.hi 18446744073709551615) a.r.s.lo a.r.s.hi) 25 (0, 0)) := bL2_g4
  replace bL2_g5 : wL2.heap[g5]? = some (.cells (cR allR.u.lo allR.u.hi allR.s.lo allR.s.hi) 25 (0, 0)) := bL2_g5
  have neL3_0_1 := neL2_0_1
  have neL3_0_2 := neL2_0_2
  have neL3_0_3 := neL2_0_3
  have neL3_0_4 := neL2_0_4
  have neL3_1_2 := neL2_1_2
  have neL3_1_3 := neL2_1_3
  have neL3_1_4 := neL2_1_4
  have neL3_2_3 := neL2_2_3
  have neL3_2_4 := neL2_2_4
  have neL3_3_4 := neL2_3_4
  refine wp_cut (fun aI wI => Mid 63 W [(2, .pointer (some ⟨g1, 0, none⟩)), (3, .pointer (some ⟨g2, 0, none⟩)), (4, .pointer (some ⟨g3, 0, none⟩)), (5, .pointer (some ⟨g4, 0, none⟩)), (6, .pointer (some ⟨g5, 0, none⟩))] [(g1, 29, (scC a)), (g2, 29, (scC b)), (g3, 29, (scC zSc)), (g4, 25, (cR (wid1 a.r.u.lo (a.r.joinR b.r).u.lo 0) (wid1 a.r.u.hi (a.r.joinR b.r).u.hi 18446744073709551615) (wid1 a.r.s.lo (a.r.joinR b.r).s.lo (-9223372036854775808)) a.r.s.hi)), (g5, 25, (cR allR.u.lo allR.u.hi allR.s.lo allR.s.hi))] aI wI) ?_ ?_
  ·
    refine wp_seq ?_
    cases fk5 : decide (b.r.s.lo < a.r.s.lo)
    case false =>
     have Ffk5 := Lib.hid fk5; clear fk5
     refine go_reg [bx g2 29 (scC b), bx g4 25 (cR (wid1 a.r.u.lo (a.r.joinR b.r).u.lo 0) (wid1 a.r.u.hi (a.r.joinR b.r).u.hi 18446744073709551615) a.r.s.lo a.r.s.hi)] [] [some (pt g2 0), some (pt g2 2), some (.int .i64 b.r.s.lo), some (pt g4 2), some (.int .i64 a.r.s.lo), oF] mo dL2 zL2 BL2 (by kernel_rfl) ⟨bL2_g2, bL2_g4, trivial⟩ (
      hk (fun cx => cx.q (ex_fa rfl (cx.rq 3 sL2_3) (faStH29_0_0 _ _))) <|
      hk (fun cx => cx.q (ex_fa rfl (cx.u 0 rfl) (faStH25_2_0 _ _))) <|
      hk (fun cx => cx.q (ex_ld rfl (cx.u 0 rfl) (cx.rn 0 rfl) rfl Try.isAgg2)) <|
      hk (fun cx => cx.q (ex_fa rfl (cx.rq 5 sL2_5) (faStH25_2_0 _ _))) <|
      hk (fun cx => cx.q (ex_ld rfl (cx.u 0 rfl) (cx.rn 1 rfl) rfl Try.isAgg2)) <|
      hk (fun cx => cx.v (ex_lt (x := .tmp 39) (y := .tmp 41) rfl (cx.u 0 rfl) (cx.u 1 rfl)) rfl (congrArg Value.bool Ffk5.out)) <|
      hn) ?_
     intro a14 w14 f14
     refine wp_cond_false (f14.v 5 rfl rfl rfl) ?_
     refine wp_skip ?_
     have s2_59 := f14.q 2 sL2_2
     have s3_60 := f14.q 3 sL2_3
     have s4_61 := f14.q 4 sL2_4
     have s5_62 := f14.q 5 sL2_5
     have s6_63 := f14.q 6 sL2_6
     have b_g1_64 := f14.k bL2_g1
     have b_g2_65 := f14.k bL2_g2
     have b_g3_66 := f14.k bL2_g3
     have b_g4_67 := f14.k bL2_g4
     have b_g5_68 := f14.k bL2_g5
     exact ⟨f14.d, f14.z, f14.b, ⟨s2_59, s3_60, s4_61, s5_62, s6_63, trivial⟩, ⟨b_g1_64, b_g2_65, b_g3_66, (row_eq b_g4_67 (congrArg (fun x => cR (wid1 a.r.u.lo (a.r.joinR b.r).u.lo 0) (wid1 a.r.u.hi (a.r.joinR b.r).u.hi 18446744073709551615) x a.r.s.hi) (wid_n2 Ffk1.out Ffk2.out Ffk5.out))), b_g5_68, trivial⟩⟩
    have Ffk5 := Lib.hid fk5; clear fk5
    refine go_reg [bx g2 29 (scC b), bx g4 25 (cR (wid1 a.r.u.lo (a.r.joinR b.r).u.lo 0) (wid1 a.r.u.hi (a.r.joinR b.r).u.hi 18446744073709551615) a.r.s.lo a.r.s.hi)] [] [some (pt g2 0), some (pt g2 2), some (.int .i64 b.r.s.lo), some (pt g4 2), some (.int .i64 a.r.s.lo), oT] mo dL2 zL2 BL2 (by kernel_rfl) ⟨bL2_g2, bL2_g4, trivial⟩ (
     hk (fun cx => cx.q (ex_fa rfl (cx.rq 3 sL2_3) (faStH29_0_0 _ _))) <|
     hk (fun cx => cx.q (ex_fa rfl (cx.u 0 rfl) (faStH25_2_0 _ _))) <|
     hk (fun cx => cx.q (ex_ld rfl (cx.u 0 rfl) (cx.rn 0 rfl) rfl Try.isAgg2)) <|
     hk (fun cx => cx.q (ex_fa rfl (cx.rq 5 sL2_5) (faStH25_2_0 _ _))) <|
     hk (fun cx => cx.q (ex_ld rfl (cx.u 0 rfl) (cx.rn 1 rfl) rfl Try.isAgg2)) <|
     hk (fun cx => cx.v (ex_lt (x := .tmp 39) (y := .tmp 41) rfl (cx.u 0 rfl) (cx.u 1 rfl)) rfl (congrArg Value.bool Ffk5.out)) <|
     hn) ?_
    intro a15 w15 f15
    refine wp_cond_true (f15.v 5 rfl rfl rfl) ?_
    have b_g5_69 := f15.k bL2_g5
    have b_g4_70 := f15.k bL2_g4
    have s6_71 := f15.q 6 sL2_6
    have s5_72 := f15.q 5 sL2_5
    refine go_reg [bx g5 25 (cR allR.u.lo allR.u.hi allR.s.lo allR.s.hi), ⟨g4, 25, (cR (wid1 a.r.u.lo (a.r.joinR b.r).u.lo 0) (wid1 a.r.u.hi (a.r.joinR b.r).u.hi 18446744073709551615) a.r.s.lo a.r.s.hi), some 3, (cR (wid1 a.r.u.lo (a.r.joinR b.r).u.lo 0) (wid1 a.r.u.hi (a.r.joinR b.r).u.hi 18446744073709551615) allR.s.lo a.r.s.hi)⟩] [] [some (pt g5 2), some (.int .i64 allR.s.lo), some (pt g4 2), none] mo f15.d f15.z f15.b (by kernel_rfl) ⟨b_g5_69, b_g4_70, trivial⟩ (
     hk (fun cx => cx.q (ex_fa rfl (cx.rq 6 s6_71) (faStH25_2_0 _ _))) <|
     hk (fun cx => cx.q (ex_ld rfl (cx.u 0 rfl) (cx.rn 0 rfl) rfl Try.isAgg2)) <|
     hk (fun cx => cx.q (ex_fa rfl (cx.rq 5 s5_72) (faStH25_2_0 _ _))) <|
     hk (fun cx => cx.stC (wn rfl) rfl rfl 1 rfl (cx.u 0 rfl) (cx.u 1 rfl) rfl rfl (by kernel_rfl) rfl rfl (Nat.le_trans f6.b.size q_g4) rfl ⟨neL2_3_4.symm, trivial⟩ trivial) <|
     hn) ?_
    intro a16 w16 f16
    have s2_73 := f16.q 2 (f15.q 2 sL2_2)
    have s3_74 := f16.q 3 (f15.q 3 sL2_3)
    have s4_75 := f16.q 4 (f15.q 4 sL2_4)
    have s5_76 := f16.q 5 s5_72
    have s6_77 := f16.q 6 s6_71
    have b_g1_78 := f16.kp (f15.k bL2_g1) ⟨.inl rfl, .inr neL2_0_3, trivial⟩
    have b_g2_79 := f16.kp (f15.k bL2_g2) ⟨.inl rfl, .inr neL2_1_3, trivial⟩
    have b_g3_80 := f16.kp (f15.k bL2_g3) ⟨.inl rfl, .inr neL2_2_3, trivial⟩
    have b_g5_81 := f16.kp b_g5_69 ⟨.inl rfl, .inr neL2_3_4.symm, trivial⟩
    exact ⟨f16.d, f16.z, f16.b, ⟨s2_73, s3_74, s4_75, s5_76, s6_77, trivial⟩, ⟨b_g1_78, b_g2_79, b_g3_80, (row_eq f16.rows.2.1 (congrArg (fun x => cR (wid1 a.r.u.lo (a.r.joinR b.r).u.lo 0) (wid1 a.r.u.hi (a.r.joinR b.r).u.hi 18446744073709551615) x a.r.s.hi) (wid_y2 Ffk1.out Ffk2.out Ffk5.out))), b_g5_81, trivial⟩⟩
  rintro aL3 wL3 ⟨dL3, zL3, BL3, ⟨sL3_2, sL3_3, sL3_4, sL3_5, sL3_6, -⟩, ⟨bL3_g1, bL3_g2, bL3_g3, bL3_g4, bL3_g5, -⟩⟩
  replace sL3_2 : aL3.tmps.getD 2 undef = .pointer (some ⟨g1, 0, none⟩) := sL3_2
  replace sL3_3 : aL3.tmps.getD 3 undef = .pointer (some ⟨g2, 0, none⟩) := sL3_3
  replace sL3_4 : aL3.tmps.getD 4 undef = .pointer (some ⟨g3, 0, none⟩) := sL3_4
  replace sL3_5 : aL3.tmps.getD 5 undef = .pointer (some ⟨g4, 0, none⟩) := sL3_5
  replace sL3_6 : aL3.tmps.getD 6 undef = .pointer (some ⟨g5, 0, none⟩) := sL3_6
  replace bL3_g1 : wL3.heap[g1]? = some (.cells (scC a) 29 (0, 0)) := bL3_g1
  replace bL3_g2 : wL3.heap[g2]? = some (.cells (scC b) 29 (0, 0)) := bL3_g2
  replace bL3_g3 : wL3.heap[g3]? = some (.cells (scC zSc) 29 (0, 0)) := bL3_g3
  replace bL3_g4 : wL3.heap[g4]? = some (.cells (cR (wid1 a.r.u.lo (a.r.joinR b.r).u.lo 0) (wid1 a.r.u.hi (a.r.joinR b.r).u.hi 18446744073709551615) (wid1 a.r.s.lo (a.r.joinR b.r).s.lo (-9223372036854775808)) a.r.s.hi) 25 (0, 0)) := bL3_g4
  replace bL3_g5 : wL3.heap[g5]? = some (.cells (cR allR.u.lo allR.u.hi allR.s.lo allR.s.hi) 25 (0, 0)) := bL3_g5
  have neL4_0_1 := neL3_0_1
  have neL4_0_2 := neL3_0_2
  have neL4_0_3 := neL3_0_3
  have neL4_0_4 := neL3_0_4
  have neL4_1_2 := neL3_1_2
  have neL4_1_3 := neL3_1_3
  have neL4_1_4 := neL3_1_4
  have neL4_2_3 := neL3_2_3
  have neL4_2_4 := neL3_2_4
  have neL4_3_4 := neL3_3_4
  refine wp_cut (fun aI wI => Mid 63 W [(2, .pointer (some ⟨g1, 0, none⟩)), (3, .pointer (some ⟨g2, 0, none⟩)), (4, .pointer (some ⟨g3, 0, none⟩)), (5, .pointer (some ⟨g4, 0, none⟩))] [(g1, 29, (scC a)), (g2, 29, (scC b)), (g3, 29, (scC zSc)), (g4, 25, (cR (wid1 a.r.u.lo (a.r.joinR b.r).u.lo 0) (wid1 a.r.u.hi (a.r.joinR b.r).u.hi 18446744073709551615) (wid1 a.r.s.lo (a.r.joinR b.r).s.lo (-9223372036854775808)) (wid1 a.r.s.hi (a.r.joinR b.r).s.hi 9223372036854775807))), (g5, 25, (cR allR.u.lo allR.u.hi allR.s.lo allR.s.hi))] aI wI) ?_ ?_
  ·
    refine wp_seq ?_
    cases fk6 : decide (a.r.s.hi < b.r.s.hi)
    case false =>
     have Ffk6 := Lib.hid fk6; clear fk6
     refine go_reg [bx g2 29 (scC b), bx g4 25 (cR (wid1 a.r.u.lo (a.r.joinR b.r).u.lo 0) (wid1 a.r.u.hi (a.r.joinR b.r).u.hi 18446744073709551615) (wid1 a.r.s.lo (a.r.joinR b.r).s.lo (-9223372036854775808)) a.r.s.hi)] [] [some (pt g2 0), some (pt g2 3), some (.int .i64 b.r.s.hi), some (pt g4 3), some (.int .i64 a.r.s.hi), oF] mo dL3 zL3 BL3 (by kernel_rfl) ⟨bL3_g2, bL3_g4, trivial⟩ (
      hk (fun cx => cx.q (ex_fa rfl (cx.rq 3 sL3_3) (faStH29_0_0 _ _))) <|
      hk (fun cx => cx.q (ex_fa rfl (cx.u 0 rfl) (faStH25_3_0 _ _))) <|
      hk (fun cx => cx.q (ex_ld rfl (cx.u 0 rfl) (cx.rn 0 rfl) rfl Try.isAgg2)) <|
      hk (fun cx => cx.q (ex_fa rfl (cx.rq 5 sL3_5) (faStH25_3_0 _ _))) <|
      hk (fun cx => cx.q (ex_ld rfl (cx.u 0 rfl) (cx.rn 1 rfl) rfl Try.isAgg2)) <|
      hk (fun cx => cx.v (ex_gt (x := .tmp 48) (y := .tmp 50) rfl (cx.u 0 rfl) (cx.u 1 rfl)) rfl (congrArg Value.bool Ffk6.out)) <|
      hn) ?_
     intro a17 w17 f17
     refine wp_cond_false (f17.v 5 rfl rfl rfl) ?_
     refine wp_skip ?_
     have s2_82 := f17.q 2 sL3_2
     have s3_83 := f17.q 3 sL3_3
     have s4_84 := f17.q 4 sL3_4
     have s5_85 := f17.q 5 sL3_5
     have b_g1_86 := f17.k bL3_g1
     have b_g2_87 := f17.k bL3_g2
     have b_g3_88 := f17.k bL3_g3
     have b_g4_89 := f17.k bL3_g4
     have b_g5_90 := f17.k bL3_g5
     exact ⟨f17.d, f17.z, f17.b, ⟨s2_82, s3_83, s4_84, s5_85, trivial⟩, ⟨b_g1_86, b_g2_87, b_g3_88, (row_eq b_g4_89 (congrArg (fun x => cR (wid1 a.r.u.lo (a.r.joinR b.r).u.lo 0) (wid1 a.r.u.hi (a.r.joinR b.r).u.hi 18446744073709551615) (wid1 a.r.s.lo (a.r.joinR b.r).s.lo (-9223372036854775808)) x) (wid_n3 Ffk1.out Ffk2.out Ffk6.out))), b_g5_90, trivial⟩⟩
    have Ffk6 := Lib.hid fk6; clear fk6
    refine go_reg [bx g2 29 (scC b), bx g4 25 (cR (wid1 a.r.u.lo (a.r.joinR b.r).u.lo 0) (wid1 a.r.u.hi (a.r.joinR b.r).u.hi 18446744073709551615) (wid1 a.r.s.lo (a.r.joinR b.r).s.lo (-9223372036854775808)) a.r.s.hi)] [] [some (pt g2 0), some (pt g2 3), some (.int .i64 b.r.s.hi), some (pt g4 3), some (.int .i64 a.r.s.hi), oT] mo dL3 zL3 BL3 (by kernel_rfl) ⟨bL3_g2, bL3_g4, trivial⟩ (
     hk (fun cx => cx.q (ex_fa rfl (cx.rq 3 sL3_3) (faStH29_0_0 _ _))) <|
     hk (fun cx => cx.q (ex_fa rfl (cx.u 0 rfl) (faStH25_3_0 _ _))) <|
     hk (fun cx => cx.q (ex_ld rfl (cx.u 0 rfl) (cx.rn 0 rfl) rfl Try.isAgg2)) <|
     hk (fun cx => cx.q (ex_fa rfl (cx.rq 5 sL3_5) (faStH25_3_0 _ _))) <|
     hk (fun cx => cx.q (ex_ld rfl (cx.u 0 rfl) (cx.rn 1 rfl) rfl Try.isAgg2)) <|
     hk (fun cx => cx.v (ex_gt (x := .tmp 48) (y := .tmp 50) rfl (cx.u 0 rfl) (cx.u 1 rfl)) rfl (congrArg Value.bool Ffk6.out)) <|
     hn) ?_
    intro a18 w18 f18
    refine wp_cond_true (f18.v 5 rfl rfl rfl) ?_
    have b_g5_91 := f18.k bL3_g5
    have b_g4_92 := f18.k bL3_g4
    have s6_93 := f18.q 6 sL3_6
    have s5_94 := f18.q 5 sL3_5
    refine go_reg [bx g5 25 (cR allR.u.lo allR.u.hi allR.s.lo allR.s.hi), ⟨g4, 25, (cR (wid1 a.r.u.lo (a.r.joinR b.r).u.lo 0) (wid1 a.r.u.hi (a.r.joinR b.r).u.hi 18446744073709551615) (wid1 a.r.s.lo (a.r.joinR b.r).s.lo (-9223372036854775808)) a.r.s.hi), some 3, (cR (wid1 a.r.u.lo (a.r.joinR b.r).u.lo 0) (wid1 a.r.u.hi (a.r.joinR b.r).u.hi 18446744073709551615) (wid1 a.r.s.lo (a.r.joinR b.r).s.lo (-9223372036854775808)) allR.s.hi)⟩] [] [some (pt g5 3), some (.int .i64 allR.s.hi), some (pt g4 3), none] mo f18.d f18.z f18.b (by kernel_rfl) ⟨b_g5_91, b_g4_92, trivial⟩ (
     hk (fun cx => cx.q (ex_fa rfl (cx.rq 6 s6_93) (faStH25_3_0 _ _))) <|
     hk (fun cx => cx.q (ex_ld rfl (cx.u 0 rfl) (cx.rn 0 rfl) rfl Try.isAgg2)) <|
     hk (fun cx => cx.q (ex_fa rfl (cx.rq 5 s5_94) (faStH25_3_0 _ _))) <|
     hk (fun cx => cx.stC (wn rfl) rfl rfl 1 rfl (cx.u 0 rfl) (cx.u 1 rfl) rfl rfl (by kernel_rfl) rfl rfl (Nat.le_trans f6.b.size q_g4) rfl ⟨neL3_3_4.symm, trivial⟩ trivial) <|
     hn) ?_
    intro a19 w19 f19
    have s2_95 := f19.q 2 (f18.q 2 sL3_2)
    have s3_96 := f19.q 3 (f18.q 3 sL3_3)
    have s4_97 := f19.q 4 (f18.q 4 sL3_4)
    have s5_98 := f19.q 5 s5_94
    have b_g1_99 := f19.kp (f18.k bL3_g1) ⟨.inl rfl, .inr neL3_0_3, trivial⟩
    have b_g2_100 := f19.kp (f18.k bL3_g2) ⟨.inl rfl, .inr neL3_1_3, trivial⟩
    have b_g3_101 := f19.kp (f18.k bL3_g3) ⟨.inl rfl, .inr neL3_2_3, trivial⟩
    have b_g5_102 := f19.kp b_g5_91 ⟨.inl rfl, .inr neL3_3_4.symm, trivial⟩
    exact ⟨f19.d, f19.z, f19.b, ⟨s2_95, s3_96, s4_97, s5_98, trivial⟩, ⟨b_g1_99, b_g2_100, b_g3_101, (row_eq f19.rows.2.1 (congrArg (fun x => cR (wid1 a.r.u.lo (a.r.joinR b.r).u.lo 0) (wid1 a.r.u.hi (a.r.joinR b.r).u.hi 18446744073709551615) (wid1 a.r.s.lo (a.r.joinR b.r).s.lo (-9223372036854775808)) x) (wid_y3 Ffk1.out Ffk2.out Ffk6.out))), b_g5_102, trivial⟩⟩
  rintro aL4 wL4 ⟨dL4, zL4, BL4, ⟨sL4_2, sL4_3, sL4_4, sL4_5, -⟩, ⟨bL4_g1, bL4_g2, bL4_g3, bL4_g4, bL4_g5, -⟩⟩
  replace sL4_2 : aL4.tmps.getD 2 undef = .pointer (some ⟨g1, 0, none⟩) := sL4_2
  replace sL4_3 : aL4.tmps.getD 3 undef = .pointer (some ⟨g2, 0, none⟩) := sL4_3
  replace sL4_4 : aL4.tmps.getD 4 undef = .pointer (some ⟨g3, 0, none⟩) := sL4_4
  replace sL4_5 : aL4.tmps.getD 5 undef = .pointer (some ⟨g4, 0, none⟩) := sL4_5
  replace bL4_g1 : wL4.heap[g1]? = some (.cells (scC a) 29 (0, 0)) := bL4_g1
  replace bL4_g2 : wL4.heap[g2]? = some (.cells (scC b) 29 (0, 0)) := bL4_g2
  replace bL4_g3 : wL4.heap[g3]? = some (.cells (scC zSc) 29 (0, 0)) := bL4_g3
  replace bL4_g4 : wL4.heap[g4]? = some (.cells (cR (wid1 a.r.u.lo (a.r.joinR b.r).u.lo 0) (wid1 a.r.u.hi (a.r.joinR b.r).u.hi 18446744073709551615) (wid1 a.r.s.lo (a.r.joinR b.r).s.lo (-9223372036854775808)) (wid1 a.r.s.hi (a.r.joinR b.r).s.hi 9223372036854775807)) 25 (0, 0)) := bL4_g4
  replace bL4_g5 : wL4.heap[g5]? = some (.cells (cR allR.u.lo allR.u.hi allR.s.lo allR.s.hi) 25 (0, 0)) := bL4_g5
  refine wp_seq ?_
  refine go_reg [bx g4 25 (cR (wid1 a.r.u.lo (a.r.joinR b.r).u.lo 0) (wid1 a.r.u.hi (a.r.joinR b.r).u.hi 18446744073709551615) (wid1 a.r.s.lo (a.r.joinR b.r).s.lo (-9223372036854775808)) (wid1 a.r.s.hi (a.r.joinR b.r).s.hi 9223372036854775807)), bx g1 29 (scC a), bx g2 29 (scC b), ⟨g3, 29, (scC zSc), some 8, (scC (Sc.nar ⟨⟨⟨wid1 a.r.u.lo (a.r.joinR b.r).u.lo 0, wid1 a.r.u.hi (a.r.joinR b.r).u.hi 18446744073709551615⟩, ⟨wid1 a.r.s.lo (a.r.joinR b.r).s.lo (-9223372036854775808), wid1 a.r.s.hi (a.r.joinR b.r).s.hi 9223372036854775807⟩⟩, Kn.joinK a.k b.k⟩))⟩] [] [some (.agg (cR (wid1 a.r.u.lo (a.r.joinR b.r).u.lo 0) (wid1 a.r.u.hi (a.r.joinR b.r).u.hi 18446744073709551615) (wid1 a.r.s.lo (a.r.joinR b.r).s.lo (-9223372036854775808)) (wid1 a.r.s.hi (a.r.joinR b.r).s.hi 9223372036854775807))), some (pt g1 4), some (.agg (knC a.k)), some (pt g2 4), some (.agg (knC b.k)), some (.agg (knC (Kn.joinK a.k b.k))), some (.agg (scC ⟨⟨⟨wid1 a.r.u.lo (a.r.joinR b.r).u.lo 0, wid1 a.r.u.hi (a.r.joinR b.r).u.hi 18446744073709551615⟩, ⟨wid1 a.r.s.lo (a.r.joinR b.r).s.lo (-9223372036854775808), wid1 a.r.s.hi (a.r.joinR b.r).s.hi 9223372036854775807⟩⟩, Kn.joinK a.k b.k⟩)), some (.agg (scC (Sc.nar ⟨⟨⟨wid1 a.r.u.lo (a.r.joinR b.r).u.lo 0, wid1 a.r.u.hi (a.r.joinR b.r).u.hi 18446744073709551615⟩, ⟨wid1 a.r.s.lo (a.r.joinR b.r).s.lo (-9223372036854775808), wid1 a.r.s.hi (a.r.joinR b.r).s.hi 9223372036854775807⟩⟩, Kn.joinK a.k b.k⟩))), none] mo dL4 zL4 BL4 (by kernel_rfl) ⟨bL4_g4, bL4_g1, bL4_g2, bL4_g3, trivial⟩ (
   hk (fun cx => cx.q (ldR rfl (cx.rq 5 sL4_5) (cx.rn 0 rfl))) <|
   hk (fun cx => cx.q (ex_fa rfl (cx.rq 2 sL4_2) (faStH29_1_0 _ _))) <|
   hk (fun cx => cx.q (exec_loadR 27 _ rfl g1 4 (cx.u 0 rfl) (cx.rn 1 rfl) [.int .u64 (V a.k.v), .int .u64 (V a.k.m)] rfl _ Try.underlying27 rfl (by kernel_rfl))) <|
   hk (fun cx => cx.q (ex_fa rfl (cx.rq 3 sL4_3) (faStH29_1_0 _ _))) <|
   hk (fun cx => cx.q (exec_loadR 27 _ rfl g2 4 (cx.u 0 rfl) (cx.rn 2 rfl) [.int .u64 (V b.k.v), .int .u64 (V b.k.m)] rfl _ Try.underlying27 rfl (by kernel_rfl))) <|
   hc (fun _ _ wx cx => cx.c rfl (args2 (cx.u 0 rfl) (cx.u 1 rfl)) Try.func116 (by decide +kernel) (ljoin_n a.k b.k wx) rfl rfl) <|
   hk (fun cx => cx.q (exec_build rfl (parts2 (cx.u 0 rfl) (cx.u 1 rfl)) (by kernel_rfl))) <|
   hc (fun _ _ wx cx => cx.c rfl (args1 (cx.u 0 rfl)) Try.func115 (by decide +kernel) (wnarrowed_n ⟨⟨⟨wid1 a.r.u.lo (a.r.joinR b.r).u.lo 0, wid1 a.r.u.hi (a.r.joinR b.r).u.hi 18446744073709551615⟩, ⟨wid1 a.r.s.lo (a.r.joinR b.r).s.lo (-9223372036854775808), wid1 a.r.s.hi (a.r.joinR b.r).s.hi 9223372036854775807⟩⟩, Kn.joinK a.k b.k⟩ wx (widR_ok HA.out HB.out)) rfl rfl) <|
   hk (fun cx => cx.stR (wn rfl) rfl rfl 3 rfl (cx.rq 4 sL4_4) (cx.u 0 rfl) (by kernel_rfl) (Eq.refl 6) (scC_one _) q_g3 rfl ⟨neL4_2_3.symm, neL4_0_2, neL4_1_2, trivial⟩ trivial) <|
   hn) ?_
  intro a20 w20 f20
  refine wp_ret ?_
  have s4_103 := f20.q 4 sL4_4
  try simp only [Exit.inBlock, Exit.then]
  refine bodyPost_ret (res_c (fn := Try.f100) rfl s4_103 (load_row 29 f20.rows.2.2.2.1 Try.underlying29 rfl (by kernel_rfl))) f20.d ?_
  have HE : (.agg (scC (Sc.nar ⟨⟨⟨wid1 a.r.u.lo (a.r.joinR b.r).u.lo 0, wid1 a.r.u.hi (a.r.joinR b.r).u.hi 18446744073709551615⟩, ⟨wid1 a.r.s.lo (a.r.joinR b.r).s.lo (-9223372036854775808), wid1 a.r.s.hi (a.r.joinR b.r).s.hi 9223372036854775807⟩⟩, Kn.joinK a.k b.k⟩)) : Value) = .agg (scC (Sc.widen a b)) := by unfold Sc.widen; rw [Ffk1.out, Ffk2.out]; rfl
  exact ⟨retV HE, f20.b⟩
end Go.Proofs.Ytcnneeimkcnjfaa.Sta
