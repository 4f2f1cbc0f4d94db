/-
  The document's own answer for known bits (latheref08), as contracts. (Written by gen_stg.py.)
-/
import Derived.Test.YtcnneeimkcnjfaaStB
import Derived.Test.YtcnneeimkcnjfaaStN
namespace Go.Proofs.Ytcnneeimkcnjfaa.Sta
open Go.RowKit Bnd Knw
set_option linter.unusedVariables false
set_option linter.unusedSimpArgs false
set_option linter.unnecessarySimpa false
set_option maxRecDepth 100000
theorem faStG27_0_0 (g : Nat) (w : World) : (Instr.fieldAt 27 (.pointer (some ⟨g, 0, none⟩)) 0).run Try.prog w = .ok (.pointer (some ⟨g, 0, none⟩)) w := by simp [go_sem]
theorem faStG27_1_0 (g : Nat) (w : World) : (Instr.fieldAt 27 (.pointer (some ⟨g, 0, none⟩)) 1).run Try.prog w = .ok (.pointer (some ⟨g, 1, none⟩)) w := by simp [go_sem]
set_option maxHeartbeats 4000000 in
theorem lmay_n (a : Kn) (W : World) : Calls Try.prog 72 #[.agg (knC a)] W fun e w' => e = .returned (.bool (Kn.mayB a)) ∧ Below W.heap.size W w' := by
  refine calls_abs Try.func72 rfl (Nat.le_of_ble_eq_true rfl) ?_
  intro a0 d0 z0 h0
  replace z0 : a0.tmps.size = 9 := z0
  have s0_0 : a0.tmps.getD 0 undef = .agg (knC a) := h0 0 (Nat.le_of_ble_eq_true rfl)
  refine wp_seq ?_
  refine go_reg [] [⟨0, 1, 27, (knC a), none, #[]⟩] [none, some (.bool false)] mo d0 z0 (Below.refl _ _) (by kernel_rfl) trivial (
   hk (fun cx => cx.al (wn rfl) 0 rfl (ex_box rfl (cx.rq 0 s0_0) rfl) rfl rfl rfl rfl rfl trivial) <|
   hk (fun cx => cx.v (ex_as rfl rfl) rfl rfl) <|
   hn) ?_
  intro a1 w1 f1
  obtain ⟨g1, u_g1, q_g1, b_g1⟩ := f1.al.1
  refine wp_seq ?_
  refine go_reg [bx g1 27 (knC a)] [] [some (pt g1 0), some (.int .u64 (V a.v)), some (pt g1 1), some (.int .u64 (V a.m)), some (.int .u64 (V (a.v &&& a.m))), some (.bool (Kn.mayB a)), some (.bool (Kn.mayB a))] mo f1.d f1.z f1.b (by kernel_rfl) ⟨b_g1, trivial⟩ (
   hk (fun cx => cx.v (ex_fa rfl (cx.rq 1 u_g1) (faStG27_0_0 _ _)) rfl rfl) <|
   hk (fun cx => cx.v (ex_ld rfl (cx.u 0 rfl) (cx.rn 0 rfl) rfl Try.isAgg23) rfl rfl) <|
   hk (fun cx => cx.v (ex_fa rfl (cx.rq 1 u_g1) (faStG27_1_0 _ _)) rfl rfl) <|
   hk (fun cx => cx.v (ex_ld rfl (cx.u 0 rfl) (cx.rn 0 rfl) rfl Try.isAgg23) rfl rfl) <|
   hk (fun cx => cx.v (ex_and (x := .tmp 4) (y := .tmp 6) rfl (cx.u 0 rfl) (cx.u 1 rfl)) rfl (congrArg (Value.int .u64) (V_and a.v a.m))) <|
   hk (fun cx => cx.v (ex_eq (x := .tmp 7) rfl (cx.u 0 rfl) rfl) rfl (congrArg Value.bool (V_z (a.v &&& a.m)))) <|
   hk (fun cx => cx.v (ex_as rfl (cx.u 0 rfl)) rfl rfl) <|
   hn) ?_
  intro a2 w2 f2
  refine wp_ret ?_
  try simp only [Exit.inBlock, Exit.then]
  refine bodyPost_ret (res_t (fn := Try.f72) rfl (f2.v 6 rfl rfl rfl)) f2.d ?_
  exact ⟨rfl, f2.b⟩
end Go.Proofs.Ytcnneeimkcnjfaa.Sta
