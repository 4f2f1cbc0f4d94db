/-
  May and Not, both, over any condition. (Written by gen_fl.py.)
-/
import Derived.Test.YtllnengcmfgmhaaFlD
import Derived.Test.YtllnengcmfgmhaaFlDb
import Derived.Test.YtllnengcmfgmhaaFlDc
namespace Go.Proofs.Ytllnengcmfgmhaa.Flg
open Go Go.RowKit
set_option linter.unusedVariables false
set_option linter.unusedSimpArgs false
set_option linter.unnecessarySimpa false
set_option maxRecDepth 100000




theorem cc_no {cc : Int} (h : mayC cc = false) : cc < 0 ∨ cc = 0 ∨ cc = 1 ∨ cc = 8 ∨ cc = 9 ∨ cc = 10 ∨ cc = 11 ∨ 16 ≤ cc := by
  have := may_not h
  omega

theorem cond_none (cc : Int) (h : mayC cc = false) (h1 : cc ≤ 127) (W : World) : Calls Try.prog 34 #[.int .i8 cc] W fun e w' => e = .returned (.nilFunc) ∧ Below W.heap.size W w' := by
  rcases cc_no h with h0 | rfl | rfl | rfl | rfl | rfl | rfl | h0
  · exact cond_neg cc h0 W
  · exact cond_no0 W
  · exact cond_no1 W
  · exact cond_no8 W
  · exact cond_no9 W
  · exact cond_no10 W
  · exact cond_no11 W
  · exact cond_big cc h0 h1 W

theorem ex_fnn {ρ : Operand → Value} {o : Oper} {w : World} {x y : Operand} {u : TypeId} {n : FuncId} (ho : o.op = .binOp .neq 50 x y u) (hx : ρ x = .func (.func n) #[] #[]) (hy : ρ y = .nilFunc) : (execOp ρ o).run Try.prog w = .ok (.value (.bool true)) w := by
  simp [execOp, ho, hx, hy, go_sem]
  rfl
theorem ex_fzz {ρ : Operand → Value} {o : Oper} {w : World} {x y : Operand} {u : TypeId} (ho : o.op = .binOp .neq 50 x y u) (hx : ρ x = .nilFunc) (hy : ρ y = .nilFunc) : (execOp ρ o).run Try.prog w = .ok (.value (.bool false)) w := by
  simp [execOp, ho, hx, hy, go_sem]
  rfl

set_option maxHeartbeats 4000000 in
theorem may_2  (W : World) : Calls Try.prog 22 #[.int .i8 2] W fun e w' => e = .returned (.bool true) ∧ Below W.heap.size W w' := by
  refine calls_abs Try.func22 rfl (Nat.le_of_ble_eq_true rfl) ?_
  intro a0 d0 z0 h0
  replace z0 : a0.tmps.size = 6 := z0
  have s0_0 : a0.tmps.getD 0 undef = .int .i8 2 := h0 0 (Nat.le_of_ble_eq_true rfl)
  refine wp_seq ?_
  refine go_reg [] [] [oF] mo d0 z0 (Below.refl _ _) (by kernel_rfl) trivial (
   hk (fun cx => cx.q (ex_as rfl rfl)) <|
   hn) ?_
  intro a1 w1 f1
  refine wp_seq ?_
  have s0_1 := f1.q 0 s0_0
  refine go_reg [] [] [some (.int .i8 2), some (.func (.func 40) #[] #[]), oT, oT] mo f1.d f1.z f1.b (by kernel_rfl) trivial (
   hk (fun cx => cx.q (ex_mv rfl (cx.rq 0 s0_1))) <|
   hc (fun _ _ wx cx => cx.c rfl (args1 (cx.u 0 rfl)) Try.func34 (by decide +kernel) (cond_2 wx) rfl rfl) <|
   hk (fun cx => cx.q (ex_fnn (x := .tmp 4) rfl (cx.u 0 rfl) rfl)) <|
   kmu 0 <|
   hn) ?_
  intro a2 w2 f2
  refine wp_ret ?_
  try simp only [Exit.inBlock, Exit.then]
  refine bodyPost_ret (res_t (fn := Try.f22) rfl (f2.v 3 rfl rfl rfl)) f2.d ?_
  exact ⟨rfl, f2.b⟩

set_option maxHeartbeats 4000000 in
theorem may_3  (W : World) : Calls Try.prog 22 #[.int .i8 3] W fun e w' => e = .returned (.bool true) ∧ Below W.heap.size W w' := by
  refine calls_abs Try.func22 rfl (Nat.le_of_ble_eq_true rfl) ?_
  intro a0 d0 z0 h0
  replace z0 : a0.tmps.size = 6 := z0
  have s0_0 : a0.tmps.getD 0 undef = .int .i8 3 := h0 0 (Nat.le_of_ble_eq_true rfl)
  refine wp_seq ?_
  refine go_reg [] [] [oF] mo d0 z0 (Below.refl _ _) (by kernel_rfl) trivial (
   hk (fun cx => cx.q (ex_as rfl rfl)) <|
   hn) ?_
  intro a1 w1 f1
  refine wp_seq ?_
  have s0_1 := f1.q 0 s0_0
  refine go_reg [] [] [some (.int .i8 3), some (.func (.func 41) #[] #[]), oT, oT] mo f1.d f1.z f1.b (by kernel_rfl) trivial (
   hk (fun cx => cx.q (ex_mv rfl (cx.rq 0 s0_1))) <|
   hc (fun _ _ wx cx => cx.c rfl (args1 (cx.u 0 rfl)) Try.func34 (by decide +kernel) (cond_3 wx) rfl rfl) <|
   hk (fun cx => cx.q (ex_fnn (x := .tmp 4) rfl (cx.u 0 rfl) rfl)) <|
   kmu 0 <|
   hn) ?_
  intro a2 w2 f2
  refine wp_ret ?_
  try simp only [Exit.inBlock, Exit.then]
  refine bodyPost_ret (res_t (fn := Try.f22) rfl (f2.v 3 rfl rfl rfl)) f2.d ?_
  exact ⟨rfl, f2.b⟩

set_option maxHeartbeats 4000000 in
theorem may_4  (W : World) : Calls Try.prog 22 #[.int .i8 4] W fun e w' => e = .returned (.bool true) ∧ Below W.heap.size W w' := by
  refine calls_abs Try.func22 rfl (Nat.le_of_ble_eq_true rfl) ?_
  intro a0 d0 z0 h0
  replace z0 : a0.tmps.size = 6 := z0
  have s0_0 : a0.tmps.getD 0 undef = .int .i8 4 := h0 0 (Nat.le_of_ble_eq_true rfl)
  refine wp_seq ?_
  refine go_reg [] [] [oF] mo d0 z0 (Below.refl _ _) (by kernel_rfl) trivial (
   hk (fun cx => cx.q (ex_as rfl rfl)) <|
   hn) ?_
  intro a1 w1 f1
  refine wp_seq ?_
  have s0_1 := f1.q 0 s0_0
  refine go_reg [] [] [some (.int .i8 4), some (.func (.func 42) #[] #[]), oT, oT] mo f1.d f1.z f1.b (by kernel_rfl) trivial (
   hk (fun cx => cx.q (ex_mv rfl (cx.rq 0 s0_1))) <|
   hc (fun _ _ wx cx => cx.c rfl (args1 (cx.u 0 rfl)) Try.func34 (by decide +kernel) (cond_4 wx) rfl rfl) <|
   hk (fun cx => cx.q (ex_fnn (x := .tmp 4) rfl (cx.u 0 rfl) rfl)) <|
   kmu 0 <|
   hn) ?_
  intro a2 w2 f2
  refine wp_ret ?_
  try simp only [Exit.inBlock, Exit.then]
  refine bodyPost_ret (res_t (fn := Try.f22) rfl (f2.v 3 rfl rfl rfl)) f2.d ?_
  exact ⟨rfl, f2.b⟩

set_option maxHeartbeats 4000000 in
theorem may_5  (W : World) : Calls Try.prog 22 #[.int .i8 5] W fun e w' => e = .returned (.bool true) ∧ Below W.heap.size W w' := by
  refine calls_abs Try.func22 rfl (Nat.le_of_ble_eq_true rfl) ?_
  intro a0 d0 z0 h0
  replace z0 : a0.tmps.size = 6 := z0
  have s0_0 : a0.tmps.getD 0 undef = .int .i8 5 := h0 0 (Nat.le_of_ble_eq_true rfl)
  refine wp_seq ?_
  refine go_reg [] [] [oF] mo d0 z0 (Below.refl _ _) (by kernel_rfl) trivial (
   hk (fun cx => cx.q (ex_as rfl rfl)) <|
   hn) ?_
  intro a1 w1 f1
  refine wp_seq ?_
  have s0_1 := f1.q 0 s0_0
  refine go_reg [] [] [some (.int .i8 5), some (.func (.func 43) #[] #[]), oT, oT] mo f1.d f1.z f1.b (by kernel_rfl) trivial (
   hk (fun cx => cx.q (ex_mv rfl (cx.rq 0 s0_1))) <|
   hc (fun _ _ wx cx => cx.c rfl (args1 (cx.u 0 rfl)) Try.func34 (by decide +kernel) (cond_5 wx) rfl rfl) <|
   hk (fun cx => cx.q (ex_fnn (x := .tmp 4) rfl (cx.u 0 rfl) rfl)) <|
   kmu 0 <|
   hn) ?_
  intro a2 w2 f2
  refine wp_ret ?_
  try simp only [Exit.inBlock, Exit.then]
  refine bodyPost_ret (res_t (fn := Try.f22) rfl (f2.v 3 rfl rfl rfl)) f2.d ?_
  exact ⟨rfl, f2.b⟩

set_option maxHeartbeats 4000000 in
theorem may_6  (W : World) : Calls Try.prog 22 #[.int .i8 6] W fun e w' => e = .returned (.bool true) ∧ Below W.heap.size W w' := by
  refine calls_abs Try.func22 rfl (Nat.le_of_ble_eq_true rfl) ?_
  intro a0 d0 z0 h0
  replace z0 : a0.tmps.size = 6 := z0
  have s0_0 : a0.tmps.getD 0 undef = .int .i8 6 := h0 0 (Nat.le_of_ble_eq_true rfl)
  refine wp_seq ?_
  refine go_reg [] [] [oF] mo d0 z0 (Below.refl _ _) (by kernel_rfl) trivial (
   hk (fun cx => cx.q (ex_as rfl rfl)) <|
   hn) ?_
  intro a1 w1 f1
  refine wp_seq ?_
  have s0_1 := f1.q 0 s0_0
  refine go_reg [] [] [some (.int .i8 6), some (.func (.func 44) #[] #[]), oT, oT] mo f1.d f1.z f1.b (by kernel_rfl) trivial (
   hk (fun cx => cx.q (ex_mv rfl (cx.rq 0 s0_1))) <|
   hc (fun _ _ wx cx => cx.c rfl (args1 (cx.u 0 rfl)) Try.func34 (by decide +kernel) (cond_6 wx) rfl rfl) <|
   hk (fun cx => cx.q (ex_fnn (x := .tmp 4) rfl (cx.u 0 rfl) rfl)) <|
   kmu 0 <|
   hn) ?_
  intro a2 w2 f2
  refine wp_ret ?_
  try simp only [Exit.inBlock, Exit.then]
  refine bodyPost_ret (res_t (fn := Try.f22) rfl (f2.v 3 rfl rfl rfl)) f2.d ?_
  exact ⟨rfl, f2.b⟩

set_option maxHeartbeats 4000000 in
theorem may_7  (W : World) : Calls Try.prog 22 #[.int .i8 7] W fun e w' => e = .returned (.bool true) ∧ Below W.heap.size W w' := by
  refine calls_abs Try.func22 rfl (Nat.le_of_ble_eq_true rfl) ?_
  intro a0 d0 z0 h0
  replace z0 : a0.tmps.size = 6 := z0
  have s0_0 : a0.tmps.getD 0 undef = .int .i8 7 := h0 0 (Nat.le_of_ble_eq_true rfl)
  refine wp_seq ?_
  refine go_reg [] [] [oF] mo d0 z0 (Below.refl _ _) (by kernel_rfl) trivial (
   hk (fun cx => cx.q (ex_as rfl rfl)) <|
   hn) ?_
  intro a1 w1 f1
  refine wp_seq ?_
  have s0_1 := f1.q 0 s0_0
  refine go_reg [] [] [some (.int .i8 7), some (.func (.func 45) #[] #[]), oT, oT] mo f1.d f1.z f1.b (by kernel_rfl) trivial (
   hk (fun cx => cx.q (ex_mv rfl (cx.rq 0 s0_1))) <|
   hc (fun _ _ wx cx => cx.c rfl (args1 (cx.u 0 rfl)) Try.func34 (by decide +kernel) (cond_7 wx) rfl rfl) <|
   hk (fun cx => cx.q (ex_fnn (x := .tmp 4) rfl (cx.u 0 rfl) rfl)) <|
   kmu 0 <|
   hn) ?_
  intro a2 w2 f2
  refine wp_ret ?_
  try simp only [Exit.inBlock, Exit.then]
  refine bodyPost_ret (res_t (fn := Try.f22) rfl (f2.v 3 rfl rfl rfl)) f2.d ?_
  exact ⟨rfl, f2.b⟩

set_option maxHeartbeats 4000000 in
theorem may_12  (W : World) : Calls Try.prog 22 #[.int .i8 12] W fun e w' => e = .returned (.bool true) ∧ Below W.heap.size W w' := by
  refine calls_abs Try.func22 rfl (Nat.le_of_ble_eq_true rfl) ?_
  intro a0 d0 z0 h0
  replace z0 : a0.tmps.size = 6 := z0
  have s0_0 : a0.tmps.getD 0 undef = .int .i8 12 := h0 0 (Nat.le_of_ble_eq_true rfl)
  refine wp_seq ?_
  refine go_reg [] [] [oF] mo d0 z0 (Below.refl _ _) (by kernel_rfl) trivial (
   hk (fun cx => cx.q (ex_as rfl rfl)) <|
   hn) ?_
  intro a1 w1 f1
  refine wp_seq ?_
  have s0_1 := f1.q 0 s0_0
  refine go_reg [] [] [some (.int .i8 12), some (.func (.func 46) #[] #[]), oT, oT] mo f1.d f1.z f1.b (by kernel_rfl) trivial (
   hk (fun cx => cx.q (ex_mv rfl (cx.rq 0 s0_1))) <|
   hc (fun _ _ wx cx => cx.c rfl (args1 (cx.u 0 rfl)) Try.func34 (by decide +kernel) (cond_12 wx) rfl rfl) <|
   hk (fun cx => cx.q (ex_fnn (x := .tmp 4) rfl (cx.u 0 rfl) rfl)) <|
   kmu 0 <|
   hn) ?_
  intro a2 w2 f2
  refine wp_ret ?_
  try simp only [Exit.inBlock, Exit.then]
  refine bodyPost_ret (res_t (fn := Try.f22) rfl (f2.v 3 rfl rfl rfl)) f2.d ?_
  exact ⟨rfl, f2.b⟩

set_option maxHeartbeats 4000000 in
theorem may_13  (W : World) : Calls Try.prog 22 #[.int .i8 13] W fun e w' => e = .returned (.bool true) ∧ Below W.heap.size W w' := by
  refine calls_abs Try.func22 rfl (Nat.le_of_ble_eq_true rfl) ?_
  intro a0 d0 z0 h0
  replace z0 : a0.tmps.size = 6 := z0
  have s0_0 : a0.tmps.getD 0 undef = .int .i8 13 := h0 0 (Nat.le_of_ble_eq_true rfl)
  refine wp_seq ?_
  refine go_reg [] [] [oF] mo d0 z0 (Below.refl _ _) (by kernel_rfl) trivial (
   hk (fun cx => cx.q (ex_as rfl rfl)) <|
   hn) ?_
  intro a1 w1 f1
  refine wp_seq ?_
  have s0_1 := f1.q 0 s0_0
  refine go_reg [] [] [some (.int .i8 13), some (.func (.func 47) #[] #[]), oT, oT] mo f1.d f1.z f1.b (by kernel_rfl) trivial (
   hk (fun cx => cx.q (ex_mv rfl (cx.rq 0 s0_1))) <|
   hc (fun _ _ wx cx => cx.c rfl (args1 (cx.u 0 rfl)) Try.func34 (by decide +kernel) (cond_13 wx) rfl rfl) <|
   hk (fun cx => cx.q (ex_fnn (x := .tmp 4) rfl (cx.u 0 rfl) rfl)) <|
   kmu 0 <|
   hn) ?_
  intro a2 w2 f2
  refine wp_ret ?_
  try simp only [Exit.inBlock, Exit.then]
  refine bodyPost_ret (res_t (fn := Try.f22) rfl (f2.v 3 rfl rfl rfl)) f2.d ?_
  exact ⟨rfl, f2.b⟩

set_option maxHeartbeats 4000000 in
theorem may_14  (W : World) : Calls Try.prog 22 #[.int .i8 14] W fun e w' => e = .returned (.bool true) ∧ Below W.heap.size W w' := by
  refine calls_abs Try.func22 rfl (Nat.le_of_ble_eq_true rfl) ?_
  intro a0 d0 z0 h0
  replace z0 : a0.tmps.size = 6 := z0
  have s0_0 : a0.tmps.getD 0 undef = .int .i8 14 := h0 0 (Nat.le_of_ble_eq_true rfl)
  refine wp_seq ?_
  refine go_reg [] [] [oF] mo d0 z0 (Below.refl _ _) (by kernel_rfl) trivial (
   hk (fun cx => cx.q (ex_as rfl rfl)) <|
   hn) ?_
  intro a1 w1 f1
  refine wp_seq ?_
  have s0_1 := f1.q 0 s0_0
  refine go_reg [] [] [some (.int .i8 14), some (.func (.func 48) #[] #[]), oT, oT] mo f1.d f1.z f1.b (by kernel_rfl) trivial (
   hk (fun cx => cx.q (ex_mv rfl (cx.rq 0 s0_1))) <|
   hc (fun _ _ wx cx => cx.c rfl (args1 (cx.u 0 rfl)) Try.func34 (by decide +kernel) (cond_14 wx) rfl rfl) <|
   hk (fun cx => cx.q (ex_fnn (x := .tmp 4) rfl (cx.u 0 rfl) rfl)) <|
   kmu 0 <|
   hn) ?_
  intro a2 w2 f2
  refine wp_ret ?_
  try simp only [Exit.inBlock, Exit.then]
  refine bodyPost_ret (res_t (fn := Try.f22) rfl (f2.v 3 rfl rfl rfl)) f2.d ?_
  exact ⟨rfl, f2.b⟩

set_option maxHeartbeats 4000000 in
theorem may_15  (W : World) : Calls Try.prog 22 #[.int .i8 15] W fun e w' => e = .returned (.bool true) ∧ Below W.heap.size W w' := by
  refine calls_abs Try.func22 rfl (Nat.le_of_ble_eq_true rfl) ?_
  intro a0 d0 z0 h0
  replace z0 : a0.tmps.size = 6 := z0
  have s0_0 : a0.tmps.getD 0 undef = .int .i8 15 := h0 0 (Nat.le_of_ble_eq_true rfl)
  refine wp_seq ?_
  refine go_reg [] [] [oF] mo d0 z0 (Below.refl _ _) (by kernel_rfl) trivial (
   hk (fun cx => cx.q (ex_as rfl rfl)) <|
   hn) ?_
  intro a1 w1 f1
  refine wp_seq ?_
  have s0_1 := f1.q 0 s0_0
  refine go_reg [] [] [some (.int .i8 15), some (.func (.func 49) #[] #[]), oT, oT] mo f1.d f1.z f1.b (by kernel_rfl) trivial (
   hk (fun cx => cx.q (ex_mv rfl (cx.rq 0 s0_1))) <|
   hc (fun _ _ wx cx => cx.c rfl (args1 (cx.u 0 rfl)) Try.func34 (by decide +kernel) (cond_15 wx) rfl rfl) <|
   hk (fun cx => cx.q (ex_fnn (x := .tmp 4) rfl (cx.u 0 rfl) rfl)) <|
   kmu 0 <|
   hn) ?_
  intro a2 w2 f2
  refine wp_ret ?_
  try simp only [Exit.inBlock, Exit.then]
  refine bodyPost_ret (res_t (fn := Try.f22) rfl (f2.v 3 rfl rfl rfl)) f2.d ?_
  exact ⟨rfl, f2.b⟩

set_option maxHeartbeats 4000000 in
theorem may_no (cc : Int) (W : World) (h : mayC cc = false) (h1 : cc ≤ 127) : Calls Try.prog 22 #[.int .i8 cc] W fun e w' => e = .returned (.bool false) ∧ Below W.heap.size W w' := by
  refine calls_abs Try.func22 rfl (Nat.le_of_ble_eq_true rfl) ?_
  intro a0 d0 z0 h0
  replace z0 : a0.tmps.size = 6 := z0
  have s0_0 : a0.tmps.getD 0 undef = .int .i8 cc := h0 0 (Nat.le_of_ble_eq_true rfl)
  refine wp_seq ?_
  refine go_reg [] [] [oF] mo d0 z0 (Below.refl _ _) (by kernel_rfl) trivial (
   hk (fun cx => cx.q (ex_as rfl rfl)) <|
   hn) ?_
  intro a1 w1 f1
  refine wp_seq ?_
  have s0_1 := f1.q 0 s0_0
  refine go_reg [] [] [some (.int .i8 cc), some (.nilFunc), oF, oF] mo f1.d f1.z f1.b (by kernel_rfl) trivial (
   hk (fun cx => cx.q (ex_mv rfl (cx.rq 0 s0_1))) <|
   hc (fun _ _ wx cx => cx.c rfl (args1 (cx.u 0 rfl)) Try.func34 (by decide +kernel) (cond_none cc h h1 wx) rfl rfl) <|
   hk (fun cx => cx.q (ex_fzz (x := .tmp 4) rfl (cx.u 0 rfl) rfl)) <|
   kmu 0 <|
   hn) ?_
  intro a2 w2 f2
  refine wp_ret ?_
  try simp only [Exit.inBlock, Exit.then]
  refine bodyPost_ret (res_t (fn := Try.f22) rfl (f2.v 3 rfl rfl rfl)) f2.d ?_
  exact ⟨rfl, f2.b⟩

theorem may_n (cc : Int) (W : World) (h1 : cc ≤ 127) : Calls Try.prog 22 #[.int .i8 cc] W fun e w' => e = .returned (.bool (mayC cc)) ∧ Below W.heap.size W w' := by
  cases h : mayC cc
  · exact may_no cc W h h1
  · rcases may_cases h with rfl | rfl | rfl | rfl | rfl | rfl | rfl | rfl | rfl | rfl
    · exact may_2 W
    · exact may_3 W
    · exact may_4 W
    · exact may_5 W
    · exact may_6 W
    · exact may_7 W
    · exact may_12 W
    · exact may_13 W
    · exact may_14 W
    · exact may_15 W

theorem qmay_2 (W : World) : Calls Try.prog 23 #[.int .i8 2] W fun e w' => e = .returned (.bool true) ∧ W = w' := by
  go_enter Try.func23, Try.ntmps23
  go_wp2
  go_ret
  exact ⟨rfl, rfl⟩

theorem qmay_3 (W : World) : Calls Try.prog 23 #[.int .i8 3] W fun e w' => e = .returned (.bool true) ∧ W = w' := by
  go_enter Try.func23, Try.ntmps23
  go_wp2
  go_ret
  exact ⟨rfl, rfl⟩

theorem qmay_4 (W : World) : Calls Try.prog 23 #[.int .i8 4] W fun e w' => e = .returned (.bool true) ∧ W = w' := by
  go_enter Try.func23, Try.ntmps23
  go_wp2
  go_ret
  exact ⟨rfl, rfl⟩

theorem qmay_5 (W : World) : Calls Try.prog 23 #[.int .i8 5] W fun e w' => e = .returned (.bool true) ∧ W = w' := by
  go_enter Try.func23, Try.ntmps23
  go_wp2
  go_ret
  exact ⟨rfl, rfl⟩

theorem qmay_6 (W : World) : Calls Try.prog 23 #[.int .i8 6] W fun e w' => e = .returned (.bool true) ∧ W = w' := by
  go_enter Try.func23, Try.ntmps23
  go_wp2
  go_ret
  exact ⟨rfl, rfl⟩

theorem qmay_7 (W : World) : Calls Try.prog 23 #[.int .i8 7] W fun e w' => e = .returned (.bool true) ∧ W = w' := by
  go_enter Try.func23, Try.ntmps23
  go_wp2
  go_ret
  exact ⟨rfl, rfl⟩

theorem qmay_12 (W : World) : Calls Try.prog 23 #[.int .i8 12] W fun e w' => e = .returned (.bool true) ∧ W = w' := by
  go_enter Try.func23, Try.ntmps23
  go_wp2
  go_ret
  exact ⟨rfl, rfl⟩

theorem qmay_13 (W : World) : Calls Try.prog 23 #[.int .i8 13] W fun e w' => e = .returned (.bool true) ∧ W = w' := by
  go_enter Try.func23, Try.ntmps23
  go_wp2
  go_ret
  exact ⟨rfl, rfl⟩

theorem qmay_14 (W : World) : Calls Try.prog 23 #[.int .i8 14] W fun e w' => e = .returned (.bool true) ∧ W = w' := by
  go_enter Try.func23, Try.ntmps23
  go_wp2
  go_ret
  exact ⟨rfl, rfl⟩

theorem qmay_15 (W : World) : Calls Try.prog 23 #[.int .i8 15] W fun e w' => e = .returned (.bool true) ∧ W = w' := by
  go_enter Try.func23, Try.ntmps23
  go_wp2
  go_ret
  exact ⟨rfl, rfl⟩

theorem qmay_no (cc : Int) (h : mayC cc = false) (W : World) : Calls Try.prog 23 #[.int .i8 cc] W fun e w' => e = .returned (.bool false) ∧ W = w' := by
  obtain ⟨n2, n3, n4, n5, n6, n7, n12, n13, n14, n15⟩ := may_not h
  replace n2 := neq_of n2
  replace n3 := neq_of n3
  replace n4 := neq_of n4
  replace n5 := neq_of n5
  replace n6 := neq_of n6
  replace n7 := neq_of n7
  replace n12 := neq_of n12
  replace n13 := neq_of n13
  replace n14 := neq_of n14
  replace n15 := neq_of n15
  clear h
  go_enter Try.func23, Try.ntmps23
  go_wp2
  go_ret
  exact ⟨rfl, rfl⟩
theorem qmay_n (cc : Int) (W : World) : Calls Try.prog 23 #[.int .i8 cc] W fun e w' => e = .returned (.bool (mayC cc)) ∧ W = w' := by
  cases h : mayC cc
  · exact qmay_no cc h W
  · rcases may_cases h with rfl | rfl | rfl | rfl | rfl | rfl | rfl | rfl | rfl | rfl
    · exact qmay_2 W
    · exact qmay_3 W
    · exact qmay_4 W
    · exact qmay_5 W
    · exact qmay_6 W
    · exact qmay_7 W
    · exact qmay_12 W
    · exact qmay_13 W
    · exact qmay_14 W
    · exact qmay_15 W

theorem not_2 (W : World) : Calls Try.prog 20 #[.int .i8 2] W fun e w' => e = .returned (.tuple #[.int .i8 3, .bool true]) ∧ Below W.heap.size W w' := by
  have hx : bits .xor .i8 2 1 = 3 := by decide +kernel
  go_enter Try.func20, Try.ntmps20
  go_wp2_with fail
  refine (may_2 _).mono ?_
  rintro e w1 ⟨rfl, b1⟩
  go_wp2
  go_ret2
  exact ⟨rfl, b1⟩

theorem not_3 (W : World) : Calls Try.prog 20 #[.int .i8 3] W fun e w' => e = .returned (.tuple #[.int .i8 2, .bool true]) ∧ Below W.heap.size W w' := by
  have hx : bits .xor .i8 3 1 = 2 := by decide +kernel
  go_enter Try.func20, Try.ntmps20
  go_wp2_with fail
  refine (may_3 _).mono ?_
  rintro e w1 ⟨rfl, b1⟩
  go_wp2
  go_ret2
  exact ⟨rfl, b1⟩

theorem not_4 (W : World) : Calls Try.prog 20 #[.int .i8 4] W fun e w' => e = .returned (.tuple #[.int .i8 5, .bool true]) ∧ Below W.heap.size W w' := by
  have hx : bits .xor .i8 4 1 = 5 := by decide +kernel
  go_enter Try.func20, Try.ntmps20
  go_wp2_with fail
  refine (may_4 _).mono ?_
  rintro e w1 ⟨rfl, b1⟩
  go_wp2
  go_ret2
  exact ⟨rfl, b1⟩

theorem not_5 (W : World) : Calls Try.prog 20 #[.int .i8 5] W fun e w' => e = .returned (.tuple #[.int .i8 4, .bool true]) ∧ Below W.heap.size W w' := by
  have hx : bits .xor .i8 5 1 = 4 := by decide +kernel
  go_enter Try.func20, Try.ntmps20
  go_wp2_with fail
  refine (may_5 _).mono ?_
  rintro e w1 ⟨rfl, b1⟩
  go_wp2
  go_ret2
  exact ⟨rfl, b1⟩

theorem not_6 (W : World) : Calls Try.prog 20 #[.int .i8 6] W fun e w' => e = .returned (.tuple #[.int .i8 7, .bool true]) ∧ Below W.heap.size W w' := by
  have hx : bits .xor .i8 6 1 = 7 := by decide +kernel
  go_enter Try.func20, Try.ntmps20
  go_wp2_with fail
  refine (may_6 _).mono ?_
  rintro e w1 ⟨rfl, b1⟩
  go_wp2
  go_ret2
  exact ⟨rfl, b1⟩

theorem not_7 (W : World) : Calls Try.prog 20 #[.int .i8 7] W fun e w' => e = .returned (.tuple #[.int .i8 6, .bool true]) ∧ Below W.heap.size W w' := by
  have hx : bits .xor .i8 7 1 = 6 := by decide +kernel
  go_enter Try.func20, Try.ntmps20
  go_wp2_with fail
  refine (may_7 _).mono ?_
  rintro e w1 ⟨rfl, b1⟩
  go_wp2
  go_ret2
  exact ⟨rfl, b1⟩

theorem not_12 (W : World) : Calls Try.prog 20 #[.int .i8 12] W fun e w' => e = .returned (.tuple #[.int .i8 13, .bool true]) ∧ Below W.heap.size W w' := by
  have hx : bits .xor .i8 12 1 = 13 := by decide +kernel
  go_enter Try.func20, Try.ntmps20
  go_wp2_with fail
  refine (may_12 _).mono ?_
  rintro e w1 ⟨rfl, b1⟩
  go_wp2
  go_ret2
  exact ⟨rfl, b1⟩

theorem not_13 (W : World) : Calls Try.prog 20 #[.int .i8 13] W fun e w' => e = .returned (.tuple #[.int .i8 12, .bool true]) ∧ Below W.heap.size W w' := by
  have hx : bits .xor .i8 13 1 = 12 := by decide +kernel
  go_enter Try.func20, Try.ntmps20
  go_wp2_with fail
  refine (may_13 _).mono ?_
  rintro e w1 ⟨rfl, b1⟩
  go_wp2
  go_ret2
  exact ⟨rfl, b1⟩

theorem not_14 (W : World) : Calls Try.prog 20 #[.int .i8 14] W fun e w' => e = .returned (.tuple #[.int .i8 15, .bool true]) ∧ Below W.heap.size W w' := by
  have hx : bits .xor .i8 14 1 = 15 := by decide +kernel
  go_enter Try.func20, Try.ntmps20
  go_wp2_with fail
  refine (may_14 _).mono ?_
  rintro e w1 ⟨rfl, b1⟩
  go_wp2
  go_ret2
  exact ⟨rfl, b1⟩

theorem not_15 (W : World) : Calls Try.prog 20 #[.int .i8 15] W fun e w' => e = .returned (.tuple #[.int .i8 14, .bool true]) ∧ Below W.heap.size W w' := by
  have hx : bits .xor .i8 15 1 = 14 := by decide +kernel
  go_enter Try.func20, Try.ntmps20
  go_wp2_with fail
  refine (may_15 _).mono ?_
  rintro e w1 ⟨rfl, b1⟩
  go_wp2
  go_ret2
  exact ⟨rfl, b1⟩

theorem not_no (cc : Int) (h : mayC cc = false) (h1 : cc ≤ 127) (W : World) : Calls Try.prog 20 #[.int .i8 cc] W fun e w' => e = .returned (.tuple #[.int .i8 0, .bool false]) ∧ Below W.heap.size W w' := by
  have H := Lib.hid h
  have H1 := Lib.hid h1
  clear h h1
  go_enter Try.func20, Try.ntmps20
  go_wp2_with fail
  refine (may_no cc _ H.out H1.out).mono ?_
  rintro e w1 ⟨rfl, b1⟩
  go_wp2
  go_ret2
  exact ⟨rfl, b1⟩
theorem not_n (cc : Int) (W : World) (h1 : cc ≤ 127) : Calls Try.prog 20 #[.int .i8 cc] W fun e w' => e = .returned (.tuple #[.int .i8 (turnC cc), .bool (mayC cc)]) ∧ Below W.heap.size W w' := by
  cases h : mayC cc
  · rw [show turnC cc = 0 from if_neg (by simp [h])]
    exact not_no cc h h1 W
  · rcases may_cases h with rfl | rfl | rfl | rfl | rfl | rfl | rfl | rfl | rfl | rfl
    · exact not_2 W
    · exact not_3 W
    · exact not_4 W
    · exact not_5 W
    · exact not_6 W
    · exact not_7 W
    · exact not_12 W
    · exact not_13 W
    · exact not_14 W
    · exact not_15 W

theorem qnot_2 (W : World) : Calls Try.prog 21 #[.int .i8 2] W fun e w' => e = .returned (.tuple #[.int .i8 3, .bool true]) ∧ Below W.heap.size W w' := by
  have hx : bits .xor .i8 2 1 = 3 := by decide +kernel
  go_enter Try.func21, Try.ntmps21
  go_wp2_with fail
  refine (qmay_2 _).mono ?_
  rintro e w1 ⟨rfl, b1⟩
  go_wp2
  go_ret2
  exact ⟨rfl, b1 ▸ Below.refl _ _⟩

theorem qnot_3 (W : World) : Calls Try.prog 21 #[.int .i8 3] W fun e w' => e = .returned (.tuple #[.int .i8 2, .bool true]) ∧ Below W.heap.size W w' := by
  have hx : bits .xor .i8 3 1 = 2 := by decide +kernel
  go_enter Try.func21, Try.ntmps21
  go_wp2_with fail
  refine (qmay_3 _).mono ?_
  rintro e w1 ⟨rfl, b1⟩
  go_wp2
  go_ret2
  exact ⟨rfl, b1 ▸ Below.refl _ _⟩

theorem qnot_4 (W : World) : Calls Try.prog 21 #[.int .i8 4] W fun e w' => e = .returned (.tuple #[.int .i8 5, .bool true]) ∧ Below W.heap.size W w' := by
  have hx : bits .xor .i8 4 1 = 5 := by decide +kernel
  go_enter Try.func21, Try.ntmps21
  go_wp2_with fail
  refine (qmay_4 _).mono ?_
  rintro e w1 ⟨rfl, b1⟩
  go_wp2
  go_ret2
  exact ⟨rfl, b1 ▸ Below.refl _ _⟩

theorem qnot_5 (W : World) : Calls Try.prog 21 #[.int .i8 5] W fun e w' => e = .returned (.tuple #[.int .i8 4, .bool true]) ∧ Below W.heap.size W w' := by
  have hx : bits .xor .i8 5 1 = 4 := by decide +kernel
  go_enter Try.func21, Try.ntmps21
  go_wp2_with fail
  refine (qmay_5 _).mono ?_
  rintro e w1 ⟨rfl, b1⟩
  go_wp2
  go_ret2
  exact ⟨rfl, b1 ▸ Below.refl _ _⟩

theorem qnot_6 (W : World) : Calls Try.prog 21 #[.int .i8 6] W fun e w' => e = .returned (.tuple #[.int .i8 7, .bool true]) ∧ Below W.heap.size W w' := by
  have hx : bits .xor .i8 6 1 = 7 := by decide +kernel
  go_enter Try.func21, Try.ntmps21
  go_wp2_with fail
  refine (qmay_6 _).mono ?_
  rintro e w1 ⟨rfl, b1⟩
  go_wp2
  go_ret2
  exact ⟨rfl, b1 ▸ Below.refl _ _⟩

theorem qnot_7 (W : World) : Calls Try.prog 21 #[.int .i8 7] W fun e w' => e = .returned (.tuple #[.int .i8 6, .bool true]) ∧ Below W.heap.size W w' := by
  have hx : bits .xor .i8 7 1 = 6 := by decide +kernel
  go_enter Try.func21, Try.ntmps21
  go_wp2_with fail
  refine (qmay_7 _).mono ?_
  rintro e w1 ⟨rfl, b1⟩
  go_wp2
  go_ret2
  exact ⟨rfl, b1 ▸ Below.refl _ _⟩

theorem qnot_12 (W : World) : Calls Try.prog 21 #[.int .i8 12] W fun e w' => e = .returned (.tuple #[.int .i8 13, .bool true]) ∧ Below W.heap.size W w' := by
  have hx : bits .xor .i8 12 1 = 13 := by decide +kernel
  go_enter Try.func21, Try.ntmps21
  go_wp2_with fail
  refine (qmay_12 _).mono ?_
  rintro e w1 ⟨rfl, b1⟩
  go_wp2
  go_ret2
  exact ⟨rfl, b1 ▸ Below.refl _ _⟩

theorem qnot_13 (W : World) : Calls Try.prog 21 #[.int .i8 13] W fun e w' => e = .returned (.tuple #[.int .i8 12, .bool true]) ∧ Below W.heap.size W w' := by
  have hx : bits .xor .i8 13 1 = 12 := by decide +kernel
  go_enter Try.func21, Try.ntmps21
  go_wp2_with fail
  refine (qmay_13 _).mono ?_
  rintro e w1 ⟨rfl, b1⟩
  go_wp2
  go_ret2
  exact ⟨rfl, b1 ▸ Below.refl _ _⟩

theorem qnot_14 (W : World) : Calls Try.prog 21 #[.int .i8 14] W fun e w' => e = .returned (.tuple #[.int .i8 15, .bool true]) ∧ Below W.heap.size W w' := by
  have hx : bits .xor .i8 14 1 = 15 := by decide +kernel
  go_enter Try.func21, Try.ntmps21
  go_wp2_with fail
  refine (qmay_14 _).mono ?_
  rintro e w1 ⟨rfl, b1⟩
  go_wp2
  go_ret2
  exact ⟨rfl, b1 ▸ Below.refl _ _⟩

theorem qnot_15 (W : World) : Calls Try.prog 21 #[.int .i8 15] W fun e w' => e = .returned (.tuple #[.int .i8 14, .bool true]) ∧ Below W.heap.size W w' := by
  have hx : bits .xor .i8 15 1 = 14 := by decide +kernel
  go_enter Try.func21, Try.ntmps21
  go_wp2_with fail
  refine (qmay_15 _).mono ?_
  rintro e w1 ⟨rfl, b1⟩
  go_wp2
  go_ret2
  exact ⟨rfl, b1 ▸ Below.refl _ _⟩

theorem qnot_no (cc : Int) (h : mayC cc = false) (h1 : cc ≤ 127) (W : World) : Calls Try.prog 21 #[.int .i8 cc] W fun e w' => e = .returned (.tuple #[.int .i8 0, .bool false]) ∧ Below W.heap.size W w' := by
  have H := Lib.hid h
  have H1 := Lib.hid h1
  clear h h1
  go_enter Try.func21, Try.ntmps21
  go_wp2_with fail
  refine (qmay_no cc H.out _).mono ?_
  rintro e w1 ⟨rfl, b1⟩
  go_wp2
  go_ret2
  exact ⟨rfl, b1 ▸ Below.refl _ _⟩
theorem qnot_n (cc : Int) (W : World) (h1 : cc ≤ 127) : Calls Try.prog 21 #[.int .i8 cc] W fun e w' => e = .returned (.tuple #[.int .i8 (turnC cc), .bool (mayC cc)]) ∧ Below W.heap.size W w' := by
  cases h : mayC cc
  · rw [show turnC cc = 0 from if_neg (by simp [h])]
    exact qnot_no cc h h1 W
  · rcases may_cases h with rfl | rfl | rfl | rfl | rfl | rfl | rfl | rfl | rfl | rfl
    · exact qnot_2 W
    · exact qnot_3 W
    · exact qnot_4 W
    · exact qnot_5 W
    · exact qnot_6 W
    · exact qnot_7 W
    · exact qnot_12 W
    · exact qnot_13 W
    · exact qnot_14 W
    · exact qnot_15 W
end Go.Proofs.Ytllnengcmfgmhaa.Flg
