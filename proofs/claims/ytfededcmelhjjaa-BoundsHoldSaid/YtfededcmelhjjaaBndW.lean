/-
  What the laws of layer 7 share. (Written by gen_bndd.py.)
-/
import Derived.Test.YtfededcmelhjjaaBndG
import Derived.Test.YtfededcmelhjjaaBndH
namespace Go.Proofs.Ytfededcmelhjjaa.Bnd
open Go.RowKit
set_option linter.unusedVariables false
set_option linter.unusedSimpArgs false
set_option linter.unnecessarySimpa false
set_option maxRecDepth 100000

theorem eq_range (a b : Rg) (w : World) : (Op.equalIn 10000 60 a.val b.val).run Try.prog w = .ok (eqR a b) w := by
  unfold Rg.val
  simp [go_sem]
  unfold eqR
  (repeat' split) <;> simp [*]
def smallR (a b : Int) : Rg := ⟨⟨a, b⟩, ⟨sg a, sg b⟩⟩

set_option maxHeartbeats 4000000 in
theorem small_n (a b : Int) (W : World) : Calls Try.prog 97 #[.int .u64 a, .int .u64 b] W fun e w' => e = .returned (.agg #[.int .u64 (smallR a b).u.lo, .int .u64 (smallR a b).u.hi, .int .i64 (smallR a b).s.lo, .int .i64 (smallR a b).s.hi]) ∧ Below W.heap.size W w' := by
  refine calls_abs Try.func97 rfl (Nat.le_of_ble_eq_true rfl) ?_
  intro a0 d0 z0 h0
  have z0 : a0.tmps.size = 12 := z0
  have s0_0 : a0.tmps.getD 0 undef = .int .u64 a := h0 0 (Nat.le_of_ble_eq_true rfl)
  have s1_0 : a0.tmps.getD 1 undef = .int .u64 b := h0 1 (Nat.le_of_ble_eq_true rfl)
  clear h0
  have B0 : Below W.heap.size W W := Below.refl _ _
  refine wp_seq ?_
  refine wp_regx (SX W W.heap.size [] [⟨0, 4, 60, (cR 0 0 0 0), none, #[]⟩]) (TabX [fun _ => True]) (by kernel_rfl) (back_of (by kernel_rfl)) (dst_of (by kernel_rfl)) (in_ofz (by kernel_rfl) z0) (fun fl w1 hfl hw => SX.start' hw B0 hfl rfl trivial) ?h1 ?_
  case h1 =>
    intro ix ox ax wx fl ho hS hfi clo hsz hrest hdone hund
    have hs : ax.tmps.size = 12 := hsz.trans z0
    have hi : ix < 1 := (Array.getElem?_eq_some_iff.1 ho).1
    clear hrest hsz hund
    obtain rfl : ix = 0 := by omega
    all_goals obtain rfl := Option.some.inj (show some _ = some ox from ho)
    ·
     refine wpOp_val (v := .pointer (some ⟨wx.heap.size, 0, none⟩)) (w' := wx.alloc (.cells #[.int .u64 0, .int .u64 0, .int .i64 0, .int .i64 0] 60)) rfl rfl ?_ ⟨_, rfl, trivial, hS.alloc 0 4 60 #[.int .u64 0, .int .u64 0, .int .i64 0, .int .i64 0] [] [] (none) #[] rfl rfl rfl (by rw [hs]; omega) trivial⟩
     · simp [execOp, Act.eval, go_sem]
  intro a1 w1 fl d1 z1 rest1 R1 hfl hS
  obtain ⟨B1, n1, hBs, hAs, hPs⟩ := hS.finish hfl rfl
  replace d1 := d1.trans d0
  replace z1 := z1.trans z0
  obtain ⟨⟨g1, u_g1, q_g1, b_g1_1⟩, -⟩ := hAs
  replace u_g1 : a1.tmps.getD 4 undef = .pointer (some ⟨g1, 0, none⟩) := u_g1
  have m_g1 : W.heap.size ≤ g1 := q_g1
  replace q_g1 : W.heap.size ≤ g1 := Nat.le_trans B0.size q_g1
  have s0_1 := (rest1 0 (not_of (by kernel_rfl))).trans s0_0
  have s1_1 := (rest1 1 (not_of (by kernel_rfl))).trans s1_0
  clear R1 rest1 hS hfl hPs hBs
  clear s0_0 s1_0 d0 z0
  refine wp_seq ?_
  refine wp_regx (SX W w1.heap.size [⟨g1, 60, (cR 0 0 0 0), some 7, (cR a b (sg a) (sg b))⟩] []) (TabX [fun vx => vx = .int .u64 a, fun vx => vx = .int .u64 b, fun vx => vx = .int .u64 a, fun vx => vx = .int .i64 (sg a), fun vx => vx = .int .u64 b, fun vx => vx = .int .i64 (sg b), fun vx => vx = .agg #[.int .u64 a, .int .u64 b, .int .i64 (sg a), .int .i64 (sg b)], fun _ => True]) (by kernel_rfl) (back_of (by kernel_rfl)) (dst_of (by kernel_rfl)) (in_ofz (by kernel_rfl) z1) (fun fl w1 hfl hw => SX.start' hw B1 hfl rfl ⟨b_g1_1, trivial⟩) ?h2 ?_
  case h2 =>
    intro ix ox ax wx fl ho hS hfi clo hsz hrest hdone hund
    have t0 := (hrest 0 (not_of (by kernel_rfl))).trans s0_1
    have t1 := (hrest 1 (not_of (by kernel_rfl))).trans s1_1
    have t4 := (hrest 4 (not_of (by kernel_rfl))).trans u_g1
    have hs : ax.tmps.size = 12 := hsz.trans z1
    have hi : ix < 8 := (Array.getElem?_eq_some_iff.1 ho).1
    clear hrest hsz hund
    obtain rfl | rfl | rfl | rfl | rfl | rfl | rfl | rfl : ix = 0 ∨ ix = 1 ∨ ix = 2 ∨ ix = 3 ∨ ix = 4 ∨ ix = 5 ∨ ix = 6 ∨ ix = 7 := by omega
    all_goals obtain rfl := Option.some.inj (show some _ = some ox from ho)
    ·
     exact wpOp_val (v := .int .u64 a) (w' := wx) rfl rfl (by simp [execOp, Act.eval, t0]) ⟨_, rfl, tab_put rfl hs rfl rfl, hS.same 0 rfl⟩
    ·
     exact wpOp_val (v := .int .u64 b) (w' := wx) rfl rfl (by simp [execOp, Act.eval, t1]) ⟨_, rfl, tab_put rfl hs rfl rfl, hS.same 1 rfl⟩
    ·
     exact wpOp_val (v := .int .u64 a) (w' := wx) rfl rfl (by simp [execOp, Act.eval, t0]) ⟨_, rfl, tab_put rfl hs rfl rfl, hS.same 2 rfl⟩
    ·
     have s7 : ax.tmps.getD 7 undef = .int .u64 a := (hdone 0 _ rfl rfl).2 _ rfl
     exact wpOp_val (v := .int .i64 (wrap64 a)) (w' := wx) rfl rfl (by (simp [execOp, Act.eval, s7, go_sem]; try (simp only [IntKind.wrap_i64, wrap64]))) ⟨_, rfl, tab_put rfl hs rfl (congrArg (Value.int .i64) (wrap_sg a)), hS.same 3 rfl⟩
    ·
     exact wpOp_val (v := .int .u64 b) (w' := wx) rfl rfl (by simp [execOp, Act.eval, t1]) ⟨_, rfl, tab_put rfl hs rfl rfl, hS.same 4 rfl⟩
    ·
     have s9 : ax.tmps.getD 9 undef = .int .u64 b := (hdone 0 _ rfl rfl).2 _ rfl
     exact wpOp_val (v := .int .i64 (wrap64 b)) (w' := wx) rfl rfl (by (simp [execOp, Act.eval, s9, go_sem]; try (simp only [IntKind.wrap_i64, wrap64]))) ⟨_, rfl, tab_put rfl hs rfl (congrArg (Value.int .i64) (wrap_sg b)), hS.same 5 rfl⟩
    ·
     have s5 : ax.tmps.getD 5 undef = .int .u64 a := (hdone 0 _ rfl rfl).2 _ rfl
     have s6 : ax.tmps.getD 6 undef = .int .u64 b := (hdone 1 _ rfl rfl).2 _ rfl
     have s8 : ax.tmps.getD 8 undef = .int .i64 (sg a) := (hdone 2 _ rfl rfl).2 _ rfl
     have s10 : ax.tmps.getD 10 undef = .int .i64 (sg b) := (hdone 3 _ rfl rfl).2 _ rfl
     exact wpOp_val (v := .agg #[.int .u64 a, .int .u64 b, .int .i64 (sg a), .int .i64 (sg b)]) (w' := wx) rfl rfl (exec_build rfl (parts4 (show ax.eval (.tmp 5) = .int .u64 a from s5) (show ax.eval (.tmp 6) = .int .u64 b from s6) (show ax.eval (.tmp 8) = .int .i64 (sg a) from s8) (show ax.eval (.tmp 10) = .int .i64 (sg b) from s10)) (by kernel_rfl)) ⟨_, rfl, tab_put rfl hs rfl rfl, hS.same 6 rfl⟩
    ·
     have s11 : ax.tmps.getD 11 undef = .agg #[.int .u64 a, .int .u64 b, .int .i64 (sg a), .int .i64 (sg b)] := (hdone 0 _ rfl rfl).2 _ rfl
     have hr := hS.rowFi 0 rfl hfi
     exact wpOp_skp (w' := wx.setRow g1 #[.int .u64 a, .int .u64 b, .int .i64 (sg a), .int .i64 (sg b)]) rfl rfl (exec_storeR 60 _ _ rfl g1 #[.int .u64 a, .int .u64 b, .int .i64 (sg a), .int .i64 (sg b)] (show ax.eval (.tmp 4) = .pointer (some ⟨g1, 0, none⟩) from t4) (show ax.eval (.tmp 11) = .agg #[.int .u64 a, .int .u64 b, .int .i64 (sg a), .int .i64 (sg b)] from s11) hr (by kernel_rfl) rfl (by simp [Value.oneCell'])) ⟨undef, rfl, trivial, hS.storeBi 7 0 rfl q_g1 rfl trivial (stored_setRow wx g1 _ _ _ hr)⟩
  intro a2 w2 fl d2 z2 rest2 R2 hfl hS
  obtain ⟨B2, n2, hBs, hAs, hPs⟩ := hS.finish hfl rfl
  replace d2 := d2.trans d1
  replace z2 := z2.trans z1
  obtain ⟨⟨l_g1_2, b_g1_2⟩, -⟩ := hBs
  replace l_g1_2 : g1 < w1.heap.size := l_g1_2
  have s4_2 := (rest2 4 (not_of (by kernel_rfl))).trans u_g1
  clear R2 rest2 hS hfl hPs hAs
  clear u_g1 s0_1 s1_1 b_g1_1 d1 z1
  refine wp_ret ?_
  try simp only [Exit.inBlock, Exit.then]
  refine bodyPost_ret (res_c (fn := Try.f97) rfl s4_2 (load_row 60 b_g1_2 Try.underlying60 rfl (by kernel_rfl))) d2 ?_
  exact ⟨rfl, B2⟩

set_option maxHeartbeats 4000000 in
theorem wakes_n  (W : World) : Calls Try.prog 46 #[] W fun e w' => e = .returned (.bool true) ∧ Below W.heap.size W w' := by
  have K1 := Lib.hid (show eqR (Rg.doR 0 (smallR 1 5) (smallR 2 3)) (smallR 3 8) = true by decide +kernel)
  have K2 := Lib.hid (show eqR (Rg.giv 4 (smallR 0 9) (oneR 4)) (smallR 0 3) = true by decide +kernel)
  have K3 := Lib.hid (show Rg.givB 4 (smallR 0 9) (oneR 4) = true by decide +kernel)
  refine calls_abs Try.func46 rfl (Nat.le_of_ble_eq_true rfl) ?_
  intro a0 d0 z0 h0
  have z0 : a0.tmps.size = 22 := z0
  clear h0
  have B0 : Below W.heap.size W W := Below.refl _ _
  refine wp_seq ?_
  refine wp_regx (SX W W.heap.size [] []) (TabX [fun vx => vx = .bool false]) (by kernel_rfl) (back_of (by kernel_rfl)) (dst_of (by kernel_rfl)) (in_ofz (by kernel_rfl) z0) (fun fl w1 hfl hw => SX.start' hw B0 hfl rfl trivial) ?h1 ?_
  case h1 =>
    intro ix ox ax wx fl ho hS hfi clo hsz hrest hdone hund
    have hs : ax.tmps.size = 22 := hsz.trans z0
    have hi : ix < 1 := (Array.getElem?_eq_some_iff.1 ho).1
    clear hrest hsz hund
    obtain rfl : ix = 0 := by omega
    all_goals obtain rfl := Option.some.inj (show some _ = some ox from ho)
    ·
     exact wpOp_val (v := .bool false) (w' := wx) rfl rfl (by simp [execOp, Act.eval]) ⟨_, rfl, tab_put rfl hs rfl rfl, hS.same 0 rfl⟩
  intro a1 w1 fl d1 z1 rest1 R1 hfl hS
  obtain ⟨B1, n1, hBs, hAs, hPs⟩ := hS.finish hfl rfl
  replace d1 := d1.trans d0
  replace z1 := z1.trans z0
  have s0_1 : a1.tmps.getD 0 undef = .bool false := R1 0 _ rfl
  clear R1 rest1 hS hfl hPs hBs hAs
  skip
  refine wp_seq ?_
  refine wp_regx (SX W w1.heap.size [] [⟨6, 1, 60, (cR 0 0 0 0), some 7, (cR ((Rg.giv 4 (smallR 0 9) (oneR 4)).u.lo) ((Rg.giv 4 (smallR 0 9) (oneR 4)).u.hi) ((Rg.giv 4 (smallR 0 9) (oneR 4)).s.lo) ((Rg.giv 4 (smallR 0 9) (oneR 4)).s.hi))⟩]) (TabX [fun vx => vx = .agg #[.int .u64 ((smallR 0 9).u.lo), .int .u64 ((smallR 0 9).u.hi), .int .i64 ((smallR 0 9).s.lo), .int .i64 ((smallR 0 9).s.hi)], fun vx => vx = .agg #[.int .u64 ((oneR 4).u.lo), .int .u64 ((oneR 4).u.hi), .int .i64 ((oneR 4).s.lo), .int .i64 ((oneR 4).s.hi)], fun vx => vx = .tuple #[.agg #[.int .u64 ((Rg.giv 4 (smallR 0 9) (oneR 4)).u.lo), .int .u64 ((Rg.giv 4 (smallR 0 9) (oneR 4)).u.hi), .int .i64 ((Rg.giv 4 (smallR 0 9) (oneR 4)).s.lo), .int .i64 ((Rg.giv 4 (smallR 0 9) (oneR 4)).s.hi)], .bool (Rg.givB 4 (smallR 0 9) (oneR 4))], fun vx => vx = .tuple #[.agg #[.int .u64 ((Rg.giv 4 (smallR 0 9) (oneR 4)).u.lo), .int .u64 ((Rg.giv 4 (smallR 0 9) (oneR 4)).u.hi), .int .i64 ((Rg.giv 4 (smallR 0 9) (oneR 4)).s.lo), .int .i64 ((Rg.giv 4 (smallR 0 9) (oneR 4)).s.hi)], .bool (Rg.givB 4 (smallR 0 9) (oneR 4))], fun vx => vx = .agg #[.int .u64 ((Rg.giv 4 (smallR 0 9) (oneR 4)).u.lo), .int .u64 ((Rg.giv 4 (smallR 0 9) (oneR 4)).u.hi), .int .i64 ((Rg.giv 4 (smallR 0 9) (oneR 4)).s.lo), .int .i64 ((Rg.giv 4 (smallR 0 9) (oneR 4)).s.hi)], fun vx => vx = .bool true, fun _ => True, fun _ => True, fun vx => vx = .bool true]) (by kernel_rfl) (back_of (by kernel_rfl)) (dst_of (by kernel_rfl)) (in_ofz (by kernel_rfl) z1) (fun fl w1 hfl hw => SX.start' hw B1 hfl rfl trivial) ?h2 ?_
  case h2 =>
    intro ix ox ax wx fl ho hS hfi clo hsz hrest hdone hund
    have hs : ax.tmps.size = 22 := hsz.trans z1
    have hi : ix < 9 := (Array.getElem?_eq_some_iff.1 ho).1
    clear hrest hsz hund
    obtain rfl | rfl | rfl | rfl | rfl | rfl | rfl | rfl | rfl : ix = 0 ∨ ix = 1 ∨ ix = 2 ∨ ix = 3 ∨ ix = 4 ∨ ix = 5 ∨ ix = 6 ∨ ix = 7 ∨ ix = 8 := by omega
    all_goals obtain rfl := Option.some.inj (show some _ = some ox from ho)
    ·
     refine wpOp_call (args := #[.int .u64 0, .int .u64 9]) rfl rfl (exec_call rfl rfl rfl (args2 (show ax.eval (.const (.int .u64 0)) = .int .u64 0 from rfl) (show ax.eval (.const (.int .u64 9)) = .int .u64 9 from rfl)) Try.func97 (by decide +kernel) rfl) ?_
     · refine (small_n 0 9 wx).mono ?_
       rintro e w' ⟨rfl, b9⟩
       exact ⟨_, rfl, _, rfl, tab_put rfl hs rfl rfl, hS.quiet 0 rfl b9⟩
    ·
     refine wpOp_call (args := #[.int .u64 4]) rfl rfl (exec_call rfl rfl rfl (args1 (show ax.eval (.const (.int .u64 4)) = .int .u64 4 from rfl)) Try.func34 (by decide +kernel) rfl) ?_
     · refine (one_n 4 wx).mono ?_
       rintro e w' ⟨rfl, b9⟩
       exact ⟨_, rfl, _, rfl, tab_put rfl hs rfl rfl, hS.quiet 1 rfl b9⟩
    ·
     have s4 : ax.tmps.getD 4 undef = .agg #[.int .u64 ((smallR 0 9).u.lo), .int .u64 ((smallR 0 9).u.hi), .int .i64 ((smallR 0 9).s.lo), .int .i64 ((smallR 0 9).s.hi)] := (hdone 0 _ rfl rfl).2 _ rfl
     have s5 : ax.tmps.getD 5 undef = .agg #[.int .u64 ((oneR 4).u.lo), .int .u64 ((oneR 4).u.hi), .int .i64 ((oneR 4).s.lo), .int .i64 ((oneR 4).s.hi)] := (hdone 1 _ rfl rfl).2 _ rfl
     refine wpOp_call (args := #[.int .i8 4, .agg #[.int .u64 ((smallR 0 9).u.lo), .int .u64 ((smallR 0 9).u.hi), .int .i64 ((smallR 0 9).s.lo), .int .i64 ((smallR 0 9).s.hi)], .agg #[.int .u64 ((oneR 4).u.lo), .int .u64 ((oneR 4).u.hi), .int .i64 ((oneR 4).s.lo), .int .i64 ((oneR 4).s.hi)]]) rfl rfl (exec_call rfl rfl rfl (args3 (show ax.eval (.const (.int .i8 4)) = .int .i8 4 from rfl) (show ax.eval (.tmp 4) = .agg #[.int .u64 ((smallR 0 9).u.lo), .int .u64 ((smallR 0 9).u.hi), .int .i64 ((smallR 0 9).s.lo), .int .i64 ((smallR 0 9).s.hi)] from s4) (show ax.eval (.tmp 5) = .agg #[.int .u64 ((oneR 4).u.lo), .int .u64 ((oneR 4).u.hi), .int .i64 ((oneR 4).s.lo), .int .i64 ((oneR 4).s.hi)] from s5)) Try.func24 (by decide +kernel) rfl) ?_
     · refine (given_n 4 ((smallR 0 9).u.lo) ((smallR 0 9).u.hi) ((smallR 0 9).s.lo) ((smallR 0 9).s.hi) ((oneR 4).u.lo) ((oneR 4).u.hi) ((oneR 4).s.lo) ((oneR 4).s.hi) wx (by simp only [Rg.Ok, Pr.U, Pr.S, smallR, sg]; decide) (by simp only [Rg.Ok, Pr.U, Pr.S, oneR, sg]; decide)).mono ?_
       rintro e w' ⟨rfl, b9⟩
       exact ⟨_, rfl, _, rfl, tab_put rfl hs rfl rfl, hS.quiet 2 rfl b9⟩
    ·
     have s6 : ax.tmps.getD 6 undef = .tuple #[.agg #[.int .u64 ((Rg.giv 4 (smallR 0 9) (oneR 4)).u.lo), .int .u64 ((Rg.giv 4 (smallR 0 9) (oneR 4)).u.hi), .int .i64 ((Rg.giv 4 (smallR 0 9) (oneR 4)).s.lo), .int .i64 ((Rg.giv 4 (smallR 0 9) (oneR 4)).s.hi)], .bool (Rg.givB 4 (smallR 0 9) (oneR 4))] := (hdone 0 _ rfl rfl).2 _ rfl
     exact wpOp_val (v := .tuple #[.agg #[.int .u64 ((Rg.giv 4 (smallR 0 9) (oneR 4)).u.lo), .int .u64 ((Rg.giv 4 (smallR 0 9) (oneR 4)).u.hi), .int .i64 ((Rg.giv 4 (smallR 0 9) (oneR 4)).s.lo), .int .i64 ((Rg.giv 4 (smallR 0 9) (oneR 4)).s.hi)], .bool (Rg.givB 4 (smallR 0 9) (oneR 4))]) (w' := wx) rfl rfl (by (revert s6; generalize (.tuple #[.agg #[.int .u64 ((Rg.giv 4 (smallR 0 9) (oneR 4)).u.lo), .int .u64 ((Rg.giv 4 (smallR 0 9) (oneR 4)).u.hi), .int .i64 ((Rg.giv 4 (smallR 0 9) (oneR 4)).s.lo), .int .i64 ((Rg.giv 4 (smallR 0 9) (oneR 4)).s.hi)], .bool (Rg.givB 4 (smallR 0 9) (oneR 4))] : Value) = y0; intro s6); simp [execOp, Act.eval, s6]) ⟨_, rfl, tab_put rfl hs rfl rfl, hS.same 3 rfl⟩
    ·
     have s3 : ax.tmps.getD 3 undef = .tuple #[.agg #[.int .u64 ((Rg.giv 4 (smallR 0 9) (oneR 4)).u.lo), .int .u64 ((Rg.giv 4 (smallR 0 9) (oneR 4)).u.hi), .int .i64 ((Rg.giv 4 (smallR 0 9) (oneR 4)).s.lo), .int .i64 ((Rg.giv 4 (smallR 0 9) (oneR 4)).s.hi)], .bool (Rg.givB 4 (smallR 0 9) (oneR 4))] := (hdone 0 _ rfl rfl).2 _ rfl
     exact wpOp_val (v := .agg #[.int .u64 ((Rg.giv 4 (smallR 0 9) (oneR 4)).u.lo), .int .u64 ((Rg.giv 4 (smallR 0 9) (oneR 4)).u.hi), .int .i64 ((Rg.giv 4 (smallR 0 9) (oneR 4)).s.lo), .int .i64 ((Rg.giv 4 (smallR 0 9) (oneR 4)).s.hi)]) (w' := wx) rfl rfl (by simp [execOp, Act.eval, s3, go_sem]) ⟨_, rfl, tab_put rfl hs rfl rfl, hS.same 4 rfl⟩
    ·
     have s3 : ax.tmps.getD 3 undef = .tuple #[.agg #[.int .u64 ((Rg.giv 4 (smallR 0 9) (oneR 4)).u.lo), .int .u64 ((Rg.giv 4 (smallR 0 9) (oneR 4)).u.hi), .int .i64 ((Rg.giv 4 (smallR 0 9) (oneR 4)).s.lo), .int .i64 ((Rg.giv 4 (smallR 0 9) (oneR 4)).s.hi)], .bool (Rg.givB 4 (smallR 0 9) (oneR 4))] := (hdone 0 _ rfl rfl).2 _ rfl
     exact wpOp_val (v := .bool (Rg.givB 4 (smallR 0 9) (oneR 4))) (w' := wx) rfl rfl (by simp [execOp, Act.eval, s3, go_sem]) ⟨_, rfl, tab_put rfl hs rfl (congrArg Value.bool K3.out), hS.same 5 rfl⟩
    ·
     refine wpOp_val (v := .pointer (some ⟨wx.heap.size, 0, none⟩)) (w' := wx.alloc (.cells #[.int .u64 0, .int .u64 0, .int .i64 0, .int .i64 0] 60)) rfl rfl ?_ ⟨_, rfl, trivial, hS.alloc 6 1 60 #[.int .u64 0, .int .u64 0, .int .i64 0, .int .i64 0] [] [] (some 7) #[.int .u64 ((Rg.giv 4 (smallR 0 9) (oneR 4)).u.lo), .int .u64 ((Rg.giv 4 (smallR 0 9) (oneR 4)).u.hi), .int .i64 ((Rg.giv 4 (smallR 0 9) (oneR 4)).s.lo), .int .i64 ((Rg.giv 4 (smallR 0 9) (oneR 4)).s.hi)] rfl rfl rfl (by rw [hs]; omega) (not_yet clo hfi (by kernel_rfl))⟩
     · simp [execOp, Act.eval, go_sem]
    ·
     have hd1 := (hdone 0 _ rfl rfl).1
     obtain ⟨g1, s1, n1, r1⟩ := SX.rowA hS [] [] 6 1 60 _ _ 7 rfl hd1 hfi
     have s1 : ax.tmps.getD 1 undef = .pointer (some ⟨g1, 0, none⟩) := s1
     have s7 : ax.tmps.getD 7 undef = .agg #[.int .u64 ((Rg.giv 4 (smallR 0 9) (oneR 4)).u.lo), .int .u64 ((Rg.giv 4 (smallR 0 9) (oneR 4)).u.hi), .int .i64 ((Rg.giv 4 (smallR 0 9) (oneR 4)).s.lo), .int .i64 ((Rg.giv 4 (smallR 0 9) (oneR 4)).s.hi)] := (hdone 1 _ rfl rfl).2 _ rfl
     have hr : wx.heap[g1]? = some (.cells #[.int .u64 0, .int .u64 0, .int .i64 0, .int .i64 0] 60 (0, 0)) := r1
     exact wpOp_skp (w' := wx.setRow g1 #[.int .u64 ((Rg.giv 4 (smallR 0 9) (oneR 4)).u.lo), .int .u64 ((Rg.giv 4 (smallR 0 9) (oneR 4)).u.hi), .int .i64 ((Rg.giv 4 (smallR 0 9) (oneR 4)).s.lo), .int .i64 ((Rg.giv 4 (smallR 0 9) (oneR 4)).s.hi)]) rfl rfl (exec_storeR 60 _ _ rfl g1 #[.int .u64 ((Rg.giv 4 (smallR 0 9) (oneR 4)).u.lo), .int .u64 ((Rg.giv 4 (smallR 0 9) (oneR 4)).u.hi), .int .i64 ((Rg.giv 4 (smallR 0 9) (oneR 4)).s.lo), .int .i64 ((Rg.giv 4 (smallR 0 9) (oneR 4)).s.hi)] (show ax.eval (.tmp 1) = .pointer (some ⟨g1, 0, none⟩) from s1) (show ax.eval (.tmp 7) = .agg #[.int .u64 ((Rg.giv 4 (smallR 0 9) (oneR 4)).u.lo), .int .u64 ((Rg.giv 4 (smallR 0 9) (oneR 4)).u.hi), .int .i64 ((Rg.giv 4 (smallR 0 9) (oneR 4)).s.lo), .int .i64 ((Rg.giv 4 (smallR 0 9) (oneR 4)).s.hi)] from s7) hr (by kernel_rfl) rfl (by simp [Value.oneCell'])) ⟨undef, rfl, trivial, hS.storeA 7 6 1 60 #[.int .u64 0, .int .u64 0, .int .i64 0, .int .i64 0] #[.int .u64 ((Rg.giv 4 (smallR 0 9) (oneR 4)).u.lo), .int .u64 ((Rg.giv 4 (smallR 0 9) (oneR 4)).u.hi), .int .i64 ((Rg.giv 4 (smallR 0 9) (oneR 4)).s.lo), .int .i64 ((Rg.giv 4 (smallR 0 9) (oneR 4)).s.hi)] [] [] rfl B1.size hd1 g1 s1 (by decide) rfl (stored_setRow wx g1 _ _ _ hr)⟩
    ·
     have s8 : ax.tmps.getD 8 undef = .bool true := (hdone 0 _ rfl rfl).2 _ rfl
     exact wpOp_val (v := .bool true) (w' := wx) rfl rfl (by simp [execOp, Act.eval, s8]) ⟨_, rfl, tab_put rfl hs rfl rfl, hS.same 8 rfl⟩
  intro a2 w2 fl d2 z2 rest2 R2 hfl hS
  obtain ⟨B2, n2, hBs, hAs, hPs⟩ := hS.finish hfl rfl
  replace d2 := d2.trans d1
  replace z2 := z2.trans z1
  obtain ⟨⟨g1, u_g1, q_g1, b_g1_2⟩, -⟩ := hAs
  replace u_g1 : a2.tmps.getD 1 undef = .pointer (some ⟨g1, 0, none⟩) := u_g1
  have m_g1 : w1.heap.size ≤ g1 := q_g1
  replace q_g1 : W.heap.size ≤ g1 := Nat.le_trans B1.size q_g1
  have s0_2 := (rest2 0 (not_of (by kernel_rfl))).trans s0_1
  have s2_2 : a2.tmps.getD 2 undef = .bool true := R2 8 _ rfl
  clear R2 rest2 hS hfl hPs hBs
  clear s0_1 d1 z1
  refine wp_seq ?_
  refine wp_regx (SX W w2.heap.size [⟨g1, 60, (cR ((Rg.giv 4 (smallR 0 9) (oneR 4)).u.lo) ((Rg.giv 4 (smallR 0 9) (oneR 4)).u.hi) ((Rg.giv 4 (smallR 0 9) (oneR 4)).s.lo) ((Rg.giv 4 (smallR 0 9) (oneR 4)).s.hi)), none, #[]⟩] []) (TabX [fun vx => vx = .agg #[.int .u64 ((smallR 1 5).u.lo), .int .u64 ((smallR 1 5).u.hi), .int .i64 ((smallR 1 5).s.lo), .int .i64 ((smallR 1 5).s.hi)], fun vx => vx = .agg #[.int .u64 ((smallR 2 3).u.lo), .int .u64 ((smallR 2 3).u.hi), .int .i64 ((smallR 2 3).s.lo), .int .i64 ((smallR 2 3).s.hi)], fun vx => vx = .agg #[.int .u64 ((Rg.doR 0 (smallR 1 5) (smallR 2 3)).u.lo), .int .u64 ((Rg.doR 0 (smallR 1 5) (smallR 2 3)).u.hi), .int .i64 ((Rg.doR 0 (smallR 1 5) (smallR 2 3)).s.lo), .int .i64 ((Rg.doR 0 (smallR 1 5) (smallR 2 3)).s.hi)], fun vx => vx = .agg #[.int .u64 ((smallR 3 8).u.lo), .int .u64 ((smallR 3 8).u.hi), .int .i64 ((smallR 3 8).s.lo), .int .i64 ((smallR 3 8).s.hi)], fun vx => vx = .bool (eqR (Rg.doR 0 (smallR 1 5) (smallR 2 3)) (smallR 3 8)), fun vx => vx = .bool true, fun vx => vx = .agg #[.int .u64 ((Rg.giv 4 (smallR 0 9) (oneR 4)).u.lo), .int .u64 ((Rg.giv 4 (smallR 0 9) (oneR 4)).u.hi), .int .i64 ((Rg.giv 4 (smallR 0 9) (oneR 4)).s.lo), .int .i64 ((Rg.giv 4 (smallR 0 9) (oneR 4)).s.hi)], fun vx => vx = .agg #[.int .u64 ((smallR 0 3).u.lo), .int .u64 ((smallR 0 3).u.hi), .int .i64 ((smallR 0 3).s.lo), .int .i64 ((smallR 0 3).s.hi)], fun vx => vx = .bool (eqR (Rg.giv 4 (smallR 0 9) (oneR 4)) (smallR 0 3)), fun vx => vx = .bool true, fun vx => vx = .bool true, fun vx => vx = .bool true, fun vx => vx = .bool true, fun vx => vx = .bool true]) (by kernel_rfl) (back_of (by kernel_rfl)) (dst_of (by kernel_rfl)) (in_ofz (by kernel_rfl) z2) (fun fl w1 hfl hw => SX.start' hw B2 hfl rfl ⟨b_g1_2, trivial⟩) ?h3 ?_
  case h3 =>
    intro ix ox ax wx fl ho hS hfi clo hsz hrest hdone hund
    have t1 := (hrest 1 (not_of (by kernel_rfl))).trans u_g1
    have t2 := (hrest 2 (not_of (by kernel_rfl))).trans s2_2
    have hs : ax.tmps.size = 22 := hsz.trans z2
    have hi : ix < 14 := (Array.getElem?_eq_some_iff.1 ho).1
    clear hrest hsz hund
    obtain rfl | rfl | rfl | rfl | rfl | rfl | rfl | rfl | rfl | rfl | rfl | rfl | rfl | rfl : ix = 0 ∨ ix = 1 ∨ ix = 2 ∨ ix = 3 ∨ ix = 4 ∨ ix = 5 ∨ ix = 6 ∨ ix = 7 ∨ ix = 8 ∨ ix = 9 ∨ ix = 10 ∨ ix = 11 ∨ ix = 12 ∨ ix = 13 := by omega
    all_goals obtain rfl := Option.some.inj (show some _ = some ox from ho)
    ·
     refine wpOp_call (args := #[.int .u64 1, .int .u64 5]) rfl rfl (exec_call rfl rfl rfl (args2 (show ax.eval (.const (.int .u64 1)) = .int .u64 1 from rfl) (show ax.eval (.const (.int .u64 5)) = .int .u64 5 from rfl)) Try.func97 (by decide +kernel) rfl) ?_
     · refine (small_n 1 5 wx).mono ?_
       rintro e w' ⟨rfl, b9⟩
       exact ⟨_, rfl, _, rfl, tab_put rfl hs rfl rfl, hS.quiet 0 rfl b9⟩
    ·
     refine wpOp_call (args := #[.int .u64 2, .int .u64 3]) rfl rfl (exec_call rfl rfl rfl (args2 (show ax.eval (.const (.int .u64 2)) = .int .u64 2 from rfl) (show ax.eval (.const (.int .u64 3)) = .int .u64 3 from rfl)) Try.func97 (by decide +kernel) rfl) ?_
     · refine (small_n 2 3 wx).mono ?_
       rintro e w' ⟨rfl, b9⟩
       exact ⟨_, rfl, _, rfl, tab_put rfl hs rfl rfl, hS.quiet 1 rfl b9⟩
    ·
     have s9 : ax.tmps.getD 9 undef = .agg #[.int .u64 ((smallR 1 5).u.lo), .int .u64 ((smallR 1 5).u.hi), .int .i64 ((smallR 1 5).s.lo), .int .i64 ((smallR 1 5).s.hi)] := (hdone 0 _ rfl rfl).2 _ rfl
     have s10 : ax.tmps.getD 10 undef = .agg #[.int .u64 ((smallR 2 3).u.lo), .int .u64 ((smallR 2 3).u.hi), .int .i64 ((smallR 2 3).s.lo), .int .i64 ((smallR 2 3).s.hi)] := (hdone 1 _ rfl rfl).2 _ rfl
     refine wpOp_call (args := #[.int .i8 0, .agg #[.int .u64 ((smallR 1 5).u.lo), .int .u64 ((smallR 1 5).u.hi), .int .i64 ((smallR 1 5).s.lo), .int .i64 ((smallR 1 5).s.hi)], .agg #[.int .u64 ((smallR 2 3).u.lo), .int .u64 ((smallR 2 3).u.hi), .int .i64 ((smallR 2 3).s.lo), .int .i64 ((smallR 2 3).s.hi)]]) rfl rfl (exec_call rfl rfl rfl (args3 (show ax.eval (.const (.int .i8 0)) = .int .i8 0 from rfl) (show ax.eval (.tmp 9) = .agg #[.int .u64 ((smallR 1 5).u.lo), .int .u64 ((smallR 1 5).u.hi), .int .i64 ((smallR 1 5).s.lo), .int .i64 ((smallR 1 5).s.hi)] from s9) (show ax.eval (.tmp 10) = .agg #[.int .u64 ((smallR 2 3).u.lo), .int .u64 ((smallR 2 3).u.hi), .int .i64 ((smallR 2 3).s.lo), .int .i64 ((smallR 2 3).s.hi)] from s10)) Try.func42 (by decide +kernel) rfl) ?_
     · refine (do_n 0 ((smallR 1 5).u.lo) ((smallR 1 5).u.hi) ((smallR 1 5).s.lo) ((smallR 1 5).s.hi) ((smallR 2 3).u.lo) ((smallR 2 3).u.hi) ((smallR 2 3).s.lo) ((smallR 2 3).s.hi) wx (by simp only [Rg.Ok, Pr.U, Pr.S, smallR, sg]; decide) (by simp only [Rg.Ok, Pr.U, Pr.S, smallR, sg]; decide)).mono ?_
       rintro e w' ⟨rfl, b9⟩
       exact ⟨_, rfl, _, rfl, tab_put rfl hs rfl rfl, hS.quiet 2 rfl b9⟩
    ·
     refine wpOp_call (args := #[.int .u64 3, .int .u64 8]) rfl rfl (exec_call rfl rfl rfl (args2 (show ax.eval (.const (.int .u64 3)) = .int .u64 3 from rfl) (show ax.eval (.const (.int .u64 8)) = .int .u64 8 from rfl)) Try.func97 (by decide +kernel) rfl) ?_
     · refine (small_n 3 8 wx).mono ?_
       rintro e w' ⟨rfl, b9⟩
       exact ⟨_, rfl, _, rfl, tab_put rfl hs rfl rfl, hS.quiet 3 rfl b9⟩
    ·
     have s11 : ax.tmps.getD 11 undef = .agg #[.int .u64 ((Rg.doR 0 (smallR 1 5) (smallR 2 3)).u.lo), .int .u64 ((Rg.doR 0 (smallR 1 5) (smallR 2 3)).u.hi), .int .i64 ((Rg.doR 0 (smallR 1 5) (smallR 2 3)).s.lo), .int .i64 ((Rg.doR 0 (smallR 1 5) (smallR 2 3)).s.hi)] := (hdone 0 _ rfl rfl).2 _ rfl
     have s12 : ax.tmps.getD 12 undef = .agg #[.int .u64 ((smallR 3 8).u.lo), .int .u64 ((smallR 3 8).u.hi), .int .i64 ((smallR 3 8).s.lo), .int .i64 ((smallR 3 8).s.hi)] := (hdone 1 _ rfl rfl).2 _ rfl
     exact wpOp_val (v := .bool (eqR (Rg.doR 0 (smallR 1 5) (smallR 2 3)) (smallR 3 8))) (w' := wx) rfl rfl (exec_eql rfl (show ax.eval (.tmp 11) = Rg.val (Rg.doR 0 (smallR 1 5) (smallR 2 3)) from s11) (show ax.eval (.tmp 12) = Rg.val (smallR 3 8) from s12) (by kernel_rfl) (eq_range (Rg.doR 0 (smallR 1 5) (smallR 2 3)) (smallR 3 8) wx)) ⟨_, rfl, tab_put rfl hs rfl rfl, hS.same 4 rfl⟩
    ·
     have s13 : ax.tmps.getD 13 undef = .bool (eqR (Rg.doR 0 (smallR 1 5) (smallR 2 3)) (smallR 3 8)) := (hdone 0 _ rfl rfl).2 _ rfl
     exact wpOp_val (v := .bool (eqR (Rg.doR 0 (smallR 1 5) (smallR 2 3)) (smallR 3 8))) (w' := wx) rfl rfl (by simp [execOp, Act.eval, s13]) ⟨_, rfl, tab_put rfl hs rfl (congrArg Value.bool K1.out), hS.same 5 rfl⟩
    ·
     have hg : ax.tmps.getD 14 undef = .bool true := (hdone 0 _ rfl rfl).2 _ rfl
     have hr := hS.rowNi 0 rfl
     exact wpOp_valw (v := .agg #[.int .u64 ((Rg.giv 4 (smallR 0 9) (oneR 4)).u.lo), .int .u64 ((Rg.giv 4 (smallR 0 9) (oneR 4)).u.hi), .int .i64 ((Rg.giv 4 (smallR 0 9) (oneR 4)).s.lo), .int .i64 ((Rg.giv 4 (smallR 0 9) (oneR 4)).s.hi)]) (w' := wx) rfl (wanted_yes 5 14 true hg (by rw [hs]; omega) rfl rfl rfl rfl) (exec_loadR 60 _ rfl g1 0 (show ax.eval (.tmp 1) = .pointer (some ⟨g1, 0, none⟩) from t1) hr [.int .u64 ((Rg.giv 4 (smallR 0 9) (oneR 4)).u.lo), .int .u64 ((Rg.giv 4 (smallR 0 9) (oneR 4)).u.hi), .int .i64 ((Rg.giv 4 (smallR 0 9) (oneR 4)).s.lo), .int .i64 ((Rg.giv 4 (smallR 0 9) (oneR 4)).s.hi)] rfl _ Try.underlying60 rfl (by kernel_rfl)) ⟨_, rfl, tab_put rfl hs rfl rfl, hS.same 6 rfl⟩
    ·
     have hg : ax.tmps.getD 14 undef = .bool true := (hdone 0 _ rfl rfl).2 _ rfl
     refine wpOp_callw (args := #[.int .u64 0, .int .u64 3]) rfl (wanted_yes 5 14 true hg (by rw [hs]; omega) rfl rfl rfl rfl) (exec_call rfl rfl rfl (args2 (show ax.eval (.const (.int .u64 0)) = .int .u64 0 from rfl) (show ax.eval (.const (.int .u64 3)) = .int .u64 3 from rfl)) Try.func97 (by decide +kernel) rfl) ?_
     · refine (small_n 0 3 wx).mono ?_
       rintro e w' ⟨rfl, b9⟩
       exact ⟨_, rfl, _, rfl, tab_put rfl hs rfl rfl, hS.quiet 7 rfl b9⟩
    ·
     have hg : ax.tmps.getD 14 undef = .bool true := (hdone 2 _ rfl rfl).2 _ rfl
     have s15 : ax.tmps.getD 15 undef = .agg #[.int .u64 ((Rg.giv 4 (smallR 0 9) (oneR 4)).u.lo), .int .u64 ((Rg.giv 4 (smallR 0 9) (oneR 4)).u.hi), .int .i64 ((Rg.giv 4 (smallR 0 9) (oneR 4)).s.lo), .int .i64 ((Rg.giv 4 (smallR 0 9) (oneR 4)).s.hi)] := (hdone 0 _ rfl rfl).2 _ rfl
     have s16 : ax.tmps.getD 16 undef = .agg #[.int .u64 ((smallR 0 3).u.lo), .int .u64 ((smallR 0 3).u.hi), .int .i64 ((smallR 0 3).s.lo), .int .i64 ((smallR 0 3).s.hi)] := (hdone 1 _ rfl rfl).2 _ rfl
     exact wpOp_valw (v := .bool (eqR (Rg.giv 4 (smallR 0 9) (oneR 4)) (smallR 0 3))) (w' := wx) rfl (wanted_yes 5 14 true hg (by rw [hs]; omega) rfl rfl rfl rfl) (exec_eql rfl (show ax.eval (.tmp 15) = Rg.val (Rg.giv 4 (smallR 0 9) (oneR 4)) from s15) (show ax.eval (.tmp 16) = Rg.val (smallR 0 3) from s16) (by kernel_rfl) (eq_range (Rg.giv 4 (smallR 0 9) (oneR 4)) (smallR 0 3) wx)) ⟨_, rfl, tab_put rfl hs rfl rfl, hS.same 8 rfl⟩
    ·
     have s14 : ax.tmps.getD 14 undef = .bool true := (hdone 0 _ rfl rfl).2 _ rfl
     have s17 : ax.tmps.getD 17 undef = .bool (eqR (Rg.giv 4 (smallR 0 9) (oneR 4)) (smallR 0 3)) := (hdone 1 _ rfl rfl).2 _ rfl
     exact wpOp_val (v := .bool (eqR (Rg.giv 4 (smallR 0 9) (oneR 4)) (smallR 0 3))) (w' := wx) rfl rfl (by simp [execOp, Act.eval, s14, s17, go_sem]) ⟨_, rfl, tab_put rfl hs rfl (congrArg Value.bool K2.out), hS.same 9 rfl⟩
    ·
     have s18 : ax.tmps.getD 18 undef = .bool true := (hdone 0 _ rfl rfl).2 _ rfl
     exact wpOp_val (v := .bool true) (w' := wx) rfl rfl (by simp [execOp, Act.eval, s18]) ⟨_, rfl, tab_put rfl hs rfl rfl, hS.same 10 rfl⟩
    ·
     have hg : ax.tmps.getD 19 undef = .bool true := (hdone 0 _ rfl rfl).2 _ rfl
     exact wpOp_valw (v := .bool true) (w' := wx) rfl (wanted_yes 10 19 true hg (by rw [hs]; omega) rfl rfl rfl rfl) (by simp [execOp, Act.eval, t2]) ⟨_, rfl, tab_put rfl hs rfl rfl, hS.same 11 rfl⟩
    ·
     have s19 : ax.tmps.getD 19 undef = .bool true := (hdone 0 _ rfl rfl).2 _ rfl
     have s20 : ax.tmps.getD 20 undef = .bool true := (hdone 1 _ rfl rfl).2 _ rfl
     exact wpOp_val (v := .bool true) (w' := wx) rfl rfl (by simp [execOp, Act.eval, s19, s20, go_sem]) ⟨_, rfl, tab_put rfl hs rfl rfl, hS.same 12 rfl⟩
    ·
     have s21 : ax.tmps.getD 21 undef = .bool true := (hdone 0 _ rfl rfl).2 _ rfl
     exact wpOp_val (v := .bool true) (w' := wx) rfl rfl (by simp [execOp, Act.eval, s21]) ⟨_, rfl, tab_put rfl hs rfl rfl, hS.same 13 rfl⟩
  intro a3 w3 fl d3 z3 rest3 R3 hfl hS
  obtain ⟨B3, n3, hBs, hAs, hPs⟩ := hS.finish hfl rfl
  replace d3 := d3.trans d2
  replace z3 := z3.trans z2
  obtain ⟨⟨l_g1_3, b_g1_3⟩, -⟩ := hBs
  replace l_g1_3 : g1 < w2.heap.size := l_g1_3
  have s0_3 : a3.tmps.getD 0 undef = .bool true := R3 13 _ rfl
  clear R3 rest3 hS hfl hPs hAs
  clear u_g1 s0_2 s2_2 b_g1_2 d2 z2
  refine wp_ret ?_
  try simp only [Exit.inBlock, Exit.then]
  refine bodyPost_ret (res_t (fn := Try.f46) rfl s0_3) d3 ?_
  exact ⟨rfl, B3⟩
end Go.Proofs.Ytfededcmelhjjaa.Bnd
