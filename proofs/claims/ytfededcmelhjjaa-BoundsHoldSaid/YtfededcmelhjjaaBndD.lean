/-
  Package bounds: Join, In, Single, Low. (Written by gen_bndd.py.)
-/
import Derived.Test.YtfededcmelhjjaaBndC
import Derived.Test.YtfededcmelhjjaaBndN
import Derived.Test.YtfededcmelhjjaaSxA
namespace Go.Proofs.Ytfededcmelhjjaa.Bnd
open Go.RowKit
set_option linter.unusedVariables false
set_option linter.unusedSimpArgs false
set_option linter.unnecessarySimpa false
set_option maxRecDepth 100000

set_option maxHeartbeats 4000000 in
theorem join_n (a b c d p q r t : Int) (W : World) : Calls Try.prog 38 #[.agg #[.int .u64 a, .int .u64 b, .int .i64 c, .int .i64 d], .agg #[.int .u64 p, .int .u64 q, .int .i64 r, .int .i64 t]] W fun e w' => e = .returned (.agg #[.int .u64 (Rg.joinR ⟨⟨a, b⟩, ⟨c, d⟩⟩ ⟨⟨p, q⟩, ⟨r, t⟩⟩).u.lo, .int .u64 (Rg.joinR ⟨⟨a, b⟩, ⟨c, d⟩⟩ ⟨⟨p, q⟩, ⟨r, t⟩⟩).u.hi, .int .i64 (Rg.joinR ⟨⟨a, b⟩, ⟨c, d⟩⟩ ⟨⟨p, q⟩, ⟨r, t⟩⟩).s.lo, .int .i64 (Rg.joinR ⟨⟨a, b⟩, ⟨c, d⟩⟩ ⟨⟨p, q⟩, ⟨r, t⟩⟩).s.hi]) ∧ Below W.heap.size W w' := by
  refine calls_abs Try.func38 rfl (Nat.le_of_ble_eq_true rfl) ?_
  intro a0 d0 z0 h0
  have z0 : a0.tmps.size = 25 := z0
  have s0_0 : a0.tmps.getD 0 undef = .agg #[.int .u64 a, .int .u64 b, .int .i64 c, .int .i64 d] := h0 0 (Nat.le_of_ble_eq_true rfl)
  have s1_0 : a0.tmps.getD 1 undef = .agg #[.int .u64 p, .int .u64 q, .int .i64 r, .int .i64 t] := h0 1 (Nat.le_of_ble_eq_true rfl)
  clear h0
  have B0 : Below W.heap.size W W := Below.refl _ _
  refine wp_seq ?_
  refine wp_regx (SX W W.heap.size [] [⟨0, 2, 60, (cR a b c d), none, #[]⟩, ⟨1, 3, 60, (cR p q r t), none, #[]⟩, ⟨2, 4, 60, (cR 0 0 0 0), none, #[]⟩]) (TabX [fun _ => True, fun _ => True, fun _ => True]) (by kernel_rfl) (back_of (by kernel_rfl)) (dst_of (by kernel_rfl)) (in_ofz (by kernel_rfl) z0) (fun fl w1 hfl hw => SX.start' hw B0 hfl rfl trivial) ?h1 ?_
  case h1 =>
    intro ix ox ax wx fl ho hS hfi clo hsz hrest hdone hund
    have t0 := (hrest 0 (not_of (by kernel_rfl))).trans s0_0
    have t1 := (hrest 1 (not_of (by kernel_rfl))).trans s1_0
    have hs : ax.tmps.size = 25 := hsz.trans z0
    have hi : ix < 3 := (Array.getElem?_eq_some_iff.1 ho).1
    clear hrest hsz hund
    obtain rfl | rfl | rfl : ix = 0 ∨ ix = 1 ∨ ix = 2 := by omega
    all_goals obtain rfl := Option.some.inj (show some _ = some ox from ho)
    ·
     refine wpOp_val (v := .pointer (some ⟨wx.heap.size, 0, none⟩)) (w' := wx.alloc (.cells #[.int .u64 a, .int .u64 b, .int .i64 c, .int .i64 d] 60)) rfl rfl ?_ ⟨_, rfl, trivial, hS.alloc 0 2 60 #[.int .u64 a, .int .u64 b, .int .i64 c, .int .i64 d] [] [⟨1, 3, 60, (cR p q r t), none, #[]⟩, ⟨2, 4, 60, (cR 0 0 0 0), none, #[]⟩] (none) #[] rfl rfl rfl (by rw [hs]; omega) trivial⟩
     · simp [execOp, Act.eval, t0, go_sem]
    ·
     refine wpOp_val (v := .pointer (some ⟨wx.heap.size, 0, none⟩)) (w' := wx.alloc (.cells #[.int .u64 p, .int .u64 q, .int .i64 r, .int .i64 t] 60)) rfl rfl ?_ ⟨_, rfl, trivial, hS.alloc 1 3 60 #[.int .u64 p, .int .u64 q, .int .i64 r, .int .i64 t] [⟨0, 2, 60, (cR a b c d), none, #[]⟩] [⟨2, 4, 60, (cR 0 0 0 0), none, #[]⟩] (none) #[] rfl rfl rfl (by rw [hs]; omega) trivial⟩
     · simp [execOp, Act.eval, t1, go_sem]
    ·
     refine wpOp_val (v := .pointer (some ⟨wx.heap.size, 0, none⟩)) (w' := wx.alloc (.cells #[.int .u64 0, .int .u64 0, .int .i64 0, .int .i64 0] 60)) rfl rfl ?_ ⟨_, rfl, trivial, hS.alloc 2 4 60 #[.int .u64 0, .int .u64 0, .int .i64 0, .int .i64 0] [⟨0, 2, 60, (cR a b c d), none, #[]⟩, ⟨1, 3, 60, (cR p q r t), none, #[]⟩] [] (none) #[] rfl rfl rfl (by rw [hs]; omega) trivial⟩
     · simp [execOp, Act.eval, go_sem]
  intro a1 w1 fl d1 z1 rest1 R1 hfl hS
  obtain ⟨B1, n1, hBs, hAs, hPs⟩ := hS.finish hfl rfl
  replace d1 := d1.trans d0
  replace z1 := z1.trans z0
  obtain ⟨⟨g1, u_g1, q_g1, b_g1_1⟩, ⟨g2, u_g2, q_g2, b_g2_1⟩, ⟨g3, u_g3, q_g3, b_g3_1⟩, -⟩ := hAs
  replace u_g1 : a1.tmps.getD 2 undef = .pointer (some ⟨g1, 0, none⟩) := u_g1
  have m_g1 : W.heap.size ≤ g1 := q_g1
  replace q_g1 : W.heap.size ≤ g1 := Nat.le_trans B0.size q_g1
  replace u_g2 : a1.tmps.getD 3 undef = .pointer (some ⟨g2, 0, none⟩) := u_g2
  have m_g2 : W.heap.size ≤ g2 := q_g2
  replace q_g2 : W.heap.size ≤ g2 := Nat.le_trans B0.size q_g2
  replace u_g3 : a1.tmps.getD 4 undef = .pointer (some ⟨g3, 0, none⟩) := u_g3
  have m_g3 : W.heap.size ≤ g3 := q_g3
  replace q_g3 : W.heap.size ≤ g3 := Nat.le_trans B0.size q_g3
  simp only [List.pairwise_cons, List.mem_cons, List.not_mem_nil, or_false, forall_eq_or_imp, forall_eq] at hPs
  have ne_g1_g2 : g1 ≠ g2 := by
    have hn : slotOf a1 2 ≠ slotOf a1 3 := hPs.1.1
    intro e; subst e; exact hn (Eq.trans u_g1 u_g2.symm)
  have ne_g1_g3 : g1 ≠ g3 := by
    have hn : slotOf a1 2 ≠ slotOf a1 4 := hPs.1.2
    intro e; subst e; exact hn (Eq.trans u_g1 u_g3.symm)
  have ne_g2_g3 : g2 ≠ g3 := by
    have hn : slotOf a1 3 ≠ slotOf a1 4 := hPs.2.1
    intro e; subst e; exact hn (Eq.trans u_g2 u_g3.symm)
  clear R1 rest1 hS hfl hPs hBs
  clear s0_0 s1_0 d0 z0
  refine wp_seq ?_
  refine wp_seq ?_
  cases fk1 : Rg.mayB ⟨⟨a, b⟩, ⟨c, d⟩⟩
  case false =>
   have Ffk1 := Lib.hid fk1; clear fk1
   refine wp_regx (SX W w1.heap.size [⟨g1, 60, (cR a b c d), none, #[]⟩, ⟨g2, 60, (cR p q r t), none, #[]⟩, ⟨g3, 60, (cR 0 0 0 0), none, #[]⟩] []) (TabX [fun vx => vx = .agg #[.int .u64 a, .int .u64 b, .int .i64 c, .int .i64 d], fun vx => vx = .bool false, fun vx => vx = .bool true, fun vx => vx = .bool true, fun vx => vx = undef, fun vx => vx = undef, fun vx => vx = undef, fun vx => vx = .bool true]) (by kernel_rfl) (back_of (by kernel_rfl)) (dst_of (by kernel_rfl)) (in_ofz (by kernel_rfl) z1) (fun fl w1 hfl hw => SX.start' hw B1 hfl rfl ⟨b_g1_1, b_g2_1, b_g3_1, trivial⟩) ?h2 ?_
   case h2 =>
     intro ix ox ax wx fl ho hS hfi clo hsz hrest hdone hund
     have t2 := (hrest 2 (not_of (by kernel_rfl))).trans u_g1
     have t3 := (hrest 3 (not_of (by kernel_rfl))).trans u_g2
     have hs : ax.tmps.size = 25 := hsz.trans z1
     have hi : ix < 8 := (Array.getElem?_eq_some_iff.1 ho).1
     clear hrest hsz hund
     obtain rfl | rfl | rfl | rfl | rfl | rfl | rfl | rfl : ix = 0 ∨ ix = 1 ∨ ix = 2 ∨ ix = 3 ∨ ix = 4 ∨ ix = 5 ∨ ix = 6 ∨ ix = 7 := by omega
     all_goals obtain rfl := Option.some.inj (show some _ = some ox from ho)
     ·
      have hr := hS.rowNi 0 rfl
      exact wpOp_val (v := .agg #[.int .u64 a, .int .u64 b, .int .i64 c, .int .i64 d]) (w' := wx) rfl rfl (exec_loadR 60 _ rfl g1 0 (show ax.eval (.tmp 2) = .pointer (some ⟨g1, 0, none⟩) from t2) hr [.int .u64 a, .int .u64 b, .int .i64 c, .int .i64 d] rfl _ Try.underlying60 rfl (by kernel_rfl)) ⟨_, rfl, tab_put rfl hs rfl rfl, hS.same 0 rfl⟩
     ·
      have s5 : ax.tmps.getD 5 undef = .agg #[.int .u64 a, .int .u64 b, .int .i64 c, .int .i64 d] := (hdone 0 _ rfl rfl).2 _ rfl
      refine wpOp_call (args := #[.agg #[.int .u64 a, .int .u64 b, .int .i64 c, .int .i64 d]]) rfl rfl (exec_call rfl rfl rfl (args1 (show ax.eval (.tmp 5) = .agg #[.int .u64 a, .int .u64 b, .int .i64 c, .int .i64 d] from s5)) Try.func30 (by decide +kernel) rfl) ?_
      · refine (may_n a b c d wx).mono ?_
        rintro e w' ⟨rfl, b9⟩
        exact ⟨_, rfl, _, rfl, tab_put rfl hs rfl (congrArg Value.bool Ffk1.out), hS.quiet 1 rfl b9⟩
     ·
      have s6 : ax.tmps.getD 6 undef = .bool false := (hdone 0 _ rfl rfl).2 _ rfl
      exact wpOp_val (v := .bool true) (w' := wx) rfl rfl (by simp [execOp, Act.eval, s6, go_sem]) ⟨_, rfl, tab_put rfl hs rfl rfl, hS.same 2 rfl⟩
     ·
      have s7 : ax.tmps.getD 7 undef = .bool true := (hdone 0 _ rfl rfl).2 _ rfl
      exact wpOp_val (v := .bool true) (w' := wx) rfl rfl (by simp [execOp, Act.eval, s7]) ⟨_, rfl, tab_put rfl hs rfl rfl, hS.same 3 rfl⟩
     ·
      have hg : ax.tmps.getD 8 undef = .bool true := (hdone 0 _ rfl rfl).2 _ rfl
      exact wpOp_no rfl (wanted_no 3 8 true hg (by rw [hs]; omega) rfl rfl rfl rfl) ⟨_, rfl, tab_put rfl hs rfl rfl, hS.same 4 rfl⟩
     ·
      have hg : ax.tmps.getD 8 undef = .bool true := (hdone 1 _ rfl rfl).2 _ rfl
      exact wpOp_no rfl (wanted_no 3 8 true hg (by rw [hs]; omega) rfl rfl rfl rfl) ⟨_, rfl, tab_put rfl hs rfl rfl, hS.same 5 rfl⟩
     ·
      have hg : ax.tmps.getD 8 undef = .bool true := (hdone 1 _ rfl rfl).2 _ rfl
      exact wpOp_no rfl (wanted_no 3 8 true hg (by rw [hs]; omega) rfl rfl rfl rfl) ⟨_, rfl, tab_put rfl hs rfl rfl, hS.same 6 rfl⟩
     ·
      have s8 : ax.tmps.getD 8 undef = .bool true := (hdone 0 _ rfl rfl).2 _ rfl
      have s11 : ax.tmps.getD 11 undef = undef := (hdone 1 _ rfl rfl).2 _ rfl
      exact wpOp_val (v := .bool true) (w' := wx) rfl rfl (by simp [execOp, Act.eval, s8, s11, go_sem]) ⟨_, rfl, tab_put rfl hs rfl rfl, hS.same 7 rfl⟩
   intro a2 w2 fl d2 z2 rest2 R2 hfl hS
   obtain ⟨B2, n2, hBs, hAs, hPs⟩ := hS.finish hfl rfl
   replace d2 := d2.trans d1
   replace z2 := z2.trans z1
   obtain ⟨⟨l_g1_2, b_g1_2⟩, ⟨l_g2_2, b_g2_2⟩, ⟨l_g3_2, b_g3_2⟩, -⟩ := hBs
   replace l_g1_2 : g1 < w1.heap.size := l_g1_2
   replace l_g2_2 : g2 < w1.heap.size := l_g2_2
   replace l_g3_2 : g3 < w1.heap.size := l_g3_2
   have s2_2 := (rest2 2 (not_of (by kernel_rfl))).trans u_g1
   have s3_2 := (rest2 3 (not_of (by kernel_rfl))).trans u_g2
   have s4_2 := (rest2 4 (not_of (by kernel_rfl))).trans u_g3
   have s12_2 : a2.tmps.getD 12 undef = .bool true := R2 7 _ rfl
   clear R2 rest2 hS hfl hPs hAs
   clear u_g1 u_g2 u_g3 b_g1_1 b_g2_1 b_g3_1 d1 z1
   refine wp_cond_true (show a2.tmps.getD 12 undef = .bool true from s12_2) ?_
   refine wp_seq ?_
   refine wp_regx (SX W w2.heap.size [⟨g1, 60, (cR a b c d), none, #[]⟩, ⟨g2, 60, (cR p q r t), none, #[]⟩, ⟨g3, 60, (cR 0 0 0 0), some 1, (cR allR.u.lo allR.u.hi allR.s.lo allR.s.hi)⟩] []) (TabX [fun vx => vx = .agg #[.int .u64 allR.u.lo, .int .u64 allR.u.hi, .int .i64 allR.s.lo, .int .i64 allR.s.hi], fun _ => True]) (by kernel_rfl) (back_of (by kernel_rfl)) (dst_of (by kernel_rfl)) (in_ofz (by kernel_rfl) z2) (fun fl w1 hfl hw => SX.start' hw B2 hfl rfl ⟨b_g1_2, b_g2_2, b_g3_2, trivial⟩) ?h3 ?_
   case h3 =>
     intro ix ox ax wx fl ho hS hfi clo hsz hrest hdone hund
     have t4 := (hrest 4 (not_of (by kernel_rfl))).trans s4_2
     have hs : ax.tmps.size = 25 := hsz.trans z2
     have hi : ix < 2 := (Array.getElem?_eq_some_iff.1 ho).1
     clear hrest hsz hund
     obtain rfl | rfl : ix = 0 ∨ ix = 1 := by omega
     all_goals obtain rfl := Option.some.inj (show some _ = some ox from ho)
     ·
      refine wpOp_call (args := #[]) rfl rfl (exec_call rfl rfl rfl (args0 ) Try.func32 (by decide +kernel) rfl) ?_
      · refine (all_n wx).mono ?_
        rintro e w' ⟨rfl, b9⟩
        exact ⟨_, rfl, _, rfl, tab_put rfl hs rfl rfl, hS.quiet 0 rfl b9⟩
     ·
      have s13 : ax.tmps.getD 13 undef = .agg #[.int .u64 allR.u.lo, .int .u64 allR.u.hi, .int .i64 allR.s.lo, .int .i64 allR.s.hi] := (hdone 0 _ rfl rfl).2 _ rfl
      have hr := hS.rowFi 2 rfl hfi
      exact wpOp_skp (w' := wx.setRow g3 #[.int .u64 allR.u.lo, .int .u64 allR.u.hi, .int .i64 allR.s.lo, .int .i64 allR.s.hi]) rfl rfl (exec_storeR 60 _ _ rfl g3 #[.int .u64 allR.u.lo, .int .u64 allR.u.hi, .int .i64 allR.s.lo, .int .i64 allR.s.hi] (show ax.eval (.tmp 4) = .pointer (some ⟨g3, 0, none⟩) from t4) (show ax.eval (.tmp 13) = .agg #[.int .u64 allR.u.lo, .int .u64 allR.u.hi, .int .i64 allR.s.lo, .int .i64 allR.s.hi] from s13) hr (by kernel_rfl) rfl (by simp [Value.oneCell'])) ⟨undef, rfl, trivial, hS.storeBi 1 2 rfl q_g3 rfl ⟨(show g1 ≠ g3 by omega), (show g2 ≠ g3 by omega), trivial⟩ (stored_setRow wx g3 _ _ _ hr)⟩
   intro a3 w3 fl d3 z3 rest3 R3 hfl hS
   obtain ⟨B3, n3, hBs, hAs, hPs⟩ := hS.finish hfl rfl
   replace d3 := d3.trans d2
   replace z3 := z3.trans z2
   obtain ⟨⟨-, b_g1_3⟩, ⟨-, b_g2_3⟩, ⟨-, b_g3_3⟩, -⟩ := hBs
   have s2_3 := (rest3 2 (not_of (by kernel_rfl))).trans s2_2
   have s3_3 := (rest3 3 (not_of (by kernel_rfl))).trans s3_2
   have s4_3 := (rest3 4 (not_of (by kernel_rfl))).trans s4_2
   clear R3 rest3 hS hfl hPs hAs
   clear s2_2 s3_2 s4_2 s12_2 b_g1_2 b_g2_2 b_g3_2 d2 z2
   refine wp_ret ?_
   try simp only [Exit.inBlock, Exit.then]
   refine bodyPost_ret (res_c (fn := Try.f38) rfl s4_3 (load_row 60 b_g3_3 Try.underlying60 rfl (by kernel_rfl))) d3 ?_
   have HE : (.agg #[.int .u64 allR.u.lo, .int .u64 allR.u.hi, .int .i64 allR.s.lo, .int .i64 allR.s.hi] : Value) = Rg.val (Rg.joinR ⟨⟨a, b⟩, ⟨c, d⟩⟩ ⟨⟨p, q⟩, ⟨r, t⟩⟩) := by unfold Rg.joinR; rw [Ffk1.out]; rfl
   exact ⟨retV HE, B3⟩
  have Ffk1 := Lib.hid fk1; clear fk1
  cases fk2 : Rg.mayB ⟨⟨p, q⟩, ⟨r, t⟩⟩
  case false =>
   have Ffk2 := Lib.hid fk2; clear fk2
   refine wp_regx (SX W w1.heap.size [⟨g1, 60, (cR a b c d), none, #[]⟩, ⟨g2, 60, (cR p q r t), none, #[]⟩, ⟨g3, 60, (cR 0 0 0 0), none, #[]⟩] []) (TabX [fun vx => vx = .agg #[.int .u64 a, .int .u64 b, .int .i64 c, .int .i64 d], fun vx => vx = .bool true, fun vx => vx = .bool false, fun vx => vx = .bool false, fun vx => vx = .agg #[.int .u64 p, .int .u64 q, .int .i64 r, .int .i64 t], fun vx => vx = .bool false, fun vx => vx = .bool true, fun vx => vx = .bool true]) (by kernel_rfl) (back_of (by kernel_rfl)) (dst_of (by kernel_rfl)) (in_ofz (by kernel_rfl) z1) (fun fl w1 hfl hw => SX.start' hw B1 hfl rfl ⟨b_g1_1, b_g2_1, b_g3_1, trivial⟩) ?h4 ?_
   case h4 =>
     intro ix ox ax wx fl ho hS hfi clo hsz hrest hdone hund
     have t2 := (hrest 2 (not_of (by kernel_rfl))).trans u_g1
     have t3 := (hrest 3 (not_of (by kernel_rfl))).trans u_g2
     have hs : ax.tmps.size = 25 := hsz.trans z1
     have hi : ix < 8 := (Array.getElem?_eq_some_iff.1 ho).1
     clear hrest hsz hund
     obtain rfl | rfl | rfl | rfl | rfl | rfl | rfl | rfl : ix = 0 ∨ ix = 1 ∨ ix = 2 ∨ ix = 3 ∨ ix = 4 ∨ ix = 5 ∨ ix = 6 ∨ ix = 7 := by omega
     all_goals obtain rfl := Option.some.inj (show some _ = some ox from ho)
     ·
      have hr := hS.rowNi 0 rfl
      exact wpOp_val (v := .agg #[.int .u64 a, .int .u64 b, .int .i64 c, .int .i64 d]) (w' := wx) rfl rfl (exec_loadR 60 _ rfl g1 0 (show ax.eval (.tmp 2) = .pointer (some ⟨g1, 0, none⟩) from t2) hr [.int .u64 a, .int .u64 b, .int .i64 c, .int .i64 d] rfl _ Try.underlying60 rfl (by kernel_rfl)) ⟨_, rfl, tab_put rfl hs rfl rfl, hS.same 0 rfl⟩
     ·
      have s5 : ax.tmps.getD 5 undef = .agg #[.int .u64 a, .int .u64 b, .int .i64 c, .int .i64 d] := (hdone 0 _ rfl rfl).2 _ rfl
      refine wpOp_call (args := #[.agg #[.int .u64 a, .int .u64 b, .int .i64 c, .int .i64 d]]) rfl rfl (exec_call rfl rfl rfl (args1 (show ax.eval (.tmp 5) = .agg #[.int .u64 a, .int .u64 b, .int .i64 c, .int .i64 d] from s5)) Try.func30 (by decide +kernel) rfl) ?_
      · refine (may_n a b c d wx).mono ?_
        rintro e w' ⟨rfl, b9⟩
        exact ⟨_, rfl, _, rfl, tab_put rfl hs rfl (congrArg Value.bool Ffk1.out), hS.quiet 1 rfl b9⟩
     ·
      have s6 : ax.tmps.getD 6 undef = .bool true := (hdone 0 _ rfl rfl).2 _ rfl
      exact wpOp_val (v := .bool false) (w' := wx) rfl rfl (by simp [execOp, Act.eval, s6, go_sem]) ⟨_, rfl, tab_put rfl hs rfl rfl, hS.same 2 rfl⟩
     ·
      have s7 : ax.tmps.getD 7 undef = .bool false := (hdone 0 _ rfl rfl).2 _ rfl
      exact wpOp_val (v := .bool false) (w' := wx) rfl rfl (by simp [execOp, Act.eval, s7]) ⟨_, rfl, tab_put rfl hs rfl rfl, hS.same 3 rfl⟩
     ·
      have hg : ax.tmps.getD 8 undef = .bool false := (hdone 0 _ rfl rfl).2 _ rfl
      have hr := hS.rowNi 1 rfl
      exact wpOp_valw (v := .agg #[.int .u64 p, .int .u64 q, .int .i64 r, .int .i64 t]) (w' := wx) rfl (wanted_yes 3 8 false hg (by rw [hs]; omega) rfl rfl rfl rfl) (exec_loadR 60 _ rfl g2 0 (show ax.eval (.tmp 3) = .pointer (some ⟨g2, 0, none⟩) from t3) hr [.int .u64 p, .int .u64 q, .int .i64 r, .int .i64 t] rfl _ Try.underlying60 rfl (by kernel_rfl)) ⟨_, rfl, tab_put rfl hs rfl rfl, hS.same 4 rfl⟩
     ·
      have hg : ax.tmps.getD 8 undef = .bool false := (hdone 1 _ rfl rfl).2 _ rfl
      have s9 : ax.tmps.getD 9 undef = .agg #[.int .u64 p, .int .u64 q, .int .i64 r, .int .i64 t] := (hdone 0 _ rfl rfl).2 _ rfl
      refine wpOp_callw (args := #[.agg #[.int .u64 p, .int .u64 q, .int .i64 r, .int .i64 t]]) rfl (wanted_yes 3 8 false hg (by rw [hs]; omega) rfl rfl rfl rfl) (exec_call rfl rfl rfl (args1 (show ax.eval (.tmp 9) = .agg #[.int .u64 p, .int .u64 q, .int .i64 r, .int .i64 t] from s9)) Try.func30 (by decide +kernel) rfl) ?_
      · refine (may_n p q r t wx).mono ?_
        rintro e w' ⟨rfl, b9⟩
        exact ⟨_, rfl, _, rfl, tab_put rfl hs rfl (congrArg Value.bool Ffk2.out), hS.quiet 5 rfl b9⟩
     ·
      have hg : ax.tmps.getD 8 undef = .bool false := (hdone 1 _ rfl rfl).2 _ rfl
      have s10 : ax.tmps.getD 10 undef = .bool false := (hdone 0 _ rfl rfl).2 _ rfl
      exact wpOp_valw (v := .bool true) (w' := wx) rfl (wanted_yes 3 8 false hg (by rw [hs]; omega) rfl rfl rfl rfl) (by simp [execOp, Act.eval, s10, go_sem]) ⟨_, rfl, tab_put rfl hs rfl rfl, hS.same 6 rfl⟩
     ·
      have s8 : ax.tmps.getD 8 undef = .bool false := (hdone 0 _ rfl rfl).2 _ rfl
      have s11 : ax.tmps.getD 11 undef = .bool true := (hdone 1 _ rfl rfl).2 _ rfl
      exact wpOp_val (v := .bool true) (w' := wx) rfl rfl (by simp [execOp, Act.eval, s8, s11, go_sem]) ⟨_, rfl, tab_put rfl hs rfl rfl, hS.same 7 rfl⟩
   intro a2 w2 fl d2 z2 rest2 R2 hfl hS
   obtain ⟨B2, n2, hBs, hAs, hPs⟩ := hS.finish hfl rfl
   replace d2 := d2.trans d1
   replace z2 := z2.trans z1
   obtain ⟨⟨l_g1_2, b_g1_2⟩, ⟨l_g2_2, b_g2_2⟩, ⟨l_g3_2, b_g3_2⟩, -⟩ := hBs
   replace l_g1_2 : g1 < w1.heap.size := l_g1_2
   replace l_g2_2 : g2 < w1.heap.size := l_g2_2
   replace l_g3_2 : g3 < w1.heap.size := l_g3_2
   have s2_2 := (rest2 2 (not_of (by kernel_rfl))).trans u_g1
   have s3_2 := (rest2 3 (not_of (by kernel_rfl))).trans u_g2
   have s4_2 := (rest2 4 (not_of (by kernel_rfl))).trans u_g3
   have s12_2 : a2.tmps.getD 12 undef = .bool true := R2 7 _ rfl
   clear R2 rest2 hS hfl hPs hAs
   clear u_g1 u_g2 u_g3 b_g1_1 b_g2_1 b_g3_1 d1 z1
   refine wp_cond_true (show a2.tmps.getD 12 undef = .bool true from s12_2) ?_
   refine wp_seq ?_
   refine wp_regx (SX W w2.heap.size [⟨g1, 60, (cR a b c d), none, #[]⟩, ⟨g2, 60, (cR p q r t), none, #[]⟩, ⟨g3, 60, (cR 0 0 0 0), some 1, (cR allR.u.lo allR.u.hi allR.s.lo allR.s.hi)⟩] []) (TabX [fun vx => vx = .agg #[.int .u64 allR.u.lo, .int .u64 allR.u.hi, .int .i64 allR.s.lo, .int .i64 allR.s.hi], fun _ => True]) (by kernel_rfl) (back_of (by kernel_rfl)) (dst_of (by kernel_rfl)) (in_ofz (by kernel_rfl) z2) (fun fl w1 hfl hw => SX.start' hw B2 hfl rfl ⟨b_g1_2, b_g2_2, b_g3_2, trivial⟩) ?h5 ?_
   case h5 =>
     intro ix ox ax wx fl ho hS hfi clo hsz hrest hdone hund
     have t4 := (hrest 4 (not_of (by kernel_rfl))).trans s4_2
     have hs : ax.tmps.size = 25 := hsz.trans z2
     have hi : ix < 2 := (Array.getElem?_eq_some_iff.1 ho).1
     clear hrest hsz hund
     obtain rfl | rfl : ix = 0 ∨ ix = 1 := by omega
     all_goals obtain rfl := Option.some.inj (show some _ = some ox from ho)
     ·
      refine wpOp_call (args := #[]) rfl rfl (exec_call rfl rfl rfl (args0 ) Try.func32 (by decide +kernel) rfl) ?_
      · refine (all_n wx).mono ?_
        rintro e w' ⟨rfl, b9⟩
        exact ⟨_, rfl, _, rfl, tab_put rfl hs rfl rfl, hS.quiet 0 rfl b9⟩
     ·
      have s13 : ax.tmps.getD 13 undef = .agg #[.int .u64 allR.u.lo, .int .u64 allR.u.hi, .int .i64 allR.s.lo, .int .i64 allR.s.hi] := (hdone 0 _ rfl rfl).2 _ rfl
      have hr := hS.rowFi 2 rfl hfi
      exact wpOp_skp (w' := wx.setRow g3 #[.int .u64 allR.u.lo, .int .u64 allR.u.hi, .int .i64 allR.s.lo, .int .i64 allR.s.hi]) rfl rfl (exec_storeR 60 _ _ rfl g3 #[.int .u64 allR.u.lo, .int .u64 allR.u.hi, .int .i64 allR.s.lo, .int .i64 allR.s.hi] (show ax.eval (.tmp 4) = .pointer (some ⟨g3, 0, none⟩) from t4) (show ax.eval (.tmp 13) = .agg #[.int .u64 allR.u.lo, .int .u64 allR.u.hi, .int .i64 allR.s.lo, .int .i64 allR.s.hi] from s13) hr (by kernel_rfl) rfl (by simp [Value.oneCell'])) ⟨undef, rfl, trivial, hS.storeBi 1 2 rfl q_g3 rfl ⟨(show g1 ≠ g3 by omega), (show g2 ≠ g3 by omega), trivial⟩ (stored_setRow wx g3 _ _ _ hr)⟩
   intro a3 w3 fl d3 z3 rest3 R3 hfl hS
   obtain ⟨B3, n3, hBs, hAs, hPs⟩ := hS.finish hfl rfl
   replace d3 := d3.trans d2
   replace z3 := z3.trans z2
   obtain ⟨⟨-, b_g1_3⟩, ⟨-, b_g2_3⟩, ⟨-, b_g3_3⟩, -⟩ := hBs
   have s2_3 := (rest3 2 (not_of (by kernel_rfl))).trans s2_2
   have s3_3 := (rest3 3 (not_of (by kernel_rfl))).trans s3_2
   have s4_3 := (rest3 4 (not_of (by kernel_rfl))).trans s4_2
   clear R3 rest3 hS hfl hPs hAs
   clear s2_2 s3_2 s4_2 s12_2 b_g1_2 b_g2_2 b_g3_2 d2 z2
   refine wp_ret ?_
   try simp only [Exit.inBlock, Exit.then]
   refine bodyPost_ret (res_c (fn := Try.f38) rfl s4_3 (load_row 60 b_g3_3 Try.underlying60 rfl (by kernel_rfl))) d3 ?_
   have HE : (.agg #[.int .u64 allR.u.lo, .int .u64 allR.u.hi, .int .i64 allR.s.lo, .int .i64 allR.s.hi] : Value) = Rg.val (Rg.joinR ⟨⟨a, b⟩, ⟨c, d⟩⟩ ⟨⟨p, q⟩, ⟨r, t⟩⟩) := by unfold Rg.joinR; rw [Ffk1.out, Ffk2.out]; rfl
   exact ⟨retV HE, B3⟩
  have Ffk2 := Lib.hid fk2; clear fk2
  refine wp_regx (SX W w1.heap.size [⟨g1, 60, (cR a b c d), none, #[]⟩, ⟨g2, 60, (cR p q r t), none, #[]⟩, ⟨g3, 60, (cR 0 0 0 0), none, #[]⟩] []) (TabX [fun vx => vx = .agg #[.int .u64 a, .int .u64 b, .int .i64 c, .int .i64 d], fun vx => vx = .bool true, fun vx => vx = .bool false, fun vx => vx = .bool false, fun vx => vx = .agg #[.int .u64 p, .int .u64 q, .int .i64 r, .int .i64 t], fun vx => vx = .bool true, fun vx => vx = .bool false, fun vx => vx = .bool false]) (by kernel_rfl) (back_of (by kernel_rfl)) (dst_of (by kernel_rfl)) (in_ofz (by kernel_rfl) z1) (fun fl w1 hfl hw => SX.start' hw B1 hfl rfl ⟨b_g1_1, b_g2_1, b_g3_1, trivial⟩) ?h6 ?_
  case h6 =>
    intro ix ox ax wx fl ho hS hfi clo hsz hrest hdone hund
    have t2 := (hrest 2 (not_of (by kernel_rfl))).trans u_g1
    have t3 := (hrest 3 (not_of (by kernel_rfl))).trans u_g2
    have hs : ax.tmps.size = 25 := hsz.trans z1
    have hi : ix < 8 := (Array.getElem?_eq_some_iff.1 ho).1
    clear hrest hsz hund
    obtain rfl | rfl | rfl | rfl | rfl | rfl | rfl | rfl : ix = 0 ∨ ix = 1 ∨ ix = 2 ∨ ix = 3 ∨ ix = 4 ∨ ix = 5 ∨ ix = 6 ∨ ix = 7 := by omega
    all_goals obtain rfl := Option.some.inj (show some _ = some ox from ho)
    ·
     have hr := hS.rowNi 0 rfl
     exact wpOp_val (v := .agg #[.int .u64 a, .int .u64 b, .int .i64 c, .int .i64 d]) (w' := wx) rfl rfl (exec_loadR 60 _ rfl g1 0 (show ax.eval (.tmp 2) = .pointer (some ⟨g1, 0, none⟩) from t2) hr [.int .u64 a, .int .u64 b, .int .i64 c, .int .i64 d] rfl _ Try.underlying60 rfl (by kernel_rfl)) ⟨_, rfl, tab_put rfl hs rfl rfl, hS.same 0 rfl⟩
    ·
     have s5 : ax.tmps.getD 5 undef = .agg #[.int .u64 a, .int .u64 b, .int .i64 c, .int .i64 d] := (hdone 0 _ rfl rfl).2 _ rfl
     refine wpOp_call (args := #[.agg #[.int .u64 a, .int .u64 b, .int .i64 c, .int .i64 d]]) rfl rfl (exec_call rfl rfl rfl (args1 (show ax.eval (.tmp 5) = .agg #[.int .u64 a, .int .u64 b, .int .i64 c, .int .i64 d] from s5)) Try.func30 (by decide +kernel) rfl) ?_
     · refine (may_n a b c d wx).mono ?_
       rintro e w' ⟨rfl, b9⟩
       exact ⟨_, rfl, _, rfl, tab_put rfl hs rfl (congrArg Value.bool Ffk1.out), hS.quiet 1 rfl b9⟩
    ·
     have s6 : ax.tmps.getD 6 undef = .bool true := (hdone 0 _ rfl rfl).2 _ rfl
     exact wpOp_val (v := .bool false) (w' := wx) rfl rfl (by simp [execOp, Act.eval, s6, go_sem]) ⟨_, rfl, tab_put rfl hs rfl rfl, hS.same 2 rfl⟩
    ·
     have s7 : ax.tmps.getD 7 undef = .bool false := (hdone 0 _ rfl rfl).2 _ rfl
     exact wpOp_val (v := .bool false) (w' := wx) rfl rfl (by simp [execOp, Act.eval, s7]) ⟨_, rfl, tab_put rfl hs rfl rfl, hS.same 3 rfl⟩
    ·
     have hg : ax.tmps.getD 8 undef = .bool false := (hdone 0 _ rfl rfl).2 _ rfl
     have hr := hS.rowNi 1 rfl
     exact wpOp_valw (v := .agg #[.int .u64 p, .int .u64 q, .int .i64 r, .int .i64 t]) (w' := wx) rfl (wanted_yes 3 8 false hg (by rw [hs]; omega) rfl rfl rfl rfl) (exec_loadR 60 _ rfl g2 0 (show ax.eval (.tmp 3) = .pointer (some ⟨g2, 0, none⟩) from t3) hr [.int .u64 p, .int .u64 q, .int .i64 r, .int .i64 t] rfl _ Try.underlying60 rfl (by kernel_rfl)) ⟨_, rfl, tab_put rfl hs rfl rfl, hS.same 4 rfl⟩
    ·
     have hg : ax.tmps.getD 8 undef = .bool false := (hdone 1 _ rfl rfl).2 _ rfl
     have s9 : ax.tmps.getD 9 undef = .agg #[.int .u64 p, .int .u64 q, .int .i64 r, .int .i64 t] := (hdone 0 _ rfl rfl).2 _ rfl
     refine wpOp_callw (args := #[.agg #[.int .u64 p, .int .u64 q, .int .i64 r, .int .i64 t]]) rfl (wanted_yes 3 8 false hg (by rw [hs]; omega) rfl rfl rfl rfl) (exec_call rfl rfl rfl (args1 (show ax.eval (.tmp 9) = .agg #[.int .u64 p, .int .u64 q, .int .i64 r, .int .i64 t] from s9)) Try.func30 (by decide +kernel) rfl) ?_
     · refine (may_n p q r t wx).mono ?_
       rintro e w' ⟨rfl, b9⟩
       exact ⟨_, rfl, _, rfl, tab_put rfl hs rfl (congrArg Value.bool Ffk2.out), hS.quiet 5 rfl b9⟩
    ·
     have hg : ax.tmps.getD 8 undef = .bool false := (hdone 1 _ rfl rfl).2 _ rfl
     have s10 : ax.tmps.getD 10 undef = .bool true := (hdone 0 _ rfl rfl).2 _ rfl
     exact wpOp_valw (v := .bool false) (w' := wx) rfl (wanted_yes 3 8 false hg (by rw [hs]; omega) rfl rfl rfl rfl) (by simp [execOp, Act.eval, s10, go_sem]) ⟨_, rfl, tab_put rfl hs rfl rfl, hS.same 6 rfl⟩
    ·
     have s8 : ax.tmps.getD 8 undef = .bool false := (hdone 0 _ rfl rfl).2 _ rfl
     have s11 : ax.tmps.getD 11 undef = .bool false := (hdone 1 _ rfl rfl).2 _ rfl
     exact wpOp_val (v := .bool false) (w' := wx) rfl rfl (by simp [execOp, Act.eval, s8, s11, go_sem]) ⟨_, rfl, tab_put rfl hs rfl rfl, hS.same 7 rfl⟩
  intro a2 w2 fl d2 z2 rest2 R2 hfl hS
  obtain ⟨B2, n2, hBs, hAs, hPs⟩ := hS.finish hfl rfl
  replace d2 := d2.trans d1
  replace z2 := z2.trans z1
  obtain ⟨⟨l_g1_2, b_g1_2⟩, ⟨l_g2_2, b_g2_2⟩, ⟨l_g3_2, b_g3_2⟩, -⟩ := hBs
  replace l_g1_2 : g1 < w1.heap.size := l_g1_2
  replace l_g2_2 : g2 < w1.heap.size := l_g2_2
  replace l_g3_2 : g3 < w1.heap.size := l_g3_2
  have s2_2 := (rest2 2 (not_of (by kernel_rfl))).trans u_g1
  have s3_2 := (rest2 3 (not_of (by kernel_rfl))).trans u_g2
  have s4_2 := (rest2 4 (not_of (by kernel_rfl))).trans u_g3
  have s12_2 : a2.tmps.getD 12 undef = .bool false := R2 7 _ rfl
  clear R2 rest2 hS hfl hPs hAs
  clear u_g1 u_g2 u_g3 b_g1_1 b_g2_1 b_g3_1 d1 z1
  refine wp_cond_false (show a2.tmps.getD 12 undef = .bool false from s12_2) ?_
  refine wp_skip ?_
  refine wp_seq ?_
  refine wp_regx (SX W w2.heap.size [⟨g1, 60, (cR a b c d), none, #[]⟩, ⟨g2, 60, (cR p q r t), none, #[]⟩, ⟨g3, 60, (cR 0 0 0 0), some 11, (cR ((Pr.join ⟨a, b⟩ ⟨p, q⟩).lo) ((Pr.join ⟨a, b⟩ ⟨p, q⟩).hi) ((Pr.join ⟨c, d⟩ ⟨r, t⟩).lo) ((Pr.join ⟨c, d⟩ ⟨r, t⟩).hi))⟩] []) (TabX [fun vx => vx = .agg #[.int .u64 a, .int .u64 b, .int .i64 c, .int .i64 d], fun vx => vx = .agg #[.int .u64 a, .int .u64 b], fun vx => vx = .agg #[.int .u64 p, .int .u64 q, .int .i64 r, .int .i64 t], fun vx => vx = .agg #[.int .u64 p, .int .u64 q], fun vx => vx = .agg #[.int .u64 ((Pr.join ⟨a, b⟩ ⟨p, q⟩).lo), .int .u64 ((Pr.join ⟨a, b⟩ ⟨p, q⟩).hi)], fun vx => vx = .agg #[.int .u64 a, .int .u64 b, .int .i64 c, .int .i64 d], fun vx => vx = .agg #[.int .i64 c, .int .i64 d], fun vx => vx = .agg #[.int .u64 p, .int .u64 q, .int .i64 r, .int .i64 t], fun vx => vx = .agg #[.int .i64 r, .int .i64 t], fun vx => vx = .agg #[.int .i64 ((Pr.join ⟨c, d⟩ ⟨r, t⟩).lo), .int .i64 ((Pr.join ⟨c, d⟩ ⟨r, t⟩).hi)], fun vx => vx = .agg #[.int .u64 ((Pr.join ⟨a, b⟩ ⟨p, q⟩).lo), .int .u64 ((Pr.join ⟨a, b⟩ ⟨p, q⟩).hi), .int .i64 ((Pr.join ⟨c, d⟩ ⟨r, t⟩).lo), .int .i64 ((Pr.join ⟨c, d⟩ ⟨r, t⟩).hi)], fun _ => True]) (by kernel_rfl) (back_of (by kernel_rfl)) (dst_of (by kernel_rfl)) (in_ofz (by kernel_rfl) z2) (fun fl w1 hfl hw => SX.start' hw B2 hfl rfl ⟨b_g1_2, b_g2_2, b_g3_2, trivial⟩) ?h7 ?_
  case h7 =>
    intro ix ox ax wx fl ho hS hfi clo hsz hrest hdone hund
    have t2 := (hrest 2 (not_of (by kernel_rfl))).trans s2_2
    have t3 := (hrest 3 (not_of (by kernel_rfl))).trans s3_2
    have t4 := (hrest 4 (not_of (by kernel_rfl))).trans s4_2
    have hs : ax.tmps.size = 25 := hsz.trans z2
    have hi : ix < 12 := (Array.getElem?_eq_some_iff.1 ho).1
    clear hrest hsz hund
    obtain rfl | rfl | rfl | rfl | rfl | rfl | rfl | rfl | rfl | rfl | rfl | rfl : ix = 0 ∨ ix = 1 ∨ ix = 2 ∨ ix = 3 ∨ ix = 4 ∨ ix = 5 ∨ ix = 6 ∨ ix = 7 ∨ ix = 8 ∨ ix = 9 ∨ ix = 10 ∨ ix = 11 := by omega
    all_goals obtain rfl := Option.some.inj (show some _ = some ox from ho)
    ·
     have hr := hS.rowNi 0 rfl
     exact wpOp_val (v := .agg #[.int .u64 a, .int .u64 b, .int .i64 c, .int .i64 d]) (w' := wx) rfl rfl (exec_loadR 60 _ rfl g1 0 (show ax.eval (.tmp 2) = .pointer (some ⟨g1, 0, none⟩) from t2) hr [.int .u64 a, .int .u64 b, .int .i64 c, .int .i64 d] rfl _ Try.underlying60 rfl (by kernel_rfl)) ⟨_, rfl, tab_put rfl hs rfl rfl, hS.same 0 rfl⟩
    ·
     have s14 : ax.tmps.getD 14 undef = .agg #[.int .u64 a, .int .u64 b, .int .i64 c, .int .i64 d] := (hdone 0 _ rfl rfl).2 _ rfl
     refine wpOp_call (args := #[.agg #[.int .u64 a, .int .u64 b, .int .i64 c, .int .i64 d]]) rfl rfl (exec_call rfl rfl rfl (args1 (show ax.eval (.tmp 14) = .agg #[.int .u64 a, .int .u64 b, .int .i64 c, .int .i64 d] from s14)) Try.func61 (by decide +kernel) rfl) ?_
     · refine (unsigned_n a b c d wx).mono ?_
       rintro e w' ⟨rfl, b9⟩
       exact ⟨_, rfl, _, rfl, tab_put rfl hs rfl rfl, hS.quiet 1 rfl b9⟩
    ·
     have hr := hS.rowNi 1 rfl
     exact wpOp_val (v := .agg #[.int .u64 p, .int .u64 q, .int .i64 r, .int .i64 t]) (w' := wx) rfl rfl (exec_loadR 60 _ rfl g2 0 (show ax.eval (.tmp 3) = .pointer (some ⟨g2, 0, none⟩) from t3) hr [.int .u64 p, .int .u64 q, .int .i64 r, .int .i64 t] rfl _ Try.underlying60 rfl (by kernel_rfl)) ⟨_, rfl, tab_put rfl hs rfl rfl, hS.same 2 rfl⟩
    ·
     have s16 : ax.tmps.getD 16 undef = .agg #[.int .u64 p, .int .u64 q, .int .i64 r, .int .i64 t] := (hdone 0 _ rfl rfl).2 _ rfl
     refine wpOp_call (args := #[.agg #[.int .u64 p, .int .u64 q, .int .i64 r, .int .i64 t]]) rfl rfl (exec_call rfl rfl rfl (args1 (show ax.eval (.tmp 16) = .agg #[.int .u64 p, .int .u64 q, .int .i64 r, .int .i64 t] from s16)) Try.func61 (by decide +kernel) rfl) ?_
     · refine (unsigned_n p q r t wx).mono ?_
       rintro e w' ⟨rfl, b9⟩
       exact ⟨_, rfl, _, rfl, tab_put rfl hs rfl rfl, hS.quiet 3 rfl b9⟩
    ·
     have s15 : ax.tmps.getD 15 undef = .agg #[.int .u64 a, .int .u64 b] := (hdone 0 _ rfl rfl).2 _ rfl
     have s17 : ax.tmps.getD 17 undef = .agg #[.int .u64 p, .int .u64 q] := (hdone 1 _ rfl rfl).2 _ rfl
     refine wpOp_call (args := #[.agg #[.int .u64 a, .int .u64 b], .agg #[.int .u64 p, .int .u64 q]]) rfl rfl (exec_call rfl rfl rfl (args2 (show ax.eval (.tmp 15) = .agg #[.int .u64 a, .int .u64 b] from s15) (show ax.eval (.tmp 17) = .agg #[.int .u64 p, .int .u64 q] from s17)) Try.func84 (by decide +kernel) rfl) ?_
     · refine (joinU_n a b p q wx).mono ?_
       rintro e w' ⟨rfl, b9⟩
       exact ⟨_, rfl, _, rfl, tab_put rfl hs rfl rfl, hS.quiet 4 rfl b9⟩
    ·
     have hr := hS.rowNi 0 rfl
     exact wpOp_val (v := .agg #[.int .u64 a, .int .u64 b, .int .i64 c, .int .i64 d]) (w' := wx) rfl rfl (exec_loadR 60 _ rfl g1 0 (show ax.eval (.tmp 2) = .pointer (some ⟨g1, 0, none⟩) from t2) hr [.int .u64 a, .int .u64 b, .int .i64 c, .int .i64 d] rfl _ Try.underlying60 rfl (by kernel_rfl)) ⟨_, rfl, tab_put rfl hs rfl rfl, hS.same 5 rfl⟩
    ·
     have s19 : ax.tmps.getD 19 undef = .agg #[.int .u64 a, .int .u64 b, .int .i64 c, .int .i64 d] := (hdone 0 _ rfl rfl).2 _ rfl
     refine wpOp_call (args := #[.agg #[.int .u64 a, .int .u64 b, .int .i64 c, .int .i64 d]]) rfl rfl (exec_call rfl rfl rfl (args1 (show ax.eval (.tmp 19) = .agg #[.int .u64 a, .int .u64 b, .int .i64 c, .int .i64 d] from s19)) Try.func63 (by decide +kernel) rfl) ?_
     · refine (signed_n a b c d wx).mono ?_
       rintro e w' ⟨rfl, b9⟩
       exact ⟨_, rfl, _, rfl, tab_put rfl hs rfl rfl, hS.quiet 6 rfl b9⟩
    ·
     have hr := hS.rowNi 1 rfl
     exact wpOp_val (v := .agg #[.int .u64 p, .int .u64 q, .int .i64 r, .int .i64 t]) (w' := wx) rfl rfl (exec_loadR 60 _ rfl g2 0 (show ax.eval (.tmp 3) = .pointer (some ⟨g2, 0, none⟩) from t3) hr [.int .u64 p, .int .u64 q, .int .i64 r, .int .i64 t] rfl _ Try.underlying60 rfl (by kernel_rfl)) ⟨_, rfl, tab_put rfl hs rfl rfl, hS.same 7 rfl⟩
    ·
     have s21 : ax.tmps.getD 21 undef = .agg #[.int .u64 p, .int .u64 q, .int .i64 r, .int .i64 t] := (hdone 0 _ rfl rfl).2 _ rfl
     refine wpOp_call (args := #[.agg #[.int .u64 p, .int .u64 q, .int .i64 r, .int .i64 t]]) rfl rfl (exec_call rfl rfl rfl (args1 (show ax.eval (.tmp 21) = .agg #[.int .u64 p, .int .u64 q, .int .i64 r, .int .i64 t] from s21)) Try.func63 (by decide +kernel) rfl) ?_
     · refine (signed_n p q r t wx).mono ?_
       rintro e w' ⟨rfl, b9⟩
       exact ⟨_, rfl, _, rfl, tab_put rfl hs rfl rfl, hS.quiet 8 rfl b9⟩
    ·
     have s20 : ax.tmps.getD 20 undef = .agg #[.int .i64 c, .int .i64 d] := (hdone 0 _ rfl rfl).2 _ rfl
     have s22 : ax.tmps.getD 22 undef = .agg #[.int .i64 r, .int .i64 t] := (hdone 1 _ rfl rfl).2 _ rfl
     refine wpOp_call (args := #[.agg #[.int .i64 c, .int .i64 d], .agg #[.int .i64 r, .int .i64 t]]) rfl rfl (exec_call rfl rfl rfl (args2 (show ax.eval (.tmp 20) = .agg #[.int .i64 c, .int .i64 d] from s20) (show ax.eval (.tmp 22) = .agg #[.int .i64 r, .int .i64 t] from s22)) Try.func85 (by decide +kernel) rfl) ?_
     · refine (joinS_n c d r t wx).mono ?_
       rintro e w' ⟨rfl, b9⟩
       exact ⟨_, rfl, _, rfl, tab_put rfl hs rfl rfl, hS.quiet 9 rfl b9⟩
    ·
     have s18 : ax.tmps.getD 18 undef = .agg #[.int .u64 ((Pr.join ⟨a, b⟩ ⟨p, q⟩).lo), .int .u64 ((Pr.join ⟨a, b⟩ ⟨p, q⟩).hi)] := (hdone 0 _ rfl rfl).2 _ rfl
     have s23 : ax.tmps.getD 23 undef = .agg #[.int .i64 ((Pr.join ⟨c, d⟩ ⟨r, t⟩).lo), .int .i64 ((Pr.join ⟨c, d⟩ ⟨r, t⟩).hi)] := (hdone 1 _ rfl rfl).2 _ rfl
     refine wpOp_call (args := #[.agg #[.int .u64 ((Pr.join ⟨a, b⟩ ⟨p, q⟩).lo), .int .u64 ((Pr.join ⟨a, b⟩ ⟨p, q⟩).hi)], .agg #[.int .i64 ((Pr.join ⟨c, d⟩ ⟨r, t⟩).lo), .int .i64 ((Pr.join ⟨c, d⟩ ⟨r, t⟩).hi)]]) rfl rfl (exec_call rfl rfl rfl (args2 (show ax.eval (.tmp 18) = .agg #[.int .u64 ((Pr.join ⟨a, b⟩ ⟨p, q⟩).lo), .int .u64 ((Pr.join ⟨a, b⟩ ⟨p, q⟩).hi)] from s18) (show ax.eval (.tmp 23) = .agg #[.int .i64 ((Pr.join ⟨c, d⟩ ⟨r, t⟩).lo), .int .i64 ((Pr.join ⟨c, d⟩ ⟨r, t⟩).hi)] from s23)) Try.func60 (by decide +kernel) rfl) ?_
     · refine (both_n ((Pr.join ⟨a, b⟩ ⟨p, q⟩).lo) ((Pr.join ⟨a, b⟩ ⟨p, q⟩).hi) ((Pr.join ⟨c, d⟩ ⟨r, t⟩).lo) ((Pr.join ⟨c, d⟩ ⟨r, t⟩).hi) wx).mono ?_
       rintro e w' ⟨rfl, b9⟩
       exact ⟨_, rfl, _, rfl, tab_put rfl hs rfl rfl, hS.quiet 10 rfl b9⟩
    ·
     have s24 : ax.tmps.getD 24 undef = .agg #[.int .u64 ((Pr.join ⟨a, b⟩ ⟨p, q⟩).lo), .int .u64 ((Pr.join ⟨a, b⟩ ⟨p, q⟩).hi), .int .i64 ((Pr.join ⟨c, d⟩ ⟨r, t⟩).lo), .int .i64 ((Pr.join ⟨c, d⟩ ⟨r, t⟩).hi)] := (hdone 0 _ rfl rfl).2 _ rfl
     have hr := hS.rowFi 2 rfl hfi
     exact wpOp_skp (w' := wx.setRow g3 #[.int .u64 ((Pr.join ⟨a, b⟩ ⟨p, q⟩).lo), .int .u64 ((Pr.join ⟨a, b⟩ ⟨p, q⟩).hi), .int .i64 ((Pr.join ⟨c, d⟩ ⟨r, t⟩).lo), .int .i64 ((Pr.join ⟨c, d⟩ ⟨r, t⟩).hi)]) rfl rfl (exec_storeR 60 _ _ rfl g3 #[.int .u64 ((Pr.join ⟨a, b⟩ ⟨p, q⟩).lo), .int .u64 ((Pr.join ⟨a, b⟩ ⟨p, q⟩).hi), .int .i64 ((Pr.join ⟨c, d⟩ ⟨r, t⟩).lo), .int .i64 ((Pr.join ⟨c, d⟩ ⟨r, t⟩).hi)] (show ax.eval (.tmp 4) = .pointer (some ⟨g3, 0, none⟩) from t4) (show ax.eval (.tmp 24) = .agg #[.int .u64 ((Pr.join ⟨a, b⟩ ⟨p, q⟩).lo), .int .u64 ((Pr.join ⟨a, b⟩ ⟨p, q⟩).hi), .int .i64 ((Pr.join ⟨c, d⟩ ⟨r, t⟩).lo), .int .i64 ((Pr.join ⟨c, d⟩ ⟨r, t⟩).hi)] from s24) hr (by kernel_rfl) rfl (by simp [Value.oneCell'])) ⟨undef, rfl, trivial, hS.storeBi 11 2 rfl q_g3 rfl ⟨(show g1 ≠ g3 by omega), (show g2 ≠ g3 by omega), trivial⟩ (stored_setRow wx g3 _ _ _ hr)⟩
  intro a3 w3 fl d3 z3 rest3 R3 hfl hS
  obtain ⟨B3, n3, hBs, hAs, hPs⟩ := hS.finish hfl rfl
  replace d3 := d3.trans d2
  replace z3 := z3.trans z2
  obtain ⟨⟨-, b_g1_3⟩, ⟨-, b_g2_3⟩, ⟨-, b_g3_3⟩, -⟩ := hBs
  have s4_3 := (rest3 4 (not_of (by kernel_rfl))).trans s4_2
  clear R3 rest3 hS hfl hPs hAs
  clear s2_2 s3_2 s4_2 s12_2 b_g1_2 b_g2_2 b_g3_2 d2 z2
  refine wp_ret ?_
  try simp only [Exit.inBlock, Exit.then]
  refine bodyPost_ret (res_c (fn := Try.f38) rfl s4_3 (load_row 60 b_g3_3 Try.underlying60 rfl (by kernel_rfl))) d3 ?_
  have HE : (.agg #[.int .u64 ((Pr.join ⟨a, b⟩ ⟨p, q⟩).lo), .int .u64 ((Pr.join ⟨a, b⟩ ⟨p, q⟩).hi), .int .i64 ((Pr.join ⟨c, d⟩ ⟨r, t⟩).lo), .int .i64 ((Pr.join ⟨c, d⟩ ⟨r, t⟩).hi)] : Value) = Rg.val (Rg.joinR ⟨⟨a, b⟩, ⟨c, d⟩⟩ ⟨⟨p, q⟩, ⟨r, t⟩⟩) := by unfold Rg.joinR; rw [Ffk1.out, Ffk2.out]; rfl
  exact ⟨retV HE, B3⟩

set_option maxHeartbeats 4000000 in
theorem in_n (a b c d p q r t : Int) (W : World) : Calls Try.prog 40 #[.agg #[.int .u64 a, .int .u64 b, .int .i64 c, .int .i64 d], .agg #[.int .u64 p, .int .u64 q, .int .i64 r, .int .i64 t]] W fun e w' => e = .returned (.bool (Rg.inB ⟨⟨a, b⟩, ⟨c, d⟩⟩ ⟨⟨p, q⟩, ⟨r, t⟩⟩)) ∧ Below W.heap.size W w' := by
  refine calls_abs Try.func40 rfl (Nat.le_of_ble_eq_true rfl) ?_
  intro a0 d0 z0 h0
  have z0 : a0.tmps.size = 25 := z0
  have s0_0 : a0.tmps.getD 0 undef = .agg #[.int .u64 a, .int .u64 b, .int .i64 c, .int .i64 d] := h0 0 (Nat.le_of_ble_eq_true rfl)
  have s1_0 : a0.tmps.getD 1 undef = .agg #[.int .u64 p, .int .u64 q, .int .i64 r, .int .i64 t] := h0 1 (Nat.le_of_ble_eq_true rfl)
  clear h0
  have B0 : Below W.heap.size W W := Below.refl _ _
  refine wp_seq ?_
  refine wp_regx (SX W W.heap.size [] [⟨0, 2, 60, (cR a b c d), none, #[]⟩, ⟨1, 3, 60, (cR p q r t), none, #[]⟩]) (TabX [fun _ => True, fun _ => True, fun vx => vx = .bool false]) (by kernel_rfl) (back_of (by kernel_rfl)) (dst_of (by kernel_rfl)) (in_ofz (by kernel_rfl) z0) (fun fl w1 hfl hw => SX.start' hw B0 hfl rfl trivial) ?h1 ?_
  case h1 =>
    intro ix ox ax wx fl ho hS hfi clo hsz hrest hdone hund
    have t0 := (hrest 0 (not_of (by kernel_rfl))).trans s0_0
    have t1 := (hrest 1 (not_of (by kernel_rfl))).trans s1_0
    have hs : ax.tmps.size = 25 := hsz.trans z0
    have hi : ix < 3 := (Array.getElem?_eq_some_iff.1 ho).1
    clear hrest hsz hund
    obtain rfl | rfl | rfl : ix = 0 ∨ ix = 1 ∨ ix = 2 := by omega
    all_goals obtain rfl := Option.some.inj (show some _ = some ox from ho)
    ·
     refine wpOp_val (v := .pointer (some ⟨wx.heap.size, 0, none⟩)) (w' := wx.alloc (.cells #[.int .u64 a, .int .u64 b, .int .i64 c, .int .i64 d] 60)) rfl rfl ?_ ⟨_, rfl, trivial, hS.alloc 0 2 60 #[.int .u64 a, .int .u64 b, .int .i64 c, .int .i64 d] [] [⟨1, 3, 60, (cR p q r t), none, #[]⟩] (none) #[] rfl rfl rfl (by rw [hs]; omega) trivial⟩
     · simp [execOp, Act.eval, t0, go_sem]
    ·
     refine wpOp_val (v := .pointer (some ⟨wx.heap.size, 0, none⟩)) (w' := wx.alloc (.cells #[.int .u64 p, .int .u64 q, .int .i64 r, .int .i64 t] 60)) rfl rfl ?_ ⟨_, rfl, trivial, hS.alloc 1 3 60 #[.int .u64 p, .int .u64 q, .int .i64 r, .int .i64 t] [⟨0, 2, 60, (cR a b c d), none, #[]⟩] [] (none) #[] rfl rfl rfl (by rw [hs]; omega) trivial⟩
     · simp [execOp, Act.eval, t1, go_sem]
    ·
     exact wpOp_val (v := .bool false) (w' := wx) rfl rfl (by simp [execOp, Act.eval]) ⟨_, rfl, tab_put rfl hs rfl rfl, hS.same 2 rfl⟩
  intro a1 w1 fl d1 z1 rest1 R1 hfl hS
  obtain ⟨B1, n1, hBs, hAs, hPs⟩ := hS.finish hfl rfl
  replace d1 := d1.trans d0
  replace z1 := z1.trans z0
  obtain ⟨⟨g1, u_g1, q_g1, b_g1_1⟩, ⟨g2, u_g2, q_g2, b_g2_1⟩, -⟩ := hAs
  replace u_g1 : a1.tmps.getD 2 undef = .pointer (some ⟨g1, 0, none⟩) := u_g1
  have m_g1 : W.heap.size ≤ g1 := q_g1
  replace q_g1 : W.heap.size ≤ g1 := Nat.le_trans B0.size q_g1
  replace u_g2 : a1.tmps.getD 3 undef = .pointer (some ⟨g2, 0, none⟩) := u_g2
  have m_g2 : W.heap.size ≤ g2 := q_g2
  replace q_g2 : W.heap.size ≤ g2 := Nat.le_trans B0.size q_g2
  simp only [List.pairwise_cons, List.mem_cons, List.not_mem_nil, or_false, forall_eq_or_imp, forall_eq] at hPs
  have ne_g1_g2 : g1 ≠ g2 := by
    have hn : slotOf a1 2 ≠ slotOf a1 3 := hPs.1
    intro e; subst e; exact hn (Eq.trans u_g1 u_g2.symm)
  have s4_1 : a1.tmps.getD 4 undef = .bool false := R1 2 _ rfl
  clear R1 rest1 hS hfl hPs hBs
  clear s0_0 s1_0 d0 z0
  refine wp_seq ?_
  cases fk1 : Rg.mayB ⟨⟨a, b⟩, ⟨c, d⟩⟩
  case false =>
   have Ffk1 := Lib.hid fk1; clear fk1
   refine wp_regx (SX W w1.heap.size [⟨g1, 60, (cR a b c d), none, #[]⟩, ⟨g2, 60, (cR p q r t), none, #[]⟩] []) (TabX [fun vx => vx = .agg #[.int .u64 a, .int .u64 b, .int .i64 c, .int .i64 d], fun vx => vx = .bool false, fun vx => vx = .bool false, fun vx => vx = undef, fun vx => vx = undef, fun vx => vx = .bool false, fun vx => vx = .bool false, fun vx => vx = undef, fun vx => vx = undef, fun vx => vx = undef, fun vx => vx = undef, fun vx => vx = undef, fun vx => vx = .bool false, fun vx => vx = .bool false, fun vx => vx = undef, fun vx => vx = undef, fun vx => vx = undef, fun vx => vx = undef, fun vx => vx = undef, fun vx => vx = .bool false, fun vx => vx = .bool false]) (by kernel_rfl) (back_of (by kernel_rfl)) (dst_of (by kernel_rfl)) (in_ofz (by kernel_rfl) z1) (fun fl w1 hfl hw => SX.start' hw B1 hfl rfl ⟨b_g1_1, b_g2_1, trivial⟩) ?h2 ?_
   case h2 =>
     intro ix ox ax wx fl ho hS hfi clo hsz hrest hdone hund
     have t2 := (hrest 2 (not_of (by kernel_rfl))).trans u_g1
     have t3 := (hrest 3 (not_of (by kernel_rfl))).trans u_g2
     have hs : ax.tmps.size = 25 := hsz.trans z1
     have hi : ix < 21 := (Array.getElem?_eq_some_iff.1 ho).1
     clear hrest hsz hund
     obtain rfl | rfl | rfl | rfl | rfl | rfl | rfl | rfl | rfl | rfl | rfl | rfl | rfl | rfl | rfl | rfl | rfl | rfl | rfl | rfl | rfl : ix = 0 ∨ ix = 1 ∨ ix = 2 ∨ ix = 3 ∨ ix = 4 ∨ ix = 5 ∨ ix = 6 ∨ ix = 7 ∨ ix = 8 ∨ ix = 9 ∨ ix = 10 ∨ ix = 11 ∨ ix = 12 ∨ ix = 13 ∨ ix = 14 ∨ ix = 15 ∨ ix = 16 ∨ ix = 17 ∨ ix = 18 ∨ ix = 19 ∨ ix = 20 := by omega
     all_goals obtain rfl := Option.some.inj (show some _ = some ox from ho)
     ·
      have hr := hS.rowNi 0 rfl
      exact wpOp_val (v := .agg #[.int .u64 a, .int .u64 b, .int .i64 c, .int .i64 d]) (w' := wx) rfl rfl (exec_loadR 60 _ rfl g1 0 (show ax.eval (.tmp 2) = .pointer (some ⟨g1, 0, none⟩) from t2) hr [.int .u64 a, .int .u64 b, .int .i64 c, .int .i64 d] rfl _ Try.underlying60 rfl (by kernel_rfl)) ⟨_, rfl, tab_put rfl hs rfl rfl, hS.same 0 rfl⟩
     ·
      have s5 : ax.tmps.getD 5 undef = .agg #[.int .u64 a, .int .u64 b, .int .i64 c, .int .i64 d] := (hdone 0 _ rfl rfl).2 _ rfl
      refine wpOp_call (args := #[.agg #[.int .u64 a, .int .u64 b, .int .i64 c, .int .i64 d]]) rfl rfl (exec_call rfl rfl rfl (args1 (show ax.eval (.tmp 5) = .agg #[.int .u64 a, .int .u64 b, .int .i64 c, .int .i64 d] from s5)) Try.func30 (by decide +kernel) rfl) ?_
      · refine (may_n a b c d wx).mono ?_
        rintro e w' ⟨rfl, b9⟩
        exact ⟨_, rfl, _, rfl, tab_put rfl hs rfl (congrArg Value.bool Ffk1.out), hS.quiet 1 rfl b9⟩
     ·
      have s6 : ax.tmps.getD 6 undef = .bool false := (hdone 0 _ rfl rfl).2 _ rfl
      exact wpOp_val (v := .bool false) (w' := wx) rfl rfl (by simp [execOp, Act.eval, s6]) ⟨_, rfl, tab_put rfl hs rfl rfl, hS.same 2 rfl⟩
     ·
      have hg : ax.tmps.getD 7 undef = .bool false := (hdone 0 _ rfl rfl).2 _ rfl
      exact wpOp_no rfl (wanted_no 2 7 false hg (by rw [hs]; omega) rfl rfl rfl rfl) ⟨_, rfl, tab_put rfl hs rfl rfl, hS.same 3 rfl⟩
     ·
      have hg : ax.tmps.getD 7 undef = .bool false := (hdone 1 _ rfl rfl).2 _ rfl
      exact wpOp_no rfl (wanted_no 2 7 false hg (by rw [hs]; omega) rfl rfl rfl rfl) ⟨_, rfl, tab_put rfl hs rfl rfl, hS.same 4 rfl⟩
     ·
      have s7 : ax.tmps.getD 7 undef = .bool false := (hdone 0 _ rfl rfl).2 _ rfl
      have s9 : ax.tmps.getD 9 undef = undef := (hdone 1 _ rfl rfl).2 _ rfl
      exact wpOp_val (v := .bool false) (w' := wx) rfl rfl (by simp [execOp, Act.eval, s7, s9, go_sem]) ⟨_, rfl, tab_put rfl hs rfl rfl, hS.same 5 rfl⟩
     ·
      have s10 : ax.tmps.getD 10 undef = .bool false := (hdone 0 _ rfl rfl).2 _ rfl
      exact wpOp_val (v := .bool false) (w' := wx) rfl rfl (by simp [execOp, Act.eval, s10]) ⟨_, rfl, tab_put rfl hs rfl rfl, hS.same 6 rfl⟩
     ·
      have hg : ax.tmps.getD 11 undef = .bool false := (hdone 0 _ rfl rfl).2 _ rfl
      exact wpOp_no rfl (wanted_no 6 11 false hg (by rw [hs]; omega) rfl rfl rfl rfl) ⟨_, rfl, tab_put rfl hs rfl rfl, hS.same 7 rfl⟩
     ·
      have hg : ax.tmps.getD 11 undef = .bool false := (hdone 1 _ rfl rfl).2 _ rfl
      exact wpOp_no rfl (wanted_no 6 11 false hg (by rw [hs]; omega) rfl rfl rfl rfl) ⟨_, rfl, tab_put rfl hs rfl rfl, hS.same 8 rfl⟩
     ·
      have hg : ax.tmps.getD 11 undef = .bool false := (hdone 0 _ rfl rfl).2 _ rfl
      exact wpOp_no rfl (wanted_no 6 11 false hg (by rw [hs]; omega) rfl rfl rfl rfl) ⟨_, rfl, tab_put rfl hs rfl rfl, hS.same 9 rfl⟩
     ·
      have hg : ax.tmps.getD 11 undef = .bool false := (hdone 2 _ rfl rfl).2 _ rfl
      exact wpOp_no rfl (wanted_no 6 11 false hg (by rw [hs]; omega) rfl rfl rfl rfl) ⟨_, rfl, tab_put rfl hs rfl rfl, hS.same 10 rfl⟩
     ·
      have hg : ax.tmps.getD 11 undef = .bool false := (hdone 3 _ rfl rfl).2 _ rfl
      exact wpOp_no rfl (wanted_no 6 11 false hg (by rw [hs]; omega) rfl rfl rfl rfl) ⟨_, rfl, tab_put rfl hs rfl rfl, hS.same 11 rfl⟩
     ·
      have s11 : ax.tmps.getD 11 undef = .bool false := (hdone 0 _ rfl rfl).2 _ rfl
      have s16 : ax.tmps.getD 16 undef = undef := (hdone 1 _ rfl rfl).2 _ rfl
      exact wpOp_val (v := .bool false) (w' := wx) rfl rfl (by simp [execOp, Act.eval, s11, s16, go_sem]) ⟨_, rfl, tab_put rfl hs rfl rfl, hS.same 12 rfl⟩
     ·
      have s17 : ax.tmps.getD 17 undef = .bool false := (hdone 0 _ rfl rfl).2 _ rfl
      exact wpOp_val (v := .bool false) (w' := wx) rfl rfl (by simp [execOp, Act.eval, s17]) ⟨_, rfl, tab_put rfl hs rfl rfl, hS.same 13 rfl⟩
     ·
      have hg : ax.tmps.getD 18 undef = .bool false := (hdone 0 _ rfl rfl).2 _ rfl
      exact wpOp_no rfl (wanted_no 13 18 false hg (by rw [hs]; omega) rfl rfl rfl rfl) ⟨_, rfl, tab_put rfl hs rfl rfl, hS.same 14 rfl⟩
     ·
      have hg : ax.tmps.getD 18 undef = .bool false := (hdone 1 _ rfl rfl).2 _ rfl
      exact wpOp_no rfl (wanted_no 13 18 false hg (by rw [hs]; omega) rfl rfl rfl rfl) ⟨_, rfl, tab_put rfl hs rfl rfl, hS.same 15 rfl⟩
     ·
      have hg : ax.tmps.getD 18 undef = .bool false := (hdone 0 _ rfl rfl).2 _ rfl
      exact wpOp_no rfl (wanted_no 13 18 false hg (by rw [hs]; omega) rfl rfl rfl rfl) ⟨_, rfl, tab_put rfl hs rfl rfl, hS.same 16 rfl⟩
     ·
      have hg : ax.tmps.getD 18 undef = .bool false := (hdone 2 _ rfl rfl).2 _ rfl
      exact wpOp_no rfl (wanted_no 13 18 false hg (by rw [hs]; omega) rfl rfl rfl rfl) ⟨_, rfl, tab_put rfl hs rfl rfl, hS.same 17 rfl⟩
     ·
      have hg : ax.tmps.getD 18 undef = .bool false := (hdone 3 _ rfl rfl).2 _ rfl
      exact wpOp_no rfl (wanted_no 13 18 false hg (by rw [hs]; omega) rfl rfl rfl rfl) ⟨_, rfl, tab_put rfl hs rfl rfl, hS.same 18 rfl⟩
     ·
      have s18 : ax.tmps.getD 18 undef = .bool false := (hdone 0 _ rfl rfl).2 _ rfl
      have s23 : ax.tmps.getD 23 undef = undef := (hdone 1 _ rfl rfl).2 _ rfl
      exact wpOp_val (v := .bool false) (w' := wx) rfl rfl (by simp [execOp, Act.eval, s18, s23, go_sem]) ⟨_, rfl, tab_put rfl hs rfl rfl, hS.same 19 rfl⟩
     ·
      have s24 : ax.tmps.getD 24 undef = .bool false := (hdone 0 _ rfl rfl).2 _ rfl
      exact wpOp_val (v := .bool false) (w' := wx) rfl rfl (by simp [execOp, Act.eval, s24]) ⟨_, rfl, tab_put rfl hs rfl rfl, hS.same 20 rfl⟩
   intro a2 w2 fl d2 z2 rest2 R2 hfl hS
   obtain ⟨B2, n2, hBs, hAs, hPs⟩ := hS.finish hfl rfl
   replace d2 := d2.trans d1
   replace z2 := z2.trans z1
   obtain ⟨⟨l_g1_2, b_g1_2⟩, ⟨l_g2_2, b_g2_2⟩, -⟩ := hBs
   replace l_g1_2 : g1 < w1.heap.size := l_g1_2
   replace l_g2_2 : g2 < w1.heap.size := l_g2_2
   have s4_2 : a2.tmps.getD 4 undef = .bool false := R2 20 _ rfl
   clear R2 rest2 hS hfl hPs hAs
   clear u_g1 u_g2 s4_1 b_g1_1 b_g2_1 d1 z1
   refine wp_ret ?_
   try simp only [Exit.inBlock, Exit.then]
   refine bodyPost_ret (res_t (fn := Try.f40) rfl s4_2) d2 ?_
   have HE : Value.bool false = .bool (Rg.inB ⟨⟨a, b⟩, ⟨c, d⟩⟩ ⟨⟨p, q⟩, ⟨r, t⟩⟩) := by show _ = Value.bool (Rg.mayB ⟨⟨a, b⟩, ⟨c, d⟩⟩ && (Rg.mayB ⟨⟨p, q⟩, ⟨r, t⟩⟩ && (Pr.inB ⟨a, b⟩ ⟨p, q⟩ && Pr.inB ⟨c, d⟩ ⟨r, t⟩))); rw [Ffk1.out]; rfl
   exact ⟨retV HE, B2⟩
  have Ffk1 := Lib.hid fk1; clear fk1
  cases fk2 : Rg.mayB ⟨⟨p, q⟩, ⟨r, t⟩⟩
  case false =>
   have Ffk2 := Lib.hid fk2; clear fk2
   refine wp_regx (SX W w1.heap.size [⟨g1, 60, (cR a b c d), none, #[]⟩, ⟨g2, 60, (cR p q r t), none, #[]⟩] []) (TabX [fun vx => vx = .agg #[.int .u64 a, .int .u64 b, .int .i64 c, .int .i64 d], fun vx => vx = .bool true, fun vx => vx = .bool true, fun vx => vx = .agg #[.int .u64 p, .int .u64 q, .int .i64 r, .int .i64 t], fun vx => vx = .bool false, fun vx => vx = .bool false, fun vx => vx = .bool false, fun vx => vx = undef, fun vx => vx = undef, fun vx => vx = undef, fun vx => vx = undef, fun vx => vx = undef, fun vx => vx = .bool false, fun vx => vx = .bool false, fun vx => vx = undef, fun vx => vx = undef, fun vx => vx = undef, fun vx => vx = undef, fun vx => vx = undef, fun vx => vx = .bool false, fun vx => vx = .bool false]) (by kernel_rfl) (back_of (by kernel_rfl)) (dst_of (by kernel_rfl)) (in_ofz (by kernel_rfl) z1) (fun fl w1 hfl hw => SX.start' hw B1 hfl rfl ⟨b_g1_1, b_g2_1, trivial⟩) ?h3 ?_
   case h3 =>
     intro ix ox ax wx fl ho hS hfi clo hsz hrest hdone hund
     have t2 := (hrest 2 (not_of (by kernel_rfl))).trans u_g1
     have t3 := (hrest 3 (not_of (by kernel_rfl))).trans u_g2
     have hs : ax.tmps.size = 25 := hsz.trans z1
     have hi : ix < 21 := (Array.getElem?_eq_some_iff.1 ho).1
     clear hrest hsz hund
     obtain rfl | rfl | rfl | rfl | rfl | rfl | rfl | rfl | rfl | rfl | rfl | rfl | rfl | rfl | rfl | rfl | rfl | rfl | rfl | rfl | rfl : ix = 0 ∨ ix = 1 ∨ ix = 2 ∨ ix = 3 ∨ ix = 4 ∨ ix = 5 ∨ ix = 6 ∨ ix = 7 ∨ ix = 8 ∨ ix = 9 ∨ ix = 10 ∨ ix = 11 ∨ ix = 12 ∨ ix = 13 ∨ ix = 14 ∨ ix = 15 ∨ ix = 16 ∨ ix = 17 ∨ ix = 18 ∨ ix = 19 ∨ ix = 20 := by omega
     all_goals obtain rfl := Option.some.inj (show some _ = some ox from ho)
     ·
      have hr := hS.rowNi 0 rfl
      exact wpOp_val (v := .agg #[.int .u64 a, .int .u64 b, .int .i64 c, .int .i64 d]) (w' := wx) rfl rfl (exec_loadR 60 _ rfl g1 0 (show ax.eval (.tmp 2) = .pointer (some ⟨g1, 0, none⟩) from t2) hr [.int .u64 a, .int .u64 b, .int .i64 c, .int .i64 d] rfl _ Try.underlying60 rfl (by kernel_rfl)) ⟨_, rfl, tab_put rfl hs rfl rfl, hS.same 0 rfl⟩
     ·
      have s5 : ax.tmps.getD 5 undef = .agg #[.int .u64 a, .int .u64 b, .int .i64 c, .int .i64 d] := (hdone 0 _ rfl rfl).2 _ rfl
      refine wpOp_call (args := #[.agg #[.int .u64 a, .int .u64 b, .int .i64 c, .int .i64 d]]) rfl rfl (exec_call rfl rfl rfl (args1 (show ax.eval (.tmp 5) = .agg #[.int .u64 a, .int .u64 b, .int .i64 c, .int .i64 d] from s5)) Try.func30 (by decide +kernel) rfl) ?_
      · refine (may_n a b c d wx).mono ?_
        rintro e w' ⟨rfl, b9⟩
        exact ⟨_, rfl, _, rfl, tab_put rfl hs rfl (congrArg Value.bool Ffk1.out), hS.quiet 1 rfl b9⟩
     ·
      have s6 : ax.tmps.getD 6 undef = .bool true := (hdone 0 _ rfl rfl).2 _ rfl
      exact wpOp_val (v := .bool true) (w' := wx) rfl rfl (by simp [execOp, Act.eval, s6]) ⟨_, rfl, tab_put rfl hs rfl rfl, hS.same 2 rfl⟩
     ·
      have hg : ax.tmps.getD 7 undef = .bool true := (hdone 0 _ rfl rfl).2 _ rfl
      have hr := hS.rowNi 1 rfl
      exact wpOp_valw (v := .agg #[.int .u64 p, .int .u64 q, .int .i64 r, .int .i64 t]) (w' := wx) rfl (wanted_yes 2 7 true hg (by rw [hs]; omega) rfl rfl rfl rfl) (exec_loadR 60 _ rfl g2 0 (show ax.eval (.tmp 3) = .pointer (some ⟨g2, 0, none⟩) from t3) hr [.int .u64 p, .int .u64 q, .int .i64 r, .int .i64 t] rfl _ Try.underlying60 rfl (by kernel_rfl)) ⟨_, rfl, tab_put rfl hs rfl rfl, hS.same 3 rfl⟩
     ·
      have hg : ax.tmps.getD 7 undef = .bool true := (hdone 1 _ rfl rfl).2 _ rfl
      have s8 : ax.tmps.getD 8 undef = .agg #[.int .u64 p, .int .u64 q, .int .i64 r, .int .i64 t] := (hdone 0 _ rfl rfl).2 _ rfl
      refine wpOp_callw (args := #[.agg #[.int .u64 p, .int .u64 q, .int .i64 r, .int .i64 t]]) rfl (wanted_yes 2 7 true hg (by rw [hs]; omega) rfl rfl rfl rfl) (exec_call rfl rfl rfl (args1 (show ax.eval (.tmp 8) = .agg #[.int .u64 p, .int .u64 q, .int .i64 r, .int .i64 t] from s8)) Try.func30 (by decide +kernel) rfl) ?_
      · refine (may_n p q r t wx).mono ?_
        rintro e w' ⟨rfl, b9⟩
        exact ⟨_, rfl, _, rfl, tab_put rfl hs rfl (congrArg Value.bool Ffk2.out), hS.quiet 4 rfl b9⟩
     ·
      have s7 : ax.tmps.getD 7 undef = .bool true := (hdone 0 _ rfl rfl).2 _ rfl
      have s9 : ax.tmps.getD 9 undef = .bool false := (hdone 1 _ rfl rfl).2 _ rfl
      exact wpOp_val (v := .bool false) (w' := wx) rfl rfl (by simp [execOp, Act.eval, s7, s9, go_sem]) ⟨_, rfl, tab_put rfl hs rfl rfl, hS.same 5 rfl⟩
     ·
      have s10 : ax.tmps.getD 10 undef = .bool false := (hdone 0 _ rfl rfl).2 _ rfl
      exact wpOp_val (v := .bool false) (w' := wx) rfl rfl (by simp [execOp, Act.eval, s10]) ⟨_, rfl, tab_put rfl hs rfl rfl, hS.same 6 rfl⟩
     ·
      have hg : ax.tmps.getD 11 undef = .bool false := (hdone 0 _ rfl rfl).2 _ rfl
      exact wpOp_no rfl (wanted_no 6 11 false hg (by rw [hs]; omega) rfl rfl rfl rfl) ⟨_, rfl, tab_put rfl hs rfl rfl, hS.same 7 rfl⟩
     ·
      have hg : ax.tmps.getD 11 undef = .bool false := (hdone 1 _ rfl rfl).2 _ rfl
      exact wpOp_no rfl (wanted_no 6 11 false hg (by rw [hs]; omega) rfl rfl rfl rfl) ⟨_, rfl, tab_put rfl hs rfl rfl, hS.same 8 rfl⟩
     ·
      have hg : ax.tmps.getD 11 undef = .bool false := (hdone 0 _ rfl rfl).2 _ rfl
      exact wpOp_no rfl (wanted_no 6 11 false hg (by rw [hs]; omega) rfl rfl rfl rfl) ⟨_, rfl, tab_put rfl hs rfl rfl, hS.same 9 rfl⟩
     ·
      have hg : ax.tmps.getD 11 undef = .bool false := (hdone 2 _ rfl rfl).2 _ rfl
      exact wpOp_no rfl (wanted_no 6 11 false hg (by rw [hs]; omega) rfl rfl rfl rfl) ⟨_, rfl, tab_put rfl hs rfl rfl, hS.same 10 rfl⟩
     ·
      have hg : ax.tmps.getD 11 undef = .bool false := (hdone 3 _ rfl rfl).2 _ rfl
      exact wpOp_no rfl (wanted_no 6 11 false hg (by rw [hs]; omega) rfl rfl rfl rfl) ⟨_, rfl, tab_put rfl hs rfl rfl, hS.same 11 rfl⟩
     ·
      have s11 : ax.tmps.getD 11 undef = .bool false := (hdone 0 _ rfl rfl).2 _ rfl
      have s16 : ax.tmps.getD 16 undef = undef := (hdone 1 _ rfl rfl).2 _ rfl
      exact wpOp_val (v := .bool false) (w' := wx) rfl rfl (by simp [execOp, Act.eval, s11, s16, go_sem]) ⟨_, rfl, tab_put rfl hs rfl rfl, hS.same 12 rfl⟩
     ·
      have s17 : ax.tmps.getD 17 undef = .bool false := (hdone 0 _ rfl rfl).2 _ rfl
      exact wpOp_val (v := .bool false) (w' := wx) rfl rfl (by simp [execOp, Act.eval, s17]) ⟨_, rfl, tab_put rfl hs rfl rfl, hS.same 13 rfl⟩
     ·
      have hg : ax.tmps.getD 18 undef = .bool false := (hdone 0 _ rfl rfl).2 _ rfl
      exact wpOp_no rfl (wanted_no 13 18 false hg (by rw [hs]; omega) rfl rfl rfl rfl) ⟨_, rfl, tab_put rfl hs rfl rfl, hS.same 14 rfl⟩
     ·
      have hg : ax.tmps.getD 18 undef = .bool false := (hdone 1 _ rfl rfl).2 _ rfl
      exact wpOp_no rfl (wanted_no 13 18 false hg (by rw [hs]; omega) rfl rfl rfl rfl) ⟨_, rfl, tab_put rfl hs rfl rfl, hS.same 15 rfl⟩
     ·
      have hg : ax.tmps.getD 18 undef = .bool false := (hdone 0 _ rfl rfl).2 _ rfl
      exact wpOp_no rfl (wanted_no 13 18 false hg (by rw [hs]; omega) rfl rfl rfl rfl) ⟨_, rfl, tab_put rfl hs rfl rfl, hS.same 16 rfl⟩
     ·
      have hg : ax.tmps.getD 18 undef = .bool false := (hdone 2 _ rfl rfl).2 _ rfl
      exact wpOp_no rfl (wanted_no 13 18 false hg (by rw [hs]; omega) rfl rfl rfl rfl) ⟨_, rfl, tab_put rfl hs rfl rfl, hS.same 17 rfl⟩
     ·
      have hg : ax.tmps.getD 18 undef = .bool false := (hdone 3 _ rfl rfl).2 _ rfl
      exact wpOp_no rfl (wanted_no 13 18 false hg (by rw [hs]; omega) rfl rfl rfl rfl) ⟨_, rfl, tab_put rfl hs rfl rfl, hS.same 18 rfl⟩
     ·
      have s18 : ax.tmps.getD 18 undef = .bool false := (hdone 0 _ rfl rfl).2 _ rfl
      have s23 : ax.tmps.getD 23 undef = undef := (hdone 1 _ rfl rfl).2 _ rfl
      exact wpOp_val (v := .bool false) (w' := wx) rfl rfl (by simp [execOp, Act.eval, s18, s23, go_sem]) ⟨_, rfl, tab_put rfl hs rfl rfl, hS.same 19 rfl⟩
     ·
      have s24 : ax.tmps.getD 24 undef = .bool false := (hdone 0 _ rfl rfl).2 _ rfl
      exact wpOp_val (v := .bool false) (w' := wx) rfl rfl (by simp [execOp, Act.eval, s24]) ⟨_, rfl, tab_put rfl hs rfl rfl, hS.same 20 rfl⟩
   intro a2 w2 fl d2 z2 rest2 R2 hfl hS
   obtain ⟨B2, n2, hBs, hAs, hPs⟩ := hS.finish hfl rfl
   replace d2 := d2.trans d1
   replace z2 := z2.trans z1
   obtain ⟨⟨l_g1_2, b_g1_2⟩, ⟨l_g2_2, b_g2_2⟩, -⟩ := hBs
   replace l_g1_2 : g1 < w1.heap.size := l_g1_2
   replace l_g2_2 : g2 < w1.heap.size := l_g2_2
   have s4_2 : a2.tmps.getD 4 undef = .bool false := R2 20 _ rfl
   clear R2 rest2 hS hfl hPs hAs
   clear u_g1 u_g2 s4_1 b_g1_1 b_g2_1 d1 z1
   refine wp_ret ?_
   try simp only [Exit.inBlock, Exit.then]
   refine bodyPost_ret (res_t (fn := Try.f40) rfl s4_2) d2 ?_
   have HE : Value.bool false = .bool (Rg.inB ⟨⟨a, b⟩, ⟨c, d⟩⟩ ⟨⟨p, q⟩, ⟨r, t⟩⟩) := by show _ = Value.bool (Rg.mayB ⟨⟨a, b⟩, ⟨c, d⟩⟩ && (Rg.mayB ⟨⟨p, q⟩, ⟨r, t⟩⟩ && (Pr.inB ⟨a, b⟩ ⟨p, q⟩ && Pr.inB ⟨c, d⟩ ⟨r, t⟩))); rw [Ffk1.out, Ffk2.out]; rfl
   exact ⟨retV HE, B2⟩
  have Ffk2 := Lib.hid fk2; clear fk2
  cases fk3 : Pr.inB ⟨a, b⟩ ⟨p, q⟩
  case false =>
   have Ffk3 := Lib.hid fk3; clear fk3
   refine wp_regx (SX W w1.heap.size [⟨g1, 60, (cR a b c d), none, #[]⟩, ⟨g2, 60, (cR p q r t), none, #[]⟩] []) (TabX [fun vx => vx = .agg #[.int .u64 a, .int .u64 b, .int .i64 c, .int .i64 d], fun vx => vx = .bool true, fun vx => vx = .bool true, fun vx => vx = .agg #[.int .u64 p, .int .u64 q, .int .i64 r, .int .i64 t], fun vx => vx = .bool true, fun vx => vx = .bool true, fun vx => vx = .bool true, fun vx => vx = .agg #[.int .u64 a, .int .u64 b, .int .i64 c, .int .i64 d], fun vx => vx = .agg #[.int .u64 a, .int .u64 b], fun vx => vx = .agg #[.int .u64 p, .int .u64 q, .int .i64 r, .int .i64 t], fun vx => vx = .agg #[.int .u64 p, .int .u64 q], fun vx => vx = .bool false, fun vx => vx = .bool false, fun vx => vx = .bool false, fun vx => vx = undef, fun vx => vx = undef, fun vx => vx = undef, fun vx => vx = undef, fun vx => vx = undef, fun vx => vx = .bool false, fun vx => vx = .bool false]) (by kernel_rfl) (back_of (by kernel_rfl)) (dst_of (by kernel_rfl)) (in_ofz (by kernel_rfl) z1) (fun fl w1 hfl hw => SX.start' hw B1 hfl rfl ⟨b_g1_1, b_g2_1, trivial⟩) ?h4 ?_
   case h4 =>
     intro ix ox ax wx fl ho hS hfi clo hsz hrest hdone hund
     have t2 := (hrest 2 (not_of (by kernel_rfl))).trans u_g1
     have t3 := (hrest 3 (not_of (by kernel_rfl))).trans u_g2
     have hs : ax.tmps.size = 25 := hsz.trans z1
     have hi : ix < 21 := (Array.getElem?_eq_some_iff.1 ho).1
     clear hrest hsz hund
     obtain rfl | rfl | rfl | rfl | rfl | rfl | rfl | rfl | rfl | rfl | rfl | rfl | rfl | rfl | rfl | rfl | rfl | rfl | rfl | rfl | rfl : ix = 0 ∨ ix = 1 ∨ ix = 2 ∨ ix = 3 ∨ ix = 4 ∨ ix = 5 ∨ ix = 6 ∨ ix = 7 ∨ ix = 8 ∨ ix = 9 ∨ ix = 10 ∨ ix = 11 ∨ ix = 12 ∨ ix = 13 ∨ ix = 14 ∨ ix = 15 ∨ ix = 16 ∨ ix = 17 ∨ ix = 18 ∨ ix = 19 ∨ ix = 20 := by omega
     all_goals obtain rfl := Option.some.inj (show some _ = some ox from ho)
     ·
      have hr := hS.rowNi 0 rfl
      exact wpOp_val (v := .agg #[.int .u64 a, .int .u64 b, .int .i64 c, .int .i64 d]) (w' := wx) rfl rfl (exec_loadR 60 _ rfl g1 0 (show ax.eval (.tmp 2) = .pointer (some ⟨g1, 0, none⟩) from t2) hr [.int .u64 a, .int .u64 b, .int .i64 c, .int .i64 d] rfl _ Try.underlying60 rfl (by kernel_rfl)) ⟨_, rfl, tab_put rfl hs rfl rfl, hS.same 0 rfl⟩
     ·
      have s5 : ax.tmps.getD 5 undef = .agg #[.int .u64 a, .int .u64 b, .int .i64 c, .int .i64 d] := (hdone 0 _ rfl rfl).2 _ rfl
      refine wpOp_call (args := #[.agg #[.int .u64 a, .int .u64 b, .int .i64 c, .int .i64 d]]) rfl rfl (exec_call rfl rfl rfl (args1 (show ax.eval (.tmp 5) = .agg #[.int .u64 a, .int .u64 b, .int .i64 c, .int .i64 d] from s5)) Try.func30 (by decide +kernel) rfl) ?_
      · refine (may_n a b c d wx).mono ?_
        rintro e w' ⟨rfl, b9⟩
        exact ⟨_, rfl, _, rfl, tab_put rfl hs rfl (congrArg Value.bool Ffk1.out), hS.quiet 1 rfl b9⟩
     ·
      have s6 : ax.tmps.getD 6 undef = .bool true := (hdone 0 _ rfl rfl).2 _ rfl
      exact wpOp_val (v := .bool true) (w' := wx) rfl rfl (by simp [execOp, Act.eval, s6]) ⟨_, rfl, tab_put rfl hs rfl rfl, hS.same 2 rfl⟩
     ·
      have hg : ax.tmps.getD 7 undef = .bool true := (hdone 0 _ rfl rfl).2 _ rfl
      have hr := hS.rowNi 1 rfl
      exact wpOp_valw (v := .agg #[.int .u64 p, .int .u64 q, .int .i64 r, .int .i64 t]) (w' := wx) rfl (wanted_yes 2 7 true hg (by rw [hs]; omega) rfl rfl rfl rfl) (exec_loadR 60 _ rfl g2 0 (show ax.eval (.tmp 3) = .pointer (some ⟨g2, 0, none⟩) from t3) hr [.int .u64 p, .int .u64 q, .int .i64 r, .int .i64 t] rfl _ Try.underlying60 rfl (by kernel_rfl)) ⟨_, rfl, tab_put rfl hs rfl rfl, hS.same 3 rfl⟩
     ·
      have hg : ax.tmps.getD 7 undef = .bool true := (hdone 1 _ rfl rfl).2 _ rfl
      have s8 : ax.tmps.getD 8 undef = .agg #[.int .u64 p, .int .u64 q, .int .i64 r, .int .i64 t] := (hdone 0 _ rfl rfl).2 _ rfl
      refine wpOp_callw (args := #[.agg #[.int .u64 p, .int .u64 q, .int .i64 r, .int .i64 t]]) rfl (wanted_yes 2 7 true hg (by rw [hs]; omega) rfl rfl rfl rfl) (exec_call rfl rfl rfl (args1 (show ax.eval (.tmp 8) = .agg #[.int .u64 p, .int .u64 q, .int .i64 r, .int .i64 t] from s8)) Try.func30 (by decide +kernel) rfl) ?_
      · refine (may_n p q r t wx).mono ?_
        rintro e w' ⟨rfl, b9⟩
        exact ⟨_, rfl, _, rfl, tab_put rfl hs rfl (congrArg Value.bool Ffk2.out), hS.quiet 4 rfl b9⟩
     ·
      have s7 : ax.tmps.getD 7 undef = .bool true := (hdone 0 _ rfl rfl).2 _ rfl
      have s9 : ax.tmps.getD 9 undef = .bool true := (hdone 1 _ rfl rfl).2 _ rfl
      exact wpOp_val (v := .bool true) (w' := wx) rfl rfl (by simp [execOp, Act.eval, s7, s9, go_sem]) ⟨_, rfl, tab_put rfl hs rfl rfl, hS.same 5 rfl⟩
     ·
      have s10 : ax.tmps.getD 10 undef = .bool true := (hdone 0 _ rfl rfl).2 _ rfl
      exact wpOp_val (v := .bool true) (w' := wx) rfl rfl (by simp [execOp, Act.eval, s10]) ⟨_, rfl, tab_put rfl hs rfl rfl, hS.same 6 rfl⟩
     ·
      have hg : ax.tmps.getD 11 undef = .bool true := (hdone 0 _ rfl rfl).2 _ rfl
      have hr := hS.rowNi 0 rfl
      exact wpOp_valw (v := .agg #[.int .u64 a, .int .u64 b, .int .i64 c, .int .i64 d]) (w' := wx) rfl (wanted_yes 6 11 true hg (by rw [hs]; omega) rfl rfl rfl rfl) (exec_loadR 60 _ rfl g1 0 (show ax.eval (.tmp 2) = .pointer (some ⟨g1, 0, none⟩) from t2) hr [.int .u64 a, .int .u64 b, .int .i64 c, .int .i64 d] rfl _ Try.underlying60 rfl (by kernel_rfl)) ⟨_, rfl, tab_put rfl hs rfl rfl, hS.same 7 rfl⟩
     ·
      have hg : ax.tmps.getD 11 undef = .bool true := (hdone 1 _ rfl rfl).2 _ rfl
      have s12 : ax.tmps.getD 12 undef = .agg #[.int .u64 a, .int .u64 b, .int .i64 c, .int .i64 d] := (hdone 0 _ rfl rfl).2 _ rfl
      refine wpOp_callw (args := #[.agg #[.int .u64 a, .int .u64 b, .int .i64 c, .int .i64 d]]) rfl (wanted_yes 6 11 true hg (by rw [hs]; omega) rfl rfl rfl rfl) (exec_call rfl rfl rfl (args1 (show ax.eval (.tmp 12) = .agg #[.int .u64 a, .int .u64 b, .int .i64 c, .int .i64 d] from s12)) Try.func61 (by decide +kernel) rfl) ?_
      · refine (unsigned_n a b c d wx).mono ?_
        rintro e w' ⟨rfl, b9⟩
        exact ⟨_, rfl, _, rfl, tab_put rfl hs rfl rfl, hS.quiet 8 rfl b9⟩
     ·
      have hg : ax.tmps.getD 11 undef = .bool true := (hdone 0 _ rfl rfl).2 _ rfl
      have hr := hS.rowNi 1 rfl
      exact wpOp_valw (v := .agg #[.int .u64 p, .int .u64 q, .int .i64 r, .int .i64 t]) (w' := wx) rfl (wanted_yes 6 11 true hg (by rw [hs]; omega) rfl rfl rfl rfl) (exec_loadR 60 _ rfl g2 0 (show ax.eval (.tmp 3) = .pointer (some ⟨g2, 0, none⟩) from t3) hr [.int .u64 p, .int .u64 q, .int .i64 r, .int .i64 t] rfl _ Try.underlying60 rfl (by kernel_rfl)) ⟨_, rfl, tab_put rfl hs rfl rfl, hS.same 9 rfl⟩
     ·
      have hg : ax.tmps.getD 11 undef = .bool true := (hdone 2 _ rfl rfl).2 _ rfl
      have s14 : ax.tmps.getD 14 undef = .agg #[.int .u64 p, .int .u64 q, .int .i64 r, .int .i64 t] := (hdone 0 _ rfl rfl).2 _ rfl
      refine wpOp_callw (args := #[.agg #[.int .u64 p, .int .u64 q, .int .i64 r, .int .i64 t]]) rfl (wanted_yes 6 11 true hg (by rw [hs]; omega) rfl rfl rfl rfl) (exec_call rfl rfl rfl (args1 (show ax.eval (.tmp 14) = .agg #[.int .u64 p, .int .u64 q, .int .i64 r, .int .i64 t] from s14)) Try.func61 (by decide +kernel) rfl) ?_
      · refine (unsigned_n p q r t wx).mono ?_
        rintro e w' ⟨rfl, b9⟩
        exact ⟨_, rfl, _, rfl, tab_put rfl hs rfl rfl, hS.quiet 10 rfl b9⟩
     ·
      have hg : ax.tmps.getD 11 undef = .bool true := (hdone 3 _ rfl rfl).2 _ rfl
      have s13 : ax.tmps.getD 13 undef = .agg #[.int .u64 a, .int .u64 b] := (hdone 0 _ rfl rfl).2 _ rfl
      have s15 : ax.tmps.getD 15 undef = .agg #[.int .u64 p, .int .u64 q] := (hdone 1 _ rfl rfl).2 _ rfl
      refine wpOp_callw (args := #[.agg #[.int .u64 a, .int .u64 b], .agg #[.int .u64 p, .int .u64 q]]) rfl (wanted_yes 6 11 true hg (by rw [hs]; omega) rfl rfl rfl rfl) (exec_call rfl rfl rfl (args2 (show ax.eval (.tmp 13) = .agg #[.int .u64 a, .int .u64 b] from s13) (show ax.eval (.tmp 15) = .agg #[.int .u64 p, .int .u64 q] from s15)) Try.func86 (by decide +kernel) rfl) ?_
      · refine (inU_n a b p q wx).mono ?_
        rintro e w' ⟨rfl, b9⟩
        exact ⟨_, rfl, _, rfl, tab_put rfl hs rfl (congrArg Value.bool Ffk3.out), hS.quiet 11 rfl b9⟩
     ·
      have s11 : ax.tmps.getD 11 undef = .bool true := (hdone 0 _ rfl rfl).2 _ rfl
      have s16 : ax.tmps.getD 16 undef = .bool false := (hdone 1 _ rfl rfl).2 _ rfl
      exact wpOp_val (v := .bool false) (w' := wx) rfl rfl (by simp [execOp, Act.eval, s11, s16, go_sem]) ⟨_, rfl, tab_put rfl hs rfl rfl, hS.same 12 rfl⟩
     ·
      have s17 : ax.tmps.getD 17 undef = .bool false := (hdone 0 _ rfl rfl).2 _ rfl
      exact wpOp_val (v := .bool false) (w' := wx) rfl rfl (by simp [execOp, Act.eval, s17]) ⟨_, rfl, tab_put rfl hs rfl rfl, hS.same 13 rfl⟩
     ·
      have hg : ax.tmps.getD 18 undef = .bool false := (hdone 0 _ rfl rfl).2 _ rfl
      exact wpOp_no rfl (wanted_no 13 18 false hg (by rw [hs]; omega) rfl rfl rfl rfl) ⟨_, rfl, tab_put rfl hs rfl rfl, hS.same 14 rfl⟩
     ·
      have hg : ax.tmps.getD 18 undef = .bool false := (hdone 1 _ rfl rfl).2 _ rfl
      exact wpOp_no rfl (wanted_no 13 18 false hg (by rw [hs]; omega) rfl rfl rfl rfl) ⟨_, rfl, tab_put rfl hs rfl rfl, hS.same 15 rfl⟩
     ·
      have hg : ax.tmps.getD 18 undef = .bool false := (hdone 0 _ rfl rfl).2 _ rfl
      exact wpOp_no rfl (wanted_no 13 18 false hg (by rw [hs]; omega) rfl rfl rfl rfl) ⟨_, rfl, tab_put rfl hs rfl rfl, hS.same 16 rfl⟩
     ·
      have hg : ax.tmps.getD 18 undef = .bool false := (hdone 2 _ rfl rfl).2 _ rfl
      exact wpOp_no rfl (wanted_no 13 18 false hg (by rw [hs]; omega) rfl rfl rfl rfl) ⟨_, rfl, tab_put rfl hs rfl rfl, hS.same 17 rfl⟩
     ·
      have hg : ax.tmps.getD 18 undef = .bool false := (hdone 3 _ rfl rfl).2 _ rfl
      exact wpOp_no rfl (wanted_no 13 18 false hg (by rw [hs]; omega) rfl rfl rfl rfl) ⟨_, rfl, tab_put rfl hs rfl rfl, hS.same 18 rfl⟩
     ·
      have s18 : ax.tmps.getD 18 undef = .bool false := (hdone 0 _ rfl rfl).2 _ rfl
      have s23 : ax.tmps.getD 23 undef = undef := (hdone 1 _ rfl rfl).2 _ rfl
      exact wpOp_val (v := .bool false) (w' := wx) rfl rfl (by simp [execOp, Act.eval, s18, s23, go_sem]) ⟨_, rfl, tab_put rfl hs rfl rfl, hS.same 19 rfl⟩
     ·
      have s24 : ax.tmps.getD 24 undef = .bool false := (hdone 0 _ rfl rfl).2 _ rfl
      exact wpOp_val (v := .bool false) (w' := wx) rfl rfl (by simp [execOp, Act.eval, s24]) ⟨_, rfl, tab_put rfl hs rfl rfl, hS.same 20 rfl⟩
   intro a2 w2 fl d2 z2 rest2 R2 hfl hS
   obtain ⟨B2, n2, hBs, hAs, hPs⟩ := hS.finish hfl rfl
   replace d2 := d2.trans d1
   replace z2 := z2.trans z1
   obtain ⟨⟨l_g1_2, b_g1_2⟩, ⟨l_g2_2, b_g2_2⟩, -⟩ := hBs
   replace l_g1_2 : g1 < w1.heap.size := l_g1_2
   replace l_g2_2 : g2 < w1.heap.size := l_g2_2
   have s4_2 : a2.tmps.getD 4 undef = .bool false := R2 20 _ rfl
   clear R2 rest2 hS hfl hPs hAs
   clear u_g1 u_g2 s4_1 b_g1_1 b_g2_1 d1 z1
   refine wp_ret ?_
   try simp only [Exit.inBlock, Exit.then]
   refine bodyPost_ret (res_t (fn := Try.f40) rfl s4_2) d2 ?_
   have HE : Value.bool false = .bool (Rg.inB ⟨⟨a, b⟩, ⟨c, d⟩⟩ ⟨⟨p, q⟩, ⟨r, t⟩⟩) := by show _ = Value.bool (Rg.mayB ⟨⟨a, b⟩, ⟨c, d⟩⟩ && (Rg.mayB ⟨⟨p, q⟩, ⟨r, t⟩⟩ && (Pr.inB ⟨a, b⟩ ⟨p, q⟩ && Pr.inB ⟨c, d⟩ ⟨r, t⟩))); rw [Ffk1.out, Ffk2.out, Ffk3.out]; rfl
   exact ⟨retV HE, B2⟩
  have Ffk3 := Lib.hid fk3; clear fk3
  cases fk4 : Pr.inB ⟨c, d⟩ ⟨r, t⟩
  case false =>
   have Ffk4 := Lib.hid fk4; clear fk4
   refine wp_regx (SX W w1.heap.size [⟨g1, 60, (cR a b c d), none, #[]⟩, ⟨g2, 60, (cR p q r t), none, #[]⟩] []) (TabX [fun vx => vx = .agg #[.int .u64 a, .int .u64 b, .int .i64 c, .int .i64 d], fun vx => vx = .bool true, fun vx => vx = .bool true, fun vx => vx = .agg #[.int .u64 p, .int .u64 q, .int .i64 r, .int .i64 t], fun vx => vx = .bool true, fun vx => vx = .bool true, fun vx => vx = .bool true, fun vx => vx = .agg #[.int .u64 a, .int .u64 b, .int .i64 c, .int .i64 d], fun vx => vx = .agg #[.int .u64 a, .int .u64 b], fun vx => vx = .agg #[.int .u64 p, .int .u64 q, .int .i64 r, .int .i64 t], fun vx => vx = .agg #[.int .u64 p, .int .u64 q], fun vx => vx = .bool true, fun vx => vx = .bool true, fun vx => vx = .bool true, fun vx => vx = .agg #[.int .u64 a, .int .u64 b, .int .i64 c, .int .i64 d], fun vx => vx = .agg #[.int .i64 c, .int .i64 d], fun vx => vx = .agg #[.int .u64 p, .int .u64 q, .int .i64 r, .int .i64 t], fun vx => vx = .agg #[.int .i64 r, .int .i64 t], fun vx => vx = .bool false, fun vx => vx = .bool false, fun vx => vx = .bool false]) (by kernel_rfl) (back_of (by kernel_rfl)) (dst_of (by kernel_rfl)) (in_ofz (by kernel_rfl) z1) (fun fl w1 hfl hw => SX.start' hw B1 hfl rfl ⟨b_g1_1, b_g2_1, trivial⟩) ?h5 ?_
   case h5 =>
     intro ix ox ax wx fl ho hS hfi clo hsz hrest hdone hund
     have t2 := (hrest 2 (not_of (by kernel_rfl))).trans u_g1
     have t3 := (hrest 3 (not_of (by kernel_rfl))).trans u_g2
     have hs : ax.tmps.size = 25 := hsz.trans z1
     have hi : ix < 21 := (Array.getElem?_eq_some_iff.1 ho).1
     clear hrest hsz hund
     obtain rfl | rfl | rfl | rfl | rfl | rfl | rfl | rfl | rfl | rfl | rfl | rfl | rfl | rfl | rfl | rfl | rfl | rfl | rfl | rfl | rfl : ix = 0 ∨ ix = 1 ∨ ix = 2 ∨ ix = 3 ∨ ix = 4 ∨ ix = 5 ∨ ix = 6 ∨ ix = 7 ∨ ix = 8 ∨ ix = 9 ∨ ix = 10 ∨ ix = 11 ∨ ix = 12 ∨ ix = 13 ∨ ix = 14 ∨ ix = 15 ∨ ix = 16 ∨ ix = 17 ∨ ix = 18 ∨ ix = 19 ∨ ix = 20 := by omega
     all_goals obtain rfl := Option.some.inj (show some _ = some ox from ho)
     ·
      have hr := hS.rowNi 0 rfl
      exact wpOp_val (v := .agg #[.int .u64 a, .int .u64 b, .int .i64 c, .int .i64 d]) (w' := wx) rfl rfl (exec_loadR 60 _ rfl g1 0 (show ax.eval (.tmp 2) = .pointer (some ⟨g1, 0, none⟩) from t2) hr [.int .u64 a, .int .u64 b, .int .i64 c, .int .i64 d] rfl _ Try.underlying60 rfl (by kernel_rfl)) ⟨_, rfl, tab_put rfl hs rfl rfl, hS.same 0 rfl⟩
     ·
      have s5 : ax.tmps.getD 5 undef = .agg #[.int .u64 a, .int .u64 b, .int .i64 c, .int .i64 d] := (hdone 0 _ rfl rfl).2 _ rfl
      refine wpOp_call (args := #[.agg #[.int .u64 a, .int .u64 b, .int .i64 c, .int .i64 d]]) rfl rfl (exec_call rfl rfl rfl (args1 (show ax.eval (.tmp 5) = .agg #[.int .u64 a, .int .u64 b, .int .i64 c, .int .i64 d] from s5)) Try.func30 (by decide +kernel) rfl) ?_
      · refine (may_n a b c d wx).mono ?_
        rintro e w' ⟨rfl, b9⟩
        exact ⟨_, rfl, _, rfl, tab_put rfl hs rfl (congrArg Value.bool Ffk1.out), hS.quiet 1 rfl b9⟩
     ·
      have s6 : ax.tmps.getD 6 undef = .bool true := (hdone 0 _ rfl rfl).2 _ rfl
      exact wpOp_val (v := .bool true) (w' := wx) rfl rfl (by simp [execOp, Act.eval, s6]) ⟨_, rfl, tab_put rfl hs rfl rfl, hS.same 2 rfl⟩
     ·
      have hg : ax.tmps.getD 7 undef = .bool true := (hdone 0 _ rfl rfl).2 _ rfl
      have hr := hS.rowNi 1 rfl
      exact wpOp_valw (v := .agg #[.int .u64 p, .int .u64 q, .int .i64 r, .int .i64 t]) (w' := wx) rfl (wanted_yes 2 7 true hg (by rw [hs]; omega) rfl rfl rfl rfl) (exec_loadR 60 _ rfl g2 0 (show ax.eval (.tmp 3) = .pointer (some ⟨g2, 0, none⟩) from t3) hr [.int .u64 p, .int .u64 q, .int .i64 r, .int .i64 t] rfl _ Try.underlying60 rfl (by kernel_rfl)) ⟨_, rfl, tab_put rfl hs rfl rfl, hS.same 3 rfl⟩
     ·
      have hg : ax.tmps.getD 7 undef = .bool true := (hdone 1 _ rfl rfl).2 _ rfl
      have s8 : ax.tmps.getD 8 undef = .agg #[.int .u64 p, .int .u64 q, .int .i64 r, .int .i64 t] := (hdone 0 _ rfl rfl).2 _ rfl
      refine wpOp_callw (args := #[.agg #[.int .u64 p, .int .u64 q, .int .i64 r, .int .i64 t]]) rfl (wanted_yes 2 7 true hg (by rw [hs]; omega) rfl rfl rfl rfl) (exec_call rfl rfl rfl (args1 (show ax.eval (.tmp 8) = .agg #[.int .u64 p, .int .u64 q, .int .i64 r, .int .i64 t] from s8)) Try.func30 (by decide +kernel) rfl) ?_
      · refine (may_n p q r t wx).mono ?_
        rintro e w' ⟨rfl, b9⟩
        exact ⟨_, rfl, _, rfl, tab_put rfl hs rfl (congrArg Value.bool Ffk2.out), hS.quiet 4 rfl b9⟩
     ·
      have s7 : ax.tmps.getD 7 undef = .bool true := (hdone 0 _ rfl rfl).2 _ rfl
      have s9 : ax.tmps.getD 9 undef = .bool true := (hdone 1 _ rfl rfl).2 _ rfl
      exact wpOp_val (v := .bool true) (w' := wx) rfl rfl (by simp [execOp, Act.eval, s7, s9, go_sem]) ⟨_, rfl, tab_put rfl hs rfl rfl, hS.same 5 rfl⟩
     ·
      have s10 : ax.tmps.getD 10 undef = .bool true := (hdone 0 _ rfl rfl).2 _ rfl
      exact wpOp_val (v := .bool true) (w' := wx) rfl rfl (by simp [execOp, Act.eval, s10]) ⟨_, rfl, tab_put rfl hs rfl rfl, hS.same 6 rfl⟩
     ·
      have hg : ax.tmps.getD 11 undef = .bool true := (hdone 0 _ rfl rfl).2 _ rfl
      have hr := hS.rowNi 0 rfl
      exact wpOp_valw (v := .agg #[.int .u64 a, .int .u64 b, .int .i64 c, .int .i64 d]) (w' := wx) rfl (wanted_yes 6 11 true hg (by rw [hs]; omega) rfl rfl rfl rfl) (exec_loadR 60 _ rfl g1 0 (show ax.eval (.tmp 2) = .pointer (some ⟨g1, 0, none⟩) from t2) hr [.int .u64 a, .int .u64 b, .int .i64 c, .int .i64 d] rfl _ Try.underlying60 rfl (by kernel_rfl)) ⟨_, rfl, tab_put rfl hs rfl rfl, hS.same 7 rfl⟩
     ·
      have hg : ax.tmps.getD 11 undef = .bool true := (hdone 1 _ rfl rfl).2 _ rfl
      have s12 : ax.tmps.getD 12 undef = .agg #[.int .u64 a, .int .u64 b, .int .i64 c, .int .i64 d] := (hdone 0 _ rfl rfl).2 _ rfl
      refine wpOp_callw (args := #[.agg #[.int .u64 a, .int .u64 b, .int .i64 c, .int .i64 d]]) rfl (wanted_yes 6 11 true hg (by rw [hs]; omega) rfl rfl rfl rfl) (exec_call rfl rfl rfl (args1 (show ax.eval (.tmp 12) = .agg #[.int .u64 a, .int .u64 b, .int .i64 c, .int .i64 d] from s12)) Try.func61 (by decide +kernel) rfl) ?_
      · refine (unsigned_n a b c d wx).mono ?_
        rintro e w' ⟨rfl, b9⟩
        exact ⟨_, rfl, _, rfl, tab_put rfl hs rfl rfl, hS.quiet 8 rfl b9⟩
     ·
      have hg : ax.tmps.getD 11 undef = .bool true := (hdone 0 _ rfl rfl).2 _ rfl
      have hr := hS.rowNi 1 rfl
      exact wpOp_valw (v := .agg #[.int .u64 p, .int .u64 q, .int .i64 r, .int .i64 t]) (w' := wx) rfl (wanted_yes 6 11 true hg (by rw [hs]; omega) rfl rfl rfl rfl) (exec_loadR 60 _ rfl g2 0 (show ax.eval (.tmp 3) = .pointer (some ⟨g2, 0, none⟩) from t3) hr [.int .u64 p, .int .u64 q, .int .i64 r, .int .i64 t] rfl _ Try.underlying60 rfl (by kernel_rfl)) ⟨_, rfl, tab_put rfl hs rfl rfl, hS.same 9 rfl⟩
     ·
      have hg : ax.tmps.getD 11 undef = .bool true := (hdone 2 _ rfl rfl).2 _ rfl
      have s14 : ax.tmps.getD 14 undef = .agg #[.int .u64 p, .int .u64 q, .int .i64 r, .int .i64 t] := (hdone 0 _ rfl rfl).2 _ rfl
      refine wpOp_callw (args := #[.agg #[.int .u64 p, .int .u64 q, .int .i64 r, .int .i64 t]]) rfl (wanted_yes 6 11 true hg (by rw [hs]; omega) rfl rfl rfl rfl) (exec_call rfl rfl rfl (args1 (show ax.eval (.tmp 14) = .agg #[.int .u64 p, .int .u64 q, .int .i64 r, .int .i64 t] from s14)) Try.func61 (by decide +kernel) rfl) ?_
      · refine (unsigned_n p q r t wx).mono ?_
        rintro e w' ⟨rfl, b9⟩
        exact ⟨_, rfl, _, rfl, tab_put rfl hs rfl rfl, hS.quiet 10 rfl b9⟩
     ·
      have hg : ax.tmps.getD 11 undef = .bool true := (hdone 3 _ rfl rfl).2 _ rfl
      have s13 : ax.tmps.getD 13 undef = .agg #[.int .u64 a, .int .u64 b] := (hdone 0 _ rfl rfl).2 _ rfl
      have s15 : ax.tmps.getD 15 undef = .agg #[.int .u64 p, .int .u64 q] := (hdone 1 _ rfl rfl).2 _ rfl
      refine wpOp_callw (args := #[.agg #[.int .u64 a, .int .u64 b], .agg #[.int .u64 p, .int .u64 q]]) rfl (wanted_yes 6 11 true hg (by rw [hs]; omega) rfl rfl rfl rfl) (exec_call rfl rfl rfl (args2 (show ax.eval (.tmp 13) = .agg #[.int .u64 a, .int .u64 b] from s13) (show ax.eval (.tmp 15) = .agg #[.int .u64 p, .int .u64 q] from s15)) Try.func86 (by decide +kernel) rfl) ?_
      · refine (inU_n a b p q wx).mono ?_
        rintro e w' ⟨rfl, b9⟩
        exact ⟨_, rfl, _, rfl, tab_put rfl hs rfl (congrArg Value.bool Ffk3.out), hS.quiet 11 rfl b9⟩
     ·
      have s11 : ax.tmps.getD 11 undef = .bool true := (hdone 0 _ rfl rfl).2 _ rfl
      have s16 : ax.tmps.getD 16 undef = .bool true := (hdone 1 _ rfl rfl).2 _ rfl
      exact wpOp_val (v := .bool true) (w' := wx) rfl rfl (by simp [execOp, Act.eval, s11, s16, go_sem]) ⟨_, rfl, tab_put rfl hs rfl rfl, hS.same 12 rfl⟩
     ·
      have s17 : ax.tmps.getD 17 undef = .bool true := (hdone 0 _ rfl rfl).2 _ rfl
      exact wpOp_val (v := .bool true) (w' := wx) rfl rfl (by simp [execOp, Act.eval, s17]) ⟨_, rfl, tab_put rfl hs rfl rfl, hS.same 13 rfl⟩
     ·
      have hg : ax.tmps.getD 18 undef = .bool true := (hdone 0 _ rfl rfl).2 _ rfl
      have hr := hS.rowNi 0 rfl
      exact wpOp_valw (v := .agg #[.int .u64 a, .int .u64 b, .int .i64 c, .int .i64 d]) (w' := wx) rfl (wanted_yes 13 18 true hg (by rw [hs]; omega) rfl rfl rfl rfl) (exec_loadR 60 _ rfl g1 0 (show ax.eval (.tmp 2) = .pointer (some ⟨g1, 0, none⟩) from t2) hr [.int .u64 a, .int .u64 b, .int .i64 c, .int .i64 d] rfl _ Try.underlying60 rfl (by kernel_rfl)) ⟨_, rfl, tab_put rfl hs rfl rfl, hS.same 14 rfl⟩
     ·
      have hg : ax.tmps.getD 18 undef = .bool true := (hdone 1 _ rfl rfl).2 _ rfl
      have s19 : ax.tmps.getD 19 undef = .agg #[.int .u64 a, .int .u64 b, .int .i64 c, .int .i64 d] := (hdone 0 _ rfl rfl).2 _ rfl
      refine wpOp_callw (args := #[.agg #[.int .u64 a, .int .u64 b, .int .i64 c, .int .i64 d]]) rfl (wanted_yes 13 18 true hg (by rw [hs]; omega) rfl rfl rfl rfl) (exec_call rfl rfl rfl (args1 (show ax.eval (.tmp 19) = .agg #[.int .u64 a, .int .u64 b, .int .i64 c, .int .i64 d] from s19)) Try.func63 (by decide +kernel) rfl) ?_
      · refine (signed_n a b c d wx).mono ?_
        rintro e w' ⟨rfl, b9⟩
        exact ⟨_, rfl, _, rfl, tab_put rfl hs rfl rfl, hS.quiet 15 rfl b9⟩
     ·
      have hg : ax.tmps.getD 18 undef = .bool true := (hdone 0 _ rfl rfl).2 _ rfl
      have hr := hS.rowNi 1 rfl
      exact wpOp_valw (v := .agg #[.int .u64 p, .int .u64 q, .int .i64 r, .int .i64 t]) (w' := wx) rfl (wanted_yes 13 18 true hg (by rw [hs]; omega) rfl rfl rfl rfl) (exec_loadR 60 _ rfl g2 0 (show ax.eval (.tmp 3) = .pointer (some ⟨g2, 0, none⟩) from t3) hr [.int .u64 p, .int .u64 q, .int .i64 r, .int .i64 t] rfl _ Try.underlying60 rfl (by kernel_rfl)) ⟨_, rfl, tab_put rfl hs rfl rfl, hS.same 16 rfl⟩
     ·
      have hg : ax.tmps.getD 18 undef = .bool true := (hdone 2 _ rfl rfl).2 _ rfl
      have s21 : ax.tmps.getD 21 undef = .agg #[.int .u64 p, .int .u64 q, .int .i64 r, .int .i64 t] := (hdone 0 _ rfl rfl).2 _ rfl
      refine wpOp_callw (args := #[.agg #[.int .u64 p, .int .u64 q, .int .i64 r, .int .i64 t]]) rfl (wanted_yes 13 18 true hg (by rw [hs]; omega) rfl rfl rfl rfl) (exec_call rfl rfl rfl (args1 (show ax.eval (.tmp 21) = .agg #[.int .u64 p, .int .u64 q, .int .i64 r, .int .i64 t] from s21)) Try.func63 (by decide +kernel) rfl) ?_
      · refine (signed_n p q r t wx).mono ?_
        rintro e w' ⟨rfl, b9⟩
        exact ⟨_, rfl, _, rfl, tab_put rfl hs rfl rfl, hS.quiet 17 rfl b9⟩
     ·
      have hg : ax.tmps.getD 18 undef = .bool true := (hdone 3 _ rfl rfl).2 _ rfl
      have s20 : ax.tmps.getD 20 undef = .agg #[.int .i64 c, .int .i64 d] := (hdone 0 _ rfl rfl).2 _ rfl
      have s22 : ax.tmps.getD 22 undef = .agg #[.int .i64 r, .int .i64 t] := (hdone 1 _ rfl rfl).2 _ rfl
      refine wpOp_callw (args := #[.agg #[.int .i64 c, .int .i64 d], .agg #[.int .i64 r, .int .i64 t]]) rfl (wanted_yes 13 18 true hg (by rw [hs]; omega) rfl rfl rfl rfl) (exec_call rfl rfl rfl (args2 (show ax.eval (.tmp 20) = .agg #[.int .i64 c, .int .i64 d] from s20) (show ax.eval (.tmp 22) = .agg #[.int .i64 r, .int .i64 t] from s22)) Try.func87 (by decide +kernel) rfl) ?_
      · refine (inS_n c d r t wx).mono ?_
        rintro e w' ⟨rfl, b9⟩
        exact ⟨_, rfl, _, rfl, tab_put rfl hs rfl (congrArg Value.bool Ffk4.out), hS.quiet 18 rfl b9⟩
     ·
      have s18 : ax.tmps.getD 18 undef = .bool true := (hdone 0 _ rfl rfl).2 _ rfl
      have s23 : ax.tmps.getD 23 undef = .bool false := (hdone 1 _ rfl rfl).2 _ rfl
      exact wpOp_val (v := .bool false) (w' := wx) rfl rfl (by simp [execOp, Act.eval, s18, s23, go_sem]) ⟨_, rfl, tab_put rfl hs rfl rfl, hS.same 19 rfl⟩
     ·
      have s24 : ax.tmps.getD 24 undef = .bool false := (hdone 0 _ rfl rfl).2 _ rfl
      exact wpOp_val (v := .bool false) (w' := wx) rfl rfl (by simp [execOp, Act.eval, s24]) ⟨_, rfl, tab_put rfl hs rfl rfl, hS.same 20 rfl⟩
   intro a2 w2 fl d2 z2 rest2 R2 hfl hS
   obtain ⟨B2, n2, hBs, hAs, hPs⟩ := hS.finish hfl rfl
   replace d2 := d2.trans d1
   replace z2 := z2.trans z1
   obtain ⟨⟨l_g1_2, b_g1_2⟩, ⟨l_g2_2, b_g2_2⟩, -⟩ := hBs
   replace l_g1_2 : g1 < w1.heap.size := l_g1_2
   replace l_g2_2 : g2 < w1.heap.size := l_g2_2
   have s4_2 : a2.tmps.getD 4 undef = .bool false := R2 20 _ rfl
   clear R2 rest2 hS hfl hPs hAs
   clear u_g1 u_g2 s4_1 b_g1_1 b_g2_1 d1 z1
   refine wp_ret ?_
   try simp only [Exit.inBlock, Exit.then]
   refine bodyPost_ret (res_t (fn := Try.f40) rfl s4_2) d2 ?_
   have HE : Value.bool false = .bool (Rg.inB ⟨⟨a, b⟩, ⟨c, d⟩⟩ ⟨⟨p, q⟩, ⟨r, t⟩⟩) := by show _ = Value.bool (Rg.mayB ⟨⟨a, b⟩, ⟨c, d⟩⟩ && (Rg.mayB ⟨⟨p, q⟩, ⟨r, t⟩⟩ && (Pr.inB ⟨a, b⟩ ⟨p, q⟩ && Pr.inB ⟨c, d⟩ ⟨r, t⟩))); rw [Ffk1.out, Ffk2.out, Ffk3.out, Ffk4.out]; rfl
   exact ⟨retV HE, B2⟩
  have Ffk4 := Lib.hid fk4; clear fk4
  refine wp_regx (SX W w1.heap.size [⟨g1, 60, (cR a b c d), none, #[]⟩, ⟨g2, 60, (cR p q r t), none, #[]⟩] []) (TabX [fun vx => vx = .agg #[.int .u64 a, .int .u64 b, .int .i64 c, .int .i64 d], fun vx => vx = .bool true, fun vx => vx = .bool true, fun vx => vx = .agg #[.int .u64 p, .int .u64 q, .int .i64 r, .int .i64 t], fun vx => vx = .bool true, fun vx => vx = .bool true, fun vx => vx = .bool true, fun vx => vx = .agg #[.int .u64 a, .int .u64 b, .int .i64 c, .int .i64 d], fun vx => vx = .agg #[.int .u64 a, .int .u64 b], fun vx => vx = .agg #[.int .u64 p, .int .u64 q, .int .i64 r, .int .i64 t], fun vx => vx = .agg #[.int .u64 p, .int .u64 q], fun vx => vx = .bool true, fun vx => vx = .bool true, fun vx => vx = .bool true, fun vx => vx = .agg #[.int .u64 a, .int .u64 b, .int .i64 c, .int .i64 d], fun vx => vx = .agg #[.int .i64 c, .int .i64 d], fun vx => vx = .agg #[.int .u64 p, .int .u64 q, .int .i64 r, .int .i64 t], fun vx => vx = .agg #[.int .i64 r, .int .i64 t], fun vx => vx = .bool true, fun vx => vx = .bool true, fun vx => vx = .bool true]) (by kernel_rfl) (back_of (by kernel_rfl)) (dst_of (by kernel_rfl)) (in_ofz (by kernel_rfl) z1) (fun fl w1 hfl hw => SX.start' hw B1 hfl rfl ⟨b_g1_1, b_g2_1, trivial⟩) ?h6 ?_
  case h6 =>
    intro ix ox ax wx fl ho hS hfi clo hsz hrest hdone hund
    have t2 := (hrest 2 (not_of (by kernel_rfl))).trans u_g1
    have t3 := (hrest 3 (not_of (by kernel_rfl))).trans u_g2
    have hs : ax.tmps.size = 25 := hsz.trans z1
    have hi : ix < 21 := (Array.getElem?_eq_some_iff.1 ho).1
    clear hrest hsz hund
    obtain rfl | rfl | rfl | rfl | rfl | rfl | rfl | rfl | rfl | rfl | rfl | rfl | rfl | rfl | rfl | rfl | rfl | rfl | rfl | rfl | rfl : ix = 0 ∨ ix = 1 ∨ ix = 2 ∨ ix = 3 ∨ ix = 4 ∨ ix = 5 ∨ ix = 6 ∨ ix = 7 ∨ ix = 8 ∨ ix = 9 ∨ ix = 10 ∨ ix = 11 ∨ ix = 12 ∨ ix = 13 ∨ ix = 14 ∨ ix = 15 ∨ ix = 16 ∨ ix = 17 ∨ ix = 18 ∨ ix = 19 ∨ ix = 20 := by omega
    all_goals obtain rfl := Option.some.inj (show some _ = some ox from ho)
    ·
     have hr := hS.rowNi 0 rfl
     exact wpOp_val (v := .agg #[.int .u64 a, .int .u64 b, .int .i64 c, .int .i64 d]) (w' := wx) rfl rfl (exec_loadR 60 _ rfl g1 0 (show ax.eval (.tmp 2) = .pointer (some ⟨g1, 0, none⟩) from t2) hr [.int .u64 a, .int .u64 b, .int .i64 c, .int .i64 d] rfl _ Try.underlying60 rfl (by kernel_rfl)) ⟨_, rfl, tab_put rfl hs rfl rfl, hS.same 0 rfl⟩
    ·
     have s5 : ax.tmps.getD 5 undef = .agg #[.int .u64 a, .int .u64 b, .int .i64 c, .int .i64 d] := (hdone 0 _ rfl rfl).2 _ rfl
     refine wpOp_call (args := #[.agg #[.int .u64 a, .int .u64 b, .int .i64 c, .int .i64 d]]) rfl rfl (exec_call rfl rfl rfl (args1 (show ax.eval (.tmp 5) = .agg #[.int .u64 a, .int .u64 b, .int .i64 c, .int .i64 d] from s5)) Try.func30 (by decide +kernel) rfl) ?_
     · refine (may_n a b c d wx).mono ?_
       rintro e w' ⟨rfl, b9⟩
       exact ⟨_, rfl, _, rfl, tab_put rfl hs rfl (congrArg Value.bool Ffk1.out), hS.quiet 1 rfl b9⟩
    ·
     have s6 : ax.tmps.getD 6 undef = .bool true := (hdone 0 _ rfl rfl).2 _ rfl
     exact wpOp_val (v := .bool true) (w' := wx) rfl rfl (by simp [execOp, Act.eval, s6]) ⟨_, rfl, tab_put rfl hs rfl rfl, hS.same 2 rfl⟩
    ·
     have hg : ax.tmps.getD 7 undef = .bool true := (hdone 0 _ rfl rfl).2 _ rfl
     have hr := hS.rowNi 1 rfl
     exact wpOp_valw (v := .agg #[.int .u64 p, .int .u64 q, .int .i64 r, .int .i64 t]) (w' := wx) rfl (wanted_yes 2 7 true hg (by rw [hs]; omega) rfl rfl rfl rfl) (exec_loadR 60 _ rfl g2 0 (show ax.eval (.tmp 3) = .pointer (some ⟨g2, 0, none⟩) from t3) hr [.int .u64 p, .int .u64 q, .int .i64 r, .int .i64 t] rfl _ Try.underlying60 rfl (by kernel_rfl)) ⟨_, rfl, tab_put rfl hs rfl rfl, hS.same 3 rfl⟩
    ·
     have hg : ax.tmps.getD 7 undef = .bool true := (hdone 1 _ rfl rfl).2 _ rfl
     have s8 : ax.tmps.getD 8 undef = .agg #[.int .u64 p, .int .u64 q, .int .i64 r, .int .i64 t] := (hdone 0 _ rfl rfl).2 _ rfl
     refine wpOp_callw (args := #[.agg #[.int .u64 p, .int .u64 q, .int .i64 r, .int .i64 t]]) rfl (wanted_yes 2 7 true hg (by rw [hs]; omega) rfl rfl rfl rfl) (exec_call rfl rfl rfl (args1 (show ax.eval (.tmp 8) = .agg #[.int .u64 p, .int .u64 q, .int .i64 r, .int .i64 t] from s8)) Try.func30 (by decide +kernel) rfl) ?_
     · refine (may_n p q r t wx).mono ?_
       rintro e w' ⟨rfl, b9⟩
       exact ⟨_, rfl, _, rfl, tab_put rfl hs rfl (congrArg Value.bool Ffk2.out), hS.quiet 4 rfl b9⟩
    ·
     have s7 : ax.tmps.getD 7 undef = .bool true := (hdone 0 _ rfl rfl).2 _ rfl
     have s9 : ax.tmps.getD 9 undef = .bool true := (hdone 1 _ rfl rfl).2 _ rfl
     exact wpOp_val (v := .bool true) (w' := wx) rfl rfl (by simp [execOp, Act.eval, s7, s9, go_sem]) ⟨_, rfl, tab_put rfl hs rfl rfl, hS.same 5 rfl⟩
    ·
     have s10 : ax.tmps.getD 10 undef = .bool true := (hdone 0 _ rfl rfl).2 _ rfl
     exact wpOp_val (v := .bool true) (w' := wx) rfl rfl (by simp [execOp, Act.eval, s10]) ⟨_, rfl, tab_put rfl hs rfl rfl, hS.same 6 rfl⟩
    ·
     have hg : ax.tmps.getD 11 undef = .bool true := (hdone 0 _ rfl rfl).2 _ rfl
     have hr := hS.rowNi 0 rfl
     exact wpOp_valw (v := .agg #[.int .u64 a, .int .u64 b, .int .i64 c, .int .i64 d]) (w' := wx) rfl (wanted_yes 6 11 true hg (by rw [hs]; omega) rfl rfl rfl rfl) (exec_loadR 60 _ rfl g1 0 (show ax.eval (.tmp 2) = .pointer (some ⟨g1, 0, none⟩) from t2) hr [.int .u64 a, .int .u64 b, .int .i64 c, .int .i64 d] rfl _ Try.underlying60 rfl (by kernel_rfl)) ⟨_, rfl, tab_put rfl hs rfl rfl, hS.same 7 rfl⟩
    ·
     have hg : ax.tmps.getD 11 undef = .bool true := (hdone 1 _ rfl rfl).2 _ rfl
     have s12 : ax.tmps.getD 12 undef = .agg #[.int .u64 a, .int .u64 b, .int .i64 c, .int .i64 d] := (hdone 0 _ rfl rfl).2 _ rfl
     refine wpOp_callw (args := #[.agg #[.int .u64 a, .int .u64 b, .int .i64 c, .int .i64 d]]) rfl (wanted_yes 6 11 true hg (by rw [hs]; omega) rfl rfl rfl rfl) (exec_call rfl rfl rfl (args1 (show ax.eval (.tmp 12) = .agg #[.int .u64 a, .int .u64 b, .int .i64 c, .int .i64 d] from s12)) Try.func61 (by decide +kernel) rfl) ?_
     · refine (unsigned_n a b c d wx).mono ?_
       rintro e w' ⟨rfl, b9⟩
       exact ⟨_, rfl, _, rfl, tab_put rfl hs rfl rfl, hS.quiet 8 rfl b9⟩
    ·
     have hg : ax.tmps.getD 11 undef = .bool true := (hdone 0 _ rfl rfl).2 _ rfl
     have hr := hS.rowNi 1 rfl
     exact wpOp_valw (v := .agg #[.int .u64 p, .int .u64 q, .int .i64 r, .int .i64 t]) (w' := wx) rfl (wanted_yes 6 11 true hg (by rw [hs]; omega) rfl rfl rfl rfl) (exec_loadR 60 _ rfl g2 0 (show ax.eval (.tmp 3) = .pointer (some ⟨g2, 0, none⟩) from t3) hr [.int .u64 p, .int .u64 q, .int .i64 r, .int .i64 t] rfl _ Try.underlying60 rfl (by kernel_rfl)) ⟨_, rfl, tab_put rfl hs rfl rfl, hS.same 9 rfl⟩
    ·
     have hg : ax.tmps.getD 11 undef = .bool true := (hdone 2 _ rfl rfl).2 _ rfl
     have s14 : ax.tmps.getD 14 undef = .agg #[.int .u64 p, .int .u64 q, .int .i64 r, .int .i64 t] := (hdone 0 _ rfl rfl).2 _ rfl
     refine wpOp_callw (args := #[.agg #[.int .u64 p, .int .u64 q, .int .i64 r, .int .i64 t]]) rfl (wanted_yes 6 11 true hg (by rw [hs]; omega) rfl rfl rfl rfl) (exec_call rfl rfl rfl (args1 (show ax.eval (.tmp 14) = .agg #[.int .u64 p, .int .u64 q, .int .i64 r, .int .i64 t] from s14)) Try.func61 (by decide +kernel) rfl) ?_
     · refine (unsigned_n p q r t wx).mono ?_
       rintro e w' ⟨rfl, b9⟩
       exact ⟨_, rfl, _, rfl, tab_put rfl hs rfl rfl, hS.quiet 10 rfl b9⟩
    ·
     have hg : ax.tmps.getD 11 undef = .bool true := (hdone 3 _ rfl rfl).2 _ rfl
     have s13 : ax.tmps.getD 13 undef = .agg #[.int .u64 a, .int .u64 b] := (hdone 0 _ rfl rfl).2 _ rfl
     have s15 : ax.tmps.getD 15 undef = .agg #[.int .u64 p, .int .u64 q] := (hdone 1 _ rfl rfl).2 _ rfl
     refine wpOp_callw (args := #[.agg #[.int .u64 a, .int .u64 b], .agg #[.int .u64 p, .int .u64 q]]) rfl (wanted_yes 6 11 true hg (by rw [hs]; omega) rfl rfl rfl rfl) (exec_call rfl rfl rfl (args2 (show ax.eval (.tmp 13) = .agg #[.int .u64 a, .int .u64 b] from s13) (show ax.eval (.tmp 15) = .agg #[.int .u64 p, .int .u64 q] from s15)) Try.func86 (by decide +kernel) rfl) ?_
     · refine (inU_n a b p q wx).mono ?_
       rintro e w' ⟨rfl, b9⟩
       exact ⟨_, rfl, _, rfl, tab_put rfl hs rfl (congrArg Value.bool Ffk3.out), hS.quiet 11 rfl b9⟩
    ·
     have s11 : ax.tmps.getD 11 undef = .bool true := (hdone 0 _ rfl rfl).2 _ rfl
     have s16 : ax.tmps.getD 16 undef = .bool true := (hdone 1 _ rfl rfl).2 _ rfl
     exact wpOp_val (v := .bool true) (w' := wx) rfl rfl (by simp [execOp, Act.eval, s11, s16, go_sem]) ⟨_, rfl, tab_put rfl hs rfl rfl, hS.same 12 rfl⟩
    ·
     have s17 : ax.tmps.getD 17 undef = .bool true := (hdone 0 _ rfl rfl).2 _ rfl
     exact wpOp_val (v := .bool true) (w' := wx) rfl rfl (by simp [execOp, Act.eval, s17]) ⟨_, rfl, tab_put rfl hs rfl rfl, hS.same 13 rfl⟩
    ·
     have hg : ax.tmps.getD 18 undef = .bool true := (hdone 0 _ rfl rfl).2 _ rfl
     have hr := hS.rowNi 0 rfl
     exact wpOp_valw (v := .agg #[.int .u64 a, .int .u64 b, .int .i64 c, .int .i64 d]) (w' := wx) rfl (wanted_yes 13 18 true hg (by rw [hs]; omega) rfl rfl rfl rfl) (exec_loadR 60 _ rfl g1 0 (show ax.eval (.tmp 2) = .pointer (some ⟨g1, 0, none⟩) from t2) hr [.int .u64 a, .int .u64 b, .int .i64 c, .int .i64 d] rfl _ Try.underlying60 rfl (by kernel_rfl)) ⟨_, rfl, tab_put rfl hs rfl rfl, hS.same 14 rfl⟩
    ·
     have hg : ax.tmps.getD 18 undef = .bool true := (hdone 1 _ rfl rfl).2 _ rfl
     have s19 : ax.tmps.getD 19 undef = .agg #[.int .u64 a, .int .u64 b, .int .i64 c, .int .i64 d] := (hdone 0 _ rfl rfl).2 _ rfl
     refine wpOp_callw (args := #[.agg #[.int .u64 a, .int .u64 b, .int .i64 c, .int .i64 d]]) rfl (wanted_yes 13 18 true hg (by rw [hs]; omega) rfl rfl rfl rfl) (exec_call rfl rfl rfl (args1 (show ax.eval (.tmp 19) = .agg #[.int .u64 a, .int .u64 b, .int .i64 c, .int .i64 d] from s19)) Try.func63 (by decide +kernel) rfl) ?_
     · refine (signed_n a b c d wx).mono ?_
       rintro e w' ⟨rfl, b9⟩
       exact ⟨_, rfl, _, rfl, tab_put rfl hs rfl rfl, hS.quiet 15 rfl b9⟩
    ·
     have hg : ax.tmps.getD 18 undef = .bool true := (hdone 0 _ rfl rfl).2 _ rfl
     have hr := hS.rowNi 1 rfl
     exact wpOp_valw (v := .agg #[.int .u64 p, .int .u64 q, .int .i64 r, .int .i64 t]) (w' := wx) rfl (wanted_yes 13 18 true hg (by rw [hs]; omega) rfl rfl rfl rfl) (exec_loadR 60 _ rfl g2 0 (show ax.eval (.tmp 3) = .pointer (some ⟨g2, 0, none⟩) from t3) hr [.int .u64 p, .int .u64 q, .int .i64 r, .int .i64 t] rfl _ Try.underlying60 rfl (by kernel_rfl)) ⟨_, rfl, tab_put rfl hs rfl rfl, hS.same 16 rfl⟩
    ·
     have hg : ax.tmps.getD 18 undef = .bool true := (hdone 2 _ rfl rfl).2 _ rfl
     have s21 : ax.tmps.getD 21 undef = .agg #[.int .u64 p, .int .u64 q, .int .i64 r, .int .i64 t] := (hdone 0 _ rfl rfl).2 _ rfl
     refine wpOp_callw (args := #[.agg #[.int .u64 p, .int .u64 q, .int .i64 r, .int .i64 t]]) rfl (wanted_yes 13 18 true hg (by rw [hs]; omega) rfl rfl rfl rfl) (exec_call rfl rfl rfl (args1 (show ax.eval (.tmp 21) = .agg #[.int .u64 p, .int .u64 q, .int .i64 r, .int .i64 t] from s21)) Try.func63 (by decide +kernel) rfl) ?_
     · refine (signed_n p q r t wx).mono ?_
       rintro e w' ⟨rfl, b9⟩
       exact ⟨_, rfl, _, rfl, tab_put rfl hs rfl rfl, hS.quiet 17 rfl b9⟩
    ·
     have hg : ax.tmps.getD 18 undef = .bool true := (hdone 3 _ rfl rfl).2 _ rfl
     have s20 : ax.tmps.getD 20 undef = .agg #[.int .i64 c, .int .i64 d] := (hdone 0 _ rfl rfl).2 _ rfl
     have s22 : ax.tmps.getD 22 undef = .agg #[.int .i64 r, .int .i64 t] := (hdone 1 _ rfl rfl).2 _ rfl
     refine wpOp_callw (args := #[.agg #[.int .i64 c, .int .i64 d], .agg #[.int .i64 r, .int .i64 t]]) rfl (wanted_yes 13 18 true hg (by rw [hs]; omega) rfl rfl rfl rfl) (exec_call rfl rfl rfl (args2 (show ax.eval (.tmp 20) = .agg #[.int .i64 c, .int .i64 d] from s20) (show ax.eval (.tmp 22) = .agg #[.int .i64 r, .int .i64 t] from s22)) Try.func87 (by decide +kernel) rfl) ?_
     · refine (inS_n c d r t wx).mono ?_
       rintro e w' ⟨rfl, b9⟩
       exact ⟨_, rfl, _, rfl, tab_put rfl hs rfl (congrArg Value.bool Ffk4.out), hS.quiet 18 rfl b9⟩
    ·
     have s18 : ax.tmps.getD 18 undef = .bool true := (hdone 0 _ rfl rfl).2 _ rfl
     have s23 : ax.tmps.getD 23 undef = .bool true := (hdone 1 _ rfl rfl).2 _ rfl
     exact wpOp_val (v := .bool true) (w' := wx) rfl rfl (by simp [execOp, Act.eval, s18, s23, go_sem]) ⟨_, rfl, tab_put rfl hs rfl rfl, hS.same 19 rfl⟩
    ·
     have s24 : ax.tmps.getD 24 undef = .bool true := (hdone 0 _ rfl rfl).2 _ rfl
     exact wpOp_val (v := .bool true) (w' := wx) rfl rfl (by simp [execOp, Act.eval, s24]) ⟨_, rfl, tab_put rfl hs rfl rfl, hS.same 20 rfl⟩
  intro a2 w2 fl d2 z2 rest2 R2 hfl hS
  obtain ⟨B2, n2, hBs, hAs, hPs⟩ := hS.finish hfl rfl
  replace d2 := d2.trans d1
  replace z2 := z2.trans z1
  obtain ⟨⟨l_g1_2, b_g1_2⟩, ⟨l_g2_2, b_g2_2⟩, -⟩ := hBs
  replace l_g1_2 : g1 < w1.heap.size := l_g1_2
  replace l_g2_2 : g2 < w1.heap.size := l_g2_2
  have s4_2 : a2.tmps.getD 4 undef = .bool true := R2 20 _ rfl
  clear R2 rest2 hS hfl hPs hAs
  clear u_g1 u_g2 s4_1 b_g1_1 b_g2_1 d1 z1
  refine wp_ret ?_
  try simp only [Exit.inBlock, Exit.then]
  refine bodyPost_ret (res_t (fn := Try.f40) rfl s4_2) d2 ?_
  have HE : Value.bool true = .bool (Rg.inB ⟨⟨a, b⟩, ⟨c, d⟩⟩ ⟨⟨p, q⟩, ⟨r, t⟩⟩) := by show _ = Value.bool (Rg.mayB ⟨⟨a, b⟩, ⟨c, d⟩⟩ && (Rg.mayB ⟨⟨p, q⟩, ⟨r, t⟩⟩ && (Pr.inB ⟨a, b⟩ ⟨p, q⟩ && Pr.inB ⟨c, d⟩ ⟨r, t⟩))); rw [Ffk1.out, Ffk2.out, Ffk3.out, Ffk4.out]; rfl
  exact ⟨retV HE, B2⟩

set_option maxHeartbeats 4000000 in
theorem single_n (a b c d : Int) (W : World) : Calls Try.prog 26 #[.agg #[.int .u64 a, .int .u64 b, .int .i64 c, .int .i64 d]] W fun e w' => e = .returned (.tuple #[.int .u64 (Rg.oneV ⟨⟨a, b⟩, ⟨c, d⟩⟩), .bool (Rg.oneB ⟨⟨a, b⟩, ⟨c, d⟩⟩)]) ∧ Below W.heap.size W w' := by
  refine calls_abs Try.func26 rfl (Nat.le_of_ble_eq_true rfl) ?_
  intro a0 d0 z0 h0
  have z0 : a0.tmps.size = 18 := z0
  have s0_0 : a0.tmps.getD 0 undef = .agg #[.int .u64 a, .int .u64 b, .int .i64 c, .int .i64 d] := h0 0 (Nat.le_of_ble_eq_true rfl)
  clear h0
  have B0 : Below W.heap.size W W := Below.refl _ _
  refine wp_seq ?_
  refine wp_regx (SX W W.heap.size [] [⟨0, 1, 60, (cR a b c d), none, #[]⟩]) (TabX [fun _ => True, fun vx => vx = .int .u64 0, fun vx => vx = .bool false]) (by kernel_rfl) (back_of (by kernel_rfl)) (dst_of (by kernel_rfl)) (in_ofz (by kernel_rfl) z0) (fun fl w1 hfl hw => SX.start' hw B0 hfl rfl trivial) ?h1 ?_
  case h1 =>
    intro ix ox ax wx fl ho hS hfi clo hsz hrest hdone hund
    have t0 := (hrest 0 (not_of (by kernel_rfl))).trans s0_0
    have hs : ax.tmps.size = 18 := hsz.trans z0
    have hi : ix < 3 := (Array.getElem?_eq_some_iff.1 ho).1
    clear hrest hsz hund
    obtain rfl | rfl | rfl : ix = 0 ∨ ix = 1 ∨ ix = 2 := by omega
    all_goals obtain rfl := Option.some.inj (show some _ = some ox from ho)
    ·
     refine wpOp_val (v := .pointer (some ⟨wx.heap.size, 0, none⟩)) (w' := wx.alloc (.cells #[.int .u64 a, .int .u64 b, .int .i64 c, .int .i64 d] 60)) rfl rfl ?_ ⟨_, rfl, trivial, hS.alloc 0 1 60 #[.int .u64 a, .int .u64 b, .int .i64 c, .int .i64 d] [] [] (none) #[] rfl rfl rfl (by rw [hs]; omega) trivial⟩
     · simp [execOp, Act.eval, t0, go_sem]
    ·
     exact wpOp_val (v := .int .u64 0) (w' := wx) rfl rfl (by simp [execOp, Act.eval]) ⟨_, rfl, tab_put rfl hs rfl rfl, hS.same 1 rfl⟩
    ·
     exact wpOp_val (v := .bool false) (w' := wx) rfl rfl (by simp [execOp, Act.eval]) ⟨_, rfl, tab_put rfl hs rfl rfl, hS.same 2 rfl⟩
  intro a1 w1 fl d1 z1 rest1 R1 hfl hS
  obtain ⟨B1, n1, hBs, hAs, hPs⟩ := hS.finish hfl rfl
  replace d1 := d1.trans d0
  replace z1 := z1.trans z0
  obtain ⟨⟨g1, u_g1, q_g1, b_g1_1⟩, -⟩ := hAs
  replace u_g1 : a1.tmps.getD 1 undef = .pointer (some ⟨g1, 0, none⟩) := u_g1
  have m_g1 : W.heap.size ≤ g1 := q_g1
  replace q_g1 : W.heap.size ≤ g1 := Nat.le_trans B0.size q_g1
  have s2_1 : a1.tmps.getD 2 undef = .int .u64 0 := R1 1 _ rfl
  have s3_1 : a1.tmps.getD 3 undef = .bool false := R1 2 _ rfl
  clear R1 rest1 hS hfl hPs hBs
  clear s0_0 d0 z0
  refine wp_seq ?_
  refine wp_seq ?_
  cases fk1 : a != b
  case false =>
   have Ffk1 := Lib.hid fk1; clear fk1
   cases fk2 : Rg.hasB ⟨⟨a, b⟩, ⟨c, d⟩⟩ a
   case false =>
    have Ffk2 := Lib.hid fk2; clear fk2
    refine wp_regx (SX W w1.heap.size [⟨g1, 60, (cR a b c d), none, #[]⟩] []) (TabX [fun vx => vx = .pointer (some ⟨g1, 0, none⟩), fun vx => vx = .int .u64 a, fun vx => vx = .pointer (some ⟨g1, 1, none⟩), fun vx => vx = .int .u64 b, fun vx => vx = .bool false, fun vx => vx = .bool false, fun vx => vx = .agg #[.int .u64 a, .int .u64 b, .int .i64 c, .int .i64 d], fun vx => vx = .pointer (some ⟨g1, 0, none⟩), fun vx => vx = .int .u64 a, fun vx => vx = .bool false, fun vx => vx = .bool true, fun vx => vx = .bool true]) (by kernel_rfl) (back_of (by kernel_rfl)) (dst_of (by kernel_rfl)) (in_ofz (by kernel_rfl) z1) (fun fl w1 hfl hw => SX.start' hw B1 hfl rfl ⟨b_g1_1, trivial⟩) ?h2 ?_
    case h2 =>
      intro ix ox ax wx fl ho hS hfi clo hsz hrest hdone hund
      have t1 := (hrest 1 (not_of (by kernel_rfl))).trans u_g1
      have hs : ax.tmps.size = 18 := hsz.trans z1
      have hi : ix < 12 := (Array.getElem?_eq_some_iff.1 ho).1
      clear hrest hsz hund
      obtain rfl | rfl | rfl | rfl | rfl | rfl | rfl | rfl | rfl | rfl | rfl | rfl : ix = 0 ∨ ix = 1 ∨ ix = 2 ∨ ix = 3 ∨ ix = 4 ∨ ix = 5 ∨ ix = 6 ∨ ix = 7 ∨ ix = 8 ∨ ix = 9 ∨ ix = 10 ∨ ix = 11 := by omega
      all_goals obtain rfl := Option.some.inj (show some _ = some ox from ho)
      ·
       exact wpOp_val (v := .pointer (some ⟨g1, 0, none⟩)) (w' := wx) rfl rfl (by simp [execOp, Act.eval, t1, go_sem]) ⟨_, rfl, tab_put rfl hs rfl rfl, hS.same 0 rfl⟩
      ·
       have s4 : ax.tmps.getD 4 undef = .pointer (some ⟨g1, 0, none⟩) := (hdone 0 _ rfl rfl).2 _ rfl
       have hr := hS.rowNi 0 rfl
       have hc := exec_load1 (i := 0) hr (v := .int .u64 a) rfl
       exact wpOp_val (v := .int .u64 a) (w' := wx) rfl rfl (by simp [execOp, Act.eval, s4, hc, go_sem]) ⟨_, rfl, tab_put rfl hs rfl rfl, hS.same 1 rfl⟩
      ·
       exact wpOp_val (v := .pointer (some ⟨g1, 1, none⟩)) (w' := wx) rfl rfl (by simp [execOp, Act.eval, t1, go_sem]) ⟨_, rfl, tab_put rfl hs rfl rfl, hS.same 2 rfl⟩
      ·
       have s6 : ax.tmps.getD 6 undef = .pointer (some ⟨g1, 1, none⟩) := (hdone 0 _ rfl rfl).2 _ rfl
       have hr := hS.rowNi 0 rfl
       have hc := exec_load1 (i := 1) hr (v := .int .u64 b) rfl
       exact wpOp_val (v := .int .u64 b) (w' := wx) rfl rfl (by simp [execOp, Act.eval, s6, hc, go_sem]) ⟨_, rfl, tab_put rfl hs rfl rfl, hS.same 3 rfl⟩
      ·
       have s5 : ax.tmps.getD 5 undef = .int .u64 a := (hdone 0 _ rfl rfl).2 _ rfl
       have s7 : ax.tmps.getD 7 undef = .int .u64 b := (hdone 1 _ rfl rfl).2 _ rfl
       exact wpOp_val (v := .bool (a != b)) (w' := wx) rfl rfl (by (simp [execOp, Act.eval, s5, s7, go_sem]; try (simp only [IntKind.wrap_i64, wrap64]))) ⟨_, rfl, tab_put rfl hs rfl (congrArg Value.bool Ffk1.out), hS.same 4 rfl⟩
      ·
       have s8 : ax.tmps.getD 8 undef = .bool false := (hdone 0 _ rfl rfl).2 _ rfl
       exact wpOp_val (v := .bool false) (w' := wx) rfl rfl (by simp [execOp, Act.eval, s8]) ⟨_, rfl, tab_put rfl hs rfl rfl, hS.same 5 rfl⟩
      ·
       have hg : ax.tmps.getD 9 undef = .bool false := (hdone 0 _ rfl rfl).2 _ rfl
       have hr := hS.rowNi 0 rfl
       exact wpOp_valw (v := .agg #[.int .u64 a, .int .u64 b, .int .i64 c, .int .i64 d]) (w' := wx) rfl (wanted_yes 5 9 false hg (by rw [hs]; omega) rfl rfl rfl rfl) (exec_loadR 60 _ rfl g1 0 (show ax.eval (.tmp 1) = .pointer (some ⟨g1, 0, none⟩) from t1) hr [.int .u64 a, .int .u64 b, .int .i64 c, .int .i64 d] rfl _ Try.underlying60 rfl (by kernel_rfl)) ⟨_, rfl, tab_put rfl hs rfl rfl, hS.same 6 rfl⟩
      ·
       have hg : ax.tmps.getD 9 undef = .bool false := (hdone 0 _ rfl rfl).2 _ rfl
       exact wpOp_valw (v := .pointer (some ⟨g1, 0, none⟩)) (w' := wx) rfl (wanted_yes 5 9 false hg (by rw [hs]; omega) rfl rfl rfl rfl) (by simp [execOp, Act.eval, t1, go_sem]) ⟨_, rfl, tab_put rfl hs rfl rfl, hS.same 7 rfl⟩
      ·
       have hg : ax.tmps.getD 9 undef = .bool false := (hdone 1 _ rfl rfl).2 _ rfl
       have s11 : ax.tmps.getD 11 undef = .pointer (some ⟨g1, 0, none⟩) := (hdone 0 _ rfl rfl).2 _ rfl
       have hr := hS.rowNi 0 rfl
       have hc := exec_load1 (i := 0) hr (v := .int .u64 a) rfl
       exact wpOp_valw (v := .int .u64 a) (w' := wx) rfl (wanted_yes 5 9 false hg (by rw [hs]; omega) rfl rfl rfl rfl) (by simp [execOp, Act.eval, s11, hc, go_sem]) ⟨_, rfl, tab_put rfl hs rfl rfl, hS.same 8 rfl⟩
      ·
       have hg : ax.tmps.getD 9 undef = .bool false := (hdone 2 _ rfl rfl).2 _ rfl
       have s10 : ax.tmps.getD 10 undef = .agg #[.int .u64 a, .int .u64 b, .int .i64 c, .int .i64 d] := (hdone 0 _ rfl rfl).2 _ rfl
       have s12 : ax.tmps.getD 12 undef = .int .u64 a := (hdone 1 _ rfl rfl).2 _ rfl
       refine wpOp_callw (args := #[.agg #[.int .u64 a, .int .u64 b, .int .i64 c, .int .i64 d], .int .u64 a]) rfl (wanted_yes 5 9 false hg (by rw [hs]; omega) rfl rfl rfl rfl) (exec_call rfl rfl rfl (args2 (show ax.eval (.tmp 10) = .agg #[.int .u64 a, .int .u64 b, .int .i64 c, .int .i64 d] from s10) (show ax.eval (.tmp 12) = .int .u64 a from s12)) Try.func36 (by decide +kernel) rfl) ?_
       · refine (has_n a b c d a wx).mono ?_
         rintro e w' ⟨rfl, b9⟩
         exact ⟨_, rfl, _, rfl, tab_put rfl hs rfl (congrArg Value.bool Ffk2.out), hS.quiet 9 rfl b9⟩
      ·
       have hg : ax.tmps.getD 9 undef = .bool false := (hdone 1 _ rfl rfl).2 _ rfl
       have s13 : ax.tmps.getD 13 undef = .bool false := (hdone 0 _ rfl rfl).2 _ rfl
       exact wpOp_valw (v := .bool true) (w' := wx) rfl (wanted_yes 5 9 false hg (by rw [hs]; omega) rfl rfl rfl rfl) (by simp [execOp, Act.eval, s13, go_sem]) ⟨_, rfl, tab_put rfl hs rfl rfl, hS.same 10 rfl⟩
      ·
       have s9 : ax.tmps.getD 9 undef = .bool false := (hdone 0 _ rfl rfl).2 _ rfl
       have s14 : ax.tmps.getD 14 undef = .bool true := (hdone 1 _ rfl rfl).2 _ rfl
       exact wpOp_val (v := .bool true) (w' := wx) rfl rfl (by simp [execOp, Act.eval, s9, s14, go_sem]) ⟨_, rfl, tab_put rfl hs rfl rfl, hS.same 11 rfl⟩
    intro a2 w2 fl d2 z2 rest2 R2 hfl hS
    obtain ⟨B2, n2, hBs, hAs, hPs⟩ := hS.finish hfl rfl
    replace d2 := d2.trans d1
    replace z2 := z2.trans z1
    obtain ⟨⟨l_g1_2, b_g1_2⟩, -⟩ := hBs
    replace l_g1_2 : g1 < w1.heap.size := l_g1_2
    have s1_2 := (rest2 1 (not_of (by kernel_rfl))).trans u_g1
    have s2_2 := (rest2 2 (not_of (by kernel_rfl))).trans s2_1
    have s3_2 := (rest2 3 (not_of (by kernel_rfl))).trans s3_1
    have s15_2 : a2.tmps.getD 15 undef = .bool true := R2 11 _ rfl
    clear R2 rest2 hS hfl hPs hAs
    clear u_g1 s2_1 s3_1 b_g1_1 d1 z1
    refine wp_cond_true (show a2.tmps.getD 15 undef = .bool true from s15_2) ?_
    refine wp_seq ?_
    refine wp_regx (SX W w2.heap.size [⟨g1, 60, (cR a b c d), none, #[]⟩] []) (TabX [fun vx => vx = .int .u64 0, fun vx => vx = .bool false]) (by kernel_rfl) (back_of (by kernel_rfl)) (dst_of (by kernel_rfl)) (in_ofz (by kernel_rfl) z2) (fun fl w1 hfl hw => SX.start' hw B2 hfl rfl ⟨b_g1_2, trivial⟩) ?h3 ?_
    case h3 =>
      intro ix ox ax wx fl ho hS hfi clo hsz hrest hdone hund
      have hs : ax.tmps.size = 18 := hsz.trans z2
      have hi : ix < 2 := (Array.getElem?_eq_some_iff.1 ho).1
      clear hrest hsz hund
      obtain rfl | rfl : ix = 0 ∨ ix = 1 := by omega
      all_goals obtain rfl := Option.some.inj (show some _ = some ox from ho)
      ·
       exact wpOp_val (v := .int .u64 0) (w' := wx) rfl rfl (by simp [execOp, Act.eval]) ⟨_, rfl, tab_put rfl hs rfl rfl, hS.same 0 rfl⟩
      ·
       exact wpOp_val (v := .bool false) (w' := wx) rfl rfl (by simp [execOp, Act.eval]) ⟨_, rfl, tab_put rfl hs rfl rfl, hS.same 1 rfl⟩
    intro a3 w3 fl d3 z3 rest3 R3 hfl hS
    obtain ⟨B3, n3, hBs, hAs, hPs⟩ := hS.finish hfl rfl
    replace d3 := d3.trans d2
    replace z3 := z3.trans z2
    obtain ⟨⟨-, b_g1_3⟩, -⟩ := hBs
    have s1_3 := (rest3 1 (not_of (by kernel_rfl))).trans s1_2
    have s2_3 : a3.tmps.getD 2 undef = .int .u64 0 := R3 0 _ rfl
    have s3_3 : a3.tmps.getD 3 undef = .bool false := R3 1 _ rfl
    clear R3 rest3 hS hfl hPs hAs
    clear s1_2 s2_2 s3_2 s15_2 b_g1_2 d2 z2
    refine wp_ret ?_
    try simp only [Exit.inBlock, Exit.then]
    refine bodyPost_ret (res_tt (fn := Try.f26) rfl s2_3 s3_3) d3 ?_
    have ob : Rg.oneB ⟨⟨a, b⟩, ⟨c, d⟩⟩ = false := by show (a == b && Rg.hasB ⟨⟨a, b⟩, ⟨c, d⟩⟩ a) = _; rw [show (a == b) = true by have := Ffk1.out; simpa using this, Ffk2.out]; rfl
    have HE : Value.tuple #[.int .u64 0, .bool false] = .tuple #[.int .u64 (Rg.oneV ⟨⟨a, b⟩, ⟨c, d⟩⟩), .bool (Rg.oneB ⟨⟨a, b⟩, ⟨c, d⟩⟩)] := by unfold Rg.oneV; rw [ob]; rfl
    exact ⟨retV HE, B3⟩
   have Ffk2 := Lib.hid fk2; clear fk2
   refine wp_regx (SX W w1.heap.size [⟨g1, 60, (cR a b c d), none, #[]⟩] []) (TabX [fun vx => vx = .pointer (some ⟨g1, 0, none⟩), fun vx => vx = .int .u64 a, fun vx => vx = .pointer (some ⟨g1, 1, none⟩), fun vx => vx = .int .u64 b, fun vx => vx = .bool false, fun vx => vx = .bool false, fun vx => vx = .agg #[.int .u64 a, .int .u64 b, .int .i64 c, .int .i64 d], fun vx => vx = .pointer (some ⟨g1, 0, none⟩), fun vx => vx = .int .u64 a, fun vx => vx = .bool true, fun vx => vx = .bool false, fun vx => vx = .bool false]) (by kernel_rfl) (back_of (by kernel_rfl)) (dst_of (by kernel_rfl)) (in_ofz (by kernel_rfl) z1) (fun fl w1 hfl hw => SX.start' hw B1 hfl rfl ⟨b_g1_1, trivial⟩) ?h4 ?_
   case h4 =>
     intro ix ox ax wx fl ho hS hfi clo hsz hrest hdone hund
     have t1 := (hrest 1 (not_of (by kernel_rfl))).trans u_g1
     have hs : ax.tmps.size = 18 := hsz.trans z1
     have hi : ix < 12 := (Array.getElem?_eq_some_iff.1 ho).1
     clear hrest hsz hund
     obtain rfl | rfl | rfl | rfl | rfl | rfl | rfl | rfl | rfl | rfl | rfl | rfl : ix = 0 ∨ ix = 1 ∨ ix = 2 ∨ ix = 3 ∨ ix = 4 ∨ ix = 5 ∨ ix = 6 ∨ ix = 7 ∨ ix = 8 ∨ ix = 9 ∨ ix = 10 ∨ ix = 11 := by omega
     all_goals obtain rfl := Option.some.inj (show some _ = some ox from ho)
     ·
      exact wpOp_val (v := .pointer (some ⟨g1, 0, none⟩)) (w' := wx) rfl rfl (by simp [execOp, Act.eval, t1, go_sem]) ⟨_, rfl, tab_put rfl hs rfl rfl, hS.same 0 rfl⟩
     ·
      have s4 : ax.tmps.getD 4 undef = .pointer (some ⟨g1, 0, none⟩) := (hdone 0 _ rfl rfl).2 _ rfl
      have hr := hS.rowNi 0 rfl
      have hc := exec_load1 (i := 0) hr (v := .int .u64 a) rfl
      exact wpOp_val (v := .int .u64 a) (w' := wx) rfl rfl (by simp [execOp, Act.eval, s4, hc, go_sem]) ⟨_, rfl, tab_put rfl hs rfl rfl, hS.same 1 rfl⟩
     ·
      exact wpOp_val (v := .pointer (some ⟨g1, 1, none⟩)) (w' := wx) rfl rfl (by simp [execOp, Act.eval, t1, go_sem]) ⟨_, rfl, tab_put rfl hs rfl rfl, hS.same 2 rfl⟩
     ·
      have s6 : ax.tmps.getD 6 undef = .pointer (some ⟨g1, 1, none⟩) := (hdone 0 _ rfl rfl).2 _ rfl
      have hr := hS.rowNi 0 rfl
      have hc := exec_load1 (i := 1) hr (v := .int .u64 b) rfl
      exact wpOp_val (v := .int .u64 b) (w' := wx) rfl rfl (by simp [execOp, Act.eval, s6, hc, go_sem]) ⟨_, rfl, tab_put rfl hs rfl rfl, hS.same 3 rfl⟩
     ·
      have s5 : ax.tmps.getD 5 undef = .int .u64 a := (hdone 0 _ rfl rfl).2 _ rfl
      have s7 : ax.tmps.getD 7 undef = .int .u64 b := (hdone 1 _ rfl rfl).2 _ rfl
      exact wpOp_val (v := .bool (a != b)) (w' := wx) rfl rfl (by (simp [execOp, Act.eval, s5, s7, go_sem]; try (simp only [IntKind.wrap_i64, wrap64]))) ⟨_, rfl, tab_put rfl hs rfl (congrArg Value.bool Ffk1.out), hS.same 4 rfl⟩
     ·
      have s8 : ax.tmps.getD 8 undef = .bool false := (hdone 0 _ rfl rfl).2 _ rfl
      exact wpOp_val (v := .bool false) (w' := wx) rfl rfl (by simp [execOp, Act.eval, s8]) ⟨_, rfl, tab_put rfl hs rfl rfl, hS.same 5 rfl⟩
     ·
      have hg : ax.tmps.getD 9 undef = .bool false := (hdone 0 _ rfl rfl).2 _ rfl
      have hr := hS.rowNi 0 rfl
      exact wpOp_valw (v := .agg #[.int .u64 a, .int .u64 b, .int .i64 c, .int .i64 d]) (w' := wx) rfl (wanted_yes 5 9 false hg (by rw [hs]; omega) rfl rfl rfl rfl) (exec_loadR 60 _ rfl g1 0 (show ax.eval (.tmp 1) = .pointer (some ⟨g1, 0, none⟩) from t1) hr [.int .u64 a, .int .u64 b, .int .i64 c, .int .i64 d] rfl _ Try.underlying60 rfl (by kernel_rfl)) ⟨_, rfl, tab_put rfl hs rfl rfl, hS.same 6 rfl⟩
     ·
      have hg : ax.tmps.getD 9 undef = .bool false := (hdone 0 _ rfl rfl).2 _ rfl
      exact wpOp_valw (v := .pointer (some ⟨g1, 0, none⟩)) (w' := wx) rfl (wanted_yes 5 9 false hg (by rw [hs]; omega) rfl rfl rfl rfl) (by simp [execOp, Act.eval, t1, go_sem]) ⟨_, rfl, tab_put rfl hs rfl rfl, hS.same 7 rfl⟩
     ·
      have hg : ax.tmps.getD 9 undef = .bool false := (hdone 1 _ rfl rfl).2 _ rfl
      have s11 : ax.tmps.getD 11 undef = .pointer (some ⟨g1, 0, none⟩) := (hdone 0 _ rfl rfl).2 _ rfl
      have hr := hS.rowNi 0 rfl
      have hc := exec_load1 (i := 0) hr (v := .int .u64 a) rfl
      exact wpOp_valw (v := .int .u64 a) (w' := wx) rfl (wanted_yes 5 9 false hg (by rw [hs]; omega) rfl rfl rfl rfl) (by simp [execOp, Act.eval, s11, hc, go_sem]) ⟨_, rfl, tab_put rfl hs rfl rfl, hS.same 8 rfl⟩
     ·
      have hg : ax.tmps.getD 9 undef = .bool false := (hdone 2 _ rfl rfl).2 _ rfl
      have s10 : ax.tmps.getD 10 undef = .agg #[.int .u64 a, .int .u64 b, .int .i64 c, .int .i64 d] := (hdone 0 _ rfl rfl).2 _ rfl
      have s12 : ax.tmps.getD 12 undef = .int .u64 a := (hdone 1 _ rfl rfl).2 _ rfl
      refine wpOp_callw (args := #[.agg #[.int .u64 a, .int .u64 b, .int .i64 c, .int .i64 d], .int .u64 a]) rfl (wanted_yes 5 9 false hg (by rw [hs]; omega) rfl rfl rfl rfl) (exec_call rfl rfl rfl (args2 (show ax.eval (.tmp 10) = .agg #[.int .u64 a, .int .u64 b, .int .i64 c, .int .i64 d] from s10) (show ax.eval (.tmp 12) = .int .u64 a from s12)) Try.func36 (by decide +kernel) rfl) ?_
      · refine (has_n a b c d a wx).mono ?_
        rintro e w' ⟨rfl, b9⟩
        exact ⟨_, rfl, _, rfl, tab_put rfl hs rfl (congrArg Value.bool Ffk2.out), hS.quiet 9 rfl b9⟩
     ·
      have hg : ax.tmps.getD 9 undef = .bool false := (hdone 1 _ rfl rfl).2 _ rfl
      have s13 : ax.tmps.getD 13 undef = .bool true := (hdone 0 _ rfl rfl).2 _ rfl
      exact wpOp_valw (v := .bool false) (w' := wx) rfl (wanted_yes 5 9 false hg (by rw [hs]; omega) rfl rfl rfl rfl) (by simp [execOp, Act.eval, s13, go_sem]) ⟨_, rfl, tab_put rfl hs rfl rfl, hS.same 10 rfl⟩
     ·
      have s9 : ax.tmps.getD 9 undef = .bool false := (hdone 0 _ rfl rfl).2 _ rfl
      have s14 : ax.tmps.getD 14 undef = .bool false := (hdone 1 _ rfl rfl).2 _ rfl
      exact wpOp_val (v := .bool false) (w' := wx) rfl rfl (by simp [execOp, Act.eval, s9, s14, go_sem]) ⟨_, rfl, tab_put rfl hs rfl rfl, hS.same 11 rfl⟩
   intro a2 w2 fl d2 z2 rest2 R2 hfl hS
   obtain ⟨B2, n2, hBs, hAs, hPs⟩ := hS.finish hfl rfl
   replace d2 := d2.trans d1
   replace z2 := z2.trans z1
   obtain ⟨⟨l_g1_2, b_g1_2⟩, -⟩ := hBs
   replace l_g1_2 : g1 < w1.heap.size := l_g1_2
   have s1_2 := (rest2 1 (not_of (by kernel_rfl))).trans u_g1
   have s2_2 := (rest2 2 (not_of (by kernel_rfl))).trans s2_1
   have s3_2 := (rest2 3 (not_of (by kernel_rfl))).trans s3_1
   have s15_2 : a2.tmps.getD 15 undef = .bool false := R2 11 _ rfl
   clear R2 rest2 hS hfl hPs hAs
   clear u_g1 s2_1 s3_1 b_g1_1 d1 z1
   refine wp_cond_false (show a2.tmps.getD 15 undef = .bool false from s15_2) ?_
   refine wp_skip ?_
   refine wp_seq ?_
   refine wp_regx (SX W w2.heap.size [⟨g1, 60, (cR a b c d), none, #[]⟩] []) (TabX [fun vx => vx = .pointer (some ⟨g1, 0, none⟩), fun vx => vx = .int .u64 a, fun vx => vx = .int .u64 a, fun vx => vx = .bool true]) (by kernel_rfl) (back_of (by kernel_rfl)) (dst_of (by kernel_rfl)) (in_ofz (by kernel_rfl) z2) (fun fl w1 hfl hw => SX.start' hw B2 hfl rfl ⟨b_g1_2, trivial⟩) ?h5 ?_
   case h5 =>
     intro ix ox ax wx fl ho hS hfi clo hsz hrest hdone hund
     have t1 := (hrest 1 (not_of (by kernel_rfl))).trans s1_2
     have hs : ax.tmps.size = 18 := hsz.trans z2
     have hi : ix < 4 := (Array.getElem?_eq_some_iff.1 ho).1
     clear hrest hsz hund
     obtain rfl | rfl | rfl | rfl : ix = 0 ∨ ix = 1 ∨ ix = 2 ∨ ix = 3 := by omega
     all_goals obtain rfl := Option.some.inj (show some _ = some ox from ho)
     ·
      exact wpOp_val (v := .pointer (some ⟨g1, 0, none⟩)) (w' := wx) rfl rfl (by simp [execOp, Act.eval, t1, go_sem]) ⟨_, rfl, tab_put rfl hs rfl rfl, hS.same 0 rfl⟩
     ·
      have s16 : ax.tmps.getD 16 undef = .pointer (some ⟨g1, 0, none⟩) := (hdone 0 _ rfl rfl).2 _ rfl
      have hr := hS.rowNi 0 rfl
      have hc := exec_load1 (i := 0) hr (v := .int .u64 a) rfl
      exact wpOp_val (v := .int .u64 a) (w' := wx) rfl rfl (by simp [execOp, Act.eval, s16, hc, go_sem]) ⟨_, rfl, tab_put rfl hs rfl rfl, hS.same 1 rfl⟩
     ·
      have s17 : ax.tmps.getD 17 undef = .int .u64 a := (hdone 0 _ rfl rfl).2 _ rfl
      exact wpOp_val (v := .int .u64 a) (w' := wx) rfl rfl (by simp [execOp, Act.eval, s17]) ⟨_, rfl, tab_put rfl hs rfl rfl, hS.same 2 rfl⟩
     ·
      exact wpOp_val (v := .bool true) (w' := wx) rfl rfl (by simp [execOp, Act.eval]) ⟨_, rfl, tab_put rfl hs rfl rfl, hS.same 3 rfl⟩
   intro a3 w3 fl d3 z3 rest3 R3 hfl hS
   obtain ⟨B3, n3, hBs, hAs, hPs⟩ := hS.finish hfl rfl
   replace d3 := d3.trans d2
   replace z3 := z3.trans z2
   obtain ⟨⟨-, b_g1_3⟩, -⟩ := hBs
   have s2_3 : a3.tmps.getD 2 undef = .int .u64 a := R3 2 _ rfl
   have s3_3 : a3.tmps.getD 3 undef = .bool true := R3 3 _ rfl
   clear R3 rest3 hS hfl hPs hAs
   clear s1_2 s2_2 s3_2 s15_2 b_g1_2 d2 z2
   refine wp_ret ?_
   try simp only [Exit.inBlock, Exit.then]
   refine bodyPost_ret (res_tt (fn := Try.f26) rfl s2_3 s3_3) d3 ?_
   have ob : Rg.oneB ⟨⟨a, b⟩, ⟨c, d⟩⟩ = true := by show (a == b && Rg.hasB ⟨⟨a, b⟩, ⟨c, d⟩⟩ a) = _; rw [show (a == b) = true by have := Ffk1.out; simpa using this, Ffk2.out]; rfl
   have HE : Value.tuple #[.int .u64 a, .bool true] = .tuple #[.int .u64 (Rg.oneV ⟨⟨a, b⟩, ⟨c, d⟩⟩), .bool (Rg.oneB ⟨⟨a, b⟩, ⟨c, d⟩⟩)] := by unfold Rg.oneV; rw [ob]; rfl
   exact ⟨retV HE, B3⟩
  have Ffk1 := Lib.hid fk1; clear fk1
  refine wp_regx (SX W w1.heap.size [⟨g1, 60, (cR a b c d), none, #[]⟩] []) (TabX [fun vx => vx = .pointer (some ⟨g1, 0, none⟩), fun vx => vx = .int .u64 a, fun vx => vx = .pointer (some ⟨g1, 1, none⟩), fun vx => vx = .int .u64 b, fun vx => vx = .bool true, fun vx => vx = .bool true, fun vx => vx = undef, fun vx => vx = undef, fun vx => vx = undef, fun vx => vx = undef, fun vx => vx = undef, fun vx => vx = .bool true]) (by kernel_rfl) (back_of (by kernel_rfl)) (dst_of (by kernel_rfl)) (in_ofz (by kernel_rfl) z1) (fun fl w1 hfl hw => SX.start' hw B1 hfl rfl ⟨b_g1_1, trivial⟩) ?h6 ?_
  case h6 =>
    intro ix ox ax wx fl ho hS hfi clo hsz hrest hdone hund
    have t1 := (hrest 1 (not_of (by kernel_rfl))).trans u_g1
    have hs : ax.tmps.size = 18 := hsz.trans z1
    have hi : ix < 12 := (Array.getElem?_eq_some_iff.1 ho).1
    clear hrest hsz hund
    obtain rfl | rfl | rfl | rfl | rfl | rfl | rfl | rfl | rfl | rfl | rfl | rfl : ix = 0 ∨ ix = 1 ∨ ix = 2 ∨ ix = 3 ∨ ix = 4 ∨ ix = 5 ∨ ix = 6 ∨ ix = 7 ∨ ix = 8 ∨ ix = 9 ∨ ix = 10 ∨ ix = 11 := by omega
    all_goals obtain rfl := Option.some.inj (show some _ = some ox from ho)
    ·
     exact wpOp_val (v := .pointer (some ⟨g1, 0, none⟩)) (w' := wx) rfl rfl (by simp [execOp, Act.eval, t1, go_sem]) ⟨_, rfl, tab_put rfl hs rfl rfl, hS.same 0 rfl⟩
    ·
     have s4 : ax.tmps.getD 4 undef = .pointer (some ⟨g1, 0, none⟩) := (hdone 0 _ rfl rfl).2 _ rfl
     have hr := hS.rowNi 0 rfl
     have hc := exec_load1 (i := 0) hr (v := .int .u64 a) rfl
     exact wpOp_val (v := .int .u64 a) (w' := wx) rfl rfl (by simp [execOp, Act.eval, s4, hc, go_sem]) ⟨_, rfl, tab_put rfl hs rfl rfl, hS.same 1 rfl⟩
    ·
     exact wpOp_val (v := .pointer (some ⟨g1, 1, none⟩)) (w' := wx) rfl rfl (by simp [execOp, Act.eval, t1, go_sem]) ⟨_, rfl, tab_put rfl hs rfl rfl, hS.same 2 rfl⟩
    ·
     have s6 : ax.tmps.getD 6 undef = .pointer (some ⟨g1, 1, none⟩) := (hdone 0 _ rfl rfl).2 _ rfl
     have hr := hS.rowNi 0 rfl
     have hc := exec_load1 (i := 1) hr (v := .int .u64 b) rfl
     exact wpOp_val (v := .int .u64 b) (w' := wx) rfl rfl (by simp [execOp, Act.eval, s6, hc, go_sem]) ⟨_, rfl, tab_put rfl hs rfl rfl, hS.same 3 rfl⟩
    ·
     have s5 : ax.tmps.getD 5 undef = .int .u64 a := (hdone 0 _ rfl rfl).2 _ rfl
     have s7 : ax.tmps.getD 7 undef = .int .u64 b := (hdone 1 _ rfl rfl).2 _ rfl
     exact wpOp_val (v := .bool (a != b)) (w' := wx) rfl rfl (by (simp [execOp, Act.eval, s5, s7, go_sem]; try (simp only [IntKind.wrap_i64, wrap64]))) ⟨_, rfl, tab_put rfl hs rfl (congrArg Value.bool Ffk1.out), hS.same 4 rfl⟩
    ·
     have s8 : ax.tmps.getD 8 undef = .bool true := (hdone 0 _ rfl rfl).2 _ rfl
     exact wpOp_val (v := .bool true) (w' := wx) rfl rfl (by simp [execOp, Act.eval, s8]) ⟨_, rfl, tab_put rfl hs rfl rfl, hS.same 5 rfl⟩
    ·
     have hg : ax.tmps.getD 9 undef = .bool true := (hdone 0 _ rfl rfl).2 _ rfl
     exact wpOp_no rfl (wanted_no 5 9 true hg (by rw [hs]; omega) rfl rfl rfl rfl) ⟨_, rfl, tab_put rfl hs rfl rfl, hS.same 6 rfl⟩
    ·
     have hg : ax.tmps.getD 9 undef = .bool true := (hdone 0 _ rfl rfl).2 _ rfl
     exact wpOp_no rfl (wanted_no 5 9 true hg (by rw [hs]; omega) rfl rfl rfl rfl) ⟨_, rfl, tab_put rfl hs rfl rfl, hS.same 7 rfl⟩
    ·
     have hg : ax.tmps.getD 9 undef = .bool true := (hdone 1 _ rfl rfl).2 _ rfl
     exact wpOp_no rfl (wanted_no 5 9 true hg (by rw [hs]; omega) rfl rfl rfl rfl) ⟨_, rfl, tab_put rfl hs rfl rfl, hS.same 8 rfl⟩
    ·
     have hg : ax.tmps.getD 9 undef = .bool true := (hdone 2 _ rfl rfl).2 _ rfl
     exact wpOp_no rfl (wanted_no 5 9 true hg (by rw [hs]; omega) rfl rfl rfl rfl) ⟨_, rfl, tab_put rfl hs rfl rfl, hS.same 9 rfl⟩
    ·
     have hg : ax.tmps.getD 9 undef = .bool true := (hdone 1 _ rfl rfl).2 _ rfl
     exact wpOp_no rfl (wanted_no 5 9 true hg (by rw [hs]; omega) rfl rfl rfl rfl) ⟨_, rfl, tab_put rfl hs rfl rfl, hS.same 10 rfl⟩
    ·
     have s9 : ax.tmps.getD 9 undef = .bool true := (hdone 0 _ rfl rfl).2 _ rfl
     have s14 : ax.tmps.getD 14 undef = undef := (hdone 1 _ rfl rfl).2 _ rfl
     exact wpOp_val (v := .bool true) (w' := wx) rfl rfl (by simp [execOp, Act.eval, s9, s14, go_sem]) ⟨_, rfl, tab_put rfl hs rfl rfl, hS.same 11 rfl⟩
  intro a2 w2 fl d2 z2 rest2 R2 hfl hS
  obtain ⟨B2, n2, hBs, hAs, hPs⟩ := hS.finish hfl rfl
  replace d2 := d2.trans d1
  replace z2 := z2.trans z1
  obtain ⟨⟨l_g1_2, b_g1_2⟩, -⟩ := hBs
  replace l_g1_2 : g1 < w1.heap.size := l_g1_2
  have s1_2 := (rest2 1 (not_of (by kernel_rfl))).trans u_g1
  have s2_2 := (rest2 2 (not_of (by kernel_rfl))).trans s2_1
  have s3_2 := (rest2 3 (not_of (by kernel_rfl))).trans s3_1
  have s15_2 : a2.tmps.getD 15 undef = .bool true := R2 11 _ rfl
  clear R2 rest2 hS hfl hPs hAs
  clear u_g1 s2_1 s3_1 b_g1_1 d1 z1
  refine wp_cond_true (show a2.tmps.getD 15 undef = .bool true from s15_2) ?_
  refine wp_seq ?_
  refine wp_regx (SX W w2.heap.size [⟨g1, 60, (cR a b c d), none, #[]⟩] []) (TabX [fun vx => vx = .int .u64 0, fun vx => vx = .bool false]) (by kernel_rfl) (back_of (by kernel_rfl)) (dst_of (by kernel_rfl)) (in_ofz (by kernel_rfl) z2) (fun fl w1 hfl hw => SX.start' hw B2 hfl rfl ⟨b_g1_2, trivial⟩) ?h7 ?_
  case h7 =>
    intro ix ox ax wx fl ho hS hfi clo hsz hrest hdone hund
    have hs : ax.tmps.size = 18 := hsz.trans z2
    have hi : ix < 2 := (Array.getElem?_eq_some_iff.1 ho).1
    clear hrest hsz hund
    obtain rfl | rfl : ix = 0 ∨ ix = 1 := by omega
    all_goals obtain rfl := Option.some.inj (show some _ = some ox from ho)
    ·
     exact wpOp_val (v := .int .u64 0) (w' := wx) rfl rfl (by simp [execOp, Act.eval]) ⟨_, rfl, tab_put rfl hs rfl rfl, hS.same 0 rfl⟩
    ·
     exact wpOp_val (v := .bool false) (w' := wx) rfl rfl (by simp [execOp, Act.eval]) ⟨_, rfl, tab_put rfl hs rfl rfl, hS.same 1 rfl⟩
  intro a3 w3 fl d3 z3 rest3 R3 hfl hS
  obtain ⟨B3, n3, hBs, hAs, hPs⟩ := hS.finish hfl rfl
  replace d3 := d3.trans d2
  replace z3 := z3.trans z2
  obtain ⟨⟨-, b_g1_3⟩, -⟩ := hBs
  have s1_3 := (rest3 1 (not_of (by kernel_rfl))).trans s1_2
  have s2_3 : a3.tmps.getD 2 undef = .int .u64 0 := R3 0 _ rfl
  have s3_3 : a3.tmps.getD 3 undef = .bool false := R3 1 _ rfl
  clear R3 rest3 hS hfl hPs hAs
  clear s1_2 s2_2 s3_2 s15_2 b_g1_2 d2 z2
  refine wp_ret ?_
  try simp only [Exit.inBlock, Exit.then]
  refine bodyPost_ret (res_tt (fn := Try.f26) rfl s2_3 s3_3) d3 ?_
  have ob : Rg.oneB ⟨⟨a, b⟩, ⟨c, d⟩⟩ = false := by show (a == b && Rg.hasB ⟨⟨a, b⟩, ⟨c, d⟩⟩ a) = false; rw [show (a == b) = false by have := Ffk1.out; simpa using this]; rfl
  have HE : Value.tuple #[.int .u64 0, .bool false] = .tuple #[.int .u64 (Rg.oneV ⟨⟨a, b⟩, ⟨c, d⟩⟩), .bool (Rg.oneB ⟨⟨a, b⟩, ⟨c, d⟩⟩)] := by unfold Rg.oneV; rw [ob]; rfl
  exact ⟨retV HE, B3⟩

instance : DecidableEq Pr := fun a b => if h : a.lo = b.lo ∧ a.hi = b.hi then isTrue (by cases a; cases b; simp_all) else isFalse (fun e => h (by rw [e]; exact ⟨rfl, rfl⟩))
instance : DecidableEq Rg := fun a b => if h : a.u = b.u ∧ a.s = b.s then isTrue (by cases a; cases b; simp_all) else isFalse (fun e => h (by rw [e]; exact ⟨rfl, rfl⟩))

set_option maxHeartbeats 4000000 in
theorem low_n (a b c d : Int) (W : World) : Calls Try.prog 44 #[.agg #[.int .u64 a, .int .u64 b, .int .i64 c, .int .i64 d]] W fun e w' => e = .returned (.agg #[.int .u64 (Rg.low ⟨⟨a, b⟩, ⟨c, d⟩⟩).u.lo, .int .u64 (Rg.low ⟨⟨a, b⟩, ⟨c, d⟩⟩).u.hi, .int .i64 (Rg.low ⟨⟨a, b⟩, ⟨c, d⟩⟩).s.lo, .int .i64 (Rg.low ⟨⟨a, b⟩, ⟨c, d⟩⟩).s.hi]) ∧ Below W.heap.size W w' := by
  have HK : Hid (Rg.Ok ⟨⟨0, 4294967295⟩, allR.s⟩) := Lib.hid (by simp only [Rg.Ok, Pr.U, Pr.S, allR, allS]; omega)
  have HL : Hid (Rg.nar ⟨⟨0, 4294967295⟩, allR.s⟩ = ⟨low32, low32⟩) := Lib.hid (by decide +kernel)
  refine calls_abs Try.func44 rfl (Nat.le_of_ble_eq_true rfl) ?_
  intro a0 d0 z0 h0
  have z0 : a0.tmps.size = 20 := z0
  have s0_0 : a0.tmps.getD 0 undef = .agg #[.int .u64 a, .int .u64 b, .int .i64 c, .int .i64 d] := h0 0 (Nat.le_of_ble_eq_true rfl)
  clear h0
  have B0 : Below W.heap.size W W := Below.refl _ _
  refine wp_seq ?_
  refine wp_regx (SX W W.heap.size [] [⟨0, 1, 60, (cR a b c d), none, #[]⟩, ⟨1, 2, 60, (cR 0 0 0 0), none, #[]⟩]) (TabX [fun _ => True, fun _ => True]) (by kernel_rfl) (back_of (by kernel_rfl)) (dst_of (by kernel_rfl)) (in_ofz (by kernel_rfl) z0) (fun fl w1 hfl hw => SX.start' hw B0 hfl rfl trivial) ?h1 ?_
  case h1 =>
    intro ix ox ax wx fl ho hS hfi clo hsz hrest hdone hund
    have t0 := (hrest 0 (not_of (by kernel_rfl))).trans s0_0
    have hs : ax.tmps.size = 20 := hsz.trans z0
    have hi : ix < 2 := (Array.getElem?_eq_some_iff.1 ho).1
    clear hrest hsz hund
    obtain rfl | rfl : ix = 0 ∨ ix = 1 := by omega
    all_goals obtain rfl := Option.some.inj (show some _ = some ox from ho)
    ·
     refine wpOp_val (v := .pointer (some ⟨wx.heap.size, 0, none⟩)) (w' := wx.alloc (.cells #[.int .u64 a, .int .u64 b, .int .i64 c, .int .i64 d] 60)) rfl rfl ?_ ⟨_, rfl, trivial, hS.alloc 0 1 60 #[.int .u64 a, .int .u64 b, .int .i64 c, .int .i64 d] [] [⟨1, 2, 60, (cR 0 0 0 0), none, #[]⟩] (none) #[] rfl rfl rfl (by rw [hs]; omega) trivial⟩
     · simp [execOp, Act.eval, t0, go_sem]
    ·
     refine wpOp_val (v := .pointer (some ⟨wx.heap.size, 0, none⟩)) (w' := wx.alloc (.cells #[.int .u64 0, .int .u64 0, .int .i64 0, .int .i64 0] 60)) rfl rfl ?_ ⟨_, rfl, trivial, hS.alloc 1 2 60 #[.int .u64 0, .int .u64 0, .int .i64 0, .int .i64 0] [⟨0, 1, 60, (cR a b c d), none, #[]⟩] [] (none) #[] rfl rfl rfl (by rw [hs]; omega) trivial⟩
     · simp [execOp, Act.eval, go_sem]
  intro a1 w1 fl d1 z1 rest1 R1 hfl hS
  obtain ⟨B1, n1, hBs, hAs, hPs⟩ := hS.finish hfl rfl
  replace d1 := d1.trans d0
  replace z1 := z1.trans z0
  obtain ⟨⟨g1, u_g1, q_g1, b_g1_1⟩, ⟨g2, u_g2, q_g2, b_g2_1⟩, -⟩ := hAs
  replace u_g1 : a1.tmps.getD 1 undef = .pointer (some ⟨g1, 0, none⟩) := u_g1
  have m_g1 : W.heap.size ≤ g1 := q_g1
  replace q_g1 : W.heap.size ≤ g1 := Nat.le_trans B0.size q_g1
  replace u_g2 : a1.tmps.getD 2 undef = .pointer (some ⟨g2, 0, none⟩) := u_g2
  have m_g2 : W.heap.size ≤ g2 := q_g2
  replace q_g2 : W.heap.size ≤ g2 := Nat.le_trans B0.size q_g2
  simp only [List.pairwise_cons, List.mem_cons, List.not_mem_nil, or_false, forall_eq_or_imp, forall_eq] at hPs
  have ne_g1_g2 : g1 ≠ g2 := by
    have hn : slotOf a1 1 ≠ slotOf a1 2 := hPs.1
    intro e; subst e; exact hn (Eq.trans u_g1 u_g2.symm)
  clear R1 rest1 hS hfl hPs hBs
  clear s0_0 d0 z0
  refine wp_seq ?_
  refine wp_seq ?_
  cases fk1 : Rg.mayB ⟨⟨a, b⟩, ⟨c, d⟩⟩
  case false =>
   have Ffk1 := Lib.hid fk1; clear fk1
   refine wp_regx (SX W w1.heap.size [⟨g1, 60, (cR a b c d), none, #[]⟩, ⟨g2, 60, (cR 0 0 0 0), none, #[]⟩] []) (TabX [fun vx => vx = .agg #[.int .u64 a, .int .u64 b, .int .i64 c, .int .i64 d], fun vx => vx = .bool false, fun vx => vx = .bool false, fun vx => vx = undef, fun vx => vx = undef, fun vx => vx = undef, fun vx => vx = .bool false]) (by kernel_rfl) (back_of (by kernel_rfl)) (dst_of (by kernel_rfl)) (in_ofz (by kernel_rfl) z1) (fun fl w1 hfl hw => SX.start' hw B1 hfl rfl ⟨b_g1_1, b_g2_1, trivial⟩) ?h2 ?_
   case h2 =>
     intro ix ox ax wx fl ho hS hfi clo hsz hrest hdone hund
     have t1 := (hrest 1 (not_of (by kernel_rfl))).trans u_g1
     have hs : ax.tmps.size = 20 := hsz.trans z1
     have hi : ix < 7 := (Array.getElem?_eq_some_iff.1 ho).1
     clear hrest hsz hund
     obtain rfl | rfl | rfl | rfl | rfl | rfl | rfl : ix = 0 ∨ ix = 1 ∨ ix = 2 ∨ ix = 3 ∨ ix = 4 ∨ ix = 5 ∨ ix = 6 := by omega
     all_goals obtain rfl := Option.some.inj (show some _ = some ox from ho)
     ·
      have hr := hS.rowNi 0 rfl
      exact wpOp_val (v := .agg #[.int .u64 a, .int .u64 b, .int .i64 c, .int .i64 d]) (w' := wx) rfl rfl (exec_loadR 60 _ rfl g1 0 (show ax.eval (.tmp 1) = .pointer (some ⟨g1, 0, none⟩) from t1) hr [.int .u64 a, .int .u64 b, .int .i64 c, .int .i64 d] rfl _ Try.underlying60 rfl (by kernel_rfl)) ⟨_, rfl, tab_put rfl hs rfl rfl, hS.same 0 rfl⟩
     ·
      have s3 : ax.tmps.getD 3 undef = .agg #[.int .u64 a, .int .u64 b, .int .i64 c, .int .i64 d] := (hdone 0 _ rfl rfl).2 _ rfl
      refine wpOp_call (args := #[.agg #[.int .u64 a, .int .u64 b, .int .i64 c, .int .i64 d]]) rfl rfl (exec_call rfl rfl rfl (args1 (show ax.eval (.tmp 3) = .agg #[.int .u64 a, .int .u64 b, .int .i64 c, .int .i64 d] from s3)) Try.func30 (by decide +kernel) rfl) ?_
      · refine (may_n a b c d wx).mono ?_
        rintro e w' ⟨rfl, b9⟩
        exact ⟨_, rfl, _, rfl, tab_put rfl hs rfl (congrArg Value.bool Ffk1.out), hS.quiet 1 rfl b9⟩
     ·
      have s4 : ax.tmps.getD 4 undef = .bool false := (hdone 0 _ rfl rfl).2 _ rfl
      exact wpOp_val (v := .bool false) (w' := wx) rfl rfl (by simp [execOp, Act.eval, s4]) ⟨_, rfl, tab_put rfl hs rfl rfl, hS.same 2 rfl⟩
     ·
      have hg : ax.tmps.getD 5 undef = .bool false := (hdone 0 _ rfl rfl).2 _ rfl
      exact wpOp_no rfl (wanted_no 2 5 false hg (by rw [hs]; omega) rfl rfl rfl rfl) ⟨_, rfl, tab_put rfl hs rfl rfl, hS.same 3 rfl⟩
     ·
      have hg : ax.tmps.getD 5 undef = .bool false := (hdone 1 _ rfl rfl).2 _ rfl
      exact wpOp_no rfl (wanted_no 2 5 false hg (by rw [hs]; omega) rfl rfl rfl rfl) ⟨_, rfl, tab_put rfl hs rfl rfl, hS.same 4 rfl⟩
     ·
      have hg : ax.tmps.getD 5 undef = .bool false := (hdone 1 _ rfl rfl).2 _ rfl
      exact wpOp_no rfl (wanted_no 2 5 false hg (by rw [hs]; omega) rfl rfl rfl rfl) ⟨_, rfl, tab_put rfl hs rfl rfl, hS.same 5 rfl⟩
     ·
      have s5 : ax.tmps.getD 5 undef = .bool false := (hdone 0 _ rfl rfl).2 _ rfl
      have s8 : ax.tmps.getD 8 undef = undef := (hdone 1 _ rfl rfl).2 _ rfl
      exact wpOp_val (v := .bool false) (w' := wx) rfl rfl (by simp [execOp, Act.eval, s5, s8, go_sem]) ⟨_, rfl, tab_put rfl hs rfl rfl, hS.same 6 rfl⟩
   intro a2 w2 fl d2 z2 rest2 R2 hfl hS
   obtain ⟨B2, n2, hBs, hAs, hPs⟩ := hS.finish hfl rfl
   replace d2 := d2.trans d1
   replace z2 := z2.trans z1
   obtain ⟨⟨l_g1_2, b_g1_2⟩, ⟨l_g2_2, b_g2_2⟩, -⟩ := hBs
   replace l_g1_2 : g1 < w1.heap.size := l_g1_2
   replace l_g2_2 : g2 < w1.heap.size := l_g2_2
   have s1_2 := (rest2 1 (not_of (by kernel_rfl))).trans u_g1
   have s2_2 := (rest2 2 (not_of (by kernel_rfl))).trans u_g2
   have s9_2 : a2.tmps.getD 9 undef = .bool false := R2 6 _ rfl
   clear R2 rest2 hS hfl hPs hAs
   clear u_g1 u_g2 b_g1_1 b_g2_1 d1 z1
   refine wp_cond_false (show a2.tmps.getD 9 undef = .bool false from s9_2) ?_
   refine wp_skip ?_
   refine wp_seq ?_
   refine wp_regx (SX W w2.heap.size [⟨g1, 60, (cR a b c d), some 8, (cR ((⟨low32, low32⟩ : Rg).u.lo) ((⟨low32, low32⟩ : Rg).u.hi) ((⟨low32, low32⟩ : Rg).s.lo) ((⟨low32, low32⟩ : Rg).s.hi))⟩, ⟨g2, 60, (cR 0 0 0 0), none, #[]⟩] []) (TabX [fun vx => vx = .agg #[.int .u64 0, .int .u64 4294967295], fun vx => vx = .agg #[.int .u64 allR.u.lo, .int .u64 allR.u.hi, .int .i64 allR.s.lo, .int .i64 allR.s.hi], fun vx => vx = .agg #[.int .i64 allR.s.lo, .int .i64 allR.s.hi], fun vx => vx = .agg #[.int .u64 0, .int .u64 4294967295, .int .i64 allR.s.lo, .int .i64 allR.s.hi], fun vx => vx = .tuple #[.agg #[.int .u64 ((⟨low32, low32⟩ : Rg).u.lo), .int .u64 ((⟨low32, low32⟩ : Rg).u.hi), .int .i64 ((⟨low32, low32⟩ : Rg).s.lo), .int .i64 ((⟨low32, low32⟩ : Rg).s.hi)], .bool (Rg.narB ⟨⟨0, 4294967295⟩, allR.s⟩)], fun vx => vx = .tuple #[.agg #[.int .u64 ((⟨low32, low32⟩ : Rg).u.lo), .int .u64 ((⟨low32, low32⟩ : Rg).u.hi), .int .i64 ((⟨low32, low32⟩ : Rg).s.lo), .int .i64 ((⟨low32, low32⟩ : Rg).s.hi)], .bool (Rg.narB ⟨⟨0, 4294967295⟩, allR.s⟩)], fun vx => vx = .agg #[.int .u64 ((⟨low32, low32⟩ : Rg).u.lo), .int .u64 ((⟨low32, low32⟩ : Rg).u.hi), .int .i64 ((⟨low32, low32⟩ : Rg).s.lo), .int .i64 ((⟨low32, low32⟩ : Rg).s.hi)], fun vx => vx = .bool (Rg.narB ⟨⟨0, 4294967295⟩, allR.s⟩), fun _ => True]) (by kernel_rfl) (back_of (by kernel_rfl)) (dst_of (by kernel_rfl)) (in_ofz (by kernel_rfl) z2) (fun fl w1 hfl hw => SX.start' hw B2 hfl rfl ⟨b_g1_2, b_g2_2, trivial⟩) ?h3 ?_
   case h3 =>
     intro ix ox ax wx fl ho hS hfi clo hsz hrest hdone hund
     have t1 := (hrest 1 (not_of (by kernel_rfl))).trans s1_2
     have hs : ax.tmps.size = 20 := hsz.trans z2
     have hi : ix < 9 := (Array.getElem?_eq_some_iff.1 ho).1
     clear hrest hsz hund
     obtain rfl | rfl | rfl | rfl | rfl | rfl | rfl | rfl | rfl : ix = 0 ∨ ix = 1 ∨ ix = 2 ∨ ix = 3 ∨ ix = 4 ∨ ix = 5 ∨ ix = 6 ∨ ix = 7 ∨ ix = 8 := by omega
     all_goals obtain rfl := Option.some.inj (show some _ = some ox from ho)
     ·
      refine wpOp_call (args := #[.int .u64 4294967295]) rfl rfl (exec_call rfl rfl rfl (args1 (show ax.eval (.const (.int .u64 4294967295)) = .int .u64 4294967295 from rfl)) Try.func81 (by decide +kernel) rfl) ?_
      · refine (upTo_n 4294967295 wx).mono ?_
        rintro e w' ⟨rfl, b9⟩
        exact ⟨_, rfl, _, rfl, tab_put rfl hs rfl rfl, hS.quiet 0 rfl b9⟩
     ·
      refine wpOp_call (args := #[]) rfl rfl (exec_call rfl rfl rfl (args0 ) Try.func32 (by decide +kernel) rfl) ?_
      · refine (all_n wx).mono ?_
        rintro e w' ⟨rfl, b9⟩
        exact ⟨_, rfl, _, rfl, tab_put rfl hs rfl rfl, hS.quiet 1 rfl b9⟩
     ·
      have s13 : ax.tmps.getD 13 undef = .agg #[.int .u64 allR.u.lo, .int .u64 allR.u.hi, .int .i64 allR.s.lo, .int .i64 allR.s.hi] := (hdone 0 _ rfl rfl).2 _ rfl
      refine wpOp_call (args := #[.agg #[.int .u64 allR.u.lo, .int .u64 allR.u.hi, .int .i64 allR.s.lo, .int .i64 allR.s.hi]]) rfl rfl (exec_call rfl rfl rfl (args1 (show ax.eval (.tmp 13) = .agg #[.int .u64 allR.u.lo, .int .u64 allR.u.hi, .int .i64 allR.s.lo, .int .i64 allR.s.hi] from s13)) Try.func63 (by decide +kernel) rfl) ?_
      · refine (signed_n allR.u.lo allR.u.hi allR.s.lo allR.s.hi wx).mono ?_
        rintro e w' ⟨rfl, b9⟩
        exact ⟨_, rfl, _, rfl, tab_put rfl hs rfl rfl, hS.quiet 2 rfl b9⟩
     ·
      have s12 : ax.tmps.getD 12 undef = .agg #[.int .u64 0, .int .u64 4294967295] := (hdone 0 _ rfl rfl).2 _ rfl
      have s14 : ax.tmps.getD 14 undef = .agg #[.int .i64 allR.s.lo, .int .i64 allR.s.hi] := (hdone 1 _ rfl rfl).2 _ rfl
      refine wpOp_call (args := #[.agg #[.int .u64 0, .int .u64 4294967295], .agg #[.int .i64 allR.s.lo, .int .i64 allR.s.hi]]) rfl rfl (exec_call rfl rfl rfl (args2 (show ax.eval (.tmp 12) = .agg #[.int .u64 0, .int .u64 4294967295] from s12) (show ax.eval (.tmp 14) = .agg #[.int .i64 allR.s.lo, .int .i64 allR.s.hi] from s14)) Try.func60 (by decide +kernel) rfl) ?_
      · refine (both_n 0 4294967295 allR.s.lo allR.s.hi wx).mono ?_
        rintro e w' ⟨rfl, b9⟩
        exact ⟨_, rfl, _, rfl, tab_put rfl hs rfl rfl, hS.quiet 3 rfl b9⟩
     ·
      have s15 : ax.tmps.getD 15 undef = .agg #[.int .u64 0, .int .u64 4294967295, .int .i64 allR.s.lo, .int .i64 allR.s.hi] := (hdone 0 _ rfl rfl).2 _ rfl
      refine wpOp_call (args := #[.agg #[.int .u64 0, .int .u64 4294967295, .int .i64 allR.s.lo, .int .i64 allR.s.hi]]) rfl rfl (exec_call rfl rfl rfl (args1 (show ax.eval (.tmp 15) = .agg #[.int .u64 0, .int .u64 4294967295, .int .i64 allR.s.lo, .int .i64 allR.s.hi] from s15)) Try.func28 (by decide +kernel) rfl) ?_
      · refine (narrow_n 0 4294967295 allR.s.lo allR.s.hi wx HK.out).mono ?_
        rintro e w' ⟨rfl, b9⟩
        exact ⟨_, rfl, _, rfl, tab_put rfl hs rfl (congrArg (fun x : Rg => Value.tuple #[Value.agg #[.int .u64 x.u.lo, .int .u64 x.u.hi, .int .i64 x.s.lo, .int .i64 x.s.hi], .bool (Rg.narB ⟨⟨0, 4294967295⟩, allR.s⟩)]) HL.out), hS.quiet 4 rfl b9⟩
     ·
      have s16 : ax.tmps.getD 16 undef = .tuple #[.agg #[.int .u64 ((⟨low32, low32⟩ : Rg).u.lo), .int .u64 ((⟨low32, low32⟩ : Rg).u.hi), .int .i64 ((⟨low32, low32⟩ : Rg).s.lo), .int .i64 ((⟨low32, low32⟩ : Rg).s.hi)], .bool (Rg.narB ⟨⟨0, 4294967295⟩, allR.s⟩)] := (hdone 0 _ rfl rfl).2 _ rfl
      exact wpOp_val (v := .tuple #[.agg #[.int .u64 ((⟨low32, low32⟩ : Rg).u.lo), .int .u64 ((⟨low32, low32⟩ : Rg).u.hi), .int .i64 ((⟨low32, low32⟩ : Rg).s.lo), .int .i64 ((⟨low32, low32⟩ : Rg).s.hi)], .bool (Rg.narB ⟨⟨0, 4294967295⟩, allR.s⟩)]) (w' := wx) rfl rfl (by (revert s16; generalize (.tuple #[.agg #[.int .u64 ((⟨low32, low32⟩ : Rg).u.lo), .int .u64 ((⟨low32, low32⟩ : Rg).u.hi), .int .i64 ((⟨low32, low32⟩ : Rg).s.lo), .int .i64 ((⟨low32, low32⟩ : Rg).s.hi)], .bool (Rg.narB ⟨⟨0, 4294967295⟩, allR.s⟩)] : Value) = y0; intro s16); simp [execOp, Act.eval, s16]) ⟨_, rfl, tab_put rfl hs rfl rfl, hS.same 5 rfl⟩
     ·
      have s11 : ax.tmps.getD 11 undef = .tuple #[.agg #[.int .u64 ((⟨low32, low32⟩ : Rg).u.lo), .int .u64 ((⟨low32, low32⟩ : Rg).u.hi), .int .i64 ((⟨low32, low32⟩ : Rg).s.lo), .int .i64 ((⟨low32, low32⟩ : Rg).s.hi)], .bool (Rg.narB ⟨⟨0, 4294967295⟩, allR.s⟩)] := (hdone 0 _ rfl rfl).2 _ rfl
      exact wpOp_val (v := .agg #[.int .u64 ((⟨low32, low32⟩ : Rg).u.lo), .int .u64 ((⟨low32, low32⟩ : Rg).u.hi), .int .i64 ((⟨low32, low32⟩ : Rg).s.lo), .int .i64 ((⟨low32, low32⟩ : Rg).s.hi)]) (w' := wx) rfl rfl (by simp [execOp, Act.eval, s11, go_sem]) ⟨_, rfl, tab_put rfl hs rfl rfl, hS.same 6 rfl⟩
     ·
      have s11 : ax.tmps.getD 11 undef = .tuple #[.agg #[.int .u64 ((⟨low32, low32⟩ : Rg).u.lo), .int .u64 ((⟨low32, low32⟩ : Rg).u.hi), .int .i64 ((⟨low32, low32⟩ : Rg).s.lo), .int .i64 ((⟨low32, low32⟩ : Rg).s.hi)], .bool (Rg.narB ⟨⟨0, 4294967295⟩, allR.s⟩)] := (hdone 0 _ rfl rfl).2 _ rfl
      exact wpOp_val (v := .bool (Rg.narB ⟨⟨0, 4294967295⟩, allR.s⟩)) (w' := wx) rfl rfl (by simp [execOp, Act.eval, s11, go_sem]) ⟨_, rfl, tab_put rfl hs rfl rfl, hS.same 7 rfl⟩
     ·
      have s17 : ax.tmps.getD 17 undef = .agg #[.int .u64 ((⟨low32, low32⟩ : Rg).u.lo), .int .u64 ((⟨low32, low32⟩ : Rg).u.hi), .int .i64 ((⟨low32, low32⟩ : Rg).s.lo), .int .i64 ((⟨low32, low32⟩ : Rg).s.hi)] := (hdone 0 _ rfl rfl).2 _ rfl
      have hr := hS.rowFi 0 rfl hfi
      exact wpOp_skp (w' := wx.setRow g1 #[.int .u64 ((⟨low32, low32⟩ : Rg).u.lo), .int .u64 ((⟨low32, low32⟩ : Rg).u.hi), .int .i64 ((⟨low32, low32⟩ : Rg).s.lo), .int .i64 ((⟨low32, low32⟩ : Rg).s.hi)]) rfl rfl (exec_storeR 60 _ _ rfl g1 #[.int .u64 ((⟨low32, low32⟩ : Rg).u.lo), .int .u64 ((⟨low32, low32⟩ : Rg).u.hi), .int .i64 ((⟨low32, low32⟩ : Rg).s.lo), .int .i64 ((⟨low32, low32⟩ : Rg).s.hi)] (show ax.eval (.tmp 1) = .pointer (some ⟨g1, 0, none⟩) from t1) (show ax.eval (.tmp 17) = .agg #[.int .u64 ((⟨low32, low32⟩ : Rg).u.lo), .int .u64 ((⟨low32, low32⟩ : Rg).u.hi), .int .i64 ((⟨low32, low32⟩ : Rg).s.lo), .int .i64 ((⟨low32, low32⟩ : Rg).s.hi)] from s17) hr (by kernel_rfl) rfl (by simp [Value.oneCell'])) ⟨undef, rfl, trivial, hS.storeBi 8 0 rfl q_g1 rfl ⟨(show g2 ≠ g1 by omega), trivial⟩ (stored_setRow wx g1 _ _ _ hr)⟩
   intro a3 w3 fl d3 z3 rest3 R3 hfl hS
   obtain ⟨B3, n3, hBs, hAs, hPs⟩ := hS.finish hfl rfl
   replace d3 := d3.trans d2
   replace z3 := z3.trans z2
   obtain ⟨⟨-, b_g1_3⟩, ⟨-, b_g2_3⟩, -⟩ := hBs
   have s1_3 := (rest3 1 (not_of (by kernel_rfl))).trans s1_2
   have s2_3 := (rest3 2 (not_of (by kernel_rfl))).trans s2_2
   clear R3 rest3 hS hfl hPs hAs
   clear s1_2 s2_2 s9_2 b_g1_2 b_g2_2 d2 z2
   refine wp_seq ?_
   refine wp_regx (SX W w3.heap.size [⟨g1, 60, (cR ((⟨low32, low32⟩ : Rg).u.lo) ((⟨low32, low32⟩ : Rg).u.hi) ((⟨low32, low32⟩ : Rg).s.lo) ((⟨low32, low32⟩ : Rg).s.hi)), none, #[]⟩, ⟨g2, 60, (cR 0 0 0 0), some 1, (cR ((⟨low32, low32⟩ : Rg).u.lo) ((⟨low32, low32⟩ : Rg).u.hi) ((⟨low32, low32⟩ : Rg).s.lo) ((⟨low32, low32⟩ : Rg).s.hi))⟩] []) (TabX [fun vx => vx = .agg #[.int .u64 ((⟨low32, low32⟩ : Rg).u.lo), .int .u64 ((⟨low32, low32⟩ : Rg).u.hi), .int .i64 ((⟨low32, low32⟩ : Rg).s.lo), .int .i64 ((⟨low32, low32⟩ : Rg).s.hi)], fun _ => True]) (by kernel_rfl) (back_of (by kernel_rfl)) (dst_of (by kernel_rfl)) (in_ofz (by kernel_rfl) z3) (fun fl w1 hfl hw => SX.start' hw B3 hfl rfl ⟨b_g1_3, b_g2_3, trivial⟩) ?h4 ?_
   case h4 =>
     intro ix ox ax wx fl ho hS hfi clo hsz hrest hdone hund
     have t1 := (hrest 1 (not_of (by kernel_rfl))).trans s1_3
     have t2 := (hrest 2 (not_of (by kernel_rfl))).trans s2_3
     have hs : ax.tmps.size = 20 := hsz.trans z3
     have hi : ix < 2 := (Array.getElem?_eq_some_iff.1 ho).1
     clear hrest hsz hund
     obtain rfl | rfl : ix = 0 ∨ ix = 1 := by omega
     all_goals obtain rfl := Option.some.inj (show some _ = some ox from ho)
     ·
      have hr := hS.rowNi 0 rfl
      exact wpOp_val (v := .agg #[.int .u64 ((⟨low32, low32⟩ : Rg).u.lo), .int .u64 ((⟨low32, low32⟩ : Rg).u.hi), .int .i64 ((⟨low32, low32⟩ : Rg).s.lo), .int .i64 ((⟨low32, low32⟩ : Rg).s.hi)]) (w' := wx) rfl rfl (exec_loadR 60 _ rfl g1 0 (show ax.eval (.tmp 1) = .pointer (some ⟨g1, 0, none⟩) from t1) hr [.int .u64 ((⟨low32, low32⟩ : Rg).u.lo), .int .u64 ((⟨low32, low32⟩ : Rg).u.hi), .int .i64 ((⟨low32, low32⟩ : Rg).s.lo), .int .i64 ((⟨low32, low32⟩ : Rg).s.hi)] rfl _ Try.underlying60 rfl (by kernel_rfl)) ⟨_, rfl, tab_put rfl hs rfl rfl, hS.same 0 rfl⟩
     ·
      have s19 : ax.tmps.getD 19 undef = .agg #[.int .u64 ((⟨low32, low32⟩ : Rg).u.lo), .int .u64 ((⟨low32, low32⟩ : Rg).u.hi), .int .i64 ((⟨low32, low32⟩ : Rg).s.lo), .int .i64 ((⟨low32, low32⟩ : Rg).s.hi)] := (hdone 0 _ rfl rfl).2 _ rfl
      have hr := hS.rowFi 1 rfl hfi
      exact wpOp_skp (w' := wx.setRow g2 #[.int .u64 ((⟨low32, low32⟩ : Rg).u.lo), .int .u64 ((⟨low32, low32⟩ : Rg).u.hi), .int .i64 ((⟨low32, low32⟩ : Rg).s.lo), .int .i64 ((⟨low32, low32⟩ : Rg).s.hi)]) rfl rfl (exec_storeR 60 _ _ rfl g2 #[.int .u64 ((⟨low32, low32⟩ : Rg).u.lo), .int .u64 ((⟨low32, low32⟩ : Rg).u.hi), .int .i64 ((⟨low32, low32⟩ : Rg).s.lo), .int .i64 ((⟨low32, low32⟩ : Rg).s.hi)] (show ax.eval (.tmp 2) = .pointer (some ⟨g2, 0, none⟩) from t2) (show ax.eval (.tmp 19) = .agg #[.int .u64 ((⟨low32, low32⟩ : Rg).u.lo), .int .u64 ((⟨low32, low32⟩ : Rg).u.hi), .int .i64 ((⟨low32, low32⟩ : Rg).s.lo), .int .i64 ((⟨low32, low32⟩ : Rg).s.hi)] from s19) hr (by kernel_rfl) rfl (by simp [Value.oneCell'])) ⟨undef, rfl, trivial, hS.storeBi 1 1 rfl q_g2 rfl ⟨(show g1 ≠ g2 by omega), trivial⟩ (stored_setRow wx g2 _ _ _ hr)⟩
   intro a4 w4 fl d4 z4 rest4 R4 hfl hS
   obtain ⟨B4, n4, hBs, hAs, hPs⟩ := hS.finish hfl rfl
   replace d4 := d4.trans d3
   replace z4 := z4.trans z3
   obtain ⟨⟨-, b_g1_4⟩, ⟨-, b_g2_4⟩, -⟩ := hBs
   have s2_4 := (rest4 2 (not_of (by kernel_rfl))).trans s2_3
   clear R4 rest4 hS hfl hPs hAs
   clear s1_3 s2_3 b_g1_3 b_g2_3 d3 z3
   refine wp_ret ?_
   try simp only [Exit.inBlock, Exit.then]
   refine bodyPost_ret (res_c (fn := Try.f44) rfl s2_4 (load_row 60 b_g2_4 Try.underlying60 rfl (by kernel_rfl))) d4 ?_
   have HE : (.agg #[.int .u64 ((⟨low32, low32⟩ : Rg).u.lo), .int .u64 ((⟨low32, low32⟩ : Rg).u.hi), .int .i64 ((⟨low32, low32⟩ : Rg).s.lo), .int .i64 ((⟨low32, low32⟩ : Rg).s.hi)] : Value) = Rg.val (Rg.low ⟨⟨a, b⟩, ⟨c, d⟩⟩) := by rw [show Rg.low ⟨⟨a, b⟩, ⟨c, d⟩⟩ = (if Rg.mayB ⟨⟨a, b⟩, ⟨c, d⟩⟩ && decide (b ≤ 4294967295) then ⟨⟨a, b⟩, ⟨c, d⟩⟩ else ⟨low32, low32⟩) from rfl, Ffk1.out]; rfl
   exact ⟨retV HE, B4⟩
  have Ffk1 := Lib.hid fk1; clear fk1
  cases fk2 : decide (b ≤ 4294967295)
  case false =>
   have Ffk2 := Lib.hid fk2; clear fk2
   refine wp_regx (SX W w1.heap.size [⟨g1, 60, (cR a b c d), none, #[]⟩, ⟨g2, 60, (cR 0 0 0 0), none, #[]⟩] []) (TabX [fun vx => vx = .agg #[.int .u64 a, .int .u64 b, .int .i64 c, .int .i64 d], fun vx => vx = .bool true, fun vx => vx = .bool true, fun vx => vx = .pointer (some ⟨g1, 1, none⟩), fun vx => vx = .int .u64 b, fun vx => vx = .bool false, fun vx => vx = .bool false]) (by kernel_rfl) (back_of (by kernel_rfl)) (dst_of (by kernel_rfl)) (in_ofz (by kernel_rfl) z1) (fun fl w1 hfl hw => SX.start' hw B1 hfl rfl ⟨b_g1_1, b_g2_1, trivial⟩) ?h5 ?_
   case h5 =>
     intro ix ox ax wx fl ho hS hfi clo hsz hrest hdone hund
     have t1 := (hrest 1 (not_of (by kernel_rfl))).trans u_g1
     have hs : ax.tmps.size = 20 := hsz.trans z1
     have hi : ix < 7 := (Array.getElem?_eq_some_iff.1 ho).1
     clear hrest hsz hund
     obtain rfl | rfl | rfl | rfl | rfl | rfl | rfl : ix = 0 ∨ ix = 1 ∨ ix = 2 ∨ ix = 3 ∨ ix = 4 ∨ ix = 5 ∨ ix = 6 := by omega
     all_goals obtain rfl := Option.some.inj (show some _ = some ox from ho)
     ·
      have hr := hS.rowNi 0 rfl
      exact wpOp_val (v := .agg #[.int .u64 a, .int .u64 b, .int .i64 c, .int .i64 d]) (w' := wx) rfl rfl (exec_loadR 60 _ rfl g1 0 (show ax.eval (.tmp 1) = .pointer (some ⟨g1, 0, none⟩) from t1) hr [.int .u64 a, .int .u64 b, .int .i64 c, .int .i64 d] rfl _ Try.underlying60 rfl (by kernel_rfl)) ⟨_, rfl, tab_put rfl hs rfl rfl, hS.same 0 rfl⟩
     ·
      have s3 : ax.tmps.getD 3 undef = .agg #[.int .u64 a, .int .u64 b, .int .i64 c, .int .i64 d] := (hdone 0 _ rfl rfl).2 _ rfl
      refine wpOp_call (args := #[.agg #[.int .u64 a, .int .u64 b, .int .i64 c, .int .i64 d]]) rfl rfl (exec_call rfl rfl rfl (args1 (show ax.eval (.tmp 3) = .agg #[.int .u64 a, .int .u64 b, .int .i64 c, .int .i64 d] from s3)) Try.func30 (by decide +kernel) rfl) ?_
      · refine (may_n a b c d wx).mono ?_
        rintro e w' ⟨rfl, b9⟩
        exact ⟨_, rfl, _, rfl, tab_put rfl hs rfl (congrArg Value.bool Ffk1.out), hS.quiet 1 rfl b9⟩
     ·
      have s4 : ax.tmps.getD 4 undef = .bool true := (hdone 0 _ rfl rfl).2 _ rfl
      exact wpOp_val (v := .bool true) (w' := wx) rfl rfl (by simp [execOp, Act.eval, s4]) ⟨_, rfl, tab_put rfl hs rfl rfl, hS.same 2 rfl⟩
     ·
      have hg : ax.tmps.getD 5 undef = .bool true := (hdone 0 _ rfl rfl).2 _ rfl
      exact wpOp_valw (v := .pointer (some ⟨g1, 1, none⟩)) (w' := wx) rfl (wanted_yes 2 5 true hg (by rw [hs]; omega) rfl rfl rfl rfl) (by simp [execOp, Act.eval, t1, go_sem]) ⟨_, rfl, tab_put rfl hs rfl rfl, hS.same 3 rfl⟩
     ·
      have hg : ax.tmps.getD 5 undef = .bool true := (hdone 1 _ rfl rfl).2 _ rfl
      have s6 : ax.tmps.getD 6 undef = .pointer (some ⟨g1, 1, none⟩) := (hdone 0 _ rfl rfl).2 _ rfl
      have hr := hS.rowNi 0 rfl
      have hc := exec_load1 (i := 1) hr (v := .int .u64 b) rfl
      exact wpOp_valw (v := .int .u64 b) (w' := wx) rfl (wanted_yes 2 5 true hg (by rw [hs]; omega) rfl rfl rfl rfl) (by simp [execOp, Act.eval, s6, hc, go_sem]) ⟨_, rfl, tab_put rfl hs rfl rfl, hS.same 4 rfl⟩
     ·
      have hg : ax.tmps.getD 5 undef = .bool true := (hdone 1 _ rfl rfl).2 _ rfl
      have s7 : ax.tmps.getD 7 undef = .int .u64 b := (hdone 0 _ rfl rfl).2 _ rfl
      exact wpOp_valw (v := .bool (decide (b ≤ 4294967295))) (w' := wx) rfl (wanted_yes 2 5 true hg (by rw [hs]; omega) rfl rfl rfl rfl) (by (simp [execOp, Act.eval, s7, go_sem]; try (simp only [IntKind.wrap_i64, wrap64]))) ⟨_, rfl, tab_put rfl hs rfl (congrArg Value.bool Ffk2.out), hS.same 5 rfl⟩
     ·
      have s5 : ax.tmps.getD 5 undef = .bool true := (hdone 0 _ rfl rfl).2 _ rfl
      have s8 : ax.tmps.getD 8 undef = .bool false := (hdone 1 _ rfl rfl).2 _ rfl
      exact wpOp_val (v := .bool false) (w' := wx) rfl rfl (by simp [execOp, Act.eval, s5, s8, go_sem]) ⟨_, rfl, tab_put rfl hs rfl rfl, hS.same 6 rfl⟩
   intro a2 w2 fl d2 z2 rest2 R2 hfl hS
   obtain ⟨B2, n2, hBs, hAs, hPs⟩ := hS.finish hfl rfl
   replace d2 := d2.trans d1
   replace z2 := z2.trans z1
   obtain ⟨⟨l_g1_2, b_g1_2⟩, ⟨l_g2_2, b_g2_2⟩, -⟩ := hBs
   replace l_g1_2 : g1 < w1.heap.size := l_g1_2
   replace l_g2_2 : g2 < w1.heap.size := l_g2_2
   have s1_2 := (rest2 1 (not_of (by kernel_rfl))).trans u_g1
   have s2_2 := (rest2 2 (not_of (by kernel_rfl))).trans u_g2
   have s9_2 : a2.tmps.getD 9 undef = .bool false := R2 6 _ rfl
   clear R2 rest2 hS hfl hPs hAs
   clear u_g1 u_g2 b_g1_1 b_g2_1 d1 z1
   refine wp_cond_false (show a2.tmps.getD 9 undef = .bool false from s9_2) ?_
   refine wp_skip ?_
   refine wp_seq ?_
   refine wp_regx (SX W w2.heap.size [⟨g1, 60, (cR a b c d), some 8, (cR ((⟨low32, low32⟩ : Rg).u.lo) ((⟨low32, low32⟩ : Rg).u.hi) ((⟨low32, low32⟩ : Rg).s.lo) ((⟨low32, low32⟩ : Rg).s.hi))⟩, ⟨g2, 60, (cR 0 0 0 0), none, #[]⟩] []) (TabX [fun vx => vx = .agg #[.int .u64 0, .int .u64 4294967295], fun vx => vx = .agg #[.int .u64 allR.u.lo, .int .u64 allR.u.hi, .int .i64 allR.s.lo, .int .i64 allR.s.hi], fun vx => vx = .agg #[.int .i64 allR.s.lo, .int .i64 allR.s.hi], fun vx => vx = .agg #[.int .u64 0, .int .u64 4294967295, .int .i64 allR.s.lo, .int .i64 allR.s.hi], fun vx => vx = .tuple #[.agg #[.int .u64 ((⟨low32, low32⟩ : Rg).u.lo), .int .u64 ((⟨low32, low32⟩ : Rg).u.hi), .int .i64 ((⟨low32, low32⟩ : Rg).s.lo), .int .i64 ((⟨low32, low32⟩ : Rg).s.hi)], .bool (Rg.narB ⟨⟨0, 4294967295⟩, allR.s⟩)], fun vx => vx = .tuple #[.agg #[.int .u64 ((⟨low32, low32⟩ : Rg).u.lo), .int .u64 ((⟨low32, low32⟩ : Rg).u.hi), .int .i64 ((⟨low32, low32⟩ : Rg).s.lo), .int .i64 ((⟨low32, low32⟩ : Rg).s.hi)], .bool (Rg.narB ⟨⟨0, 4294967295⟩, allR.s⟩)], fun vx => vx = .agg #[.int .u64 ((⟨low32, low32⟩ : Rg).u.lo), .int .u64 ((⟨low32, low32⟩ : Rg).u.hi), .int .i64 ((⟨low32, low32⟩ : Rg).s.lo), .int .i64 ((⟨low32, low32⟩ : Rg).s.hi)], fun vx => vx = .bool (Rg.narB ⟨⟨0, 4294967295⟩, allR.s⟩), fun _ => True]) (by kernel_rfl) (back_of (by kernel_rfl)) (dst_of (by kernel_rfl)) (in_ofz (by kernel_rfl) z2) (fun fl w1 hfl hw => SX.start' hw B2 hfl rfl ⟨b_g1_2, b_g2_2, trivial⟩) ?h6 ?_
   case h6 =>
     intro ix ox ax wx fl ho hS hfi clo hsz hrest hdone hund
     have t1 := (hrest 1 (not_of (by kernel_rfl))).trans s1_2
     have hs : ax.tmps.size = 20 := hsz.trans z2
     have hi : ix < 9 := (Array.getElem?_eq_some_iff.1 ho).1
     clear hrest hsz hund
     obtain rfl | rfl | rfl | rfl | rfl | rfl | rfl | rfl | rfl : ix = 0 ∨ ix = 1 ∨ ix = 2 ∨ ix = 3 ∨ ix = 4 ∨ ix = 5 ∨ ix = 6 ∨ ix = 7 ∨ ix = 8 := by omega
     all_goals obtain rfl := Option.some.inj (show some _ = some ox from ho)
     ·
      refine wpOp_call (args := #[.int .u64 4294967295]) rfl rfl (exec_call rfl rfl rfl (args1 (show ax.eval (.const (.int .u64 4294967295)) = .int .u64 4294967295 from rfl)) Try.func81 (by decide +kernel) rfl) ?_
      · refine (upTo_n 4294967295 wx).mono ?_
        rintro e w' ⟨rfl, b9⟩
        exact ⟨_, rfl, _, rfl, tab_put rfl hs rfl rfl, hS.quiet 0 rfl b9⟩
     ·
      refine wpOp_call (args := #[]) rfl rfl (exec_call rfl rfl rfl (args0 ) Try.func32 (by decide +kernel) rfl) ?_
      · refine (all_n wx).mono ?_
        rintro e w' ⟨rfl, b9⟩
        exact ⟨_, rfl, _, rfl, tab_put rfl hs rfl rfl, hS.quiet 1 rfl b9⟩
     ·
      have s13 : ax.tmps.getD 13 undef = .agg #[.int .u64 allR.u.lo, .int .u64 allR.u.hi, .int .i64 allR.s.lo, .int .i64 allR.s.hi] := (hdone 0 _ rfl rfl).2 _ rfl
      refine wpOp_call (args := #[.agg #[.int .u64 allR.u.lo, .int .u64 allR.u.hi, .int .i64 allR.s.lo, .int .i64 allR.s.hi]]) rfl rfl (exec_call rfl rfl rfl (args1 (show ax.eval (.tmp 13) = .agg #[.int .u64 allR.u.lo, .int .u64 allR.u.hi, .int .i64 allR.s.lo, .int .i64 allR.s.hi] from s13)) Try.func63 (by decide +kernel) rfl) ?_
      · refine (signed_n allR.u.lo allR.u.hi allR.s.lo allR.s.hi wx).mono ?_
        rintro e w' ⟨rfl, b9⟩
        exact ⟨_, rfl, _, rfl, tab_put rfl hs rfl rfl, hS.quiet 2 rfl b9⟩
     ·
      have s12 : ax.tmps.getD 12 undef = .agg #[.int .u64 0, .int .u64 4294967295] := (hdone 0 _ rfl rfl).2 _ rfl
      have s14 : ax.tmps.getD 14 undef = .agg #[.int .i64 allR.s.lo, .int .i64 allR.s.hi] := (hdone 1 _ rfl rfl).2 _ rfl
      refine wpOp_call (args := #[.agg #[.int .u64 0, .int .u64 4294967295], .agg #[.int .i64 allR.s.lo, .int .i64 allR.s.hi]]) rfl rfl (exec_call rfl rfl rfl (args2 (show ax.eval (.tmp 12) = .agg #[.int .u64 0, .int .u64 4294967295] from s12) (show ax.eval (.tmp 14) = .agg #[.int .i64 allR.s.lo, .int .i64 allR.s.hi] from s14)) Try.func60 (by decide +kernel) rfl) ?_
      · refine (both_n 0 4294967295 allR.s.lo allR.s.hi wx).mono ?_
        rintro e w' ⟨rfl, b9⟩
        exact ⟨_, rfl, _, rfl, tab_put rfl hs rfl rfl, hS.quiet 3 rfl b9⟩
     ·
      have s15 : ax.tmps.getD 15 undef = .agg #[.int .u64 0, .int .u64 4294967295, .int .i64 allR.s.lo, .int .i64 allR.s.hi] := (hdone 0 _ rfl rfl).2 _ rfl
      refine wpOp_call (args := #[.agg #[.int .u64 0, .int .u64 4294967295, .int .i64 allR.s.lo, .int .i64 allR.s.hi]]) rfl rfl (exec_call rfl rfl rfl (args1 (show ax.eval (.tmp 15) = .agg #[.int .u64 0, .int .u64 4294967295, .int .i64 allR.s.lo, .int .i64 allR.s.hi] from s15)) Try.func28 (by decide +kernel) rfl) ?_
      · refine (narrow_n 0 4294967295 allR.s.lo allR.s.hi wx HK.out).mono ?_
        rintro e w' ⟨rfl, b9⟩
        exact ⟨_, rfl, _, rfl, tab_put rfl hs rfl (congrArg (fun x : Rg => Value.tuple #[Value.agg #[.int .u64 x.u.lo, .int .u64 x.u.hi, .int .i64 x.s.lo, .int .i64 x.s.hi], .bool (Rg.narB ⟨⟨0, 4294967295⟩, allR.s⟩)]) HL.out), hS.quiet 4 rfl b9⟩
     ·
      have s16 : ax.tmps.getD 16 undef = .tuple #[.agg #[.int .u64 ((⟨low32, low32⟩ : Rg).u.lo), .int .u64 ((⟨low32, low32⟩ : Rg).u.hi), .int .i64 ((⟨low32, low32⟩ : Rg).s.lo), .int .i64 ((⟨low32, low32⟩ : Rg).s.hi)], .bool (Rg.narB ⟨⟨0, 4294967295⟩, allR.s⟩)] := (hdone 0 _ rfl rfl).2 _ rfl
      exact wpOp_val (v := .tuple #[.agg #[.int .u64 ((⟨low32, low32⟩ : Rg).u.lo), .int .u64 ((⟨low32, low32⟩ : Rg).u.hi), .int .i64 ((⟨low32, low32⟩ : Rg).s.lo), .int .i64 ((⟨low32, low32⟩ : Rg).s.hi)], .bool (Rg.narB ⟨⟨0, 4294967295⟩, allR.s⟩)]) (w' := wx) rfl rfl (by (revert s16; generalize (.tuple #[.agg #[.int .u64 ((⟨low32, low32⟩ : Rg).u.lo), .int .u64 ((⟨low32, low32⟩ : Rg).u.hi), .int .i64 ((⟨low32, low32⟩ : Rg).s.lo), .int .i64 ((⟨low32, low32⟩ : Rg).s.hi)], .bool (Rg.narB ⟨⟨0, 4294967295⟩, allR.s⟩)] : Value) = y0; intro s16); simp [execOp, Act.eval, s16]) ⟨_, rfl, tab_put rfl hs rfl rfl, hS.same 5 rfl⟩
     ·
      have s11 : ax.tmps.getD 11 undef = .tuple #[.agg #[.int .u64 ((⟨low32, low32⟩ : Rg).u.lo), .int .u64 ((⟨low32, low32⟩ : Rg).u.hi), .int .i64 ((⟨low32, low32⟩ : Rg).s.lo), .int .i64 ((⟨low32, low32⟩ : Rg).s.hi)], .bool (Rg.narB ⟨⟨0, 4294967295⟩, allR.s⟩)] := (hdone 0 _ rfl rfl).2 _ rfl
      exact wpOp_val (v := .agg #[.int .u64 ((⟨low32, low32⟩ : Rg).u.lo), .int .u64 ((⟨low32, low32⟩ : Rg).u.hi), .int .i64 ((⟨low32, low32⟩ : Rg).s.lo), .int .i64 ((⟨low32, low32⟩ : Rg).s.hi)]) (w' := wx) rfl rfl (by simp [execOp, Act.eval, s11, go_sem]) ⟨_, rfl, tab_put rfl hs rfl rfl, hS.same 6 rfl⟩
     ·
      have s11 : ax.tmps.getD 11 undef = .tuple #[.agg #[.int .u64 ((⟨low32, low32⟩ : Rg).u.lo), .int .u64 ((⟨low32, low32⟩ : Rg).u.hi), .int .i64 ((⟨low32, low32⟩ : Rg).s.lo), .int .i64 ((⟨low32, low32⟩ : Rg).s.hi)], .bool (Rg.narB ⟨⟨0, 4294967295⟩, allR.s⟩)] := (hdone 0 _ rfl rfl).2 _ rfl
      exact wpOp_val (v := .bool (Rg.narB ⟨⟨0, 4294967295⟩, allR.s⟩)) (w' := wx) rfl rfl (by simp [execOp, Act.eval, s11, go_sem]) ⟨_, rfl, tab_put rfl hs rfl rfl, hS.same 7 rfl⟩
     ·
      have s17 : ax.tmps.getD 17 undef = .agg #[.int .u64 ((⟨low32, low32⟩ : Rg).u.lo), .int .u64 ((⟨low32, low32⟩ : Rg).u.hi), .int .i64 ((⟨low32, low32⟩ : Rg).s.lo), .int .i64 ((⟨low32, low32⟩ : Rg).s.hi)] := (hdone 0 _ rfl rfl).2 _ rfl
      have hr := hS.rowFi 0 rfl hfi
      exact wpOp_skp (w' := wx.setRow g1 #[.int .u64 ((⟨low32, low32⟩ : Rg).u.lo), .int .u64 ((⟨low32, low32⟩ : Rg).u.hi), .int .i64 ((⟨low32, low32⟩ : Rg).s.lo), .int .i64 ((⟨low32, low32⟩ : Rg).s.hi)]) rfl rfl (exec_storeR 60 _ _ rfl g1 #[.int .u64 ((⟨low32, low32⟩ : Rg).u.lo), .int .u64 ((⟨low32, low32⟩ : Rg).u.hi), .int .i64 ((⟨low32, low32⟩ : Rg).s.lo), .int .i64 ((⟨low32, low32⟩ : Rg).s.hi)] (show ax.eval (.tmp 1) = .pointer (some ⟨g1, 0, none⟩) from t1) (show ax.eval (.tmp 17) = .agg #[.int .u64 ((⟨low32, low32⟩ : Rg).u.lo), .int .u64 ((⟨low32, low32⟩ : Rg).u.hi), .int .i64 ((⟨low32, low32⟩ : Rg).s.lo), .int .i64 ((⟨low32, low32⟩ : Rg).s.hi)] from s17) hr (by kernel_rfl) rfl (by simp [Value.oneCell'])) ⟨undef, rfl, trivial, hS.storeBi 8 0 rfl q_g1 rfl ⟨(show g2 ≠ g1 by omega), trivial⟩ (stored_setRow wx g1 _ _ _ hr)⟩
   intro a3 w3 fl d3 z3 rest3 R3 hfl hS
   obtain ⟨B3, n3, hBs, hAs, hPs⟩ := hS.finish hfl rfl
   replace d3 := d3.trans d2
   replace z3 := z3.trans z2
   obtain ⟨⟨-, b_g1_3⟩, ⟨-, b_g2_3⟩, -⟩ := hBs
   have s1_3 := (rest3 1 (not_of (by kernel_rfl))).trans s1_2
   have s2_3 := (rest3 2 (not_of (by kernel_rfl))).trans s2_2
   clear R3 rest3 hS hfl hPs hAs
   clear s1_2 s2_2 s9_2 b_g1_2 b_g2_2 d2 z2
   refine wp_seq ?_
   refine wp_regx (SX W w3.heap.size [⟨g1, 60, (cR ((⟨low32, low32⟩ : Rg).u.lo) ((⟨low32, low32⟩ : Rg).u.hi) ((⟨low32, low32⟩ : Rg).s.lo) ((⟨low32, low32⟩ : Rg).s.hi)), none, #[]⟩, ⟨g2, 60, (cR 0 0 0 0), some 1, (cR ((⟨low32, low32⟩ : Rg).u.lo) ((⟨low32, low32⟩ : Rg).u.hi) ((⟨low32, low32⟩ : Rg).s.lo) ((⟨low32, low32⟩ : Rg).s.hi))⟩] []) (TabX [fun vx => vx = .agg #[.int .u64 ((⟨low32, low32⟩ : Rg).u.lo), .int .u64 ((⟨low32, low32⟩ : Rg).u.hi), .int .i64 ((⟨low32, low32⟩ : Rg).s.lo), .int .i64 ((⟨low32, low32⟩ : Rg).s.hi)], fun _ => True]) (by kernel_rfl) (back_of (by kernel_rfl)) (dst_of (by kernel_rfl)) (in_ofz (by kernel_rfl) z3) (fun fl w1 hfl hw => SX.start' hw B3 hfl rfl ⟨b_g1_3, b_g2_3, trivial⟩) ?h7 ?_
   case h7 =>
     intro ix ox ax wx fl ho hS hfi clo hsz hrest hdone hund
     have t1 := (hrest 1 (not_of (by kernel_rfl))).trans s1_3
     have t2 := (hrest 2 (not_of (by kernel_rfl))).trans s2_3
     have hs : ax.tmps.size = 20 := hsz.trans z3
     have hi : ix < 2 := (Array.getElem?_eq_some_iff.1 ho).1
     clear hrest hsz hund
     obtain rfl | rfl : ix = 0 ∨ ix = 1 := by omega
     all_goals obtain rfl := Option.some.inj (show some _ = some ox from ho)
     ·
      have hr := hS.rowNi 0 rfl
      exact wpOp_val (v := .agg #[.int .u64 ((⟨low32, low32⟩ : Rg).u.lo), .int .u64 ((⟨low32, low32⟩ : Rg).u.hi), .int .i64 ((⟨low32, low32⟩ : Rg).s.lo), .int .i64 ((⟨low32, low32⟩ : Rg).s.hi)]) (w' := wx) rfl rfl (exec_loadR 60 _ rfl g1 0 (show ax.eval (.tmp 1) = .pointer (some ⟨g1, 0, none⟩) from t1) hr [.int .u64 ((⟨low32, low32⟩ : Rg).u.lo), .int .u64 ((⟨low32, low32⟩ : Rg).u.hi), .int .i64 ((⟨low32, low32⟩ : Rg).s.lo), .int .i64 ((⟨low32, low32⟩ : Rg).s.hi)] rfl _ Try.underlying60 rfl (by kernel_rfl)) ⟨_, rfl, tab_put rfl hs rfl rfl, hS.same 0 rfl⟩
     ·
      have s19 : ax.tmps.getD 19 undef = .agg #[.int .u64 ((⟨low32, low32⟩ : Rg).u.lo), .int .u64 ((⟨low32, low32⟩ : Rg).u.hi), .int .i64 ((⟨low32, low32⟩ : Rg).s.lo), .int .i64 ((⟨low32, low32⟩ : Rg).s.hi)] := (hdone 0 _ rfl rfl).2 _ rfl
      have hr := hS.rowFi 1 rfl hfi
      exact wpOp_skp (w' := wx.setRow g2 #[.int .u64 ((⟨low32, low32⟩ : Rg).u.lo), .int .u64 ((⟨low32, low32⟩ : Rg).u.hi), .int .i64 ((⟨low32, low32⟩ : Rg).s.lo), .int .i64 ((⟨low32, low32⟩ : Rg).s.hi)]) rfl rfl (exec_storeR 60 _ _ rfl g2 #[.int .u64 ((⟨low32, low32⟩ : Rg).u.lo), .int .u64 ((⟨low32, low32⟩ : Rg).u.hi), .int .i64 ((⟨low32, low32⟩ : Rg).s.lo), .int .i64 ((⟨low32, low32⟩ : Rg).s.hi)] (show ax.eval (.tmp 2) = .pointer (some ⟨g2, 0, none⟩) from t2) (show ax.eval (.tmp 19) = .agg #[.int .u64 ((⟨low32, low32⟩ : Rg).u.lo), .int .u64 ((⟨low32, low32⟩ : Rg).u.hi), .int .i64 ((⟨low32, low32⟩ : Rg).s.lo), .int .i64 ((⟨low32, low32⟩ : Rg).s.hi)] from s19) hr (by kernel_rfl) rfl (by simp [Value.oneCell'])) ⟨undef, rfl, trivial, hS.storeBi 1 1 rfl q_g2 rfl ⟨(show g1 ≠ g2 by omega), trivial⟩ (stored_setRow wx g2 _ _ _ hr)⟩
   intro a4 w4 fl d4 z4 rest4 R4 hfl hS
   obtain ⟨B4, n4, hBs, hAs, hPs⟩ := hS.finish hfl rfl
   replace d4 := d4.trans d3
   replace z4 := z4.trans z3
   obtain ⟨⟨-, b_g1_4⟩, ⟨-, b_g2_4⟩, -⟩ := hBs
   have s2_4 := (rest4 2 (not_of (by kernel_rfl))).trans s2_3
   clear R4 rest4 hS hfl hPs hAs
   clear s1_3 s2_3 b_g1_3 b_g2_3 d3 z3
   refine wp_ret ?_
   try simp only [Exit.inBlock, Exit.then]
   refine bodyPost_ret (res_c (fn := Try.f44) rfl s2_4 (load_row 60 b_g2_4 Try.underlying60 rfl (by kernel_rfl))) d4 ?_
   have HE : (.agg #[.int .u64 ((⟨low32, low32⟩ : Rg).u.lo), .int .u64 ((⟨low32, low32⟩ : Rg).u.hi), .int .i64 ((⟨low32, low32⟩ : Rg).s.lo), .int .i64 ((⟨low32, low32⟩ : Rg).s.hi)] : Value) = Rg.val (Rg.low ⟨⟨a, b⟩, ⟨c, d⟩⟩) := by rw [show Rg.low ⟨⟨a, b⟩, ⟨c, d⟩⟩ = (if Rg.mayB ⟨⟨a, b⟩, ⟨c, d⟩⟩ && decide (b ≤ 4294967295) then ⟨⟨a, b⟩, ⟨c, d⟩⟩ else ⟨low32, low32⟩) from rfl, Ffk1.out, Ffk2.out]; rfl
   exact ⟨retV HE, B4⟩
  have Ffk2 := Lib.hid fk2; clear fk2
  refine wp_regx (SX W w1.heap.size [⟨g1, 60, (cR a b c d), none, #[]⟩, ⟨g2, 60, (cR 0 0 0 0), none, #[]⟩] []) (TabX [fun vx => vx = .agg #[.int .u64 a, .int .u64 b, .int .i64 c, .int .i64 d], fun vx => vx = .bool true, fun vx => vx = .bool true, fun vx => vx = .pointer (some ⟨g1, 1, none⟩), fun vx => vx = .int .u64 b, fun vx => vx = .bool true, fun vx => vx = .bool true]) (by kernel_rfl) (back_of (by kernel_rfl)) (dst_of (by kernel_rfl)) (in_ofz (by kernel_rfl) z1) (fun fl w1 hfl hw => SX.start' hw B1 hfl rfl ⟨b_g1_1, b_g2_1, trivial⟩) ?h8 ?_
  case h8 =>
    intro ix ox ax wx fl ho hS hfi clo hsz hrest hdone hund
    have t1 := (hrest 1 (not_of (by kernel_rfl))).trans u_g1
    have hs : ax.tmps.size = 20 := hsz.trans z1
    have hi : ix < 7 := (Array.getElem?_eq_some_iff.1 ho).1
    clear hrest hsz hund
    obtain rfl | rfl | rfl | rfl | rfl | rfl | rfl : ix = 0 ∨ ix = 1 ∨ ix = 2 ∨ ix = 3 ∨ ix = 4 ∨ ix = 5 ∨ ix = 6 := by omega
    all_goals obtain rfl := Option.some.inj (show some _ = some ox from ho)
    ·
     have hr := hS.rowNi 0 rfl
     exact wpOp_val (v := .agg #[.int .u64 a, .int .u64 b, .int .i64 c, .int .i64 d]) (w' := wx) rfl rfl (exec_loadR 60 _ rfl g1 0 (show ax.eval (.tmp 1) = .pointer (some ⟨g1, 0, none⟩) from t1) hr [.int .u64 a, .int .u64 b, .int .i64 c, .int .i64 d] rfl _ Try.underlying60 rfl (by kernel_rfl)) ⟨_, rfl, tab_put rfl hs rfl rfl, hS.same 0 rfl⟩
    ·
     have s3 : ax.tmps.getD 3 undef = .agg #[.int .u64 a, .int .u64 b, .int .i64 c, .int .i64 d] := (hdone 0 _ rfl rfl).2 _ rfl
     refine wpOp_call (args := #[.agg #[.int .u64 a, .int .u64 b, .int .i64 c, .int .i64 d]]) rfl rfl (exec_call rfl rfl rfl (args1 (show ax.eval (.tmp 3) = .agg #[.int .u64 a, .int .u64 b, .int .i64 c, .int .i64 d] from s3)) Try.func30 (by decide +kernel) rfl) ?_
     · refine (may_n a b c d wx).mono ?_
       rintro e w' ⟨rfl, b9⟩
       exact ⟨_, rfl, _, rfl, tab_put rfl hs rfl (congrArg Value.bool Ffk1.out), hS.quiet 1 rfl b9⟩
    ·
     have s4 : ax.tmps.getD 4 undef = .bool true := (hdone 0 _ rfl rfl).2 _ rfl
     exact wpOp_val (v := .bool true) (w' := wx) rfl rfl (by simp [execOp, Act.eval, s4]) ⟨_, rfl, tab_put rfl hs rfl rfl, hS.same 2 rfl⟩
    ·
     have hg : ax.tmps.getD 5 undef = .bool true := (hdone 0 _ rfl rfl).2 _ rfl
     exact wpOp_valw (v := .pointer (some ⟨g1, 1, none⟩)) (w' := wx) rfl (wanted_yes 2 5 true hg (by rw [hs]; omega) rfl rfl rfl rfl) (by simp [execOp, Act.eval, t1, go_sem]) ⟨_, rfl, tab_put rfl hs rfl rfl, hS.same 3 rfl⟩
    ·
     have hg : ax.tmps.getD 5 undef = .bool true := (hdone 1 _ rfl rfl).2 _ rfl
     have s6 : ax.tmps.getD 6 undef = .pointer (some ⟨g1, 1, none⟩) := (hdone 0 _ rfl rfl).2 _ rfl
     have hr := hS.rowNi 0 rfl
     have hc := exec_load1 (i := 1) hr (v := .int .u64 b) rfl
     exact wpOp_valw (v := .int .u64 b) (w' := wx) rfl (wanted_yes 2 5 true hg (by rw [hs]; omega) rfl rfl rfl rfl) (by simp [execOp, Act.eval, s6, hc, go_sem]) ⟨_, rfl, tab_put rfl hs rfl rfl, hS.same 4 rfl⟩
    ·
     have hg : ax.tmps.getD 5 undef = .bool true := (hdone 1 _ rfl rfl).2 _ rfl
     have s7 : ax.tmps.getD 7 undef = .int .u64 b := (hdone 0 _ rfl rfl).2 _ rfl
     exact wpOp_valw (v := .bool (decide (b ≤ 4294967295))) (w' := wx) rfl (wanted_yes 2 5 true hg (by rw [hs]; omega) rfl rfl rfl rfl) (by (simp [execOp, Act.eval, s7, go_sem]; try (simp only [IntKind.wrap_i64, wrap64]))) ⟨_, rfl, tab_put rfl hs rfl (congrArg Value.bool Ffk2.out), hS.same 5 rfl⟩
    ·
     have s5 : ax.tmps.getD 5 undef = .bool true := (hdone 0 _ rfl rfl).2 _ rfl
     have s8 : ax.tmps.getD 8 undef = .bool true := (hdone 1 _ rfl rfl).2 _ rfl
     exact wpOp_val (v := .bool true) (w' := wx) rfl rfl (by simp [execOp, Act.eval, s5, s8, go_sem]) ⟨_, rfl, tab_put rfl hs rfl rfl, hS.same 6 rfl⟩
  intro a2 w2 fl d2 z2 rest2 R2 hfl hS
  obtain ⟨B2, n2, hBs, hAs, hPs⟩ := hS.finish hfl rfl
  replace d2 := d2.trans d1
  replace z2 := z2.trans z1
  obtain ⟨⟨l_g1_2, b_g1_2⟩, ⟨l_g2_2, b_g2_2⟩, -⟩ := hBs
  replace l_g1_2 : g1 < w1.heap.size := l_g1_2
  replace l_g2_2 : g2 < w1.heap.size := l_g2_2
  have s1_2 := (rest2 1 (not_of (by kernel_rfl))).trans u_g1
  have s2_2 := (rest2 2 (not_of (by kernel_rfl))).trans u_g2
  have s9_2 : a2.tmps.getD 9 undef = .bool true := R2 6 _ rfl
  clear R2 rest2 hS hfl hPs hAs
  clear u_g1 u_g2 b_g1_1 b_g2_1 d1 z1
  refine wp_cond_true (show a2.tmps.getD 9 undef = .bool true from s9_2) ?_
  refine wp_seq ?_
  refine wp_regx (SX W w2.heap.size [⟨g1, 60, (cR a b c d), none, #[]⟩, ⟨g2, 60, (cR 0 0 0 0), some 1, (cR a b c d)⟩] []) (TabX [fun vx => vx = .agg #[.int .u64 a, .int .u64 b, .int .i64 c, .int .i64 d], fun _ => True]) (by kernel_rfl) (back_of (by kernel_rfl)) (dst_of (by kernel_rfl)) (in_ofz (by kernel_rfl) z2) (fun fl w1 hfl hw => SX.start' hw B2 hfl rfl ⟨b_g1_2, b_g2_2, trivial⟩) ?h9 ?_
  case h9 =>
    intro ix ox ax wx fl ho hS hfi clo hsz hrest hdone hund
    have t1 := (hrest 1 (not_of (by kernel_rfl))).trans s1_2
    have t2 := (hrest 2 (not_of (by kernel_rfl))).trans s2_2
    have hs : ax.tmps.size = 20 := hsz.trans z2
    have hi : ix < 2 := (Array.getElem?_eq_some_iff.1 ho).1
    clear hrest hsz hund
    obtain rfl | rfl : ix = 0 ∨ ix = 1 := by omega
    all_goals obtain rfl := Option.some.inj (show some _ = some ox from ho)
    ·
     have hr := hS.rowNi 0 rfl
     exact wpOp_val (v := .agg #[.int .u64 a, .int .u64 b, .int .i64 c, .int .i64 d]) (w' := wx) rfl rfl (exec_loadR 60 _ rfl g1 0 (show ax.eval (.tmp 1) = .pointer (some ⟨g1, 0, none⟩) from t1) hr [.int .u64 a, .int .u64 b, .int .i64 c, .int .i64 d] rfl _ Try.underlying60 rfl (by kernel_rfl)) ⟨_, rfl, tab_put rfl hs rfl rfl, hS.same 0 rfl⟩
    ·
     have s10 : ax.tmps.getD 10 undef = .agg #[.int .u64 a, .int .u64 b, .int .i64 c, .int .i64 d] := (hdone 0 _ rfl rfl).2 _ rfl
     have hr := hS.rowFi 1 rfl hfi
     exact wpOp_skp (w' := wx.setRow g2 #[.int .u64 a, .int .u64 b, .int .i64 c, .int .i64 d]) rfl rfl (exec_storeR 60 _ _ rfl g2 #[.int .u64 a, .int .u64 b, .int .i64 c, .int .i64 d] (show ax.eval (.tmp 2) = .pointer (some ⟨g2, 0, none⟩) from t2) (show ax.eval (.tmp 10) = .agg #[.int .u64 a, .int .u64 b, .int .i64 c, .int .i64 d] from s10) hr (by kernel_rfl) rfl (by simp [Value.oneCell'])) ⟨undef, rfl, trivial, hS.storeBi 1 1 rfl q_g2 rfl ⟨(show g1 ≠ g2 by omega), trivial⟩ (stored_setRow wx g2 _ _ _ hr)⟩
  intro a3 w3 fl d3 z3 rest3 R3 hfl hS
  obtain ⟨B3, n3, hBs, hAs, hPs⟩ := hS.finish hfl rfl
  replace d3 := d3.trans d2
  replace z3 := z3.trans z2
  obtain ⟨⟨-, b_g1_3⟩, ⟨-, b_g2_3⟩, -⟩ := hBs
  have s1_3 := (rest3 1 (not_of (by kernel_rfl))).trans s1_2
  have s2_3 := (rest3 2 (not_of (by kernel_rfl))).trans s2_2
  clear R3 rest3 hS hfl hPs hAs
  clear s1_2 s2_2 s9_2 b_g1_2 b_g2_2 d2 z2
  refine wp_ret ?_
  try simp only [Exit.inBlock, Exit.then]
  refine bodyPost_ret (res_c (fn := Try.f44) rfl s2_3 (load_row 60 b_g2_3 Try.underlying60 rfl (by kernel_rfl))) d3 ?_
  have HE : (.agg #[.int .u64 a, .int .u64 b, .int .i64 c, .int .i64 d] : Value) = Rg.val (Rg.low ⟨⟨a, b⟩, ⟨c, d⟩⟩) := by rw [show Rg.low ⟨⟨a, b⟩, ⟨c, d⟩⟩ = (if Rg.mayB ⟨⟨a, b⟩, ⟨c, d⟩⟩ && decide (b ≤ 4294967295) then ⟨⟨a, b⟩, ⟨c, d⟩⟩ else ⟨low32, low32⟩) from rfl, Ffk1.out, Ffk2.out]; rfl
  exact ⟨retV HE, B3⟩
end Go.Proofs.Ytfededcmelhjjaa.Bnd
