/-
  Package bounds: Do. (Written by gen_bndd.py.)
-/
import Derived.Test.YtfededcmelhjjaaBndE
import Derived.Test.YtfededcmelhjjaaBndF
namespace Go.Proofs.Ytfededcmelhjjaa.Bnd
open Go.RowKit
set_option linter.unusedVariables false
set_option linter.unusedSimpArgs false
set_option linter.unnecessarySimpa false
set_option maxRecDepth 100000

set_option maxHeartbeats 8000000 in
theorem do_n (op a b c d p q r t : Int) (W : World) (ha : Rg.Ok ⟨⟨a, b⟩, ⟨c, d⟩⟩) (hb : Rg.Ok ⟨⟨p, q⟩, ⟨r, t⟩⟩) : Calls Try.prog 42 #[.int .i8 op, .agg #[.int .u64 a, .int .u64 b, .int .i64 c, .int .i64 d], .agg #[.int .u64 p, .int .u64 q, .int .i64 r, .int .i64 t]] W fun e w' => e = .returned (.agg #[.int .u64 (Rg.doR op ⟨⟨a, b⟩, ⟨c, d⟩⟩ ⟨⟨p, q⟩, ⟨r, t⟩⟩).u.lo, .int .u64 (Rg.doR op ⟨⟨a, b⟩, ⟨c, d⟩⟩ ⟨⟨p, q⟩, ⟨r, t⟩⟩).u.hi, .int .i64 (Rg.doR op ⟨⟨a, b⟩, ⟨c, d⟩⟩ ⟨⟨p, q⟩, ⟨r, t⟩⟩).s.lo, .int .i64 (Rg.doR op ⟨⟨a, b⟩, ⟨c, d⟩⟩ ⟨⟨p, q⟩, ⟨r, t⟩⟩).s.hi]) ∧ Below W.heap.size W w' := by
  have HA := Lib.hid ha
  have HB := Lib.hid hb
  clear ha hb
  refine calls_abs Try.func42 rfl (Nat.le_of_ble_eq_true rfl) ?_
  intro a0 d0 z0 h0
  have z0 : a0.tmps.size = 71 := z0
  have s0_0 : a0.tmps.getD 0 undef = .int .i8 op := h0 0 (Nat.le_of_ble_eq_true rfl)
  have s1_0 : a0.tmps.getD 1 undef = .agg #[.int .u64 a, .int .u64 b, .int .i64 c, .int .i64 d] := h0 1 (Nat.le_of_ble_eq_true rfl)
  have s2_0 : a0.tmps.getD 2 undef = .agg #[.int .u64 p, .int .u64 q, .int .i64 r, .int .i64 t] := h0 2 (Nat.le_of_ble_eq_true rfl)
  clear h0
  have B0 : Below W.heap.size W W := Below.refl _ _
  refine wp_seq ?_
  refine wp_regx (SX W W.heap.size [] [⟨0, 4, 60, (cR a b c d), none, #[]⟩, ⟨1, 5, 60, (cR p q r t), none, #[]⟩, ⟨2, 6, 60, (cR 0 0 0 0), none, #[]⟩]) (TabX [fun _ => True, fun _ => True, fun _ => True]) (by kernel_rfl) (back_of (by kernel_rfl)) (dst_of (by kernel_rfl)) (in_ofz (by kernel_rfl) z0) (fun fl w1 hfl hw => SX.start' hw B0 hfl rfl trivial) ?h1 ?_
  case h1 =>
    intro ix ox ax wx fl ho hS hfi clo hsz hrest hdone hund
    have t1 := (hrest 1 (not_of (by kernel_rfl))).trans s1_0
    have t2 := (hrest 2 (not_of (by kernel_rfl))).trans s2_0
    have hs : ax.tmps.size = 71 := hsz.trans z0
    have hi : ix < 3 := (Array.getElem?_eq_some_iff.1 ho).1
    clear hrest hsz hund
    obtain rfl | rfl | rfl : ix = 0 ∨ ix = 1 ∨ ix = 2 := by omega
    all_goals obtain rfl := Option.some.inj (show some _ = some ox from ho)
    ·
     refine wpOp_val (v := .pointer (some ⟨wx.heap.size, 0, none⟩)) (w' := wx.alloc (.cells #[.int .u64 a, .int .u64 b, .int .i64 c, .int .i64 d] 60)) rfl rfl ?_ ⟨_, rfl, trivial, hS.alloc 0 4 60 #[.int .u64 a, .int .u64 b, .int .i64 c, .int .i64 d] [] [⟨1, 5, 60, (cR p q r t), none, #[]⟩, ⟨2, 6, 60, (cR 0 0 0 0), none, #[]⟩] (none) #[] rfl rfl rfl (by rw [hs]; omega) trivial⟩
     · simp [execOp, Act.eval, t1, go_sem]
    ·
     refine wpOp_val (v := .pointer (some ⟨wx.heap.size, 0, none⟩)) (w' := wx.alloc (.cells #[.int .u64 p, .int .u64 q, .int .i64 r, .int .i64 t] 60)) rfl rfl ?_ ⟨_, rfl, trivial, hS.alloc 1 5 60 #[.int .u64 p, .int .u64 q, .int .i64 r, .int .i64 t] [⟨0, 4, 60, (cR a b c d), none, #[]⟩] [⟨2, 6, 60, (cR 0 0 0 0), none, #[]⟩] (none) #[] rfl rfl rfl (by rw [hs]; omega) trivial⟩
     · simp [execOp, Act.eval, t2, go_sem]
    ·
     refine wpOp_val (v := .pointer (some ⟨wx.heap.size, 0, none⟩)) (w' := wx.alloc (.cells #[.int .u64 0, .int .u64 0, .int .i64 0, .int .i64 0] 60)) rfl rfl ?_ ⟨_, rfl, trivial, hS.alloc 2 6 60 #[.int .u64 0, .int .u64 0, .int .i64 0, .int .i64 0] [⟨0, 4, 60, (cR a b c d), none, #[]⟩, ⟨1, 5, 60, (cR p q r t), none, #[]⟩] [] (none) #[] rfl rfl rfl (by rw [hs]; omega) trivial⟩
     · simp [execOp, Act.eval, go_sem]
  intro a1 w1 fl d1 z1 rest1 R1 hfl hS
  obtain ⟨B1, n1, hBs, hAs, hPs⟩ := hS.finish hfl rfl
  replace d1 := d1.trans d0
  replace z1 := z1.trans z0
  obtain ⟨⟨g1, u_g1, q_g1, b_g1_1⟩, ⟨g2, u_g2, q_g2, b_g2_1⟩, ⟨g3, u_g3, q_g3, b_g3_1⟩, -⟩ := hAs
  replace u_g1 : a1.tmps.getD 4 undef = .pointer (some ⟨g1, 0, none⟩) := u_g1
  have m_g1 : W.heap.size ≤ g1 := q_g1
  replace q_g1 : W.heap.size ≤ g1 := Nat.le_trans B0.size q_g1
  replace u_g2 : a1.tmps.getD 5 undef = .pointer (some ⟨g2, 0, none⟩) := u_g2
  have m_g2 : W.heap.size ≤ g2 := q_g2
  replace q_g2 : W.heap.size ≤ g2 := Nat.le_trans B0.size q_g2
  replace u_g3 : a1.tmps.getD 6 undef = .pointer (some ⟨g3, 0, none⟩) := u_g3
  have m_g3 : W.heap.size ≤ g3 := q_g3
  replace q_g3 : W.heap.size ≤ g3 := Nat.le_trans B0.size q_g3
  simp only [List.pairwise_cons, List.mem_cons, List.not_mem_nil, or_false, forall_eq_or_imp, forall_eq] at hPs
  have ne_g1_g2 : g1 ≠ g2 := by
    have hn : slotOf a1 4 ≠ slotOf a1 5 := hPs.1.1
    intro e; subst e; exact hn (Eq.trans u_g1 u_g2.symm)
  have ne_g1_g3 : g1 ≠ g3 := by
    have hn : slotOf a1 4 ≠ slotOf a1 6 := hPs.1.2
    intro e; subst e; exact hn (Eq.trans u_g1 u_g3.symm)
  have ne_g2_g3 : g2 ≠ g3 := by
    have hn : slotOf a1 5 ≠ slotOf a1 6 := hPs.2.1
    intro e; subst e; exact hn (Eq.trans u_g2 u_g3.symm)
  have s0_1 := (rest1 0 (not_of (by kernel_rfl))).trans s0_0
  clear R1 rest1 hS hfl hPs hBs
  clear s0_0 s1_0 s2_0 d0 z0
  refine wp_seq ?_
  refine wp_seq ?_
  cases fk1 : Rg.mayB ⟨⟨a, b⟩, ⟨c, d⟩⟩
  case false =>
   have Ffk1 := Lib.hid fk1; clear fk1
   refine wp_regx (SX W w1.heap.size [⟨g1, 60, (cR a b c d), none, #[]⟩, ⟨g2, 60, (cR p q r t), none, #[]⟩, ⟨g3, 60, (cR 0 0 0 0), none, #[]⟩] []) (TabX [fun vx => vx = .agg #[.int .u64 a, .int .u64 b, .int .i64 c, .int .i64 d], fun vx => vx = .bool false, fun vx => vx = .bool true, fun vx => vx = .bool true, fun vx => vx = undef, fun vx => vx = undef, fun vx => vx = undef, fun vx => vx = .bool true]) (by kernel_rfl) (back_of (by kernel_rfl)) (dst_of (by kernel_rfl)) (in_ofz (by kernel_rfl) z1) (fun fl w1 hfl hw => SX.start' hw B1 hfl rfl ⟨b_g1_1, b_g2_1, b_g3_1, trivial⟩) ?h2 ?_
   case h2 =>
     intro ix ox ax wx fl ho hS hfi clo hsz hrest hdone hund
     have t4 := (hrest 4 (not_of (by kernel_rfl))).trans u_g1
     have t5 := (hrest 5 (not_of (by kernel_rfl))).trans u_g2
     have hs : ax.tmps.size = 71 := hsz.trans z1
     have hi : ix < 8 := (Array.getElem?_eq_some_iff.1 ho).1
     clear hrest hsz hund
     obtain rfl | rfl | rfl | rfl | rfl | rfl | rfl | rfl : ix = 0 ∨ ix = 1 ∨ ix = 2 ∨ ix = 3 ∨ ix = 4 ∨ ix = 5 ∨ ix = 6 ∨ ix = 7 := by omega
     all_goals obtain rfl := Option.some.inj (show some _ = some ox from ho)
     ·
      have hr := hS.rowNi 0 rfl
      exact wpOp_val (v := .agg #[.int .u64 a, .int .u64 b, .int .i64 c, .int .i64 d]) (w' := wx) rfl rfl (exec_loadR 60 _ rfl g1 0 (show ax.eval (.tmp 4) = .pointer (some ⟨g1, 0, none⟩) from t4) hr [.int .u64 a, .int .u64 b, .int .i64 c, .int .i64 d] rfl _ Try.underlying60 rfl (by kernel_rfl)) ⟨_, rfl, tab_put rfl hs rfl rfl, hS.same 0 rfl⟩
     ·
      have s11 : ax.tmps.getD 11 undef = .agg #[.int .u64 a, .int .u64 b, .int .i64 c, .int .i64 d] := (hdone 0 _ rfl rfl).2 _ rfl
      refine wpOp_call (args := #[.agg #[.int .u64 a, .int .u64 b, .int .i64 c, .int .i64 d]]) rfl rfl (exec_call rfl rfl rfl (args1 (show ax.eval (.tmp 11) = .agg #[.int .u64 a, .int .u64 b, .int .i64 c, .int .i64 d] from s11)) Try.func30 (by decide +kernel) rfl) ?_
      · refine (may_n a b c d wx).mono ?_
        rintro e w' ⟨rfl, b9⟩
        exact ⟨_, rfl, _, rfl, tab_put rfl hs rfl (congrArg Value.bool Ffk1.out), hS.quiet 1 rfl b9⟩
     ·
      have s12 : ax.tmps.getD 12 undef = .bool false := (hdone 0 _ rfl rfl).2 _ rfl
      exact wpOp_val (v := .bool true) (w' := wx) rfl rfl (by simp [execOp, Act.eval, s12, go_sem]) ⟨_, rfl, tab_put rfl hs rfl rfl, hS.same 2 rfl⟩
     ·
      have s13 : ax.tmps.getD 13 undef = .bool true := (hdone 0 _ rfl rfl).2 _ rfl
      exact wpOp_val (v := .bool true) (w' := wx) rfl rfl (by simp [execOp, Act.eval, s13]) ⟨_, rfl, tab_put rfl hs rfl rfl, hS.same 3 rfl⟩
     ·
      have hg : ax.tmps.getD 14 undef = .bool true := (hdone 0 _ rfl rfl).2 _ rfl
      exact wpOp_no rfl (wanted_no 3 14 true hg (by rw [hs]; omega) rfl rfl rfl rfl) ⟨_, rfl, tab_put rfl hs rfl rfl, hS.same 4 rfl⟩
     ·
      have hg : ax.tmps.getD 14 undef = .bool true := (hdone 1 _ rfl rfl).2 _ rfl
      exact wpOp_no rfl (wanted_no 3 14 true hg (by rw [hs]; omega) rfl rfl rfl rfl) ⟨_, rfl, tab_put rfl hs rfl rfl, hS.same 5 rfl⟩
     ·
      have hg : ax.tmps.getD 14 undef = .bool true := (hdone 1 _ rfl rfl).2 _ rfl
      exact wpOp_no rfl (wanted_no 3 14 true hg (by rw [hs]; omega) rfl rfl rfl rfl) ⟨_, rfl, tab_put rfl hs rfl rfl, hS.same 6 rfl⟩
     ·
      have s14 : ax.tmps.getD 14 undef = .bool true := (hdone 0 _ rfl rfl).2 _ rfl
      have s17 : ax.tmps.getD 17 undef = undef := (hdone 1 _ rfl rfl).2 _ rfl
      exact wpOp_val (v := .bool true) (w' := wx) rfl rfl (by simp [execOp, Act.eval, s14, s17, go_sem]) ⟨_, rfl, tab_put rfl hs rfl rfl, hS.same 7 rfl⟩
   intro a2 w2 fl d2 z2 rest2 R2 hfl hS
   obtain ⟨B2, n2, hBs, hAs, hPs⟩ := hS.finish hfl rfl
   replace d2 := d2.trans d1
   replace z2 := z2.trans z1
   obtain ⟨⟨l_g1_2, b_g1_2⟩, ⟨l_g2_2, b_g2_2⟩, ⟨l_g3_2, b_g3_2⟩, -⟩ := hBs
   replace l_g1_2 : g1 < w1.heap.size := l_g1_2
   replace l_g2_2 : g2 < w1.heap.size := l_g2_2
   replace l_g3_2 : g3 < w1.heap.size := l_g3_2
   have s0_2 := (rest2 0 (not_of (by kernel_rfl))).trans s0_1
   have s4_2 := (rest2 4 (not_of (by kernel_rfl))).trans u_g1
   have s5_2 := (rest2 5 (not_of (by kernel_rfl))).trans u_g2
   have s6_2 := (rest2 6 (not_of (by kernel_rfl))).trans u_g3
   have s18_2 : a2.tmps.getD 18 undef = .bool true := R2 7 _ rfl
   clear R2 rest2 hS hfl hPs hAs
   clear u_g1 u_g2 u_g3 s0_1 b_g1_1 b_g2_1 b_g3_1 d1 z1
   refine wp_cond_true (show a2.tmps.getD 18 undef = .bool true from s18_2) ?_
   refine wp_seq ?_
   refine wp_regx (SX W w2.heap.size [⟨g1, 60, (cR a b c d), none, #[]⟩, ⟨g2, 60, (cR p q r t), none, #[]⟩, ⟨g3, 60, (cR 0 0 0 0), some 1, (cR allR.u.lo allR.u.hi allR.s.lo allR.s.hi)⟩] []) (TabX [fun vx => vx = .agg #[.int .u64 allR.u.lo, .int .u64 allR.u.hi, .int .i64 allR.s.lo, .int .i64 allR.s.hi], fun _ => True]) (by kernel_rfl) (back_of (by kernel_rfl)) (dst_of (by kernel_rfl)) (in_ofz (by kernel_rfl) z2) (fun fl w1 hfl hw => SX.start' hw B2 hfl rfl ⟨b_g1_2, b_g2_2, b_g3_2, trivial⟩) ?h3 ?_
   case h3 =>
     intro ix ox ax wx fl ho hS hfi clo hsz hrest hdone hund
     have t6 := (hrest 6 (not_of (by kernel_rfl))).trans s6_2
     have hs : ax.tmps.size = 71 := hsz.trans z2
     have hi : ix < 2 := (Array.getElem?_eq_some_iff.1 ho).1
     clear hrest hsz hund
     obtain rfl | rfl : ix = 0 ∨ ix = 1 := by omega
     all_goals obtain rfl := Option.some.inj (show some _ = some ox from ho)
     ·
      refine wpOp_call (args := #[]) rfl rfl (exec_call rfl rfl rfl (args0 ) Try.func32 (by decide +kernel) rfl) ?_
      · refine (all_n wx).mono ?_
        rintro e w' ⟨rfl, b9⟩
        exact ⟨_, rfl, _, rfl, tab_put rfl hs rfl rfl, hS.quiet 0 rfl b9⟩
     ·
      have s19 : ax.tmps.getD 19 undef = .agg #[.int .u64 allR.u.lo, .int .u64 allR.u.hi, .int .i64 allR.s.lo, .int .i64 allR.s.hi] := (hdone 0 _ rfl rfl).2 _ rfl
      have hr := hS.rowFi 2 rfl hfi
      exact wpOp_skp (w' := wx.setRow g3 #[.int .u64 allR.u.lo, .int .u64 allR.u.hi, .int .i64 allR.s.lo, .int .i64 allR.s.hi]) rfl rfl (exec_storeR 60 _ _ rfl g3 #[.int .u64 allR.u.lo, .int .u64 allR.u.hi, .int .i64 allR.s.lo, .int .i64 allR.s.hi] (show ax.eval (.tmp 6) = .pointer (some ⟨g3, 0, none⟩) from t6) (show ax.eval (.tmp 19) = .agg #[.int .u64 allR.u.lo, .int .u64 allR.u.hi, .int .i64 allR.s.lo, .int .i64 allR.s.hi] from s19) hr (by kernel_rfl) rfl (by simp [Value.oneCell'])) ⟨undef, rfl, trivial, hS.storeBi 1 2 rfl q_g3 rfl ⟨(show g1 ≠ g3 by omega), (show g2 ≠ g3 by omega), trivial⟩ (stored_setRow wx g3 _ _ _ hr)⟩
   intro a3 w3 fl d3 z3 rest3 R3 hfl hS
   obtain ⟨B3, n3, hBs, hAs, hPs⟩ := hS.finish hfl rfl
   replace d3 := d3.trans d2
   replace z3 := z3.trans z2
   obtain ⟨⟨-, b_g1_3⟩, ⟨-, b_g2_3⟩, ⟨-, b_g3_3⟩, -⟩ := hBs
   have s0_3 := (rest3 0 (not_of (by kernel_rfl))).trans s0_2
   have s4_3 := (rest3 4 (not_of (by kernel_rfl))).trans s4_2
   have s5_3 := (rest3 5 (not_of (by kernel_rfl))).trans s5_2
   have s6_3 := (rest3 6 (not_of (by kernel_rfl))).trans s6_2
   clear R3 rest3 hS hfl hPs hAs
   clear s0_2 s4_2 s5_2 s6_2 s18_2 b_g1_2 b_g2_2 b_g3_2 d2 z2
   refine wp_ret ?_
   try simp only [Exit.inBlock, Exit.then]
   refine bodyPost_ret (res_c (fn := Try.f42) rfl s6_3 (load_row 60 b_g3_3 Try.underlying60 rfl (by kernel_rfl))) d3 ?_
   have HE : (.agg #[.int .u64 allR.u.lo, .int .u64 allR.u.hi, .int .i64 allR.s.lo, .int .i64 allR.s.hi] : Value) = Rg.val (Rg.doR op ⟨⟨a, b⟩, ⟨c, d⟩⟩ ⟨⟨p, q⟩, ⟨r, t⟩⟩) := by unfold Rg.doR; rw [Ffk1.out]; rfl
   exact ⟨retV HE, B3⟩
  have Ffk1 := Lib.hid fk1; clear fk1
  cases fk2 : Rg.mayB ⟨⟨p, q⟩, ⟨r, t⟩⟩
  case false =>
   have Ffk2 := Lib.hid fk2; clear fk2
   refine wp_regx (SX W w1.heap.size [⟨g1, 60, (cR a b c d), none, #[]⟩, ⟨g2, 60, (cR p q r t), none, #[]⟩, ⟨g3, 60, (cR 0 0 0 0), none, #[]⟩] []) (TabX [fun vx => vx = .agg #[.int .u64 a, .int .u64 b, .int .i64 c, .int .i64 d], fun vx => vx = .bool true, fun vx => vx = .bool false, fun vx => vx = .bool false, fun vx => vx = .agg #[.int .u64 p, .int .u64 q, .int .i64 r, .int .i64 t], fun vx => vx = .bool false, fun vx => vx = .bool true, fun vx => vx = .bool true]) (by kernel_rfl) (back_of (by kernel_rfl)) (dst_of (by kernel_rfl)) (in_ofz (by kernel_rfl) z1) (fun fl w1 hfl hw => SX.start' hw B1 hfl rfl ⟨b_g1_1, b_g2_1, b_g3_1, trivial⟩) ?h4 ?_
   case h4 =>
     intro ix ox ax wx fl ho hS hfi clo hsz hrest hdone hund
     have t4 := (hrest 4 (not_of (by kernel_rfl))).trans u_g1
     have t5 := (hrest 5 (not_of (by kernel_rfl))).trans u_g2
     have hs : ax.tmps.size = 71 := hsz.trans z1
     have hi : ix < 8 := (Array.getElem?_eq_some_iff.1 ho).1
     clear hrest hsz hund
     obtain rfl | rfl | rfl | rfl | rfl | rfl | rfl | rfl : ix = 0 ∨ ix = 1 ∨ ix = 2 ∨ ix = 3 ∨ ix = 4 ∨ ix = 5 ∨ ix = 6 ∨ ix = 7 := by omega
     all_goals obtain rfl := Option.some.inj (show some _ = some ox from ho)
     ·
      have hr := hS.rowNi 0 rfl
      exact wpOp_val (v := .agg #[.int .u64 a, .int .u64 b, .int .i64 c, .int .i64 d]) (w' := wx) rfl rfl (exec_loadR 60 _ rfl g1 0 (show ax.eval (.tmp 4) = .pointer (some ⟨g1, 0, none⟩) from t4) hr [.int .u64 a, .int .u64 b, .int .i64 c, .int .i64 d] rfl _ Try.underlying60 rfl (by kernel_rfl)) ⟨_, rfl, tab_put rfl hs rfl rfl, hS.same 0 rfl⟩
     ·
      have s11 : ax.tmps.getD 11 undef = .agg #[.int .u64 a, .int .u64 b, .int .i64 c, .int .i64 d] := (hdone 0 _ rfl rfl).2 _ rfl
      refine wpOp_call (args := #[.agg #[.int .u64 a, .int .u64 b, .int .i64 c, .int .i64 d]]) rfl rfl (exec_call rfl rfl rfl (args1 (show ax.eval (.tmp 11) = .agg #[.int .u64 a, .int .u64 b, .int .i64 c, .int .i64 d] from s11)) Try.func30 (by decide +kernel) rfl) ?_
      · refine (may_n a b c d wx).mono ?_
        rintro e w' ⟨rfl, b9⟩
        exact ⟨_, rfl, _, rfl, tab_put rfl hs rfl (congrArg Value.bool Ffk1.out), hS.quiet 1 rfl b9⟩
     ·
      have s12 : ax.tmps.getD 12 undef = .bool true := (hdone 0 _ rfl rfl).2 _ rfl
      exact wpOp_val (v := .bool false) (w' := wx) rfl rfl (by simp [execOp, Act.eval, s12, go_sem]) ⟨_, rfl, tab_put rfl hs rfl rfl, hS.same 2 rfl⟩
     ·
      have s13 : ax.tmps.getD 13 undef = .bool false := (hdone 0 _ rfl rfl).2 _ rfl
      exact wpOp_val (v := .bool false) (w' := wx) rfl rfl (by simp [execOp, Act.eval, s13]) ⟨_, rfl, tab_put rfl hs rfl rfl, hS.same 3 rfl⟩
     ·
      have hg : ax.tmps.getD 14 undef = .bool false := (hdone 0 _ rfl rfl).2 _ rfl
      have hr := hS.rowNi 1 rfl
      exact wpOp_valw (v := .agg #[.int .u64 p, .int .u64 q, .int .i64 r, .int .i64 t]) (w' := wx) rfl (wanted_yes 3 14 false hg (by rw [hs]; omega) rfl rfl rfl rfl) (exec_loadR 60 _ rfl g2 0 (show ax.eval (.tmp 5) = .pointer (some ⟨g2, 0, none⟩) from t5) hr [.int .u64 p, .int .u64 q, .int .i64 r, .int .i64 t] rfl _ Try.underlying60 rfl (by kernel_rfl)) ⟨_, rfl, tab_put rfl hs rfl rfl, hS.same 4 rfl⟩
     ·
      have hg : ax.tmps.getD 14 undef = .bool false := (hdone 1 _ rfl rfl).2 _ rfl
      have s15 : ax.tmps.getD 15 undef = .agg #[.int .u64 p, .int .u64 q, .int .i64 r, .int .i64 t] := (hdone 0 _ rfl rfl).2 _ rfl
      refine wpOp_callw (args := #[.agg #[.int .u64 p, .int .u64 q, .int .i64 r, .int .i64 t]]) rfl (wanted_yes 3 14 false hg (by rw [hs]; omega) rfl rfl rfl rfl) (exec_call rfl rfl rfl (args1 (show ax.eval (.tmp 15) = .agg #[.int .u64 p, .int .u64 q, .int .i64 r, .int .i64 t] from s15)) Try.func30 (by decide +kernel) rfl) ?_
      · refine (may_n p q r t wx).mono ?_
        rintro e w' ⟨rfl, b9⟩
        exact ⟨_, rfl, _, rfl, tab_put rfl hs rfl (congrArg Value.bool Ffk2.out), hS.quiet 5 rfl b9⟩
     ·
      have hg : ax.tmps.getD 14 undef = .bool false := (hdone 1 _ rfl rfl).2 _ rfl
      have s16 : ax.tmps.getD 16 undef = .bool false := (hdone 0 _ rfl rfl).2 _ rfl
      exact wpOp_valw (v := .bool true) (w' := wx) rfl (wanted_yes 3 14 false hg (by rw [hs]; omega) rfl rfl rfl rfl) (by simp [execOp, Act.eval, s16, go_sem]) ⟨_, rfl, tab_put rfl hs rfl rfl, hS.same 6 rfl⟩
     ·
      have s14 : ax.tmps.getD 14 undef = .bool false := (hdone 0 _ rfl rfl).2 _ rfl
      have s17 : ax.tmps.getD 17 undef = .bool true := (hdone 1 _ rfl rfl).2 _ rfl
      exact wpOp_val (v := .bool true) (w' := wx) rfl rfl (by simp [execOp, Act.eval, s14, s17, go_sem]) ⟨_, rfl, tab_put rfl hs rfl rfl, hS.same 7 rfl⟩
   intro a2 w2 fl d2 z2 rest2 R2 hfl hS
   obtain ⟨B2, n2, hBs, hAs, hPs⟩ := hS.finish hfl rfl
   replace d2 := d2.trans d1
   replace z2 := z2.trans z1
   obtain ⟨⟨l_g1_2, b_g1_2⟩, ⟨l_g2_2, b_g2_2⟩, ⟨l_g3_2, b_g3_2⟩, -⟩ := hBs
   replace l_g1_2 : g1 < w1.heap.size := l_g1_2
   replace l_g2_2 : g2 < w1.heap.size := l_g2_2
   replace l_g3_2 : g3 < w1.heap.size := l_g3_2
   have s0_2 := (rest2 0 (not_of (by kernel_rfl))).trans s0_1
   have s4_2 := (rest2 4 (not_of (by kernel_rfl))).trans u_g1
   have s5_2 := (rest2 5 (not_of (by kernel_rfl))).trans u_g2
   have s6_2 := (rest2 6 (not_of (by kernel_rfl))).trans u_g3
   have s18_2 : a2.tmps.getD 18 undef = .bool true := R2 7 _ rfl
   clear R2 rest2 hS hfl hPs hAs
   clear u_g1 u_g2 u_g3 s0_1 b_g1_1 b_g2_1 b_g3_1 d1 z1
   refine wp_cond_true (show a2.tmps.getD 18 undef = .bool true from s18_2) ?_
   refine wp_seq ?_
   refine wp_regx (SX W w2.heap.size [⟨g1, 60, (cR a b c d), none, #[]⟩, ⟨g2, 60, (cR p q r t), none, #[]⟩, ⟨g3, 60, (cR 0 0 0 0), some 1, (cR allR.u.lo allR.u.hi allR.s.lo allR.s.hi)⟩] []) (TabX [fun vx => vx = .agg #[.int .u64 allR.u.lo, .int .u64 allR.u.hi, .int .i64 allR.s.lo, .int .i64 allR.s.hi], fun _ => True]) (by kernel_rfl) (back_of (by kernel_rfl)) (dst_of (by kernel_rfl)) (in_ofz (by kernel_rfl) z2) (fun fl w1 hfl hw => SX.start' hw B2 hfl rfl ⟨b_g1_2, b_g2_2, b_g3_2, trivial⟩) ?h5 ?_
   case h5 =>
     intro ix ox ax wx fl ho hS hfi clo hsz hrest hdone hund
     have t6 := (hrest 6 (not_of (by kernel_rfl))).trans s6_2
     have hs : ax.tmps.size = 71 := hsz.trans z2
     have hi : ix < 2 := (Array.getElem?_eq_some_iff.1 ho).1
     clear hrest hsz hund
     obtain rfl | rfl : ix = 0 ∨ ix = 1 := by omega
     all_goals obtain rfl := Option.some.inj (show some _ = some ox from ho)
     ·
      refine wpOp_call (args := #[]) rfl rfl (exec_call rfl rfl rfl (args0 ) Try.func32 (by decide +kernel) rfl) ?_
      · refine (all_n wx).mono ?_
        rintro e w' ⟨rfl, b9⟩
        exact ⟨_, rfl, _, rfl, tab_put rfl hs rfl rfl, hS.quiet 0 rfl b9⟩
     ·
      have s19 : ax.tmps.getD 19 undef = .agg #[.int .u64 allR.u.lo, .int .u64 allR.u.hi, .int .i64 allR.s.lo, .int .i64 allR.s.hi] := (hdone 0 _ rfl rfl).2 _ rfl
      have hr := hS.rowFi 2 rfl hfi
      exact wpOp_skp (w' := wx.setRow g3 #[.int .u64 allR.u.lo, .int .u64 allR.u.hi, .int .i64 allR.s.lo, .int .i64 allR.s.hi]) rfl rfl (exec_storeR 60 _ _ rfl g3 #[.int .u64 allR.u.lo, .int .u64 allR.u.hi, .int .i64 allR.s.lo, .int .i64 allR.s.hi] (show ax.eval (.tmp 6) = .pointer (some ⟨g3, 0, none⟩) from t6) (show ax.eval (.tmp 19) = .agg #[.int .u64 allR.u.lo, .int .u64 allR.u.hi, .int .i64 allR.s.lo, .int .i64 allR.s.hi] from s19) hr (by kernel_rfl) rfl (by simp [Value.oneCell'])) ⟨undef, rfl, trivial, hS.storeBi 1 2 rfl q_g3 rfl ⟨(show g1 ≠ g3 by omega), (show g2 ≠ g3 by omega), trivial⟩ (stored_setRow wx g3 _ _ _ hr)⟩
   intro a3 w3 fl d3 z3 rest3 R3 hfl hS
   obtain ⟨B3, n3, hBs, hAs, hPs⟩ := hS.finish hfl rfl
   replace d3 := d3.trans d2
   replace z3 := z3.trans z2
   obtain ⟨⟨-, b_g1_3⟩, ⟨-, b_g2_3⟩, ⟨-, b_g3_3⟩, -⟩ := hBs
   have s0_3 := (rest3 0 (not_of (by kernel_rfl))).trans s0_2
   have s4_3 := (rest3 4 (not_of (by kernel_rfl))).trans s4_2
   have s5_3 := (rest3 5 (not_of (by kernel_rfl))).trans s5_2
   have s6_3 := (rest3 6 (not_of (by kernel_rfl))).trans s6_2
   clear R3 rest3 hS hfl hPs hAs
   clear s0_2 s4_2 s5_2 s6_2 s18_2 b_g1_2 b_g2_2 b_g3_2 d2 z2
   refine wp_ret ?_
   try simp only [Exit.inBlock, Exit.then]
   refine bodyPost_ret (res_c (fn := Try.f42) rfl s6_3 (load_row 60 b_g3_3 Try.underlying60 rfl (by kernel_rfl))) d3 ?_
   have HE : (.agg #[.int .u64 allR.u.lo, .int .u64 allR.u.hi, .int .i64 allR.s.lo, .int .i64 allR.s.hi] : Value) = Rg.val (Rg.doR op ⟨⟨a, b⟩, ⟨c, d⟩⟩ ⟨⟨p, q⟩, ⟨r, t⟩⟩) := by unfold Rg.doR; rw [Ffk1.out, Ffk2.out]; rfl
   exact ⟨retV HE, B3⟩
  have Ffk2 := Lib.hid fk2; clear fk2
  refine wp_regx (SX W w1.heap.size [⟨g1, 60, (cR a b c d), none, #[]⟩, ⟨g2, 60, (cR p q r t), none, #[]⟩, ⟨g3, 60, (cR 0 0 0 0), none, #[]⟩] []) (TabX [fun vx => vx = .agg #[.int .u64 a, .int .u64 b, .int .i64 c, .int .i64 d], fun vx => vx = .bool true, fun vx => vx = .bool false, fun vx => vx = .bool false, fun vx => vx = .agg #[.int .u64 p, .int .u64 q, .int .i64 r, .int .i64 t], fun vx => vx = .bool true, fun vx => vx = .bool false, fun vx => vx = .bool false]) (by kernel_rfl) (back_of (by kernel_rfl)) (dst_of (by kernel_rfl)) (in_ofz (by kernel_rfl) z1) (fun fl w1 hfl hw => SX.start' hw B1 hfl rfl ⟨b_g1_1, b_g2_1, b_g3_1, trivial⟩) ?h6 ?_
  case h6 =>
    intro ix ox ax wx fl ho hS hfi clo hsz hrest hdone hund
    have t4 := (hrest 4 (not_of (by kernel_rfl))).trans u_g1
    have t5 := (hrest 5 (not_of (by kernel_rfl))).trans u_g2
    have hs : ax.tmps.size = 71 := hsz.trans z1
    have hi : ix < 8 := (Array.getElem?_eq_some_iff.1 ho).1
    clear hrest hsz hund
    obtain rfl | rfl | rfl | rfl | rfl | rfl | rfl | rfl : ix = 0 ∨ ix = 1 ∨ ix = 2 ∨ ix = 3 ∨ ix = 4 ∨ ix = 5 ∨ ix = 6 ∨ ix = 7 := by omega
    all_goals obtain rfl := Option.some.inj (show some _ = some ox from ho)
    ·
     have hr := hS.rowNi 0 rfl
     exact wpOp_val (v := .agg #[.int .u64 a, .int .u64 b, .int .i64 c, .int .i64 d]) (w' := wx) rfl rfl (exec_loadR 60 _ rfl g1 0 (show ax.eval (.tmp 4) = .pointer (some ⟨g1, 0, none⟩) from t4) hr [.int .u64 a, .int .u64 b, .int .i64 c, .int .i64 d] rfl _ Try.underlying60 rfl (by kernel_rfl)) ⟨_, rfl, tab_put rfl hs rfl rfl, hS.same 0 rfl⟩
    ·
     have s11 : ax.tmps.getD 11 undef = .agg #[.int .u64 a, .int .u64 b, .int .i64 c, .int .i64 d] := (hdone 0 _ rfl rfl).2 _ rfl
     refine wpOp_call (args := #[.agg #[.int .u64 a, .int .u64 b, .int .i64 c, .int .i64 d]]) rfl rfl (exec_call rfl rfl rfl (args1 (show ax.eval (.tmp 11) = .agg #[.int .u64 a, .int .u64 b, .int .i64 c, .int .i64 d] from s11)) Try.func30 (by decide +kernel) rfl) ?_
     · refine (may_n a b c d wx).mono ?_
       rintro e w' ⟨rfl, b9⟩
       exact ⟨_, rfl, _, rfl, tab_put rfl hs rfl (congrArg Value.bool Ffk1.out), hS.quiet 1 rfl b9⟩
    ·
     have s12 : ax.tmps.getD 12 undef = .bool true := (hdone 0 _ rfl rfl).2 _ rfl
     exact wpOp_val (v := .bool false) (w' := wx) rfl rfl (by simp [execOp, Act.eval, s12, go_sem]) ⟨_, rfl, tab_put rfl hs rfl rfl, hS.same 2 rfl⟩
    ·
     have s13 : ax.tmps.getD 13 undef = .bool false := (hdone 0 _ rfl rfl).2 _ rfl
     exact wpOp_val (v := .bool false) (w' := wx) rfl rfl (by simp [execOp, Act.eval, s13]) ⟨_, rfl, tab_put rfl hs rfl rfl, hS.same 3 rfl⟩
    ·
     have hg : ax.tmps.getD 14 undef = .bool false := (hdone 0 _ rfl rfl).2 _ rfl
     have hr := hS.rowNi 1 rfl
     exact wpOp_valw (v := .agg #[.int .u64 p, .int .u64 q, .int .i64 r, .int .i64 t]) (w' := wx) rfl (wanted_yes 3 14 false hg (by rw [hs]; omega) rfl rfl rfl rfl) (exec_loadR 60 _ rfl g2 0 (show ax.eval (.tmp 5) = .pointer (some ⟨g2, 0, none⟩) from t5) hr [.int .u64 p, .int .u64 q, .int .i64 r, .int .i64 t] rfl _ Try.underlying60 rfl (by kernel_rfl)) ⟨_, rfl, tab_put rfl hs rfl rfl, hS.same 4 rfl⟩
    ·
     have hg : ax.tmps.getD 14 undef = .bool false := (hdone 1 _ rfl rfl).2 _ rfl
     have s15 : ax.tmps.getD 15 undef = .agg #[.int .u64 p, .int .u64 q, .int .i64 r, .int .i64 t] := (hdone 0 _ rfl rfl).2 _ rfl
     refine wpOp_callw (args := #[.agg #[.int .u64 p, .int .u64 q, .int .i64 r, .int .i64 t]]) rfl (wanted_yes 3 14 false hg (by rw [hs]; omega) rfl rfl rfl rfl) (exec_call rfl rfl rfl (args1 (show ax.eval (.tmp 15) = .agg #[.int .u64 p, .int .u64 q, .int .i64 r, .int .i64 t] from s15)) Try.func30 (by decide +kernel) rfl) ?_
     · refine (may_n p q r t wx).mono ?_
       rintro e w' ⟨rfl, b9⟩
       exact ⟨_, rfl, _, rfl, tab_put rfl hs rfl (congrArg Value.bool Ffk2.out), hS.quiet 5 rfl b9⟩
    ·
     have hg : ax.tmps.getD 14 undef = .bool false := (hdone 1 _ rfl rfl).2 _ rfl
     have s16 : ax.tmps.getD 16 undef = .bool true := (hdone 0 _ rfl rfl).2 _ rfl
     exact wpOp_valw (v := .bool false) (w' := wx) rfl (wanted_yes 3 14 false hg (by rw [hs]; omega) rfl rfl rfl rfl) (by simp [execOp, Act.eval, s16, go_sem]) ⟨_, rfl, tab_put rfl hs rfl rfl, hS.same 6 rfl⟩
    ·
     have s14 : ax.tmps.getD 14 undef = .bool false := (hdone 0 _ rfl rfl).2 _ rfl
     have s17 : ax.tmps.getD 17 undef = .bool false := (hdone 1 _ rfl rfl).2 _ rfl
     exact wpOp_val (v := .bool false) (w' := wx) rfl rfl (by simp [execOp, Act.eval, s14, s17, go_sem]) ⟨_, rfl, tab_put rfl hs rfl rfl, hS.same 7 rfl⟩
  intro a2 w2 fl d2 z2 rest2 R2 hfl hS
  obtain ⟨B2, n2, hBs, hAs, hPs⟩ := hS.finish hfl rfl
  replace d2 := d2.trans d1
  replace z2 := z2.trans z1
  obtain ⟨⟨l_g1_2, b_g1_2⟩, ⟨l_g2_2, b_g2_2⟩, ⟨l_g3_2, b_g3_2⟩, -⟩ := hBs
  replace l_g1_2 : g1 < w1.heap.size := l_g1_2
  replace l_g2_2 : g2 < w1.heap.size := l_g2_2
  replace l_g3_2 : g3 < w1.heap.size := l_g3_2
  have s0_2 := (rest2 0 (not_of (by kernel_rfl))).trans s0_1
  have s4_2 := (rest2 4 (not_of (by kernel_rfl))).trans u_g1
  have s5_2 := (rest2 5 (not_of (by kernel_rfl))).trans u_g2
  have s6_2 := (rest2 6 (not_of (by kernel_rfl))).trans u_g3
  have s18_2 : a2.tmps.getD 18 undef = .bool false := R2 7 _ rfl
  clear R2 rest2 hS hfl hPs hAs
  clear u_g1 u_g2 u_g3 s0_1 b_g1_1 b_g2_1 b_g3_1 d1 z1
  refine wp_cond_false (show a2.tmps.getD 18 undef = .bool false from s18_2) ?_
  refine wp_skip ?_
  refine wp_seq ?_
  refine wp_regx (SX W w2.heap.size [⟨g1, 60, (cR a b c d), none, #[]⟩, ⟨g2, 60, (cR p q r t), none, #[]⟩, ⟨g3, 60, (cR 0 0 0 0), none, #[]⟩] [⟨4, 7, 95, (cU 0 0), some 6, (cU allR.u.lo allR.u.hi)⟩, ⟨5, 8, 99, (cS 0 0), some 7, (cS allR.s.lo allR.s.hi)⟩]) (TabX [fun vx => vx = .agg #[.int .u64 allR.u.lo, .int .u64 allR.u.hi, .int .i64 allR.s.lo, .int .i64 allR.s.hi], fun vx => vx = .agg #[.int .u64 allR.u.lo, .int .u64 allR.u.hi], fun vx => vx = .agg #[.int .u64 allR.u.lo, .int .u64 allR.u.hi, .int .i64 allR.s.lo, .int .i64 allR.s.hi], fun vx => vx = .agg #[.int .i64 allR.s.lo, .int .i64 allR.s.hi], fun _ => True, fun _ => True, fun _ => True, fun _ => True]) (by kernel_rfl) (back_of (by kernel_rfl)) (dst_of (by kernel_rfl)) (in_ofz (by kernel_rfl) z2) (fun fl w1 hfl hw => SX.start' hw B2 hfl rfl ⟨b_g1_2, b_g2_2, b_g3_2, trivial⟩) ?h7 ?_
  case h7 =>
    intro ix ox ax wx fl ho hS hfi clo hsz hrest hdone hund
    have hs : ax.tmps.size = 71 := hsz.trans z2
    have hi : ix < 8 := (Array.getElem?_eq_some_iff.1 ho).1
    clear hrest hsz hund
    obtain rfl | rfl | rfl | rfl | rfl | rfl | rfl | rfl : ix = 0 ∨ ix = 1 ∨ ix = 2 ∨ ix = 3 ∨ ix = 4 ∨ ix = 5 ∨ ix = 6 ∨ ix = 7 := by omega
    all_goals obtain rfl := Option.some.inj (show some _ = some ox from ho)
    ·
     refine wpOp_call (args := #[]) rfl rfl (exec_call rfl rfl rfl (args0 ) Try.func32 (by decide +kernel) rfl) ?_
     · refine (all_n wx).mono ?_
       rintro e w' ⟨rfl, b9⟩
       exact ⟨_, rfl, _, rfl, tab_put rfl hs rfl rfl, hS.quiet 0 rfl b9⟩
    ·
     have s20 : ax.tmps.getD 20 undef = .agg #[.int .u64 allR.u.lo, .int .u64 allR.u.hi, .int .i64 allR.s.lo, .int .i64 allR.s.hi] := (hdone 0 _ rfl rfl).2 _ rfl
     refine wpOp_call (args := #[.agg #[.int .u64 allR.u.lo, .int .u64 allR.u.hi, .int .i64 allR.s.lo, .int .i64 allR.s.hi]]) rfl rfl (exec_call rfl rfl rfl (args1 (show ax.eval (.tmp 20) = .agg #[.int .u64 allR.u.lo, .int .u64 allR.u.hi, .int .i64 allR.s.lo, .int .i64 allR.s.hi] from s20)) Try.func61 (by decide +kernel) rfl) ?_
     · refine (unsigned_n allR.u.lo allR.u.hi allR.s.lo allR.s.hi wx).mono ?_
       rintro e w' ⟨rfl, b9⟩
       exact ⟨_, rfl, _, rfl, tab_put rfl hs rfl rfl, hS.quiet 1 rfl b9⟩
    ·
     refine wpOp_call (args := #[]) rfl rfl (exec_call rfl rfl rfl (args0 ) Try.func32 (by decide +kernel) rfl) ?_
     · refine (all_n wx).mono ?_
       rintro e w' ⟨rfl, b9⟩
       exact ⟨_, rfl, _, rfl, tab_put rfl hs rfl rfl, hS.quiet 2 rfl b9⟩
    ·
     have s22 : ax.tmps.getD 22 undef = .agg #[.int .u64 allR.u.lo, .int .u64 allR.u.hi, .int .i64 allR.s.lo, .int .i64 allR.s.hi] := (hdone 0 _ rfl rfl).2 _ rfl
     refine wpOp_call (args := #[.agg #[.int .u64 allR.u.lo, .int .u64 allR.u.hi, .int .i64 allR.s.lo, .int .i64 allR.s.hi]]) rfl rfl (exec_call rfl rfl rfl (args1 (show ax.eval (.tmp 22) = .agg #[.int .u64 allR.u.lo, .int .u64 allR.u.hi, .int .i64 allR.s.lo, .int .i64 allR.s.hi] from s22)) Try.func63 (by decide +kernel) rfl) ?_
     · refine (signed_n allR.u.lo allR.u.hi allR.s.lo allR.s.hi wx).mono ?_
       rintro e w' ⟨rfl, b9⟩
       exact ⟨_, rfl, _, rfl, tab_put rfl hs rfl rfl, hS.quiet 3 rfl b9⟩
    ·
     refine wpOp_val (v := .pointer (some ⟨wx.heap.size, 0, none⟩)) (w' := wx.alloc (.cells #[.int .u64 0, .int .u64 0] 95)) rfl rfl ?_ ⟨_, rfl, trivial, hS.alloc 4 7 95 #[.int .u64 0, .int .u64 0] [] [⟨5, 8, 99, (cS 0 0), some 7, (cS allR.s.lo allR.s.hi)⟩] (some 6) #[.int .u64 allR.u.lo, .int .u64 allR.u.hi] rfl rfl rfl (by rw [hs]; omega) (not_yet clo hfi (by kernel_rfl))⟩
     · simp [execOp, Act.eval, go_sem]
    ·
     refine wpOp_val (v := .pointer (some ⟨wx.heap.size, 0, none⟩)) (w' := wx.alloc (.cells #[.int .i64 0, .int .i64 0] 99)) rfl rfl ?_ ⟨_, rfl, trivial, hS.alloc 5 8 99 #[.int .i64 0, .int .i64 0] [⟨4, 7, 95, (cU 0 0), some 6, (cU allR.u.lo allR.u.hi)⟩] [] (some 7) #[.int .i64 allR.s.lo, .int .i64 allR.s.hi] rfl rfl rfl (by rw [hs]; omega) (not_yet clo hfi (by kernel_rfl))⟩
     · simp [execOp, Act.eval, go_sem]
    ·
     have hd7 := (hdone 0 _ rfl rfl).1
     obtain ⟨g4, s7, n7, r7⟩ := SX.rowA hS [] [⟨5, 8, 99, (cS 0 0), some 7, (cS allR.s.lo allR.s.hi)⟩] 4 7 95 _ _ 6 rfl hd7 hfi
     have s7 : ax.tmps.getD 7 undef = .pointer (some ⟨g4, 0, none⟩) := s7
     have s21 : ax.tmps.getD 21 undef = .agg #[.int .u64 allR.u.lo, .int .u64 allR.u.hi] := (hdone 1 _ rfl rfl).2 _ rfl
     have hr : wx.heap[g4]? = some (.cells #[.int .u64 0, .int .u64 0] 95 (0, 0)) := r7
     exact wpOp_skp (w' := wx.setRow g4 #[.int .u64 allR.u.lo, .int .u64 allR.u.hi]) rfl rfl (exec_storeR 95 _ _ rfl g4 #[.int .u64 allR.u.lo, .int .u64 allR.u.hi] (show ax.eval (.tmp 7) = .pointer (some ⟨g4, 0, none⟩) from s7) (show ax.eval (.tmp 21) = .agg #[.int .u64 allR.u.lo, .int .u64 allR.u.hi] from s21) hr (by kernel_rfl) rfl (by simp [Value.oneCell'])) ⟨undef, rfl, trivial, hS.storeA 6 4 7 95 #[.int .u64 0, .int .u64 0] #[.int .u64 allR.u.lo, .int .u64 allR.u.hi] [] [⟨5, 8, 99, (cS 0 0), some 7, (cS allR.s.lo allR.s.hi)⟩] rfl B2.size hd7 g4 s7 (by decide) rfl (stored_setRow wx g4 _ _ _ hr)⟩
    ·
     have hd8 := (hdone 0 _ rfl rfl).1
     obtain ⟨g5, s8, n8, r8⟩ := SX.rowA hS [⟨4, 7, 95, (cU 0 0), some 6, (cU allR.u.lo allR.u.hi)⟩] [] 5 8 99 _ _ 7 rfl hd8 hfi
     have s8 : ax.tmps.getD 8 undef = .pointer (some ⟨g5, 0, none⟩) := s8
     have s23 : ax.tmps.getD 23 undef = .agg #[.int .i64 allR.s.lo, .int .i64 allR.s.hi] := (hdone 1 _ rfl rfl).2 _ rfl
     have hr : wx.heap[g5]? = some (.cells #[.int .i64 0, .int .i64 0] 99 (0, 0)) := r8
     exact wpOp_skp (w' := wx.setRow g5 #[.int .i64 allR.s.lo, .int .i64 allR.s.hi]) rfl rfl (exec_storeR 99 _ _ rfl g5 #[.int .i64 allR.s.lo, .int .i64 allR.s.hi] (show ax.eval (.tmp 8) = .pointer (some ⟨g5, 0, none⟩) from s8) (show ax.eval (.tmp 23) = .agg #[.int .i64 allR.s.lo, .int .i64 allR.s.hi] from s23) hr (by kernel_rfl) rfl (by simp [Value.oneCell'])) ⟨undef, rfl, trivial, hS.storeA 7 5 8 99 #[.int .i64 0, .int .i64 0] #[.int .i64 allR.s.lo, .int .i64 allR.s.hi] [⟨4, 7, 95, (cU 0 0), some 6, (cU allR.u.lo allR.u.hi)⟩] [] rfl B2.size hd8 g5 s8 (by decide) rfl (stored_setRow wx g5 _ _ _ hr)⟩
  intro a3 w3 fl d3 z3 rest3 R3 hfl hS
  obtain ⟨B3, n3, hBs, hAs, hPs⟩ := hS.finish hfl rfl
  replace d3 := d3.trans d2
  replace z3 := z3.trans z2
  obtain ⟨⟨-, b_g1_3⟩, ⟨-, b_g2_3⟩, ⟨-, b_g3_3⟩, -⟩ := hBs
  obtain ⟨⟨g4, u_g4, q_g4, b_g4_3⟩, ⟨g5, u_g5, q_g5, b_g5_3⟩, -⟩ := hAs
  replace u_g4 : a3.tmps.getD 7 undef = .pointer (some ⟨g4, 0, none⟩) := u_g4
  have m_g4 : w2.heap.size ≤ g4 := q_g4
  replace q_g4 : W.heap.size ≤ g4 := Nat.le_trans B2.size q_g4
  replace u_g5 : a3.tmps.getD 8 undef = .pointer (some ⟨g5, 0, none⟩) := u_g5
  have m_g5 : w2.heap.size ≤ g5 := q_g5
  replace q_g5 : W.heap.size ≤ g5 := Nat.le_trans B2.size q_g5
  simp only [List.pairwise_cons, List.mem_cons, List.not_mem_nil, or_false, forall_eq_or_imp, forall_eq] at hPs
  have ne_g4_g5 : g4 ≠ g5 := by
    have hn : slotOf a3 7 ≠ slotOf a3 8 := hPs.1
    intro e; subst e; exact hn (Eq.trans u_g4 u_g5.symm)
  have s0_3 := (rest3 0 (not_of (by kernel_rfl))).trans s0_2
  have s4_3 := (rest3 4 (not_of (by kernel_rfl))).trans s4_2
  have s5_3 := (rest3 5 (not_of (by kernel_rfl))).trans s5_2
  have s6_3 := (rest3 6 (not_of (by kernel_rfl))).trans s6_2
  clear R3 rest3 hS hfl hPs
  clear s0_2 s4_2 s5_2 s6_2 s18_2 b_g1_2 b_g2_2 b_g3_2 d2 z2
  refine wp_seq ?_
  refine wp_seq ?_
  refine wp_regx (SX W w3.heap.size [⟨g1, 60, (cR a b c d), none, #[]⟩, ⟨g2, 60, (cR p q r t), none, #[]⟩, ⟨g3, 60, (cR 0 0 0 0), none, #[]⟩, ⟨g4, 95, (cU allR.u.lo allR.u.hi), none, #[]⟩, ⟨g5, 99, (cS allR.s.lo allR.s.hi), none, #[]⟩] []) (TabX [fun vx => vx = .int .i8 op]) (by kernel_rfl) (back_of (by kernel_rfl)) (dst_of (by kernel_rfl)) (in_ofz (by kernel_rfl) z3) (fun fl w1 hfl hw => SX.start' hw B3 hfl rfl ⟨b_g1_3, b_g2_3, b_g3_3, b_g4_3, b_g5_3, trivial⟩) ?h8 ?_
  case h8 =>
    intro ix ox ax wx fl ho hS hfi clo hsz hrest hdone hund
    have t0 := (hrest 0 (not_of (by kernel_rfl))).trans s0_3
    have hs : ax.tmps.size = 71 := hsz.trans z3
    have hi : ix < 1 := (Array.getElem?_eq_some_iff.1 ho).1
    clear hrest hsz hund
    obtain rfl : ix = 0 := by omega
    all_goals obtain rfl := Option.some.inj (show some _ = some ox from ho)
    ·
     exact wpOp_val (v := .int .i8 op) (w' := wx) rfl rfl (by simp [execOp, Act.eval, t0]) ⟨_, rfl, tab_put rfl hs rfl rfl, hS.same 0 rfl⟩
  intro a4 w4 fl d4 z4 rest4 R4 hfl hS
  obtain ⟨B4, n4, hBs, hAs, hPs⟩ := hS.finish hfl rfl
  replace d4 := d4.trans d3
  replace z4 := z4.trans z3
  obtain ⟨⟨-, b_g1_4⟩, ⟨-, b_g2_4⟩, ⟨-, b_g3_4⟩, ⟨l_g4_4, b_g4_4⟩, ⟨l_g5_4, b_g5_4⟩, -⟩ := hBs
  replace l_g4_4 : g4 < w3.heap.size := l_g4_4
  replace l_g5_4 : g5 < w3.heap.size := l_g5_4
  have s0_4 := (rest4 0 (not_of (by kernel_rfl))).trans s0_3
  have s4_4 := (rest4 4 (not_of (by kernel_rfl))).trans s4_3
  have s5_4 := (rest4 5 (not_of (by kernel_rfl))).trans s5_3
  have s6_4 := (rest4 6 (not_of (by kernel_rfl))).trans s6_3
  have s7_4 := (rest4 7 (not_of (by kernel_rfl))).trans u_g4
  have s8_4 := (rest4 8 (not_of (by kernel_rfl))).trans u_g5
  have s24_4 : a4.tmps.getD 24 undef = .int .i8 op := R4 0 _ rfl
  clear R4 rest4 hS hfl hPs hAs
  clear u_g4 u_g5 s0_3 s4_3 s5_3 s6_3 b_g1_3 b_g2_3 b_g3_3 b_g4_3 b_g5_3 d3 z3
  refine wp_block ?_
  refine wp_seq ?_
  cases fk3 : op == 11
  case true =>
   have Ffk3 := Lib.hid fk3; clear fk3
   refine wp_regx (SX W w4.heap.size [⟨g1, 60, (cR a b c d), none, #[]⟩, ⟨g2, 60, (cR p q r t), none, #[]⟩, ⟨g3, 60, (cR 0 0 0 0), none, #[]⟩, ⟨g4, 95, (cU allR.u.lo allR.u.hi), none, #[]⟩, ⟨g5, 99, (cS allR.s.lo allR.s.hi), none, #[]⟩] []) (TabX [fun vx => vx = .bool true, fun vx => vx = .bool true]) (by kernel_rfl) (back_of (by kernel_rfl)) (dst_of (by kernel_rfl)) (in_ofz (by kernel_rfl) z4) (fun fl w1 hfl hw => SX.start' hw B4 hfl rfl ⟨b_g1_4, b_g2_4, b_g3_4, b_g4_4, b_g5_4, trivial⟩) ?h9 ?_
   case h9 =>
     intro ix ox ax wx fl ho hS hfi clo hsz hrest hdone hund
     have t24 := (hrest 24 (not_of (by kernel_rfl))).trans s24_4
     have hs : ax.tmps.size = 71 := hsz.trans z4
     have hi : ix < 2 := (Array.getElem?_eq_some_iff.1 ho).1
     clear hrest hsz hund
     obtain rfl | rfl : ix = 0 ∨ ix = 1 := by omega
     all_goals obtain rfl := Option.some.inj (show some _ = some ox from ho)
     ·
      exact wpOp_val (v := .bool (op == 11)) (w' := wx) rfl rfl (by (simp [execOp, Act.eval, t24, go_sem]; try (simp only [IntKind.wrap_i64, wrap64]))) ⟨_, rfl, tab_put rfl hs rfl (congrArg Value.bool Ffk3.out), hS.same 0 rfl⟩
     ·
      have s30 : ax.tmps.getD 30 undef = .bool true := (hdone 0 _ rfl rfl).2 _ rfl
      exact wpOp_val (v := .bool true) (w' := wx) rfl rfl (by simp [execOp, Act.eval, s30]) ⟨_, rfl, tab_put rfl hs rfl rfl, hS.same 1 rfl⟩
   intro a5 w5 fl d5 z5 rest5 R5 hfl hS
   obtain ⟨B5, n5, hBs, hAs, hPs⟩ := hS.finish hfl rfl
   replace d5 := d5.trans d4
   replace z5 := z5.trans z4
   obtain ⟨⟨-, b_g1_5⟩, ⟨-, b_g2_5⟩, ⟨-, b_g3_5⟩, ⟨-, b_g4_5⟩, ⟨-, b_g5_5⟩, -⟩ := hBs
   have s0_5 := (rest5 0 (not_of (by kernel_rfl))).trans s0_4
   have s4_5 := (rest5 4 (not_of (by kernel_rfl))).trans s4_4
   have s5_5 := (rest5 5 (not_of (by kernel_rfl))).trans s5_4
   have s6_5 := (rest5 6 (not_of (by kernel_rfl))).trans s6_4
   have s7_5 := (rest5 7 (not_of (by kernel_rfl))).trans s7_4
   have s8_5 := (rest5 8 (not_of (by kernel_rfl))).trans s8_4
   have s24_5 := (rest5 24 (not_of (by kernel_rfl))).trans s24_4
   have s29_5 : a5.tmps.getD 29 undef = .bool true := R5 1 _ rfl
   clear R5 rest5 hS hfl hPs hAs
   clear s0_4 s4_4 s5_4 s6_4 s7_4 s8_4 s24_4 b_g1_4 b_g2_4 b_g3_4 b_g4_4 b_g5_4 d4 z4
   refine wp_cond_true (show a5.tmps.getD 29 undef = .bool true from s29_5) ?_
   refine wp_regx (SX W w5.heap.size [⟨g1, 60, (cR a b c d), none, #[]⟩, ⟨g2, 60, (cR p q r t), none, #[]⟩, ⟨g3, 60, (cR 0 0 0 0), none, #[]⟩, ⟨g4, 95, (cU allR.u.lo allR.u.hi), some 4, (cU p q)⟩, ⟨g5, 99, (cS allR.s.lo allR.s.hi), some 5, (cS r t)⟩] []) (TabX [fun vx => vx = .agg #[.int .u64 p, .int .u64 q, .int .i64 r, .int .i64 t], fun vx => vx = .agg #[.int .u64 p, .int .u64 q], fun vx => vx = .agg #[.int .u64 p, .int .u64 q, .int .i64 r, .int .i64 t], fun vx => vx = .agg #[.int .i64 r, .int .i64 t], fun _ => True, fun _ => True]) (by kernel_rfl) (back_of (by kernel_rfl)) (dst_of (by kernel_rfl)) (in_ofz (by kernel_rfl) z5) (fun fl w1 hfl hw => SX.start' hw B5 hfl rfl ⟨b_g1_5, b_g2_5, b_g3_5, b_g4_5, b_g5_5, trivial⟩) ?h10 ?_
   case h10 =>
     intro ix ox ax wx fl ho hS hfi clo hsz hrest hdone hund
     have t5 := (hrest 5 (not_of (by kernel_rfl))).trans s5_5
     have t7 := (hrest 7 (not_of (by kernel_rfl))).trans s7_5
     have t8 := (hrest 8 (not_of (by kernel_rfl))).trans s8_5
     have hs : ax.tmps.size = 71 := hsz.trans z5
     have hi : ix < 6 := (Array.getElem?_eq_some_iff.1 ho).1
     clear hrest hsz hund
     obtain rfl | rfl | rfl | rfl | rfl | rfl : ix = 0 ∨ ix = 1 ∨ ix = 2 ∨ ix = 3 ∨ ix = 4 ∨ ix = 5 := by omega
     all_goals obtain rfl := Option.some.inj (show some _ = some ox from ho)
     ·
      have hr := hS.rowNi 1 rfl
      exact wpOp_val (v := .agg #[.int .u64 p, .int .u64 q, .int .i64 r, .int .i64 t]) (w' := wx) rfl rfl (exec_loadR 60 _ rfl g2 0 (show ax.eval (.tmp 5) = .pointer (some ⟨g2, 0, none⟩) from t5) hr [.int .u64 p, .int .u64 q, .int .i64 r, .int .i64 t] rfl _ Try.underlying60 rfl (by kernel_rfl)) ⟨_, rfl, tab_put rfl hs rfl rfl, hS.same 0 rfl⟩
     ·
      have s31 : ax.tmps.getD 31 undef = .agg #[.int .u64 p, .int .u64 q, .int .i64 r, .int .i64 t] := (hdone 0 _ rfl rfl).2 _ rfl
      refine wpOp_call (args := #[.agg #[.int .u64 p, .int .u64 q, .int .i64 r, .int .i64 t]]) rfl rfl (exec_call rfl rfl rfl (args1 (show ax.eval (.tmp 31) = .agg #[.int .u64 p, .int .u64 q, .int .i64 r, .int .i64 t] from s31)) Try.func61 (by decide +kernel) rfl) ?_
      · refine (unsigned_n p q r t wx).mono ?_
        rintro e w' ⟨rfl, b9⟩
        exact ⟨_, rfl, _, rfl, tab_put rfl hs rfl rfl, hS.quiet 1 rfl b9⟩
     ·
      have hr := hS.rowNi 1 rfl
      exact wpOp_val (v := .agg #[.int .u64 p, .int .u64 q, .int .i64 r, .int .i64 t]) (w' := wx) rfl rfl (exec_loadR 60 _ rfl g2 0 (show ax.eval (.tmp 5) = .pointer (some ⟨g2, 0, none⟩) from t5) hr [.int .u64 p, .int .u64 q, .int .i64 r, .int .i64 t] rfl _ Try.underlying60 rfl (by kernel_rfl)) ⟨_, rfl, tab_put rfl hs rfl rfl, hS.same 2 rfl⟩
     ·
      have s33 : ax.tmps.getD 33 undef = .agg #[.int .u64 p, .int .u64 q, .int .i64 r, .int .i64 t] := (hdone 0 _ rfl rfl).2 _ rfl
      refine wpOp_call (args := #[.agg #[.int .u64 p, .int .u64 q, .int .i64 r, .int .i64 t]]) rfl rfl (exec_call rfl rfl rfl (args1 (show ax.eval (.tmp 33) = .agg #[.int .u64 p, .int .u64 q, .int .i64 r, .int .i64 t] from s33)) Try.func63 (by decide +kernel) rfl) ?_
      · refine (signed_n p q r t wx).mono ?_
        rintro e w' ⟨rfl, b9⟩
        exact ⟨_, rfl, _, rfl, tab_put rfl hs rfl rfl, hS.quiet 3 rfl b9⟩
     ·
      have s32 : ax.tmps.getD 32 undef = .agg #[.int .u64 p, .int .u64 q] := (hdone 0 _ rfl rfl).2 _ rfl
      have hr := hS.rowFi 3 rfl hfi
      exact wpOp_skp (w' := wx.setRow g4 #[.int .u64 p, .int .u64 q]) rfl rfl (exec_storeR 95 _ _ rfl g4 #[.int .u64 p, .int .u64 q] (show ax.eval (.tmp 7) = .pointer (some ⟨g4, 0, none⟩) from t7) (show ax.eval (.tmp 32) = .agg #[.int .u64 p, .int .u64 q] from s32) hr (by kernel_rfl) rfl (by simp [Value.oneCell'])) ⟨undef, rfl, trivial, hS.storeBi 4 3 rfl q_g4 rfl ⟨(show g1 ≠ g4 by omega), (show g2 ≠ g4 by omega), (show g3 ≠ g4 by omega), (show g5 ≠ g4 by omega), trivial⟩ (stored_setRow wx g4 _ _ _ hr)⟩
     ·
      have s34 : ax.tmps.getD 34 undef = .agg #[.int .i64 r, .int .i64 t] := (hdone 0 _ rfl rfl).2 _ rfl
      have hr := hS.rowFi 4 rfl hfi
      exact wpOp_skp (w' := wx.setRow g5 #[.int .i64 r, .int .i64 t]) rfl rfl (exec_storeR 99 _ _ rfl g5 #[.int .i64 r, .int .i64 t] (show ax.eval (.tmp 8) = .pointer (some ⟨g5, 0, none⟩) from t8) (show ax.eval (.tmp 34) = .agg #[.int .i64 r, .int .i64 t] from s34) hr (by kernel_rfl) rfl (by simp [Value.oneCell'])) ⟨undef, rfl, trivial, hS.storeBi 5 4 rfl q_g5 rfl ⟨(show g1 ≠ g5 by omega), (show g2 ≠ g5 by omega), (show g3 ≠ g5 by omega), (show g4 ≠ g5 by omega), trivial⟩ (stored_setRow wx g5 _ _ _ hr)⟩
   intro a6 w6 fl d6 z6 rest6 R6 hfl hS
   obtain ⟨B6, n6, hBs, hAs, hPs⟩ := hS.finish hfl rfl
   replace d6 := d6.trans d5
   replace z6 := z6.trans z5
   obtain ⟨⟨-, b_g1_6⟩, ⟨-, b_g2_6⟩, ⟨-, b_g3_6⟩, ⟨-, b_g4_6⟩, ⟨-, b_g5_6⟩, -⟩ := hBs
   have s6_6 := (rest6 6 (not_of (by kernel_rfl))).trans s6_5
   have s7_6 := (rest6 7 (not_of (by kernel_rfl))).trans s7_5
   have s8_6 := (rest6 8 (not_of (by kernel_rfl))).trans s8_5
   clear R6 rest6 hS hfl hPs hAs
   clear s0_5 s4_5 s5_5 s6_5 s7_5 s8_5 s24_5 s29_5 b_g1_5 b_g2_5 b_g3_5 b_g4_5 b_g5_5 d5 z5
   refine wp_seq ?_
   refine wp_regx (SX W w6.heap.size [⟨g1, 60, (cR a b c d), none, #[]⟩, ⟨g2, 60, (cR p q r t), none, #[]⟩, ⟨g3, 60, (cR 0 0 0 0), none, #[]⟩, ⟨g4, 95, (cU p q), none, #[]⟩, ⟨g5, 99, (cS r t), none, #[]⟩] [⟨7, 9, 60, (cR 0 0 0 0), some 8, (cR ((Rg.nar ⟨⟨p, q⟩, ⟨r, t⟩⟩).u.lo) ((Rg.nar ⟨⟨p, q⟩, ⟨r, t⟩⟩).u.hi) ((Rg.nar ⟨⟨p, q⟩, ⟨r, t⟩⟩).s.lo) ((Rg.nar ⟨⟨p, q⟩, ⟨r, t⟩⟩).s.hi))⟩]) (TabX [fun vx => vx = .agg #[.int .u64 p, .int .u64 q], fun vx => vx = .agg #[.int .i64 r, .int .i64 t], fun vx => vx = .agg #[.int .u64 p, .int .u64 q, .int .i64 r, .int .i64 t], fun vx => vx = .tuple #[.agg #[.int .u64 ((Rg.nar ⟨⟨p, q⟩, ⟨r, t⟩⟩).u.lo), .int .u64 ((Rg.nar ⟨⟨p, q⟩, ⟨r, t⟩⟩).u.hi), .int .i64 ((Rg.nar ⟨⟨p, q⟩, ⟨r, t⟩⟩).s.lo), .int .i64 ((Rg.nar ⟨⟨p, q⟩, ⟨r, t⟩⟩).s.hi)], .bool (Rg.narB ⟨⟨p, q⟩, ⟨r, t⟩⟩)], fun vx => vx = .tuple #[.agg #[.int .u64 ((Rg.nar ⟨⟨p, q⟩, ⟨r, t⟩⟩).u.lo), .int .u64 ((Rg.nar ⟨⟨p, q⟩, ⟨r, t⟩⟩).u.hi), .int .i64 ((Rg.nar ⟨⟨p, q⟩, ⟨r, t⟩⟩).s.lo), .int .i64 ((Rg.nar ⟨⟨p, q⟩, ⟨r, t⟩⟩).s.hi)], .bool (Rg.narB ⟨⟨p, q⟩, ⟨r, t⟩⟩)], fun vx => vx = .agg #[.int .u64 ((Rg.nar ⟨⟨p, q⟩, ⟨r, t⟩⟩).u.lo), .int .u64 ((Rg.nar ⟨⟨p, q⟩, ⟨r, t⟩⟩).u.hi), .int .i64 ((Rg.nar ⟨⟨p, q⟩, ⟨r, t⟩⟩).s.lo), .int .i64 ((Rg.nar ⟨⟨p, q⟩, ⟨r, t⟩⟩).s.hi)], fun vx => vx = .bool (Rg.narB ⟨⟨p, q⟩, ⟨r, t⟩⟩), fun _ => True, fun _ => True, fun vx => vx = .bool (Rg.narB ⟨⟨p, q⟩, ⟨r, t⟩⟩)]) (by kernel_rfl) (back_of (by kernel_rfl)) (dst_of (by kernel_rfl)) (in_ofz (by kernel_rfl) z6) (fun fl w1 hfl hw => SX.start' hw B6 hfl rfl ⟨b_g1_6, b_g2_6, b_g3_6, b_g4_6, b_g5_6, trivial⟩) ?h11 ?_
   case h11 =>
     intro ix ox ax wx fl ho hS hfi clo hsz hrest hdone hund
     have t7 := (hrest 7 (not_of (by kernel_rfl))).trans s7_6
     have t8 := (hrest 8 (not_of (by kernel_rfl))).trans s8_6
     have hs : ax.tmps.size = 71 := hsz.trans z6
     have hi : ix < 10 := (Array.getElem?_eq_some_iff.1 ho).1
     clear hrest hsz hund
     obtain rfl | rfl | rfl | rfl | rfl | rfl | rfl | rfl | rfl | rfl : ix = 0 ∨ ix = 1 ∨ ix = 2 ∨ ix = 3 ∨ ix = 4 ∨ ix = 5 ∨ ix = 6 ∨ ix = 7 ∨ ix = 8 ∨ ix = 9 := by omega
     all_goals obtain rfl := Option.some.inj (show some _ = some ox from ho)
     ·
      have hr := hS.rowNi 3 rfl
      exact wpOp_val (v := .agg #[.int .u64 p, .int .u64 q]) (w' := wx) rfl rfl (exec_loadR 95 _ rfl g4 0 (show ax.eval (.tmp 7) = .pointer (some ⟨g4, 0, none⟩) from t7) hr [.int .u64 p, .int .u64 q] rfl _ Try.underlying95 rfl (by kernel_rfl)) ⟨_, rfl, tab_put rfl hs rfl rfl, hS.same 0 rfl⟩
     ·
      have hr := hS.rowNi 4 rfl
      exact wpOp_val (v := .agg #[.int .i64 r, .int .i64 t]) (w' := wx) rfl rfl (exec_loadR 99 _ rfl g5 0 (show ax.eval (.tmp 8) = .pointer (some ⟨g5, 0, none⟩) from t8) hr [.int .i64 r, .int .i64 t] rfl _ Try.underlying99 rfl (by kernel_rfl)) ⟨_, rfl, tab_put rfl hs rfl rfl, hS.same 1 rfl⟩
     ·
      have s64 : ax.tmps.getD 64 undef = .agg #[.int .u64 p, .int .u64 q] := (hdone 0 _ rfl rfl).2 _ rfl
      have s65 : ax.tmps.getD 65 undef = .agg #[.int .i64 r, .int .i64 t] := (hdone 1 _ rfl rfl).2 _ rfl
      refine wpOp_call (args := #[.agg #[.int .u64 p, .int .u64 q], .agg #[.int .i64 r, .int .i64 t]]) rfl rfl (exec_call rfl rfl rfl (args2 (show ax.eval (.tmp 64) = .agg #[.int .u64 p, .int .u64 q] from s64) (show ax.eval (.tmp 65) = .agg #[.int .i64 r, .int .i64 t] from s65)) Try.func60 (by decide +kernel) rfl) ?_
      · refine (both_n p q r t wx).mono ?_
        rintro e w' ⟨rfl, b9⟩
        exact ⟨_, rfl, _, rfl, tab_put rfl hs rfl rfl, hS.quiet 2 rfl b9⟩
     ·
      have s66 : ax.tmps.getD 66 undef = .agg #[.int .u64 p, .int .u64 q, .int .i64 r, .int .i64 t] := (hdone 0 _ rfl rfl).2 _ rfl
      refine wpOp_call (args := #[.agg #[.int .u64 p, .int .u64 q, .int .i64 r, .int .i64 t]]) rfl rfl (exec_call rfl rfl rfl (args1 (show ax.eval (.tmp 66) = .agg #[.int .u64 p, .int .u64 q, .int .i64 r, .int .i64 t] from s66)) Try.func28 (by decide +kernel) rfl) ?_
      · refine (narrow_n p q r t wx HB.out).mono ?_
        rintro e w' ⟨rfl, b9⟩
        exact ⟨_, rfl, _, rfl, tab_put rfl hs rfl rfl, hS.quiet 3 rfl b9⟩
     ·
      have s67 : ax.tmps.getD 67 undef = .tuple #[.agg #[.int .u64 ((Rg.nar ⟨⟨p, q⟩, ⟨r, t⟩⟩).u.lo), .int .u64 ((Rg.nar ⟨⟨p, q⟩, ⟨r, t⟩⟩).u.hi), .int .i64 ((Rg.nar ⟨⟨p, q⟩, ⟨r, t⟩⟩).s.lo), .int .i64 ((Rg.nar ⟨⟨p, q⟩, ⟨r, t⟩⟩).s.hi)], .bool (Rg.narB ⟨⟨p, q⟩, ⟨r, t⟩⟩)] := (hdone 0 _ rfl rfl).2 _ rfl
      exact wpOp_val (v := .tuple #[.agg #[.int .u64 ((Rg.nar ⟨⟨p, q⟩, ⟨r, t⟩⟩).u.lo), .int .u64 ((Rg.nar ⟨⟨p, q⟩, ⟨r, t⟩⟩).u.hi), .int .i64 ((Rg.nar ⟨⟨p, q⟩, ⟨r, t⟩⟩).s.lo), .int .i64 ((Rg.nar ⟨⟨p, q⟩, ⟨r, t⟩⟩).s.hi)], .bool (Rg.narB ⟨⟨p, q⟩, ⟨r, t⟩⟩)]) (w' := wx) rfl rfl (by (revert s67; generalize (.tuple #[.agg #[.int .u64 ((Rg.nar ⟨⟨p, q⟩, ⟨r, t⟩⟩).u.lo), .int .u64 ((Rg.nar ⟨⟨p, q⟩, ⟨r, t⟩⟩).u.hi), .int .i64 ((Rg.nar ⟨⟨p, q⟩, ⟨r, t⟩⟩).s.lo), .int .i64 ((Rg.nar ⟨⟨p, q⟩, ⟨r, t⟩⟩).s.hi)], .bool (Rg.narB ⟨⟨p, q⟩, ⟨r, t⟩⟩)] : Value) = y0; intro s67); simp [execOp, Act.eval, s67]) ⟨_, rfl, tab_put rfl hs rfl rfl, hS.same 4 rfl⟩
     ·
      have s63 : ax.tmps.getD 63 undef = .tuple #[.agg #[.int .u64 ((Rg.nar ⟨⟨p, q⟩, ⟨r, t⟩⟩).u.lo), .int .u64 ((Rg.nar ⟨⟨p, q⟩, ⟨r, t⟩⟩).u.hi), .int .i64 ((Rg.nar ⟨⟨p, q⟩, ⟨r, t⟩⟩).s.lo), .int .i64 ((Rg.nar ⟨⟨p, q⟩, ⟨r, t⟩⟩).s.hi)], .bool (Rg.narB ⟨⟨p, q⟩, ⟨r, t⟩⟩)] := (hdone 0 _ rfl rfl).2 _ rfl
      exact wpOp_val (v := .agg #[.int .u64 ((Rg.nar ⟨⟨p, q⟩, ⟨r, t⟩⟩).u.lo), .int .u64 ((Rg.nar ⟨⟨p, q⟩, ⟨r, t⟩⟩).u.hi), .int .i64 ((Rg.nar ⟨⟨p, q⟩, ⟨r, t⟩⟩).s.lo), .int .i64 ((Rg.nar ⟨⟨p, q⟩, ⟨r, t⟩⟩).s.hi)]) (w' := wx) rfl rfl (by simp [execOp, Act.eval, s63, go_sem]) ⟨_, rfl, tab_put rfl hs rfl rfl, hS.same 5 rfl⟩
     ·
      have s63 : ax.tmps.getD 63 undef = .tuple #[.agg #[.int .u64 ((Rg.nar ⟨⟨p, q⟩, ⟨r, t⟩⟩).u.lo), .int .u64 ((Rg.nar ⟨⟨p, q⟩, ⟨r, t⟩⟩).u.hi), .int .i64 ((Rg.nar ⟨⟨p, q⟩, ⟨r, t⟩⟩).s.lo), .int .i64 ((Rg.nar ⟨⟨p, q⟩, ⟨r, t⟩⟩).s.hi)], .bool (Rg.narB ⟨⟨p, q⟩, ⟨r, t⟩⟩)] := (hdone 0 _ rfl rfl).2 _ rfl
      exact wpOp_val (v := .bool (Rg.narB ⟨⟨p, q⟩, ⟨r, t⟩⟩)) (w' := wx) rfl rfl (by simp [execOp, Act.eval, s63, go_sem]) ⟨_, rfl, tab_put rfl hs rfl rfl, hS.same 6 rfl⟩
     ·
      refine wpOp_val (v := .pointer (some ⟨wx.heap.size, 0, none⟩)) (w' := wx.alloc (.cells #[.int .u64 0, .int .u64 0, .int .i64 0, .int .i64 0] 60)) rfl rfl ?_ ⟨_, rfl, trivial, hS.alloc 7 9 60 #[.int .u64 0, .int .u64 0, .int .i64 0, .int .i64 0] [] [] (some 8) #[.int .u64 ((Rg.nar ⟨⟨p, q⟩, ⟨r, t⟩⟩).u.lo), .int .u64 ((Rg.nar ⟨⟨p, q⟩, ⟨r, t⟩⟩).u.hi), .int .i64 ((Rg.nar ⟨⟨p, q⟩, ⟨r, t⟩⟩).s.lo), .int .i64 ((Rg.nar ⟨⟨p, q⟩, ⟨r, t⟩⟩).s.hi)] rfl rfl rfl (by rw [hs]; omega) (not_yet clo hfi (by kernel_rfl))⟩
      · simp [execOp, Act.eval, go_sem]
     ·
      have hd9 := (hdone 0 _ rfl rfl).1
      obtain ⟨g6, s9, n9, r9⟩ := SX.rowA hS [] [] 7 9 60 _ _ 8 rfl hd9 hfi
      have s9 : ax.tmps.getD 9 undef = .pointer (some ⟨g6, 0, none⟩) := s9
      have s68 : ax.tmps.getD 68 undef = .agg #[.int .u64 ((Rg.nar ⟨⟨p, q⟩, ⟨r, t⟩⟩).u.lo), .int .u64 ((Rg.nar ⟨⟨p, q⟩, ⟨r, t⟩⟩).u.hi), .int .i64 ((Rg.nar ⟨⟨p, q⟩, ⟨r, t⟩⟩).s.lo), .int .i64 ((Rg.nar ⟨⟨p, q⟩, ⟨r, t⟩⟩).s.hi)] := (hdone 1 _ rfl rfl).2 _ rfl
      have hr : wx.heap[g6]? = some (.cells #[.int .u64 0, .int .u64 0, .int .i64 0, .int .i64 0] 60 (0, 0)) := r9
      exact wpOp_skp (w' := wx.setRow g6 #[.int .u64 ((Rg.nar ⟨⟨p, q⟩, ⟨r, t⟩⟩).u.lo), .int .u64 ((Rg.nar ⟨⟨p, q⟩, ⟨r, t⟩⟩).u.hi), .int .i64 ((Rg.nar ⟨⟨p, q⟩, ⟨r, t⟩⟩).s.lo), .int .i64 ((Rg.nar ⟨⟨p, q⟩, ⟨r, t⟩⟩).s.hi)]) rfl rfl (exec_storeR 60 _ _ rfl g6 #[.int .u64 ((Rg.nar ⟨⟨p, q⟩, ⟨r, t⟩⟩).u.lo), .int .u64 ((Rg.nar ⟨⟨p, q⟩, ⟨r, t⟩⟩).u.hi), .int .i64 ((Rg.nar ⟨⟨p, q⟩, ⟨r, t⟩⟩).s.lo), .int .i64 ((Rg.nar ⟨⟨p, q⟩, ⟨r, t⟩⟩).s.hi)] (show ax.eval (.tmp 9) = .pointer (some ⟨g6, 0, none⟩) from s9) (show ax.eval (.tmp 68) = .agg #[.int .u64 ((Rg.nar ⟨⟨p, q⟩, ⟨r, t⟩⟩).u.lo), .int .u64 ((Rg.nar ⟨⟨p, q⟩, ⟨r, t⟩⟩).u.hi), .int .i64 ((Rg.nar ⟨⟨p, q⟩, ⟨r, t⟩⟩).s.lo), .int .i64 ((Rg.nar ⟨⟨p, q⟩, ⟨r, t⟩⟩).s.hi)] from s68) hr (by kernel_rfl) rfl (by simp [Value.oneCell'])) ⟨undef, rfl, trivial, hS.storeA 8 7 9 60 #[.int .u64 0, .int .u64 0, .int .i64 0, .int .i64 0] #[.int .u64 ((Rg.nar ⟨⟨p, q⟩, ⟨r, t⟩⟩).u.lo), .int .u64 ((Rg.nar ⟨⟨p, q⟩, ⟨r, t⟩⟩).u.hi), .int .i64 ((Rg.nar ⟨⟨p, q⟩, ⟨r, t⟩⟩).s.lo), .int .i64 ((Rg.nar ⟨⟨p, q⟩, ⟨r, t⟩⟩).s.hi)] [] [] rfl B6.size hd9 g6 s9 (by decide) rfl (stored_setRow wx g6 _ _ _ hr)⟩
     ·
      have s69 : ax.tmps.getD 69 undef = .bool (Rg.narB ⟨⟨p, q⟩, ⟨r, t⟩⟩) := (hdone 0 _ rfl rfl).2 _ rfl
      exact wpOp_val (v := .bool (Rg.narB ⟨⟨p, q⟩, ⟨r, t⟩⟩)) (w' := wx) rfl rfl (by simp [execOp, Act.eval, s69]) ⟨_, rfl, tab_put rfl hs rfl rfl, hS.same 9 rfl⟩
   intro a7 w7 fl d7 z7 rest7 R7 hfl hS
   obtain ⟨B7, n7, hBs, hAs, hPs⟩ := hS.finish hfl rfl
   replace d7 := d7.trans d6
   replace z7 := z7.trans z6
   obtain ⟨⟨-, b_g1_7⟩, ⟨-, b_g2_7⟩, ⟨-, b_g3_7⟩, ⟨-, b_g4_7⟩, ⟨-, b_g5_7⟩, -⟩ := hBs
   obtain ⟨⟨g6, u_g6, q_g6, b_g6_7⟩, -⟩ := hAs
   replace u_g6 : a7.tmps.getD 9 undef = .pointer (some ⟨g6, 0, none⟩) := u_g6
   have m_g6 : w6.heap.size ≤ g6 := q_g6
   replace q_g6 : W.heap.size ≤ g6 := Nat.le_trans B6.size q_g6
   have s6_7 := (rest7 6 (not_of (by kernel_rfl))).trans s6_6
   clear R7 rest7 hS hfl hPs
   clear s6_6 s7_6 s8_6 b_g1_6 b_g2_6 b_g3_6 b_g4_6 b_g5_6 d6 z6
   refine wp_seq ?_
   refine wp_regx (SX W w7.heap.size [⟨g1, 60, (cR a b c d), none, #[]⟩, ⟨g2, 60, (cR p q r t), none, #[]⟩, ⟨g3, 60, (cR 0 0 0 0), some 1, (cR ((Rg.nar ⟨⟨p, q⟩, ⟨r, t⟩⟩).u.lo) ((Rg.nar ⟨⟨p, q⟩, ⟨r, t⟩⟩).u.hi) ((Rg.nar ⟨⟨p, q⟩, ⟨r, t⟩⟩).s.lo) ((Rg.nar ⟨⟨p, q⟩, ⟨r, t⟩⟩).s.hi))⟩, ⟨g4, 95, (cU p q), none, #[]⟩, ⟨g5, 99, (cS r t), none, #[]⟩, ⟨g6, 60, (cR ((Rg.nar ⟨⟨p, q⟩, ⟨r, t⟩⟩).u.lo) ((Rg.nar ⟨⟨p, q⟩, ⟨r, t⟩⟩).u.hi) ((Rg.nar ⟨⟨p, q⟩, ⟨r, t⟩⟩).s.lo) ((Rg.nar ⟨⟨p, q⟩, ⟨r, t⟩⟩).s.hi)), none, #[]⟩] []) (TabX [fun vx => vx = .agg #[.int .u64 ((Rg.nar ⟨⟨p, q⟩, ⟨r, t⟩⟩).u.lo), .int .u64 ((Rg.nar ⟨⟨p, q⟩, ⟨r, t⟩⟩).u.hi), .int .i64 ((Rg.nar ⟨⟨p, q⟩, ⟨r, t⟩⟩).s.lo), .int .i64 ((Rg.nar ⟨⟨p, q⟩, ⟨r, t⟩⟩).s.hi)], fun _ => True]) (by kernel_rfl) (back_of (by kernel_rfl)) (dst_of (by kernel_rfl)) (in_ofz (by kernel_rfl) z7) (fun fl w1 hfl hw => SX.start' hw B7 hfl rfl ⟨b_g1_7, b_g2_7, b_g3_7, b_g4_7, b_g5_7, b_g6_7, trivial⟩) ?h12 ?_
   case h12 =>
     intro ix ox ax wx fl ho hS hfi clo hsz hrest hdone hund
     have t6 := (hrest 6 (not_of (by kernel_rfl))).trans s6_7
     have t9 := (hrest 9 (not_of (by kernel_rfl))).trans u_g6
     have hs : ax.tmps.size = 71 := hsz.trans z7
     have hi : ix < 2 := (Array.getElem?_eq_some_iff.1 ho).1
     clear hrest hsz hund
     obtain rfl | rfl : ix = 0 ∨ ix = 1 := by omega
     all_goals obtain rfl := Option.some.inj (show some _ = some ox from ho)
     ·
      have hr := hS.rowNi 5 rfl
      exact wpOp_val (v := .agg #[.int .u64 ((Rg.nar ⟨⟨p, q⟩, ⟨r, t⟩⟩).u.lo), .int .u64 ((Rg.nar ⟨⟨p, q⟩, ⟨r, t⟩⟩).u.hi), .int .i64 ((Rg.nar ⟨⟨p, q⟩, ⟨r, t⟩⟩).s.lo), .int .i64 ((Rg.nar ⟨⟨p, q⟩, ⟨r, t⟩⟩).s.hi)]) (w' := wx) rfl rfl (exec_loadR 60 _ rfl g6 0 (show ax.eval (.tmp 9) = .pointer (some ⟨g6, 0, none⟩) from t9) hr [.int .u64 ((Rg.nar ⟨⟨p, q⟩, ⟨r, t⟩⟩).u.lo), .int .u64 ((Rg.nar ⟨⟨p, q⟩, ⟨r, t⟩⟩).u.hi), .int .i64 ((Rg.nar ⟨⟨p, q⟩, ⟨r, t⟩⟩).s.lo), .int .i64 ((Rg.nar ⟨⟨p, q⟩, ⟨r, t⟩⟩).s.hi)] rfl _ Try.underlying60 rfl (by kernel_rfl)) ⟨_, rfl, tab_put rfl hs rfl rfl, hS.same 0 rfl⟩
     ·
      have s70 : ax.tmps.getD 70 undef = .agg #[.int .u64 ((Rg.nar ⟨⟨p, q⟩, ⟨r, t⟩⟩).u.lo), .int .u64 ((Rg.nar ⟨⟨p, q⟩, ⟨r, t⟩⟩).u.hi), .int .i64 ((Rg.nar ⟨⟨p, q⟩, ⟨r, t⟩⟩).s.lo), .int .i64 ((Rg.nar ⟨⟨p, q⟩, ⟨r, t⟩⟩).s.hi)] := (hdone 0 _ rfl rfl).2 _ rfl
      have hr := hS.rowFi 2 rfl hfi
      exact wpOp_skp (w' := wx.setRow g3 #[.int .u64 ((Rg.nar ⟨⟨p, q⟩, ⟨r, t⟩⟩).u.lo), .int .u64 ((Rg.nar ⟨⟨p, q⟩, ⟨r, t⟩⟩).u.hi), .int .i64 ((Rg.nar ⟨⟨p, q⟩, ⟨r, t⟩⟩).s.lo), .int .i64 ((Rg.nar ⟨⟨p, q⟩, ⟨r, t⟩⟩).s.hi)]) rfl rfl (exec_storeR 60 _ _ rfl g3 #[.int .u64 ((Rg.nar ⟨⟨p, q⟩, ⟨r, t⟩⟩).u.lo), .int .u64 ((Rg.nar ⟨⟨p, q⟩, ⟨r, t⟩⟩).u.hi), .int .i64 ((Rg.nar ⟨⟨p, q⟩, ⟨r, t⟩⟩).s.lo), .int .i64 ((Rg.nar ⟨⟨p, q⟩, ⟨r, t⟩⟩).s.hi)] (show ax.eval (.tmp 6) = .pointer (some ⟨g3, 0, none⟩) from t6) (show ax.eval (.tmp 70) = .agg #[.int .u64 ((Rg.nar ⟨⟨p, q⟩, ⟨r, t⟩⟩).u.lo), .int .u64 ((Rg.nar ⟨⟨p, q⟩, ⟨r, t⟩⟩).u.hi), .int .i64 ((Rg.nar ⟨⟨p, q⟩, ⟨r, t⟩⟩).s.lo), .int .i64 ((Rg.nar ⟨⟨p, q⟩, ⟨r, t⟩⟩).s.hi)] from s70) hr (by kernel_rfl) rfl (by simp [Value.oneCell'])) ⟨undef, rfl, trivial, hS.storeBi 1 2 rfl q_g3 rfl ⟨(show g1 ≠ g3 by omega), (show g2 ≠ g3 by omega), (show g4 ≠ g3 by omega), (show g5 ≠ g3 by omega), (show g6 ≠ g3 by omega), trivial⟩ (stored_setRow wx g3 _ _ _ hr)⟩
   intro a8 w8 fl d8 z8 rest8 R8 hfl hS
   obtain ⟨B8, n8, hBs, hAs, hPs⟩ := hS.finish hfl rfl
   replace d8 := d8.trans d7
   replace z8 := z8.trans z7
   obtain ⟨⟨-, b_g1_8⟩, ⟨-, b_g2_8⟩, ⟨-, b_g3_8⟩, ⟨-, b_g4_8⟩, ⟨-, b_g5_8⟩, ⟨l_g6_8, b_g6_8⟩, -⟩ := hBs
   replace l_g6_8 : g6 < w7.heap.size := l_g6_8
   have s6_8 := (rest8 6 (not_of (by kernel_rfl))).trans s6_7
   clear R8 rest8 hS hfl hPs hAs
   clear u_g6 s6_7 b_g1_7 b_g2_7 b_g3_7 b_g4_7 b_g5_7 b_g6_7 d7 z7
   refine wp_ret ?_
   try simp only [Exit.inBlock, Exit.then]
   refine bodyPost_ret (res_c (fn := Try.f42) rfl s6_8 (load_row 60 b_g3_8 Try.underlying60 rfl (by kernel_rfl))) d8 ?_
   have ho : op = 11 := yb Ffk3.out
   have HD : (⟨doU op ⟨⟨a, b⟩, ⟨c, d⟩⟩ ⟨⟨p, q⟩, ⟨r, t⟩⟩, doS op ⟨⟨a, b⟩, ⟨c, d⟩⟩ ⟨⟨p, q⟩, ⟨r, t⟩⟩⟩ : Rg) = ⟨⟨p, q⟩, ⟨r, t⟩⟩ := by
     unfold doU doS
     simp only [if_pos ho]
     try rfl
   have HE : (.agg #[.int .u64 ((Rg.nar ⟨⟨p, q⟩, ⟨r, t⟩⟩).u.lo), .int .u64 ((Rg.nar ⟨⟨p, q⟩, ⟨r, t⟩⟩).u.hi), .int .i64 ((Rg.nar ⟨⟨p, q⟩, ⟨r, t⟩⟩).s.lo), .int .i64 ((Rg.nar ⟨⟨p, q⟩, ⟨r, t⟩⟩).s.hi)] : Value) = Rg.val (Rg.doR op ⟨⟨a, b⟩, ⟨c, d⟩⟩ ⟨⟨p, q⟩, ⟨r, t⟩⟩) := by unfold Rg.doR; rw [Ffk1.out, Ffk2.out, if_pos (by rfl), HD]; try rfl
   exact ⟨retV HE, B8⟩
  have Ffk3 := Lib.hid fk3; clear fk3
  refine wp_regx (SX W w4.heap.size [⟨g1, 60, (cR a b c d), none, #[]⟩, ⟨g2, 60, (cR p q r t), none, #[]⟩, ⟨g3, 60, (cR 0 0 0 0), none, #[]⟩, ⟨g4, 95, (cU allR.u.lo allR.u.hi), none, #[]⟩, ⟨g5, 99, (cS allR.s.lo allR.s.hi), none, #[]⟩] []) (TabX [fun vx => vx = .bool false, fun vx => vx = .bool false]) (by kernel_rfl) (back_of (by kernel_rfl)) (dst_of (by kernel_rfl)) (in_ofz (by kernel_rfl) z4) (fun fl w1 hfl hw => SX.start' hw B4 hfl rfl ⟨b_g1_4, b_g2_4, b_g3_4, b_g4_4, b_g5_4, trivial⟩) ?h13 ?_
  case h13 =>
    intro ix ox ax wx fl ho hS hfi clo hsz hrest hdone hund
    have t24 := (hrest 24 (not_of (by kernel_rfl))).trans s24_4
    have hs : ax.tmps.size = 71 := hsz.trans z4
    have hi : ix < 2 := (Array.getElem?_eq_some_iff.1 ho).1
    clear hrest hsz hund
    obtain rfl | rfl : ix = 0 ∨ ix = 1 := by omega
    all_goals obtain rfl := Option.some.inj (show some _ = some ox from ho)
    ·
     exact wpOp_val (v := .bool (op == 11)) (w' := wx) rfl rfl (by (simp [execOp, Act.eval, t24, go_sem]; try (simp only [IntKind.wrap_i64, wrap64]))) ⟨_, rfl, tab_put rfl hs rfl (congrArg Value.bool Ffk3.out), hS.same 0 rfl⟩
    ·
     have s30 : ax.tmps.getD 30 undef = .bool false := (hdone 0 _ rfl rfl).2 _ rfl
     exact wpOp_val (v := .bool false) (w' := wx) rfl rfl (by simp [execOp, Act.eval, s30]) ⟨_, rfl, tab_put rfl hs rfl rfl, hS.same 1 rfl⟩
  intro a5 w5 fl d5 z5 rest5 R5 hfl hS
  obtain ⟨B5, n5, hBs, hAs, hPs⟩ := hS.finish hfl rfl
  replace d5 := d5.trans d4
  replace z5 := z5.trans z4
  obtain ⟨⟨-, b_g1_5⟩, ⟨-, b_g2_5⟩, ⟨-, b_g3_5⟩, ⟨-, b_g4_5⟩, ⟨-, b_g5_5⟩, -⟩ := hBs
  have s0_5 := (rest5 0 (not_of (by kernel_rfl))).trans s0_4
  have s4_5 := (rest5 4 (not_of (by kernel_rfl))).trans s4_4
  have s5_5 := (rest5 5 (not_of (by kernel_rfl))).trans s5_4
  have s6_5 := (rest5 6 (not_of (by kernel_rfl))).trans s6_4
  have s7_5 := (rest5 7 (not_of (by kernel_rfl))).trans s7_4
  have s8_5 := (rest5 8 (not_of (by kernel_rfl))).trans s8_4
  have s24_5 := (rest5 24 (not_of (by kernel_rfl))).trans s24_4
  have s29_5 : a5.tmps.getD 29 undef = .bool false := R5 1 _ rfl
  clear R5 rest5 hS hfl hPs hAs
  clear s0_4 s4_4 s5_4 s6_4 s7_4 s8_4 s24_4 b_g1_4 b_g2_4 b_g3_4 b_g4_4 b_g5_4 d4 z4
  refine wp_cond_false (show a5.tmps.getD 29 undef = .bool false from s29_5) ?_
  refine wp_seq ?_
  cases fk4 : op == 0
  case true =>
   have Ffk4 := Lib.hid fk4; clear fk4
   refine wp_regx (SX W w5.heap.size [⟨g1, 60, (cR a b c d), none, #[]⟩, ⟨g2, 60, (cR p q r t), none, #[]⟩, ⟨g3, 60, (cR 0 0 0 0), none, #[]⟩, ⟨g4, 95, (cU allR.u.lo allR.u.hi), none, #[]⟩, ⟨g5, 99, (cS allR.s.lo allR.s.hi), none, #[]⟩] []) (TabX [fun vx => vx = .bool true, fun vx => vx = .bool true]) (by kernel_rfl) (back_of (by kernel_rfl)) (dst_of (by kernel_rfl)) (in_ofz (by kernel_rfl) z5) (fun fl w1 hfl hw => SX.start' hw B5 hfl rfl ⟨b_g1_5, b_g2_5, b_g3_5, b_g4_5, b_g5_5, trivial⟩) ?h14 ?_
   case h14 =>
     intro ix ox ax wx fl ho hS hfi clo hsz hrest hdone hund
     have t24 := (hrest 24 (not_of (by kernel_rfl))).trans s24_5
     have hs : ax.tmps.size = 71 := hsz.trans z5
     have hi : ix < 2 := (Array.getElem?_eq_some_iff.1 ho).1
     clear hrest hsz hund
     obtain rfl | rfl : ix = 0 ∨ ix = 1 := by omega
     all_goals obtain rfl := Option.some.inj (show some _ = some ox from ho)
     ·
      exact wpOp_val (v := .bool (op == 0)) (w' := wx) rfl rfl (by (simp [execOp, Act.eval, t24, go_sem]; try (simp only [IntKind.wrap_i64, wrap64]))) ⟨_, rfl, tab_put rfl hs rfl (congrArg Value.bool Ffk4.out), hS.same 0 rfl⟩
     ·
      have s36 : ax.tmps.getD 36 undef = .bool true := (hdone 0 _ rfl rfl).2 _ rfl
      exact wpOp_val (v := .bool true) (w' := wx) rfl rfl (by simp [execOp, Act.eval, s36]) ⟨_, rfl, tab_put rfl hs rfl rfl, hS.same 1 rfl⟩
   intro a6 w6 fl d6 z6 rest6 R6 hfl hS
   obtain ⟨B6, n6, hBs, hAs, hPs⟩ := hS.finish hfl rfl
   replace d6 := d6.trans d5
   replace z6 := z6.trans z5
   obtain ⟨⟨-, b_g1_6⟩, ⟨-, b_g2_6⟩, ⟨-, b_g3_6⟩, ⟨-, b_g4_6⟩, ⟨-, b_g5_6⟩, -⟩ := hBs
   have s0_6 := (rest6 0 (not_of (by kernel_rfl))).trans s0_5
   have s4_6 := (rest6 4 (not_of (by kernel_rfl))).trans s4_5
   have s5_6 := (rest6 5 (not_of (by kernel_rfl))).trans s5_5
   have s6_6 := (rest6 6 (not_of (by kernel_rfl))).trans s6_5
   have s7_6 := (rest6 7 (not_of (by kernel_rfl))).trans s7_5
   have s8_6 := (rest6 8 (not_of (by kernel_rfl))).trans s8_5
   have s24_6 := (rest6 24 (not_of (by kernel_rfl))).trans s24_5
   have s35_6 : a6.tmps.getD 35 undef = .bool true := R6 1 _ rfl
   clear R6 rest6 hS hfl hPs hAs
   clear s0_5 s4_5 s5_5 s6_5 s7_5 s8_5 s24_5 s29_5 b_g1_5 b_g2_5 b_g3_5 b_g4_5 b_g5_5 d5 z5
   refine wp_cond_true (show a6.tmps.getD 35 undef = .bool true from s35_6) ?_
   refine wp_regx (SX W w6.heap.size [⟨g1, 60, (cR a b c d), none, #[]⟩, ⟨g2, 60, (cR p q r t), none, #[]⟩, ⟨g3, 60, (cR 0 0 0 0), none, #[]⟩, ⟨g4, 95, (cU allR.u.lo allR.u.hi), some 12, (cU ((plusU ⟨a, b⟩ ⟨p, q⟩).lo) ((plusU ⟨a, b⟩ ⟨p, q⟩).hi))⟩, ⟨g5, 99, (cS allR.s.lo allR.s.hi), some 13, (cS ((plusS ⟨c, d⟩ ⟨r, t⟩).lo) ((plusS ⟨c, d⟩ ⟨r, t⟩).hi))⟩] []) (TabX [fun vx => vx = .agg #[.int .u64 a, .int .u64 b, .int .i64 c, .int .i64 d], fun vx => vx = .agg #[.int .u64 a, .int .u64 b], fun vx => vx = .agg #[.int .u64 p, .int .u64 q, .int .i64 r, .int .i64 t], fun vx => vx = .agg #[.int .u64 p, .int .u64 q], fun vx => vx = .agg #[.int .u64 allR.u.lo, .int .u64 allR.u.hi], fun vx => vx = .agg #[.int .u64 ((plusU ⟨a, b⟩ ⟨p, q⟩).lo), .int .u64 ((plusU ⟨a, b⟩ ⟨p, q⟩).hi)], fun vx => vx = .agg #[.int .u64 a, .int .u64 b, .int .i64 c, .int .i64 d], fun vx => vx = .agg #[.int .i64 c, .int .i64 d], fun vx => vx = .agg #[.int .u64 p, .int .u64 q, .int .i64 r, .int .i64 t], fun vx => vx = .agg #[.int .i64 r, .int .i64 t], fun vx => vx = .agg #[.int .i64 allR.s.lo, .int .i64 allR.s.hi], fun vx => vx = .agg #[.int .i64 ((plusS ⟨c, d⟩ ⟨r, t⟩).lo), .int .i64 ((plusS ⟨c, d⟩ ⟨r, t⟩).hi)], fun _ => True, fun _ => True]) (by kernel_rfl) (back_of (by kernel_rfl)) (dst_of (by kernel_rfl)) (in_ofz (by kernel_rfl) z6) (fun fl w1 hfl hw => SX.start' hw B6 hfl rfl ⟨b_g1_6, b_g2_6, b_g3_6, b_g4_6, b_g5_6, trivial⟩) ?h15 ?_
   case h15 =>
     intro ix ox ax wx fl ho hS hfi clo hsz hrest hdone hund
     have t4 := (hrest 4 (not_of (by kernel_rfl))).trans s4_6
     have t5 := (hrest 5 (not_of (by kernel_rfl))).trans s5_6
     have t7 := (hrest 7 (not_of (by kernel_rfl))).trans s7_6
     have t8 := (hrest 8 (not_of (by kernel_rfl))).trans s8_6
     have hs : ax.tmps.size = 71 := hsz.trans z6
     have hi : ix < 14 := (Array.getElem?_eq_some_iff.1 ho).1
     clear hrest hsz hund
     obtain rfl | rfl | rfl | rfl | rfl | rfl | rfl | rfl | rfl | rfl | rfl | rfl | rfl | rfl : ix = 0 ∨ ix = 1 ∨ ix = 2 ∨ ix = 3 ∨ ix = 4 ∨ ix = 5 ∨ ix = 6 ∨ ix = 7 ∨ ix = 8 ∨ ix = 9 ∨ ix = 10 ∨ ix = 11 ∨ ix = 12 ∨ ix = 13 := by omega
     all_goals obtain rfl := Option.some.inj (show some _ = some ox from ho)
     ·
      have hr := hS.rowNi 0 rfl
      exact wpOp_val (v := .agg #[.int .u64 a, .int .u64 b, .int .i64 c, .int .i64 d]) (w' := wx) rfl rfl (exec_loadR 60 _ rfl g1 0 (show ax.eval (.tmp 4) = .pointer (some ⟨g1, 0, none⟩) from t4) hr [.int .u64 a, .int .u64 b, .int .i64 c, .int .i64 d] rfl _ Try.underlying60 rfl (by kernel_rfl)) ⟨_, rfl, tab_put rfl hs rfl rfl, hS.same 0 rfl⟩
     ·
      have s37 : ax.tmps.getD 37 undef = .agg #[.int .u64 a, .int .u64 b, .int .i64 c, .int .i64 d] := (hdone 0 _ rfl rfl).2 _ rfl
      refine wpOp_call (args := #[.agg #[.int .u64 a, .int .u64 b, .int .i64 c, .int .i64 d]]) rfl rfl (exec_call rfl rfl rfl (args1 (show ax.eval (.tmp 37) = .agg #[.int .u64 a, .int .u64 b, .int .i64 c, .int .i64 d] from s37)) Try.func61 (by decide +kernel) rfl) ?_
      · refine (unsigned_n a b c d wx).mono ?_
        rintro e w' ⟨rfl, b9⟩
        exact ⟨_, rfl, _, rfl, tab_put rfl hs rfl rfl, hS.quiet 1 rfl b9⟩
     ·
      have hr := hS.rowNi 1 rfl
      exact wpOp_val (v := .agg #[.int .u64 p, .int .u64 q, .int .i64 r, .int .i64 t]) (w' := wx) rfl rfl (exec_loadR 60 _ rfl g2 0 (show ax.eval (.tmp 5) = .pointer (some ⟨g2, 0, none⟩) from t5) hr [.int .u64 p, .int .u64 q, .int .i64 r, .int .i64 t] rfl _ Try.underlying60 rfl (by kernel_rfl)) ⟨_, rfl, tab_put rfl hs rfl rfl, hS.same 2 rfl⟩
     ·
      have s39 : ax.tmps.getD 39 undef = .agg #[.int .u64 p, .int .u64 q, .int .i64 r, .int .i64 t] := (hdone 0 _ rfl rfl).2 _ rfl
      refine wpOp_call (args := #[.agg #[.int .u64 p, .int .u64 q, .int .i64 r, .int .i64 t]]) rfl rfl (exec_call rfl rfl rfl (args1 (show ax.eval (.tmp 39) = .agg #[.int .u64 p, .int .u64 q, .int .i64 r, .int .i64 t] from s39)) Try.func61 (by decide +kernel) rfl) ?_
      · refine (unsigned_n p q r t wx).mono ?_
        rintro e w' ⟨rfl, b9⟩
        exact ⟨_, rfl, _, rfl, tab_put rfl hs rfl rfl, hS.quiet 3 rfl b9⟩
     ·
      have hr := hS.rowFi 3 rfl (not_yet clo hfi (by kernel_rfl))
      exact wpOp_val (v := .agg #[.int .u64 allR.u.lo, .int .u64 allR.u.hi]) (w' := wx) rfl rfl (exec_loadR 95 _ rfl g4 0 (show ax.eval (.tmp 7) = .pointer (some ⟨g4, 0, none⟩) from t7) hr [.int .u64 allR.u.lo, .int .u64 allR.u.hi] rfl _ Try.underlying95 rfl (by kernel_rfl)) ⟨_, rfl, tab_put rfl hs rfl rfl, hS.same 4 rfl⟩
     ·
      have s38 : ax.tmps.getD 38 undef = .agg #[.int .u64 a, .int .u64 b] := (hdone 0 _ rfl rfl).2 _ rfl
      have s40 : ax.tmps.getD 40 undef = .agg #[.int .u64 p, .int .u64 q] := (hdone 1 _ rfl rfl).2 _ rfl
      have s41 : ax.tmps.getD 41 undef = .agg #[.int .u64 allR.u.lo, .int .u64 allR.u.hi] := (hdone 2 _ rfl rfl).2 _ rfl
      refine wpOp_call (args := #[.agg #[.int .u64 a, .int .u64 b], .agg #[.int .u64 p, .int .u64 q], .agg #[.int .u64 allR.u.lo, .int .u64 allR.u.hi]]) rfl rfl (exec_call rfl rfl rfl (args3 (show ax.eval (.tmp 38) = .agg #[.int .u64 a, .int .u64 b] from s38) (show ax.eval (.tmp 40) = .agg #[.int .u64 p, .int .u64 q] from s40) (show ax.eval (.tmp 41) = .agg #[.int .u64 allR.u.lo, .int .u64 allR.u.hi] from s41)) Try.func88 (by decide +kernel) rfl) ?_
      · refine (plusU_n a b p q wx HA.out.1 HB.out.1).mono ?_
        rintro e w' ⟨rfl, b9⟩
        exact ⟨_, rfl, _, rfl, tab_put rfl hs rfl rfl, hS.quiet 5 rfl b9⟩
     ·
      have hr := hS.rowNi 0 rfl
      exact wpOp_val (v := .agg #[.int .u64 a, .int .u64 b, .int .i64 c, .int .i64 d]) (w' := wx) rfl rfl (exec_loadR 60 _ rfl g1 0 (show ax.eval (.tmp 4) = .pointer (some ⟨g1, 0, none⟩) from t4) hr [.int .u64 a, .int .u64 b, .int .i64 c, .int .i64 d] rfl _ Try.underlying60 rfl (by kernel_rfl)) ⟨_, rfl, tab_put rfl hs rfl rfl, hS.same 6 rfl⟩
     ·
      have s43 : ax.tmps.getD 43 undef = .agg #[.int .u64 a, .int .u64 b, .int .i64 c, .int .i64 d] := (hdone 0 _ rfl rfl).2 _ rfl
      refine wpOp_call (args := #[.agg #[.int .u64 a, .int .u64 b, .int .i64 c, .int .i64 d]]) rfl rfl (exec_call rfl rfl rfl (args1 (show ax.eval (.tmp 43) = .agg #[.int .u64 a, .int .u64 b, .int .i64 c, .int .i64 d] from s43)) Try.func63 (by decide +kernel) rfl) ?_
      · refine (signed_n a b c d wx).mono ?_
        rintro e w' ⟨rfl, b9⟩
        exact ⟨_, rfl, _, rfl, tab_put rfl hs rfl rfl, hS.quiet 7 rfl b9⟩
     ·
      have hr := hS.rowNi 1 rfl
      exact wpOp_val (v := .agg #[.int .u64 p, .int .u64 q, .int .i64 r, .int .i64 t]) (w' := wx) rfl rfl (exec_loadR 60 _ rfl g2 0 (show ax.eval (.tmp 5) = .pointer (some ⟨g2, 0, none⟩) from t5) hr [.int .u64 p, .int .u64 q, .int .i64 r, .int .i64 t] rfl _ Try.underlying60 rfl (by kernel_rfl)) ⟨_, rfl, tab_put rfl hs rfl rfl, hS.same 8 rfl⟩
     ·
      have s45 : ax.tmps.getD 45 undef = .agg #[.int .u64 p, .int .u64 q, .int .i64 r, .int .i64 t] := (hdone 0 _ rfl rfl).2 _ rfl
      refine wpOp_call (args := #[.agg #[.int .u64 p, .int .u64 q, .int .i64 r, .int .i64 t]]) rfl rfl (exec_call rfl rfl rfl (args1 (show ax.eval (.tmp 45) = .agg #[.int .u64 p, .int .u64 q, .int .i64 r, .int .i64 t] from s45)) Try.func63 (by decide +kernel) rfl) ?_
      · refine (signed_n p q r t wx).mono ?_
        rintro e w' ⟨rfl, b9⟩
        exact ⟨_, rfl, _, rfl, tab_put rfl hs rfl rfl, hS.quiet 9 rfl b9⟩
     ·
      have hr := hS.rowFi 4 rfl (not_yet clo hfi (by kernel_rfl))
      exact wpOp_val (v := .agg #[.int .i64 allR.s.lo, .int .i64 allR.s.hi]) (w' := wx) rfl rfl (exec_loadR 99 _ rfl g5 0 (show ax.eval (.tmp 8) = .pointer (some ⟨g5, 0, none⟩) from t8) hr [.int .i64 allR.s.lo, .int .i64 allR.s.hi] rfl _ Try.underlying99 rfl (by kernel_rfl)) ⟨_, rfl, tab_put rfl hs rfl rfl, hS.same 10 rfl⟩
     ·
      have s44 : ax.tmps.getD 44 undef = .agg #[.int .i64 c, .int .i64 d] := (hdone 0 _ rfl rfl).2 _ rfl
      have s46 : ax.tmps.getD 46 undef = .agg #[.int .i64 r, .int .i64 t] := (hdone 1 _ rfl rfl).2 _ rfl
      have s47 : ax.tmps.getD 47 undef = .agg #[.int .i64 allR.s.lo, .int .i64 allR.s.hi] := (hdone 2 _ rfl rfl).2 _ rfl
      refine wpOp_call (args := #[.agg #[.int .i64 c, .int .i64 d], .agg #[.int .i64 r, .int .i64 t], .agg #[.int .i64 allR.s.lo, .int .i64 allR.s.hi]]) rfl rfl (exec_call rfl rfl rfl (args3 (show ax.eval (.tmp 44) = .agg #[.int .i64 c, .int .i64 d] from s44) (show ax.eval (.tmp 46) = .agg #[.int .i64 r, .int .i64 t] from s46) (show ax.eval (.tmp 47) = .agg #[.int .i64 allR.s.lo, .int .i64 allR.s.hi] from s47)) Try.func89 (by decide +kernel) rfl) ?_
      · refine (plusS_n c d r t wx HA.out.2 HB.out.2).mono ?_
        rintro e w' ⟨rfl, b9⟩
        exact ⟨_, rfl, _, rfl, tab_put rfl hs rfl rfl, hS.quiet 11 rfl b9⟩
     ·
      have s42 : ax.tmps.getD 42 undef = .agg #[.int .u64 ((plusU ⟨a, b⟩ ⟨p, q⟩).lo), .int .u64 ((plusU ⟨a, b⟩ ⟨p, q⟩).hi)] := (hdone 0 _ rfl rfl).2 _ rfl
      have hr := hS.rowFi 3 rfl hfi
      exact wpOp_skp (w' := wx.setRow g4 #[.int .u64 ((plusU ⟨a, b⟩ ⟨p, q⟩).lo), .int .u64 ((plusU ⟨a, b⟩ ⟨p, q⟩).hi)]) rfl rfl (exec_storeR 95 _ _ rfl g4 #[.int .u64 ((plusU ⟨a, b⟩ ⟨p, q⟩).lo), .int .u64 ((plusU ⟨a, b⟩ ⟨p, q⟩).hi)] (show ax.eval (.tmp 7) = .pointer (some ⟨g4, 0, none⟩) from t7) (show ax.eval (.tmp 42) = .agg #[.int .u64 ((plusU ⟨a, b⟩ ⟨p, q⟩).lo), .int .u64 ((plusU ⟨a, b⟩ ⟨p, q⟩).hi)] from s42) hr (by kernel_rfl) rfl (by simp [Value.oneCell'])) ⟨undef, rfl, trivial, hS.storeBi 12 3 rfl q_g4 rfl ⟨(show g1 ≠ g4 by omega), (show g2 ≠ g4 by omega), (show g3 ≠ g4 by omega), (show g5 ≠ g4 by omega), trivial⟩ (stored_setRow wx g4 _ _ _ hr)⟩
     ·
      have s48 : ax.tmps.getD 48 undef = .agg #[.int .i64 ((plusS ⟨c, d⟩ ⟨r, t⟩).lo), .int .i64 ((plusS ⟨c, d⟩ ⟨r, t⟩).hi)] := (hdone 0 _ rfl rfl).2 _ rfl
      have hr := hS.rowFi 4 rfl hfi
      exact wpOp_skp (w' := wx.setRow g5 #[.int .i64 ((plusS ⟨c, d⟩ ⟨r, t⟩).lo), .int .i64 ((plusS ⟨c, d⟩ ⟨r, t⟩).hi)]) rfl rfl (exec_storeR 99 _ _ rfl g5 #[.int .i64 ((plusS ⟨c, d⟩ ⟨r, t⟩).lo), .int .i64 ((plusS ⟨c, d⟩ ⟨r, t⟩).hi)] (show ax.eval (.tmp 8) = .pointer (some ⟨g5, 0, none⟩) from t8) (show ax.eval (.tmp 48) = .agg #[.int .i64 ((plusS ⟨c, d⟩ ⟨r, t⟩).lo), .int .i64 ((plusS ⟨c, d⟩ ⟨r, t⟩).hi)] from s48) hr (by kernel_rfl) rfl (by simp [Value.oneCell'])) ⟨undef, rfl, trivial, hS.storeBi 13 4 rfl q_g5 rfl ⟨(show g1 ≠ g5 by omega), (show g2 ≠ g5 by omega), (show g3 ≠ g5 by omega), (show g4 ≠ g5 by omega), trivial⟩ (stored_setRow wx g5 _ _ _ hr)⟩
   intro a7 w7 fl d7 z7 rest7 R7 hfl hS
   obtain ⟨B7, n7, hBs, hAs, hPs⟩ := hS.finish hfl rfl
   replace d7 := d7.trans d6
   replace z7 := z7.trans z6
   obtain ⟨⟨-, b_g1_7⟩, ⟨-, b_g2_7⟩, ⟨-, b_g3_7⟩, ⟨-, b_g4_7⟩, ⟨-, b_g5_7⟩, -⟩ := hBs
   have s6_7 := (rest7 6 (not_of (by kernel_rfl))).trans s6_6
   have s7_7 := (rest7 7 (not_of (by kernel_rfl))).trans s7_6
   have s8_7 := (rest7 8 (not_of (by kernel_rfl))).trans s8_6
   clear R7 rest7 hS hfl hPs hAs
   clear s0_6 s4_6 s5_6 s6_6 s7_6 s8_6 s24_6 s35_6 b_g1_6 b_g2_6 b_g3_6 b_g4_6 b_g5_6 d6 z6
   refine wp_seq ?_
   refine wp_regx (SX W w7.heap.size [⟨g1, 60, (cR a b c d), none, #[]⟩, ⟨g2, 60, (cR p q r t), none, #[]⟩, ⟨g3, 60, (cR 0 0 0 0), none, #[]⟩, ⟨g4, 95, (cU ((plusU ⟨a, b⟩ ⟨p, q⟩).lo) ((plusU ⟨a, b⟩ ⟨p, q⟩).hi)), none, #[]⟩, ⟨g5, 99, (cS ((plusS ⟨c, d⟩ ⟨r, t⟩).lo) ((plusS ⟨c, d⟩ ⟨r, t⟩).hi)), none, #[]⟩] [⟨7, 9, 60, (cR 0 0 0 0), some 8, (cR ((Rg.nar ⟨plusU ⟨a, b⟩ ⟨p, q⟩, plusS ⟨c, d⟩ ⟨r, t⟩⟩).u.lo) ((Rg.nar ⟨plusU ⟨a, b⟩ ⟨p, q⟩, plusS ⟨c, d⟩ ⟨r, t⟩⟩).u.hi) ((Rg.nar ⟨plusU ⟨a, b⟩ ⟨p, q⟩, plusS ⟨c, d⟩ ⟨r, t⟩⟩).s.lo) ((Rg.nar ⟨plusU ⟨a, b⟩ ⟨p, q⟩, plusS ⟨c, d⟩ ⟨r, t⟩⟩).s.hi))⟩]) (TabX [fun vx => vx = .agg #[.int .u64 ((plusU ⟨a, b⟩ ⟨p, q⟩).lo), .int .u64 ((plusU ⟨a, b⟩ ⟨p, q⟩).hi)], fun vx => vx = .agg #[.int .i64 ((plusS ⟨c, d⟩ ⟨r, t⟩).lo), .int .i64 ((plusS ⟨c, d⟩ ⟨r, t⟩).hi)], fun vx => vx = .agg #[.int .u64 ((plusU ⟨a, b⟩ ⟨p, q⟩).lo), .int .u64 ((plusU ⟨a, b⟩ ⟨p, q⟩).hi), .int .i64 ((plusS ⟨c, d⟩ ⟨r, t⟩).lo), .int .i64 ((plusS ⟨c, d⟩ ⟨r, t⟩).hi)], fun vx => vx = .tuple #[.agg #[.int .u64 ((Rg.nar ⟨plusU ⟨a, b⟩ ⟨p, q⟩, plusS ⟨c, d⟩ ⟨r, t⟩⟩).u.lo), .int .u64 ((Rg.nar ⟨plusU ⟨a, b⟩ ⟨p, q⟩, plusS ⟨c, d⟩ ⟨r, t⟩⟩).u.hi), .int .i64 ((Rg.nar ⟨plusU ⟨a, b⟩ ⟨p, q⟩, plusS ⟨c, d⟩ ⟨r, t⟩⟩).s.lo), .int .i64 ((Rg.nar ⟨plusU ⟨a, b⟩ ⟨p, q⟩, plusS ⟨c, d⟩ ⟨r, t⟩⟩).s.hi)], .bool (Rg.narB ⟨plusU ⟨a, b⟩ ⟨p, q⟩, plusS ⟨c, d⟩ ⟨r, t⟩⟩)], fun vx => vx = .tuple #[.agg #[.int .u64 ((Rg.nar ⟨plusU ⟨a, b⟩ ⟨p, q⟩, plusS ⟨c, d⟩ ⟨r, t⟩⟩).u.lo), .int .u64 ((Rg.nar ⟨plusU ⟨a, b⟩ ⟨p, q⟩, plusS ⟨c, d⟩ ⟨r, t⟩⟩).u.hi), .int .i64 ((Rg.nar ⟨plusU ⟨a, b⟩ ⟨p, q⟩, plusS ⟨c, d⟩ ⟨r, t⟩⟩).s.lo), .int .i64 ((Rg.nar ⟨plusU ⟨a, b⟩ ⟨p, q⟩, plusS ⟨c, d⟩ ⟨r, t⟩⟩).s.hi)], .bool (Rg.narB ⟨plusU ⟨a, b⟩ ⟨p, q⟩, plusS ⟨c, d⟩ ⟨r, t⟩⟩)], fun vx => vx = .agg #[.int .u64 ((Rg.nar ⟨plusU ⟨a, b⟩ ⟨p, q⟩, plusS ⟨c, d⟩ ⟨r, t⟩⟩).u.lo), .int .u64 ((Rg.nar ⟨plusU ⟨a, b⟩ ⟨p, q⟩, plusS ⟨c, d⟩ ⟨r, t⟩⟩).u.hi), .int .i64 ((Rg.nar ⟨plusU ⟨a, b⟩ ⟨p, q⟩, plusS ⟨c, d⟩ ⟨r, t⟩⟩).s.lo), .int .i64 ((Rg.nar ⟨plusU ⟨a, b⟩ ⟨p, q⟩, plusS ⟨c, d⟩ ⟨r, t⟩⟩).s.hi)], fun vx => vx = .bool (Rg.narB ⟨plusU ⟨a, b⟩ ⟨p, q⟩, plusS ⟨c, d⟩ ⟨r, t⟩⟩), fun _ => True, fun _ => True, fun vx => vx = .bool (Rg.narB ⟨plusU ⟨a, b⟩ ⟨p, q⟩, plusS ⟨c, d⟩ ⟨r, t⟩⟩)]) (by kernel_rfl) (back_of (by kernel_rfl)) (dst_of (by kernel_rfl)) (in_ofz (by kernel_rfl) z7) (fun fl w1 hfl hw => SX.start' hw B7 hfl rfl ⟨b_g1_7, b_g2_7, b_g3_7, b_g4_7, b_g5_7, trivial⟩) ?h16 ?_
   case h16 =>
     intro ix ox ax wx fl ho hS hfi clo hsz hrest hdone hund
     have t7 := (hrest 7 (not_of (by kernel_rfl))).trans s7_7
     have t8 := (hrest 8 (not_of (by kernel_rfl))).trans s8_7
     have hs : ax.tmps.size = 71 := hsz.trans z7
     have hi : ix < 10 := (Array.getElem?_eq_some_iff.1 ho).1
     clear hrest hsz hund
     obtain rfl | rfl | rfl | rfl | rfl | rfl | rfl | rfl | rfl | rfl : ix = 0 ∨ ix = 1 ∨ ix = 2 ∨ ix = 3 ∨ ix = 4 ∨ ix = 5 ∨ ix = 6 ∨ ix = 7 ∨ ix = 8 ∨ ix = 9 := by omega
     all_goals obtain rfl := Option.some.inj (show some _ = some ox from ho)
     ·
      have hr := hS.rowNi 3 rfl
      exact wpOp_val (v := .agg #[.int .u64 ((plusU ⟨a, b⟩ ⟨p, q⟩).lo), .int .u64 ((plusU ⟨a, b⟩ ⟨p, q⟩).hi)]) (w' := wx) rfl rfl (exec_loadR 95 _ rfl g4 0 (show ax.eval (.tmp 7) = .pointer (some ⟨g4, 0, none⟩) from t7) hr [.int .u64 ((plusU ⟨a, b⟩ ⟨p, q⟩).lo), .int .u64 ((plusU ⟨a, b⟩ ⟨p, q⟩).hi)] rfl _ Try.underlying95 rfl (by kernel_rfl)) ⟨_, rfl, tab_put rfl hs rfl rfl, hS.same 0 rfl⟩
     ·
      have hr := hS.rowNi 4 rfl
      exact wpOp_val (v := .agg #[.int .i64 ((plusS ⟨c, d⟩ ⟨r, t⟩).lo), .int .i64 ((plusS ⟨c, d⟩ ⟨r, t⟩).hi)]) (w' := wx) rfl rfl (exec_loadR 99 _ rfl g5 0 (show ax.eval (.tmp 8) = .pointer (some ⟨g5, 0, none⟩) from t8) hr [.int .i64 ((plusS ⟨c, d⟩ ⟨r, t⟩).lo), .int .i64 ((plusS ⟨c, d⟩ ⟨r, t⟩).hi)] rfl _ Try.underlying99 rfl (by kernel_rfl)) ⟨_, rfl, tab_put rfl hs rfl rfl, hS.same 1 rfl⟩
     ·
      have s64 : ax.tmps.getD 64 undef = .agg #[.int .u64 ((plusU ⟨a, b⟩ ⟨p, q⟩).lo), .int .u64 ((plusU ⟨a, b⟩ ⟨p, q⟩).hi)] := (hdone 0 _ rfl rfl).2 _ rfl
      have s65 : ax.tmps.getD 65 undef = .agg #[.int .i64 ((plusS ⟨c, d⟩ ⟨r, t⟩).lo), .int .i64 ((plusS ⟨c, d⟩ ⟨r, t⟩).hi)] := (hdone 1 _ rfl rfl).2 _ rfl
      refine wpOp_call (args := #[.agg #[.int .u64 ((plusU ⟨a, b⟩ ⟨p, q⟩).lo), .int .u64 ((plusU ⟨a, b⟩ ⟨p, q⟩).hi)], .agg #[.int .i64 ((plusS ⟨c, d⟩ ⟨r, t⟩).lo), .int .i64 ((plusS ⟨c, d⟩ ⟨r, t⟩).hi)]]) rfl rfl (exec_call rfl rfl rfl (args2 (show ax.eval (.tmp 64) = .agg #[.int .u64 ((plusU ⟨a, b⟩ ⟨p, q⟩).lo), .int .u64 ((plusU ⟨a, b⟩ ⟨p, q⟩).hi)] from s64) (show ax.eval (.tmp 65) = .agg #[.int .i64 ((plusS ⟨c, d⟩ ⟨r, t⟩).lo), .int .i64 ((plusS ⟨c, d⟩ ⟨r, t⟩).hi)] from s65)) Try.func60 (by decide +kernel) rfl) ?_
      · refine (both_n ((plusU ⟨a, b⟩ ⟨p, q⟩).lo) ((plusU ⟨a, b⟩ ⟨p, q⟩).hi) ((plusS ⟨c, d⟩ ⟨r, t⟩).lo) ((plusS ⟨c, d⟩ ⟨r, t⟩).hi) wx).mono ?_
        rintro e w' ⟨rfl, b9⟩
        exact ⟨_, rfl, _, rfl, tab_put rfl hs rfl rfl, hS.quiet 2 rfl b9⟩
     ·
      have s66 : ax.tmps.getD 66 undef = .agg #[.int .u64 ((plusU ⟨a, b⟩ ⟨p, q⟩).lo), .int .u64 ((plusU ⟨a, b⟩ ⟨p, q⟩).hi), .int .i64 ((plusS ⟨c, d⟩ ⟨r, t⟩).lo), .int .i64 ((plusS ⟨c, d⟩ ⟨r, t⟩).hi)] := (hdone 0 _ rfl rfl).2 _ rfl
      refine wpOp_call (args := #[.agg #[.int .u64 ((plusU ⟨a, b⟩ ⟨p, q⟩).lo), .int .u64 ((plusU ⟨a, b⟩ ⟨p, q⟩).hi), .int .i64 ((plusS ⟨c, d⟩ ⟨r, t⟩).lo), .int .i64 ((plusS ⟨c, d⟩ ⟨r, t⟩).hi)]]) rfl rfl (exec_call rfl rfl rfl (args1 (show ax.eval (.tmp 66) = .agg #[.int .u64 ((plusU ⟨a, b⟩ ⟨p, q⟩).lo), .int .u64 ((plusU ⟨a, b⟩ ⟨p, q⟩).hi), .int .i64 ((plusS ⟨c, d⟩ ⟨r, t⟩).lo), .int .i64 ((plusS ⟨c, d⟩ ⟨r, t⟩).hi)] from s66)) Try.func28 (by decide +kernel) rfl) ?_
      · refine (narrow_n ((plusU ⟨a, b⟩ ⟨p, q⟩).lo) ((plusU ⟨a, b⟩ ⟨p, q⟩).hi) ((plusS ⟨c, d⟩ ⟨r, t⟩).lo) ((plusS ⟨c, d⟩ ⟨r, t⟩).hi) wx ⟨plusU_ok HA.out.1 HB.out.1, plusS_ok HA.out.2 HB.out.2⟩).mono ?_
        rintro e w' ⟨rfl, b9⟩
        exact ⟨_, rfl, _, rfl, tab_put rfl hs rfl rfl, hS.quiet 3 rfl b9⟩
     ·
      have s67 : ax.tmps.getD 67 undef = .tuple #[.agg #[.int .u64 ((Rg.nar ⟨plusU ⟨a, b⟩ ⟨p, q⟩, plusS ⟨c, d⟩ ⟨r, t⟩⟩).u.lo), .int .u64 ((Rg.nar ⟨plusU ⟨a, b⟩ ⟨p, q⟩, plusS ⟨c, d⟩ ⟨r, t⟩⟩).u.hi), .int .i64 ((Rg.nar ⟨plusU ⟨a, b⟩ ⟨p, q⟩, plusS ⟨c, d⟩ ⟨r, t⟩⟩).s.lo), .int .i64 ((Rg.nar ⟨plusU ⟨a, b⟩ ⟨p, q⟩, plusS ⟨c, d⟩ ⟨r, t⟩⟩).s.hi)], .bool (Rg.narB ⟨plusU ⟨a, b⟩ ⟨p, q⟩, plusS ⟨c, d⟩ ⟨r, t⟩⟩)] := (hdone 0 _ rfl rfl).2 _ rfl
      exact wpOp_val (v := .tuple #[.agg #[.int .u64 ((Rg.nar ⟨plusU ⟨a, b⟩ ⟨p, q⟩, plusS ⟨c, d⟩ ⟨r, t⟩⟩).u.lo), .int .u64 ((Rg.nar ⟨plusU ⟨a, b⟩ ⟨p, q⟩, plusS ⟨c, d⟩ ⟨r, t⟩⟩).u.hi), .int .i64 ((Rg.nar ⟨plusU ⟨a, b⟩ ⟨p, q⟩, plusS ⟨c, d⟩ ⟨r, t⟩⟩).s.lo), .int .i64 ((Rg.nar ⟨plusU ⟨a, b⟩ ⟨p, q⟩, plusS ⟨c, d⟩ ⟨r, t⟩⟩).s.hi)], .bool (Rg.narB ⟨plusU ⟨a, b⟩ ⟨p, q⟩, plusS ⟨c, d⟩ ⟨r, t⟩⟩)]) (w' := wx) rfl rfl (by (revert s67; generalize (.tuple #[.agg #[.int .u64 ((Rg.nar ⟨plusU ⟨a, b⟩ ⟨p, q⟩, plusS ⟨c, d⟩ ⟨r, t⟩⟩).u.lo), .int .u64 ((Rg.nar ⟨plusU ⟨a, b⟩ ⟨p, q⟩, plusS ⟨c, d⟩ ⟨r, t⟩⟩).u.hi), .int .i64 ((Rg.nar ⟨plusU ⟨a, b⟩ ⟨p, q⟩, plusS ⟨c, d⟩ ⟨r, t⟩⟩).s.lo), .int .i64 ((Rg.nar ⟨plusU ⟨a, b⟩ ⟨p, q⟩, plusS ⟨c, d⟩ ⟨r, t⟩⟩).s.hi)], .bool (Rg.narB ⟨plusU ⟨a, b⟩ ⟨p, q⟩, plusS ⟨c, d⟩ ⟨r, t⟩⟩)] : Value) = y0; intro s67); simp [execOp, Act.eval, s67]) ⟨_, rfl, tab_put rfl hs rfl rfl, hS.same 4 rfl⟩
     ·
      have s63 : ax.tmps.getD 63 undef = .tuple #[.agg #[.int .u64 ((Rg.nar ⟨plusU ⟨a, b⟩ ⟨p, q⟩, plusS ⟨c, d⟩ ⟨r, t⟩⟩).u.lo), .int .u64 ((Rg.nar ⟨plusU ⟨a, b⟩ ⟨p, q⟩, plusS ⟨c, d⟩ ⟨r, t⟩⟩).u.hi), .int .i64 ((Rg.nar ⟨plusU ⟨a, b⟩ ⟨p, q⟩, plusS ⟨c, d⟩ ⟨r, t⟩⟩).s.lo), .int .i64 ((Rg.nar ⟨plusU ⟨a, b⟩ ⟨p, q⟩, plusS ⟨c, d⟩ ⟨r, t⟩⟩).s.hi)], .bool (Rg.narB ⟨plusU ⟨a, b⟩ ⟨p, q⟩, plusS ⟨c, d⟩ ⟨r, t⟩⟩)] := (hdone 0 _ rfl rfl).2 _ rfl
      exact wpOp_val (v := .agg #[.int .u64 ((Rg.nar ⟨plusU ⟨a, b⟩ ⟨p, q⟩, plusS ⟨c, d⟩ ⟨r, t⟩⟩).u.lo), .int .u64 ((Rg.nar ⟨plusU ⟨a, b⟩ ⟨p, q⟩, plusS ⟨c, d⟩ ⟨r, t⟩⟩).u.hi), .int .i64 ((Rg.nar ⟨plusU ⟨a, b⟩ ⟨p, q⟩, plusS ⟨c, d⟩ ⟨r, t⟩⟩).s.lo), .int .i64 ((Rg.nar ⟨plusU ⟨a, b⟩ ⟨p, q⟩, plusS ⟨c, d⟩ ⟨r, t⟩⟩).s.hi)]) (w' := wx) rfl rfl (by simp [execOp, Act.eval, s63, go_sem]) ⟨_, rfl, tab_put rfl hs rfl rfl, hS.same 5 rfl⟩
     ·
      have s63 : ax.tmps.getD 63 undef = .tuple #[.agg #[.int .u64 ((Rg.nar ⟨plusU ⟨a, b⟩ ⟨p, q⟩, plusS ⟨c, d⟩ ⟨r, t⟩⟩).u.lo), .int .u64 ((Rg.nar ⟨plusU ⟨a, b⟩ ⟨p, q⟩, plusS ⟨c, d⟩ ⟨r, t⟩⟩).u.hi), .int .i64 ((Rg.nar ⟨plusU ⟨a, b⟩ ⟨p, q⟩, plusS ⟨c, d⟩ ⟨r, t⟩⟩).s.lo), .int .i64 ((Rg.nar ⟨plusU ⟨a, b⟩ ⟨p, q⟩, plusS ⟨c, d⟩ ⟨r, t⟩⟩).s.hi)], .bool (Rg.narB ⟨plusU ⟨a, b⟩ ⟨p, q⟩, plusS ⟨c, d⟩ ⟨r, t⟩⟩)] := (hdone 0 _ rfl rfl).2 _ rfl
      exact wpOp_val (v := .bool (Rg.narB ⟨plusU ⟨a, b⟩ ⟨p, q⟩, plusS ⟨c, d⟩ ⟨r, t⟩⟩)) (w' := wx) rfl rfl (by simp [execOp, Act.eval, s63, go_sem]) ⟨_, rfl, tab_put rfl hs rfl rfl, hS.same 6 rfl⟩
     ·
      refine wpOp_val (v := .pointer (some ⟨wx.heap.size, 0, none⟩)) (w' := wx.alloc (.cells #[.int .u64 0, .int .u64 0, .int .i64 0, .int .i64 0] 60)) rfl rfl ?_ ⟨_, rfl, trivial, hS.alloc 7 9 60 #[.int .u64 0, .int .u64 0, .int .i64 0, .int .i64 0] [] [] (some 8) #[.int .u64 ((Rg.nar ⟨plusU ⟨a, b⟩ ⟨p, q⟩, plusS ⟨c, d⟩ ⟨r, t⟩⟩).u.lo), .int .u64 ((Rg.nar ⟨plusU ⟨a, b⟩ ⟨p, q⟩, plusS ⟨c, d⟩ ⟨r, t⟩⟩).u.hi), .int .i64 ((Rg.nar ⟨plusU ⟨a, b⟩ ⟨p, q⟩, plusS ⟨c, d⟩ ⟨r, t⟩⟩).s.lo), .int .i64 ((Rg.nar ⟨plusU ⟨a, b⟩ ⟨p, q⟩, plusS ⟨c, d⟩ ⟨r, t⟩⟩).s.hi)] rfl rfl rfl (by rw [hs]; omega) (not_yet clo hfi (by kernel_rfl))⟩
      · simp [execOp, Act.eval, go_sem]
     ·
      have hd9 := (hdone 0 _ rfl rfl).1
      obtain ⟨g6, s9, n9, r9⟩ := SX.rowA hS [] [] 7 9 60 _ _ 8 rfl hd9 hfi
      have s9 : ax.tmps.getD 9 undef = .pointer (some ⟨g6, 0, none⟩) := s9
      have s68 : ax.tmps.getD 68 undef = .agg #[.int .u64 ((Rg.nar ⟨plusU ⟨a, b⟩ ⟨p, q⟩, plusS ⟨c, d⟩ ⟨r, t⟩⟩).u.lo), .int .u64 ((Rg.nar ⟨plusU ⟨a, b⟩ ⟨p, q⟩, plusS ⟨c, d⟩ ⟨r, t⟩⟩).u.hi), .int .i64 ((Rg.nar ⟨plusU ⟨a, b⟩ ⟨p, q⟩, plusS ⟨c, d⟩ ⟨r, t⟩⟩).s.lo), .int .i64 ((Rg.nar ⟨plusU ⟨a, b⟩ ⟨p, q⟩, plusS ⟨c, d⟩ ⟨r, t⟩⟩).s.hi)] := (hdone 1 _ rfl rfl).2 _ rfl
      have hr : wx.heap[g6]? = some (.cells #[.int .u64 0, .int .u64 0, .int .i64 0, .int .i64 0] 60 (0, 0)) := r9
      exact wpOp_skp (w' := wx.setRow g6 #[.int .u64 ((Rg.nar ⟨plusU ⟨a, b⟩ ⟨p, q⟩, plusS ⟨c, d⟩ ⟨r, t⟩⟩).u.lo), .int .u64 ((Rg.nar ⟨plusU ⟨a, b⟩ ⟨p, q⟩, plusS ⟨c, d⟩ ⟨r, t⟩⟩).u.hi), .int .i64 ((Rg.nar ⟨plusU ⟨a, b⟩ ⟨p, q⟩, plusS ⟨c, d⟩ ⟨r, t⟩⟩).s.lo), .int .i64 ((Rg.nar ⟨plusU ⟨a, b⟩ ⟨p, q⟩, plusS ⟨c, d⟩ ⟨r, t⟩⟩).s.hi)]) rfl rfl (exec_storeR 60 _ _ rfl g6 #[.int .u64 ((Rg.nar ⟨plusU ⟨a, b⟩ ⟨p, q⟩, plusS ⟨c, d⟩ ⟨r, t⟩⟩).u.lo), .int .u64 ((Rg.nar ⟨plusU ⟨a, b⟩ ⟨p, q⟩, plusS ⟨c, d⟩ ⟨r, t⟩⟩).u.hi), .int .i64 ((Rg.nar ⟨plusU ⟨a, b⟩ ⟨p, q⟩, plusS ⟨c, d⟩ ⟨r, t⟩⟩).s.lo), .int .i64 ((Rg.nar ⟨plusU ⟨a, b⟩ ⟨p, q⟩, plusS ⟨c, d⟩ ⟨r, t⟩⟩).s.hi)] (show ax.eval (.tmp 9) = .pointer (some ⟨g6, 0, none⟩) from s9) (show ax.eval (.tmp 68) = .agg #[.int .u64 ((Rg.nar ⟨plusU ⟨a, b⟩ ⟨p, q⟩, plusS ⟨c, d⟩ ⟨r, t⟩⟩).u.lo), .int .u64 ((Rg.nar ⟨plusU ⟨a, b⟩ ⟨p, q⟩, plusS ⟨c, d⟩ ⟨r, t⟩⟩).u.hi), .int .i64 ((Rg.nar ⟨plusU ⟨a, b⟩ ⟨p, q⟩, plusS ⟨c, d⟩ ⟨r, t⟩⟩).s.lo), .int .i64 ((Rg.nar ⟨plusU ⟨a, b⟩ ⟨p, q⟩, plusS ⟨c, d⟩ ⟨r, t⟩⟩).s.hi)] from s68) hr (by kernel_rfl) rfl (by simp [Value.oneCell'])) ⟨undef, rfl, trivial, hS.storeA 8 7 9 60 #[.int .u64 0, .int .u64 0, .int .i64 0, .int .i64 0] #[.int .u64 ((Rg.nar ⟨plusU ⟨a, b⟩ ⟨p, q⟩, plusS ⟨c, d⟩ ⟨r, t⟩⟩).u.lo), .int .u64 ((Rg.nar ⟨plusU ⟨a, b⟩ ⟨p, q⟩, plusS ⟨c, d⟩ ⟨r, t⟩⟩).u.hi), .int .i64 ((Rg.nar ⟨plusU ⟨a, b⟩ ⟨p, q⟩, plusS ⟨c, d⟩ ⟨r, t⟩⟩).s.lo), .int .i64 ((Rg.nar ⟨plusU ⟨a, b⟩ ⟨p, q⟩, plusS ⟨c, d⟩ ⟨r, t⟩⟩).s.hi)] [] [] rfl B7.size hd9 g6 s9 (by decide) rfl (stored_setRow wx g6 _ _ _ hr)⟩
     ·
      have s69 : ax.tmps.getD 69 undef = .bool (Rg.narB ⟨plusU ⟨a, b⟩ ⟨p, q⟩, plusS ⟨c, d⟩ ⟨r, t⟩⟩) := (hdone 0 _ rfl rfl).2 _ rfl
      exact wpOp_val (v := .bool (Rg.narB ⟨plusU ⟨a, b⟩ ⟨p, q⟩, plusS ⟨c, d⟩ ⟨r, t⟩⟩)) (w' := wx) rfl rfl (by simp [execOp, Act.eval, s69]) ⟨_, rfl, tab_put rfl hs rfl rfl, hS.same 9 rfl⟩
   intro a8 w8 fl d8 z8 rest8 R8 hfl hS
   obtain ⟨B8, n8, hBs, hAs, hPs⟩ := hS.finish hfl rfl
   replace d8 := d8.trans d7
   replace z8 := z8.trans z7
   obtain ⟨⟨-, b_g1_8⟩, ⟨-, b_g2_8⟩, ⟨-, b_g3_8⟩, ⟨-, b_g4_8⟩, ⟨-, b_g5_8⟩, -⟩ := hBs
   obtain ⟨⟨g6, u_g6, q_g6, b_g6_8⟩, -⟩ := hAs
   replace u_g6 : a8.tmps.getD 9 undef = .pointer (some ⟨g6, 0, none⟩) := u_g6
   have m_g6 : w7.heap.size ≤ g6 := q_g6
   replace q_g6 : W.heap.size ≤ g6 := Nat.le_trans B7.size q_g6
   have s6_8 := (rest8 6 (not_of (by kernel_rfl))).trans s6_7
   clear R8 rest8 hS hfl hPs
   clear s6_7 s7_7 s8_7 b_g1_7 b_g2_7 b_g3_7 b_g4_7 b_g5_7 d7 z7
   refine wp_seq ?_
   refine wp_regx (SX W w8.heap.size [⟨g1, 60, (cR a b c d), none, #[]⟩, ⟨g2, 60, (cR p q r t), none, #[]⟩, ⟨g3, 60, (cR 0 0 0 0), some 1, (cR ((Rg.nar ⟨plusU ⟨a, b⟩ ⟨p, q⟩, plusS ⟨c, d⟩ ⟨r, t⟩⟩).u.lo) ((Rg.nar ⟨plusU ⟨a, b⟩ ⟨p, q⟩, plusS ⟨c, d⟩ ⟨r, t⟩⟩).u.hi) ((Rg.nar ⟨plusU ⟨a, b⟩ ⟨p, q⟩, plusS ⟨c, d⟩ ⟨r, t⟩⟩).s.lo) ((Rg.nar ⟨plusU ⟨a, b⟩ ⟨p, q⟩, plusS ⟨c, d⟩ ⟨r, t⟩⟩).s.hi))⟩, ⟨g4, 95, (cU ((plusU ⟨a, b⟩ ⟨p, q⟩).lo) ((plusU ⟨a, b⟩ ⟨p, q⟩).hi)), none, #[]⟩, ⟨g5, 99, (cS ((plusS ⟨c, d⟩ ⟨r, t⟩).lo) ((plusS ⟨c, d⟩ ⟨r, t⟩).hi)), none, #[]⟩, ⟨g6, 60, (cR ((Rg.nar ⟨plusU ⟨a, b⟩ ⟨p, q⟩, plusS ⟨c, d⟩ ⟨r, t⟩⟩).u.lo) ((Rg.nar ⟨plusU ⟨a, b⟩ ⟨p, q⟩, plusS ⟨c, d⟩ ⟨r, t⟩⟩).u.hi) ((Rg.nar ⟨plusU ⟨a, b⟩ ⟨p, q⟩, plusS ⟨c, d⟩ ⟨r, t⟩⟩).s.lo) ((Rg.nar ⟨plusU ⟨a, b⟩ ⟨p, q⟩, plusS ⟨c, d⟩ ⟨r, t⟩⟩).s.hi)), none, #[]⟩] []) (TabX [fun vx => vx = .agg #[.int .u64 ((Rg.nar ⟨plusU ⟨a, b⟩ ⟨p, q⟩, plusS ⟨c, d⟩ ⟨r, t⟩⟩).u.lo), .int .u64 ((Rg.nar ⟨plusU ⟨a, b⟩ ⟨p, q⟩, plusS ⟨c, d⟩ ⟨r, t⟩⟩).u.hi), .int .i64 ((Rg.nar ⟨plusU ⟨a, b⟩ ⟨p, q⟩, plusS ⟨c, d⟩ ⟨r, t⟩⟩).s.lo), .int .i64 ((Rg.nar ⟨plusU ⟨a, b⟩ ⟨p, q⟩, plusS ⟨c, d⟩ ⟨r, t⟩⟩).s.hi)], fun _ => True]) (by kernel_rfl) (back_of (by kernel_rfl)) (dst_of (by kernel_rfl)) (in_ofz (by kernel_rfl) z8) (fun fl w1 hfl hw => SX.start' hw B8 hfl rfl ⟨b_g1_8, b_g2_8, b_g3_8, b_g4_8, b_g5_8, b_g6_8, trivial⟩) ?h17 ?_
   case h17 =>
     intro ix ox ax wx fl ho hS hfi clo hsz hrest hdone hund
     have t6 := (hrest 6 (not_of (by kernel_rfl))).trans s6_8
     have t9 := (hrest 9 (not_of (by kernel_rfl))).trans u_g6
     have hs : ax.tmps.size = 71 := hsz.trans z8
     have hi : ix < 2 := (Array.getElem?_eq_some_iff.1 ho).1
     clear hrest hsz hund
     obtain rfl | rfl : ix = 0 ∨ ix = 1 := by omega
     all_goals obtain rfl := Option.some.inj (show some _ = some ox from ho)
     ·
      have hr := hS.rowNi 5 rfl
      exact wpOp_val (v := .agg #[.int .u64 ((Rg.nar ⟨plusU ⟨a, b⟩ ⟨p, q⟩, plusS ⟨c, d⟩ ⟨r, t⟩⟩).u.lo), .int .u64 ((Rg.nar ⟨plusU ⟨a, b⟩ ⟨p, q⟩, plusS ⟨c, d⟩ ⟨r, t⟩⟩).u.hi), .int .i64 ((Rg.nar ⟨plusU ⟨a, b⟩ ⟨p, q⟩, plusS ⟨c, d⟩ ⟨r, t⟩⟩).s.lo), .int .i64 ((Rg.nar ⟨plusU ⟨a, b⟩ ⟨p, q⟩, plusS ⟨c, d⟩ ⟨r, t⟩⟩).s.hi)]) (w' := wx) rfl rfl (exec_loadR 60 _ rfl g6 0 (show ax.eval (.tmp 9) = .pointer (some ⟨g6, 0, none⟩) from t9) hr [.int .u64 ((Rg.nar ⟨plusU ⟨a, b⟩ ⟨p, q⟩, plusS ⟨c, d⟩ ⟨r, t⟩⟩).u.lo), .int .u64 ((Rg.nar ⟨plusU ⟨a, b⟩ ⟨p, q⟩, plusS ⟨c, d⟩ ⟨r, t⟩⟩).u.hi), .int .i64 ((Rg.nar ⟨plusU ⟨a, b⟩ ⟨p, q⟩, plusS ⟨c, d⟩ ⟨r, t⟩⟩).s.lo), .int .i64 ((Rg.nar ⟨plusU ⟨a, b⟩ ⟨p, q⟩, plusS ⟨c, d⟩ ⟨r, t⟩⟩).s.hi)] rfl _ Try.underlying60 rfl (by kernel_rfl)) ⟨_, rfl, tab_put rfl hs rfl rfl, hS.same 0 rfl⟩
     ·
      have s70 : ax.tmps.getD 70 undef = .agg #[.int .u64 ((Rg.nar ⟨plusU ⟨a, b⟩ ⟨p, q⟩, plusS ⟨c, d⟩ ⟨r, t⟩⟩).u.lo), .int .u64 ((Rg.nar ⟨plusU ⟨a, b⟩ ⟨p, q⟩, plusS ⟨c, d⟩ ⟨r, t⟩⟩).u.hi), .int .i64 ((Rg.nar ⟨plusU ⟨a, b⟩ ⟨p, q⟩, plusS ⟨c, d⟩ ⟨r, t⟩⟩).s.lo), .int .i64 ((Rg.nar ⟨plusU ⟨a, b⟩ ⟨p, q⟩, plusS ⟨c, d⟩ ⟨r, t⟩⟩).s.hi)] := (hdone 0 _ rfl rfl).2 _ rfl
      have hr := hS.rowFi 2 rfl hfi
      exact wpOp_skp (w' := wx.setRow g3 #[.int .u64 ((Rg.nar ⟨plusU ⟨a, b⟩ ⟨p, q⟩, plusS ⟨c, d⟩ ⟨r, t⟩⟩).u.lo), .int .u64 ((Rg.nar ⟨plusU ⟨a, b⟩ ⟨p, q⟩, plusS ⟨c, d⟩ ⟨r, t⟩⟩).u.hi), .int .i64 ((Rg.nar ⟨plusU ⟨a, b⟩ ⟨p, q⟩, plusS ⟨c, d⟩ ⟨r, t⟩⟩).s.lo), .int .i64 ((Rg.nar ⟨plusU ⟨a, b⟩ ⟨p, q⟩, plusS ⟨c, d⟩ ⟨r, t⟩⟩).s.hi)]) rfl rfl (exec_storeR 60 _ _ rfl g3 #[.int .u64 ((Rg.nar ⟨plusU ⟨a, b⟩ ⟨p, q⟩, plusS ⟨c, d⟩ ⟨r, t⟩⟩).u.lo), .int .u64 ((Rg.nar ⟨plusU ⟨a, b⟩ ⟨p, q⟩, plusS ⟨c, d⟩ ⟨r, t⟩⟩).u.hi), .int .i64 ((Rg.nar ⟨plusU ⟨a, b⟩ ⟨p, q⟩, plusS ⟨c, d⟩ ⟨r, t⟩⟩).s.lo), .int .i64 ((Rg.nar ⟨plusU ⟨a, b⟩ ⟨p, q⟩, plusS ⟨c, d⟩ ⟨r, t⟩⟩).s.hi)] (show ax.eval (.tmp 6) = .pointer (some ⟨g3, 0, none⟩) from t6) (show ax.eval (.tmp 70) = .agg #[.int .u64 ((Rg.nar ⟨plusU ⟨a, b⟩ ⟨p, q⟩, plusS ⟨c, d⟩ ⟨r, t⟩⟩).u.lo), .int .u64 ((Rg.nar ⟨plusU ⟨a, b⟩ ⟨p, q⟩, plusS ⟨c, d⟩ ⟨r, t⟩⟩).u.hi), .int .i64 ((Rg.nar ⟨plusU ⟨a, b⟩ ⟨p, q⟩, plusS ⟨c, d⟩ ⟨r, t⟩⟩).s.lo), .int .i64 ((Rg.nar ⟨plusU ⟨a, b⟩ ⟨p, q⟩, plusS ⟨c, d⟩ ⟨r, t⟩⟩).s.hi)] from s70) hr (by kernel_rfl) rfl (by simp [Value.oneCell'])) ⟨undef, rfl, trivial, hS.storeBi 1 2 rfl q_g3 rfl ⟨(show g1 ≠ g3 by omega), (show g2 ≠ g3 by omega), (show g4 ≠ g3 by omega), (show g5 ≠ g3 by omega), (show g6 ≠ g3 by omega), trivial⟩ (stored_setRow wx g3 _ _ _ hr)⟩
   intro a9 w9 fl d9 z9 rest9 R9 hfl hS
   obtain ⟨B9, n9, hBs, hAs, hPs⟩ := hS.finish hfl rfl
   replace d9 := d9.trans d8
   replace z9 := z9.trans z8
   obtain ⟨⟨-, b_g1_9⟩, ⟨-, b_g2_9⟩, ⟨-, b_g3_9⟩, ⟨-, b_g4_9⟩, ⟨-, b_g5_9⟩, ⟨l_g6_9, b_g6_9⟩, -⟩ := hBs
   replace l_g6_9 : g6 < w8.heap.size := l_g6_9
   have s6_9 := (rest9 6 (not_of (by kernel_rfl))).trans s6_8
   clear R9 rest9 hS hfl hPs hAs
   clear u_g6 s6_8 b_g1_8 b_g2_8 b_g3_8 b_g4_8 b_g5_8 b_g6_8 d8 z8
   refine wp_ret ?_
   try simp only [Exit.inBlock, Exit.then]
   refine bodyPost_ret (res_c (fn := Try.f42) rfl s6_9 (load_row 60 b_g3_9 Try.underlying60 rfl (by kernel_rfl))) d9 ?_
   have no11 := nb Ffk3.out
   have ho : op = 0 := yb Ffk4.out
   have HD : (⟨doU op ⟨⟨a, b⟩, ⟨c, d⟩⟩ ⟨⟨p, q⟩, ⟨r, t⟩⟩, doS op ⟨⟨a, b⟩, ⟨c, d⟩⟩ ⟨⟨p, q⟩, ⟨r, t⟩⟩⟩ : Rg) = ⟨plusU ⟨a, b⟩ ⟨p, q⟩, plusS ⟨c, d⟩ ⟨r, t⟩⟩ := by
     unfold doU doS
     simp only [if_neg no11, if_pos ho]
     try rfl
   have HE : (.agg #[.int .u64 ((Rg.nar ⟨plusU ⟨a, b⟩ ⟨p, q⟩, plusS ⟨c, d⟩ ⟨r, t⟩⟩).u.lo), .int .u64 ((Rg.nar ⟨plusU ⟨a, b⟩ ⟨p, q⟩, plusS ⟨c, d⟩ ⟨r, t⟩⟩).u.hi), .int .i64 ((Rg.nar ⟨plusU ⟨a, b⟩ ⟨p, q⟩, plusS ⟨c, d⟩ ⟨r, t⟩⟩).s.lo), .int .i64 ((Rg.nar ⟨plusU ⟨a, b⟩ ⟨p, q⟩, plusS ⟨c, d⟩ ⟨r, t⟩⟩).s.hi)] : Value) = Rg.val (Rg.doR op ⟨⟨a, b⟩, ⟨c, d⟩⟩ ⟨⟨p, q⟩, ⟨r, t⟩⟩) := by unfold Rg.doR; rw [Ffk1.out, Ffk2.out, if_pos (by rfl), HD]; try rfl
   exact ⟨retV HE, B9⟩
  have Ffk4 := Lib.hid fk4; clear fk4
  refine wp_regx (SX W w5.heap.size [⟨g1, 60, (cR a b c d), none, #[]⟩, ⟨g2, 60, (cR p q r t), none, #[]⟩, ⟨g3, 60, (cR 0 0 0 0), none, #[]⟩, ⟨g4, 95, (cU allR.u.lo allR.u.hi), none, #[]⟩, ⟨g5, 99, (cS allR.s.lo allR.s.hi), none, #[]⟩] []) (TabX [fun vx => vx = .bool false, fun vx => vx = .bool false]) (by kernel_rfl) (back_of (by kernel_rfl)) (dst_of (by kernel_rfl)) (in_ofz (by kernel_rfl) z5) (fun fl w1 hfl hw => SX.start' hw B5 hfl rfl ⟨b_g1_5, b_g2_5, b_g3_5, b_g4_5, b_g5_5, trivial⟩) ?h18 ?_
  case h18 =>
    intro ix ox ax wx fl ho hS hfi clo hsz hrest hdone hund
    have t24 := (hrest 24 (not_of (by kernel_rfl))).trans s24_5
    have hs : ax.tmps.size = 71 := hsz.trans z5
    have hi : ix < 2 := (Array.getElem?_eq_some_iff.1 ho).1
    clear hrest hsz hund
    obtain rfl | rfl : ix = 0 ∨ ix = 1 := by omega
    all_goals obtain rfl := Option.some.inj (show some _ = some ox from ho)
    ·
     exact wpOp_val (v := .bool (op == 0)) (w' := wx) rfl rfl (by (simp [execOp, Act.eval, t24, go_sem]; try (simp only [IntKind.wrap_i64, wrap64]))) ⟨_, rfl, tab_put rfl hs rfl (congrArg Value.bool Ffk4.out), hS.same 0 rfl⟩
    ·
     have s36 : ax.tmps.getD 36 undef = .bool false := (hdone 0 _ rfl rfl).2 _ rfl
     exact wpOp_val (v := .bool false) (w' := wx) rfl rfl (by simp [execOp, Act.eval, s36]) ⟨_, rfl, tab_put rfl hs rfl rfl, hS.same 1 rfl⟩
  intro a6 w6 fl d6 z6 rest6 R6 hfl hS
  obtain ⟨B6, n6, hBs, hAs, hPs⟩ := hS.finish hfl rfl
  replace d6 := d6.trans d5
  replace z6 := z6.trans z5
  obtain ⟨⟨-, b_g1_6⟩, ⟨-, b_g2_6⟩, ⟨-, b_g3_6⟩, ⟨-, b_g4_6⟩, ⟨-, b_g5_6⟩, -⟩ := hBs
  have s0_6 := (rest6 0 (not_of (by kernel_rfl))).trans s0_5
  have s4_6 := (rest6 4 (not_of (by kernel_rfl))).trans s4_5
  have s5_6 := (rest6 5 (not_of (by kernel_rfl))).trans s5_5
  have s6_6 := (rest6 6 (not_of (by kernel_rfl))).trans s6_5
  have s7_6 := (rest6 7 (not_of (by kernel_rfl))).trans s7_5
  have s8_6 := (rest6 8 (not_of (by kernel_rfl))).trans s8_5
  have s24_6 := (rest6 24 (not_of (by kernel_rfl))).trans s24_5
  have s35_6 : a6.tmps.getD 35 undef = .bool false := R6 1 _ rfl
  clear R6 rest6 hS hfl hPs hAs
  clear s0_5 s4_5 s5_5 s6_5 s7_5 s8_5 s24_5 s29_5 b_g1_5 b_g2_5 b_g3_5 b_g4_5 b_g5_5 d5 z5
  refine wp_cond_false (show a6.tmps.getD 35 undef = .bool false from s35_6) ?_
  refine wp_seq ?_
  cases fk5 : op == 1
  case true =>
   have Ffk5 := Lib.hid fk5; clear fk5
   refine wp_regx (SX W w6.heap.size [⟨g1, 60, (cR a b c d), none, #[]⟩, ⟨g2, 60, (cR p q r t), none, #[]⟩, ⟨g3, 60, (cR 0 0 0 0), none, #[]⟩, ⟨g4, 95, (cU allR.u.lo allR.u.hi), none, #[]⟩, ⟨g5, 99, (cS allR.s.lo allR.s.hi), none, #[]⟩] []) (TabX [fun vx => vx = .bool true, fun vx => vx = .bool true]) (by kernel_rfl) (back_of (by kernel_rfl)) (dst_of (by kernel_rfl)) (in_ofz (by kernel_rfl) z6) (fun fl w1 hfl hw => SX.start' hw B6 hfl rfl ⟨b_g1_6, b_g2_6, b_g3_6, b_g4_6, b_g5_6, trivial⟩) ?h19 ?_
   case h19 =>
     intro ix ox ax wx fl ho hS hfi clo hsz hrest hdone hund
     have t24 := (hrest 24 (not_of (by kernel_rfl))).trans s24_6
     have hs : ax.tmps.size = 71 := hsz.trans z6
     have hi : ix < 2 := (Array.getElem?_eq_some_iff.1 ho).1
     clear hrest hsz hund
     obtain rfl | rfl : ix = 0 ∨ ix = 1 := by omega
     all_goals obtain rfl := Option.some.inj (show some _ = some ox from ho)
     ·
      exact wpOp_val (v := .bool (op == 1)) (w' := wx) rfl rfl (by (simp [execOp, Act.eval, t24, go_sem]; try (simp only [IntKind.wrap_i64, wrap64]))) ⟨_, rfl, tab_put rfl hs rfl (congrArg Value.bool Ffk5.out), hS.same 0 rfl⟩
     ·
      have s50 : ax.tmps.getD 50 undef = .bool true := (hdone 0 _ rfl rfl).2 _ rfl
      exact wpOp_val (v := .bool true) (w' := wx) rfl rfl (by simp [execOp, Act.eval, s50]) ⟨_, rfl, tab_put rfl hs rfl rfl, hS.same 1 rfl⟩
   intro a7 w7 fl d7 z7 rest7 R7 hfl hS
   obtain ⟨B7, n7, hBs, hAs, hPs⟩ := hS.finish hfl rfl
   replace d7 := d7.trans d6
   replace z7 := z7.trans z6
   obtain ⟨⟨-, b_g1_7⟩, ⟨-, b_g2_7⟩, ⟨-, b_g3_7⟩, ⟨-, b_g4_7⟩, ⟨-, b_g5_7⟩, -⟩ := hBs
   have s0_7 := (rest7 0 (not_of (by kernel_rfl))).trans s0_6
   have s4_7 := (rest7 4 (not_of (by kernel_rfl))).trans s4_6
   have s5_7 := (rest7 5 (not_of (by kernel_rfl))).trans s5_6
   have s6_7 := (rest7 6 (not_of (by kernel_rfl))).trans s6_6
   have s7_7 := (rest7 7 (not_of (by kernel_rfl))).trans s7_6
   have s8_7 := (rest7 8 (not_of (by kernel_rfl))).trans s8_6
   have s49_7 : a7.tmps.getD 49 undef = .bool true := R7 1 _ rfl
   clear R7 rest7 hS hfl hPs hAs
   clear s0_6 s4_6 s5_6 s6_6 s7_6 s8_6 s24_6 s35_6 b_g1_6 b_g2_6 b_g3_6 b_g4_6 b_g5_6 d6 z6
   refine wp_cond_true (show a7.tmps.getD 49 undef = .bool true from s49_7) ?_
   refine wp_regx (SX W w7.heap.size [⟨g1, 60, (cR a b c d), none, #[]⟩, ⟨g2, 60, (cR p q r t), none, #[]⟩, ⟨g3, 60, (cR 0 0 0 0), none, #[]⟩, ⟨g4, 95, (cU allR.u.lo allR.u.hi), some 12, (cU ((minusU ⟨a, b⟩ ⟨p, q⟩).lo) ((minusU ⟨a, b⟩ ⟨p, q⟩).hi))⟩, ⟨g5, 99, (cS allR.s.lo allR.s.hi), some 13, (cS ((minusS ⟨c, d⟩ ⟨r, t⟩).lo) ((minusS ⟨c, d⟩ ⟨r, t⟩).hi))⟩] []) (TabX [fun vx => vx = .agg #[.int .u64 a, .int .u64 b, .int .i64 c, .int .i64 d], fun vx => vx = .agg #[.int .u64 a, .int .u64 b], fun vx => vx = .agg #[.int .u64 p, .int .u64 q, .int .i64 r, .int .i64 t], fun vx => vx = .agg #[.int .u64 p, .int .u64 q], fun vx => vx = .agg #[.int .u64 allR.u.lo, .int .u64 allR.u.hi], fun vx => vx = .agg #[.int .u64 ((minusU ⟨a, b⟩ ⟨p, q⟩).lo), .int .u64 ((minusU ⟨a, b⟩ ⟨p, q⟩).hi)], fun vx => vx = .agg #[.int .u64 a, .int .u64 b, .int .i64 c, .int .i64 d], fun vx => vx = .agg #[.int .i64 c, .int .i64 d], fun vx => vx = .agg #[.int .u64 p, .int .u64 q, .int .i64 r, .int .i64 t], fun vx => vx = .agg #[.int .i64 r, .int .i64 t], fun vx => vx = .agg #[.int .i64 allR.s.lo, .int .i64 allR.s.hi], fun vx => vx = .agg #[.int .i64 ((minusS ⟨c, d⟩ ⟨r, t⟩).lo), .int .i64 ((minusS ⟨c, d⟩ ⟨r, t⟩).hi)], fun _ => True, fun _ => True]) (by kernel_rfl) (back_of (by kernel_rfl)) (dst_of (by kernel_rfl)) (in_ofz (by kernel_rfl) z7) (fun fl w1 hfl hw => SX.start' hw B7 hfl rfl ⟨b_g1_7, b_g2_7, b_g3_7, b_g4_7, b_g5_7, trivial⟩) ?h20 ?_
   case h20 =>
     intro ix ox ax wx fl ho hS hfi clo hsz hrest hdone hund
     have t4 := (hrest 4 (not_of (by kernel_rfl))).trans s4_7
     have t5 := (hrest 5 (not_of (by kernel_rfl))).trans s5_7
     have t7 := (hrest 7 (not_of (by kernel_rfl))).trans s7_7
     have t8 := (hrest 8 (not_of (by kernel_rfl))).trans s8_7
     have hs : ax.tmps.size = 71 := hsz.trans z7
     have hi : ix < 14 := (Array.getElem?_eq_some_iff.1 ho).1
     clear hrest hsz hund
     obtain rfl | rfl | rfl | rfl | rfl | rfl | rfl | rfl | rfl | rfl | rfl | rfl | rfl | rfl : ix = 0 ∨ ix = 1 ∨ ix = 2 ∨ ix = 3 ∨ ix = 4 ∨ ix = 5 ∨ ix = 6 ∨ ix = 7 ∨ ix = 8 ∨ ix = 9 ∨ ix = 10 ∨ ix = 11 ∨ ix = 12 ∨ ix = 13 := by omega
     all_goals obtain rfl := Option.some.inj (show some _ = some ox from ho)
     ·
      have hr := hS.rowNi 0 rfl
      exact wpOp_val (v := .agg #[.int .u64 a, .int .u64 b, .int .i64 c, .int .i64 d]) (w' := wx) rfl rfl (exec_loadR 60 _ rfl g1 0 (show ax.eval (.tmp 4) = .pointer (some ⟨g1, 0, none⟩) from t4) hr [.int .u64 a, .int .u64 b, .int .i64 c, .int .i64 d] rfl _ Try.underlying60 rfl (by kernel_rfl)) ⟨_, rfl, tab_put rfl hs rfl rfl, hS.same 0 rfl⟩
     ·
      have s51 : ax.tmps.getD 51 undef = .agg #[.int .u64 a, .int .u64 b, .int .i64 c, .int .i64 d] := (hdone 0 _ rfl rfl).2 _ rfl
      refine wpOp_call (args := #[.agg #[.int .u64 a, .int .u64 b, .int .i64 c, .int .i64 d]]) rfl rfl (exec_call rfl rfl rfl (args1 (show ax.eval (.tmp 51) = .agg #[.int .u64 a, .int .u64 b, .int .i64 c, .int .i64 d] from s51)) Try.func61 (by decide +kernel) rfl) ?_
      · refine (unsigned_n a b c d wx).mono ?_
        rintro e w' ⟨rfl, b9⟩
        exact ⟨_, rfl, _, rfl, tab_put rfl hs rfl rfl, hS.quiet 1 rfl b9⟩
     ·
      have hr := hS.rowNi 1 rfl
      exact wpOp_val (v := .agg #[.int .u64 p, .int .u64 q, .int .i64 r, .int .i64 t]) (w' := wx) rfl rfl (exec_loadR 60 _ rfl g2 0 (show ax.eval (.tmp 5) = .pointer (some ⟨g2, 0, none⟩) from t5) hr [.int .u64 p, .int .u64 q, .int .i64 r, .int .i64 t] rfl _ Try.underlying60 rfl (by kernel_rfl)) ⟨_, rfl, tab_put rfl hs rfl rfl, hS.same 2 rfl⟩
     ·
      have s53 : ax.tmps.getD 53 undef = .agg #[.int .u64 p, .int .u64 q, .int .i64 r, .int .i64 t] := (hdone 0 _ rfl rfl).2 _ rfl
      refine wpOp_call (args := #[.agg #[.int .u64 p, .int .u64 q, .int .i64 r, .int .i64 t]]) rfl rfl (exec_call rfl rfl rfl (args1 (show ax.eval (.tmp 53) = .agg #[.int .u64 p, .int .u64 q, .int .i64 r, .int .i64 t] from s53)) Try.func61 (by decide +kernel) rfl) ?_
      · refine (unsigned_n p q r t wx).mono ?_
        rintro e w' ⟨rfl, b9⟩
        exact ⟨_, rfl, _, rfl, tab_put rfl hs rfl rfl, hS.quiet 3 rfl b9⟩
     ·
      have hr := hS.rowFi 3 rfl (not_yet clo hfi (by kernel_rfl))
      exact wpOp_val (v := .agg #[.int .u64 allR.u.lo, .int .u64 allR.u.hi]) (w' := wx) rfl rfl (exec_loadR 95 _ rfl g4 0 (show ax.eval (.tmp 7) = .pointer (some ⟨g4, 0, none⟩) from t7) hr [.int .u64 allR.u.lo, .int .u64 allR.u.hi] rfl _ Try.underlying95 rfl (by kernel_rfl)) ⟨_, rfl, tab_put rfl hs rfl rfl, hS.same 4 rfl⟩
     ·
      have s52 : ax.tmps.getD 52 undef = .agg #[.int .u64 a, .int .u64 b] := (hdone 0 _ rfl rfl).2 _ rfl
      have s54 : ax.tmps.getD 54 undef = .agg #[.int .u64 p, .int .u64 q] := (hdone 1 _ rfl rfl).2 _ rfl
      have s55 : ax.tmps.getD 55 undef = .agg #[.int .u64 allR.u.lo, .int .u64 allR.u.hi] := (hdone 2 _ rfl rfl).2 _ rfl
      refine wpOp_call (args := #[.agg #[.int .u64 a, .int .u64 b], .agg #[.int .u64 p, .int .u64 q], .agg #[.int .u64 allR.u.lo, .int .u64 allR.u.hi]]) rfl rfl (exec_call rfl rfl rfl (args3 (show ax.eval (.tmp 52) = .agg #[.int .u64 a, .int .u64 b] from s52) (show ax.eval (.tmp 54) = .agg #[.int .u64 p, .int .u64 q] from s54) (show ax.eval (.tmp 55) = .agg #[.int .u64 allR.u.lo, .int .u64 allR.u.hi] from s55)) Try.func90 (by decide +kernel) rfl) ?_
      · refine (minusU_n a b p q wx HA.out.1 HB.out.1).mono ?_
        rintro e w' ⟨rfl, b9⟩
        exact ⟨_, rfl, _, rfl, tab_put rfl hs rfl rfl, hS.quiet 5 rfl b9⟩
     ·
      have hr := hS.rowNi 0 rfl
      exact wpOp_val (v := .agg #[.int .u64 a, .int .u64 b, .int .i64 c, .int .i64 d]) (w' := wx) rfl rfl (exec_loadR 60 _ rfl g1 0 (show ax.eval (.tmp 4) = .pointer (some ⟨g1, 0, none⟩) from t4) hr [.int .u64 a, .int .u64 b, .int .i64 c, .int .i64 d] rfl _ Try.underlying60 rfl (by kernel_rfl)) ⟨_, rfl, tab_put rfl hs rfl rfl, hS.same 6 rfl⟩
     ·
      have s57 : ax.tmps.getD 57 undef = .agg #[.int .u64 a, .int .u64 b, .int .i64 c, .int .i64 d] := (hdone 0 _ rfl rfl).2 _ rfl
      refine wpOp_call (args := #[.agg #[.int .u64 a, .int .u64 b, .int .i64 c, .int .i64 d]]) rfl rfl (exec_call rfl rfl rfl (args1 (show ax.eval (.tmp 57) = .agg #[.int .u64 a, .int .u64 b, .int .i64 c, .int .i64 d] from s57)) Try.func63 (by decide +kernel) rfl) ?_
      · refine (signed_n a b c d wx).mono ?_
        rintro e w' ⟨rfl, b9⟩
        exact ⟨_, rfl, _, rfl, tab_put rfl hs rfl rfl, hS.quiet 7 rfl b9⟩
     ·
      have hr := hS.rowNi 1 rfl
      exact wpOp_val (v := .agg #[.int .u64 p, .int .u64 q, .int .i64 r, .int .i64 t]) (w' := wx) rfl rfl (exec_loadR 60 _ rfl g2 0 (show ax.eval (.tmp 5) = .pointer (some ⟨g2, 0, none⟩) from t5) hr [.int .u64 p, .int .u64 q, .int .i64 r, .int .i64 t] rfl _ Try.underlying60 rfl (by kernel_rfl)) ⟨_, rfl, tab_put rfl hs rfl rfl, hS.same 8 rfl⟩
     ·
      have s59 : ax.tmps.getD 59 undef = .agg #[.int .u64 p, .int .u64 q, .int .i64 r, .int .i64 t] := (hdone 0 _ rfl rfl).2 _ rfl
      refine wpOp_call (args := #[.agg #[.int .u64 p, .int .u64 q, .int .i64 r, .int .i64 t]]) rfl rfl (exec_call rfl rfl rfl (args1 (show ax.eval (.tmp 59) = .agg #[.int .u64 p, .int .u64 q, .int .i64 r, .int .i64 t] from s59)) Try.func63 (by decide +kernel) rfl) ?_
      · refine (signed_n p q r t wx).mono ?_
        rintro e w' ⟨rfl, b9⟩
        exact ⟨_, rfl, _, rfl, tab_put rfl hs rfl rfl, hS.quiet 9 rfl b9⟩
     ·
      have hr := hS.rowFi 4 rfl (not_yet clo hfi (by kernel_rfl))
      exact wpOp_val (v := .agg #[.int .i64 allR.s.lo, .int .i64 allR.s.hi]) (w' := wx) rfl rfl (exec_loadR 99 _ rfl g5 0 (show ax.eval (.tmp 8) = .pointer (some ⟨g5, 0, none⟩) from t8) hr [.int .i64 allR.s.lo, .int .i64 allR.s.hi] rfl _ Try.underlying99 rfl (by kernel_rfl)) ⟨_, rfl, tab_put rfl hs rfl rfl, hS.same 10 rfl⟩
     ·
      have s58 : ax.tmps.getD 58 undef = .agg #[.int .i64 c, .int .i64 d] := (hdone 0 _ rfl rfl).2 _ rfl
      have s60 : ax.tmps.getD 60 undef = .agg #[.int .i64 r, .int .i64 t] := (hdone 1 _ rfl rfl).2 _ rfl
      have s61 : ax.tmps.getD 61 undef = .agg #[.int .i64 allR.s.lo, .int .i64 allR.s.hi] := (hdone 2 _ rfl rfl).2 _ rfl
      refine wpOp_call (args := #[.agg #[.int .i64 c, .int .i64 d], .agg #[.int .i64 r, .int .i64 t], .agg #[.int .i64 allR.s.lo, .int .i64 allR.s.hi]]) rfl rfl (exec_call rfl rfl rfl (args3 (show ax.eval (.tmp 58) = .agg #[.int .i64 c, .int .i64 d] from s58) (show ax.eval (.tmp 60) = .agg #[.int .i64 r, .int .i64 t] from s60) (show ax.eval (.tmp 61) = .agg #[.int .i64 allR.s.lo, .int .i64 allR.s.hi] from s61)) Try.func91 (by decide +kernel) rfl) ?_
      · refine (minusS_n c d r t wx HA.out.2 HB.out.2).mono ?_
        rintro e w' ⟨rfl, b9⟩
        exact ⟨_, rfl, _, rfl, tab_put rfl hs rfl rfl, hS.quiet 11 rfl b9⟩
     ·
      have s56 : ax.tmps.getD 56 undef = .agg #[.int .u64 ((minusU ⟨a, b⟩ ⟨p, q⟩).lo), .int .u64 ((minusU ⟨a, b⟩ ⟨p, q⟩).hi)] := (hdone 0 _ rfl rfl).2 _ rfl
      have hr := hS.rowFi 3 rfl hfi
      exact wpOp_skp (w' := wx.setRow g4 #[.int .u64 ((minusU ⟨a, b⟩ ⟨p, q⟩).lo), .int .u64 ((minusU ⟨a, b⟩ ⟨p, q⟩).hi)]) rfl rfl (exec_storeR 95 _ _ rfl g4 #[.int .u64 ((minusU ⟨a, b⟩ ⟨p, q⟩).lo), .int .u64 ((minusU ⟨a, b⟩ ⟨p, q⟩).hi)] (show ax.eval (.tmp 7) = .pointer (some ⟨g4, 0, none⟩) from t7) (show ax.eval (.tmp 56) = .agg #[.int .u64 ((minusU ⟨a, b⟩ ⟨p, q⟩).lo), .int .u64 ((minusU ⟨a, b⟩ ⟨p, q⟩).hi)] from s56) hr (by kernel_rfl) rfl (by simp [Value.oneCell'])) ⟨undef, rfl, trivial, hS.storeBi 12 3 rfl q_g4 rfl ⟨(show g1 ≠ g4 by omega), (show g2 ≠ g4 by omega), (show g3 ≠ g4 by omega), (show g5 ≠ g4 by omega), trivial⟩ (stored_setRow wx g4 _ _ _ hr)⟩
     ·
      have s62 : ax.tmps.getD 62 undef = .agg #[.int .i64 ((minusS ⟨c, d⟩ ⟨r, t⟩).lo), .int .i64 ((minusS ⟨c, d⟩ ⟨r, t⟩).hi)] := (hdone 0 _ rfl rfl).2 _ rfl
      have hr := hS.rowFi 4 rfl hfi
      exact wpOp_skp (w' := wx.setRow g5 #[.int .i64 ((minusS ⟨c, d⟩ ⟨r, t⟩).lo), .int .i64 ((minusS ⟨c, d⟩ ⟨r, t⟩).hi)]) rfl rfl (exec_storeR 99 _ _ rfl g5 #[.int .i64 ((minusS ⟨c, d⟩ ⟨r, t⟩).lo), .int .i64 ((minusS ⟨c, d⟩ ⟨r, t⟩).hi)] (show ax.eval (.tmp 8) = .pointer (some ⟨g5, 0, none⟩) from t8) (show ax.eval (.tmp 62) = .agg #[.int .i64 ((minusS ⟨c, d⟩ ⟨r, t⟩).lo), .int .i64 ((minusS ⟨c, d⟩ ⟨r, t⟩).hi)] from s62) hr (by kernel_rfl) rfl (by simp [Value.oneCell'])) ⟨undef, rfl, trivial, hS.storeBi 13 4 rfl q_g5 rfl ⟨(show g1 ≠ g5 by omega), (show g2 ≠ g5 by omega), (show g3 ≠ g5 by omega), (show g4 ≠ g5 by omega), trivial⟩ (stored_setRow wx g5 _ _ _ hr)⟩
   intro a8 w8 fl d8 z8 rest8 R8 hfl hS
   obtain ⟨B8, n8, hBs, hAs, hPs⟩ := hS.finish hfl rfl
   replace d8 := d8.trans d7
   replace z8 := z8.trans z7
   obtain ⟨⟨-, b_g1_8⟩, ⟨-, b_g2_8⟩, ⟨-, b_g3_8⟩, ⟨-, b_g4_8⟩, ⟨-, b_g5_8⟩, -⟩ := hBs
   have s6_8 := (rest8 6 (not_of (by kernel_rfl))).trans s6_7
   have s7_8 := (rest8 7 (not_of (by kernel_rfl))).trans s7_7
   have s8_8 := (rest8 8 (not_of (by kernel_rfl))).trans s8_7
   clear R8 rest8 hS hfl hPs hAs
   clear s0_7 s4_7 s5_7 s6_7 s7_7 s8_7 s49_7 b_g1_7 b_g2_7 b_g3_7 b_g4_7 b_g5_7 d7 z7
   refine wp_seq ?_
   refine wp_regx (SX W w8.heap.size [⟨g1, 60, (cR a b c d), none, #[]⟩, ⟨g2, 60, (cR p q r t), none, #[]⟩, ⟨g3, 60, (cR 0 0 0 0), none, #[]⟩, ⟨g4, 95, (cU ((minusU ⟨a, b⟩ ⟨p, q⟩).lo) ((minusU ⟨a, b⟩ ⟨p, q⟩).hi)), none, #[]⟩, ⟨g5, 99, (cS ((minusS ⟨c, d⟩ ⟨r, t⟩).lo) ((minusS ⟨c, d⟩ ⟨r, t⟩).hi)), none, #[]⟩] [⟨7, 9, 60, (cR 0 0 0 0), some 8, (cR ((Rg.nar ⟨minusU ⟨a, b⟩ ⟨p, q⟩, minusS ⟨c, d⟩ ⟨r, t⟩⟩).u.lo) ((Rg.nar ⟨minusU ⟨a, b⟩ ⟨p, q⟩, minusS ⟨c, d⟩ ⟨r, t⟩⟩).u.hi) ((Rg.nar ⟨minusU ⟨a, b⟩ ⟨p, q⟩, minusS ⟨c, d⟩ ⟨r, t⟩⟩).s.lo) ((Rg.nar ⟨minusU ⟨a, b⟩ ⟨p, q⟩, minusS ⟨c, d⟩ ⟨r, t⟩⟩).s.hi))⟩]) (TabX [fun vx => vx = .agg #[.int .u64 ((minusU ⟨a, b⟩ ⟨p, q⟩).lo), .int .u64 ((minusU ⟨a, b⟩ ⟨p, q⟩).hi)], fun vx => vx = .agg #[.int .i64 ((minusS ⟨c, d⟩ ⟨r, t⟩).lo), .int .i64 ((minusS ⟨c, d⟩ ⟨r, t⟩).hi)], fun vx => vx = .agg #[.int .u64 ((minusU ⟨a, b⟩ ⟨p, q⟩).lo), .int .u64 ((minusU ⟨a, b⟩ ⟨p, q⟩).hi), .int .i64 ((minusS ⟨c, d⟩ ⟨r, t⟩).lo), .int .i64 ((minusS ⟨c, d⟩ ⟨r, t⟩).hi)], fun vx => vx = .tuple #[.agg #[.int .u64 ((Rg.nar ⟨minusU ⟨a, b⟩ ⟨p, q⟩, minusS ⟨c, d⟩ ⟨r, t⟩⟩).u.lo), .int .u64 ((Rg.nar ⟨minusU ⟨a, b⟩ ⟨p, q⟩, minusS ⟨c, d⟩ ⟨r, t⟩⟩).u.hi), .int .i64 ((Rg.nar ⟨minusU ⟨a, b⟩ ⟨p, q⟩, minusS ⟨c, d⟩ ⟨r, t⟩⟩).s.lo), .int .i64 ((Rg.nar ⟨minusU ⟨a, b⟩ ⟨p, q⟩, minusS ⟨c, d⟩ ⟨r, t⟩⟩).s.hi)], .bool (Rg.narB ⟨minusU ⟨a, b⟩ ⟨p, q⟩, minusS ⟨c, d⟩ ⟨r, t⟩⟩)], fun vx => vx = .tuple #[.agg #[.int .u64 ((Rg.nar ⟨minusU ⟨a, b⟩ ⟨p, q⟩, minusS ⟨c, d⟩ ⟨r, t⟩⟩).u.lo), .int .u64 ((Rg.nar ⟨minusU ⟨a, b⟩ ⟨p, q⟩, minusS ⟨c, d⟩ ⟨r, t⟩⟩).u.hi), .int .i64 ((Rg.nar ⟨minusU ⟨a, b⟩ ⟨p, q⟩, minusS ⟨c, d⟩ ⟨r, t⟩⟩).s.lo), .int .i64 ((Rg.nar ⟨minusU ⟨a, b⟩ ⟨p, q⟩, minusS ⟨c, d⟩ ⟨r, t⟩⟩).s.hi)], .bool (Rg.narB ⟨minusU ⟨a, b⟩ ⟨p, q⟩, minusS ⟨c, d⟩ ⟨r, t⟩⟩)], fun vx => vx = .agg #[.int .u64 ((Rg.nar ⟨minusU ⟨a, b⟩ ⟨p, q⟩, minusS ⟨c, d⟩ ⟨r, t⟩⟩).u.lo), .int .u64 ((Rg.nar ⟨minusU ⟨a, b⟩ ⟨p, q⟩, minusS ⟨c, d⟩ ⟨r, t⟩⟩).u.hi), .int .i64 ((Rg.nar ⟨minusU ⟨a, b⟩ ⟨p, q⟩, minusS ⟨c, d⟩ ⟨r, t⟩⟩).s.lo), .int .i64 ((Rg.nar ⟨minusU ⟨a, b⟩ ⟨p, q⟩, minusS ⟨c, d⟩ ⟨r, t⟩⟩).s.hi)], fun vx => vx = .bool (Rg.narB ⟨minusU ⟨a, b⟩ ⟨p, q⟩, minusS ⟨c, d⟩ ⟨r, t⟩⟩), fun _ => True, fun _ => True, fun vx => vx = .bool (Rg.narB ⟨minusU ⟨a, b⟩ ⟨p, q⟩, minusS ⟨c, d⟩ ⟨r, t⟩⟩)]) (by kernel_rfl) (back_of (by kernel_rfl)) (dst_of (by kernel_rfl)) (in_ofz (by kernel_rfl) z8) (fun fl w1 hfl hw => SX.start' hw B8 hfl rfl ⟨b_g1_8, b_g2_8, b_g3_8, b_g4_8, b_g5_8, trivial⟩) ?h21 ?_
   case h21 =>
     intro ix ox ax wx fl ho hS hfi clo hsz hrest hdone hund
     have t7 := (hrest 7 (not_of (by kernel_rfl))).trans s7_8
     have t8 := (hrest 8 (not_of (by kernel_rfl))).trans s8_8
     have hs : ax.tmps.size = 71 := hsz.trans z8
     have hi : ix < 10 := (Array.getElem?_eq_some_iff.1 ho).1
     clear hrest hsz hund
     obtain rfl | rfl | rfl | rfl | rfl | rfl | rfl | rfl | rfl | rfl : ix = 0 ∨ ix = 1 ∨ ix = 2 ∨ ix = 3 ∨ ix = 4 ∨ ix = 5 ∨ ix = 6 ∨ ix = 7 ∨ ix = 8 ∨ ix = 9 := by omega
     all_goals obtain rfl := Option.some.inj (show some _ = some ox from ho)
     ·
      have hr := hS.rowNi 3 rfl
      exact wpOp_val (v := .agg #[.int .u64 ((minusU ⟨a, b⟩ ⟨p, q⟩).lo), .int .u64 ((minusU ⟨a, b⟩ ⟨p, q⟩).hi)]) (w' := wx) rfl rfl (exec_loadR 95 _ rfl g4 0 (show ax.eval (.tmp 7) = .pointer (some ⟨g4, 0, none⟩) from t7) hr [.int .u64 ((minusU ⟨a, b⟩ ⟨p, q⟩).lo), .int .u64 ((minusU ⟨a, b⟩ ⟨p, q⟩).hi)] rfl _ Try.underlying95 rfl (by kernel_rfl)) ⟨_, rfl, tab_put rfl hs rfl rfl, hS.same 0 rfl⟩
     ·
      have hr := hS.rowNi 4 rfl
      exact wpOp_val (v := .agg #[.int .i64 ((minusS ⟨c, d⟩ ⟨r, t⟩).lo), .int .i64 ((minusS ⟨c, d⟩ ⟨r, t⟩).hi)]) (w' := wx) rfl rfl (exec_loadR 99 _ rfl g5 0 (show ax.eval (.tmp 8) = .pointer (some ⟨g5, 0, none⟩) from t8) hr [.int .i64 ((minusS ⟨c, d⟩ ⟨r, t⟩).lo), .int .i64 ((minusS ⟨c, d⟩ ⟨r, t⟩).hi)] rfl _ Try.underlying99 rfl (by kernel_rfl)) ⟨_, rfl, tab_put rfl hs rfl rfl, hS.same 1 rfl⟩
     ·
      have s64 : ax.tmps.getD 64 undef = .agg #[.int .u64 ((minusU ⟨a, b⟩ ⟨p, q⟩).lo), .int .u64 ((minusU ⟨a, b⟩ ⟨p, q⟩).hi)] := (hdone 0 _ rfl rfl).2 _ rfl
      have s65 : ax.tmps.getD 65 undef = .agg #[.int .i64 ((minusS ⟨c, d⟩ ⟨r, t⟩).lo), .int .i64 ((minusS ⟨c, d⟩ ⟨r, t⟩).hi)] := (hdone 1 _ rfl rfl).2 _ rfl
      refine wpOp_call (args := #[.agg #[.int .u64 ((minusU ⟨a, b⟩ ⟨p, q⟩).lo), .int .u64 ((minusU ⟨a, b⟩ ⟨p, q⟩).hi)], .agg #[.int .i64 ((minusS ⟨c, d⟩ ⟨r, t⟩).lo), .int .i64 ((minusS ⟨c, d⟩ ⟨r, t⟩).hi)]]) rfl rfl (exec_call rfl rfl rfl (args2 (show ax.eval (.tmp 64) = .agg #[.int .u64 ((minusU ⟨a, b⟩ ⟨p, q⟩).lo), .int .u64 ((minusU ⟨a, b⟩ ⟨p, q⟩).hi)] from s64) (show ax.eval (.tmp 65) = .agg #[.int .i64 ((minusS ⟨c, d⟩ ⟨r, t⟩).lo), .int .i64 ((minusS ⟨c, d⟩ ⟨r, t⟩).hi)] from s65)) Try.func60 (by decide +kernel) rfl) ?_
      · refine (both_n ((minusU ⟨a, b⟩ ⟨p, q⟩).lo) ((minusU ⟨a, b⟩ ⟨p, q⟩).hi) ((minusS ⟨c, d⟩ ⟨r, t⟩).lo) ((minusS ⟨c, d⟩ ⟨r, t⟩).hi) wx).mono ?_
        rintro e w' ⟨rfl, b9⟩
        exact ⟨_, rfl, _, rfl, tab_put rfl hs rfl rfl, hS.quiet 2 rfl b9⟩
     ·
      have s66 : ax.tmps.getD 66 undef = .agg #[.int .u64 ((minusU ⟨a, b⟩ ⟨p, q⟩).lo), .int .u64 ((minusU ⟨a, b⟩ ⟨p, q⟩).hi), .int .i64 ((minusS ⟨c, d⟩ ⟨r, t⟩).lo), .int .i64 ((minusS ⟨c, d⟩ ⟨r, t⟩).hi)] := (hdone 0 _ rfl rfl).2 _ rfl
      refine wpOp_call (args := #[.agg #[.int .u64 ((minusU ⟨a, b⟩ ⟨p, q⟩).lo), .int .u64 ((minusU ⟨a, b⟩ ⟨p, q⟩).hi), .int .i64 ((minusS ⟨c, d⟩ ⟨r, t⟩).lo), .int .i64 ((minusS ⟨c, d⟩ ⟨r, t⟩).hi)]]) rfl rfl (exec_call rfl rfl rfl (args1 (show ax.eval (.tmp 66) = .agg #[.int .u64 ((minusU ⟨a, b⟩ ⟨p, q⟩).lo), .int .u64 ((minusU ⟨a, b⟩ ⟨p, q⟩).hi), .int .i64 ((minusS ⟨c, d⟩ ⟨r, t⟩).lo), .int .i64 ((minusS ⟨c, d⟩ ⟨r, t⟩).hi)] from s66)) Try.func28 (by decide +kernel) rfl) ?_
      · refine (narrow_n ((minusU ⟨a, b⟩ ⟨p, q⟩).lo) ((minusU ⟨a, b⟩ ⟨p, q⟩).hi) ((minusS ⟨c, d⟩ ⟨r, t⟩).lo) ((minusS ⟨c, d⟩ ⟨r, t⟩).hi) wx ⟨minusU_ok HA.out.1 HB.out.1, minusS_ok HA.out.2 HB.out.2⟩).mono ?_
        rintro e w' ⟨rfl, b9⟩
        exact ⟨_, rfl, _, rfl, tab_put rfl hs rfl rfl, hS.quiet 3 rfl b9⟩
     ·
      have s67 : ax.tmps.getD 67 undef = .tuple #[.agg #[.int .u64 ((Rg.nar ⟨minusU ⟨a, b⟩ ⟨p, q⟩, minusS ⟨c, d⟩ ⟨r, t⟩⟩).u.lo), .int .u64 ((Rg.nar ⟨minusU ⟨a, b⟩ ⟨p, q⟩, minusS ⟨c, d⟩ ⟨r, t⟩⟩).u.hi), .int .i64 ((Rg.nar ⟨minusU ⟨a, b⟩ ⟨p, q⟩, minusS ⟨c, d⟩ ⟨r, t⟩⟩).s.lo), .int .i64 ((Rg.nar ⟨minusU ⟨a, b⟩ ⟨p, q⟩, minusS ⟨c, d⟩ ⟨r, t⟩⟩).s.hi)], .bool (Rg.narB ⟨minusU ⟨a, b⟩ ⟨p, q⟩, minusS ⟨c, d⟩ ⟨r, t⟩⟩)] := (hdone 0 _ rfl rfl).2 _ rfl
      exact wpOp_val (v := .tuple #[.agg #[.int .u64 ((Rg.nar ⟨minusU ⟨a, b⟩ ⟨p, q⟩, minusS ⟨c, d⟩ ⟨r, t⟩⟩).u.lo), .int .u64 ((Rg.nar ⟨minusU ⟨a, b⟩ ⟨p, q⟩, minusS ⟨c, d⟩ ⟨r, t⟩⟩).u.hi), .int .i64 ((Rg.nar ⟨minusU ⟨a, b⟩ ⟨p, q⟩, minusS ⟨c, d⟩ ⟨r, t⟩⟩).s.lo), .int .i64 ((Rg.nar ⟨minusU ⟨a, b⟩ ⟨p, q⟩, minusS ⟨c, d⟩ ⟨r, t⟩⟩).s.hi)], .bool (Rg.narB ⟨minusU ⟨a, b⟩ ⟨p, q⟩, minusS ⟨c, d⟩ ⟨r, t⟩⟩)]) (w' := wx) rfl rfl (by (revert s67; generalize (.tuple #[.agg #[.int .u64 ((Rg.nar ⟨minusU ⟨a, b⟩ ⟨p, q⟩, minusS ⟨c, d⟩ ⟨r, t⟩⟩).u.lo), .int .u64 ((Rg.nar ⟨minusU ⟨a, b⟩ ⟨p, q⟩, minusS ⟨c, d⟩ ⟨r, t⟩⟩).u.hi), .int .i64 ((Rg.nar ⟨minusU ⟨a, b⟩ ⟨p, q⟩, minusS ⟨c, d⟩ ⟨r, t⟩⟩).s.lo), .int .i64 ((Rg.nar ⟨minusU ⟨a, b⟩ ⟨p, q⟩, minusS ⟨c, d⟩ ⟨r, t⟩⟩).s.hi)], .bool (Rg.narB ⟨minusU ⟨a, b⟩ ⟨p, q⟩, minusS ⟨c, d⟩ ⟨r, t⟩⟩)] : Value) = y0; intro s67); simp [execOp, Act.eval, s67]) ⟨_, rfl, tab_put rfl hs rfl rfl, hS.same 4 rfl⟩
     ·
      have s63 : ax.tmps.getD 63 undef = .tuple #[.agg #[.int .u64 ((Rg.nar ⟨minusU ⟨a, b⟩ ⟨p, q⟩, minusS ⟨c, d⟩ ⟨r, t⟩⟩).u.lo), .int .u64 ((Rg.nar ⟨minusU ⟨a, b⟩ ⟨p, q⟩, minusS ⟨c, d⟩ ⟨r, t⟩⟩).u.hi), .int .i64 ((Rg.nar ⟨minusU ⟨a, b⟩ ⟨p, q⟩, minusS ⟨c, d⟩ ⟨r, t⟩⟩).s.lo), .int .i64 ((Rg.nar ⟨minusU ⟨a, b⟩ ⟨p, q⟩, minusS ⟨c, d⟩ ⟨r, t⟩⟩).s.hi)], .bool (Rg.narB ⟨minusU ⟨a, b⟩ ⟨p, q⟩, minusS ⟨c, d⟩ ⟨r, t⟩⟩)] := (hdone 0 _ rfl rfl).2 _ rfl
      exact wpOp_val (v := .agg #[.int .u64 ((Rg.nar ⟨minusU ⟨a, b⟩ ⟨p, q⟩, minusS ⟨c, d⟩ ⟨r, t⟩⟩).u.lo), .int .u64 ((Rg.nar ⟨minusU ⟨a, b⟩ ⟨p, q⟩, minusS ⟨c, d⟩ ⟨r, t⟩⟩).u.hi), .int .i64 ((Rg.nar ⟨minusU ⟨a, b⟩ ⟨p, q⟩, minusS ⟨c, d⟩ ⟨r, t⟩⟩).s.lo), .int .i64 ((Rg.nar ⟨minusU ⟨a, b⟩ ⟨p, q⟩, minusS ⟨c, d⟩ ⟨r, t⟩⟩).s.hi)]) (w' := wx) rfl rfl (by simp [execOp, Act.eval, s63, go_sem]) ⟨_, rfl, tab_put rfl hs rfl rfl, hS.same 5 rfl⟩
     ·
      have s63 : ax.tmps.getD 63 undef = .tuple #[.agg #[.int .u64 ((Rg.nar ⟨minusU ⟨a, b⟩ ⟨p, q⟩, minusS ⟨c, d⟩ ⟨r, t⟩⟩).u.lo), .int .u64 ((Rg.nar ⟨minusU ⟨a, b⟩ ⟨p, q⟩, minusS ⟨c, d⟩ ⟨r, t⟩⟩).u.hi), .int .i64 ((Rg.nar ⟨minusU ⟨a, b⟩ ⟨p, q⟩, minusS ⟨c, d⟩ ⟨r, t⟩⟩).s.lo), .int .i64 ((Rg.nar ⟨minusU ⟨a, b⟩ ⟨p, q⟩, minusS ⟨c, d⟩ ⟨r, t⟩⟩).s.hi)], .bool (Rg.narB ⟨minusU ⟨a, b⟩ ⟨p, q⟩, minusS ⟨c, d⟩ ⟨r, t⟩⟩)] := (hdone 0 _ rfl rfl).2 _ rfl
      exact wpOp_val (v := .bool (Rg.narB ⟨minusU ⟨a, b⟩ ⟨p, q⟩, minusS ⟨c, d⟩ ⟨r, t⟩⟩)) (w' := wx) rfl rfl (by simp [execOp, Act.eval, s63, go_sem]) ⟨_, rfl, tab_put rfl hs rfl rfl, hS.same 6 rfl⟩
     ·
      refine wpOp_val (v := .pointer (some ⟨wx.heap.size, 0, none⟩)) (w' := wx.alloc (.cells #[.int .u64 0, .int .u64 0, .int .i64 0, .int .i64 0] 60)) rfl rfl ?_ ⟨_, rfl, trivial, hS.alloc 7 9 60 #[.int .u64 0, .int .u64 0, .int .i64 0, .int .i64 0] [] [] (some 8) #[.int .u64 ((Rg.nar ⟨minusU ⟨a, b⟩ ⟨p, q⟩, minusS ⟨c, d⟩ ⟨r, t⟩⟩).u.lo), .int .u64 ((Rg.nar ⟨minusU ⟨a, b⟩ ⟨p, q⟩, minusS ⟨c, d⟩ ⟨r, t⟩⟩).u.hi), .int .i64 ((Rg.nar ⟨minusU ⟨a, b⟩ ⟨p, q⟩, minusS ⟨c, d⟩ ⟨r, t⟩⟩).s.lo), .int .i64 ((Rg.nar ⟨minusU ⟨a, b⟩ ⟨p, q⟩, minusS ⟨c, d⟩ ⟨r, t⟩⟩).s.hi)] rfl rfl rfl (by rw [hs]; omega) (not_yet clo hfi (by kernel_rfl))⟩
      · simp [execOp, Act.eval, go_sem]
     ·
      have hd9 := (hdone 0 _ rfl rfl).1
      obtain ⟨g6, s9, n9, r9⟩ := SX.rowA hS [] [] 7 9 60 _ _ 8 rfl hd9 hfi
      have s9 : ax.tmps.getD 9 undef = .pointer (some ⟨g6, 0, none⟩) := s9
      have s68 : ax.tmps.getD 68 undef = .agg #[.int .u64 ((Rg.nar ⟨minusU ⟨a, b⟩ ⟨p, q⟩, minusS ⟨c, d⟩ ⟨r, t⟩⟩).u.lo), .int .u64 ((Rg.nar ⟨minusU ⟨a, b⟩ ⟨p, q⟩, minusS ⟨c, d⟩ ⟨r, t⟩⟩).u.hi), .int .i64 ((Rg.nar ⟨minusU ⟨a, b⟩ ⟨p, q⟩, minusS ⟨c, d⟩ ⟨r, t⟩⟩).s.lo), .int .i64 ((Rg.nar ⟨minusU ⟨a, b⟩ ⟨p, q⟩, minusS ⟨c, d⟩ ⟨r, t⟩⟩).s.hi)] := (hdone 1 _ rfl rfl).2 _ rfl
      have hr : wx.heap[g6]? = some (.cells #[.int .u64 0, .int .u64 0, .int .i64 0, .int .i64 0] 60 (0, 0)) := r9
      exact wpOp_skp (w' := wx.setRow g6 #[.int .u64 ((Rg.nar ⟨minusU ⟨a, b⟩ ⟨p, q⟩, minusS ⟨c, d⟩ ⟨r, t⟩⟩).u.lo), .int .u64 ((Rg.nar ⟨minusU ⟨a, b⟩ ⟨p, q⟩, minusS ⟨c, d⟩ ⟨r, t⟩⟩).u.hi), .int .i64 ((Rg.nar ⟨minusU ⟨a, b⟩ ⟨p, q⟩, minusS ⟨c, d⟩ ⟨r, t⟩⟩).s.lo), .int .i64 ((Rg.nar ⟨minusU ⟨a, b⟩ ⟨p, q⟩, minusS ⟨c, d⟩ ⟨r, t⟩⟩).s.hi)]) rfl rfl (exec_storeR 60 _ _ rfl g6 #[.int .u64 ((Rg.nar ⟨minusU ⟨a, b⟩ ⟨p, q⟩, minusS ⟨c, d⟩ ⟨r, t⟩⟩).u.lo), .int .u64 ((Rg.nar ⟨minusU ⟨a, b⟩ ⟨p, q⟩, minusS ⟨c, d⟩ ⟨r, t⟩⟩).u.hi), .int .i64 ((Rg.nar ⟨minusU ⟨a, b⟩ ⟨p, q⟩, minusS ⟨c, d⟩ ⟨r, t⟩⟩).s.lo), .int .i64 ((Rg.nar ⟨minusU ⟨a, b⟩ ⟨p, q⟩, minusS ⟨c, d⟩ ⟨r, t⟩⟩).s.hi)] (show ax.eval (.tmp 9) = .pointer (some ⟨g6, 0, none⟩) from s9) (show ax.eval (.tmp 68) = .agg #[.int .u64 ((Rg.nar ⟨minusU ⟨a, b⟩ ⟨p, q⟩, minusS ⟨c, d⟩ ⟨r, t⟩⟩).u.lo), .int .u64 ((Rg.nar ⟨minusU ⟨a, b⟩ ⟨p, q⟩, minusS ⟨c, d⟩ ⟨r, t⟩⟩).u.hi), .int .i64 ((Rg.nar ⟨minusU ⟨a, b⟩ ⟨p, q⟩, minusS ⟨c, d⟩ ⟨r, t⟩⟩).s.lo), .int .i64 ((Rg.nar ⟨minusU ⟨a, b⟩ ⟨p, q⟩, minusS ⟨c, d⟩ ⟨r, t⟩⟩).s.hi)] from s68) hr (by kernel_rfl) rfl (by simp [Value.oneCell'])) ⟨undef, rfl, trivial, hS.storeA 8 7 9 60 #[.int .u64 0, .int .u64 0, .int .i64 0, .int .i64 0] #[.int .u64 ((Rg.nar ⟨minusU ⟨a, b⟩ ⟨p, q⟩, minusS ⟨c, d⟩ ⟨r, t⟩⟩).u.lo), .int .u64 ((Rg.nar ⟨minusU ⟨a, b⟩ ⟨p, q⟩, minusS ⟨c, d⟩ ⟨r, t⟩⟩).u.hi), .int .i64 ((Rg.nar ⟨minusU ⟨a, b⟩ ⟨p, q⟩, minusS ⟨c, d⟩ ⟨r, t⟩⟩).s.lo), .int .i64 ((Rg.nar ⟨minusU ⟨a, b⟩ ⟨p, q⟩, minusS ⟨c, d⟩ ⟨r, t⟩⟩).s.hi)] [] [] rfl B8.size hd9 g6 s9 (by decide) rfl (stored_setRow wx g6 _ _ _ hr)⟩
     ·
      have s69 : ax.tmps.getD 69 undef = .bool (Rg.narB ⟨minusU ⟨a, b⟩ ⟨p, q⟩, minusS ⟨c, d⟩ ⟨r, t⟩⟩) := (hdone 0 _ rfl rfl).2 _ rfl
      exact wpOp_val (v := .bool (Rg.narB ⟨minusU ⟨a, b⟩ ⟨p, q⟩, minusS ⟨c, d⟩ ⟨r, t⟩⟩)) (w' := wx) rfl rfl (by simp [execOp, Act.eval, s69]) ⟨_, rfl, tab_put rfl hs rfl rfl, hS.same 9 rfl⟩
   intro a9 w9 fl d9 z9 rest9 R9 hfl hS
   obtain ⟨B9, n9, hBs, hAs, hPs⟩ := hS.finish hfl rfl
   replace d9 := d9.trans d8
   replace z9 := z9.trans z8
   obtain ⟨⟨-, b_g1_9⟩, ⟨-, b_g2_9⟩, ⟨-, b_g3_9⟩, ⟨-, b_g4_9⟩, ⟨-, b_g5_9⟩, -⟩ := hBs
   obtain ⟨⟨g6, u_g6, q_g6, b_g6_9⟩, -⟩ := hAs
   replace u_g6 : a9.tmps.getD 9 undef = .pointer (some ⟨g6, 0, none⟩) := u_g6
   have m_g6 : w8.heap.size ≤ g6 := q_g6
   replace q_g6 : W.heap.size ≤ g6 := Nat.le_trans B8.size q_g6
   have s6_9 := (rest9 6 (not_of (by kernel_rfl))).trans s6_8
   clear R9 rest9 hS hfl hPs
   clear s6_8 s7_8 s8_8 b_g1_8 b_g2_8 b_g3_8 b_g4_8 b_g5_8 d8 z8
   refine wp_seq ?_
   refine wp_regx (SX W w9.heap.size [⟨g1, 60, (cR a b c d), none, #[]⟩, ⟨g2, 60, (cR p q r t), none, #[]⟩, ⟨g3, 60, (cR 0 0 0 0), some 1, (cR ((Rg.nar ⟨minusU ⟨a, b⟩ ⟨p, q⟩, minusS ⟨c, d⟩ ⟨r, t⟩⟩).u.lo) ((Rg.nar ⟨minusU ⟨a, b⟩ ⟨p, q⟩, minusS ⟨c, d⟩ ⟨r, t⟩⟩).u.hi) ((Rg.nar ⟨minusU ⟨a, b⟩ ⟨p, q⟩, minusS ⟨c, d⟩ ⟨r, t⟩⟩).s.lo) ((Rg.nar ⟨minusU ⟨a, b⟩ ⟨p, q⟩, minusS ⟨c, d⟩ ⟨r, t⟩⟩).s.hi))⟩, ⟨g4, 95, (cU ((minusU ⟨a, b⟩ ⟨p, q⟩).lo) ((minusU ⟨a, b⟩ ⟨p, q⟩).hi)), none, #[]⟩, ⟨g5, 99, (cS ((minusS ⟨c, d⟩ ⟨r, t⟩).lo) ((minusS ⟨c, d⟩ ⟨r, t⟩).hi)), none, #[]⟩, ⟨g6, 60, (cR ((Rg.nar ⟨minusU ⟨a, b⟩ ⟨p, q⟩, minusS ⟨c, d⟩ ⟨r, t⟩⟩).u.lo) ((Rg.nar ⟨minusU ⟨a, b⟩ ⟨p, q⟩, minusS ⟨c, d⟩ ⟨r, t⟩⟩).u.hi) ((Rg.nar ⟨minusU ⟨a, b⟩ ⟨p, q⟩, minusS ⟨c, d⟩ ⟨r, t⟩⟩).s.lo) ((Rg.nar ⟨minusU ⟨a, b⟩ ⟨p, q⟩, minusS ⟨c, d⟩ ⟨r, t⟩⟩).s.hi)), none, #[]⟩] []) (TabX [fun vx => vx = .agg #[.int .u64 ((Rg.nar ⟨minusU ⟨a, b⟩ ⟨p, q⟩, minusS ⟨c, d⟩ ⟨r, t⟩⟩).u.lo), .int .u64 ((Rg.nar ⟨minusU ⟨a, b⟩ ⟨p, q⟩, minusS ⟨c, d⟩ ⟨r, t⟩⟩).u.hi), .int .i64 ((Rg.nar ⟨minusU ⟨a, b⟩ ⟨p, q⟩, minusS ⟨c, d⟩ ⟨r, t⟩⟩).s.lo), .int .i64 ((Rg.nar ⟨minusU ⟨a, b⟩ ⟨p, q⟩, minusS ⟨c, d⟩ ⟨r, t⟩⟩).s.hi)], fun _ => True]) (by kernel_rfl) (back_of (by kernel_rfl)) (dst_of (by kernel_rfl)) (in_ofz (by kernel_rfl) z9) (fun fl w1 hfl hw => SX.start' hw B9 hfl rfl ⟨b_g1_9, b_g2_9, b_g3_9, b_g4_9, b_g5_9, b_g6_9, trivial⟩) ?h22 ?_
   case h22 =>
     intro ix ox ax wx fl ho hS hfi clo hsz hrest hdone hund
     have t6 := (hrest 6 (not_of (by kernel_rfl))).trans s6_9
     have t9 := (hrest 9 (not_of (by kernel_rfl))).trans u_g6
     have hs : ax.tmps.size = 71 := hsz.trans z9
     have hi : ix < 2 := (Array.getElem?_eq_some_iff.1 ho).1
     clear hrest hsz hund
     obtain rfl | rfl : ix = 0 ∨ ix = 1 := by omega
     all_goals obtain rfl := Option.some.inj (show some _ = some ox from ho)
     ·
      have hr := hS.rowNi 5 rfl
      exact wpOp_val (v := .agg #[.int .u64 ((Rg.nar ⟨minusU ⟨a, b⟩ ⟨p, q⟩, minusS ⟨c, d⟩ ⟨r, t⟩⟩).u.lo), .int .u64 ((Rg.nar ⟨minusU ⟨a, b⟩ ⟨p, q⟩, minusS ⟨c, d⟩ ⟨r, t⟩⟩).u.hi), .int .i64 ((Rg.nar ⟨minusU ⟨a, b⟩ ⟨p, q⟩, minusS ⟨c, d⟩ ⟨r, t⟩⟩).s.lo), .int .i64 ((Rg.nar ⟨minusU ⟨a, b⟩ ⟨p, q⟩, minusS ⟨c, d⟩ ⟨r, t⟩⟩).s.hi)]) (w' := wx) rfl rfl (exec_loadR 60 _ rfl g6 0 (show ax.eval (.tmp 9) = .pointer (some ⟨g6, 0, none⟩) from t9) hr [.int .u64 ((Rg.nar ⟨minusU ⟨a, b⟩ ⟨p, q⟩, minusS ⟨c, d⟩ ⟨r, t⟩⟩).u.lo), .int .u64 ((Rg.nar ⟨minusU ⟨a, b⟩ ⟨p, q⟩, minusS ⟨c, d⟩ ⟨r, t⟩⟩).u.hi), .int .i64 ((Rg.nar ⟨minusU ⟨a, b⟩ ⟨p, q⟩, minusS ⟨c, d⟩ ⟨r, t⟩⟩).s.lo), .int .i64 ((Rg.nar ⟨minusU ⟨a, b⟩ ⟨p, q⟩, minusS ⟨c, d⟩ ⟨r, t⟩⟩).s.hi)] rfl _ Try.underlying60 rfl (by kernel_rfl)) ⟨_, rfl, tab_put rfl hs rfl rfl, hS.same 0 rfl⟩
     ·
      have s70 : ax.tmps.getD 70 undef = .agg #[.int .u64 ((Rg.nar ⟨minusU ⟨a, b⟩ ⟨p, q⟩, minusS ⟨c, d⟩ ⟨r, t⟩⟩).u.lo), .int .u64 ((Rg.nar ⟨minusU ⟨a, b⟩ ⟨p, q⟩, minusS ⟨c, d⟩ ⟨r, t⟩⟩).u.hi), .int .i64 ((Rg.nar ⟨minusU ⟨a, b⟩ ⟨p, q⟩, minusS ⟨c, d⟩ ⟨r, t⟩⟩).s.lo), .int .i64 ((Rg.nar ⟨minusU ⟨a, b⟩ ⟨p, q⟩, minusS ⟨c, d⟩ ⟨r, t⟩⟩).s.hi)] := (hdone 0 _ rfl rfl).2 _ rfl
      have hr := hS.rowFi 2 rfl hfi
      exact wpOp_skp (w' := wx.setRow g3 #[.int .u64 ((Rg.nar ⟨minusU ⟨a, b⟩ ⟨p, q⟩, minusS ⟨c, d⟩ ⟨r, t⟩⟩).u.lo), .int .u64 ((Rg.nar ⟨minusU ⟨a, b⟩ ⟨p, q⟩, minusS ⟨c, d⟩ ⟨r, t⟩⟩).u.hi), .int .i64 ((Rg.nar ⟨minusU ⟨a, b⟩ ⟨p, q⟩, minusS ⟨c, d⟩ ⟨r, t⟩⟩).s.lo), .int .i64 ((Rg.nar ⟨minusU ⟨a, b⟩ ⟨p, q⟩, minusS ⟨c, d⟩ ⟨r, t⟩⟩).s.hi)]) rfl rfl (exec_storeR 60 _ _ rfl g3 #[.int .u64 ((Rg.nar ⟨minusU ⟨a, b⟩ ⟨p, q⟩, minusS ⟨c, d⟩ ⟨r, t⟩⟩).u.lo), .int .u64 ((Rg.nar ⟨minusU ⟨a, b⟩ ⟨p, q⟩, minusS ⟨c, d⟩ ⟨r, t⟩⟩).u.hi), .int .i64 ((Rg.nar ⟨minusU ⟨a, b⟩ ⟨p, q⟩, minusS ⟨c, d⟩ ⟨r, t⟩⟩).s.lo), .int .i64 ((Rg.nar ⟨minusU ⟨a, b⟩ ⟨p, q⟩, minusS ⟨c, d⟩ ⟨r, t⟩⟩).s.hi)] (show ax.eval (.tmp 6) = .pointer (some ⟨g3, 0, none⟩) from t6) (show ax.eval (.tmp 70) = .agg #[.int .u64 ((Rg.nar ⟨minusU ⟨a, b⟩ ⟨p, q⟩, minusS ⟨c, d⟩ ⟨r, t⟩⟩).u.lo), .int .u64 ((Rg.nar ⟨minusU ⟨a, b⟩ ⟨p, q⟩, minusS ⟨c, d⟩ ⟨r, t⟩⟩).u.hi), .int .i64 ((Rg.nar ⟨minusU ⟨a, b⟩ ⟨p, q⟩, minusS ⟨c, d⟩ ⟨r, t⟩⟩).s.lo), .int .i64 ((Rg.nar ⟨minusU ⟨a, b⟩ ⟨p, q⟩, minusS ⟨c, d⟩ ⟨r, t⟩⟩).s.hi)] from s70) hr (by kernel_rfl) rfl (by simp [Value.oneCell'])) ⟨undef, rfl, trivial, hS.storeBi 1 2 rfl q_g3 rfl ⟨(show g1 ≠ g3 by omega), (show g2 ≠ g3 by omega), (show g4 ≠ g3 by omega), (show g5 ≠ g3 by omega), (show g6 ≠ g3 by omega), trivial⟩ (stored_setRow wx g3 _ _ _ hr)⟩
   intro a10 w10 fl d10 z10 rest10 R10 hfl hS
   obtain ⟨B10, n10, hBs, hAs, hPs⟩ := hS.finish hfl rfl
   replace d10 := d10.trans d9
   replace z10 := z10.trans z9
   obtain ⟨⟨-, b_g1_10⟩, ⟨-, b_g2_10⟩, ⟨-, b_g3_10⟩, ⟨-, b_g4_10⟩, ⟨-, b_g5_10⟩, ⟨l_g6_10, b_g6_10⟩, -⟩ := hBs
   replace l_g6_10 : g6 < w9.heap.size := l_g6_10
   have s6_10 := (rest10 6 (not_of (by kernel_rfl))).trans s6_9
   clear R10 rest10 hS hfl hPs hAs
   clear u_g6 s6_9 b_g1_9 b_g2_9 b_g3_9 b_g4_9 b_g5_9 b_g6_9 d9 z9
   refine wp_ret ?_
   try simp only [Exit.inBlock, Exit.then]
   refine bodyPost_ret (res_c (fn := Try.f42) rfl s6_10 (load_row 60 b_g3_10 Try.underlying60 rfl (by kernel_rfl))) d10 ?_
   have no11 := nb Ffk3.out
   have no0 := nb Ffk4.out
   have ho : op = 1 := yb Ffk5.out
   have HD : (⟨doU op ⟨⟨a, b⟩, ⟨c, d⟩⟩ ⟨⟨p, q⟩, ⟨r, t⟩⟩, doS op ⟨⟨a, b⟩, ⟨c, d⟩⟩ ⟨⟨p, q⟩, ⟨r, t⟩⟩⟩ : Rg) = ⟨minusU ⟨a, b⟩ ⟨p, q⟩, minusS ⟨c, d⟩ ⟨r, t⟩⟩ := by
     unfold doU doS
     simp only [if_neg no11, if_neg no0, if_pos ho]
     try rfl
   have HE : (.agg #[.int .u64 ((Rg.nar ⟨minusU ⟨a, b⟩ ⟨p, q⟩, minusS ⟨c, d⟩ ⟨r, t⟩⟩).u.lo), .int .u64 ((Rg.nar ⟨minusU ⟨a, b⟩ ⟨p, q⟩, minusS ⟨c, d⟩ ⟨r, t⟩⟩).u.hi), .int .i64 ((Rg.nar ⟨minusU ⟨a, b⟩ ⟨p, q⟩, minusS ⟨c, d⟩ ⟨r, t⟩⟩).s.lo), .int .i64 ((Rg.nar ⟨minusU ⟨a, b⟩ ⟨p, q⟩, minusS ⟨c, d⟩ ⟨r, t⟩⟩).s.hi)] : Value) = Rg.val (Rg.doR op ⟨⟨a, b⟩, ⟨c, d⟩⟩ ⟨⟨p, q⟩, ⟨r, t⟩⟩) := by unfold Rg.doR; rw [Ffk1.out, Ffk2.out, if_pos (by rfl), HD]; try rfl
   exact ⟨retV HE, B10⟩
  have Ffk5 := Lib.hid fk5; clear fk5
  refine wp_regx (SX W w6.heap.size [⟨g1, 60, (cR a b c d), none, #[]⟩, ⟨g2, 60, (cR p q r t), none, #[]⟩, ⟨g3, 60, (cR 0 0 0 0), none, #[]⟩, ⟨g4, 95, (cU allR.u.lo allR.u.hi), none, #[]⟩, ⟨g5, 99, (cS allR.s.lo allR.s.hi), none, #[]⟩] []) (TabX [fun vx => vx = .bool false, fun vx => vx = .bool false]) (by kernel_rfl) (back_of (by kernel_rfl)) (dst_of (by kernel_rfl)) (in_ofz (by kernel_rfl) z6) (fun fl w1 hfl hw => SX.start' hw B6 hfl rfl ⟨b_g1_6, b_g2_6, b_g3_6, b_g4_6, b_g5_6, trivial⟩) ?h23 ?_
  case h23 =>
    intro ix ox ax wx fl ho hS hfi clo hsz hrest hdone hund
    have t24 := (hrest 24 (not_of (by kernel_rfl))).trans s24_6
    have hs : ax.tmps.size = 71 := hsz.trans z6
    have hi : ix < 2 := (Array.getElem?_eq_some_iff.1 ho).1
    clear hrest hsz hund
    obtain rfl | rfl : ix = 0 ∨ ix = 1 := by omega
    all_goals obtain rfl := Option.some.inj (show some _ = some ox from ho)
    ·
     exact wpOp_val (v := .bool (op == 1)) (w' := wx) rfl rfl (by (simp [execOp, Act.eval, t24, go_sem]; try (simp only [IntKind.wrap_i64, wrap64]))) ⟨_, rfl, tab_put rfl hs rfl (congrArg Value.bool Ffk5.out), hS.same 0 rfl⟩
    ·
     have s50 : ax.tmps.getD 50 undef = .bool false := (hdone 0 _ rfl rfl).2 _ rfl
     exact wpOp_val (v := .bool false) (w' := wx) rfl rfl (by simp [execOp, Act.eval, s50]) ⟨_, rfl, tab_put rfl hs rfl rfl, hS.same 1 rfl⟩
  intro a7 w7 fl d7 z7 rest7 R7 hfl hS
  obtain ⟨B7, n7, hBs, hAs, hPs⟩ := hS.finish hfl rfl
  replace d7 := d7.trans d6
  replace z7 := z7.trans z6
  obtain ⟨⟨-, b_g1_7⟩, ⟨-, b_g2_7⟩, ⟨-, b_g3_7⟩, ⟨-, b_g4_7⟩, ⟨-, b_g5_7⟩, -⟩ := hBs
  have s0_7 := (rest7 0 (not_of (by kernel_rfl))).trans s0_6
  have s4_7 := (rest7 4 (not_of (by kernel_rfl))).trans s4_6
  have s5_7 := (rest7 5 (not_of (by kernel_rfl))).trans s5_6
  have s6_7 := (rest7 6 (not_of (by kernel_rfl))).trans s6_6
  have s7_7 := (rest7 7 (not_of (by kernel_rfl))).trans s7_6
  have s8_7 := (rest7 8 (not_of (by kernel_rfl))).trans s8_6
  have s49_7 : a7.tmps.getD 49 undef = .bool false := R7 1 _ rfl
  clear R7 rest7 hS hfl hPs hAs
  clear s0_6 s4_6 s5_6 s6_6 s7_6 s8_6 s24_6 s35_6 b_g1_6 b_g2_6 b_g3_6 b_g4_6 b_g5_6 d6 z6
  refine wp_cond_false (show a7.tmps.getD 49 undef = .bool false from s49_7) ?_
  refine wp_regx (SX W w7.heap.size [⟨g1, 60, (cR a b c d), none, #[]⟩, ⟨g2, 60, (cR p q r t), none, #[]⟩, ⟨g3, 60, (cR 0 0 0 0), none, #[]⟩, ⟨g4, 95, (cU allR.u.lo allR.u.hi), some 4, (cU ((restU op ⟨⟨a, b⟩, ⟨c, d⟩⟩ ⟨⟨p, q⟩, ⟨r, t⟩⟩).lo) ((restU op ⟨⟨a, b⟩, ⟨c, d⟩⟩ ⟨⟨p, q⟩, ⟨r, t⟩⟩).hi))⟩, ⟨g5, 99, (cS allR.s.lo allR.s.hi), none, #[]⟩] []) (TabX [fun vx => vx = .int .i8 op, fun vx => vx = .agg #[.int .u64 a, .int .u64 b, .int .i64 c, .int .i64 d], fun vx => vx = .agg #[.int .u64 p, .int .u64 q, .int .i64 r, .int .i64 t], fun vx => vx = .agg #[.int .u64 ((restU op ⟨⟨a, b⟩, ⟨c, d⟩⟩ ⟨⟨p, q⟩, ⟨r, t⟩⟩).lo), .int .u64 ((restU op ⟨⟨a, b⟩, ⟨c, d⟩⟩ ⟨⟨p, q⟩, ⟨r, t⟩⟩).hi)], fun _ => True]) (by kernel_rfl) (back_of (by kernel_rfl)) (dst_of (by kernel_rfl)) (in_ofz (by kernel_rfl) z7) (fun fl w1 hfl hw => SX.start' hw B7 hfl rfl ⟨b_g1_7, b_g2_7, b_g3_7, b_g4_7, b_g5_7, trivial⟩) ?h24 ?_
  case h24 =>
    intro ix ox ax wx fl ho hS hfi clo hsz hrest hdone hund
    have t0 := (hrest 0 (not_of (by kernel_rfl))).trans s0_7
    have t4 := (hrest 4 (not_of (by kernel_rfl))).trans s4_7
    have t5 := (hrest 5 (not_of (by kernel_rfl))).trans s5_7
    have t7 := (hrest 7 (not_of (by kernel_rfl))).trans s7_7
    have hs : ax.tmps.size = 71 := hsz.trans z7
    have hi : ix < 5 := (Array.getElem?_eq_some_iff.1 ho).1
    clear hrest hsz hund
    obtain rfl | rfl | rfl | rfl | rfl : ix = 0 ∨ ix = 1 ∨ ix = 2 ∨ ix = 3 ∨ ix = 4 := by omega
    all_goals obtain rfl := Option.some.inj (show some _ = some ox from ho)
    ·
     exact wpOp_val (v := .int .i8 op) (w' := wx) rfl rfl (by simp [execOp, Act.eval, t0]) ⟨_, rfl, tab_put rfl hs rfl rfl, hS.same 0 rfl⟩
    ·
     have hr := hS.rowNi 0 rfl
     exact wpOp_val (v := .agg #[.int .u64 a, .int .u64 b, .int .i64 c, .int .i64 d]) (w' := wx) rfl rfl (exec_loadR 60 _ rfl g1 0 (show ax.eval (.tmp 4) = .pointer (some ⟨g1, 0, none⟩) from t4) hr [.int .u64 a, .int .u64 b, .int .i64 c, .int .i64 d] rfl _ Try.underlying60 rfl (by kernel_rfl)) ⟨_, rfl, tab_put rfl hs rfl rfl, hS.same 1 rfl⟩
    ·
     have hr := hS.rowNi 1 rfl
     exact wpOp_val (v := .agg #[.int .u64 p, .int .u64 q, .int .i64 r, .int .i64 t]) (w' := wx) rfl rfl (exec_loadR 60 _ rfl g2 0 (show ax.eval (.tmp 5) = .pointer (some ⟨g2, 0, none⟩) from t5) hr [.int .u64 p, .int .u64 q, .int .i64 r, .int .i64 t] rfl _ Try.underlying60 rfl (by kernel_rfl)) ⟨_, rfl, tab_put rfl hs rfl rfl, hS.same 2 rfl⟩
    ·
     have s25 : ax.tmps.getD 25 undef = .int .i8 op := (hdone 0 _ rfl rfl).2 _ rfl
     have s26 : ax.tmps.getD 26 undef = .agg #[.int .u64 a, .int .u64 b, .int .i64 c, .int .i64 d] := (hdone 1 _ rfl rfl).2 _ rfl
     have s27 : ax.tmps.getD 27 undef = .agg #[.int .u64 p, .int .u64 q, .int .i64 r, .int .i64 t] := (hdone 2 _ rfl rfl).2 _ rfl
     refine wpOp_call (args := #[.int .i8 op, .agg #[.int .u64 a, .int .u64 b, .int .i64 c, .int .i64 d], .agg #[.int .u64 p, .int .u64 q, .int .i64 r, .int .i64 t]]) rfl rfl (exec_call rfl rfl rfl (args3 (show ax.eval (.tmp 25) = .int .i8 op from s25) (show ax.eval (.tmp 26) = .agg #[.int .u64 a, .int .u64 b, .int .i64 c, .int .i64 d] from s26) (show ax.eval (.tmp 27) = .agg #[.int .u64 p, .int .u64 q, .int .i64 r, .int .i64 t] from s27)) Try.func92 (by decide +kernel) rfl) ?_
     · refine (rest_n op a b c d p q r t wx ⟨HA.out.1, HB.out.1⟩ ((may_iff ⟨⟨p, q⟩, ⟨r, t⟩⟩).1 Ffk2.out).1).mono ?_
       rintro e w' ⟨rfl, b9⟩
       exact ⟨_, rfl, _, rfl, tab_put rfl hs rfl rfl, hS.quiet 3 rfl b9⟩
    ·
     have s28 : ax.tmps.getD 28 undef = .agg #[.int .u64 ((restU op ⟨⟨a, b⟩, ⟨c, d⟩⟩ ⟨⟨p, q⟩, ⟨r, t⟩⟩).lo), .int .u64 ((restU op ⟨⟨a, b⟩, ⟨c, d⟩⟩ ⟨⟨p, q⟩, ⟨r, t⟩⟩).hi)] := (hdone 0 _ rfl rfl).2 _ rfl
     have hr := hS.rowFi 3 rfl hfi
     exact wpOp_skp (w' := wx.setRow g4 #[.int .u64 ((restU op ⟨⟨a, b⟩, ⟨c, d⟩⟩ ⟨⟨p, q⟩, ⟨r, t⟩⟩).lo), .int .u64 ((restU op ⟨⟨a, b⟩, ⟨c, d⟩⟩ ⟨⟨p, q⟩, ⟨r, t⟩⟩).hi)]) rfl rfl (exec_storeR 95 _ _ rfl g4 #[.int .u64 ((restU op ⟨⟨a, b⟩, ⟨c, d⟩⟩ ⟨⟨p, q⟩, ⟨r, t⟩⟩).lo), .int .u64 ((restU op ⟨⟨a, b⟩, ⟨c, d⟩⟩ ⟨⟨p, q⟩, ⟨r, t⟩⟩).hi)] (show ax.eval (.tmp 7) = .pointer (some ⟨g4, 0, none⟩) from t7) (show ax.eval (.tmp 28) = .agg #[.int .u64 ((restU op ⟨⟨a, b⟩, ⟨c, d⟩⟩ ⟨⟨p, q⟩, ⟨r, t⟩⟩).lo), .int .u64 ((restU op ⟨⟨a, b⟩, ⟨c, d⟩⟩ ⟨⟨p, q⟩, ⟨r, t⟩⟩).hi)] from s28) hr (by kernel_rfl) rfl (by simp [Value.oneCell'])) ⟨undef, rfl, trivial, hS.storeBi 4 3 rfl q_g4 rfl ⟨(show g1 ≠ g4 by omega), (show g2 ≠ g4 by omega), (show g3 ≠ g4 by omega), (show g5 ≠ g4 by omega), trivial⟩ (stored_setRow wx g4 _ _ _ hr)⟩
  intro a8 w8 fl d8 z8 rest8 R8 hfl hS
  obtain ⟨B8, n8, hBs, hAs, hPs⟩ := hS.finish hfl rfl
  replace d8 := d8.trans d7
  replace z8 := z8.trans z7
  obtain ⟨⟨-, b_g1_8⟩, ⟨-, b_g2_8⟩, ⟨-, b_g3_8⟩, ⟨-, b_g4_8⟩, ⟨-, b_g5_8⟩, -⟩ := hBs
  have s6_8 := (rest8 6 (not_of (by kernel_rfl))).trans s6_7
  have s7_8 := (rest8 7 (not_of (by kernel_rfl))).trans s7_7
  have s8_8 := (rest8 8 (not_of (by kernel_rfl))).trans s8_7
  clear R8 rest8 hS hfl hPs hAs
  clear s0_7 s4_7 s5_7 s6_7 s7_7 s8_7 s49_7 b_g1_7 b_g2_7 b_g3_7 b_g4_7 b_g5_7 d7 z7
  refine wp_seq ?_
  refine wp_regx (SX W w8.heap.size [⟨g1, 60, (cR a b c d), none, #[]⟩, ⟨g2, 60, (cR p q r t), none, #[]⟩, ⟨g3, 60, (cR 0 0 0 0), none, #[]⟩, ⟨g4, 95, (cU ((restU op ⟨⟨a, b⟩, ⟨c, d⟩⟩ ⟨⟨p, q⟩, ⟨r, t⟩⟩).lo) ((restU op ⟨⟨a, b⟩, ⟨c, d⟩⟩ ⟨⟨p, q⟩, ⟨r, t⟩⟩).hi)), none, #[]⟩, ⟨g5, 99, (cS allR.s.lo allR.s.hi), none, #[]⟩] [⟨7, 9, 60, (cR 0 0 0 0), some 8, (cR ((Rg.nar ⟨restU op ⟨⟨a, b⟩, ⟨c, d⟩⟩ ⟨⟨p, q⟩, ⟨r, t⟩⟩, allR.s⟩).u.lo) ((Rg.nar ⟨restU op ⟨⟨a, b⟩, ⟨c, d⟩⟩ ⟨⟨p, q⟩, ⟨r, t⟩⟩, allR.s⟩).u.hi) ((Rg.nar ⟨restU op ⟨⟨a, b⟩, ⟨c, d⟩⟩ ⟨⟨p, q⟩, ⟨r, t⟩⟩, allR.s⟩).s.lo) ((Rg.nar ⟨restU op ⟨⟨a, b⟩, ⟨c, d⟩⟩ ⟨⟨p, q⟩, ⟨r, t⟩⟩, allR.s⟩).s.hi))⟩]) (TabX [fun vx => vx = .agg #[.int .u64 ((restU op ⟨⟨a, b⟩, ⟨c, d⟩⟩ ⟨⟨p, q⟩, ⟨r, t⟩⟩).lo), .int .u64 ((restU op ⟨⟨a, b⟩, ⟨c, d⟩⟩ ⟨⟨p, q⟩, ⟨r, t⟩⟩).hi)], fun vx => vx = .agg #[.int .i64 allR.s.lo, .int .i64 allR.s.hi], fun vx => vx = .agg #[.int .u64 ((restU op ⟨⟨a, b⟩, ⟨c, d⟩⟩ ⟨⟨p, q⟩, ⟨r, t⟩⟩).lo), .int .u64 ((restU op ⟨⟨a, b⟩, ⟨c, d⟩⟩ ⟨⟨p, q⟩, ⟨r, t⟩⟩).hi), .int .i64 allR.s.lo, .int .i64 allR.s.hi], fun vx => vx = .tuple #[.agg #[.int .u64 ((Rg.nar ⟨restU op ⟨⟨a, b⟩, ⟨c, d⟩⟩ ⟨⟨p, q⟩, ⟨r, t⟩⟩, allR.s⟩).u.lo), .int .u64 ((Rg.nar ⟨restU op ⟨⟨a, b⟩, ⟨c, d⟩⟩ ⟨⟨p, q⟩, ⟨r, t⟩⟩, allR.s⟩).u.hi), .int .i64 ((Rg.nar ⟨restU op ⟨⟨a, b⟩, ⟨c, d⟩⟩ ⟨⟨p, q⟩, ⟨r, t⟩⟩, allR.s⟩).s.lo), .int .i64 ((Rg.nar ⟨restU op ⟨⟨a, b⟩, ⟨c, d⟩⟩ ⟨⟨p, q⟩, ⟨r, t⟩⟩, allR.s⟩).s.hi)], .bool (Rg.narB ⟨restU op ⟨⟨a, b⟩, ⟨c, d⟩⟩ ⟨⟨p, q⟩, ⟨r, t⟩⟩, allR.s⟩)], fun vx => vx = .tuple #[.agg #[.int .u64 ((Rg.nar ⟨restU op ⟨⟨a, b⟩, ⟨c, d⟩⟩ ⟨⟨p, q⟩, ⟨r, t⟩⟩, allR.s⟩).u.lo), .int .u64 ((Rg.nar ⟨restU op ⟨⟨a, b⟩, ⟨c, d⟩⟩ ⟨⟨p, q⟩, ⟨r, t⟩⟩, allR.s⟩).u.hi), .int .i64 ((Rg.nar ⟨restU op ⟨⟨a, b⟩, ⟨c, d⟩⟩ ⟨⟨p, q⟩, ⟨r, t⟩⟩, allR.s⟩).s.lo), .int .i64 ((Rg.nar ⟨restU op ⟨⟨a, b⟩, ⟨c, d⟩⟩ ⟨⟨p, q⟩, ⟨r, t⟩⟩, allR.s⟩).s.hi)], .bool (Rg.narB ⟨restU op ⟨⟨a, b⟩, ⟨c, d⟩⟩ ⟨⟨p, q⟩, ⟨r, t⟩⟩, allR.s⟩)], fun vx => vx = .agg #[.int .u64 ((Rg.nar ⟨restU op ⟨⟨a, b⟩, ⟨c, d⟩⟩ ⟨⟨p, q⟩, ⟨r, t⟩⟩, allR.s⟩).u.lo), .int .u64 ((Rg.nar ⟨restU op ⟨⟨a, b⟩, ⟨c, d⟩⟩ ⟨⟨p, q⟩, ⟨r, t⟩⟩, allR.s⟩).u.hi), .int .i64 ((Rg.nar ⟨restU op ⟨⟨a, b⟩, ⟨c, d⟩⟩ ⟨⟨p, q⟩, ⟨r, t⟩⟩, allR.s⟩).s.lo), .int .i64 ((Rg.nar ⟨restU op ⟨⟨a, b⟩, ⟨c, d⟩⟩ ⟨⟨p, q⟩, ⟨r, t⟩⟩, allR.s⟩).s.hi)], fun vx => vx = .bool (Rg.narB ⟨restU op ⟨⟨a, b⟩, ⟨c, d⟩⟩ ⟨⟨p, q⟩, ⟨r, t⟩⟩, allR.s⟩), fun _ => True, fun _ => True, fun vx => vx = .bool (Rg.narB ⟨restU op ⟨⟨a, b⟩, ⟨c, d⟩⟩ ⟨⟨p, q⟩, ⟨r, t⟩⟩, allR.s⟩)]) (by kernel_rfl) (back_of (by kernel_rfl)) (dst_of (by kernel_rfl)) (in_ofz (by kernel_rfl) z8) (fun fl w1 hfl hw => SX.start' hw B8 hfl rfl ⟨b_g1_8, b_g2_8, b_g3_8, b_g4_8, b_g5_8, trivial⟩) ?h25 ?_
  case h25 =>
    intro ix ox ax wx fl ho hS hfi clo hsz hrest hdone hund
    have t7 := (hrest 7 (not_of (by kernel_rfl))).trans s7_8
    have t8 := (hrest 8 (not_of (by kernel_rfl))).trans s8_8
    have hs : ax.tmps.size = 71 := hsz.trans z8
    have hi : ix < 10 := (Array.getElem?_eq_some_iff.1 ho).1
    clear hrest hsz hund
    obtain rfl | rfl | rfl | rfl | rfl | rfl | rfl | rfl | rfl | rfl : ix = 0 ∨ ix = 1 ∨ ix = 2 ∨ ix = 3 ∨ ix = 4 ∨ ix = 5 ∨ ix = 6 ∨ ix = 7 ∨ ix = 8 ∨ ix = 9 := by omega
    all_goals obtain rfl := Option.some.inj (show some _ = some ox from ho)
    ·
     have hr := hS.rowNi 3 rfl
     exact wpOp_val (v := .agg #[.int .u64 ((restU op ⟨⟨a, b⟩, ⟨c, d⟩⟩ ⟨⟨p, q⟩, ⟨r, t⟩⟩).lo), .int .u64 ((restU op ⟨⟨a, b⟩, ⟨c, d⟩⟩ ⟨⟨p, q⟩, ⟨r, t⟩⟩).hi)]) (w' := wx) rfl rfl (exec_loadR 95 _ rfl g4 0 (show ax.eval (.tmp 7) = .pointer (some ⟨g4, 0, none⟩) from t7) hr [.int .u64 ((restU op ⟨⟨a, b⟩, ⟨c, d⟩⟩ ⟨⟨p, q⟩, ⟨r, t⟩⟩).lo), .int .u64 ((restU op ⟨⟨a, b⟩, ⟨c, d⟩⟩ ⟨⟨p, q⟩, ⟨r, t⟩⟩).hi)] rfl _ Try.underlying95 rfl (by kernel_rfl)) ⟨_, rfl, tab_put rfl hs rfl rfl, hS.same 0 rfl⟩
    ·
     have hr := hS.rowNi 4 rfl
     exact wpOp_val (v := .agg #[.int .i64 allR.s.lo, .int .i64 allR.s.hi]) (w' := wx) rfl rfl (exec_loadR 99 _ rfl g5 0 (show ax.eval (.tmp 8) = .pointer (some ⟨g5, 0, none⟩) from t8) hr [.int .i64 allR.s.lo, .int .i64 allR.s.hi] rfl _ Try.underlying99 rfl (by kernel_rfl)) ⟨_, rfl, tab_put rfl hs rfl rfl, hS.same 1 rfl⟩
    ·
     have s64 : ax.tmps.getD 64 undef = .agg #[.int .u64 ((restU op ⟨⟨a, b⟩, ⟨c, d⟩⟩ ⟨⟨p, q⟩, ⟨r, t⟩⟩).lo), .int .u64 ((restU op ⟨⟨a, b⟩, ⟨c, d⟩⟩ ⟨⟨p, q⟩, ⟨r, t⟩⟩).hi)] := (hdone 0 _ rfl rfl).2 _ rfl
     have s65 : ax.tmps.getD 65 undef = .agg #[.int .i64 allR.s.lo, .int .i64 allR.s.hi] := (hdone 1 _ rfl rfl).2 _ rfl
     refine wpOp_call (args := #[.agg #[.int .u64 ((restU op ⟨⟨a, b⟩, ⟨c, d⟩⟩ ⟨⟨p, q⟩, ⟨r, t⟩⟩).lo), .int .u64 ((restU op ⟨⟨a, b⟩, ⟨c, d⟩⟩ ⟨⟨p, q⟩, ⟨r, t⟩⟩).hi)], .agg #[.int .i64 allR.s.lo, .int .i64 allR.s.hi]]) rfl rfl (exec_call rfl rfl rfl (args2 (show ax.eval (.tmp 64) = .agg #[.int .u64 ((restU op ⟨⟨a, b⟩, ⟨c, d⟩⟩ ⟨⟨p, q⟩, ⟨r, t⟩⟩).lo), .int .u64 ((restU op ⟨⟨a, b⟩, ⟨c, d⟩⟩ ⟨⟨p, q⟩, ⟨r, t⟩⟩).hi)] from s64) (show ax.eval (.tmp 65) = .agg #[.int .i64 allR.s.lo, .int .i64 allR.s.hi] from s65)) Try.func60 (by decide +kernel) rfl) ?_
     · refine (both_n ((restU op ⟨⟨a, b⟩, ⟨c, d⟩⟩ ⟨⟨p, q⟩, ⟨r, t⟩⟩).lo) ((restU op ⟨⟨a, b⟩, ⟨c, d⟩⟩ ⟨⟨p, q⟩, ⟨r, t⟩⟩).hi) allR.s.lo allR.s.hi wx).mono ?_
       rintro e w' ⟨rfl, b9⟩
       exact ⟨_, rfl, _, rfl, tab_put rfl hs rfl rfl, hS.quiet 2 rfl b9⟩
    ·
     have s66 : ax.tmps.getD 66 undef = .agg #[.int .u64 ((restU op ⟨⟨a, b⟩, ⟨c, d⟩⟩ ⟨⟨p, q⟩, ⟨r, t⟩⟩).lo), .int .u64 ((restU op ⟨⟨a, b⟩, ⟨c, d⟩⟩ ⟨⟨p, q⟩, ⟨r, t⟩⟩).hi), .int .i64 allR.s.lo, .int .i64 allR.s.hi] := (hdone 0 _ rfl rfl).2 _ rfl
     refine wpOp_call (args := #[.agg #[.int .u64 ((restU op ⟨⟨a, b⟩, ⟨c, d⟩⟩ ⟨⟨p, q⟩, ⟨r, t⟩⟩).lo), .int .u64 ((restU op ⟨⟨a, b⟩, ⟨c, d⟩⟩ ⟨⟨p, q⟩, ⟨r, t⟩⟩).hi), .int .i64 allR.s.lo, .int .i64 allR.s.hi]]) rfl rfl (exec_call rfl rfl rfl (args1 (show ax.eval (.tmp 66) = .agg #[.int .u64 ((restU op ⟨⟨a, b⟩, ⟨c, d⟩⟩ ⟨⟨p, q⟩, ⟨r, t⟩⟩).lo), .int .u64 ((restU op ⟨⟨a, b⟩, ⟨c, d⟩⟩ ⟨⟨p, q⟩, ⟨r, t⟩⟩).hi), .int .i64 allR.s.lo, .int .i64 allR.s.hi] from s66)) Try.func28 (by decide +kernel) rfl) ?_
     · refine (narrow_n ((restU op ⟨⟨a, b⟩, ⟨c, d⟩⟩ ⟨⟨p, q⟩, ⟨r, t⟩⟩).lo) ((restU op ⟨⟨a, b⟩, ⟨c, d⟩⟩ ⟨⟨p, q⟩, ⟨r, t⟩⟩).hi) allR.s.lo allR.s.hi wx ⟨restU_ok op (a := ⟨⟨a, b⟩, ⟨c, d⟩⟩) (b := ⟨⟨p, q⟩, ⟨r, t⟩⟩) HA.out.1 HB.out.1 ((may_iff _).1 Ffk2.out).1, S_all⟩).mono ?_
       rintro e w' ⟨rfl, b9⟩
       exact ⟨_, rfl, _, rfl, tab_put rfl hs rfl rfl, hS.quiet 3 rfl b9⟩
    ·
     have s67 : ax.tmps.getD 67 undef = .tuple #[.agg #[.int .u64 ((Rg.nar ⟨restU op ⟨⟨a, b⟩, ⟨c, d⟩⟩ ⟨⟨p, q⟩, ⟨r, t⟩⟩, allR.s⟩).u.lo), .int .u64 ((Rg.nar ⟨restU op ⟨⟨a, b⟩, ⟨c, d⟩⟩ ⟨⟨p, q⟩, ⟨r, t⟩⟩, allR.s⟩).u.hi), .int .i64 ((Rg.nar ⟨restU op ⟨⟨a, b⟩, ⟨c, d⟩⟩ ⟨⟨p, q⟩, ⟨r, t⟩⟩, allR.s⟩).s.lo), .int .i64 ((Rg.nar ⟨restU op ⟨⟨a, b⟩, ⟨c, d⟩⟩ ⟨⟨p, q⟩, ⟨r, t⟩⟩, allR.s⟩).s.hi)], .bool (Rg.narB ⟨restU op ⟨⟨a, b⟩, ⟨c, d⟩⟩ ⟨⟨p, q⟩, ⟨r, t⟩⟩, allR.s⟩)] := (hdone 0 _ rfl rfl).2 _ rfl
     exact wpOp_val (v := .tuple #[.agg #[.int .u64 ((Rg.nar ⟨restU op ⟨⟨a, b⟩, ⟨c, d⟩⟩ ⟨⟨p, q⟩, ⟨r, t⟩⟩, allR.s⟩).u.lo), .int .u64 ((Rg.nar ⟨restU op ⟨⟨a, b⟩, ⟨c, d⟩⟩ ⟨⟨p, q⟩, ⟨r, t⟩⟩, allR.s⟩).u.hi), .int .i64 ((Rg.nar ⟨restU op ⟨⟨a, b⟩, ⟨c, d⟩⟩ ⟨⟨p, q⟩, ⟨r, t⟩⟩, allR.s⟩).s.lo), .int .i64 ((Rg.nar ⟨restU op ⟨⟨a, b⟩, ⟨c, d⟩⟩ ⟨⟨p, q⟩, ⟨r, t⟩⟩, allR.s⟩).s.hi)], .bool (Rg.narB ⟨restU op ⟨⟨a, b⟩, ⟨c, d⟩⟩ ⟨⟨p, q⟩, ⟨r, t⟩⟩, allR.s⟩)]) (w' := wx) rfl rfl (by (revert s67; generalize (.tuple #[.agg #[.int .u64 ((Rg.nar ⟨restU op ⟨⟨a, b⟩, ⟨c, d⟩⟩ ⟨⟨p, q⟩, ⟨r, t⟩⟩, allR.s⟩).u.lo), .int .u64 ((Rg.nar ⟨restU op ⟨⟨a, b⟩, ⟨c, d⟩⟩ ⟨⟨p, q⟩, ⟨r, t⟩⟩, allR.s⟩).u.hi), .int .i64 ((Rg.nar ⟨restU op ⟨⟨a, b⟩, ⟨c, d⟩⟩ ⟨⟨p, q⟩, ⟨r, t⟩⟩, allR.s⟩).s.lo), .int .i64 ((Rg.nar ⟨restU op ⟨⟨a, b⟩, ⟨c, d⟩⟩ ⟨⟨p, q⟩, ⟨r, t⟩⟩, allR.s⟩).s.hi)], .bool (Rg.narB ⟨restU op ⟨⟨a, b⟩, ⟨c, d⟩⟩ ⟨⟨p, q⟩, ⟨r, t⟩⟩, allR.s⟩)] : Value) = y0; intro s67); simp [execOp, Act.eval, s67]) ⟨_, rfl, tab_put rfl hs rfl rfl, hS.same 4 rfl⟩
    ·
     have s63 : ax.tmps.getD 63 undef = .tuple #[.agg #[.int .u64 ((Rg.nar ⟨restU op ⟨⟨a, b⟩, ⟨c, d⟩⟩ ⟨⟨p, q⟩, ⟨r, t⟩⟩, allR.s⟩).u.lo), .int .u64 ((Rg.nar ⟨restU op ⟨⟨a, b⟩, ⟨c, d⟩⟩ ⟨⟨p, q⟩, ⟨r, t⟩⟩, allR.s⟩).u.hi), .int .i64 ((Rg.nar ⟨restU op ⟨⟨a, b⟩, ⟨c, d⟩⟩ ⟨⟨p, q⟩, ⟨r, t⟩⟩, allR.s⟩).s.lo), .int .i64 ((Rg.nar ⟨restU op ⟨⟨a, b⟩, ⟨c, d⟩⟩ ⟨⟨p, q⟩, ⟨r, t⟩⟩, allR.s⟩).s.hi)], .bool (Rg.narB ⟨restU op ⟨⟨a, b⟩, ⟨c, d⟩⟩ ⟨⟨p, q⟩, ⟨r, t⟩⟩, allR.s⟩)] := (hdone 0 _ rfl rfl).2 _ rfl
     exact wpOp_val (v := .agg #[.int .u64 ((Rg.nar ⟨restU op ⟨⟨a, b⟩, ⟨c, d⟩⟩ ⟨⟨p, q⟩, ⟨r, t⟩⟩, allR.s⟩).u.lo), .int .u64 ((Rg.nar ⟨restU op ⟨⟨a, b⟩, ⟨c, d⟩⟩ ⟨⟨p, q⟩, ⟨r, t⟩⟩, allR.s⟩).u.hi), .int .i64 ((Rg.nar ⟨restU op ⟨⟨a, b⟩, ⟨c, d⟩⟩ ⟨⟨p, q⟩, ⟨r, t⟩⟩, allR.s⟩).s.lo), .int .i64 ((Rg.nar ⟨restU op ⟨⟨a, b⟩, ⟨c, d⟩⟩ ⟨⟨p, q⟩, ⟨r, t⟩⟩, allR.s⟩).s.hi)]) (w' := wx) rfl rfl (by simp [execOp, Act.eval, s63, go_sem]) ⟨_, rfl, tab_put rfl hs rfl rfl, hS.same 5 rfl⟩
    ·
     have s63 : ax.tmps.getD 63 undef = .tuple #[.agg #[.int .u64 ((Rg.nar ⟨restU op ⟨⟨a, b⟩, ⟨c, d⟩⟩ ⟨⟨p, q⟩, ⟨r, t⟩⟩, allR.s⟩).u.lo), .int .u64 ((Rg.nar ⟨restU op ⟨⟨a, b⟩, ⟨c, d⟩⟩ ⟨⟨p, q⟩, ⟨r, t⟩⟩, allR.s⟩).u.hi), .int .i64 ((Rg.nar ⟨restU op ⟨⟨a, b⟩, ⟨c, d⟩⟩ ⟨⟨p, q⟩, ⟨r, t⟩⟩, allR.s⟩).s.lo), .int .i64 ((Rg.nar ⟨restU op ⟨⟨a, b⟩, ⟨c, d⟩⟩ ⟨⟨p, q⟩, ⟨r, t⟩⟩, allR.s⟩).s.hi)], .bool (Rg.narB ⟨restU op ⟨⟨a, b⟩, ⟨c, d⟩⟩ ⟨⟨p, q⟩, ⟨r, t⟩⟩, allR.s⟩)] := (hdone 0 _ rfl rfl).2 _ rfl
     exact wpOp_val (v := .bool (Rg.narB ⟨restU op ⟨⟨a, b⟩, ⟨c, d⟩⟩ ⟨⟨p, q⟩, ⟨r, t⟩⟩, allR.s⟩)) (w' := wx) rfl rfl (by simp [execOp, Act.eval, s63, go_sem]) ⟨_, rfl, tab_put rfl hs rfl rfl, hS.same 6 rfl⟩
    ·
     refine wpOp_val (v := .pointer (some ⟨wx.heap.size, 0, none⟩)) (w' := wx.alloc (.cells #[.int .u64 0, .int .u64 0, .int .i64 0, .int .i64 0] 60)) rfl rfl ?_ ⟨_, rfl, trivial, hS.alloc 7 9 60 #[.int .u64 0, .int .u64 0, .int .i64 0, .int .i64 0] [] [] (some 8) #[.int .u64 ((Rg.nar ⟨restU op ⟨⟨a, b⟩, ⟨c, d⟩⟩ ⟨⟨p, q⟩, ⟨r, t⟩⟩, allR.s⟩).u.lo), .int .u64 ((Rg.nar ⟨restU op ⟨⟨a, b⟩, ⟨c, d⟩⟩ ⟨⟨p, q⟩, ⟨r, t⟩⟩, allR.s⟩).u.hi), .int .i64 ((Rg.nar ⟨restU op ⟨⟨a, b⟩, ⟨c, d⟩⟩ ⟨⟨p, q⟩, ⟨r, t⟩⟩, allR.s⟩).s.lo), .int .i64 ((Rg.nar ⟨restU op ⟨⟨a, b⟩, ⟨c, d⟩⟩ ⟨⟨p, q⟩, ⟨r, t⟩⟩, allR.s⟩).s.hi)] rfl rfl rfl (by rw [hs]; omega) (not_yet clo hfi (by kernel_rfl))⟩
     · simp [execOp, Act.eval, go_sem]
    ·
     have hd9 := (hdone 0 _ rfl rfl).1
     obtain ⟨g6, s9, n9, r9⟩ := SX.rowA hS [] [] 7 9 60 _ _ 8 rfl hd9 hfi
     have s9 : ax.tmps.getD 9 undef = .pointer (some ⟨g6, 0, none⟩) := s9
     have s68 : ax.tmps.getD 68 undef = .agg #[.int .u64 ((Rg.nar ⟨restU op ⟨⟨a, b⟩, ⟨c, d⟩⟩ ⟨⟨p, q⟩, ⟨r, t⟩⟩, allR.s⟩).u.lo), .int .u64 ((Rg.nar ⟨restU op ⟨⟨a, b⟩, ⟨c, d⟩⟩ ⟨⟨p, q⟩, ⟨r, t⟩⟩, allR.s⟩).u.hi), .int .i64 ((Rg.nar ⟨restU op ⟨⟨a, b⟩, ⟨c, d⟩⟩ ⟨⟨p, q⟩, ⟨r, t⟩⟩, allR.s⟩).s.lo), .int .i64 ((Rg.nar ⟨restU op ⟨⟨a, b⟩, ⟨c, d⟩⟩ ⟨⟨p, q⟩, ⟨r, t⟩⟩, allR.s⟩).s.hi)] := (hdone 1 _ rfl rfl).2 _ rfl
     have hr : wx.heap[g6]? = some (.cells #[.int .u64 0, .int .u64 0, .int .i64 0, .int .i64 0] 60 (0, 0)) := r9
     exact wpOp_skp (w' := wx.setRow g6 #[.int .u64 ((Rg.nar ⟨restU op ⟨⟨a, b⟩, ⟨c, d⟩⟩ ⟨⟨p, q⟩, ⟨r, t⟩⟩, allR.s⟩).u.lo), .int .u64 ((Rg.nar ⟨restU op ⟨⟨a, b⟩, ⟨c, d⟩⟩ ⟨⟨p, q⟩, ⟨r, t⟩⟩, allR.s⟩).u.hi), .int .i64 ((Rg.nar ⟨restU op ⟨⟨a, b⟩, ⟨c, d⟩⟩ ⟨⟨p, q⟩, ⟨r, t⟩⟩, allR.s⟩).s.lo), .int .i64 ((Rg.nar ⟨restU op ⟨⟨a, b⟩, ⟨c, d⟩⟩ ⟨⟨p, q⟩, ⟨r, t⟩⟩, allR.s⟩).s.hi)]) rfl rfl (exec_storeR 60 _ _ rfl g6 #[.int .u64 ((Rg.nar ⟨restU op ⟨⟨a, b⟩, ⟨c, d⟩⟩ ⟨⟨p, q⟩, ⟨r, t⟩⟩, allR.s⟩).u.lo), .int .u64 ((Rg.nar ⟨restU op ⟨⟨a, b⟩, ⟨c, d⟩⟩ ⟨⟨p, q⟩, ⟨r, t⟩⟩, allR.s⟩).u.hi), .int .i64 ((Rg.nar ⟨restU op ⟨⟨a, b⟩, ⟨c, d⟩⟩ ⟨⟨p, q⟩, ⟨r, t⟩⟩, allR.s⟩).s.lo), .int .i64 ((Rg.nar ⟨restU op ⟨⟨a, b⟩, ⟨c, d⟩⟩ ⟨⟨p, q⟩, ⟨r, t⟩⟩, allR.s⟩).s.hi)] (show ax.eval (.tmp 9) = .pointer (some ⟨g6, 0, none⟩) from s9) (show ax.eval (.tmp 68) = .agg #[.int .u64 ((Rg.nar ⟨restU op ⟨⟨a, b⟩, ⟨c, d⟩⟩ ⟨⟨p, q⟩, ⟨r, t⟩⟩, allR.s⟩).u.lo), .int .u64 ((Rg.nar ⟨restU op ⟨⟨a, b⟩, ⟨c, d⟩⟩ ⟨⟨p, q⟩, ⟨r, t⟩⟩, allR.s⟩).u.hi), .int .i64 ((Rg.nar ⟨restU op ⟨⟨a, b⟩, ⟨c, d⟩⟩ ⟨⟨p, q⟩, ⟨r, t⟩⟩, allR.s⟩).s.lo), .int .i64 ((Rg.nar ⟨restU op ⟨⟨a, b⟩, ⟨c, d⟩⟩ ⟨⟨p, q⟩, ⟨r, t⟩⟩, allR.s⟩).s.hi)] from s68) hr (by kernel_rfl) rfl (by simp [Value.oneCell'])) ⟨undef, rfl, trivial, hS.storeA 8 7 9 60 #[.int .u64 0, .int .u64 0, .int .i64 0, .int .i64 0] #[.int .u64 ((Rg.nar ⟨restU op ⟨⟨a, b⟩, ⟨c, d⟩⟩ ⟨⟨p, q⟩, ⟨r, t⟩⟩, allR.s⟩).u.lo), .int .u64 ((Rg.nar ⟨restU op ⟨⟨a, b⟩, ⟨c, d⟩⟩ ⟨⟨p, q⟩, ⟨r, t⟩⟩, allR.s⟩).u.hi), .int .i64 ((Rg.nar ⟨restU op ⟨⟨a, b⟩, ⟨c, d⟩⟩ ⟨⟨p, q⟩, ⟨r, t⟩⟩, allR.s⟩).s.lo), .int .i64 ((Rg.nar ⟨restU op ⟨⟨a, b⟩, ⟨c, d⟩⟩ ⟨⟨p, q⟩, ⟨r, t⟩⟩, allR.s⟩).s.hi)] [] [] rfl B8.size hd9 g6 s9 (by decide) rfl (stored_setRow wx g6 _ _ _ hr)⟩
    ·
     have s69 : ax.tmps.getD 69 undef = .bool (Rg.narB ⟨restU op ⟨⟨a, b⟩, ⟨c, d⟩⟩ ⟨⟨p, q⟩, ⟨r, t⟩⟩, allR.s⟩) := (hdone 0 _ rfl rfl).2 _ rfl
     exact wpOp_val (v := .bool (Rg.narB ⟨restU op ⟨⟨a, b⟩, ⟨c, d⟩⟩ ⟨⟨p, q⟩, ⟨r, t⟩⟩, allR.s⟩)) (w' := wx) rfl rfl (by (revert s69; generalize (.bool (Rg.narB ⟨restU op ⟨⟨a, b⟩, ⟨c, d⟩⟩ ⟨⟨p, q⟩, ⟨r, t⟩⟩, allR.s⟩) : Value) = y0; intro s69); simp [execOp, Act.eval, s69]) ⟨_, rfl, tab_put rfl hs rfl rfl, hS.same 9 rfl⟩
  intro a9 w9 fl d9 z9 rest9 R9 hfl hS
  obtain ⟨B9, n9, hBs, hAs, hPs⟩ := hS.finish hfl rfl
  replace d9 := d9.trans d8
  replace z9 := z9.trans z8
  obtain ⟨⟨-, b_g1_9⟩, ⟨-, b_g2_9⟩, ⟨-, b_g3_9⟩, ⟨-, b_g4_9⟩, ⟨-, b_g5_9⟩, -⟩ := hBs
  obtain ⟨⟨g6, u_g6, q_g6, b_g6_9⟩, -⟩ := hAs
  replace u_g6 : a9.tmps.getD 9 undef = .pointer (some ⟨g6, 0, none⟩) := u_g6
  have m_g6 : w8.heap.size ≤ g6 := q_g6
  replace q_g6 : W.heap.size ≤ g6 := Nat.le_trans B8.size q_g6
  have s6_9 := (rest9 6 (not_of (by kernel_rfl))).trans s6_8
  clear R9 rest9 hS hfl hPs
  clear s6_8 s7_8 s8_8 b_g1_8 b_g2_8 b_g3_8 b_g4_8 b_g5_8 d8 z8
  refine wp_seq ?_
  refine wp_regx (SX W w9.heap.size [⟨g1, 60, (cR a b c d), none, #[]⟩, ⟨g2, 60, (cR p q r t), none, #[]⟩, ⟨g3, 60, (cR 0 0 0 0), some 1, (cR ((Rg.nar ⟨restU op ⟨⟨a, b⟩, ⟨c, d⟩⟩ ⟨⟨p, q⟩, ⟨r, t⟩⟩, allR.s⟩).u.lo) ((Rg.nar ⟨restU op ⟨⟨a, b⟩, ⟨c, d⟩⟩ ⟨⟨p, q⟩, ⟨r, t⟩⟩, allR.s⟩).u.hi) ((Rg.nar ⟨restU op ⟨⟨a, b⟩, ⟨c, d⟩⟩ ⟨⟨p, q⟩, ⟨r, t⟩⟩, allR.s⟩).s.lo) ((Rg.nar ⟨restU op ⟨⟨a, b⟩, ⟨c, d⟩⟩ ⟨⟨p, q⟩, ⟨r, t⟩⟩, allR.s⟩).s.hi))⟩, ⟨g4, 95, (cU ((restU op ⟨⟨a, b⟩, ⟨c, d⟩⟩ ⟨⟨p, q⟩, ⟨r, t⟩⟩).lo) ((restU op ⟨⟨a, b⟩, ⟨c, d⟩⟩ ⟨⟨p, q⟩, ⟨r, t⟩⟩).hi)), none, #[]⟩, ⟨g5, 99, (cS allR.s.lo allR.s.hi), none, #[]⟩, ⟨g6, 60, (cR ((Rg.nar ⟨restU op ⟨⟨a, b⟩, ⟨c, d⟩⟩ ⟨⟨p, q⟩, ⟨r, t⟩⟩, allR.s⟩).u.lo) ((Rg.nar ⟨restU op ⟨⟨a, b⟩, ⟨c, d⟩⟩ ⟨⟨p, q⟩, ⟨r, t⟩⟩, allR.s⟩).u.hi) ((Rg.nar ⟨restU op ⟨⟨a, b⟩, ⟨c, d⟩⟩ ⟨⟨p, q⟩, ⟨r, t⟩⟩, allR.s⟩).s.lo) ((Rg.nar ⟨restU op ⟨⟨a, b⟩, ⟨c, d⟩⟩ ⟨⟨p, q⟩, ⟨r, t⟩⟩, allR.s⟩).s.hi)), none, #[]⟩] []) (TabX [fun vx => vx = .agg #[.int .u64 ((Rg.nar ⟨restU op ⟨⟨a, b⟩, ⟨c, d⟩⟩ ⟨⟨p, q⟩, ⟨r, t⟩⟩, allR.s⟩).u.lo), .int .u64 ((Rg.nar ⟨restU op ⟨⟨a, b⟩, ⟨c, d⟩⟩ ⟨⟨p, q⟩, ⟨r, t⟩⟩, allR.s⟩).u.hi), .int .i64 ((Rg.nar ⟨restU op ⟨⟨a, b⟩, ⟨c, d⟩⟩ ⟨⟨p, q⟩, ⟨r, t⟩⟩, allR.s⟩).s.lo), .int .i64 ((Rg.nar ⟨restU op ⟨⟨a, b⟩, ⟨c, d⟩⟩ ⟨⟨p, q⟩, ⟨r, t⟩⟩, allR.s⟩).s.hi)], fun _ => True]) (by kernel_rfl) (back_of (by kernel_rfl)) (dst_of (by kernel_rfl)) (in_ofz (by kernel_rfl) z9) (fun fl w1 hfl hw => SX.start' hw B9 hfl rfl ⟨b_g1_9, b_g2_9, b_g3_9, b_g4_9, b_g5_9, b_g6_9, trivial⟩) ?h26 ?_
  case h26 =>
    intro ix ox ax wx fl ho hS hfi clo hsz hrest hdone hund
    have t6 := (hrest 6 (not_of (by kernel_rfl))).trans s6_9
    have t9 := (hrest 9 (not_of (by kernel_rfl))).trans u_g6
    have hs : ax.tmps.size = 71 := hsz.trans z9
    have hi : ix < 2 := (Array.getElem?_eq_some_iff.1 ho).1
    clear hrest hsz hund
    obtain rfl | rfl : ix = 0 ∨ ix = 1 := by omega
    all_goals obtain rfl := Option.some.inj (show some _ = some ox from ho)
    ·
     have hr := hS.rowNi 5 rfl
     exact wpOp_val (v := .agg #[.int .u64 ((Rg.nar ⟨restU op ⟨⟨a, b⟩, ⟨c, d⟩⟩ ⟨⟨p, q⟩, ⟨r, t⟩⟩, allR.s⟩).u.lo), .int .u64 ((Rg.nar ⟨restU op ⟨⟨a, b⟩, ⟨c, d⟩⟩ ⟨⟨p, q⟩, ⟨r, t⟩⟩, allR.s⟩).u.hi), .int .i64 ((Rg.nar ⟨restU op ⟨⟨a, b⟩, ⟨c, d⟩⟩ ⟨⟨p, q⟩, ⟨r, t⟩⟩, allR.s⟩).s.lo), .int .i64 ((Rg.nar ⟨restU op ⟨⟨a, b⟩, ⟨c, d⟩⟩ ⟨⟨p, q⟩, ⟨r, t⟩⟩, allR.s⟩).s.hi)]) (w' := wx) rfl rfl (exec_loadR 60 _ rfl g6 0 (show ax.eval (.tmp 9) = .pointer (some ⟨g6, 0, none⟩) from t9) hr [.int .u64 ((Rg.nar ⟨restU op ⟨⟨a, b⟩, ⟨c, d⟩⟩ ⟨⟨p, q⟩, ⟨r, t⟩⟩, allR.s⟩).u.lo), .int .u64 ((Rg.nar ⟨restU op ⟨⟨a, b⟩, ⟨c, d⟩⟩ ⟨⟨p, q⟩, ⟨r, t⟩⟩, allR.s⟩).u.hi), .int .i64 ((Rg.nar ⟨restU op ⟨⟨a, b⟩, ⟨c, d⟩⟩ ⟨⟨p, q⟩, ⟨r, t⟩⟩, allR.s⟩).s.lo), .int .i64 ((Rg.nar ⟨restU op ⟨⟨a, b⟩, ⟨c, d⟩⟩ ⟨⟨p, q⟩, ⟨r, t⟩⟩, allR.s⟩).s.hi)] rfl _ Try.underlying60 rfl (by kernel_rfl)) ⟨_, rfl, tab_put rfl hs rfl rfl, hS.same 0 rfl⟩
    ·
     have s70 : ax.tmps.getD 70 undef = .agg #[.int .u64 ((Rg.nar ⟨restU op ⟨⟨a, b⟩, ⟨c, d⟩⟩ ⟨⟨p, q⟩, ⟨r, t⟩⟩, allR.s⟩).u.lo), .int .u64 ((Rg.nar ⟨restU op ⟨⟨a, b⟩, ⟨c, d⟩⟩ ⟨⟨p, q⟩, ⟨r, t⟩⟩, allR.s⟩).u.hi), .int .i64 ((Rg.nar ⟨restU op ⟨⟨a, b⟩, ⟨c, d⟩⟩ ⟨⟨p, q⟩, ⟨r, t⟩⟩, allR.s⟩).s.lo), .int .i64 ((Rg.nar ⟨restU op ⟨⟨a, b⟩, ⟨c, d⟩⟩ ⟨⟨p, q⟩, ⟨r, t⟩⟩, allR.s⟩).s.hi)] := (hdone 0 _ rfl rfl).2 _ rfl
     have hr := hS.rowFi 2 rfl hfi
     exact wpOp_skp (w' := wx.setRow g3 #[.int .u64 ((Rg.nar ⟨restU op ⟨⟨a, b⟩, ⟨c, d⟩⟩ ⟨⟨p, q⟩, ⟨r, t⟩⟩, allR.s⟩).u.lo), .int .u64 ((Rg.nar ⟨restU op ⟨⟨a, b⟩, ⟨c, d⟩⟩ ⟨⟨p, q⟩, ⟨r, t⟩⟩, allR.s⟩).u.hi), .int .i64 ((Rg.nar ⟨restU op ⟨⟨a, b⟩, ⟨c, d⟩⟩ ⟨⟨p, q⟩, ⟨r, t⟩⟩, allR.s⟩).s.lo), .int .i64 ((Rg.nar ⟨restU op ⟨⟨a, b⟩, ⟨c, d⟩⟩ ⟨⟨p, q⟩, ⟨r, t⟩⟩, allR.s⟩).s.hi)]) rfl rfl (exec_storeR 60 _ _ rfl g3 #[.int .u64 ((Rg.nar ⟨restU op ⟨⟨a, b⟩, ⟨c, d⟩⟩ ⟨⟨p, q⟩, ⟨r, t⟩⟩, allR.s⟩).u.lo), .int .u64 ((Rg.nar ⟨restU op ⟨⟨a, b⟩, ⟨c, d⟩⟩ ⟨⟨p, q⟩, ⟨r, t⟩⟩, allR.s⟩).u.hi), .int .i64 ((Rg.nar ⟨restU op ⟨⟨a, b⟩, ⟨c, d⟩⟩ ⟨⟨p, q⟩, ⟨r, t⟩⟩, allR.s⟩).s.lo), .int .i64 ((Rg.nar ⟨restU op ⟨⟨a, b⟩, ⟨c, d⟩⟩ ⟨⟨p, q⟩, ⟨r, t⟩⟩, allR.s⟩).s.hi)] (show ax.eval (.tmp 6) = .pointer (some ⟨g3, 0, none⟩) from t6) (show ax.eval (.tmp 70) = .agg #[.int .u64 ((Rg.nar ⟨restU op ⟨⟨a, b⟩, ⟨c, d⟩⟩ ⟨⟨p, q⟩, ⟨r, t⟩⟩, allR.s⟩).u.lo), .int .u64 ((Rg.nar ⟨restU op ⟨⟨a, b⟩, ⟨c, d⟩⟩ ⟨⟨p, q⟩, ⟨r, t⟩⟩, allR.s⟩).u.hi), .int .i64 ((Rg.nar ⟨restU op ⟨⟨a, b⟩, ⟨c, d⟩⟩ ⟨⟨p, q⟩, ⟨r, t⟩⟩, allR.s⟩).s.lo), .int .i64 ((Rg.nar ⟨restU op ⟨⟨a, b⟩, ⟨c, d⟩⟩ ⟨⟨p, q⟩, ⟨r, t⟩⟩, allR.s⟩).s.hi)] from s70) hr (by kernel_rfl) rfl (by simp [Value.oneCell'])) ⟨undef, rfl, trivial, hS.storeBi 1 2 rfl q_g3 rfl ⟨(show g1 ≠ g3 by omega), (show g2 ≠ g3 by omega), (show g4 ≠ g3 by omega), (show g5 ≠ g3 by omega), (show g6 ≠ g3 by omega), trivial⟩ (stored_setRow wx g3 _ _ _ hr)⟩
  intro a10 w10 fl d10 z10 rest10 R10 hfl hS
  obtain ⟨B10, n10, hBs, hAs, hPs⟩ := hS.finish hfl rfl
  replace d10 := d10.trans d9
  replace z10 := z10.trans z9
  obtain ⟨⟨-, b_g1_10⟩, ⟨-, b_g2_10⟩, ⟨-, b_g3_10⟩, ⟨-, b_g4_10⟩, ⟨-, b_g5_10⟩, ⟨l_g6_10, b_g6_10⟩, -⟩ := hBs
  replace l_g6_10 : g6 < w9.heap.size := l_g6_10
  have s6_10 := (rest10 6 (not_of (by kernel_rfl))).trans s6_9
  clear R10 rest10 hS hfl hPs hAs
  clear u_g6 s6_9 b_g1_9 b_g2_9 b_g3_9 b_g4_9 b_g5_9 b_g6_9 d9 z9
  refine wp_ret ?_
  try simp only [Exit.inBlock, Exit.then]
  refine bodyPost_ret (res_c (fn := Try.f42) rfl s6_10 (load_row 60 b_g3_10 Try.underlying60 rfl (by kernel_rfl))) d10 ?_
  have no11 := nb Ffk3.out
  have no0 := nb Ffk4.out
  have no1 := nb Ffk5.out
  have HD : (⟨doU op ⟨⟨a, b⟩, ⟨c, d⟩⟩ ⟨⟨p, q⟩, ⟨r, t⟩⟩, doS op ⟨⟨a, b⟩, ⟨c, d⟩⟩ ⟨⟨p, q⟩, ⟨r, t⟩⟩⟩ : Rg) = ⟨restU op ⟨⟨a, b⟩, ⟨c, d⟩⟩ ⟨⟨p, q⟩, ⟨r, t⟩⟩, allR.s⟩ := by
    unfold doU doS
    simp only [if_neg no11, if_neg no0, if_neg no1]
    try rfl
  have HE : (.agg #[.int .u64 ((Rg.nar ⟨restU op ⟨⟨a, b⟩, ⟨c, d⟩⟩ ⟨⟨p, q⟩, ⟨r, t⟩⟩, allR.s⟩).u.lo), .int .u64 ((Rg.nar ⟨restU op ⟨⟨a, b⟩, ⟨c, d⟩⟩ ⟨⟨p, q⟩, ⟨r, t⟩⟩, allR.s⟩).u.hi), .int .i64 ((Rg.nar ⟨restU op ⟨⟨a, b⟩, ⟨c, d⟩⟩ ⟨⟨p, q⟩, ⟨r, t⟩⟩, allR.s⟩).s.lo), .int .i64 ((Rg.nar ⟨restU op ⟨⟨a, b⟩, ⟨c, d⟩⟩ ⟨⟨p, q⟩, ⟨r, t⟩⟩, allR.s⟩).s.hi)] : Value) = Rg.val (Rg.doR op ⟨⟨a, b⟩, ⟨c, d⟩⟩ ⟨⟨p, q⟩, ⟨r, t⟩⟩) := by unfold Rg.doR; rw [Ffk1.out, Ffk2.out, if_pos (by rfl), HD]; try rfl
  exact ⟨retV HE, B10⟩
end Go.Proofs.Ytfededcmelhjjaa.Bnd
